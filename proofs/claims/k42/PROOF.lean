import PyProof.Rows.All
import Wide.All
import OpenK.AllK
import Wide.FinOn
import HandS.ForMost
import HandS.Lambda
import HandS.EndTab
import HandS.IsInst
import HandS.DictComp
import HandS.DeepEq
import HandS.More
import HandS.Wide
import HandS.RaiseMore
import KE.DatumOrd
import HandS.SortKw
import PyProof.ReprRoads
import HandS.OwnEq
import OpenK.KMeth
import KE.KCallOwn
import KE.SortKeyHeap
import HandS.ListItems
import HandS.ListEq
import KE.SortData
import KE.KDictDisplayH
import HandS.Style
import KE.GoesMore
import KE.GoesEnum
import HandS.Walk
import HandS.TupAny
import HandS.Conv
import HandS.Codes
import PySem.Challenge.RW_twopatches_k42_patches_that_come_again
set_option Elab.async false
set_option linter.all false
set_option maxRecDepth 100000
set_option maxHeartbeats 4000000
namespace TP
open PySem L2
/-! ### what stays -/
def isTbl : HO → Bool
  | .tbl _ => true
  | _ => false
/-- neither a table nor told by a property -/
def isPl : HO → Bool
  | .tbl _ => false
  | .ext _ => false
  | _ => true
/-- which lambdas a code table may hold -/
class TabL where
  R : Addr → Str → Prop
  one : ∀ P q q', R P q → R P q' → q = q'
/-- all that H knows stays; the tables may grow -/
structure Ex [TabL] (H H' : Hp) : Prop where
  go : ∀ a o, H a = some o → isTbl o = false → H' a = some o
  ne : ∀ a, H a ≠ none → H' a ≠ none
  tab : ∀ a q, TabL.R a q → LamX.TabS H a q → LamX.TabS H' a q
/-- no table -/
class NT (o : HO) : Prop where
  h : isTbl o = false
instance {xs} : NT (.lst xs) := ⟨rfl⟩
instance {xs} : NT (.tup xs) := ⟨rfl⟩
instance {kvs} : NT (.dK kvs) := ⟨rfl⟩
instance {C dx fs} : NT (.ins C dx fs) := ⟨rfl⟩
instance {a} : NT (.own a) := ⟨rfl⟩
instance {o u} : NT (.frz o u) := ⟨rfl⟩
instance {φ} : NT (.ext φ) := ⟨rfl⟩
instance {fs} : NT (.xd fs) := ⟨rfl⟩
theorem Ex.at' [TabL] {H H' : Hp} (e : Ex H H') (a : Addr) (o : HO) [z : NT o] (h : H a = some o) : H' a = some o := e.go a o h z.h
instance [TabL] {H H' : Hp} : CoeFun (Ex H H') fun _ => ∀ (a : Addr) (o : HO) [NT o], H a = some o → H' a = some o := ⟨Ex.at'⟩
theorem Ex.refl [TabL] (H : Hp) : Ex H H := ⟨fun _ _ h _ => h, fun _ h => h, fun _ _ _ h => h⟩
theorem Ex.trans [TabL] {H H1 H2 : Hp} (x : Ex H H1) (y : Ex H1 H2) : Ex H H2 := ⟨fun a o h z => y.go a o (x.go a o h z) z, fun a h => y.ne a (x.ne a h), fun a q r h => y.tab a q r (x.tab a q r h)⟩
/-- what is written is no part of a table -/
theorem tab_upd {H : Hp} {P : Addr} {q : Str} {p : Addr} {o : HO} (h : LamX.TabS H P q) (hp : ∀ u, H p = some u → isPl u = true) : LamX.TabS (upd H p o) P q := by
  obtain ⟨ps, h1, h2, h3⟩ := h
  refine ⟨ps, by rw [upd_ne (fun z => by rw [z] at h1; exact nomatch hp _ h1)]; exact h1, h2, fun pos cv hc => ?_⟩
  obtain ⟨c, e1, e2⟩ := h3 pos cv hc
  exact ⟨c, e1, by rw [upd_ne (fun z => by rw [z] at e2; exact nomatch hp _ e2)]; exact e2⟩
theorem Ex.new [TabL] {H : Hp} {p : Addr} {o : HO} (h : H p = none) : Ex H (upd H p o) :=
  ⟨fun a u e _ => by rw [upd_ne (ne_of_none e h)]; exact e, fun a e => by rw [upd_ne (fun z => e (by rw [z]; exact h))]; exact e, fun a q _ t => tab_upd t fun u e => by rw [h] at e; cases e⟩
theorem fresh_back [TabL] {H H' : Hp} {p : Addr} (e : Ex H H') (h : H' p = none) : H p = none := by
  cases z : H p with
  | none => rfl
  | some o => exact absurd h (e.ne p (by rw [z]; exact fun y => nomatch y))
/-- what H does not know may change -/
theorem Ex.mut [TabL] {H H' : Hp} {p : Addr} {o u : HO} (e : Ex H H') (h : H p = none) (hu : H' p = some u) (pl : isPl u = true := by rfl) : Ex H (upd H' p o) :=
  ⟨fun a w ha z => by rw [upd_ne (ne_of_none ha h)]; exact e.go a w ha z, fun a ha => by rw [upd_ne (fun z => ha (by rw [z]; exact h))]; exact e.ne a ha, fun a q r t => tab_upd (e.tab a q r t) fun w hw => by rw [hu] at hw; cases hw; exact pl⟩
theorem ex_rd [TabL] {H H' : Hp} {a : Addr} {u : HO} (e : Ex H H') (h : Rd H a u) (z : isTbl u = false := by rfl) : Rd H' a u := h.imp (fun h => e.go a _ h z) fun ⟨o, h⟩ => ⟨o, e.go a _ h rfl⟩
/-! ### documents, as mathematics -/
inductive D where
  | nil
  | sc (v : V)
  | ls (xs : List V)
  | ob (f : Str → D)
def D.tgt : D → Str → D
  | .ob f => f
  | _ => fun _ => .nil
def D.isNil : D → Bool
  | .nil => true
  | _ => false
def D.isNon : D → Bool
  | .sc .non => true
  | _ => false
/-- the document after a patch -/
def D.app (d : D) : D → D
  | .ob g => .ob fun k => if (g k).isNil then d.tgt k else if (g k).isNon then .nil else D.app (d.tgt k) (g k)
  | p => p
theorem app_ob (d : D) (g : Str → D) : D.app d (.ob g) = .ob fun k => if (g k).isNil then d.tgt k else if (g k).isNon then .nil else D.app (d.tgt k) (g k) := rfl
def D.fup (f : Str → D) (k : Str) (e : D) : Str → D := fun j => if j = k then e else f j

/-- None, an int, a text -/
def isSc : V → Bool
  | .non => true
  | .int _ => true
  | .str _ => true
  | _ => false
abbrev inK (p : Str × V) : Key × V := (Sum.inr p.1, p.2)
abbrev kvsOf (ms : List (Str × V)) : List (Key × V) := ms.map inK

theorem valV_inK (ms : List (Str × V)) (k : Str) : valV (kvsOf ms) (Sum.inr k) = valV ms k := by
  induction ms with
  | nil => rfl
  | cons p r ih =>
    show valV (inK p :: kvsOf r) _ = _
    by_cases e : p.1 = k
    · rw [valV_pos (p := inK p) (show Sum.inr p.1 = Sum.inr k by rw [e]), valV_pos e]
    · rw [valV_neg (p := inK p) (fun z => e (Sum.inr.inj z)), valV_neg e, ih]
theorem putK_inK (ms : List (Str × V)) (k : Str) (v : V) : putK (kvsOf ms) (Sum.inr k) v = kvsOf (putK ms k v) := by
  unfold putK
  have e : ((kvsOf ms).any fun kv => decide (kv.1 = (Sum.inr k : Key))) = (ms.any fun kv => decide (kv.1 = k)) := by
    rw [List.any_map]
    congr 1
    funext p
    by_cases h : p.1 = k
    · simp [h]
    · have h2 : ¬ (Sum.inr p.1 : Key) = Sum.inr k := fun z => h (Sum.inr.inj z)
      simp [h]
  rw [e]
  split
  · show _ = List.map inK (List.map _ ms)
    rw [List.map_map, List.map_map]
    congr 1
    funext p
    by_cases h : p.1 = k
    · simp [h]
    · simp [h]
  · show _ = List.map inK (ms ++ [(k, v)])
    rw [List.map_append]
    rfl
theorem keys_inK (ms : List (Str × V)) : (kvsOf ms).map (fun kv => kV kv.1) = ms.map fun p => V.str p.1 := by
  rw [List.map_map]
  rfl
theorem keys_put (ms : List (Str × V)) (k : Str) (v : V) : ∀ j, j ∈ (putK ms k v).map (·.1) ↔ j = k ∨ j ∈ ms.map (·.1) := by
  intro j
  unfold putK
  split
  · rename_i h
    have e : (ms.map fun kv => if kv.1 = k then (kv.1, v) else kv).map (·.1) = ms.map (·.1) := by
      rw [List.map_map]
      congr 1
      funext p
      by_cases h : p.1 = k <;> simp [h]
    rw [e]
    constructor
    · exact Or.inr
    · rintro (h1 | h1)
      · subst h1
        rw [List.any_eq_true] at h
        obtain ⟨p, hp, hd⟩ := h
        exact List.mem_map.mpr ⟨p, hp, of_decide_eq_true hd⟩
      · exact h1
  · rw [List.map_append]
    simp [or_comm]
theorem nodup_put {ms : List (Str × V)} (k : Str) (v : V) (h : (ms.map (·.1)).Nodup) : ((putK ms k v).map (·.1)).Nodup := by
  unfold putK
  split
  · have e : (ms.map fun kv => if kv.1 = k then (kv.1, v) else kv).map (·.1) = ms.map (·.1) := by
      rw [List.map_map]
      congr 1
      funext p
      by_cases h : p.1 = k <;> simp [h]
    rw [e]
    exact h
  · rename_i hn
    rw [List.map_append, List.nodup_append]
    refine ⟨h, by simp, ?_⟩
    intro a ha b hb e
    simp at hb
    subst hb
    subst e
    apply hn
    obtain ⟨p, hp, hd⟩ := List.mem_map.mp ha
    exact List.any_eq_true.mpr ⟨p, hp, by simp [hd]⟩
theorem valV_mem {ms : List (Str × V)} {k : Str} {u : V} (h : valV ms k = some u) : (k, u) ∈ ms := by
  unfold valV at h
  obtain ⟨p, hp, e⟩ := Option.map_eq_some_iff.mp h
  have h1 := List.mem_of_find?_eq_some hp
  have h2 := List.find?_some hp
  have h3 : p.1 = k := of_decide_eq_true h2
  obtain ⟨a, b⟩ := p
  simp at e h3
  subst e
  subst h3
  exact h1
theorem valV_of_mem {ms : List (Str × V)} {k : Str} {u : V} (nd : (ms.map (·.1)).Nodup) (h : (k, u) ∈ ms) : valV ms k = some u := by
  induction ms with
  | nil => cases h
  | cons p r ih =>
    rw [List.map_cons, List.nodup_cons] at nd
    by_cases e : p.1 = k
    · rw [valV_pos e]
      rcases List.mem_cons.mp h with h | h
      · rw [← h]
      · exact absurd (List.mem_map.mpr ⟨(k, u), h, e.symm⟩) nd.1
    · rw [valV_neg e]
      rcases List.mem_cons.mp h with h | h
      · exact absurd (by rw [← h]) e
      · exact ih nd.2 h
theorem valV_none_of {ms : List (Str × V)} {k : Str} (h : k ∉ ms.map (·.1)) : valV ms k = none := by
  cases e : valV ms k with
  | none => rfl
  | some u => exact absurd (List.mem_map.mpr ⟨(k, u), valV_mem e, rfl⟩) h
theorem valV_some_of {ms : List (Str × V)} {k : Str} (h : k ∈ ms.map (·.1)) : ∃ u, valV ms k = some u := by
  cases e : valV ms k with
  | some u => exact ⟨u, rfl⟩
  | none =>
    obtain ⟨p, hp, e2⟩ := List.mem_map.mp h
    have := valV_any k ms
    rw [e] at this
    simp at this
    exact absurd e2 (this _ _ hp)
theorem sub_len : ∀ {xs ys : List Str}, xs.Nodup → (∀ x ∈ xs, x ∈ ys) → xs.length ≤ ys.length
  | [], _, _, _ => Nat.zero_le _
  | x :: xs, ys, nd, h => by
    rw [List.nodup_cons] at nd
    have hx := h x List.mem_cons_self
    have h2 : ∀ z ∈ xs, z ∈ ys.erase x := fun z hz => (List.mem_erase_of_ne (fun e => nd.1 (by rw [← e]; exact hz))).mpr (h z (List.mem_cons_of_mem _ hz))
    have h3 := sub_len nd.2 h2
    have h4 := List.length_erase_of_mem hx
    have h5 : 0 < ys.length := List.length_pos_of_mem hx
    rw [List.length_cons]
    omega

/-! ### documents in the heap -/
/-- what may stand in a document: its keys, its scalars, how long its lists are -/
structure Gen where
  KS : List Str
  C : V → Bool
  L : Nat
  sc : ∀ v, C v = true → isSc v = true
/-- S: where its objects lie; G: the keys that may stand in it; n: levels -/
def Dc (S : Addr → Prop) (G : Gen) (H : Hp) : Nat → V → D → Prop
  | 0, _, _ => False
  | n + 1, v, d => (G.C v = true ∧ d = .sc v) ∨ (∃ a xs, v = .ref a ∧ S a ∧ H a = some (.lst xs) ∧ (xs.length ≤ G.L ∧ ∀ x ∈ xs, G.C x = true) ∧ d = .ls xs) ∨
    ∃ a ms f, v = .ref a ∧ S a ∧ H a = some (.dK (kvsOf ms)) ∧ (ms.map (·.1)).Nodup ∧ (∀ k ∈ ms.map (·.1), k ∈ G.KS) ∧ d = .ob f ∧ (∀ k, valV ms k = none → f k = .nil) ∧ ∀ k u, valV ms k = some u → Dc S G H n u (f k)
/-- the members ms stand for f -/
structure Mem (S : Addr → Prop) (G : Gen) (H : Hp) (n : Nat) (ms : List (Str × V)) (f : Str → D) : Prop where
  nd : (ms.map (·.1)).Nodup
  ks : ∀ k ∈ ms.map (·.1), k ∈ G.KS
  no : ∀ k, valV ms k = none → f k = .nil
  at' : ∀ k u, valV ms k = some u → Dc S G H n u (f k)
theorem Dc.sc {S G H n v} (h : G.C v = true) : Dc S G H (n + 1) v (.sc v) := .inl ⟨h, rfl⟩
theorem Dc.ls {S : Addr → Prop} {G H n a xs} (hS : S a) (h : H a = some (.lst xs)) (hx : xs.length ≤ G.L ∧ ∀ x ∈ xs, G.C x = true) : Dc S G H (n + 1) (.ref a) (.ls xs) := .inr (.inl ⟨a, xs, rfl, hS, h, hx, rfl⟩)
theorem Dc.ob {S : Addr → Prop} {G H n a ms f} (hS : S a) (h : H a = some (.dK (kvsOf ms))) (m : Mem S G H n ms f) : Dc S G H (n + 1) (.ref a) (.ob f) :=
  .inr (.inr ⟨a, ms, f, rfl, hS, h, m.nd, m.ks, rfl, m.no, m.at'⟩)
/-- the three ways -/
theorem Dc.cases {S G H n v d} {P : Prop} (h : Dc S G H n v d) (h1 : ∀ m, n = m + 1 → G.C v = true → d = .sc v → P)
    (h2 : ∀ m a xs, n = m + 1 → v = .ref a → S a → H a = some (.lst xs) → (xs.length ≤ G.L ∧ ∀ x ∈ xs, G.C x = true) → d = .ls xs → P)
    (h3 : ∀ m a ms f, n = m + 1 → v = .ref a → S a → H a = some (.dK (kvsOf ms)) → Mem S G H m ms f → d = .ob f → P) : P := by
  cases n with
  | zero => exact (show False from h).elim
  | succ m =>
    rcases h with ⟨a, b⟩ | ⟨a, xs, e, s, r, x, d⟩ | ⟨a, ms, f, e, s, r, nd, ks, d, no, at'⟩
    · exact h1 m rfl a b
    · exact h2 m a xs rfl e s r x d
    · exact h3 m a ms f rfl e s r ⟨nd, ks, no, at'⟩ d
theorem Dc.mono {S S' : Addr → Prop} {G : Gen} {H H' : Hp} (hS : ∀ a, S a → S' a) (hH : ∀ a u, S a → isTbl u = false → H a = some u → H' a = some u) : ∀ {n m v d}, n ≤ m → Dc S G H n v d → Dc S' G H' m v d
  | 0, _, _, _, _, h => (show False from h).elim
  | n + 1, 0, _, _, hl, _ => absurd hl (by omega)
  | n + 1, m + 1, v, d, hl, h => by
    rcases h with ⟨a, b⟩ | ⟨a, xs, e, s, r, x, d⟩ | ⟨a, ms, f, e, s, r, nd, ks, d, no, at'⟩
    · exact .inl ⟨a, b⟩
    · exact .inr (.inl ⟨a, xs, e, hS a s, hH a _ s rfl r, x, d⟩)
    · exact .inr (.inr ⟨a, ms, f, e, hS a s, hH a _ s rfl r, nd, ks, d, no, fun k u hu => Dc.mono hS hH (by omega) (at' k u hu)⟩)
theorem Dc.ex [TabL] {S G H H' n v d} (e : Ex H H') (h : Dc S G H n v d) : Dc S G H' n v d := Dc.mono (fun _ s => s) (fun a u _ z r => e.go a u r z) (Nat.le_refl _) h
theorem Dc.lift {S G H n m v d} (hl : n ≤ m) (h : Dc S G H n v d) : Dc S G H m v d := Dc.mono (fun _ s => s) (fun _ _ _ _ r => r) hl h
theorem Dc.imp {S S' : Addr → Prop} {G H n v d} (hS : ∀ a, S a → S' a) (h : Dc S G H n v d) : Dc S' G H n v d := Dc.mono hS (fun _ _ _ _ r => r) (Nat.le_refl _) h
theorem Mem.mono {S S' : Addr → Prop} {G : Gen} {H H' : Hp} {n m ms f} (hS : ∀ a, S a → S' a) (hH : ∀ a u, S a → isTbl u = false → H a = some u → H' a = some u) (hl : n ≤ m) (h : Mem S G H n ms f) : Mem S' G H' m ms f :=
  ⟨h.nd, h.ks, h.no, fun k u z => Dc.mono hS hH hl (h.at' k u z)⟩
theorem Mem.ex [TabL] {S G H H' n ms f} (e : Ex H H') (h : Mem S G H n ms f) : Mem S G H' n ms f := ⟨h.nd, h.ks, h.no, fun k u z => (h.at' k u z).ex e⟩
theorem Mem.imp {S S' : Addr → Prop} {G H n ms f} (hS : ∀ a, S a → S' a) (h : Mem S G H n ms f) : Mem S' G H n ms f := ⟨h.nd, h.ks, h.no, fun k u z => (h.at' k u z).imp hS⟩
theorem Mem.lift {S G H n m ms f} (hl : n ≤ m) (h : Mem S G H n ms f) : Mem S G H m ms f := ⟨h.nd, h.ks, h.no, fun k u z => (h.at' k u z).lift hl⟩
theorem Mem.nil {S G H n} : Mem S G H n [] (fun _ => .nil) := ⟨by simp, fun k z => (nomatch z), fun _ _ => rfl, fun k u z => nomatch z⟩
theorem Mem.len {S G H n ms f} (h : Mem S G H n ms f) : ms.length ≤ G.KS.length := by
  have := sub_len h.nd h.ks
  rwa [List.length_map] at this
theorem Mem.put {S G H n ms f k v e} (h : Mem S G H n ms f) (hk : k ∈ G.KS) (hv : Dc S G H n v e) : Mem S G H n (putK ms k v) (D.fup f k e) := by
  refine ⟨nodup_put k v h.nd, fun j hj => ?_, fun j hj => ?_, fun j u hu => ?_⟩
  · rcases (keys_put ms k v j).mp hj with z | z
    · rw [z]; exact hk
    · exact h.ks j z
  · rw [valV_put] at hj
    unfold D.fup
    by_cases z : j = k
    · rw [if_pos z] at hj; cases hj
    · rw [if_neg z] at hj ⊢
      exact h.no j hj
  · rw [valV_put] at hu
    unfold D.fup
    by_cases z : j = k
    · rw [if_pos z] at hu ⊢
      cases hu
      exact hv
    · rw [if_neg z] at hu ⊢
      exact h.at' j u hu
theorem Dc.ne_nil {S G H n v d} (h : Dc S G H n v d) : d.isNil = false := by
  refine h.cases (fun m _ _ e => ?_) (fun m a xs _ _ _ _ _ e => ?_) (fun m a ms f _ _ _ _ _ e => ?_) <;> subst e <;> rfl
theorem Dc.non {S G H n v d} (h : Dc S G H n v d) : d.isNon = decide (v = .non) := by
  refine h.cases (fun m _ hs e => ?_) (fun m a xs _ ev _ _ _ e => ?_) (fun m a ms f _ ev _ _ _ e => ?_)
  · subst e
    cases v <;> first | rfl | simp [D.isNon]
  · subst e; subst ev
    simp [D.isNon]
  · subst e; subst ev
    simp [D.isNon]
/-- an object of another depth than a's is not in the way of what is read: a may be changed -/
theorem Dc.away {S G H a o} : ∀ {n v d}, Dc S G H n v d → (∀ m e, m ≤ n → ¬ Dc S G H m (.ref a) e) → Dc S G (upd H a o) n v d
  | 0, _, _, h, _ => (show False from h).elim
  | n + 1, v, d, h, hn => by
    have ne : ∀ b, v = .ref b → b ≠ a := fun b e z => hn (n + 1) d (Nat.le_refl _) (by rw [← z, ← e]; exact h)
    have rd : ∀ b u, b ≠ a → H b = some u → (upd H a o) b = some u := fun b u z r => by
      rw [upd_ne z]
      exact r
    rcases h with ⟨x, y⟩ | ⟨b, xs, e, s, r, x, d⟩ | ⟨b, ms, f, e, s, r, nd, ks, d, no, at'⟩
    · exact .inl ⟨x, y⟩
    · exact .inr (.inl ⟨b, xs, e, s, rd b _ (ne b e) r, x, d⟩)
    · exact .inr (.inr ⟨b, ms, f, e, s, rd b _ (ne b e) r, nd, ks, d, no, fun k u hu => Dc.away (at' k u hu) fun m e' hm => hn m e' (by omega)⟩)
/-- the same values stand for the same document -/
theorem Dc.det {S S' G G' H} : ∀ {n m v d e}, Dc S G H n v d → Dc S' G' H m v e → d = e
  | 0, _, _, _, _, h, _ => (show False from h).elim
  | _ + 1, 0, _, _, _, _, h => (show False from h).elim
  | n + 1, m + 1, v, d, e, h, h' => by
    have same : ∀ {a : Addr} {u w : HO}, H a = some u → H a = some w → u = w := fun {a u w} r r' => Option.some.inj (r.symm.trans r')
    rcases h with ⟨x, y⟩ | ⟨b, xs, eb, s, r, x, dd⟩ | ⟨b, ms, f, eb, s, r, nd, ks, dd, no, at'⟩
    · rcases h' with ⟨x', y'⟩ | ⟨b', xs', e', s', r', x', d'⟩ | ⟨b', ms', f', e', s', r', nd', ks', d', no', at''⟩
      · rw [y, y']
      · subst e'; exact nomatch G.sc _ x
      · subst e'; exact nomatch G.sc _ x
    · subst eb
      rcases h' with ⟨x', y'⟩ | ⟨b', xs', e', s', r', x', d'⟩ | ⟨b', ms', f', e', s', r', nd', ks', d', no', at''⟩
      · exact nomatch G'.sc _ x'
      · cases e'
        have z := same r r'
        injection z with z
        rw [dd, d', z]
      · cases e'
        have z := same r r'
        cases z
    · subst eb
      rcases h' with ⟨x', y'⟩ | ⟨b', xs', e', s', r', x', d'⟩ | ⟨b', ms', f', e', s', r', nd', ks', d', no', at''⟩
      · exact nomatch G'.sc _ x'
      · cases e'
        have z := same r r'
        cases z
      · cases e'
        have z := same r r'
        injection z with z
        rw [dd, d']
        congr 1
        funext k
        have ez : valV ms k = valV ms' k := by rw [← valV_inK ms, ← valV_inK ms', z]
        cases hv : valV ms k with
        | none => rw [no k hv, no' k (by rw [← ez]; exact hv)]
        | some u => exact Dc.det (at' k u hv) (at'' k u (by rw [← ez]; exact hv))
/-- the least level at which a value stands for a document -/
theorem Dc.low {S G H v} : ∀ {n d}, Dc S G H n v d → ∃ m, m ≤ n ∧ Dc S G H m v d ∧ ∀ k e, k < m → ¬ Dc S G H k v e
  | 0, _, h => (show False from h).elim
  | n + 1, d, h => by
    by_cases c : ∃ k e, k < n + 1 ∧ Dc S G H k v e
    · obtain ⟨k, e, hk, he⟩ := c
      have := Dc.det h he
      subst this
      obtain ⟨m, h1, h2, h3⟩ := Dc.low (he.lift (by omega : k ≤ n))
      exact ⟨m, by omega, h2, h3⟩
    · exact ⟨n + 1, Nat.le_refl _, h, fun k e hk he => c ⟨k, e, hk, he⟩⟩
/-- the dict at a locked: its members as they stood -/
theorem Mem.lock {S G H n a ms f o} (ha : H a = some (.dK (kvsOf ms))) (hS : S a) (h : Mem S G H n ms f) : Mem S G (upd H a o) n ms f := by
  obtain ⟨m, hm, h2, h3⟩ := (Dc.ob (n := n) hS ha h).low
  refine h2.cases (fun k _ _ e => by cases e) (fun k b xs _ eb _ _ _ e => by cases e) (fun k b ms' f' ek eb _ r' M e => ?_)
  cases eb
  rw [ha] at r'
  have z : kvsOf ms' = kvsOf ms := by injection r' with r'; injection r' with r'; exact r'.symm
  have zz : ∀ j, valV ms' j = valV ms j := fun j => by rw [← valV_inK, ← valV_inK, z]
  injection e with e
  subst e
  exact ⟨h.nd, h.ks, h.no, fun j u hu => ((M.at' j u (by rw [zz]; exact hu)).away fun i e hi he => h3 i e (by omega) he).lift (by omega)⟩
/-- changes elsewhere -/
theorem Dc.off {S G H n v d a o} (h : Dc S G H n v d) (hS : ¬ S a) : Dc S G (upd H a o) n v d := Dc.mono (fun _ z => z) (fun b u s _ r => by rw [upd_ne (fun z => hS (by rw [← z]; exact s))]; exact r) (Nat.le_refl _) h
theorem Mem.off {S G H n ms f a o} (h : Mem S G H n ms f) (hS : ¬ S a) : Mem S G (upd H a o) n ms f := ⟨h.nd, h.ks, h.no, fun k u z => (h.at' k u z).off hS⟩
theorem ex_unlock [TabL] {H H2 : Hp} {a : Addr} {f u : HO} (hu : H a = some u) (e : Ex (upd H a f) H2) (p1 : isPl u = true := by rfl) (p2 : isPl f = true := by rfl) : Ex H (upd H2 a u) := by
  have nt : ∀ {w : HO}, isPl w = true → isTbl w = false := fun {w} h => by cases w <;> first | rfl | exact h | exact nomatch h
  have h2 : H2 a = some f := e.go a f upd_same (nt p2)
  refine ⟨fun b o hb z => ?_, fun b hb => ?_, fun b q r t => ?_⟩
  · by_cases y : b = a
    · subst y
      rw [hu] at hb
      rw [upd_same]
      exact hb
    · rw [upd_ne y]
      exact e.go b o (by rw [upd_ne y]; exact hb) z
  · by_cases y : b = a
    · subst y
      rw [upd_same]
      exact fun z => nomatch z
    · rw [upd_ne y]
      exact e.ne b (by rw [upd_ne y]; exact hb)
  · exact tab_upd (e.tab b q r (tab_upd t fun w hw => by rw [hu] at hw; cases hw; exact p1)) fun w hw => by rw [h2] at hw; cases hw; exact p2
theorem take_keys {ms : List (Str × V)} {i : Nat} {k : Str} {u : V} (h : ms[i]? = some (k, u)) (j : Str) : (j ∈ (ms.take (i + 1)).map (·.1)) ↔ (j ∈ (ms.take i).map (·.1) ∨ j = k) := by
  rw [List.take_add_one, h]
  simp
/-- f at the first i keys, g at the others -/
def mix (ms : List (Str × V)) (i : Nat) (f g : Str → D) : Str → D := fun k => if k ∈ (ms.take i).map (·.1) then f k else g k
theorem mix_zero {ms : List (Str × V)} {f g : Str → D} : mix ms 0 f g = g := by
  funext k
  simp [mix]
theorem mix_succ {ms : List (Str × V)} {i : Nat} {k : Str} {u : V} {f g : Str → D} (h : ms[i]? = some (k, u)) : D.fup (mix ms i f g) k (f k) = mix ms (i + 1) f g := by
  funext j
  unfold D.fup mix
  simp only [take_keys h]
  by_cases z : j = k
  · simp [z]
  · simp [z]
theorem mix_all {ms : List (Str × V)} {f g : Str → D} (h : ∀ k, k ∉ ms.map (·.1) → f k = g k) : mix ms ms.length f g = f := by
  funext j
  unfold mix
  rw [List.take_length]
  by_cases c : j ∈ ms.map (·.1)
  · rw [if_pos c]
  · rw [if_neg c, h j c]
theorem mix_new {ms : List (Str × V)} {i : Nat} {k : Str} {u : V} {f g : Str → D} (nd : (ms.map (·.1)).Nodup) (h : ms[i]? = some (k, u)) : mix ms i f g k = g k := by
  unfold mix
  rw [if_neg]
  intro hk
  have hi : i < ms.length := (List.getElem?_eq_some_iff.mp h).1
  obtain ⟨p, hp, e⟩ := List.mem_map.mp hk
  obtain ⟨j, hj, ej⟩ := List.getElem_of_mem hp
  rw [List.length_take] at hj
  have e2 : (ms.map (·.1))[j]? = some k := by
    rw [List.getElem?_map, List.getElem?_eq_getElem (by omega)]
    rw [List.getElem_take] at ej
    rw [ej, ← e]
    rfl
  have e3 : (ms.map (·.1))[i]? = some k := by
    rw [List.getElem?_map, h]
    rfl
  have := (List.getElem?_inj (by rw [List.length_map]; omega) nd).mp (e2.trans e3.symm)
  omega
theorem Dc.alloc {S G H} : ∀ {n v d}, Dc S G H n v d → Dc (fun x => S x ∧ H x ≠ none) G H n v d
  | 0, _, _, h => h
  | n + 1, v, d, h => by
    have al : ∀ {a : Addr} {o : HO}, H a = some o → H a ≠ none := fun r z => by rw [z] at r; cases r
    rcases h with ⟨x, y⟩ | ⟨b, xs, e, s, r, x, d⟩ | ⟨b, ms, f, e, s, r, nd, ks, d, no, at'⟩
    · exact .inl ⟨x, y⟩
    · exact .inr (.inl ⟨b, xs, e, ⟨s, al r⟩, r, x, d⟩)
    · exact .inr (.inr ⟨b, ms, f, e, ⟨s, al r⟩, r, nd, ks, d, no, fun k u hu => Dc.alloc (at' k u hu)⟩)
theorem Mem.alloc {S G H n ms f} (h : Mem S G H n ms f) : Mem (fun x => S x ∧ H x ≠ none) G H n ms f := ⟨h.nd, h.ks, h.no, fun k u hu => (h.at' k u hu).alloc⟩
theorem app_tgt {d e : D} (h : d.tgt = e.tgt) (p : D) : D.app d p = D.app e p := by
  cases p with
  | ob g =>
    rw [app_ob, app_ob, h]
  | _ => rfl
theorem mix_skip {ms : List (Str × V)} {i : Nat} {k : Str} {u : V} {f g : Str → D} (h : ms[i]? = some (k, u)) (e : f k = g k) : mix ms i f g = mix ms (i + 1) f g := by
  funext j
  unfold mix
  simp only [take_keys h]
  by_cases z : j = k
  · subst z
    simp [e]
  · simp [z]
theorem Ex.both [TabL] {H H' : Hp} {a : Addr} {o u : HO} (e : Ex H H') (hu : H a = some u) (p1 : isPl u = true := by rfl) (p2 : isPl o = true := by rfl) : Ex (upd H a o) (upd H' a o) := by
  have nt : ∀ {w : HO}, isPl w = true → isTbl w = false := fun {w} h => by cases w <;> first | rfl | exact h | exact nomatch h
  have h' : H' a = some u := e.go a u hu (nt p1)
  refine ⟨fun b w h z => ?_, fun b hb => ?_, fun b q r t => ?_⟩
  · by_cases y : b = a
    · subst y
      rw [upd_same] at h ⊢
      exact h
    · rw [upd_ne y] at h ⊢
      exact e.go b w h z
  · by_cases y : b = a
    · subst y
      rw [upd_same]
      exact fun z => nomatch z
    · rw [upd_ne y] at hb ⊢
      exact e.ne b hb
  · have t0 : LamX.TabS H b q := by
      have z := tab_upd (p := a) (o := u) t fun w hw => by rw [upd_same] at hw; cases hw; exact p2
      have e2 : upd (upd H a o) a u = H := by
        rw [upd_upd]
        funext c
        by_cases y : c = a
        · rw [y, upd_same, hu]
        · rw [upd_ne y]
      rwa [e2] at z
    exact tab_upd (e.tab b q r t0) fun w hw => by rw [h'] at hw; cases hw; exact p1
/-- at most p parts -/
def PD : D → Nat → Prop
  | .nil, _ => True
  | .sc _, p => 1 ≤ p
  | .ls _, p => 1 ≤ p
  | .ob f, p => ∃ (ks : List Str) (q : Str → Nat), (∀ k, (f k).isNil = false → k ∈ ks) ∧ (∀ k, PD (f k) (q k)) ∧ 1 + (ks.map q).sum ≤ p
theorem PD.mono : ∀ {d : D} {p q : Nat}, p ≤ q → PD d p → PD d q
  | .nil, _, _, _, _ => trivial
  | .sc _, _, _, h, z => Nat.le_trans z h
  | .ls _, _, _, h, z => Nat.le_trans z h
  | .ob _, _, _, h, ⟨ks, q, a, b, c⟩ => ⟨ks, q, a, b, Nat.le_trans c h⟩
theorem sum_sub (q : Str → Nat) : ∀ {xs ys : List Str}, xs.Nodup → (∀ x ∈ xs, x ∈ ys) → (xs.map q).sum ≤ (ys.map q).sum
  | [], _, _, _ => Nat.zero_le _
  | x :: xs, ys, nd, h => by
    rw [List.nodup_cons] at nd
    have hx := h x List.mem_cons_self
    have h2 : ∀ z ∈ xs, z ∈ ys.erase x := fun z hz => (List.mem_erase_of_ne (fun e => nd.1 (by rw [← e]; exact hz))).mpr (h z (List.mem_cons_of_mem _ hz))
    have h3 := sum_sub q nd.2 h2
    have h4 : (ys.map q).sum = q x + ((ys.erase x).map q).sum := by
      have := (List.perm_cons_erase hx).map q
      rw [this.sum_nat]
      simp
    rw [List.map_cons, List.sum_cons]
    omega
/-- objects nested at most p deep -/
def DD : D → Nat → Prop
  | .ob f, p => 1 ≤ p ∧ ∀ k, DD (f k) (p - 1)
  | _, _ => True
theorem DD.mono : ∀ {d : D} {p q : Nat}, p ≤ q → DD d p → DD d q
  | .nil, _, _, _, _ => trivial
  | .sc _, _, _, _, _ => trivial
  | .ls _, _, _, _, _ => trivial
  | .ob _, _, _, h, ⟨a, b⟩ => ⟨Nat.le_trans a h, fun k => DD.mono (by omega) (b k)⟩
theorem Dc.avoid {S G H a} : ∀ {n v d}, Dc S G H n v d → (∀ m e, m ≤ n → ¬ Dc S G H m (.ref a) e) → Dc (fun x => S x ∧ x ≠ a) G H n v d
  | 0, _, _, h, _ => h
  | n + 1, v, d, h, hn => by
    have ne : ∀ b, v = .ref b → b ≠ a := fun b e z => hn (n + 1) d (Nat.le_refl _) (by rw [← z, ← e]; exact h)
    rcases h with ⟨x, y⟩ | ⟨b, xs, e, s, r, x, d⟩ | ⟨b, ms, f, e, s, r, nd, ks, d, no, at'⟩
    · exact .inl ⟨x, y⟩
    · exact .inr (.inl ⟨b, xs, e, ⟨s, ne b e⟩, r, x, d⟩)
    · exact .inr (.inr ⟨b, ms, f, e, ⟨s, ne b e⟩, r, nd, ks, d, no, fun k u hu => Dc.avoid (at' k u hu) fun m e' hm => hn m e' (by omega)⟩)
theorem Mem.avoid {S G H n a ms f} (ha : H a = some (.dK (kvsOf ms))) (hS : S a) (h : Mem S G H n ms f) : Mem (fun x => S x ∧ x ≠ a) G H n ms f := by
  obtain ⟨m, hm, h2, h3⟩ := (Dc.ob (n := n) hS ha h).low
  refine h2.cases (fun k _ _ e => by cases e) (fun k b xs _ eb _ _ _ e => by cases e) (fun k b ms' f' ek eb _ r' M e => ?_)
  cases eb
  rw [ha] at r'
  have z : kvsOf ms' = kvsOf ms := by injection r' with r'; injection r' with r'; exact r'.symm
  have zz : ∀ j, valV ms' j = valV ms j := fun j => by rw [← valV_inK, ← valV_inK, z]
  injection e with e
  subst e
  exact ⟨h.nd, h.ks, h.no, fun j u hu => ((M.at' j u (by rw [zz]; exact hu)).avoid fun i e hi he => h3 i e (by omega) he).lift (by omega)⟩
theorem not_taken {ms : List (Str × V)} {i : Nat} {k : Str} {u : V} (nd : (ms.map (·.1)).Nodup) (h : ms[i]? = some (k, u)) : k ∉ (ms.take i).map (·.1) := by
  intro hk
  have hi : i < ms.length := (List.getElem?_eq_some_iff.mp h).1
  obtain ⟨p, hp, e⟩ := List.mem_map.mp hk
  obtain ⟨j, hj, ej⟩ := List.getElem_of_mem hp
  rw [List.length_take] at hj
  have e2 : (ms.map (·.1))[j]? = some k := by
    rw [List.getElem?_map, List.getElem?_eq_getElem (by omega)]
    rw [List.getElem_take] at ej
    rw [ej, ← e]
    rfl
  have e3 : (ms.map (·.1))[i]? = some k := by
    rw [List.getElem?_map, h]
    rfl
  have := (List.getElem?_inj (by rw [List.length_map]; omega) nd).mp (e2.trans e3.symm)
  omega
theorem merge_nodup : ∀ (ms pre : List (Str × V)), ((pre ++ ms).map (·.1)).Nodup → mergeK (kvsOf pre) (kvsOf ms) = kvsOf (pre ++ ms)
  | [], pre, _ => by simp [mergeK]
  | p :: ms, pre, h => by
    have h1 : valV pre p.1 = none := valV_none_of fun z => by
      rw [List.map_append, List.nodup_append] at h
      exact h.2.2 _ z _ (by simp) rfl
    have h2 : putK (kvsOf pre) (Sum.inr p.1) p.2 = kvsOf (pre ++ [p]) := by
      rw [putK_inK, putK_new _ h1]
    have h3 := merge_nodup ms (pre ++ [p]) (by simpa using h)
    show mergeK (putK (kvsOf pre) (Sum.inr p.1) p.2) (kvsOf ms) = _
    rw [h2, h3]
    simp
theorem Mem.drop {S G H n ms f} (h : Mem S G H n ms f) (k : Str) : Mem S G H n (ms.filter fun p => decide (p.1 ≠ k)) (D.fup f k .nil) := by
  have sub : ∀ {j : Str} {u : V}, valV (ms.filter fun p => decide (p.1 ≠ k)) j = some u → valV ms j = some u ∧ j ≠ k := fun {j u} z => by
    have hm := valV_mem z
    rw [List.mem_filter] at hm
    exact ⟨valV_of_mem h.nd hm.1, of_decide_eq_true hm.2⟩
  refine ⟨h.nd.sublist (List.filter_sublist.map _), fun j hj => ?_, fun j hj => ?_, fun j u hu => ?_⟩
  · obtain ⟨p, hp, e⟩ := List.mem_map.mp hj
    exact h.ks j (List.mem_map.mpr ⟨p, (List.mem_filter.mp hp).1, e⟩)
  · unfold D.fup
    by_cases z : j = k
    · rw [if_pos z]
    · rw [if_neg z]
      cases e : valV ms j with
      | none => exact h.no j e
      | some u =>
        have : j ∈ (ms.filter fun p => decide (p.1 ≠ k)).map (·.1) := List.mem_map.mpr ⟨(j, u), List.mem_filter.mpr ⟨valV_mem e, decide_eq_true z⟩, rfl⟩
        obtain ⟨w, hw⟩ := valV_some_of this
        rw [hj] at hw
        cases hw
  · obtain ⟨h1, h2⟩ := sub hu
    unfold D.fup
    rw [if_neg h2]
    exact h.at' j u h1
end TP

namespace TP
open PySem PySem.Spec PyProof.Rows L2
/-! ### defs that are only called where no repr is under way -/
structure FnOkG (P : Program) (w : World) (K : PySem.W.Frag) (mg : Str → Option Value) (base : Heap) (CX : CXT) (k : Nat) (f : Addr) (fd : FuncData) (ps : List Str) (sp : Sp) : Prop where
  len : ∀ vs H Q E, sp vs H Q E → vs.length = ps.length
  run : ∀ (A : Around) (outer : List Env) (s : Shared) (H : Hp) (args : Args) (us : List Value) (vs : List V) (Q : VK) (E : XK), A.guards = some [] → Room k A → Env0 P w K mg base A outer s H →
    BindsTo s fd args (ps.zip us) → Vals vs us → sp vs H Q E → codeAny (model P w) A (.call (.ref f) args) (CR CX outer P w H s Q E) s
section
variable {P : Program} {w : World} {K : PySem.W.Frag} {mg : Str → Option Value} {base : Heap} {CX : CXT}
theorem okG {x qual : Str} {st : Stmt} {f : Addr} {fd : FuncData} {N ps : List Str} {k : Nat} {sp : Sp} (F : Fun K x qual st f fd) (S : FnScope N ps (defScope st)) (len : ∀ vs H Q E, sp vs H Q E → vs.length = ps.length)
    (body : ∀ (cdv : Value) (A : Around) (outer : List Env) (s : Shared) (H : Hp) (vs : List V) (Q : VK) (E : XK), A.guards = some [] → Room k (A.deeper (envOfC qual (defScope st) s.heap.objs.size f cdv)) → sp vs H Q E →
      ∃ t, PSs (cxOf CX P w K mg base N qual (defScope st) f cdv A outer s H E).nox (defBody st) t ∧ t { nx := fun _ H' => Q .non H', rt := Q } (start N vs) H) : FnOkG P w K mg base CX (k + 1) f fd ps sp := by
  obtain ⟨oc, od, kV, doc, pm, an, cdv, ct, osl, rfl, lk, hcd⟩ := F.ex
  refine ⟨len, fun A outer s H args us vs Q E hg room e0 hb rel want => ?_⟩
  have hl := len _ _ _ _ want
  have kin : K.In s.heap := e0.mod.kin.keeps fun b o e => (e0.bs b o e).1
  have nol : s.heap.NoLimit := e0.mod.nolimit.keeps fun b o e => (e0.bs b o e).1
  refine codeAny_call_function room.depth (kin _ _ lk) rfl S.co S.gen rfl (PySem.W.codeRec_of kin hcd) (hb _ _ _ _ ?_)
  refine wpAny_newFunctionEnv_cells S.kind (fun ⟨n, v⟩ hy => (S.par n (List.of_mem_zip hy).1).imp id fun q => ⟨q, PySem.W.cellsFrom_some _ _ _ (.inl q)⟩) fun env he s1 x => ?_
  subst he
  refine ⟨nol.keeps x.toInCall.keep, codeAny_func ?_⟩
  obtain ⟨t, ht, hq⟩ := body cdv A outer s H vs Q E hg (room.deeper _) want
  refine wpAny_mono (ht.nox.run [] s1 (start N vs) H _ (inv_start S room.hd e0 hl rel x) hq) (fun fl s' h => ?_) fun _ _ h => h
  cases fl with
  | ret u => exact let ⟨v, _, H', J, rv, q⟩ := h; ⟨v, H', J.os, J.bare, J.base, J.hok, rv, q⟩
  | next => exact let ⟨_, H', J, q⟩ := h; ⟨V.non, H', J.os, J.bare, J.base, J.hok, rfl, q⟩
  | brk => exact let ⟨_, _, _, q⟩ := h; False.elim q
  | cont => exact let ⟨_, _, _, q⟩ := h; False.elim q
/-- a call of such a def -/
theorem pe_callG {X : Cx} {k : Nat} {f : Addr} {fd : FuncData} {ps : List Str} {sp : Sp} {E : XK} {x : Str} {p pos : Pos} {e : Expr} {es : List Expr} {t : TA} (F : FnOkG X.prog X.w X.K X.mg X.base CX k f fd ps sp) (hgd : X.A.guards = some []) (hr : Room k X.A) (hg : Gl X x)
    (hm : X.mg x = some (.ref f)) (hk : PySem.W.keepIn X.K (.ref f) = true) (hb : Binds X.K fd ps []) (hx : Passes CX X E) (ha : PA X (e :: es) t) (hdb : (x == ("__debug__" : Str)) = false := by decide)
    (he : starEach (e :: es) X.env = (false, eval e X.env) :: starEach es X.env := by rfl) (hpl : (backTo pos (starEach es X.env)).any (·.1) = false := by rfl) :
    PE X (.Call (.Name x p) (e :: es) [] pos) (tCall sp [] E t) := by
  refine ⟨fun pins s σ H Q I h => ?_⟩
  refine wpAny_Call_Name_kw (ld_glob I hg hm ?_ hdb)
  refine PySem.W.callWith_K (h₀ := X.base) I.ok.mod.kin hk (thn (ha.run pos pins s σ H _ I h) fun us s1 ⟨vs, H1, I1, r1, q1⟩ => ⟨I1.kIn, ?_⟩) he hpl
  have q1 : sp (vs ++ []) H1 Q E := q1
  rw [List.append_nil] at q1
  have hl : (us ++ []).length = ps.length := by rw [List.append_nil, ← Paired.length r1]; exact F.len _ _ _ _ q1
  have bt := hb s1 us I1.kIn hl
  rw [List.append_nil] at bt
  refine wpAny_call (codeAny_mono (F.run X.A X.stack s1 H1 ⟨us, []⟩ us vs Q E hgd hr I1.env0 bt r1 q1) fun r s' h' => ?_)
  cases r with
  | error er => exact hx pins σ _ _ er s' I1 h'
  | ok fl =>
    cases fl with
    | ret u => exact I1.after h'
    | next => exact False.elim h'
    | brk => exact False.elim h'
    | cont => exact False.elim h'
/-- the script's list as it stands at the entry -/
def ScrAt (K : PySem.W.Frag) (H : Hp) (a : Addr) (xs : List V) : Prop := ∃ its : List Value, Vals xs its ∧ xs.length ≤ 1000 ∧
  (K.lookup a = some { cls := .type "list", data := .seq its.toArray } ∨ H a = some (.frz { cls := .type "list", data := .seq its.toArray } (.lst xs)))
theorem ScrAt.ex [TabL] {K H H' a xs} (e : Ex H H') (h : ScrAt K H a xs) : ScrAt K H' a xs := let ⟨i, r, l, z⟩ := h; ⟨i, r, l, z.imp id fun y => e.go a _ y rfl⟩
/-- the head's end, for a law whose own def asks that no repr is under way -/
theorem walk_G {l : PySem.W.OpenLaw} {n k : Nat} {q : Program} {loose : List Str} {XP : (Str → Option Value) → Heap → Prop} {YP : World → Heap → Prop} {d : DefRec} {K : Params → PySem.W.Frag} {sp : PySem.W.Frag → Sp} {x : Str}
    (hn : l.most = some n) (hn2 : n ≤ 1000) (hdf : d.params.defaults = []) (hr : Room k callerA) (hY : ∀ (w : World) (h : Heap), YP w h → (K w.params).In h)
    (F : ∀ (w : World) (mg : Str → Option Value) (fa : Addr) (h : Heap), (K w.params).In h → h.Ns mainGlobals mg → mg d.name = some (.ref fa) →
      ∃ fd : FuncData, (∀ (s : Shared) (u : Value), BindsTo s fd ⟨[u], []⟩ [(x, u)]) ∧
        ∀ base : Heap, (K w.params).In base → base.Ns mainGlobals mg → FnOkG l.prog w (K w.params) mg base CX0 k fa fd [x] (sp (K w.params)))
    (hsp : ∀ (K : PySem.W.Frag) (H : Hp) (a : Addr) (ns : List Int), ns.length ≤ n → Only H → ScrAt K H a (ns.map V.int) → sp K [.ref a] H (fun v _ => v = .bl true) fun _ _ _ => False) :
    PySem.W.WalkO q loose XP YP l.row.toRowW d [] (fun f vs => PySem.call f vs) := by
  refine Att.attach_call hn hdf fun w s₀ s₁ mg mb fa o pm cd doc a vs ns G Y ho hd hcd hmg hobj hints hlen hg => ?_
  have KX := hY w _ Y
  obtain ⟨fd, hbind, hF⟩ := F w mg fa _ KX G.T.g hmg
  have hl1 : (ns.map V.int).length ≤ 1000 := by rw [List.length_map]; exact Nat.le_trans hlen hn2
  have hl : ns.length ≤ sizeLine := Nat.le_trans (Nat.le_trans hlen hn2) (by decide)
  have rel := vals_ints hints
  -- what may be tracked at the entry: the script's list, if the module does not own it
  have main : ∀ H : Hp, Only H → ScrAt (K w.params) H a (ns.map V.int) → HOk l.prog w H s₁.heap → (∀ b, H b ≠ none → b = a ∧ (K w.params).lookup a = none) →
      codeAny (model l.prog w) callerA (.call (.ref fa) ⟨[.ref a], []⟩) (fun r s' => r = .ok (.ret (.bool true)) ∧ OldK s₁.heap s'.heap ∧ s'.os = s₁.os ∧ AllBare s'.gens) s₁ := fun H hO hS hok only => by
    have free : ∀ {b : Addr} {ob : Obj}, s₁.heap.get? b = some ob → (b = a → ∃ es ep, ob.data = .dict es ep) → H b = none := fun {b ob} e z => by
      cases hb : H b with
      | none => rfl
      | some u =>
        have eb := (only b (by rw [hb]; exact fun y => nomatch y)).1
        obtain ⟨es, ep, dz⟩ := z eb
        rw [eb, hobj] at e
        cases e
        exact nomatch dz
    have ns' : ∀ {b : Addr} {m : Str → Option Value}, s₁.heap.Ns b m → (hidT s₁.heap H).Ns b m := fun {b m} h => by
      obtain ⟨ob, es, ep, e1, e2, e3⟩ := h
      exact ⟨ob, es, ep, hidT_get e1 (free e1 fun _ => ⟨es, ep, e2⟩), e2, e3⟩
    have kin : (K w.params).In (hidT s₁.heap H) := fun b ob e => hidT_get (KX b ob e) (by
      cases hb : H b with
      | none => rfl
      | some u =>
        obtain ⟨eb, e0⟩ := only b (by rw [hb]; exact fun y => nomatch y)
        rw [eb, e0] at e
        cases e)
    have env : Env0 l.prog w (K w.params) mg (hidT s₁.heap H) callerA [] s₁ H :=
      ⟨rfl, ⟨kin, ns' G.T.g, ⟨mb, ns' G.T.b, G.T.builtins⟩, G.T.nolimit.imp fun _ h => ⟨ns' h.1, h.2⟩⟩, fun _ _ e => of_hidT e, Nat.le_of_eq (hidT_size _ _), trivial, fun _ hb => absurd hb (by simp [frs]), hok, .of_eq hg⟩
    refine codeAny_mono ((hF _ kin (ns' G.T.g)).run callerA [] s₁ H ⟨[.ref a], []⟩ [.ref a] [.ref a] _ _ rfl hr env (hbind s₁ (.ref a)) (.cons rfl .nil) (hsp _ H a ns hlen hO hS)) fun r s' h => ?_
    match r, h with
    | .ok (.ret u), h =>
      obtain ⟨v, H', os, bare, un, hok', rv, qv⟩ := h
      have qv : v = .bl true := qv
      subst qv
      obtain rfl : u = Value.bool true := rv
      refine ⟨rfl, OldK.of_keep fun b ob e => ?_, os, bare⟩
      rcases hO b with z | ⟨ob', xs, z⟩
      · exact un.keep b ob e z (by simp [frs]) (by simp)
      · have h1 := (hok b _ z).1
        have h2 := (hok' b _ (un.frzs b ob' _ z)).1
        rw [e] at h1
        cases h1
        exact h2
    | .error _, h => exact h.elim
    | .ok .next, h => exact h.elim
    | .ok .brk, h => exact h.elim
    | .ok .cont, h => exact h.elim
  have lenV := hints.length
  cases hk : (K w.params).lookup a with
  | some ob =>
    have e := KX a ob hk
    rw [hobj] at e
    cases e
    exact main (fun _ => none) (fun _ => .inl rfl) ⟨vs, rel, hl1, .inl hk⟩ (fun _ _ z => nomatch z) fun _ z => absurd rfl z
  | none =>
    have one : ∀ {b : Addr} {u : HO}, (if b = a then some (HO.frz { cls := .type "list", data := .seq vs.toArray } (.lst (ns.map V.int))) else none) = some u → b = a ∧ u = .frz { cls := .type "list", data := .seq vs.toArray } (.lst (ns.map V.int)) := fun {b u} z => by
      by_cases hb : b = a
      · rw [if_pos hb] at z
        exact ⟨hb, (Option.some.inj z).symm⟩
      · rw [if_neg hb] at z
        cases z
    refine main (fun b => if b = a then some (.frz { cls := .type "list", data := .seq vs.toArray } (.lst (ns.map V.int))) else none) (fun b => ?_) ⟨vs, rel, hl1, .inr (if_pos rfl)⟩ (fun b u z => ?_) fun b z => ?_
    · by_cases hb : b = a
      · exact .inr ⟨_, _, if_pos hb⟩
      · exact .inl (if_neg hb)
    · obtain ⟨rfl, rfl⟩ := one z
      exact ⟨hobj, by rw [List.length_map]; exact hl, vs, _, rel, hobj⟩
    · obtain ⟨u, hu⟩ := Option.ne_none_iff_exists'.mp z
      exact ⟨(one hu).1, hk⟩
end
end TP

namespace TP
open PySem PySem.Spec PyProof.Rows L2
theorem tabs0 {H : Hp} {P : Addr} {q : Str} (h : H P = some (.tbl #[])) : LamX.TabS H P q := LamX.TabS.nil h
/-- a code object's head, from what is told of it -/
theorem code_hd {K : PySem.W.Frag} {h : Heap} {c P : Addr} {od : Option Addr} {vs : Array Value} {sl : Array (Option Value)} {file : Str} {tf : Tok} {flags : Int} {tg : Tok} {inF : Bool} {text : Int} {tt : Tok} (X : K.In h) (l : K.lookup c = some ⟨.type "code", od, .fields vs, sl⟩) (h0 : vs[11]? = some (.ref P)) (h1 : vs.getD 11 .none = .ref P) (h2 : vs.getD 18 .none = .str file tf) (h3 : vs.getD 7 .none = .int flags tg) (h4 : vs.getD 9 .none = .bool inF) (h5 : vs.getD 10 .none = .int text tt) (ne : c ≠ P) : PySem.W.CodeHd h c P :=
  ⟨_, vs, file, tf, flags, tg, inF, text, tt, X c _ l, rfl, rfl, h0, h1, h2, h3, h4, h5, ne⟩
/-- what is tracked at the entry: the script's list, and one code table -/
def OnlyT (Pt : Addr) (H : Hp) : Prop := ∀ b, H b = none ∨ (b = Pt ∧ H b = some (.tbl #[])) ∨ ∃ o xs, H b = some (.frz o (.lst xs))
/-- the head's end, for a law whose own def asks that no repr is under way, and a code table -/
theorem walk_GT {l : PySem.W.OpenLaw} {n k : Nat} {q : Program} {loose : List Str} {XP : (Str → Option Value) → Heap → Prop} {YP : World → Heap → Prop} {d : DefRec} {K : Params → PySem.W.Frag} {sp : PySem.W.Frag → Addr → Sp} {x : Str}
    (hn : l.most = some n) (hn2 : n ≤ 1000) (hdf : d.params.defaults = []) (hr : Room k callerA) (hY : ∀ (w : World) (h : Heap), YP w h → (K w.params).In h)
    (F : ∀ (w : World) (mg : Str → Option Value) (fa : Addr) (h : Heap), YP w h → (K w.params).In h → h.Ns mainGlobals mg → mg d.name = some (.ref fa) →
      ∃ (c Pt : Addr), h.get? Pt = some (PySem.W.tabObj #[]) ∧ (K w.params).lookup Pt = none ∧ PySem.W.CodeHd h c Pt ∧ ∃ fd : FuncData, (∀ (s : Shared) (u : Value), BindsTo s fd ⟨[u], []⟩ [(x, u)]) ∧
        ∀ base : Heap, (K w.params).In base → base.Ns mainGlobals mg → LamX.TabB base mg c Pt → FnOkG l.prog w (K w.params) mg base CX0 k fa fd [x] (sp (K w.params) Pt))
    (hsp : ∀ (K : PySem.W.Frag) (H : Hp) (a Pt : Addr) (ns : List Int), ns.length ≤ n → H Pt = some (.tbl #[]) → ScrAt K H a (ns.map V.int) → sp K Pt [.ref a] H (fun v _ => v = .bl true) fun _ _ _ => False) :
    PySem.W.WalkO q loose XP YP l.row.toRowW d [] (fun f vs => PySem.call f vs) := by
  refine Att.attach_call hn hdf fun w s₀ s₁ mg mb fa o pm cd doc a vs ns G Y ho hd hcd hmg hobj hints hlen hg => ?_
  have KX := hY w _ Y
  obtain ⟨c, Pt, hPt, hKP, hcode, fd, hbind, hF⟩ := F w mg fa _ Y KX G.T.g hmg
  have hl1 : (ns.map V.int).length ≤ 1000 := by rw [List.length_map]; exact Nat.le_trans hlen hn2
  have hl : ns.length ≤ sizeLine := Nat.le_trans (Nat.le_trans hlen hn2) (by decide)
  have rel := vals_ints hints
  have naP : a ≠ Pt := fun z => by
    rw [z, hPt] at hobj
    cases hobj
  have main : ∀ H : Hp, OnlyT Pt H → H Pt = some (.tbl #[]) → ScrAt (K w.params) H a (ns.map V.int) → HOk l.prog w H s₁.heap → (∀ b, H b ≠ none → b = Pt ∨ (b = a ∧ (K w.params).lookup a = none)) →
      codeAny (model l.prog w) callerA (.call (.ref fa) ⟨[.ref a], []⟩) (fun r s' => r = .ok (.ret (.bool true)) ∧ OldK s₁.heap s'.heap ∧ s'.os = s₁.os ∧ AllBare s'.gens) s₁ := fun H hO hT hS hok only => by
    have free : ∀ {b : Addr} {ob : Obj}, s₁.heap.get? b = some ob → (b = a ∨ b = Pt → False) → H b = none := fun {b ob} e z => by
      cases hb : H b with
      | none => rfl
      | some u => exact ((only b (by rw [hb]; exact fun y => nomatch y)).elim (fun y => z (.inr y)) fun y => z (.inl y.1)).elim
    have ns' : ∀ {b : Addr} {m : Str → Option Value}, s₁.heap.Ns b m → (hidT s₁.heap H).Ns b m := fun {b m} h => by
      obtain ⟨ob, es, ep, e1, e2, e3⟩ := h
      exact ⟨ob, es, ep, hidT_get e1 (free e1 fun z => by
        rcases z with z | z
        · rw [z, hobj] at e1; cases e1; cases e2
        · rw [z, hPt] at e1; cases e1; cases e2), e2, e3⟩
    have kin : (K w.params).In (hidT s₁.heap H) := fun b ob e => hidT_get (KX b ob e) (by
      cases hb : H b with
      | none => rfl
      | some u =>
        rcases only b (by rw [hb]; exact fun y => nomatch y) with z | ⟨z, z0⟩
        · rw [z, hKP] at e; cases e
        · rw [z, z0] at e; cases e)
    have obs : ∀ {b : Addr} {ob : Obj}, s₁.heap.get? b = some ob → ob.cls ≠ .type "list" → ob.cls ≠ .none → (hidT s₁.heap H).get? b = some ob := fun {b ob} e n1 n2 => hidT_get e (free e fun z => by
        rcases z with z | z
        · rw [z, hobj] at e; cases e; exact n1 rfl
        · rw [z, hPt] at e; cases e; exact n2 rfl)
    have tb : LamX.TabB (hidT s₁.heap H) mg c Pt := by
      obtain ⟨og, es, ep, g1, g2, _⟩ := G.T.g
      obtain ⟨bm, ob, b1, b2, b3, b4, b5, b6⟩ := G.T.bmain
      obtain ⟨oc, vs', r1, r2, r3, r4, r5, r6, r7, e1, e2, e3⟩ := hcode
      refine ⟨⟨oc, vs', r1, r2, r3, r4, r5, r6, r7, obs e1 (by rw [e2]; exact fun z => nomatch z) (by rw [e2]; exact fun z => nomatch z), e2, e3⟩, ⟨bm, ob, b1, b2, ?_, ?_, obs b3 (by rw [b4]; exact fun z => by injection z with z; exact absurd z (by decide)) (by rw [b4]; exact fun z => nomatch z), b4, b5, b6⟩, ?_⟩
      · intro z; rw [z, g1] at b3; cases b3; rw [g2] at b6; cases b6
      · intro z; rw [z, hPt] at b3; cases b3; cases b6
      · intro z; rw [z, hPt] at g1; cases g1; cases g2
    have env : Env0 l.prog w (K w.params) mg (hidT s₁.heap H) callerA [] s₁ H :=
      ⟨rfl, ⟨kin, ns' G.T.g, ⟨mb, ns' G.T.b, G.T.builtins⟩, G.T.nolimit.imp fun _ h => ⟨ns' h.1, h.2⟩⟩, fun _ _ e => of_hidT e, Nat.le_of_eq (hidT_size _ _), trivial, fun _ hb => absurd hb (by simp [frs]), hok, .of_eq hg⟩
    refine codeAny_mono ((hF _ kin (ns' G.T.g) tb).run callerA [] s₁ H ⟨[.ref a], []⟩ [.ref a] [.ref a] _ _ rfl hr env (hbind s₁ (.ref a)) (.cons rfl .nil) (hsp _ H a Pt ns hlen hT hS)) fun r s' h => ?_
    match r, h with
    | .ok (.ret u), h =>
      obtain ⟨v, H', os, bare, un, hok', rv, qv⟩ := h
      have qv : v = .bl true := qv
      subst qv
      obtain rfl : u = Value.bool true := rv
      refine ⟨rfl, ⟨fun b ob e => ?_, fun b ob e => un.there b ob e (by simp)⟩, os, bare⟩
      rcases hO b with z | ⟨z, _⟩ | ⟨ob', xs, z⟩
      · exact .inl (un.keep b ob e z (by simp [frs]) (by simp))
      · subst z
        obtain ⟨more, hm⟩ := un.tbls b _ hT
        have h2 := hok' b _ hm
        rw [hPt] at e
        cases e
        exact .inr (.inl ⟨let ⟨o, vs, _, _, _, _, _, _, _, e1, e2, e3, e4, _⟩ := hcode; ⟨c, o, vs, e1, e2, e3, e4⟩, rfl, #[], more, rfl, h2⟩)
      · have h1 := (hok b _ z).1
        have h2 := (hok' b _ (un.frzs b ob' _ z)).1
        rw [e] at h1
        cases h1
        exact .inl h2
    | .error _, h => exact h.elim
    | .ok .next, h => exact h.elim
    | .ok .brk, h => exact h.elim
    | .ok .cont, h => exact h.elim
  have lenV := hints.length
  cases hk : (K w.params).lookup a with
  | some ob =>
    have e := KX a ob hk
    rw [hobj] at e
    cases e
    refine main (fun b => if b = Pt then some (.tbl #[]) else none) (fun b => ?_) (if_pos rfl) ⟨vs, rel, hl1, .inl hk⟩ (fun b u z => ?_) fun b z => ?_
    all_goals try dsimp only at z
    · by_cases hb : b = Pt
      · exact .inr (.inl ⟨hb, if_pos hb⟩)
      · exact .inl (if_neg hb)
    · by_cases hb : b = Pt
      · rw [if_pos hb] at z
        cases z
        rw [hb]
        exact hPt
      · rw [if_neg hb] at z; cases z
    · by_cases hb : b = Pt
      · exact .inl hb
      · rw [if_neg hb] at z; exact absurd rfl z
  | none =>
    refine main (fun b => if b = Pt then some (.tbl #[]) else if b = a then some (.frz { cls := .type "list", data := .seq vs.toArray } (.lst (ns.map V.int))) else none) (fun b => ?_) (if_pos rfl) ⟨vs, rel, hl1, .inr (show (if a = Pt then some (HO.tbl #[]) else if a = a then _ else none) = _ by rw [if_neg naP, if_pos rfl])⟩ (fun b u z => ?_) fun b z => ?_
    all_goals try dsimp only at z
    · by_cases hb : b = Pt
      · exact .inr (.inl ⟨hb, if_pos hb⟩)
      · by_cases hb2 : b = a
        · exact .inr (.inr ⟨_, _, by dsimp only; rw [if_neg hb, if_pos hb2]⟩)
        · exact .inl (by dsimp only; rw [if_neg hb, if_neg hb2])
    · by_cases hb : b = Pt
      · rw [if_pos hb] at z
        cases z
        rw [hb]
        exact hPt
      · rw [if_neg hb] at z
        by_cases hb2 : b = a
        · rw [if_pos hb2] at z
          cases z
          subst hb2
          exact ⟨hobj, by rw [List.length_map]; exact hl, vs, _, rel, hobj⟩
        · rw [if_neg hb2] at z; cases z
    · by_cases hb : b = Pt
      · exact .inl hb
      · rw [if_neg hb] at z
        by_cases hb2 : b = a
        · exact .inr ⟨hb2, hk⟩
        · rw [if_neg hb2] at z; exact absurd rfl z
end TP

namespace TP
open PySem PySem.Spec PyProof.Rows L2
/-- what holds of every heap: nothing that is tracked lies where sys.modules lies -/
def tSys (t : TE) : TE := fun σ H Q => t σ H fun v H' => (∀ a o, H' a = some o → a ≠ sysModules) → Q v H'
theorem pe_sys {X : Cx} {e : Expr} {t : TE} (hS : ∃ o, X.base.get? sysModules = some o) (h : PE X e t) : PE X e (tSys t) := by
  refine ⟨fun pins s σ H Q I hw => thn (h.run pins s σ H _ I hw) fun u s1 ⟨v, H', I', rv, q⟩ => ⟨v, H', I', rv, q fun a o e z => ?_⟩⟩
  obtain ⟨o1, h1⟩ := hS
  have := (I'.bs _ _ h1).2
  rw [← z, e] at this
  cases this
/-- as walk_GT, and sys.modules stands in the base: the head's end, for a law whose own def asks that no repr is under way, and a code table -/
theorem walk_GTS {l : PySem.W.OpenLaw} {n k : Nat} {q : Program} {loose : List Str} {XP : (Str → Option Value) → Heap → Prop} {YP : World → Heap → Prop} {d : DefRec} {K : Params → PySem.W.Frag} {sp : PySem.W.Frag → Addr → Sp} {x : Str}
    (himp : importsNone q = true) (hn : l.most = some n) (hn2 : n ≤ 1000) (hdf : d.params.defaults = []) (hr : Room k callerA) (hY : ∀ (w : World) (h : Heap), YP w h → (K w.params).In h)
    (F : ∀ (w : World) (mg : Str → Option Value) (fa : Addr) (h : Heap), YP w h → (K w.params).In h → h.Ns mainGlobals mg → mg d.name = some (.ref fa) →
      ∃ (c Pt : Addr), h.get? Pt = some (PySem.W.tabObj #[]) ∧ (K w.params).lookup Pt = none ∧ PySem.W.CodeHd h c Pt ∧ ∃ fd : FuncData, (∀ (s : Shared) (u : Value), BindsTo s fd ⟨[u], []⟩ [(x, u)]) ∧
        ∀ base : Heap, (K w.params).In base → base.Ns mainGlobals mg → LamX.TabB base mg c Pt → (∃ o, base.get? sysModules = some o) → FnOkG l.prog w (K w.params) mg base CX0 k fa fd [x] (sp (K w.params) Pt))
    (hsp : ∀ (K : PySem.W.Frag) (H : Hp) (a Pt : Addr) (ns : List Int), ns.length ≤ n → H Pt = some (.tbl #[]) → ScrAt K H a (ns.map V.int) → sp K Pt [.ref a] H (fun v _ => v = .bl true) fun _ _ _ => False) :
    PySem.W.WalkO q loose XP YP l.row.toRowW d [] (fun f vs => PySem.call f vs) := by
  refine Att.attach_call hn hdf fun w s₀ s₁ mg mb fa o pm cd doc a vs ns G Y ho hd hcd hmg hobj hints hlen hg => ?_
  have KX := hY w _ Y
  obtain ⟨c, Pt, hPt, hKP, hcode, fd, hbind, hF⟩ := F w mg fa _ Y KX G.T.g hmg
  have hl1 : (ns.map V.int).length ≤ 1000 := by rw [List.length_map]; exact Nat.le_trans hlen hn2
  have hl : ns.length ≤ sizeLine := Nat.le_trans (Nat.le_trans hlen hn2) (by decide)
  have rel := vals_ints hints
  have naP : a ≠ Pt := fun z => by
    rw [z, hPt] at hobj
    cases hobj
  have main : ∀ H : Hp, OnlyT Pt H → H Pt = some (.tbl #[]) → ScrAt (K w.params) H a (ns.map V.int) → HOk l.prog w H s₁.heap → (∀ b, H b ≠ none → b = Pt ∨ (b = a ∧ (K w.params).lookup a = none)) →
      codeAny (model l.prog w) callerA (.call (.ref fa) ⟨[.ref a], []⟩) (fun r s' => r = .ok (.ret (.bool true)) ∧ OldK s₁.heap s'.heap ∧ s'.os = s₁.os ∧ AllBare s'.gens) s₁ := fun H hO hT hS hok only => by
    have free : ∀ {b : Addr} {ob : Obj}, s₁.heap.get? b = some ob → (b = a ∨ b = Pt → False) → H b = none := fun {b ob} e z => by
      cases hb : H b with
      | none => rfl
      | some u => exact ((only b (by rw [hb]; exact fun y => nomatch y)).elim (fun y => z (.inr y)) fun y => z (.inl y.1)).elim
    have ns' : ∀ {b : Addr} {m : Str → Option Value}, s₁.heap.Ns b m → (hidT s₁.heap H).Ns b m := fun {b m} h => by
      obtain ⟨ob, es, ep, e1, e2, e3⟩ := h
      exact ⟨ob, es, ep, hidT_get e1 (free e1 fun z => by
        rcases z with z | z
        · rw [z, hobj] at e1; cases e1; cases e2
        · rw [z, hPt] at e1; cases e1; cases e2), e2, e3⟩
    have kin : (K w.params).In (hidT s₁.heap H) := fun b ob e => hidT_get (KX b ob e) (by
      cases hb : H b with
      | none => rfl
      | some u =>
        rcases only b (by rw [hb]; exact fun y => nomatch y) with z | ⟨z, z0⟩
        · rw [z, hKP] at e; cases e
        · rw [z, z0] at e; cases e)
    have obs : ∀ {b : Addr} {ob : Obj}, s₁.heap.get? b = some ob → ob.cls ≠ .type "list" → ob.cls ≠ .none → (hidT s₁.heap H).get? b = some ob := fun {b ob} e n1 n2 => hidT_get e (free e fun z => by
        rcases z with z | z
        · rw [z, hobj] at e; cases e; exact n1 rfl
        · rw [z, hPt] at e; cases e; exact n2 rfl)
    have tb : LamX.TabB (hidT s₁.heap H) mg c Pt := by
      obtain ⟨og, es, ep, g1, g2, _⟩ := G.T.g
      obtain ⟨bm, ob, b1, b2, b3, b4, b5, b6⟩ := G.T.bmain
      obtain ⟨oc, vs', r1, r2, r3, r4, r5, r6, r7, e1, e2, e3⟩ := hcode
      refine ⟨⟨oc, vs', r1, r2, r3, r4, r5, r6, r7, obs e1 (by rw [e2]; exact fun z => nomatch z) (by rw [e2]; exact fun z => nomatch z), e2, e3⟩, ⟨bm, ob, b1, b2, ?_, ?_, obs b3 (by rw [b4]; exact fun z => by injection z with z; exact absurd z (by decide)) (by rw [b4]; exact fun z => nomatch z), b4, b5, b6⟩, ?_⟩
      · intro z; rw [z, g1] at b3; cases b3; rw [g2] at b6; cases b6
      · intro z; rw [z, hPt] at b3; cases b3; cases b6
      · intro z; rw [z, hPt] at g1; cases g1; cases g2
    have sys : ∃ o, (hidT s₁.heap H).get? sysModules = some o := by
      obtain ⟨mm, hm, _⟩ := (G.T.seer himp).mods
      obtain ⟨o, _, _, e, _⟩ := ns' hm
      exact ⟨o, e⟩
    have env : Env0 l.prog w (K w.params) mg (hidT s₁.heap H) callerA [] s₁ H :=
      ⟨rfl, ⟨kin, ns' G.T.g, ⟨mb, ns' G.T.b, G.T.builtins⟩, G.T.nolimit.imp fun _ h => ⟨ns' h.1, h.2⟩⟩, fun _ _ e => of_hidT e, Nat.le_of_eq (hidT_size _ _), trivial, fun _ hb => absurd hb (by simp [frs]), hok, .of_eq hg⟩
    refine codeAny_mono ((hF _ kin (ns' G.T.g) tb sys).run callerA [] s₁ H ⟨[.ref a], []⟩ [.ref a] [.ref a] _ _ rfl hr env (hbind s₁ (.ref a)) (.cons rfl .nil) (hsp _ H a Pt ns hlen hT hS)) fun r s' h => ?_
    match r, h with
    | .ok (.ret u), h =>
      obtain ⟨v, H', os, bare, un, hok', rv, qv⟩ := h
      have qv : v = .bl true := qv
      subst qv
      obtain rfl : u = Value.bool true := rv
      refine ⟨rfl, ⟨fun b ob e => ?_, fun b ob e => un.there b ob e (by simp)⟩, os, bare⟩
      rcases hO b with z | ⟨z, _⟩ | ⟨ob', xs, z⟩
      · exact .inl (un.keep b ob e z (by simp [frs]) (by simp))
      · subst z
        obtain ⟨more, hm⟩ := un.tbls b _ hT
        have h2 := hok' b _ hm
        rw [hPt] at e
        cases e
        exact .inr (.inl ⟨let ⟨o, vs, _, _, _, _, _, _, _, e1, e2, e3, e4, _⟩ := hcode; ⟨c, o, vs, e1, e2, e3, e4⟩, rfl, #[], more, rfl, h2⟩)
      · have h1 := (hok b _ z).1
        have h2 := (hok' b _ (un.frzs b ob' _ z)).1
        rw [e] at h1
        cases h1
        exact .inl h2
    | .error _, h => exact h.elim
    | .ok .next, h => exact h.elim
    | .ok .brk, h => exact h.elim
    | .ok .cont, h => exact h.elim
  have lenV := hints.length
  cases hk : (K w.params).lookup a with
  | some ob =>
    have e := KX a ob hk
    rw [hobj] at e
    cases e
    refine main (fun b => if b = Pt then some (.tbl #[]) else none) (fun b => ?_) (if_pos rfl) ⟨vs, rel, hl1, .inl hk⟩ (fun b u z => ?_) fun b z => ?_
    all_goals try dsimp only at z
    · by_cases hb : b = Pt
      · exact .inr (.inl ⟨hb, if_pos hb⟩)
      · exact .inl (if_neg hb)
    · by_cases hb : b = Pt
      · rw [if_pos hb] at z
        cases z
        rw [hb]
        exact hPt
      · rw [if_neg hb] at z; cases z
    · by_cases hb : b = Pt
      · exact .inl hb
      · rw [if_neg hb] at z; exact absurd rfl z
  | none =>
    refine main (fun b => if b = Pt then some (.tbl #[]) else if b = a then some (.frz { cls := .type "list", data := .seq vs.toArray } (.lst (ns.map V.int))) else none) (fun b => ?_) (if_pos rfl) ⟨vs, rel, hl1, .inr (show (if a = Pt then some (HO.tbl #[]) else if a = a then _ else none) = _ by rw [if_neg naP, if_pos rfl])⟩ (fun b u z => ?_) fun b z => ?_
    all_goals try dsimp only at z
    · by_cases hb : b = Pt
      · exact .inr (.inl ⟨hb, if_pos hb⟩)
      · by_cases hb2 : b = a
        · exact .inr (.inr ⟨_, _, by dsimp only; rw [if_neg hb, if_pos hb2]⟩)
        · exact .inl (by dsimp only; rw [if_neg hb, if_neg hb2])
    · by_cases hb : b = Pt
      · rw [if_pos hb] at z
        cases z
        rw [hb]
        exact hPt
      · rw [if_neg hb] at z
        by_cases hb2 : b = a
        · rw [if_pos hb2] at z
          cases z
          subst hb2
          exact ⟨hobj, by rw [List.length_map]; exact hl, vs, _, rel, hobj⟩
        · rw [if_neg hb2] at z; cases z
    · by_cases hb : b = Pt
      · exact .inl hb
      · rw [if_neg hb] at z
        by_cases hb2 : b = a
        · exact .inr ⟨hb2, hk⟩
        · rw [if_neg hb2] at z; exact absurd rfl z
end TP

namespace TP
open PySem PySem.Spec PyProof.Rows L2
/-- as walk_G, and sys.modules stands in the base -/
theorem walk_GS {l : PySem.W.OpenLaw} {n k : Nat} {q : Program} {loose : List Str} {XP : (Str → Option Value) → Heap → Prop} {YP : World → Heap → Prop} {d : DefRec} {K : Params → PySem.W.Frag} {sp : PySem.W.Frag → Sp} {x : Str}
    (himp : importsNone q = true) (hn : l.most = some n) (hn2 : n ≤ 1000) (hdf : d.params.defaults = []) (hr : Room k callerA) (hY : ∀ (w : World) (h : Heap), YP w h → (K w.params).In h)
    (F : ∀ (w : World) (mg : Str → Option Value) (fa : Addr) (h : Heap), (K w.params).In h → h.Ns mainGlobals mg → mg d.name = some (.ref fa) →
      ∃ fd : FuncData, (∀ (s : Shared) (u : Value), BindsTo s fd ⟨[u], []⟩ [(x, u)]) ∧
        ∀ base : Heap, (K w.params).In base → base.Ns mainGlobals mg → (∃ o, base.get? sysModules = some o) → FnOkG l.prog w (K w.params) mg base CX0 k fa fd [x] (sp (K w.params)))
    (hsp : ∀ (K : PySem.W.Frag) (H : Hp) (a : Addr) (ns : List Int), ns.length ≤ n → Only H → ScrAt K H a (ns.map V.int) → sp K [.ref a] H (fun v _ => v = .bl true) fun _ _ _ => False) :
    PySem.W.WalkO q loose XP YP l.row.toRowW d [] (fun f vs => PySem.call f vs) := by
  refine Att.attach_call hn hdf fun w s₀ s₁ mg mb fa o pm cd doc a vs ns G Y ho hd hcd hmg hobj hints hlen hg => ?_
  have KX := hY w _ Y
  obtain ⟨fd, hbind, hF⟩ := F w mg fa _ KX G.T.g hmg
  have hl1 : (ns.map V.int).length ≤ 1000 := by rw [List.length_map]; exact Nat.le_trans hlen hn2
  have hl : ns.length ≤ sizeLine := Nat.le_trans (Nat.le_trans hlen hn2) (by decide)
  have rel := vals_ints hints
  -- what may be tracked at the entry: the script's list, if the module does not own it
  have main : ∀ H : Hp, Only H → ScrAt (K w.params) H a (ns.map V.int) → HOk l.prog w H s₁.heap → (∀ b, H b ≠ none → b = a ∧ (K w.params).lookup a = none) →
      codeAny (model l.prog w) callerA (.call (.ref fa) ⟨[.ref a], []⟩) (fun r s' => r = .ok (.ret (.bool true)) ∧ OldK s₁.heap s'.heap ∧ s'.os = s₁.os ∧ AllBare s'.gens) s₁ := fun H hO hS hok only => by
    have free : ∀ {b : Addr} {ob : Obj}, s₁.heap.get? b = some ob → (b = a → ∃ es ep, ob.data = .dict es ep) → H b = none := fun {b ob} e z => by
      cases hb : H b with
      | none => rfl
      | some u =>
        have eb := (only b (by rw [hb]; exact fun y => nomatch y)).1
        obtain ⟨es, ep, dz⟩ := z eb
        rw [eb, hobj] at e
        cases e
        exact nomatch dz
    have ns' : ∀ {b : Addr} {m : Str → Option Value}, s₁.heap.Ns b m → (hidT s₁.heap H).Ns b m := fun {b m} h => by
      obtain ⟨ob, es, ep, e1, e2, e3⟩ := h
      exact ⟨ob, es, ep, hidT_get e1 (free e1 fun _ => ⟨es, ep, e2⟩), e2, e3⟩
    have kin : (K w.params).In (hidT s₁.heap H) := fun b ob e => hidT_get (KX b ob e) (by
      cases hb : H b with
      | none => rfl
      | some u =>
        obtain ⟨eb, e0⟩ := only b (by rw [hb]; exact fun y => nomatch y)
        rw [eb, e0] at e
        cases e)
    have sys : ∃ o, (hidT s₁.heap H).get? sysModules = some o := by
      obtain ⟨mm, hm, _⟩ := (G.T.seer himp).mods
      obtain ⟨o, _, _, e, _⟩ := ns' hm
      exact ⟨o, e⟩
    have env : Env0 l.prog w (K w.params) mg (hidT s₁.heap H) callerA [] s₁ H :=
      ⟨rfl, ⟨kin, ns' G.T.g, ⟨mb, ns' G.T.b, G.T.builtins⟩, G.T.nolimit.imp fun _ h => ⟨ns' h.1, h.2⟩⟩, fun _ _ e => of_hidT e, Nat.le_of_eq (hidT_size _ _), trivial, fun _ hb => absurd hb (by simp [frs]), hok, .of_eq hg⟩
    refine codeAny_mono ((hF _ kin (ns' G.T.g) sys).run callerA [] s₁ H ⟨[.ref a], []⟩ [.ref a] [.ref a] _ _ rfl hr env (hbind s₁ (.ref a)) (.cons rfl .nil) (hsp _ H a ns hlen hO hS)) fun r s' h => ?_
    match r, h with
    | .ok (.ret u), h =>
      obtain ⟨v, H', os, bare, un, hok', rv, qv⟩ := h
      have qv : v = .bl true := qv
      subst qv
      obtain rfl : u = Value.bool true := rv
      refine ⟨rfl, OldK.of_keep fun b ob e => ?_, os, bare⟩
      rcases hO b with z | ⟨ob', xs, z⟩
      · exact un.keep b ob e z (by simp [frs]) (by simp)
      · have h1 := (hok b _ z).1
        have h2 := (hok' b _ (un.frzs b ob' _ z)).1
        rw [e] at h1
        cases h1
        exact h2
    | .error _, h => exact h.elim
    | .ok .next, h => exact h.elim
    | .ok .brk, h => exact h.elim
    | .ok .cont, h => exact h.elim
  have lenV := hints.length
  cases hk : (K w.params).lookup a with
  | some ob =>
    have e := KX a ob hk
    rw [hobj] at e
    cases e
    exact main (fun _ => none) (fun _ => .inl rfl) ⟨vs, rel, hl1, .inl hk⟩ (fun _ _ z => nomatch z) fun _ z => absurd rfl z
  | none =>
    have one : ∀ {b : Addr} {u : HO}, (if b = a then some (HO.frz { cls := .type "list", data := .seq vs.toArray } (.lst (ns.map V.int))) else none) = some u → b = a ∧ u = .frz { cls := .type "list", data := .seq vs.toArray } (.lst (ns.map V.int)) := fun {b u} z => by
      by_cases hb : b = a
      · rw [if_pos hb] at z
        exact ⟨hb, (Option.some.inj z).symm⟩
      · rw [if_neg hb] at z
        cases z
    refine main (fun b => if b = a then some (.frz { cls := .type "list", data := .seq vs.toArray } (.lst (ns.map V.int))) else none) (fun b => ?_) ⟨vs, rel, hl1, .inr (if_pos rfl)⟩ (fun b u z => ?_) fun b z => ?_
    · by_cases hb : b = a
      · exact .inr ⟨_, _, if_pos hb⟩
      · exact .inl (if_neg hb)
    · obtain ⟨rfl, rfl⟩ := one z
      exact ⟨hobj, by rw [List.length_map]; exact hl, vs, _, rel, hobj⟩
    · obtain ⟨u, hu⟩ := Option.ne_none_iff_exists'.mp z
      exact ⟨(one hu).1, hk⟩
end TP

namespace TP
open PySem PySem.Spec PyProof.Rows L2
/-! ### new lists away from one address -/
section
variable {X : Cx} {es : List Expr} {t : TA} {pos : Pos}
def tLstS (t : TA) : TE := fun σ H Q => t σ H fun xs H1 => xs.length ≤ sizeLine ∧ ∀ p, H1 p = none → p ≠ sysModules → Q (.ref p) (upd H1 p (.lst xs))
theorem pe_lstS (h : PA X es t) : PE X (.List es pos) (tLstS t) := by
  refine ⟨fun pins s σ H Q I hq => wpAny_List_spliced (thn (h.run pos pins s σ H _ I hq) fun us s1 ⟨xs, H1, I1, r, z, q⟩ => ⟨by rw [← r.length]; exact z, ?_⟩)⟩
  exact ⟨.ref s1.heap.objs.size, upd H1 s1.heap.objs.size (.lst xs), I1.laid (t' := s1.toks) (fun b u e => Heap.get?_push_of_some _ e) (Nat.le_refl _) ⟨z, us, 0, r, Heap.get?_push_size _ rfl⟩, rfl, q _ (I1.hok.fresh (Nat.le_refl _)) (Nat.ne_of_gt I1.big)⟩
end
/-! ### data, dicts among it, as the heap holds it -/
mutual
inductive Pd (H : Hp) : V → PyData → Prop
  | non : Pd H .non .none
  | int (i : Int) : Pd H (.int i) (.int i)
  | str (x : Str) : Pd H (.str x) (.str x)
  | lst {a : Addr} {xs : List V} {ds : List PyData} : a ≠ sysModules → Rd H a (.lst xs) → PdAll H xs ds → Pd H (.ref a) (.list ds)
  | tup {a : Addr} {xs : List V} {ds : List PyData} : Rd H a (.tup xs) → PdAll H xs ds → Pd H (.ref a) (.tuple ds)
  | dct {a : Addr} {ms : List (Str × V)} {ds : List PyData} : Rd H a (.dK (kvsOf ms)) → PdAll H (ms.map (·.2)) ds → Pd H (.ref a) (.dict ((ms.map fun p => PyData.str p.1).zip ds))
inductive PdAll (H : Hp) : List V → List PyData → Prop
  | nil : PdAll H [] []
  | cons {v : V} {vs : List V} {d : PyData} {ds : List PyData} : Pd H v d → PdAll H vs ds → PdAll H (v :: vs) (d :: ds)
end
theorem PdAll.length {H : Hp} : ∀ {vs : List V} {ds : List PyData}, PdAll H vs ds → vs.length = ds.length
  | _, _, .nil => rfl
  | _, _, .cons _ h => congrArg Nat.succ h.length
mutual
theorem Pd.ex [TabL] {H H' : Hp} (e : Ex H H') : ∀ {v : V} {d : PyData}, Pd H v d → Pd H' v d
  | _, _, .non => .non
  | _, _, .int i => .int i
  | _, _, .str x => .str x
  | _, _, .lst n r h => .lst n (ex_rd e r) (PdAll.ex e h)
  | _, _, .tup r h => .tup (ex_rd e r) (PdAll.ex e h)
  | _, _, .dct r h => .dct (ex_rd e r) (PdAll.ex e h)
theorem PdAll.ex [TabL] {H H' : Hp} (e : Ex H H') : ∀ {vs : List V} {ds : List PyData}, PdAll H vs ds → PdAll H' vs ds
  | _, _, .nil => .nil
  | _, _, .cons h k => .cons (Pd.ex e h) (PdAll.ex e k)
end
theorem reads_keys {P : Program} {w : World} {h : Heap} : ∀ {es : List DictEntry} {ms : List (Str × V)} {vs : List (Key × Value)}, Pairs (mixKind P w) es vs → KV (kvsOf ms) vs →
    ReadsAll h (es.map (·.key)) (ms.map fun p => PyData.str p.1) [] ∧ Vals (ms.map (·.2)) (es.map (·.val))
  | _, [], _, p, k => by
    cases k
    cases p
    exact ⟨.nil, .nil⟩
  | _, m :: ms, _, p, k => by
    cases k with
    | @cons _ q _ qs hk ht =>
      cases p with
      | @cons e _ es _ h1 h2 h3 =>
        obtain ⟨r1, r2⟩ := reads_keys (h := h) h3 ht
        obtain ⟨e1, e2⟩ := hk
        have h1' : keyIs (Sum.inr m.1) e.key = true := by rw [← e1] at h1; exact h1
        rcases keyIs_shape h1' with ⟨i, t, z, _⟩ | ⟨x, t, z, ek⟩
        · cases z
        · have z' : m.1 = x := Sum.inr.inj z
          refine ⟨?_, .cons (by show L2.RelV m.2 e.val; rw [h2]; exact e2) r2⟩
          show ReadsAll h (e.key :: _) (PyData.str m.1 :: _) ([] ++ [])
          rw [ek, z']
          exact .cons (.str _ _) r1
mutual
theorem Pd.reads {X : Cx} {pins : List (Addr × Obj)} {σ : L2.St} {H : Hp} {s : Shared} (I : Inv X pins σ H s) : ∀ {v : V} {d : PyData} {u : Value}, Pd H v d → RelV v u → ∃ as, Reads s.heap u d as ∧ sysModules ∉ as
  | _, _, _, .non, r => by cases (show _ = Value.none from r); exact ⟨_, .none, by simp⟩
  | _, _, _, .int i, r => by obtain ⟨t, e⟩ := (show ∃ t, _ = Value.int i t from r); cases e; exact ⟨_, .int i t, by simp⟩
  | _, _, _, .str x, r => by obtain ⟨t, e⟩ := (show ∃ t, _ = Value.str x t from r); cases e; exact ⟨_, .str x t, by simp⟩
  | _, _, _, @Pd.lst _ a xs ds n rd h, r => by
    cases (show _ = Value.ref a from r)
    obtain ⟨_, its, m, rv, e⟩ := (show ObjOk X.prog X.w H s.heap a (.lst xs) from rd.ok I.hok)
    obtain ⟨as, q, ns⟩ := PdAll.reads I h rv
    exact ⟨_, Reads.list (vs := its.toArray) e rfl rfl (by simpa using q), by simp [ns, n.symm]⟩
  | _, _, _, @Pd.tup _ a xs ds rd h, r => by
    cases (show _ = Value.ref a from r)
    obtain ⟨_, its, rv, o, e1, e2, m, e3⟩ := (show ObjOk X.prog X.w H s.heap a (.tup xs) from rd.ok I.hok)
    obtain ⟨as, q, ns⟩ := PdAll.reads I h rv
    exact ⟨_, Reads.tuple (vs := its.toArray) e1 e2 e3 (by simpa using q), ns⟩
  | _, _, _, @Pd.dct _ a ms ds rd h, r => by
    cases (show _ = Value.ref a from r)
    obtain ⟨_, hs, vs, kv, o, es, ep, e1, e2, e3, _, pr, _⟩ := (show ObjOk X.prog X.w H s.heap a (.dK (kvsOf ms)) from rd.ok I.hok)
    obtain ⟨r1, rv⟩ := reads_keys (h := s.heap) pr kv
    obtain ⟨as, q, ns⟩ := PdAll.reads I h rv
    have hl := h.length
    have k1 : ((ms.map fun p => PyData.str p.1).zip ds).map (·.1) = ms.map fun p => PyData.str p.1 := by
      rw [List.map_fst_zip]
      rw [List.length_map] at hl
      rw [List.length_map]; omega
    have k2 : ((ms.map fun p => PyData.str p.1).zip ds).map (·.2) = ds := by
      rw [List.map_snd_zip]
      rw [List.length_map] at hl
      rw [List.length_map]; omega
    have hne : sysModules ≠ a := fun z => by rw [← z] at hs; simp at hs
    exact ⟨_, Reads.dict (as := []) (bs := as) e1 e2.1 e3 (by rw [k1]; exact r1) (by rw [k2]; exact q), by simp [ns, hne]⟩
theorem PdAll.reads {X : Cx} {pins : List (Addr × Obj)} {σ : L2.St} {H : Hp} {s : Shared} (I : Inv X pins σ H s) : ∀ {vs : List V} {ds : List PyData} {us : List Value}, PdAll H vs ds → Vals vs us → ∃ as, ReadsAll s.heap us ds as ∧ sysModules ∉ as
  | _, _, _, .nil, r => by cases r; exact ⟨_, .nil, by simp⟩
  | _, _, _, .cons h k, r => by
    cases r with
    | cons r1 r2 =>
      obtain ⟨as, q1, n1⟩ := Pd.reads I h r1
      obtain ⟨bs, q2, n2⟩ := PdAll.reads I k r2
      exact ⟨_, .cons q1 q2, by simp [n1, n2]⟩
end
/-- repr(x) -/
def rRepr : List V → Hp → VK → Prop := fun xs H Q => ∃ x d, xs = [x] ∧ Pd H x d ∧ d.showable = true ∧ d.shown.length ≤ sizeLine ∧ d.depth ≤ 40 ∧ Q (.str d.shown) H
section
variable {X : Cx}
theorem call_reprD (hg : X.A.guards = some []) (hu : X.A.units + 64 < cLine) : CallR X (.builtin "repr") rRepr := by
  intro pins s σ H xs us Q I r h
  obtain ⟨x, d, rfl, hp, hs, hz, hd, q⟩ := h
  obtain ⟨u, rfl, r1⟩ := vals1 r
  obtain ⟨as, rd, ns⟩ := hp.reads I r1
  cases hp with
  | non =>
    cases (show _ = Value.none from r1)
    exact PySem.P.repr_of_none ⟨.str _, H, I.tok _, ⟨_, rfl⟩, by simpa only [PyData.shown] using q⟩
  | int i =>
    obtain ⟨t, e⟩ := (show ∃ t, _ = Value.int i t from r1)
    cases e
    exact PySem.P.repr_of_int (by simpa [PyData.showable] using hs) ⟨.str _, H, I.tok _, ⟨_, rfl⟩, by simpa only [PyData.shown] using q⟩
  | str y =>
    obtain ⟨t, e⟩ := (show ∃ t, _ = Value.str y t from r1)
    cases e
    exact PySem.P.repr_of_str ⟨.str _, H, I.tok _, ⟨_, rfl⟩, by simpa only [PyData.shown] using q⟩ (by simpa only [PyData.shown] using hz)
  | lst n rdd al =>
    cases (show _ = Value.ref _ from r1)
    exact repr_of_reads' rd hs (fun _ => ns) hg (by omega) (fun _ _ e => e) (fun h' u tk hk => ⟨.str _, H, I.kept (t' := tk) hk, ⟨_, rfl⟩, q⟩) hz
  | tup rdd al =>
    cases (show _ = Value.ref _ from r1)
    exact repr_of_reads' rd hs (fun _ => ns) hg (by omega) (fun _ _ e => e) (fun h' u tk hk => ⟨.str _, H, I.kept (t' := tk) hk, ⟨_, rfl⟩, q⟩) hz
  | dct rdd al =>
    cases (show _ = Value.ref _ from r1)
    exact repr_of_reads' rd hs (fun _ => ns) hg (by omega) (fun _ _ e => e) (fun h' u tk hk => ⟨.str _, H, I.kept (t' := tk) hk, ⟨_, rfl⟩, q⟩) hz
end
/-! ### documents compared -/
theorem flat_sc {v : V} (z : isSc v = true) : flatB v = true := by cases v <;> first | rfl | cases z
theorem scal_sc {v : V} (z : isSc v = true) : scal v v = true := by cases v <;> first | rfl | cases z
theorem ob_keys {S S' : Addr → Prop} {G G' : Gen} {H : Hp} {n m : Nat} {ms ms' : List (Str × V)} {f : Str → D} (h : Mem S G H n ms f) (h' : Mem S' G' H m ms' f) : ms.length = ms'.length ∧ ∀ p ∈ kvsOf ms, ∃ u, valV (kvsOf ms') p.1 = some u ∧ ∃ d, Dc S G H n p.2 d ∧ Dc S' G' H m u d := by
  have look : ∀ k ∈ ms.map (·.1), ∃ u w, valV ms k = some u ∧ valV ms' k = some w := fun k hk => by
    obtain ⟨u, hu⟩ := valV_some_of hk
    cases hv : valV ms' k with
    | some w => exact ⟨u, w, hu, rfl⟩
    | none =>
      have z := (h.at' k u hu).ne_nil
      rw [h'.no k hv] at z
      cases z
  have look' : ∀ k ∈ ms'.map (·.1), k ∈ ms.map (·.1) := fun k hk => by
    obtain ⟨u, hu⟩ := valV_some_of hk
    cases hv : valV ms k with
    | some w => exact List.mem_map.mpr ⟨_, valV_mem hv, rfl⟩
    | none =>
      have z := (h'.at' k u hu).ne_nil
      rw [h.no k hv] at z
      cases z
  have l1 := sub_len h.nd fun k hk => by
    obtain ⟨_, w, _, hw⟩ := look k hk
    exact (List.mem_map.mpr ⟨_, valV_mem hw, rfl⟩ : k ∈ ms'.map (·.1))
  have l2 := sub_len h'.nd look'
  rw [List.length_map, List.length_map] at l1 l2
  refine ⟨by omega, fun p hp => ?_⟩
  obtain ⟨⟨k, u⟩, hq, e⟩ := List.mem_map.mp hp
  subst e
  obtain ⟨u', w, hu, hw⟩ := look k (List.mem_map.mpr ⟨_, hq, rfl⟩)
  rw [valV_of_mem h.nd hq] at hu
  cases hu
  exact ⟨w, by rw [valV_inK]; exact hw, _, h.at' k u (valV_of_mem h.nd hq), h'.at' k w hw⟩
theorem items_at {C : V → Bool} (sc : ∀ v, C v = true → isSc v = true) {A : Around} {s : Shared} : ∀ {zs : List V} {us ws : List Value}, (∀ z ∈ zs, C z = true) → Vals zs us → Vals zs ws → ∀ j (h1 : j < us.length) (h2 : j < ws.length), SeqAt.EqAt A s us[j] ws[j] true
  | [], _, _, _, r, _, j, h1, _ => by cases r; exact absurd h1 (Nat.not_lt_zero j)
  | z :: zs, _, _, hz, .cons r rs, .cons r' rs', 0, _, _ => eqAt_same r r' (flat_sc (sc z (hz z List.mem_cons_self)))
  | z :: zs, _, _, hz, .cons r rs, .cons r' rs', j + 1, h1, h2 => items_at sc (fun w hw => hz w (List.mem_cons_of_mem _ hw)) rs rs' j (Nat.lt_of_succ_lt_succ h1) (Nat.lt_of_succ_lt_succ h2)
section
variable {X : Cx} {pins : List (Addr × Obj)} {σ : L2.St} {H : Hp} {s : Shared}
theorem items_same (I : Inv X pins σ H s) {C : V → Bool} (sc : ∀ v, C v = true → isSc v = true) {A : Around} : ∀ {zs : List V} {us ws : List Value}, (∀ z ∈ zs, C z = true) → Vals zs us → Vals zs ws → ∀ j (h1 : j < us.length) (h2 : j < ws.length), SeqAt.EqP X.prog X.w A s us[j] ws[j] true
  | [], _, _, _, r, _, j, h1, _ => by cases r; exact absurd h1 (Nat.not_lt_zero j)
  | z :: zs, _, _, hz, .cons r rs, .cons r' rs', 0, _, _ => (eqAt_same r r' (flat_sc (sc z (hz z List.mem_cons_self)))).eqP
  | z :: zs, _, _, hz, .cons r rs, .cons r' rs', j + 1, h1, h2 => items_same I sc (fun w hw => hz w (List.mem_cons_of_mem _ hw)) rs rs' j (Nat.lt_of_succ_lt_succ h1) (Nat.lt_of_succ_lt_succ h2)
/-- two objects that stand for one document -/
theorem docs_rc (I : Inv X pins σ H s) {S S' : Addr → Prop} {G G' : Gen} {n m : Nat} {a b : Addr} {d : D} (ih : ∀ (A : Around) (x y : V) (e : D) (v u : Value), A.units + n < cLine → Dc S G H n x e → Dc S' G' H m y e → RelV x v → RelV y u → SeqAt.EqP X.prog X.w A s v u true)
    {A : Around} (hu : A.units + (n + 1) < cLine) (h : Dc S G H (n + 1) (.ref a) d) (h' : Dc S' G' H (m + 1) (.ref b) d) (E Q : Value → Shared → Prop) (q : Q (.bool true) s) : wpAny (model X.prog X.w) A (richCompare .Eq (.ref a) (.ref b)) Q E s := by
  rcases h with ⟨hx, rfl⟩ | ⟨a', xs, e1, s1, r, hx, rfl⟩ | ⟨a', ms, f, e1, s1, r, nd, ks, rfl, no, at'⟩
  · exact nomatch G.sc _ hx
  · cases e1
    rcases h' with ⟨hy, e⟩ | ⟨b', ys, e2, s', r', hy, e⟩ | ⟨b', ms', f', e2, s', r', nd', ks', e, no', at''⟩
    · cases e
    · cases e2
      injection e with e
      subst e
      obtain ⟨us, r1, p1, _⟩ := I.list (.inl (.inl r))
      obtain ⟨ws, r2, p2, _⟩ := I.list (.inl (.inl r'))
      refine SeqAt.rcP_lists (e := fun _ => true) p1.isList p2.isList (by rw [List.size_toArray, List.size_toArray, ← r1.length, ← r2.length]) (by omega) (fun j h1 h2 => ?_) E Q ?_
      · simpa using items_same I G.sc (A := A.in1) hx.2 r1 r2 j (by simpa using h1) (by simpa using h2)
      · rw [show ((List.range us.toArray.size).all fun _ => true) = true from List.all_eq_true.mpr fun _ _ => rfl]
        exact q
    · cases e
  · cases e1
    rcases h' with ⟨hy, e⟩ | ⟨b', ys, e2, s', r', hy, e⟩ | ⟨b', ms', f', e2, s', r', nd', ks', e, no', at''⟩
    · cases e
    · cases e
    · cases e2
      injection e with e
      subst e
      obtain ⟨_, ya, va, ra, da⟩ := dk_rd I.hok (.inl r)
      obtain ⟨_, yb, vb, rb, db⟩ := dk_rd I.hok (.inl r')
      obtain ⟨hl, hp⟩ := ob_keys (Mem.mk nd ks no at') (Mem.mk nd' ks' no' at'')
      refine PySem.W.rcP_dicts (knd := mixKind X.prog X.w) (r := true) ya yb da db (by omega) (fun _ => hits_run (F := fun x y => ∃ e, Dc S G H n x e ∧ Dc S' G' H m y e) (fun x y v u z rx ry => ?_) rb ra hp) E Q ?_
      · obtain ⟨e, z1, z2⟩ := z
        exact ih _ _ _ _ _ _ (show A.units + 1 + n < cLine by omega) z1 z2 rx ry
      · have e : va.length = vb.length := by rw [← ra.length, ← rb.length, List.length_map, List.length_map]; exact hl
        rw [show (va.length == vb.length && true) = true from by rw [e]; simp]
        exact q
theorem docs_eq (I : Inv X pins σ H s) {S S' : Addr → Prop} {G G' : Gen} : ∀ (n m : Nat) (A : Around) (x y : V) (d : D) (v u : Value), A.units + n < cLine → Dc S G H n x d → Dc S' G' H m y d → RelV x v → RelV y u → SeqAt.EqP X.prog X.w A s v u true
  | 0, _, _, _, _, _, _, _, _, h, _, _, _ => (show False from h).elim
  | _ + 1, 0, _, _, _, _, _, _, _, _, h, _, _ => (show False from h).elim
  | n + 1, m + 1, A, x, y, d, v, u, hu, h, h', rx, ry => by
    by_cases hs : ∃ z, d = .sc z
    · obtain ⟨z, rfl⟩ := hs
      have hx : G.C x = true ∧ x = z := by
        rcases h with ⟨hx, e⟩ | ⟨a, xs, _, _, _, _, e⟩ | ⟨a, ms, f, _, _, _, _, _, e, _⟩
        · injection e with e; exact ⟨hx, e.symm⟩
        · cases e
        · cases e
      have hy : y = z := by
        rcases h' with ⟨_, e⟩ | ⟨a, xs, _, _, _, _, e⟩ | ⟨a, ms, f, _, _, _, _, _, e, _⟩
        · injection e with e; exact e.symm
        · cases e
        · cases e
      rw [hy, ← hx.2] at ry
      exact (eqAt_same rx ry (flat_sc (G.sc _ hx.1))).eqP
    · have ref : ∀ {S : Addr → Prop} {G : Gen} {k : Nat} {x : V}, Dc S G H k x d → ∃ a, x = .ref a := fun {S G k x} z => by
        refine z.cases (fun _ _ _ e => absurd ⟨_, e⟩ hs) (fun _ a _ _ e _ _ _ _ => ⟨a, e⟩) (fun _ a _ _ _ e _ _ _ _ => ⟨a, e⟩)
      obtain ⟨a, rfl⟩ := ref h
      obtain ⟨b, rfl⟩ := ref h'
      cases (show v = Value.ref a from rx)
      cases (show u = Value.ref b from ry)
      by_cases e : a = b
      · subst e
        exact (SeqAt.EqAt.same _).eqP
      · exact SeqAt.eqP_refs e (docs_rc I (fun A x y e v u hu => docs_eq I n m A x y e v u hu) hu h h')
/-- != of two documents that are equal -/
def rNeDoc : R2 := fun x y H Q => ∃ (S S' : Addr → Prop) (G G' : Gen) (n m : Nat) (d : D), n ≤ 40 ∧ Dc S G H n x d ∧ Dc S' G' H m y d ∧ Q (.bl false) H
theorem op_neDoc (hu : X.A.units + 64 < cLine) : OpR X (compareOp .NotEq) rNeDoc := by
  intro pins s σ H x y v u Q I rx ry h
  obtain ⟨S, S', G, G', n, m, d, hn, h, h', q⟩ := h
  cases n with
  | zero => exact (show False from h).elim
  | succ n =>
  cases m with
  | zero => exact (show False from h').elim
  | succ m =>
    rcases id h with ⟨hx, rfl⟩ | ⟨a, xs, rfl, s1, r, hx, rfl⟩ | ⟨a, ms, f, rfl, s1, r, nd, ks, rfl, no, at'⟩
    · rcases h' with ⟨hy, e⟩ | ⟨b, ys, rfl, s', r', hy, e⟩ | ⟨b, ms', f', rfl, s', r', nd', ks', e, no', at''⟩
      · injection e with e
        subst e
        exact op_ne pins s σ H x x v u Q I rx ry ⟨scal_sc (G.sc _ hx), by simpa using q⟩
      · cases e
      · cases e
    · rcases h' with ⟨hy, e⟩ | ⟨b, ys, rfl, s', r', hy, e⟩ | ⟨b, ms', f', rfl, s', r', nd', ks', e, no', at''⟩
      · cases e
      · injection e with e
        subst e
        cases (show v = Value.ref a from rx)
        cases (show u = Value.ref b from ry)
        obtain ⟨us, r1, p1, _⟩ := I.list (.inl (.inl r))
        obtain ⟨ws, r2, p2, _⟩ := I.list (.inl (.inl r'))
        refine SeqAt.RcNeAt.lists (e := fun _ => true) p1.isList p2.isList (by rw [List.size_toArray, List.size_toArray, ← r1.length, ← r2.length]) (by omega) (fun j h1 h2 => ?_) _ _ _ _ ?_
        · simpa using items_at G.sc (A := X.A.in1) (s := s) hx.2 r1 r2 j (by simpa using h1) (by simpa using h2)
        · rw [show ((List.range us.toArray.size).all fun _ => true) = true from List.all_eq_true.mpr fun _ _ => rfl]
          exact ⟨.bl false, H, I, rfl, q⟩
      · cases e
    · rcases h' with ⟨hy, e⟩ | ⟨b, ys, rfl, s', r', hy, e⟩ | ⟨b, ms', f', rfl, s', r', nd', ks', e, no', at''⟩
      · cases e
      · cases e
      · injection e with e
        subst e
        cases (show v = Value.ref a from rx)
        cases (show u = Value.ref b from ry)
        obtain ⟨_, ya, va, ra, da⟩ := dk_rd I.hok (.inl r)
        obtain ⟨_, yb, vb, rb, db⟩ := dk_rd I.hok (.inl r')
        obtain ⟨hl, hp⟩ := ob_keys (Mem.mk nd ks no at') (Mem.mk nd' ks' no' at'')
        have e : va.length = vb.length := by rw [← ra.length, ← rb.length, List.length_map, List.length_map]; exact hl
        refine wpAny_richCompare_same_room (op := .NotEq) da.typeIs db.typeIs PySem.F.slot_dict_ne (wpAny_call_entry PySem.F.slot_dict_ne da.typeIs PySem.F.entry_dict_ne ?_ (PySem.F.args_dict_ne_2 _ _)) (by omega)
        refine wpAny_bind ?_
        unfold Builtin.Dict.dictSlotArgs
        refine wpAny_bind (wpAny_notOrdered_dict da.typeIs (wpAny_pure (wpAny_bind (wpAny_isInstance (T := "dict") db.typeIs PySem.F.sub_dict_dict ?_))))
        simp only [Bool.not_true, Bool.false_eq_true, if_false]
        refine wpAny_bind (wpAny_pure (wpAny_bind (wpAny_pure (wpAny_bind (PySem.W.samePairsP (r := true) ya yb da db (fun _ => hits_run (F := fun x y => ∃ e, Dc S G H n x e ∧ Dc S' G' H m y e) (fun x y v u z rx ry => ?_) rb ra hp) ?_)))))
        · obtain ⟨e, z1, z2⟩ := z
          exact docs_eq I n m _ _ _ _ _ _ (show X.A.units + 1 + n < cLine by omega) z1 z2 rx ry
        · refine wpAny_pure ⟨_, rfl, (fun x => nomatch x), ?_⟩
          exact ⟨.bl false, H, I, by rw [e]; simp [L2.RelV], q⟩
end
/-! ### max(xs, default=d) of whole numbers -/
section
variable {X : Cx}
def rMaxDef (K : PySem.W.Frag) : List V → List V → Hp → VK → Prop := fun vs zs H Q => ∃ (a : Addr) (ns : List Int) (d : Int), vs = [V.ref a] ∧ zs = [.int d] ∧ SqL K H a (ns.map V.int) ∧
  (ns = [] → Q (.int d) H) ∧ ∀ z ∈ ns, (∀ y ∈ ns, y ≤ z) → Q (.int z) H
theorem int_holds {h : Heap} : ∀ {ns : List Int} {us : List Value}, Vals (ns.map V.int) us → PySem.W.HoldAll h us ns
  | [], _, r => by cases r; exact .nil
  | n :: ns, _, r => by
    cases r with
    | cons r rs =>
      obtain ⟨t, e⟩ := (show ∃ t, _ = Value.int n t from r)
      subst e
      exact .cons ⟨_, .int n t⟩ (int_holds rs)
theorem maxOf_spec : ∀ (ns : List Int) (n : Int), PySem.W.maxOf n ns ∈ n :: ns ∧ ∀ y ∈ n :: ns, y ≤ PySem.W.maxOf n ns
  | [], n => ⟨List.mem_cons_self, fun y hy => by rw [List.mem_singleton.mp hy]; exact Int.le_refl _⟩
  | m :: ns, n => by
    show (PySem.W.maxOf (if PySem.W.DatumOrd.lt n m = true then m else n) ns) ∈ _ ∧ ∀ y ∈ _, y ≤ PySem.W.maxOf (if PySem.W.DatumOrd.lt n m = true then m else n) ns
    have e : (PySem.W.DatumOrd.lt n m = true) ↔ n < m := by
      show decide (n < m) = true ↔ n < m
      exact decide_eq_true_iff
    obtain ⟨h1, h2⟩ := maxOf_spec ns (if PySem.W.DatumOrd.lt n m = true then m else n)
    by_cases c : PySem.W.DatumOrd.lt n m = true
    · rw [if_pos c] at h1 h2 ⊢
      refine ⟨List.mem_cons_of_mem _ h1, fun y hy => ?_⟩
      rcases List.mem_cons.mp hy with rfl | hy
      · exact Int.le_trans (Int.le_of_lt (e.mp c)) (h2 m List.mem_cons_self)
      · exact h2 y hy
    · rw [if_neg c] at h1 h2 ⊢
      refine ⟨(List.mem_cons.mp h1).elim (fun z => by rw [z]; exact List.mem_cons_self) fun z => List.mem_cons_of_mem _ (List.mem_cons_of_mem _ z), fun y hy => ?_⟩
      rcases List.mem_cons.mp hy with rfl | hy
      · exact h2 _ List.mem_cons_self
      · rcases List.mem_cons.mp hy with rfl | hy
        · have := h2 n List.mem_cons_self
          have c' : ¬ n < y := fun z => c (e.mpr z)
          omega
        · exact h2 y (List.mem_cons_of_mem _ hy)
theorem cr_maxDef (hu : X.A.units + 64 < cLine) (hh : X.A.handled = none) : CallRK X (.builtin "max") [Str.ofString "default"] (rMaxDef X.K) := by
  intro pins s σ H vs zs us ws Q I r rz h
  obtain ⟨a, ns, d, rfl, rfl, hs, h0, hq⟩ := h
  obtain rfl := Vals.ref1 r
  obtain ⟨w1, rfl, t, rfl⟩ := vals1 rz
  obtain ⟨its, rv, hl, hz⟩ := I.list hs
  refine PySem.W.max_list_datum_default (xs := ns) hh hl.isList (by simpa using int_holds rv) (show X.A.units + 1 + 0 < cLine by omega) (fun e h' tk hk => ⟨.int d, H, I.kept (t' := tk) hk, ⟨t, rfl⟩, h0 e⟩) fun y ys i v h' tk e hi hv hk => ?_
  obtain ⟨as, rd⟩ := hv
  obtain ⟨m1, m2⟩ := maxOf_spec ys y
  refine ⟨.int (PySem.W.maxOf y ys), H, I.kept (t' := tk) hk, ?_, hq _ (by rw [e]; exact m1) (by rw [e]; exact m2)⟩
  cases rd with
  | int i t => exact ⟨t, rfl⟩
end
/-! ### the script -/
def rCatScr (K : PySem.W.Frag) : R2 := fun x y H Q => ∃ l b xs zs, x = .ref l ∧ y = .ref b ∧ ScrAt K H l xs ∧ H b = some (.lst zs) ∧ zs.length ≤ 1000 ∧ ∀ p, H p = none → Q (.ref p) (upd H p (.lst (xs ++ zs)))
theorem op_catScr {X : Cx} : OpR X (binaryOp .Add) (rCatScr X.K) := by
  intro pins s σ H x y v u Q I rx ry h
  obtain ⟨l, b, xs, zs, rfl, rfl, ⟨its, r, lx, hH⟩, hB, lz, q⟩ := h
  cases (show v = Value.ref l from rx)
  cases (show u = Value.ref b from ry)
  obtain ⟨z2, its2, n2, r2, hl2, e2⟩ := I.lstM hB
  have e : s.heap.get? l = some { cls := .type "list", data := .seq its.toArray } := by
    rcases hH with hH | hH
    · exact I.kIn l _ hH
    · exact (I.hok l _ hH).1
  have hz : xs.length + zs.length ≤ sizeLine := Nat.le_trans (show _ ≤ 2000 by omega) (by decide)
  have l1 := r.length
  refine PySem.P.add_list e e2 ?_ (by rw [List.size_toArray, List.size_toArray]; omega)
  rw [show its.toArray ++ its2.toArray = (its ++ its2).toArray by simp]
  exact ⟨.ref _, _, I.lnew (t' := s.toks) (r.append r2) (by rw [List.length_append]; omega), rfl, q _ I.fresh⟩
/-! ### walks over a locked dict with text keys -/
section
variable {d D : Addr} {o : Obj} {ms : List (Str × V)} {g : TG} {tt : TT} {te tk tv : TE} {vs : List Nat} {σ : L2.St} {H1 : Hp} {Qd : Hp → Prop}
theorem keyAt {i : Nat} {k : Key} {v : V} (h : (kvsOf ms)[i]? = some (k, v)) : ∃ x, ms[i]? = some (x, v) ∧ k = Sum.inr x := by
  rw [List.getElem?_map] at h
  cases e : ms[i]? with
  | none => rw [e] at h; cases h
  | some p =>
    rw [e] at h
    obtain ⟨x, w⟩ := p
    cases h
    exact ⟨x, rfl, rfl⟩
theorem dc_keys (Pv : Nat → Hp → Prop) (h0 : Pv 0 (upd H1 D (.dK []))) (hl : ∀ i H, i ≤ ms.length → Pv i H → H d = some (.frz o (.dK (kvsOf ms))))
    (hs : ∀ i k u H, ms[i]? = some (k, u) → Pv i H → g (.str k) (wipe σ vs) H fun σ2 H2 => wipe σ2 vs = wipe σ vs ∧ tt σ2 H2 fun b H3 =>
      if b = true then tk σ2 H3 fun y H4 => tv σ2 H4 fun z H5 => ∃ kvs k, y = kV k ∧ H5 D = some (.dK kvs) ∧ kvs.length < sizeLine ∧ Pv (i + 1) (upd H5 D (.dK (putK kvs k z))) else Pv (i + 1) H3)
    (hd : ∀ H, Pv ms.length H → Qd H) :
    ∃ W : Nat → Nat → Hp → Prop, (∃ m, W 0 m (upd H1 D (.dK []))) ∧ ∀ i m H, W i m H →
      ((Itk d o (kvsOf ms)).stop i H ∧ Qd H) ∨ ((Itk d o (kvsOf ms)).go i H ∧ ∃ Nx : Hp → Prop, (∀ H', Nx H' → ∃ m', m' < m ∧ W (i + 1) m' H') ∧ ∀ x H', (Itk d o (kvsOf ms)).yld i H x H' → g x (wipe σ vs) H' fun σ2 H2 => wipe σ2 vs = wipe σ vs ∧ tt σ2 H2 fun b H3 =>
        if b = true then tk σ2 H3 fun y H4 => tv σ2 H4 fun z H5 => ∃ kvs k, y = kV k ∧ H5 D = some (.dK kvs) ∧ kvs.length < sizeLine ∧ Nx (upd H5 D (.dK (putK kvs k z))) else Nx H3) := by
  refine ⟨fun i m H => m + i = ms.length ∧ Pv i H, ⟨ms.length, rfl, h0⟩, ?_⟩
  rintro i m H ⟨e, p⟩
  have q := hl i H (by omega) p
  have len : (kvsOf ms).length = ms.length := List.length_map ..
  cases m with
  | zero =>
    have e' : i = ms.length := by omega
    subst e'
    exact .inl ⟨⟨q, by omega⟩, hd H p⟩
  | succ m =>
    refine .inr ⟨⟨q, by omega⟩, Pv (i + 1), fun H' p' => ⟨m, by omega, by omega, p'⟩, fun x H' y => ?_⟩
    obtain ⟨rfl, k, v, h1, rfl⟩ := y
    obtain ⟨z, h2, rfl⟩ := keyAt h1
    exact hs i z v _ h2 p
theorem lc_keys (Pv : Nat → Hp → Prop) (h0 : Pv 0 (upd H1 D (.lst []))) (hl : ∀ i H, i ≤ ms.length → Pv i H → H d = some (.frz o (.dK (kvsOf ms))))
    (hs : ∀ i k u H, ms[i]? = some (k, u) → Pv i H → g (.str k) (wipe σ vs) H fun σ2 H2 => wipe σ2 vs = wipe σ vs ∧ tt σ2 H2 fun b H3 =>
      if b = true then te σ2 H3 fun y H4 => ∃ acc, H4 D = some (.lst acc) ∧ acc.length < sizeLine ∧ Pv (i + 1) (upd H4 D (.lst (acc ++ [y]))) else Pv (i + 1) H3)
    (hd : ∀ H, Pv ms.length H → Qd H) :
    ∃ W : Nat → Nat → Hp → Prop, (∃ m, W 0 m (upd H1 D (.lst []))) ∧ ∀ i m H, W i m H →
      ((Itk d o (kvsOf ms)).stop i H ∧ Qd H) ∨ ((Itk d o (kvsOf ms)).go i H ∧ ∃ Nx : Hp → Prop, (∀ H', Nx H' → ∃ m', m' < m ∧ W (i + 1) m' H') ∧ ∀ x H', (Itk d o (kvsOf ms)).yld i H x H' → g x (wipe σ vs) H' fun σ2 H2 => wipe σ2 vs = wipe σ vs ∧ tt σ2 H2 fun b H3 =>
        if b = true then te σ2 H3 fun y H4 => ∃ acc, H4 D = some (.lst acc) ∧ acc.length < sizeLine ∧ Nx (upd H4 D (.lst (acc ++ [y]))) else Nx H3) := by
  refine ⟨fun i m H => m + i = ms.length ∧ Pv i H, ⟨ms.length, rfl, h0⟩, ?_⟩
  rintro i m H ⟨e, p⟩
  have q := hl i H (by omega) p
  have len : (kvsOf ms).length = ms.length := List.length_map ..
  cases m with
  | zero =>
    have e' : i = ms.length := by omega
    subst e'
    exact .inl ⟨⟨q, by omega⟩, hd H p⟩
  | succ m =>
    refine .inr ⟨⟨q, by omega⟩, Pv (i + 1), fun H' p' => ⟨m, by omega, by omega, p'⟩, fun x H' y => ?_⟩
    obtain ⟨rfl, k, v, h1, rfl⟩ := y
    obtain ⟨z, h2, rfl⟩ := keyAt h1
    exact hs i z v _ h2 p
theorem for_keys {tb : TS} {E : Ends} {H : Hp} (Pv : Nat → L2.St → Hp → Prop) (h0 : Pv 0 σ H) (hl : ∀ i σ H, i ≤ ms.length → Pv i σ H → H d = some (.frz o (.dK (kvsOf ms))))
    (hs : ∀ i k u σ H, ms[i]? = some (k, u) → Pv i σ H → g (.str k) σ H fun σ2 H2 => tb { E with nx := Pv (i + 1), ct := Pv (i + 1), bk := E.nx } σ2 H2) (hd : ∀ σ H, Pv ms.length σ H → E.nx σ H) :
    ∃ W : Nat → Nat → L2.St → Hp → Prop, (∃ m, W 0 m σ H) ∧ ∀ i m σ H, W i m σ H →
      ((Itk d o (kvsOf ms)).stop i H ∧ E.nx σ H) ∨ ((Itk d o (kvsOf ms)).go i H ∧ ∃ N : L2.St → Hp → Prop, (∀ σ' H', N σ' H' → ∃ m', m' < m ∧ W (i + 1) m' σ' H') ∧ ∀ x H', (Itk d o (kvsOf ms)).yld i H x H' → g x σ H' fun σ2 H2 => tb { E with nx := N, ct := N, bk := E.nx } σ2 H2) := by
  refine ⟨fun i m σ H => m + i = ms.length ∧ Pv i σ H, ⟨ms.length, rfl, h0⟩, ?_⟩
  rintro i m σ H ⟨e, p⟩
  have q := hl i σ H (by omega) p
  have len : (kvsOf ms).length = ms.length := List.length_map ..
  cases m with
  | zero =>
    have e' : i = ms.length := by omega
    subst e'
    exact .inl ⟨⟨q, by omega⟩, hd σ H p⟩
  | succ m =>
    refine .inr ⟨⟨q, by omega⟩, Pv (i + 1), fun σ' H' p' => ⟨m, by omega, by omega, p'⟩, fun x H' y => ?_⟩
    obtain ⟨rfl, k, v, h1, rfl⟩ := y
    obtain ⟨z, h2, rfl⟩ := keyAt h1
    exact hs i z v σ _ h2 p
end
/-! ### name = {k: v for ..} on one line -/
section
variable {X : Cx}
theorem sw_dc {kx vx : Expr} {gs : List Comprehension} {scope : Scope} {pos py : Pos} {y : Str} {l : Nat} {env : Env} (hk : env.scope.kind = .function) (hy : env.scope.names.lookup y = some .local) (hl : (py.line == pos.line) = true)
    (ha : (scope.names.any fun (n, k) => n == y && (k == .local || k == .cell)) = false) : swapsWith (.DictComp kx vx gs scope pos) (some (.Name y py)) l env = pure true := by
  have k1 : env.kindOf y = some .local := hy
  have k2 : env.blockKind = .function := by
    unfold Env.blockKind
    rw [hk]
    rfl
  unfold swapsWith
  simp only [k2, k1, ha, Expr.pos, hl]
  rfl
theorem ps_setDc {i : Nat} {y : Str} {py : Pos} {kx vx tg iter : Expr} {ifs : List Expr} {scope : Scope} {own : List (Str × Nat)} {pos spos : Pos} {wi : TI} {g : TG} {tt : TT} {tk tv : TE} (hc : X.calm = true) (hN : X.N.Nodup) (hy : X.N[i]? = some y) (hyl : X.env.scope.names.lookup y = some .local)
    (hsw : swapsWith (.DictComp kx vx [⟨tg, iter, ifs, 0⟩] scope pos) (some (.Name y py)) spos.line X.env = pure true) (hi : PI X tg iter wi) (ok : BlkOk X.N X.env.scope scope own)
    (hg : ∀ (s : Shared) (H : Hp) (C : Addr) (cl : List (Str × Addr)) (fp : List Addr), PG (X.blk s H scope (compEnvC scope cl C X.env) fp) tg g)
    (ht : ∀ (s : Shared) (H : Hp) (C : Addr) (cl : List (Str × Addr)) (fp : List Addr), PTs (X.blk s H scope (compEnvC scope cl C X.env) fp) ifs tt)
    (hk : ∀ (s : Shared) (H : Hp) (C : Addr) (cl : List (Str × Addr)) (fp : List Addr), PE (X.blk s H scope (compEnvC scope cl C X.env) fp) kx tk)
    (he : ∀ (s : Shared) (H : Hp) (C : Addr) (cl : List (Str × Addr)) (fp : List Addr), PE (X.blk s H scope (compEnvC scope cl C X.env) fp) vx tv) (hs : ∀ x, foldedSetIterable iter X.env x = pure x := by intro _; rfl) :
    PS X (.Assign [.Name y py] (.DictComp kx vx [⟨tg, iter, ifs, 0⟩] scope pos) spos) (tAsg (tDc wi g tt tk tv (own.map (·.2))) (gName i)) := by
  refine ⟨fun pins s σ H E I h => ?_⟩
  rw [exec_Assign_Name_used _ _ _ _ hsw]
  refine wpAny_bind (wpAny_standAt (wpAny_bind ?_))
  refine wpAny_bind (thn (dc_core (use := some (assign (.Name y py) X.env)) (Qf := fun _ s' => SP X pins E .next s') hc hN I hi ok hg ht hk he hs (show tDc wi g tt tk tv (own.map (·.2)) σ H (fun x H1 => gName i x σ H1 E.nx) from h) fun L C s' m H' I' q hn f => ?_) fun _ s' hq => wpAny_pure (wpAny_pure hq))
  refine wpAny_assign_Name (store_ok2 (v := V.ref L) I' hN hy (.inl hyl) rfl (fun s2 I2 ⟨a, sb, ha⟩ => ?_) (.inr hyl))
  obtain ⟨f0, f1, f2, f3, f4, f5⟩ := f
  have ne : C ≠ a := ha.elim (fun z => by rw [z]; exact f1) fun z e => f4 y a z e.symm
  exact ⟨m, hn.sameBut sb ne, fun h3 sb3 => ⟨_, H', I2.turned (t' := s2.toks) (fun b o hb e => (sb3.2 b hb).trans e) f0 f1 f3 f4 f5, q⟩⟩
end
/-! ### isinstance of what stands for a document -/
theorem tyx_dk {K : PySem.W.Frag} {H : Hp} {a : Addr} {kvs : List (Key × V)} (r : Rd H a (.dK kvs)) : TyX K H (.ref a) (.type "dict") := by
  rcases r with r | ⟨o, r⟩
  · exact .base (.dK r)
  · exact .fDict r
theorem tyx_ls {K : PySem.W.Frag} {H : Hp} {a : Addr} {xs : List V} (r : Rd H a (.lst xs)) : TyX K H (.ref a) (.type "list") := by
  rcases r with r | ⟨o, r⟩
  · exact .base (.lst r)
  · exact .base (.frz r)
theorem tyx_sc {K : PySem.W.Frag} {H : Hp} {v : V} (h : isSc v = true) : ∃ t, (t = "NoneType" ∨ t = "int" ∨ t = "str") ∧ TyX K H v (.type t) := by
  cases v <;> first | cases h | skip
  · exact ⟨_, .inl rfl, .base .non⟩
  · exact ⟨_, .inr (.inl rfl), .base (.int _)⟩
  · exact ⟨_, .inr (.inr rfl), .base (.str _)⟩
def D.isOb : D → Bool
  | .ob _ => true
  | _ => false
def D.isLs : D → Bool
  | .ls _ => true
  | _ => false
theorem isiD {S : Addr → Prop} {G : Gen} {H : Hp} {n : Nat} {v : V} {d : D} (K : PySem.W.Frag) (h : Dc S G H n v d) : ∃ t, TyX K H v t ∧ PySem.W.kitOne K t (.type "dict") = some d.isOb := by
  refine h.cases (fun m _ hs e => ?_) (fun m a xs _ e _ r _ e' => ?_) (fun m a ms f _ e _ r _ e' => ?_)
  · subst e
    obtain ⟨t, ht, ty⟩ := tyx_sc (K := K) (H := H) (G.sc _ hs)
    refine ⟨_, ty, kit_ty (r := false) ?_⟩
    rcases ht with rfl | rfl | rfl <;> decide +kernel
  · subst e; subst e'
    exact ⟨_, tyx_ls (.inl r), kit_ty (r := false) (by decide +kernel)⟩
  · subst e; subst e'
    exact ⟨_, tyx_dk (.inl r), kit_ty (r := true) (by decide +kernel)⟩
theorem isiL {S : Addr → Prop} {G : Gen} {H : Hp} {n : Nat} {v : V} {d : D} (K : PySem.W.Frag) (h : Dc S G H n v d) : ∃ t, TyX K H v t ∧ PySem.W.kitOne K t (.type "list") = some d.isLs := by
  refine h.cases (fun m _ hs e => ?_) (fun m a xs _ e _ r _ e' => ?_) (fun m a ms f _ e _ r _ e' => ?_)
  · subst e
    obtain ⟨t, ht, ty⟩ := tyx_sc (K := K) (H := H) (G.sc _ hs)
    refine ⟨_, ty, kit_ty (r := false) ?_⟩
    rcases ht with rfl | rfl | rfl <;> decide +kernel
  · subst e; subst e'
    exact ⟨_, tyx_ls (.inl r), kit_ty (r := true) (by decide +kernel)⟩
  · subst e; subst e'
    exact ⟨_, tyx_dk (.inl r), kit_ty (r := false) (by decide +kernel)⟩
theorem t_yes {σ : L2.St} {H : Hp} {A B : Hp → Prop} (h : A H) : tYes σ H (fun b H3 => if b = true then A H3 else B H3) := by
  show (if true = true then A H else B H)
  rw [if_pos rfl]
  exact h
/-- d if isinstance(d, dict) else {} -/
theorem t_dictor [TabL] {K : PySem.W.Frag} {S : Addr → Prop} {G : Gen} {H : Hp} {n : Nat} {v : V} {d : D} {i : Nat} {σ : L2.St} {Q : VK} (hσ : σ[i]? = some (some v)) (hv : Dc S G H (n + 1) v d)
    (h : ∀ a1 ms1 St H1, Ex H H1 → H1 a1 = some (.dK (kvsOf ms1)) → St a1 → Mem St G H1 n ms1 d.tgt → (∀ x, St x → (S x ∧ H x ≠ none) ∨ H x = none) → (∀ x, St x → H1 x ≠ none) → Q (.ref a1) H1) :
    tIf (tB (tCB (rIsi K) (tCons (tVar i) (tCons (tC (.ty "dict")) tNil)))) (tVar i) tDNewK σ H Q := by
  obtain ⟨t1, ty1, kit1⟩ := isiD K hv
  refine ⟨v, hσ, v, .ty "dict", t1, _, _, rfl, .ty _, ty1, kit1, _, rfl, ?_⟩
  have none_way : d.isOb = false → d.tgt = (fun _ => .nil) → (if d.isOb = true then tVar i σ H Q else tDNewK σ H Q) := fun e e2 => by
    rw [e]
    refine iteF fun p hp => ?_
    exact h p [] (fun x => x = p) _ (Ex.new hp) upd_same rfl (by rw [e2]; exact Mem.nil) (fun x hx => .inr (by rw [hx]; exact hp)) fun x hx => by rw [hx, upd_same]; exact fun z => nomatch z
  refine hv.cases (fun m _ _ e => ?_) (fun m a xs _ _ _ _ _ e => ?_) (fun m a ms f em ev hS r M e => ?_)
  · exact none_way (by rw [e]; rfl) (by rw [e]; rfl)
  · exact none_way (by rw [e]; rfl) (by rw [e]; rfl)
  · subst e; subst ev; cases em
    refine iteT ⟨_, hσ, ?_⟩
    exact h a ms (fun x => S x ∧ H x ≠ none) H (Ex.refl H) r ⟨hS, by rw [r]; exact fun z => nomatch z⟩ ⟨M.nd, M.ks, M.no, fun k u hu => (M.at' k u hu).alloc⟩ (fun x hx => .inl hx) fun x hx => hx.2
theorem ifT {c : Bool} {A B : Prop} (hc : c = true) (h : A) : if c = true then A else B := by
  rw [if_pos hc]
  exact h
theorem ifF {c : Bool} {A B : Prop} (hc : c = false) (h : B) : if c = true then A else B := by
  rw [hc, if_neg Bool.false_ne_true]
  exact h
/-- what every heap knows of its dicts -/
def tKnow (t : TE) : TE := fun σ H Q => t σ H fun v H' => (∀ a kvs, H' a = some (.dK kvs) → a ≠ sysModules) → Q v H'
theorem pe_know {X : Cx} {e : Expr} {t : TE} (h : PE X e t) : PE X e (tKnow t) := by
  refine ⟨fun pins s σ H Q I hw => thn (h.run pins s σ H _ I hw) fun u s1 ⟨v, H', I', rv, q⟩ => ⟨v, H', I', rv, q fun a kvs e z => ?_⟩⟩
  obtain ⟨_, z', _⟩ := (show ObjOk X.prog X.w H' s1.heap a (.dK kvs) from I'.hok a _ e)
  rw [z] at z'
  simp at z'
theorem pairs_map {α β : Type} {F G : α → β → Prop} : ∀ {xs : List α} {ys : List β}, Paired F xs ys → (∀ a b, a ∈ xs → F a b → G a b) → Paired G xs ys
  | _, _, .nil, _ => .nil
  | _, _, .cons h t, f => .cons (f _ _ List.mem_cons_self h) (pairs_map t fun a b ha => f a b (List.mem_cons_of_mem _ ha))
theorem pairs_at {α β : Type} {F : α → β → Prop} {x : α} : ∀ {xs : List α} {ys : List β}, Paired F xs ys → x ∈ xs → ∃ y, F x y
  | _, _, .nil, h => nomatch h
  | _, _, .cons h t, hx => (List.mem_cons.mp hx).elim (fun e => ⟨_, by rw [e]; exact h⟩) fun hx => pairs_at t hx
end TP

namespace TP
open PySem PySem.Spec PyProof.Rows L2
/-! ### operators that a class of the program defines -/
def rAddOwn (C : Addr) (sp : Sp) (E : XK) : R2 := fun x y H Q => ∃ a dx fs b dy gs, x = .ref a ∧ y = .ref b ∧ H a = some (.ins C dx fs) ∧ H b = some (.ins C dy gs) ∧ sp [x, y] H (fun v H' => (∃ r, v = .ref r) ∧ Q v H') E
theorem inst_at {X : Cx} {pins : List (Addr × Obj)} {σ : L2.St} {H : Hp} {s : Shared} {a C dx : Addr} {fs : List (Str × V)} (I : Inv X pins σ H s) (h : H a = some (.ins C dx fs)) : ∃ od, PySem.W.InstAt s.heap a (PySem.W.instObj C dx) C (some od) := by
  have o := I.hok a _ h
  simp only [ObjOk] at o
  obtain ⟨_, _, _, o1, mA, o2, _⟩ := o
  obtain ⟨od, ho⟩ : ∃ od, s.heap.get? dx = some od := by
    obtain ⟨y, hy⟩ := I.hok dx _ (by assumption)
    exact ⟨y, hy⟩
  exact ⟨od, ⟨o1, rfl, rfl, ho⟩⟩
theorem op_addOwn {X : Cx} {CX : CXT} {k : Nat} {f C : Addr} {fd : FuncData} {sp : Sp} {E : XK} {ps : List Str}
    (G : FnOk X.prog X.w X.K X.mg X.base CX k f fd ps sp) (hr : Room k X.A) (b : Binds X.K fd ps []) (px : Passes CX X E)
    (sf : PySem.W.selfFirst X.K C = true) (hf : PySem.W.findIn X.K (.ref C) (PySem.dunder "add") = some (some (.ref f))) (fn : PySem.W.isFn X.K (.ref f) = true) :
    OpR X (binaryOp .Add) (rAddOwn C sp E) := by
  intro pins s σ H x y v u Q I rx ry h
  obtain ⟨a, dx, fs, b', dy, gs, rfl, rfl, ha, hb, hs⟩ := h
  cases (show v = Value.ref a from rx)
  cases (show u = Value.ref b' from ry)
  obtain ⟨m, fr⟩ := I.fr
  obtain ⟨oa, ia⟩ := inst_at I ha
  obtain ⟨ob, ib⟩ := inst_at I hb
  refine PySem.W.binop_K fr I.ok.mod.1 ia ib.type sf hf fn ?_
  refine PySem.wpAny_mono (run_fn (vs := [.ref a, .ref b']) (dvs := []) (ds := []) G hr b .nil px I (.cons rx (.cons ry .nil)) (by simpa using hs)) ?_ (fun _ _ z => z)
  rintro v s1 ⟨v', H', I', rv, ⟨r, rfl⟩, q⟩
  cases (show v = Value.ref r from rv)
  exact ⟨_, _, I', rv, q⟩
/-! ### lambda pair: pair[0] -/
abbrev lamPs (p : Pos) : Arguments := { posonlyargs := [], args := [{ arg := "pair", annotation := none, pos := p : PySem.Arg }], vararg := none, kwonlyargs := [], kw_defaults := [], kwarg := none, defaults := [] : PySem.Arguments }
abbrev lamB (p q r : Pos) : Expr := .Subscript (.Name "pair" p) (.Constant (.int 0) 0 q) r
abbrev lamSc : Scope := { kind := PySem.ScopeKind.function, names := [(PySem.Str.ofString "pair", PySem.NameKind.local)], isGenerator := false, isCoroutine := false, more := [] : PySem.Scope }
theorem lam_first {prog : Program} {w : World} {A : Around} {h : Heap} {g : Array GenState} {dr : Drawn} {tk : Nat} {os : OsState} {f p c' : Addr} {nm qual k : Str} {t : Tok} {us : List Value} {pm ctv : Value} {p0 p1 p2 p3 : Pos}
    (hd : A.depth < recursionLimit) (hf : h.get? f = some (PySem.W.kla_obj nm qual (lamPs p0) (lamB p1 p2 p3) lamSc [] pm c' ctv)) (hc : h.CodeRec (.ref c') qual) (nl : h.NoLimit) (ht : IsTup h p (Value.str k t :: us).toArray) :
    wpAny (model prog w) A (call (.ref f) [.ref p]) (PySem.W.KeyPure (.str k) ⟨h, g, dr, tk, os⟩) (fun _ _ => False) ⟨h, g, dr, tk, os⟩ := by
  refine PySem.wpAny_call (PySem.W.kla_callFunE hd hf rfl rfl rfl rfl hc ?_)
  have hb : bindArgs (PySem.W.kla_fn nm qual (lamPs p0) (lamB p1 p2 p3) lamSc [] pm (Value.ref c') ctv) { pos := [.ref p] } = pure [(("pair" : Str), Value.ref p)] := by
    rfl
  rw [hb]
  refine PySem.wpAny_pure (PySem.wpAny_newFunctionEnv ?_ ?_ fun h' ns sb => ⟨nl.fresh _ sb, ?_⟩)
  · intro x hx
    simp at hx
    subst hx
    exact fun z => nomatch z
  · intro x hx
    simp at hx
    subst hx
    rfl
  have keep : ∀ (b : Addr) (o : Obj), h.get? b = some o → h'.get? b = some o := fun b o hb => by
    have lt := PySem.Heap.lt_size hb
    rw [sb.2 b (Nat.ne_of_lt lt)]
    exact PySem.Heap.get?_push_of_some _ hb
  refine PySem.W.kla_codeExpr (PyProof.Rows.Subscript_ (PyProof.Rows.ldG (v := .ref p) ns rfl (PySem.wpAny_Constant_int ?_)))
  obtain ⟨o, ho, oc, n, od⟩ := ht
  refine PyProof.Rows.item_tupleL (l := Value.str k t :: us) (j := 0) ⟨o, keep p o ho, oc, n, od⟩ (by decide) (by decide) (by simp [seqIndex?]) rfl ?_
  refine ⟨h', _, rfl, keep, ?_⟩
  exact .str _ _
/-- the lambda is made: a code object more in the table at P, at the first time -/
theorem lam_make3 [TabL] {X : Cx} {pins : List (Addr × Obj)} {σ : L2.St} {H : Hp} {s : Shared} {c P : Addr} {p0 p1 p2 p3 pos : Pos} {E Q : Value → Shared → Prop}
    (I : Inv X pins σ H s) (TB : LamX.TabB X.base X.mg c P) (hc : X.env.code = .ref c) (hR : TabL.R P (X.env.qual ++ Str.ofString "<lambda>")) (tb : LamX.TabS H P (X.env.qual ++ Str.ofString "<lambda>"))
    (k : ∀ f c' pm ctv H1 s', Inv X pins σ H1 s' → Ex H H1 → s'.heap.get? f = some (PySem.W.kla_obj "<lambda>" (X.env.qual ++ Str.ofString "<lambda>") (lamPs p0) (lamB p1 p2 p3) lamSc [] pm c' ctv) → s'.heap.CodeRec (.ref c') (X.env.qual ++ Str.ofString "<lambda>") → Q (.ref f) s') :
    wpAny (model X.prog X.w) X.A (eval (.Lambda (lamPs p0) (lamB p1 p2 p3) lamSc pos) X.env) Q E s := by
  obtain ⟨ps, hP, tri, hq⟩ := tb
  have oP := I.hok P _ hP
  simp only [ObjOk] at oP
  have keep := I.bk
  have hcl : closureFor lamSc X.env = pure [] := by rfl
  refine PySem.W.kla_eval rfl ?_
  have hd := TB.code.keeps keep
  have bm := TB.bm.keeps keep
  have ns : s.heap.Ns mainGlobals X.mg := I.ok.mod.glob.keeps keep
  cases e : codeAmong pos ps.toList with
  | none =>
    refine PySem.W.kla_makeFunction hcl I.ok.glob ns hc hd oP tri e TB.gP bm fun c' ctv h' tk eb lc lc2 cr hP' => ?_
    have Pne : P ≠ c' := fun z => by
      have := PySem.Heap.lt_size oP
      rw [z] at this
      exact Nat.lt_irrefl _ (Nat.lt_of_lt_of_le this lc)
    have new : ∀ b, s.heap.objs.size ≤ b → H b = none := fun b hb => by
      cases z : H b with
      | none => rfl
      | some o => exact absurd ((I.hok b _ z).lt) (Nat.not_lt.mpr hb)
    obtain ⟨c2, oc, vs, t, ce, g1, g2, g3⟩ := cr
    cases ce
    have I2 := LamX.inv_table (t' := tk) (q := X.env.qual ++ Str.ofString "<lambda>") (h' := h'.push (PySem.W.kla_obj "<lambda>" (X.env.qual ++ Str.ofString "<lambda>") (lamPs p0) (lamB p1 p2 p3) lamSc [] ((X.mg (Str.ofString "__name__")).getD Value.none) c' ctv)) I hP (fun b o n h => PySem.Heap.get?_push_of_some _ (eb b o n h)) (PySem.Heap.get?_push_of_some _ hP') lc ⟨oc, vs, t, PySem.Heap.get?_push_of_some _ g1, g2, g3⟩
    refine k _ c' _ ctv _ _ I2 ⟨fun b o hb z => ?_, fun b hb => ?_, fun b q r t => ?_⟩ (PySem.Heap.get?_push_size _ rfl) ⟨c', oc, vs, t, rfl, PySem.Heap.get?_push_of_some _ g1, g2, g3⟩
    · rw [upd_ne (ne_of_none hb (new c' lc)), upd_ne (fun y => by rw [y, hP] at hb; cases hb; cases z)]
      exact hb
    · by_cases y : b = c'
      · rw [y, upd_same]
        exact fun z => nomatch z
      · rw [upd_ne y]
        by_cases y2 : b = P
        · rw [y2, upd_same]
          exact fun z => nomatch z
        · rw [upd_ne y2]
          exact hb
    · obtain ⟨ps', t1, t2, t3⟩ := t
      by_cases y : b = P
      · subst y
        rw [hP] at t1
        cases t1
        have hqq := TabL.one _ _ _ r hR
        subst hqq
        refine ⟨ps ++ #[rawInt ↑pos.line, rawInt ↑pos.col, Value.ref c'], by rw [upd_ne Pne, upd_same], ?_, fun pos' cv hcv => ?_⟩
        · rw [Array.toList_append]
          exact PySem.TriplesOk_snoc _ _ _ _ t2
        · rw [Array.toList_append] at hcv
          rcases LamX.among_app _ t2 hcv with h | h
          · obtain ⟨d, e1, e2⟩ := t3 pos' cv h
            refine ⟨d, e1, ?_⟩
            rw [upd_ne (ne_of_none e2 (new c' lc)), upd_ne (fun z => by rw [z, hP] at e2; cases e2)]
            exact e2
          · exact ⟨c', h, upd_same⟩
      · refine ⟨ps', by rw [upd_ne (ne_of_none t1 (new c' lc)), upd_ne y]; exact t1, t2, fun pos' cv h => ?_⟩
        obtain ⟨d, e1, e2⟩ := t3 pos' cv h
        refine ⟨d, e1, ?_⟩
        rw [upd_ne (ne_of_none e2 (new c' lc)), upd_ne (fun z => by rw [z, hP] at e2; cases e2)]
        exact e2
  | some cv =>
    obtain ⟨c', rfl, hc'⟩ := hq pos cv e
    refine PySem.W.kla_makeFunctionHit hcl I.ok.glob ns hc hd oP tri e bm fun ctv h' tk ex sz => ?_
    have ex2 : ∀ (b : Addr) (o : Obj), s.heap.get? b = some o → (h'.push (PySem.W.kla_obj "<lambda>" (X.env.qual ++ Str.ofString "<lambda>") (lamPs p0) (lamB p1 p2 p3) lamSc [] ((X.mg (Str.ofString "__name__")).getD Value.none) c' ctv)).get? b = some o := fun b o h => PySem.Heap.get?_push_of_some _ (ex b o h)
    refine k _ c' _ ctv H _ (I.kept ex2) (Ex.refl H) (PySem.Heap.get?_push_size _ rfl) ?_
    have oc := I.hok c' _ hc'
    simp only [LamX.CodeO, ObjOk] at oc
    obtain ⟨⟨o1, vs, t, g1, g2, g3⟩, _⟩ := oc
    exact ⟨c', o1, vs, t, rfl, ex2 _ _ g1, g2, g3⟩
/-- sorted(e, key=lambda pair: pair[0]), of a list of pairs that begin with a text -/
abbrev Bs : Type := Addr × Str × V
abbrev bkey : Bs → PyData := fun b => .str b.2.1
def sortB (bs : List Bs) : List Bs := bs.mergeSort (PySem.W.dataLe false bkey)
def tSortL [TabL] (P : Addr) (q : Str) (t : TA) : TE := fun σ H Q => t σ H fun xs H1 => ∃ (a : Addr) (bs : List Bs), xs = [.ref a] ∧ H1 a = some (.lst (bs.map fun b => V.ref b.1)) ∧ (∀ b ∈ bs, H1 b.1 = some (.tup [.str b.2.1, b.2.2])) ∧ LamX.TabS H1 P q ∧
  ∀ H2 D, Ex H1 H2 → H2 D = none → Q (.ref D) (upd H2 D (.lst ((sortB bs).map fun b => V.ref b.1)))
theorem each_of {H : Hp} {bs : List Bs} {its : List Value} {R : Value → Bs → Prop} (h : Vals (bs.map fun b => V.ref b.1) its) (r : ∀ b ∈ bs, R (.ref b.1) b) : PySem.W.EachIs R its bs := by
  induction bs generalizing its with
  | nil => cases h; exact .nil
  | cons b bs ih =>
    cases h with
    | cons a c =>
      cases (show _ = Value.ref b.1 from a)
      exact .cons (r b List.mem_cons_self) (ih c fun x hx => r x (List.mem_cons_of_mem _ hx))
theorem vals_of {bs : List Bs} {its : List Value} {R : Value → Bs → Prop} (h : PySem.W.EachIs R its bs) (r : ∀ v b, R v b → v = .ref b.1) : Vals (bs.map fun b => V.ref b.1) its := by
  induction h with
  | nil => exact .nil
  | cons a _ ih => exact .cons (r _ _ a) ih
theorem pe_sortL [TabL] {X : Cx} {c P : Addr} {e : Expr} {t : TA} {p0 p1 p2 p3 p4 p5 p6 p7 : Pos}
    (he : PA X [e] t) (hg : Gl X "sorted") (hm : X.mg "sorted" = none) (hb : PySem.bootBuiltins "sorted" = some (.builtin "sorted"))
    (TB : LamX.TabB X.base X.mg c P) (hc : X.env.code = .ref c) (hR : TabL.R P (X.env.qual ++ Str.ofString "<lambda>")) (hr : Room 1 X.A)
    (a1 : backTo p7 (starEach [e] X.env) = (false, eval e X.env) :: backTo p7 (starEach [] X.env) := by rfl)
    (a2 : ((backTo p7 (starEach [e] X.env)).any fun x => x.1) = false := by rfl) :
    PE X (.Call (.Name "sorted" p0) [e] [{ arg := some "key", value := .Lambda (lamPs p1) (lamB p2 p3 p4) lamSc p5, pos := p6 }] p7) (tSortL P (X.env.qual ++ Str.ofString "<lambda>") t) := by
  refine ⟨fun pins s σ H Q I h => ?_⟩
  refine PySem.wpAny_Call_ofName (ld_blt I hg hm hb ?_)
  refine PyProof.Rows.callWith_kw (PySem.wpAny_mono (he.run p7 pins s σ H _ I h) ?_ fun _ _ z => z) a1 a2 rfl rfl
  rintro us s1 ⟨vs, H1, I1, rv, a, bs, rfl, ha, hbs, tb, k⟩
  cases rv with
  | cons ra rn =>
  cases rn
  cases (show _ = Value.ref a from ra)
  refine PyProof.Rows.kws_cons (lam_make3 I1 TB hc hR tb fun f c' pm ctv H2 s2 I2 ex hf cr => PyProof.Rows.kws_nil ?_)
  obtain ⟨its, rits, ⟨o, n, ho, oc, _, od⟩, hl⟩ := I2.list (.inl (.inl (ex a _ ha)))
  show wpAny _ _ (call (Value.builtin "sorted") [Value.ref a] [("key", Value.ref f)]) _ _ _
  refine PySem.W.sorted_key_data (bs := bs) (vs := its) (R := fun v b => v = .ref b.1 ∧ ∃ k t us, k = b.2.1 ∧ IsTup s2.heap b.1 (Value.str k t :: us).toArray) (b := false) bkey ⟨o, ho, oc, n, od⟩ (each_of (H := H2) rits fun b hb => ⟨rfl, ?_⟩) ?_ ?_ (by simpa using hl) ?_ (PyProof.Rows.ksk_s1 _ _) (fun x => PyProof.Rows.ksk_l1 _ _) (fun x => PyProof.Rows.ksk_t1 _ _) ?_ ?_
  · obtain ⟨jts, rj, tj, _⟩ := I2.tuple (.inl (.inl (ex b.1 _ (hbs b hb))))
    cases rj with
    | cons r1 r2 =>
    obtain ⟨t, rfl⟩ := (show ∃ t, _ = Value.str b.2.1 t from r1)
    exact ⟨_, t, _, rfl, tj⟩
  · intro d hd d' hd'
    obtain ⟨b, _, rfl⟩ := List.mem_map.mp hd
    obtain ⟨b', _, rfl⟩ := List.mem_map.mp hd'
    rfl
  · refine .inr fun d hd => ?_
    obtain ⟨b, _, rfl⟩ := List.mem_map.mp hd
    exact ⟨(fun z => nomatch z), fun xs z => nomatch z⟩
  · intro b hb
    have := hr.un
    show X.A.units + 2 + 0 < cLine
    omega
  · rintro v b ⟨rfl, k, t, us, rfl, ht⟩ hb h tk hx
    refine lam_first (t := t) (us := us) ?_ (hx _ _ hf) (cr.keeps hx) (I2.nolimit.at fun o z => hx _ o z) ?_
    · have := hr.dp
      show X.A.depth < recursionLimit
      omega
    · obtain ⟨o, h1, h2⟩ := ht
      exact ⟨o, hx _ _ h1, h2⟩
  · intro out c2 h' tk hx hn hl' hlen he'
    refine ⟨.ref _, _, I2.laid (a := s2.heap.objs.size + 1) (o := .lst ((sortB bs).map fun b => V.ref b.1)) hx (Nat.le_succ _) ?_, rfl, ?_⟩
    · simp only [ObjOk]
      refine ⟨?_, out, c2, vals_of he' fun v b z => z.1, hl'⟩
      unfold sortB
      rw [List.length_map, List.length_mergeSort]
      simpa using hl
    · refine k H2 _ ex ?_
      cases z : H2 (s2.heap.objs.size + 1) with
      | none => rfl
      | some o => exact absurd (I2.hok _ _ z).lt (Nat.not_lt.mpr (Nat.le_succ _))
end TP

namespace TP
open PySem PySem.Spec PyProof.Rows L2
/-! ### an object is called -/
def tInst (C : Addr) (sp : Sp) (E : XK) (t : TE) (i : Nat) : TE := fun σ H Q => t σ H fun y H1 => ∃ a dx fs v, y = .ref a ∧ H1 a = some (.ins C dx fs) ∧ σ[i]? = some (some v) ∧ sp [y, v] H1 Q E
theorem pe_inst {X : Cx} {CX : CXT} {k i : Nat} {f C : Addr} {fd : FuncData} {sp : Sp} {E : XK} {ps : List Str} {fe : Expr} {x : Str} {p pos : Pos} {t : TE}
    (hf : PE X fe t) (G : FnOk X.prog X.w X.K X.mg X.base CX k f fd ps sp) (hr : Room k X.A) (b : Binds X.K fd ps []) (px : Passes CX X E)
    (fc : PySem.W.findIn X.K (.ref C) "__call__" = some (some (.ref f))) (fn : PySem.W.isFn X.K (.ref f) = true) (fi : PySem.W.fnIn X.K f = true)
    (hx : X.N[i]? = some x) (hk : List.lookup x X.env.scope.names = some .local) (hv : Vis X.env.scope x)
    (nd : (x == Str.ofString "__debug__") = false := by rfl)
    (ev : eval (.Call fe [.Name x p] [] pos) X.env = (do
          let f ← eval fe X.env
          callWith pos f [] (backTo pos (starEach [.Name x p] X.env)) (backToKw pos (keywordEach [] X.env))) := by rfl) :
    PE X (.Call fe [.Name x p] [] pos) (tInst C sp E t i) := by
  refine ⟨fun pins s σ H Q I h => PyProof.Rows.Call_ (PySem.wpAny_mono (hf.run pins s σ H _ I h) ?_ fun _ _ z => z) ev⟩
  rintro u s1 ⟨y, H1, I1, ry, a, dx, fs, v, rfl, ha, hσ, hs⟩
  cases (show u = Value.ref a from ry)
  obtain ⟨oa, ia⟩ := inst_at I1 ha
  obtain ⟨m, ns, hm⟩ := I1.loc
  obtain ⟨w, rw', lk⟩ := hm i x v hx hσ hv
  have hmx : m x = some w := by
    rcases lk with ⟨_, z⟩ | ⟨z, _⟩
    · exact z
    · rw [show X.env.kindOf x = some .local from hk] at z
      rcases z with z | z <;> cases z
  refine PySem.W.kco_callWith I1.kIn ia rfl fc (PyProof.Rows.spliced_more (PyProof.Rows.ldG ns hmx (PyProof.Rows.spliced_none ⟨⟨I1.kIn, ia⟩, ?_⟩) I1.ok.kind hk nd))
  refine PySem.wpAny_call (PySem.W.kco_code I1.kIn ia rfl fc fn fi (PySem.codeAny_mono (G.run X.A X.stack s1 H1 ⟨[.ref a, w], []⟩ [.ref a, w] [.ref a, v] Q E hr I1.env0 ?_ (.cons ry (.cons rw' .nil)) hs) ?_))
  · have := G.len _ _ _ _ hs
    exact b s1 [.ref a, w] I1.kIn (by simpa using this)
  · rintro r s2 h
    match r, h with
    | .ok (.ret u), ⟨v2, H2, os, bare, un, hok, rv, q⟩ =>
      refine ⟨v2, H2, ?_, rv, q⟩
      have := I1.call (t' := s2.toks) (d' := s2.drawn) un hok bare fun b hb => nomatch hb
      rw [← os] at this
      exact this
    | .error e, h => exact px pins σ H1 s1 e s2 I1 h
end TP

namespace TP
open PySem PySem.Spec PyProof.Rows L2
/-! ### walks over a list or a tuple -/
abbrev SqA (K : PySem.W.Frag) (H : Hp) (a : Addr) (xs : List V) : Prop := SqL K H a xs ∨ SqT K H a xs
theorem pi_seq {X : Cx} {tg l : Expr} {i : Nat} (h : PE X l (tVar i)) : PI X tg l (fun σ H R => iList X.K (tVar i) σ H R ∨ iTup X.K (tVar i) σ H R) :=
  ⟨fun pins s σ H R I z => z.elim (fun z => (pi_list h).run pins s σ H R I z) fun z => (pi_tup h).run pins s σ H R I z⟩
/-! ### effects, as mathematics -/
inductive Ef where
  | no
  | keep
  | drop
  | set (d : D)
  | merge (f : Str → Ef)
  | build (f : Str → Ef)
/-- the object's fields -/
def eflds (kd : Str) (av : V) (t : Addr) : List (Str × V) := [("kind", .str kd), ("atom", av), ("members", .ref t)]
theorem eflds_kind (kd : Str) (av : V) (t : Addr) : (eflds kd av t).lookup ("kind" : Str) = some (.str kd) := by rfl
theorem eflds_atom (kd : Str) (av : V) (t : Addr) : (eflds kd av t).lookup ("atom" : Str) = some av := by
  have : ¬ (("atom" : Str) = "kind") := by decide +kernel
  unfold eflds
  rw [List.lookup_cons]
  simp only [show (("atom" : Str) == "kind") = false by decide +kernel]
  rfl
theorem eflds_mem (kd : Str) (av : V) (t : Addr) : (eflds kd av t).lookup ("members" : Str) = some (.ref t) := by
  unfold eflds
  rw [List.lookup_cons, List.lookup_cons]
  simp only [show (("members" : Str) == "kind") = false by decide +kernel, show (("members" : Str) == "atom") = false by decide +kernel]
  rfl
theorem eflds_put (kd : Str) (av : V) (t : Addr) : putF "members" (.ref t) (putF "atom" av (putF "kind" (.str kd) [])) = eflds kd av t := by
  have a : ¬ (("kind" : Str) = "atom") := by decide +kernel
  have b : ¬ (("kind" : Str) = "members") := by decide +kernel
  have c : ¬ (("atom" : Str) = "members") := by decide +kernel
  simp only [putF, a, b, c, if_false]
  rfl
theorem eflds_put2 (k : V) (av : V) : putF "atom" av (putF "kind" k []) = [(("kind" : Str), k), ("atom", av)] := by
  have a : ¬ (("kind" : Str) = "atom") := by decide +kernel
  simp only [putF, a, if_false]
/-- pairs (key, member) in the heap -/
def BsAt (S : Addr → Prop) (H : Hp) (bs : List Bs) : Prop := ∀ b ∈ bs, S b.1 ∧ H b.1 = some (.tup [.str b.2.1, b.2.2])
/-- an atom as an effect holds it -/
def AtomAt (S : Addr → Prop) (G : Gen) (H : Hp) (av : V) (d : D) : Prop :=
  (d = .sc av ∧ G.C av = true) ∨ ∃ ta xs, d = .ls xs ∧ av = .ref ta ∧ S ta ∧ H ta = some (.tup xs) ∧ xs.length ≤ G.L ∧ ∀ x ∈ xs, G.C x = true
theorem AtomAt.ch {S S' : Addr → Prop} {G : Gen} {H H' : Hp} {av : V} {d : D} (h : AtomAt S G H av d) (c : ∀ b xs, S b → H b = some (.tup xs) → S' b ∧ H' b = some (.tup xs)) : AtomAt S' G H' av d :=
  h.imp id fun ⟨ta, xs, e1, e2, s, r, l, z⟩ => ⟨ta, xs, e1, e2, (c ta xs s r).1, (c ta xs s r).2, l, z⟩
/-- a tuple, and no more than that -/
def TpX (H : Hp) (t : Addr) (xs : List V) : Prop := ∃ o : Obj, o.dict = none ∧ H t = some (.frz o (.tup xs))
/-- keys in their order, each once -/
def leS (a b : Str) : Bool := decide (a.cps.toList ≤ b.cps.toList)
def NdS (ks : List Str) : Prop := ks.Nodup ∧ ks.Pairwise fun a b => leS a b = true
theorem sortB_eq (bs : List Bs) : sortB bs = bs.mergeSort fun b c => leS b.2.1 c.2.1 := by
  unfold sortB
  rw [PySem.W.dataLe_str fun b : Bs => b.2.1]
  rfl
theorem leS_trans {a b c : Str} (h : leS a b = true) (k : leS b c = true) : leS a c = true := decide_eq_true (List.le_trans (of_decide_eq_true h) (of_decide_eq_true k))
theorem leS_total (a b : Str) : (leS a b || leS b a) = true := by
  unfold leS
  rcases List.le_total a.cps.toList b.cps.toList with h | h
  · rw [decide_eq_true h]; rfl
  · rw [decide_eq_true h, Bool.or_true]
theorem leS_anti {a b : Str} (h : leS a b = true) (k : leS b a = true) : a = b := by
  have := List.le_antisymm (of_decide_eq_true h) (of_decide_eq_true k)
  cases a; cases b
  congr 1
  exact Array.ext' this
theorem sortB_srt (bs : List Bs) : ((sortB bs).map fun b => b.2.1).Pairwise fun a b => leS a b = true := by
  rw [sortB_eq, List.pairwise_map]
  exact List.pairwise_mergeSort (le := fun b c : Bs => leS b.2.1 c.2.1) (fun a b c => leS_trans) (fun a b => leS_total _ _) bs
theorem ndS_nil : NdS [] := ⟨List.nodup_nil, List.Pairwise.nil⟩
/-- the same keys in their order are the same list -/
theorem ndS_eq : ∀ {xs ys : List Str}, NdS xs → NdS ys → (∀ k, k ∈ xs ↔ k ∈ ys) → xs = ys := by
  intro xs ys h1 h2 e
  have p : xs.Perm ys := (List.perm_ext_iff_of_nodup h1.1 h2.1).mpr e
  exact List.Perm.eq_of_pairwise (fun a b _ _ => leS_anti) h1.2 h2.2 p
/-- the effect e at v, n levels deep -/
def Ec (C : Addr) (S : Addr → Prop) (G : Gen) (H : Hp) : Nat → V → Ef → Prop
  | 0, _, _ => False
  | n + 1, v, e => ∃ a dx kd av t bs, v = .ref a ∧ S a ∧ H a = some (.ins C dx (eflds kd av t)) ∧ S t ∧ TpX H t (bs.map fun b => V.ref b.1) ∧ BsAt S H bs ∧ NdS (bs.map fun b => b.2.1) ∧ (∀ b ∈ bs, b.2.1 ∈ G.KS) ∧
    match e with
    | .no => False
    | .keep => kd = "keep" ∧ bs = [] ∧ av = .non
    | .drop => kd = "drop" ∧ bs = [] ∧ av = .non
    | .set d => kd = "set" ∧ bs = [] ∧ AtomAt S G H av d
    | .merge f => kd = "merge" ∧ av = .non ∧ (∀ k, k ∉ bs.map (fun b => b.2.1) → f k = .no) ∧ ∀ b ∈ bs, Ec C S G H n b.2.2 (f b.2.1)
    | .build f => kd = "build" ∧ av = .non ∧ (∀ k, k ∉ bs.map (fun b => b.2.1) → f k = .no) ∧ ∀ b ∈ bs, Ec C S G H n b.2.2 (f b.2.1)
theorem sortB_perm (bs : List Bs) : (sortB bs).Perm bs := List.mergeSort_perm _ _
/-- i pairs are made anew, in the list at D -/
def PvI [TabL] (H3 : Hp) (D : Addr) (bs : List Bs) (i : Nat) (H4 : Hp) : Prop := Ex H3 H4 ∧ ∃ bs4 : List Bs, H4 D = some (.lst (bs4.map fun b => V.ref b.1)) ∧ bs4.map (·.2) = (bs.take i).map (·.2) ∧ BsAt (fun b => H3 b = none ∧ b ≠ D) H4 bs4
theorem PvI.start [TabL] {H3 : Hp} {D : Addr} {bs : List Bs} (hD : H3 D = none) : PvI H3 D bs 0 (upd H3 D (.lst [])) := ⟨Ex.new hD, [], upd_same, rfl, fun b hb => nomatch hb⟩
theorem PvI.step [TabL] {H3 H4 : Hp} {D p : Addr} {bs : List Bs} {i : Nat} {b : Bs} (hD : H3 D = none) (hi : bs[i]? = some b) (q : PvI H3 D bs i H4) (hp : H4 p = none) :
    ∃ acc, (upd H4 p (.tup [.str b.2.1, b.2.2])) D = some (.lst acc) ∧ acc.length = i ∧ PvI H3 D bs (i + 1) (upd (upd H4 p (.tup [.str b.2.1, b.2.2])) D (.lst (acc ++ [.ref p]))) := by
  obtain ⟨e, bs4, h4, hm, hb⟩ := q
  have npD : D ≠ p := ne_of_none h4 hp
  have h5 : (upd H4 p (.tup [.str b.2.1, b.2.2])) D = some (.lst (bs4.map fun b => V.ref b.1)) := by rw [upd_ne npD]; exact h4
  refine ⟨_, h5, ?_, (e.trans (Ex.new hp)).mut hD h5, bs4 ++ [(p, b.2)], by rw [upd_same, List.map_append]; rfl, ?_, ?_⟩
  · have := congrArg List.length hm
    rw [List.length_map, List.length_map, List.length_take] at this
    have hlt := (List.getElem?_eq_some_iff.mp hi).1
    rw [List.length_map, this]
    omega
  · rw [List.map_append, hm, List.take_add_one, hi, Option.toList_some, List.map_append]
    rfl
  · intro c hc
    rcases List.mem_append.mp hc with hc | hc
    · obtain ⟨⟨s1, s2⟩, r⟩ := hb c hc
      refine ⟨⟨s1, s2⟩, ?_⟩
      rw [upd_ne s2, upd_ne (ne_of_none r hp)]
      exact r
    · rw [List.mem_singleton.mp hc]
      exact ⟨⟨fresh_back e hp, npD.symm⟩, by rw [upd_ne npD.symm, upd_same]⟩
end TP

namespace TP
open PySem PySem.Spec PyProof.Rows L2
def Ef.isNo : Ef → Bool
  | .no => true
  | _ => false
def Ef.isDrop : Ef → Bool
  | .drop => true
  | _ => false
/-- the members of a drop, a set or a build -/
def Ef.mem : Ef → Str → Ef
  | .build f => f
  | .merge f => f
  | _ => fun _ => .no
/-- what an effect does -/
def Ef.on : Ef → D → D
  | .no, d => d
  | .keep, d => d
  | .drop, _ => .nil
  | .set a, _ => a
  | .merge f, d => .ob fun k => if (f k).isNo then d.tgt k else (f k).on (d.tgt k)
  | .build f, _ => .ob fun k => if (f k).isNo then .nil else (f k).on .nil
/-- the effect of a patch, not None as a member -/
def pef : D → Ef
  | .ob f => .merge fun k => if (f k).isNil then .no else if (f k).isNon then .drop else pef (f k)
  | d => .set d
def Ef.fol : Ef → Ef → Ef
  | one, .keep => one
  | .keep, .merge g => .merge g
  | .merge f, .merge g => .merge fun k => if (g k).isNo then f k else if (f k).isNo then g k else (f k).fol (g k)
  | one, .merge g => .build fun k => if (g k).isNo then one.mem k else if (Ef.fol (if (one.mem k).isNo then .drop else one.mem k) (g k)).isDrop then .no else Ef.fol (if (one.mem k).isNo then .drop else one.mem k) (g k)
  | _, other => other
/-- atoms are no objects; nothing is nothing only as a member -/
def Ef.ok : Ef → Prop
  | .no => True
  | .keep => True
  | .drop => True
  | .set a => a.isOb = false
  | .merge f => ∀ k, (f k).ok
  | .build f => ∀ k, (f k).ok
theorem on_pef : ∀ (p d : D), (pef p).on d = D.app d p
  | .ob f, d => by
    rw [app_ob]
    show D.ob _ = _
    congr 1
    funext k
    show (if (if (f k).isNil then Ef.no else if (f k).isNon then .drop else pef (f k)).isNo = true then d.tgt k else (if (f k).isNil then Ef.no else if (f k).isNon then .drop else pef (f k)).on (d.tgt k)) = _
    have ih := on_pef (f k) (d.tgt k)
    have nn : (pef (f k)).isNo = false := by
      cases f k <;> rfl
    by_cases c : (f k).isNil = true
    · simp [c, Ef.isNo]
    · by_cases c2 : (f k).isNon = true
      · simp [c, c2, Ef.isNo, Ef.on]
      · simp [c, c2, nn, ih]
  | .nil, d => by rfl
  | .sc v, d => by rfl
  | .ls xs, d => by rfl
theorem tgt_ob {f : Str → D} : (D.ob f).tgt = f := rfl
theorem tgt_no {d : D} (h : d.isOb = false) : d.tgt = fun _ => .nil := by
  cases d with
  | ob f => cases h
  | _ => rfl
theorem fol_no : ∀ {e m : Ef}, e.isNo = false → m.isNo = false → (e.fol m).isNo = false := by
  intro e m he hm
  cases m <;> cases e <;> first | rfl | exact he | exact hm
theorem drop_on {e : Ef} (h : e.isDrop = true) (d : D) : e.on d = .nil := by
  cases e <;> first | rfl | cases h
theorem on_no {e : Ef} (h : e.isNo = true) (d : D) : e.on d = d := by
  cases e <;> first | rfl | cases h
/-- the build of a merge after e, when e leaves an object with nothing but its members -/
theorem on_built {e : Ef} {g : Str → Ef} {d : D} (ih : ∀ k, (g k).isNo = false → ∀ e : Ef, e.isNo = false → e.ok → ∀ d, (e.fol (g k)).on d = (g k).on (e.on d)) (hm : ∀ k, (e.mem k).ok) (ht : ∀ k, (e.on d).tgt k = if (e.mem k).isNo then .nil else (e.mem k).on .nil) :
    (Ef.build fun k => if (g k).isNo then e.mem k else if (Ef.fol (if (e.mem k).isNo then .drop else e.mem k) (g k)).isDrop then .no else Ef.fol (if (e.mem k).isNo then .drop else e.mem k) (g k)).on d = (Ef.merge g).on (e.on d) := by
  show D.ob _ = D.ob _
  congr 1
  funext k
  show (if (if (g k).isNo = true then e.mem k else if (Ef.fol (if (e.mem k).isNo then .drop else e.mem k) (g k)).isDrop then .no else Ef.fol (if (e.mem k).isNo then .drop else e.mem k) (g k)).isNo = true then D.nil else (if (g k).isNo = true then e.mem k else if (Ef.fol (if (e.mem k).isNo then .drop else e.mem k) (g k)).isDrop then .no else Ef.fol (if (e.mem k).isNo then .drop else e.mem k) (g k)).on .nil) = if (g k).isNo = true then (e.on d).tgt k else (g k).on ((e.on d).tgt k)
  by_cases c : (g k).isNo = true
  · simp only [c, if_true]
    rw [ht k]
  · have c' : (g k).isNo = false := by simpa using c
    have hb : (if (e.mem k).isNo then Ef.drop else e.mem k).isNo = false := by
      by_cases z : (e.mem k).isNo = true
      · rw [if_pos z]; rfl
      · rw [if_neg z]; simpa using z
    have hok : (if (e.mem k).isNo then Ef.drop else e.mem k).ok := by
      by_cases z : (e.mem k).isNo = true
      · simp [z, Ef.ok]
      · simpa [z] using hm k
    have hon : (if (e.mem k).isNo then Ef.drop else e.mem k).on .nil = if (e.mem k).isNo then .nil else (e.mem k).on .nil := by
      by_cases z : (e.mem k).isNo = true
      · simp [z, Ef.on]
      · simp [z]
    have I := ih k c' _ hb hok .nil
    rw [hon, ← ht k] at I
    simp only [c', Bool.false_eq_true, if_false]
    by_cases y : (Ef.fol (if (e.mem k).isNo then .drop else e.mem k) (g k)).isDrop = true
    · rw [if_pos y, ← I, drop_on y]
      rfl
    · rw [if_neg y, if_neg (by rw [fol_no hb c']; exact fun z => nomatch z)]
      exact I
theorem on_fol : ∀ (m : Ef), m.isNo = false → ∀ e : Ef, e.isNo = false → e.ok → ∀ d, (e.fol m).on d = m.on (e.on d)
  | .no, h, _, _, _, _ => by cases h
  | .keep, _, e, _, _, d => by cases e <;> rfl
  | .drop, _, e, _, _, d => by cases e <;> rfl
  | .set a, _, e, _, _, d => by cases e <;> rfl
  | .build f, _, e, _, _, d => by cases e <;> rfl
  | .merge g, _, e, h, he, d => by
    have ih := fun k => on_fol (g k)
    cases e with
    | no => cases h
    | keep => rfl
    | drop => exact on_built (e := .drop) ih (fun k => trivial) fun k => rfl
    | set a =>
      refine on_built (e := .set a) ih (fun k => trivial) fun k => ?_
      show a.tgt k = _
      rw [tgt_no he]
      rfl
    | build f => exact on_built (e := .build f) ih he fun k => rfl
    | merge f =>
      show D.ob _ = D.ob _
      congr 1
      funext k
      show (if (if (g k).isNo = true then f k else if (f k).isNo = true then g k else (f k).fol (g k)).isNo = true then d.tgt k else (if (g k).isNo = true then f k else if (f k).isNo = true then g k else (f k).fol (g k)).on (d.tgt k)) = if (g k).isNo = true then (if (f k).isNo = true then d.tgt k else (f k).on (d.tgt k)) else (g k).on (if (f k).isNo = true then d.tgt k else (f k).on (d.tgt k))
      by_cases c : (g k).isNo = true
      · simp only [c, if_true]
      · have c' : (g k).isNo = false := by simpa using c
        simp only [c', Bool.false_eq_true, if_false]
        by_cases y : (f k).isNo = true
        · simp only [y, if_true, c', Bool.false_eq_true, if_false]
        · have y' : (f k).isNo = false := by simpa using y
          simp only [y', Bool.false_eq_true, if_false, fol_no y' c']
          exact ih k c' _ y' (he k) _
theorem ok_pef : ∀ p : D, (pef p).ok
  | .ob f => fun k => by
    have ih := ok_pef (f k)
    show (if (f k).isNil then Ef.no else if (f k).isNon then .drop else pef (f k)).ok
    by_cases c : (f k).isNil = true
    · simp [c, Ef.ok]
    · by_cases c2 : (f k).isNon = true
      · simp [c, c2, Ef.ok]
      · simpa [c, c2] using ih
  | .nil => rfl
  | .sc _ => rfl
  | .ls _ => rfl
theorem ok_fol : ∀ (m : Ef), m.ok → ∀ e : Ef, e.ok → (e.fol m).ok
  | .no, h, e, _ => by cases e <;> exact h
  | .keep, _, e, he => by cases e <;> exact he
  | .drop, h, e, _ => by cases e <;> exact h
  | .set a, h, e, _ => by cases e <;> exact h
  | .build f, h, e, _ => by cases e <;> exact h
  | .merge g, h, e, he => by
    have ih := fun k => ok_fol (g k) (h k)
    have bd : ∀ e : Ef, (∀ k, (e.mem k).ok) → (Ef.build fun k => if (g k).isNo then e.mem k else if (Ef.fol (if (e.mem k).isNo then .drop else e.mem k) (g k)).isDrop then .no else Ef.fol (if (e.mem k).isNo then .drop else e.mem k) (g k)).ok := fun e hm k => by
      have hok : (if (e.mem k).isNo then Ef.drop else e.mem k).ok := by
        by_cases z : (e.mem k).isNo = true
        · simp [z, Ef.ok]
        · simpa [z] using hm k
      show (if (g k).isNo then e.mem k else if (Ef.fol (if (e.mem k).isNo then .drop else e.mem k) (g k)).isDrop then Ef.no else Ef.fol (if (e.mem k).isNo then .drop else e.mem k) (g k)).ok
      by_cases c : (g k).isNo = true
      · rw [if_pos c]; exact hm k
      · rw [if_neg c]
        by_cases y : (Ef.fol (if (e.mem k).isNo then .drop else e.mem k) (g k)).isDrop = true
        · rw [if_pos y]; trivial
        · rw [if_neg y]; exact ih k _ hok
    cases e with
    | no => exact bd .no fun k => trivial
    | keep => exact h
    | drop => exact bd .drop fun k => trivial
    | set a => exact bd (.set a) fun k => trivial
    | build f => exact bd (.build f) he
    | merge f =>
      intro k
      show (if (g k).isNo then f k else if (f k).isNo then g k else (f k).fol (g k)).ok
      split
      · exact he k
      · split
        · exact h k
        · exact ih k _ (he k)
/-- an effect stands as long as its objects stand -/
theorem BsAt.ch {S S' : Addr → Prop} {H H' : Hp} {bs : List Bs} (h : BsAt S H bs) (c : ∀ b o, S b → isTbl o = false → H b = some o → S' b ∧ H' b = some o) : BsAt S' H' bs := fun b hb => c _ _ (h b hb).1 rfl (h b hb).2
theorem Ec.ch {C : Addr} {G : Gen} {S S' : Addr → Prop} {H H' : Hp} (c : ∀ b o, S b → isTbl o = false → H b = some o → S' b ∧ H' b = some o) : ∀ {n m : Nat} {v : V} {e : Ef}, n ≤ m → Ec C S G H n v e → Ec C S' G H' m v e
  | 0, _, _, _, _, h => h.elim
  | n + 1, 0, _, _, l, _ => absurd l (by omega)
  | n + 1, m + 1, v, e, l, h => by
    have l' : n ≤ m := by omega
    have ih := fun {v : V} {e : Ef} (h : Ec C S G H n v e) => Ec.ch (m := m) c l' h
    obtain ⟨a, dx, kd, av, t, bs, rfl, sa, ha, st, ht, hb, nd, ks, z⟩ := h
    refine ⟨a, dx, kd, av, t, bs, rfl, (c a _ sa rfl ha).1, (c a _ sa rfl ha).2, let ⟨_, _, ht⟩ := ht; (c t _ st rfl ht).1, (let ⟨o, od, ht⟩ := ht; ⟨o, od, (c t _ st rfl ht).2⟩), hb.ch c, nd, ks, ?_⟩
    cases e with
    | no => exact z
    | keep => exact z
    | drop => exact z
    | set d => exact ⟨z.1, z.2.1, z.2.2.ch fun b xs s r => c b _ s rfl r⟩
    | merge f => exact ⟨z.1, z.2.1, z.2.2.1, fun b hb => ih (z.2.2.2 b hb)⟩
    | build f => exact ⟨z.1, z.2.1, z.2.2.1, fun b hb => ih (z.2.2.2 b hb)⟩
theorem Ec.ex [TabL] {C : Addr} {G : Gen} {S : Addr → Prop} {H H' : Hp} {n : Nat} {v : V} {e : Ef} (h : Ec C S G H n v e) (x : Ex H H') : Ec C S G H' n v e := h.ch (fun b o s z r => ⟨s, x.go b o r z⟩) (Nat.le_refl _)
theorem Ec.imp {C : Addr} {G : Gen} {S S' : Addr → Prop} {H : Hp} {n : Nat} {v : V} {e : Ef} (h : Ec C S G H n v e) (i : ∀ b, S b → S' b) : Ec C S' G H n v e := h.ch (fun b o s z r => ⟨i b s, r⟩) (Nat.le_refl _)
theorem Ec.lift {C : Addr} {G : Gen} {S : Addr → Prop} {H : Hp} {n m : Nat} {v : V} {e : Ef} (h : Ec C S G H n v e) (l : n ≤ m) : Ec C S G H m v e := h.ch (fun b o s z r => ⟨s, r⟩) l
theorem Ec.alloc {C : Addr} {G : Gen} {S : Addr → Prop} {H : Hp} {n : Nat} {v : V} {e : Ef} (h : Ec C S G H n v e) : Ec C (fun b => S b ∧ H b ≠ none) G H n v e := h.ch (fun b o s z r => ⟨⟨s, by rw [r]; exact fun z => nomatch z⟩, r⟩) (Nat.le_refl _)
theorem Ec.off {C : Addr} {G : Gen} {S : Addr → Prop} {H : Hp} {n : Nat} {v : V} {e : Ef} {a : Addr} {o : HO} (h : Ec C S G H n v e) (hS : ¬ S a) : Ec C S G (upd H a o) n v e := h.ch (fun b u s _ r => ⟨s, by rw [upd_ne (fun z => hS (by rw [← z]; exact s))]; exact r⟩) (Nat.le_refl _)
theorem Ec.not_no {C : Addr} {G : Gen} {S : Addr → Prop} {H : Hp} {n : Nat} {v : V} {e : Ef} (h : Ec C S G H n v e) : e.isNo = false := by
  cases n with
  | zero => exact h.elim
  | succ n =>
    obtain ⟨a, dx, kd, av, t, bs, _, _, _, _, _, _, _, _, z⟩ := h
    cases e with
    | no => exact z.elim
    | _ => rfl
end TP

namespace TP
open PySem PySem.Spec PyProof.Rows L2
/-! ### dict of a tuple of pairs -/
theorem pairItems_tup {prog : Program} {w : World} {A : Around} {E : Value → Shared → Prop} {s : Shared} {b : Addr} {u v : Value} {Q : List Value → Shared → Prop} (h : IsTup s.heap b #[u, v]) (q : Q [u, v] s) : wpAny (model prog w) A (Builtin.Dict.pairItems (.ref b)) Q E s := by
  unfold Builtin.Dict.pairItems
  obtain ⟨o, h1, h2, n, h3⟩ := h
  refine PySem.wpAny_bind (PySem.wpAny_typeOf_ref h1 ?_)
  rw [h2]
  exact PySem.wpAny_bind (PySem.wpAny_seqItems h1 h3 (PySem.wpAny_pure q))
theorem ud_quiet {p : List Value} {k : List (Str × Value)} : (Code.builtin "dict.update.loop" { pos := p, kw := k }).quiet = true := by
  simp [Code.quiet, Thread.loud, Thread.atCollectorCode, Thread.yieldsInsideHandler]
theorem upd_loopT {prog : Program} {w : World} {A : Around} {R : Result → Shared → Prop} {S I l : Addr} {items : Array Value} {res : Value} (hh : A.handled = none) (h1 : l ≠ I) (h2 : S ≠ I) (h3 : S ≠ l) :
    ∀ (rest : List (Key × Value)) (i : Nat) (acc : List (Key × Value)) (ix : Int) (t : Tok) (s : Shared), items.size = i + rest.length → acc.length + rest.length ≤ sizeLine →
      (∀ (j : Nat) (q : Key × Value), rest[j]? = some q → ∃ b u, items[i + j]? = some (Value.ref b) ∧ b ≠ S ∧ b ≠ I ∧ IsTup s.heap b #[u, q.2] ∧ keyIs q.1 u = true) →
      IsTupIter s.heap I l i → IsTup s.heap l items → Heap.DictOf (mixKind prog w) s.heap S acc →
      (∀ (h' : Heap) (tk : Nat), Heap.DictOf (mixKind prog w) h' S (merged acc rest) → (∀ (b : Addr) (o : Obj), b ≠ S → b ≠ I → s.heap.get? b = some o → h'.get? b = some o) → R (.ok (.ret res)) { s with heap := h', toks := tk }) →
      codeAny (model prog w) A (Code.builtin "dict.update.loop" { pos := [.ref S, .ref I, .int ix t, res] }) R s
  | [], i, acc, ix, t, s, hs, hl, hp, hi, ht, hd, k => by
    refine PySem.codeAny_builtin ud_entry ?_
    rw [PySem.Around.under_plainId ud_plain]
    unfold Builtin.«dict.update.loop»
    refine PySem.wpAny_bind (next_tuple_end (items := items) hh hi ht (by simp [hs]) fun h' eb => ?_)
    exact PySem.wpAny_bind (PySem.wpAny_pure (PySem.wpAny_pure (k h' _ (hd.extBut eb h2) fun b o _ n h => eb b o n h)))
  | q :: rest, i, acc, ix, t, s, hs, hl, hp, hi, ht, hd, k => by
    refine PySem.codeAny_builtin ud_entry ?_
    rw [PySem.Around.under_plainId ud_plain]
    unfold Builtin.«dict.update.loop»
    obtain ⟨b, u, e1, bS, bI, e2, e3⟩ := hp 0 q rfl
    refine PySem.wpAny_bind (next_tuple_item (items := items) (x := .ref b) hi ht (by simpa using e1) fun h' hi' sb => ?_)
    have st : ∀ (c : Addr) (o : Obj), c ≠ I → s.heap.get? c = some o → h'.get? c = some o := fun c o n h => by rw [sb.2 c n]; exact h
    have tp : ∀ {c : Addr} {xs : Array Value}, c ≠ I → IsTup s.heap c xs → IsTup h' c xs := fun n ⟨o, x, y⟩ => ⟨o, st _ _ n x, y⟩
    refine PySem.wpAny_bind (PySem.wpAny_holding (PySem.wpAny_bind (PySem.wpAny_tryCatch (pairItems_tup (tp bI e2) (PySem.wpAny_holding (PySem.wpAny_dictSet_pairs (knd := mixKind prog w) (k := q.1) (kvs := acc) (by rw [mixKind_is]; exact e3) (hd.sameBut sb h2) (fun h2' hd2 sb2 => PySem.wpAny_pure ?_) ?_))))))
    · have st2 : ∀ (c : Addr) (o : Obj), c ≠ S → c ≠ I → s.heap.get? c = some o → h2'.get? c = some o := fun c o n1 n2 h => by rw [sb2.2 c n1]; exact st c o n2 h
      have tp2 : ∀ {c : Addr} {xs : Array Value}, c ≠ S → c ≠ I → IsTup s.heap c xs → IsTup h2' c xs := fun n1 n2 ⟨o, x, y⟩ => ⟨o, st2 _ _ n1 n2 x, y⟩
      refine ⟨ud_quiet, upd_loopT hh h1 h2 h3 rest (i + 1) (stored acc q.1 q.2) (ix + 1) 0 _ (by rw [hs, List.length_cons]; omega) ?_ (fun j q' hq => ?_) ?_ (tp2 h3.symm h1 ht) hd2 fun h3' tk hd3 st3 => ?_⟩
      · have := stored_length_le acc q.1 q.2
        rw [List.length_cons] at hl
        omega
      · obtain ⟨b', u', f1, f2, f3, f4, f5⟩ := hp (j + 1) q' (by rw [List.getElem?_cons_succ]; exact hq)
        exact ⟨b', u', by rw [show i + 1 + j = i + (j + 1) by omega]; exact f1, f2, f3, tp2 f2 f3 f4, f5⟩
      · obtain ⟨o, x, y⟩ := hi'
        exact ⟨o, by rw [sb2.2 I h2.symm]; exact x, y⟩
      · exact k h3' tk hd3 fun c o n1 n2 h => st3 c o n1 n2 (st2 c o n1 n2 h)
    · have := hl
      rw [List.length_cons] at this
      omega
theorem miss_tuple {prog : Program} {w : World} {A : Around} {E : Value → Shared → Prop} {s : Shared} {a : Addr} {xs : Array Value} {k : Nat} {sl : Array (Option Value)} {Q : Option Value → Shared → Prop} (h : s.heap.get? a = some { cls := .type "tuple", data := .seq xs k, slots := sl }) (hh : A.handled = none)
    (q : ∀ (h' : Heap) (tk : Nat), (∀ (b : Addr) (ob : Obj), s.heap.get? b = some ob → h'.get? b = some ob) → Q none { s with heap := h', toks := tk }) : wpAny (model prog w) A (getAttr? (.ref a) (Str.ofString "keys")) Q E s := by
  unfold getAttr? mkText
  refine PySem.wpAny_bind (PySem.wpAny_bind ?_)
  refine PySem.wpAny_fresh (PySem.wpAny_pure ?_)
  unfold getAttrBy?
  refine PySem.wpAny_bind (PySem.wpAny_attempt ?_)
  unfold getAttrBy
  refine PySem.wpAny_holding (PySem.wpAny_bind (PySem.wpAny_typeOf_ref h ?_))
  rw [PySem.F.slot_tuple_getattribute.lookup]
  refine PySem.wpAny_bind (PySem.wpAny_pure ?_)
  show wpAny _ _ (getAttrByItsOwn (.ref a) _ (.type "tuple") (.builtin "tuple.__getattribute__") false false) _ _ _
  unfold getAttrByItsOwn hookBefore callGetattribute
  refine PySem.wpAny_bind (PySem.wpAny_pure (PySem.wpAny_bind (PySem.wpAny_attempt (PySem.wpAny_holding ?_))))
  show wpAny _ _ (boundAndCalled _ _ _) _ _ _
  unfold boundAndCalled
  rw [PySem.F.slot_tuple_getattribute.bind]
  refine PySem.wpAny_bind (PySem.wpAny_pure ?_)
  refine PySem.call_meets (T := "tuple") PySem.F.slot_tuple_getattribute (by exact ⟨_, h, rfl⟩) PySem.am_entry_tuple_getattribute (PySem.F.args_tuple_getattribute_2 _ _) (PySem.meets_getattribute_miss_tuple a xs k sl (Str.ofString "keys") s.toks rfl (by decide +kernel)) ⟨h, hh, fun h' tk e ne => ?_⟩
  obtain ⟨t, u, he⟩ := ne.there
  show wpAny _ _ (getattributeRaised _ _ _ _ _ _ _) _ _ _
  unfold getattributeRaised
  refine PySem.wpAny_bind (PySem.wpAny_isInstance (T := "AttributeError") (b := true) (by exact ⟨_, he, rfl⟩) PySem.sub_AttributeError ?_)
  unfold hookBehind
  rw [if_pos rfl, show onTheHeap (Value.type "tuple") = false from rfl, if_neg (fun z => nomatch z), PySem.am_tuple_getattr_none]
  refine PySem.wpAny_bind (PySem.wpAny_pure ?_)
  show wpAny _ _ (attributeErrorLeaves _ _ _ false false) _ _ _
  unfold attributeErrorLeaves
  refine PySem.wpAny_bind (PySem.wpAny_throw ?_)
  refine PySem.wpAny_bind (PySem.wpAny_isInstance (T := "AttributeError") (b := true) (by exact ⟨_, he, rfl⟩) PySem.sub_AttributeError ?_)
  rw [if_pos rfl]
  exact PySem.wpAny_pure (q h' tk ne.keeps)
/-- dict of a tuple of pairs -/
theorem call_dict_tup {prog : Program} {w : World} {A : Around} {E : Value → Shared → Prop} {s : Shared} {l : Addr} {items : Array Value} {n : Nat} {sl : Array (Option Value)} {prs : List (Key × Value)} {Q : Value → Shared → Prop} (hh : A.handled = none) (h : s.heap.get? l = some { cls := .type "tuple", data := .seq items n, slots := sl }) (hs : items.size = prs.length) (hz : prs.length ≤ sizeLine)
    (hp : ∀ (j : Nat) (q : Key × Value), prs[j]? = some q → ∃ b u, items[j]? = some (Value.ref b) ∧ IsTup s.heap b #[u, q.2] ∧ keyIs q.1 u = true)
    (k : ∀ (h' : Heap) (tk : Nat), Heap.DictOf (mixKind prog w) h' s.heap.objs.size (merged [] prs) → (∀ (b : Addr) (o : Obj), s.heap.get? b = some o → h'.get? b = some o) → Q (.ref s.heap.objs.size) { s with heap := h', toks := tk }) :
    wpAny (model prog w) A (call (Value.type "dict") [Value.ref l]) Q E s := by
  refine PySem.callType_codes (Q₁ := fun v s1 => v = .ref s.heap.objs.size ∧ s1 = { s with heap := s.heap.push { cls := .type "dict", data := .dict #[] } }) PySem.F.kt_called_dict (PySem.F.kt_typeCall_dict_1 _) PySem.F.entry_dict_init (PySem.kt_code_dict_new _ ⟨rfl, rfl⟩) ?_
  rintro obj s1 ⟨rfl, rfl⟩
  have d0 : Heap.DictOf (mixKind prog w) (s.heap.push { cls := .type "dict", data := .dict #[] }) s.heap.objs.size [] := PySem.Heap.DictOf.new _
  have l0 : (s.heap.push { cls := .type "dict", data := .dict #[] }).get? l = some { cls := .type "tuple", data := .seq items n, slots := sl } := PySem.Heap.get?_push_of_some _ h
  refine ⟨d0.typeIs (s := { s with heap := s.heap.push { cls := .type "dict", data := .dict #[] } }), ?_, ?_⟩
  · exact PySem.F.args_dict_init_2 _ _
  unfold Builtin.«dict.__init__»
  refine PySem.wpAny_bind ?_
  unfold Builtin.Dict.selfAndRest
  refine PySem.wpAny_bind (PySem.wpAny_notOrdered_dict (d0.typeIs (s := { s with heap := s.heap.push { cls := .type "dict", data := .dict #[] } })) ?_)
  refine PySem.wpAny_bind (PySem.wpAny_pure (PySem.wpAny_pure ?_))
  show wpAny _ _ (Builtin.Dict.updateFrom "dict.__init__" s.heap.objs.size (.ref l) [] .none) _ _ _
  unfold Builtin.Dict.updateFrom
  refine PySem.wpAny_bind (PySem.wpAny_typeOf_ref l0 ?_)
  rw [if_pos (by rfl)]
  refine PySem.wpAny_bind (miss_tuple l0 hh fun h2 tk2 k2 => ?_)
  rw [if_pos (show (none : Option Value).isNone = true from rfl)]
  refine PySem.wpAny_bind (PySem.wpAny_rule (PySem.wpAny_bind (iter_tuple (items := items) ⟨_, k2 _ _ l0, rfl, n, rfl⟩ (PySem.wpAny_pure ⟨ud_quiet, ?_⟩))))
  have lS : l ≠ s.heap.objs.size := Nat.ne_of_lt (PySem.Heap.lt_size h)
  have zS : s.heap.objs.size < h2.objs.size := by
    obtain ⟨o, ho⟩ : ∃ o, (s.heap.push { cls := .type "dict", data := .dict #[] }).get? s.heap.objs.size = some o := ⟨_, PySem.Heap.get?_push_size _ rfl⟩
    exact PySem.Heap.lt_size (k2 _ _ ho)
  have lI : l ≠ h2.objs.size := Nat.ne_of_lt (PySem.Heap.lt_size (k2 _ _ l0))
  have k3 : ∀ (b : Addr) (o : Obj), s.heap.get? b = some o → (h2.push { cls := .type "tuple_iterator", data := .fields #[.ref l, .int 0 0] }).get? b = some o := fun b o hb => PySem.Heap.get?_push_of_some _ (k2 _ _ (PySem.Heap.get?_push_of_some _ hb))
  refine upd_loopT (A := A.in1) (l := l) (items := items) (res := .none) hh lI (Nat.ne_of_lt zS) lS.symm prs 0 [] 0 0 { heap := h2.push { cls := .type "tuple_iterator", data := .fields #[.ref l, .int 0 0] }, gens := s.gens, drawn := s.drawn, toks := tk2, os := s.os } (by simpa using hs) (by simpa using hz) (fun j q hq => ?_) ⟨_, PySem.Heap.get?_push_size _ rfl, rfl, rfl⟩ ⟨_, k3 _ _ h, rfl, n, rfl⟩ ((d0.keep k2).push _) fun h' tk hd st => ?_
  · obtain ⟨b, u, e1, ⟨o, e2, e3⟩, e4⟩ := hp j q hq
    have lt := PySem.Heap.lt_size e2
    exact ⟨b, u, by rw [Nat.zero_add]; exact e1, Nat.ne_of_lt lt, Nat.ne_of_lt (Nat.lt_trans lt zS), ⟨o, k3 _ _ e2, e3⟩, e4⟩
  · refine ⟨rfl, k h' tk hd fun b o hb => st b o (Nat.ne_of_lt (PySem.Heap.lt_size hb)) (Nat.ne_of_lt (Nat.lt_trans (PySem.Heap.lt_size hb) zS)) (k3 _ _ hb)⟩
theorem vals_get {xs : List V} {us : List Value} (h : Vals xs us) : ∀ {j : Nat} {x : V}, xs[j]? = some x → ∃ y, us[j]? = some y ∧ RelV x y := by
  induction h with
  | nil => intro j x e; simp at e
  | cons a _ ih =>
    intro j x e
    cases j with
    | zero =>
      rw [List.getElem?_cons_zero] at e
      cases e
      exact ⟨_, rfl, a⟩
    | succ j => rw [List.getElem?_cons_succ] at e ⊢; exact ih e
/-- tuple of a list, as an object -/
theorem call_tupleX {X : Cx} : CallR X (Value.type "tuple") fun xs H Q => ∃ p ys, xs = [V.ref p] ∧ SqL X.K H p ys ∧ ∀ (l : Addr) (o : Obj), H l = none → o.dict = none → Q (V.ref l) (upd H l (.frz o (.tup ys))) := by
  intro pins s σ H xs us Q I rv h
  obtain ⟨p, ys, rfl, hp, k⟩ := h
  cases rv with
  | cons ra rn =>
  cases rn
  cases (show _ = Value.ref p from ra)
  obtain ⟨its, ri, ⟨o, n, h1, h2, h3, h4⟩, hl⟩ := I.list hp
  have hsz : its.toArray.size ≤ sizeLine := by
    rw [List.size_toArray, ← ri.length]; exact hl
  refine PySem.call_tuple_list (items := its.toArray) ⟨o, h1, h2, n, h4⟩ (fun h' ex => ?_) hsz
  have I' := I.kept (t' := s.toks) ex
  refine ⟨.ref _, _, I'.laid (a := h'.objs.size) (o := .frz { cls := Value.type "tuple", data := Data.seq its.toArray } (.tup ys)) (t' := s.toks) (fun b u hb => PySem.Heap.get?_push_of_some _ hb) (Nat.le_refl _) ?_, rfl, k _ _ (I'.hok.fresh (Nat.le_refl _)) rfl⟩
  simp only [ObjOk]
  exact ⟨PySem.Heap.get?_push_size _ rfl, hl, its, ri, _, PySem.Heap.get?_push_size _ rfl, rfl, _, rfl⟩
/-- dict of such a tuple -/
theorem call_dictT {X : Cx} (hc : X.calm = true) : CallR X (Value.type "dict") fun xs H Q => ∃ (a : Addr) (o : Obj) (ps : List Addr) (kvs : List (Key × V)), xs = [V.ref a] ∧ H a = some (.frz o (.tup (ps.map V.ref))) ∧ o.dict = none ∧ Paired (fun p kv => SqT X.K H p [kV kv.1, kv.2]) ps kvs ∧ ∀ (p : Addr), H p = none → Q (V.ref p) (upd H p (.dK (mergeK [] kvs))) := by
  intro pins s σ H xs us Q I rv h
  obtain ⟨a, o, ps, kvs, rfl, ha, od, hp, k⟩ := h
  cases rv with
  | cons ra rn =>
  cases rn
  cases (show _ = Value.ref a from ra)
  obtain ⟨prs, kv, e1, e2⟩ := pairs_of I hp
  have oa := I.hok a _ ha
  simp only [ObjOk] at oa
  obtain ⟨ga, hl, its, ri, o2, g1, g2, n, g3⟩ := oa
  rw [ga] at g1
  cases g1
  rw [List.length_map] at hl
  have eo : o = { cls := .type "tuple", data := .seq its.toArray n, slots := o.slots } := by
    cases o
    cases g2; cases g3; cases od
    rfl
  rw [eo] at ga
  refine call_dict_tup (prs := prs) (I.ok.hd hc) ga ?_ (by omega) (fun j q hq => ?_) fun h' tk hd ex => ?_
  · rw [List.size_toArray, ← ri.length, List.length_map, e1]
  · obtain ⟨b, u, f1, f2, f3⟩ := e2 j q hq
    refine ⟨b, u, ?_, f2, f3⟩
    rw [List.getElem?_toArray]
    have hj := vals_get ri (j := j) (x := .ref b) (by rw [List.getElem?_map, f1]; rfl)
    obtain ⟨y, hy, ry⟩ := hj
    cases (show y = Value.ref b from ry)
    exact hy
  · refine ⟨.ref _, _, I.laid (a := s.heap.objs.size) (o := .dK (mergeK [] kvs)) (t' := tk) ex (Nat.le_refl _) ?_, rfl, k _ (I.hok.fresh (Nat.le_refl _))⟩
    have hkl := kv.length
    refine dk_new (Nat.le_trans (length_mergeK _ _) ?_) ?_ (KV.merge kv .nil) hd
    · show 0 + kvs.length ≤ sizeLine
      rw [Nat.zero_add, hkl, e1]
      exact hl
    · have := I.big
      exact beq_false_of_ne (Nat.ne_of_gt this)
end TP

namespace TP
open PySem PySem.Spec PyProof.Rows L2
/-- the members of a dict are the effects f -/
structure MemE (C : Addr) (S : Addr → Prop) (G : Gen) (H : Hp) (n : Nat) (ms : List (Str × V)) (f : Str → Ef) : Prop where
  nd : (ms.map (·.1)).Nodup
  ks : ∀ k ∈ ms.map (·.1), k ∈ G.KS
  no : ∀ k, valV ms k = none → f k = .no
  at' : ∀ k u, valV ms k = some u → Ec C S G H n u (f k)
def fupE (f : Str → Ef) (k : Str) (e : Ef) : Str → Ef := fun j => if j = k then e else f j
def mixE (ks : List Str) (i : Nat) (f g : Str → Ef) : Str → Ef := fun k => if k ∈ ks.take i then f k else g k
section
variable {C : Addr} {S : Addr → Prop} {G : Gen} {H : Hp} {n : Nat}
theorem MemE.len {ms f} (h : MemE C S G H n ms f) : ms.length ≤ G.KS.length := by
  have := sub_len h.nd h.ks
  rwa [List.length_map] at this
theorem MemE.put {ms f k v e} (h : MemE C S G H n ms f) (hk : k ∈ G.KS) (hv : Ec C S G H n v e) : MemE C S G H n (putK ms k v) (fupE f k e) := by
  refine ⟨nodup_put k v h.nd, fun j hj => ?_, fun j hj => ?_, fun j u hu => ?_⟩
  · rcases (keys_put ms k v j).mp hj with z | z
    · rw [z]; exact hk
    · exact h.ks j z
  · rw [valV_put] at hj
    unfold fupE
    by_cases z : j = k
    · rw [if_pos z] at hj; cases hj
    · rw [if_neg z] at hj ⊢
      exact h.no j hj
  · rw [valV_put] at hu
    unfold fupE
    by_cases z : j = k
    · rw [if_pos z] at hu ⊢
      cases hu
      exact hv
    · rw [if_neg z] at hu ⊢
      exact h.at' j u hu
theorem MemE.ch {S' : Addr → Prop} {H' : Hp} {ms f} (c : ∀ b o, S b → isTbl o = false → H b = some o → S' b ∧ H' b = some o) (h : MemE C S G H n ms f) : MemE C S' G H' n ms f := ⟨h.nd, h.ks, h.no, fun k u z => (h.at' k u z).ch c (Nat.le_refl _)⟩
theorem MemE.ex [TabL] {H' : Hp} {ms f} (h : MemE C S G H n ms f) (e : Ex H H') : MemE C S G H' n ms f := h.ch fun b o s z r => ⟨s, e.go b o r z⟩
theorem MemE.imp {S' : Addr → Prop} {ms f} (h : MemE C S G H n ms f) (i : ∀ b, S b → S' b) : MemE C S' G H n ms f := h.ch fun b o s z r => ⟨i b s, r⟩
theorem MemE.off {ms f a o} (h : MemE C S G H n ms f) (hS : ¬ S a) : MemE C S G (upd H a o) n ms f := h.ch fun b u s _ r => ⟨s, by rw [upd_ne (fun z => hS (by rw [← z]; exact s))]; exact r⟩
theorem mixE_zero {ks : List Str} {f g : Str → Ef} : mixE ks 0 f g = g := by
  funext k
  simp [mixE]
theorem mixE_succ {ks : List Str} {i : Nat} {k : Str} {f g : Str → Ef} (h : ks[i]? = some k) : fupE (mixE ks i f g) k (f k) = mixE ks (i + 1) f g := by
  funext j
  unfold fupE mixE
  rw [List.take_add_one, h]
  by_cases z : j = k
  · simp [z]
  · simp [z]
theorem mixE_all {ks : List Str} {f g : Str → Ef} (h : ∀ k, k ∉ ks → f k = g k) : mixE ks ks.length f g = f := by
  funext j
  unfold mixE
  rw [List.take_length]
  by_cases c : j ∈ ks
  · rw [if_pos c]
  · rw [if_neg c, h j c]
theorem mixE_new {ks : List Str} {i : Nat} {k : Str} {f g : Str → Ef} (nd : ks.Nodup) (h : ks[i]? = some k) : mixE ks i f g k = g k := by
  unfold mixE
  rw [if_neg]
  intro hk
  obtain ⟨j, hj, ej⟩ := List.getElem_of_mem hk
  rw [List.length_take] at hj
  have hi := (List.getElem?_eq_some_iff.mp h)
  obtain ⟨hi, ei⟩ := hi
  rw [List.getElem_take] at ej
  exact (List.pairwise_iff_getElem.mp nd) j i (by omega) hi (by omega) (ej.trans ei.symm)
/-- the pairs of an effect as members of a dict -/
theorem memE_of {bs : List Bs} {f : Str → Ef} (nd : (bs.map fun b => b.2.1).Nodup) (ks : ∀ b ∈ bs, b.2.1 ∈ G.KS) (no : ∀ k, k ∉ bs.map (fun b => b.2.1) → f k = .no) (at' : ∀ b ∈ bs, Ec C S G H n b.2.2 (f b.2.1)) : MemE C S G H n (bs.map (·.2)) f := by
  have e : (bs.map (·.2)).map (·.1) = bs.map fun b => b.2.1 := by rw [List.map_map]; rfl
  have nd' : ((bs.map (·.2)).map (·.1)).Nodup := by rw [e]; exact nd
  refine ⟨nd', fun k hk => ?_, fun k hk => ?_, fun k u hu => ?_⟩
  · rw [e] at hk
    obtain ⟨b, hb, rfl⟩ := List.mem_map.mp hk
    exact ks b hb
  · refine no k fun z => ?_
    obtain ⟨b, hb, rfl⟩ := List.mem_map.mp z
    rw [valV_of_mem nd' (List.mem_map.mpr ⟨b, hb, rfl⟩)] at hk
    cases hk
  · obtain ⟨b, hb, eb⟩ := List.mem_map.mp (valV_mem hu)
    have := at' b hb
    rw [show b.2.2 = u by rw [eb], show b.2.1 = k by rw [eb]] at this
    exact this
end
theorem pairs_bs {K : PySem.W.Frag} {S : Addr → Prop} {H : Hp} : ∀ {bs : List Bs}, BsAt S H bs → Paired (fun p (kv : Key × V) => SqT K H p [kV kv.1, kv.2]) (bs.map (·.1)) (kvsOf (bs.map (·.2)))
  | [], _ => .nil
  | b :: bs, h => .cons (.inl (.inl (h b List.mem_cons_self).2)) (pairs_bs fun c hc => h c (List.mem_cons_of_mem _ hc))
end TP

namespace TP
open PySem PySem.Spec PyProof.Rows L2
def Ef.isKeep : Ef → Bool
  | .keep => true
  | _ => false
/-- no member keeps -/
def Ef.mok : Ef → Prop
  | .merge f => ∀ k, (f k).isKeep = false ∧ (f k).mok
  | .build f => ∀ k, (f k).isKeep = false ∧ (f k).mok
  | _ => True
theorem mok_mem {e : Ef} (h : e.mok) (k : Str) : (e.mem k).isKeep = false ∧ (e.mem k).mok := by
  cases e <;> first | exact h k | exact ⟨rfl, trivial⟩
/-- only the members of the document count, but for what keeps -/
theorem on_tgt {e : Ef} (h1 : e.isKeep = false) (h2 : e.isNo = false) {d d' : D} (h : d.tgt = d'.tgt) : e.on d = e.on d' := by
  cases e with
  | no => cases h2
  | keep => cases h1
  | drop => rfl
  | set a => rfl
  | merge f =>
    show D.ob _ = D.ob _
    rw [h]
  | build f => rfl
theorem keep_pef (p : D) : (pef p).isKeep = false := by cases p <;> rfl
theorem mok_pef : ∀ p : D, (pef p).mok
  | .ob f => fun k => by
    have ih := mok_pef (f k)
    show (if (f k).isNil then Ef.no else if (f k).isNon then .drop else pef (f k)).isKeep = false ∧ (if (f k).isNil then Ef.no else if (f k).isNon then .drop else pef (f k)).mok
    by_cases c : (f k).isNil = true
    · rw [if_pos c]; exact ⟨rfl, trivial⟩
    · rw [if_neg c]
      by_cases c2 : (f k).isNon = true
      · rw [if_pos c2]; exact ⟨rfl, trivial⟩
      · rw [if_neg c2]; exact ⟨keep_pef _, ih⟩
  | .nil => trivial
  | .sc _ => trivial
  | .ls _ => trivial
theorem keep_fol' {e m : Ef} (he : e.isKeep = false) (hm : m.isKeep = false) : (e.fol m).isKeep = false := by
  cases m with
  | keep => cases hm
  | merge g => cases e <;> first | rfl | exact he
  | no => cases e <;> rfl
  | drop => cases e <;> rfl
  | set a => cases e <;> rfl
  | build f => cases e <;> rfl
theorem mok_fol : ∀ (m : Ef), m.mok → ∀ e : Ef, e.mok → (e.fol m).mok
  | .no, _, e, _ => by cases e <;> trivial
  | .keep, _, e, he => by cases e <;> exact he
  | .drop, _, e, _ => by cases e <;> trivial
  | .set a, _, e, _ => by cases e <;> trivial
  | .build f, h, e, _ => by cases e <;> exact h
  | .merge g, h, e, he => by
    have ih := fun k => mok_fol (g k) (h k).2
    have bd : ∀ e : Ef, (∀ k, (e.mem k).isKeep = false ∧ (e.mem k).mok) → (Ef.build fun k => if (g k).isNo then e.mem k else if (Ef.fol (if (e.mem k).isNo then .drop else e.mem k) (g k)).isDrop then .no else Ef.fol (if (e.mem k).isNo then .drop else e.mem k) (g k)).mok := fun e hm k => by
      have hb : (if (e.mem k).isNo then Ef.drop else e.mem k).isKeep = false ∧ (if (e.mem k).isNo then Ef.drop else e.mem k).mok := by
        by_cases z : (e.mem k).isNo = true
        · rw [if_pos z]; exact ⟨rfl, trivial⟩
        · rw [if_neg z]; exact hm k
      show (if (g k).isNo then e.mem k else if (Ef.fol (if (e.mem k).isNo then .drop else e.mem k) (g k)).isDrop then Ef.no else Ef.fol (if (e.mem k).isNo then .drop else e.mem k) (g k)).isKeep = false ∧ (if (g k).isNo then e.mem k else if (Ef.fol (if (e.mem k).isNo then .drop else e.mem k) (g k)).isDrop then Ef.no else Ef.fol (if (e.mem k).isNo then .drop else e.mem k) (g k)).mok
      by_cases c : (g k).isNo = true
      · rw [if_pos c]; exact hm k
      · rw [if_neg c]
        by_cases y : (Ef.fol (if (e.mem k).isNo then .drop else e.mem k) (g k)).isDrop = true
        · rw [if_pos y]; exact ⟨rfl, trivial⟩
        · rw [if_neg y]; exact ⟨keep_fol' hb.1 (h k).1, ih k _ hb.2⟩
    cases e with
    | no => exact bd .no fun k => ⟨rfl, trivial⟩
    | keep => exact h
    | drop => exact bd .drop fun k => ⟨rfl, trivial⟩
    | set a => exact bd (.set a) fun k => ⟨rfl, trivial⟩
    | build f => exact bd (.build f) he
    | merge f =>
      intro k
      show (if (g k).isNo then f k else if (f k).isNo then g k else (f k).fol (g k)).isKeep = false ∧ (if (g k).isNo then f k else if (f k).isNo then g k else (f k).fol (g k)).mok
      by_cases c : (g k).isNo = true
      · rw [if_pos c]; exact he k
      · rw [if_neg c]
        by_cases y : (f k).isNo = true
        · rw [if_pos y]; exact h k
        · rw [if_neg y]; exact ⟨keep_fol' (he k).1 (h k).1, ih k _ (he k).2⟩
/-- the effect of a row -/
def rowE (ps : List D) : Ef := ps.foldl (fun e p => e.fol (pef p)) .keep
/-- the document after a row -/
def rowD (d : D) (ps : List D) : D := ps.foldl D.app d
theorem no_pef (p : D) : (pef p).isNo = false := by cases p <;> rfl
theorem row_all : ∀ (ps : List D) (e : Ef), e.isNo = false → e.ok → e.mok → (ps.foldl (fun e p => e.fol (pef p)) e).isNo = false ∧ (ps.foldl (fun e p => e.fol (pef p)) e).ok ∧ (ps.foldl (fun e p => e.fol (pef p)) e).mok ∧ ∀ d, (ps.foldl (fun e p => e.fol (pef p)) e).on d = ps.foldl D.app (e.on d)
  | [], e, h1, h2, h3 => ⟨h1, h2, h3, fun d => rfl⟩
  | p :: ps, e, h1, h2, h3 => by
    obtain ⟨a, b, c, d⟩ := row_all ps (e.fol (pef p)) (fol_no h1 (no_pef p)) (ok_fol _ (ok_pef p) _ h2) (mok_fol _ (mok_pef p) _ h3)
    refine ⟨a, b, c, fun x => ?_⟩
    rw [List.foldl_cons, List.foldl_cons, d x, on_fol _ (no_pef p) e h1 h2, on_pef]
/-- the effect of a row leads where the row leads -/
theorem row_on (ps : List D) (d : D) : (rowE ps).on d = rowD d ps := (row_all ps .keep rfl trivial trivial).2.2.2 d
end TP

namespace TP
open PySem PySem.Spec PyProof.Rows L2
/-! ### sums of effects -/
/-- what a row asks for at a member: nothing asked for leaves the other -/
def jn (x y : Ef) : Ef := if y.isNo then x else if x.isNo then y else x.fol y
def unN (x : Ef) : Ef := if x.isNo then .drop else x
def unD (x : Ef) : Ef := if x.isDrop then .no else x
/-- the same at a member of what is always one object -/
def bl (x y : Ef) : Ef := if y.isNo then x else unD ((unN x).fol y)
theorem fol_mm (f g : Str → Ef) : (Ef.merge f).fol (.merge g) = .merge fun k => jn (f k) (g k) := by
  rw [Ef.fol]; rfl
/-- what is always one thing -/
def Cst (e : Ef) : Prop := e = .no ∨ e = .drop ∨ (∃ d, e = .set d) ∨ ∃ f, e = .build f
theorem fol_cm {a : Ef} (h : Cst a) (g : Str → Ef) : a.fol (.merge g) = .build fun k => bl (a.mem k) (g k) := by
  rcases h with rfl | rfl | ⟨d, rfl⟩ | ⟨f, rfl⟩ <;> (rw [Ef.fol] <;> first | rfl | exact fun _ z => nomatch z | (intro z; nomatch z))
theorem fol_c {a : Ef} (e : Ef) (h : Cst a) : e.fol a = a := by
  rcases h with rfl | rfl | ⟨d, rfl⟩ | ⟨f, rfl⟩ <;> cases e <;> rfl
theorem fol_k (e : Ef) : e.fol .keep = e := by cases e <;> rfl
theorem k_fol (e : Ef) : Ef.keep.fol e = e := by cases e <;> rfl
theorem ef_ways (e : Ef) : e = .keep ∨ Cst e ∨ ∃ f, e = .merge f := by
  cases e with
  | no => exact .inr (.inl (.inl rfl))
  | keep => exact .inl rfl
  | drop => exact .inr (.inl (.inr (.inl rfl)))
  | set d => exact .inr (.inl (.inr (.inr (.inl ⟨d, rfl⟩))))
  | merge f => exact .inr (.inr ⟨f, rfl⟩)
  | build f => exact .inr (.inl (.inr (.inr (.inr ⟨f, rfl⟩))))
theorem unN_no (x : Ef) : (unN x).isNo = false := by cases x <;> rfl
theorem unN_id {x : Ef} (h : x.isNo = false) : unN x = x := by rw [unN, h]; rfl
theorem unN_unD {x : Ef} (h : x.isNo = false) : unN (unD x) = x := by cases x <;> first | rfl | cases h
theorem jn_asc {x y z : Ef} (ih : ∀ a b, (Ef.fol a b).fol z = a.fol (b.fol z)) : jn (jn x y) z = jn x (jn y z) := by
  unfold jn
  by_cases hz : z.isNo = true
  · simp [hz]
  · by_cases hy : y.isNo = true
    · simp [hz, hy]
    · have nyz : (y.fol z).isNo = false := fol_no (by simpa using hy) (by simpa using hz)
      by_cases hx : x.isNo = true
      · simp [hz, hy, hx, nyz]
      · have nxy : (x.fol y).isNo = false := fol_no (by simpa using hx) (by simpa using hy)
        simp [hz, hy, hx, nyz, nxy, ih]
theorem bl_asc {x y z : Ef} (ih : ∀ a b, (Ef.fol a b).fol z = a.fol (b.fol z)) : bl (bl x y) z = bl x (jn y z) := by
  unfold bl jn
  by_cases hz : z.isNo = true
  · simp [hz]
  · by_cases hy : y.isNo = true
    · simp [hz, hy]
    · have nyz : (y.fol z).isNo = false := fol_no (by simpa using hy) (by simpa using hz)
      have nxy : ((unN x).fol y).isNo = false := fol_no (unN_no x) (by simpa using hy)
      simp [hz, hy, nyz, unN_unD nxy, ih]
theorem fol_asc : ∀ (c a b : Ef), (a.fol b).fol c = a.fol (b.fol c)
  | .no, a, b => by rw [fol_c _ (.inl rfl), fol_c _ (.inl rfl), fol_c _ (.inl rfl)]
  | .keep, a, b => by rw [fol_k, fol_k]
  | .drop, a, b => by rw [fol_c _ (.inr (.inl rfl)), fol_c _ (.inr (.inl rfl)), fol_c _ (.inr (.inl rfl))]
  | .set d, a, b => by rw [fol_c _ (.inr (.inr (.inl ⟨d, rfl⟩))), fol_c _ (.inr (.inr (.inl ⟨d, rfl⟩))), fol_c _ (.inr (.inr (.inl ⟨d, rfl⟩)))]
  | .build f, a, b => by rw [fol_c _ (.inr (.inr (.inr ⟨f, rfl⟩))), fol_c _ (.inr (.inr (.inr ⟨f, rfl⟩))), fol_c _ (.inr (.inr (.inr ⟨f, rfl⟩)))]
  | .merge h, a, b => by
    have ih := fun k => fol_asc (h k)
    rcases ef_ways b with rfl | cb | ⟨g, rfl⟩
    · rw [fol_k, k_fol]
    · rw [fol_c a cb, fol_cm cb, fol_c a (.inr (.inr (.inr ⟨_, rfl⟩)))]
    · rcases ef_ways a with rfl | ca | ⟨f, rfl⟩
      · rw [k_fol, k_fol]
      · rw [fol_cm ca, fol_cm (.inr (.inr (.inr ⟨_, rfl⟩))), fol_mm, fol_cm ca]
        exact congrArg Ef.build (funext fun k => bl_asc (ih k))
      · rw [fol_mm, fol_mm, fol_mm, fol_mm]
        exact congrArg Ef.merge (funext fun k => jn_asc (ih k))
/-- an effect added to itself is itself -/
theorem fol_self : ∀ e : Ef, e.fol e = e
  | .no => rfl
  | .keep => rfl
  | .drop => rfl
  | .set d => rfl
  | .build f => rfl
  | .merge f => by
    have ih := fun k => fol_self (f k)
    rw [fol_mm]
    refine congrArg Ef.merge (funext fun k => ?_)
    unfold jn
    by_cases c : (f k).isNo = true
    · simp [c]
    · simp [c, ih]
/-- one + other + one is other + one -/
theorem fol_aba : ∀ a b : Ef, (a.fol b).fol a = b.fol a
  | .no, b => by rw [fol_c _ (.inl rfl), fol_c _ (.inl rfl)]
  | .keep, b => by rw [k_fol]
  | .drop, b => by rw [fol_c _ (.inr (.inl rfl)), fol_c _ (.inr (.inl rfl))]
  | .set d, b => by rw [fol_c _ (.inr (.inr (.inl ⟨d, rfl⟩))), fol_c _ (.inr (.inr (.inl ⟨d, rfl⟩)))]
  | .build f, b => by rw [fol_c _ (.inr (.inr (.inr ⟨f, rfl⟩))), fol_c _ (.inr (.inr (.inr ⟨f, rfl⟩)))]
  | .merge f, b => by
    have ih := fun k => fol_aba (f k)
    rcases ef_ways b with rfl | cb | ⟨g, rfl⟩
    · rw [fol_k, k_fol, fol_self]
    · rw [fol_c _ cb]
    · rw [fol_mm, fol_mm, fol_mm]
      refine congrArg Ef.merge (funext fun k => ?_)
      unfold jn
      by_cases cf : (f k).isNo = true
      · by_cases cg : (g k).isNo = true
        · have e1 : f k = .no := by cases h : f k <;> first | rfl | (rw [h] at cf; cases cf)
          have e2 : g k = .no := by cases h : g k <;> first | rfl | (rw [h] at cg; cases cg)
          rw [e1, e2]
          rfl
        · simp [cf, cg]
      · by_cases cg : (g k).isNo = true
        · simp [cf, cg, fol_self]
        · have := fol_no (by simpa using cf : (f k).isNo = false) (by simpa using cg : (g k).isNo = false)
          simp [cf, cg, this, ih]
/-- the effect of rows one after the other -/
theorem row_sum (ps qs : List D) : rowE (ps ++ qs) = (rowE ps).fol (rowE qs) := by
  have key : ∀ (qs : List D) (e m : Ef), qs.foldl (fun e p => e.fol (pef p)) (e.fol m) = e.fol (qs.foldl (fun e p => e.fol (pef p)) m) := by
    intro qs
    induction qs with
    | nil => exact fun _ _ => rfl
    | cons q qs ih =>
      intro e m
      show qs.foldl _ ((e.fol m).fol (pef q)) = e.fol (qs.foldl _ (m.fol (pef q)))
      rw [fol_asc, ih]
  have := key qs (rowE ps) .keep
  rw [fol_k] at this
  unfold rowE at *
  rw [List.foldl_append]
  exact this
end TP

namespace TP
open PySem PySem.Spec PyProof.Rows L2
def topS (i : Nat) : Stmt := PySem.Challenge.pw_twopatches_k42_patches_that_come_again.main.body.getD i (.Pass ⟨0, 0, 0, 0⟩)
abbrev sCopied : Stmt := topS 10
/-- a def of the text, as the top has left it -/
structure Df (K : PySem.W.Frag) (mg : Str → Option Value) (x : Str) (st : Stmt) (ps : List Str) (f : Addr) (fd : FuncData) : Prop where
  F : Fun K x x st f fd
  m : mg x = some (.ref f)
  b : Binds K fd ps []
/-- the built-in names are the built-in things -/
def Bi (mg : Str → Option Value) : Prop := ∀ x ∈ (["isinstance", "dict", "list", "int", "str", "bool", "sorted", "sum", "max", "all", "len", "range", "abs", "repr", "tuple"] : List Str), mg x = none
theorem Bi.of {mg : Str → Option Value} (h : Bi mg) (x : Str) (hx : x ∈ (["isinstance", "dict", "list", "int", "str", "bool", "sorted", "sum", "max", "all", "len", "range", "abs", "repr", "tuple"] : List Str) := by decide +kernel) : mg x = none := h x hx
/-- new since H -/
abbrev Nw (H : Hp) : Addr → Prop := fun a => H a = none
theorem Nw.ex [TabL] {H H' : Hp} (e : Ex H H') {a : Addr} (h : Nw H' a) : Nw H a := fresh_back e h
section
variable [TabL] {P : Program} {w : World} {K : PySem.W.Frag} {mg : Str → Option Value} {base : Heap}
theorem fn_zero {k : Nat} {f : Addr} {fd : FuncData} {ps : List Str} {sp : Sp} (h : ∀ vs H Q E, ¬ sp vs H Q E) : FnOk P w K mg base CX0 k f fd ps sp :=
  ⟨fun vs H Q E z => (h _ _ _ _ z).elim, fun _ _ _ _ _ _ _ _ _ _ _ _ _ z => (h _ _ _ _ z).elim⟩
/-! ### copied -/
def spPatched (G : Gen) (n : Nat) : Sp := fun vs H Q _ => ∃ (S1 S2 : Addr → Prop) (v1 v2 : V) (d p : D), vs = [v1, v2] ∧ Dc S1 G H n v1 d ∧ Dc S2 G H n v2 p ∧ (∀ x, S1 x → S2 x → False) ∧ ∀ r H', Ex H H' → Dc (Nw H) G H' n r (d.app p) → Q r H'
def spCopied (G : Gen) (n : Nat) : Sp := fun vs H Q _ => ∃ (S : Addr → Prop) (v : V) (d : D), vs = [v] ∧ Dc S G H n v d ∧ ∀ r H', Ex H H' → Dc (Nw H) G H' n r d → Q r H'
theorem scCopied : FnScope ["document", "key"] ["document"] (defScope sCopied) := ⟨rfl, rfl, rfl, by decide +kernel, rfl, by decide +kernel, by decide +kernel⟩
theorem sizeK {G : Gen} (h : G.KS.length ≤ 5000) {S H n ms f} (m : Mem S G H n ms f) : (kvsOf ms).length < sizeLine := by
  have := m.len
  rw [List.length_map]
  exact Nat.lt_of_le_of_lt (show _ ≤ 5000 by omega) (by decide)
theorem ok_copied {f : Addr} {fd : FuncData} (Dd : Df K mg "copied" sCopied ["document"] f fd) (T : Bi mg) {G : Gen} (hG : G.KS.length ≤ 5000) : ∀ n, FnOk P w K mg base CX0 n f fd ["document"] (spCopied G n)
  | 0 => fn_zero fun vs H Q E ⟨_, _, _, _, h, _⟩ => h
  | n + 1 => by
    have ih := ok_copied Dd T hG n
    refine Dd.F.ok scCopied (fun vs H Q E h => ?_) (fun cdv A outer s H vs Q E hr h => ?_)
    · obtain ⟨_, v, d, rfl, _⟩ := h
      rfl
    obtain ⟨S, v, d, rfl, hv, k⟩ := h
    have hu := hu_of hr
    refine ⟨_, pss_cons (ps_if (pt_val (pe_callB call_isi (by rfl) (T.of "isinstance") (by decide +kernel) (pa_cons (pv 0) (pa_cons (pe_bltn (v := .ty "dict") (by rfl) (T.of "dict") (by decide +kernel) rfl) pa_nil))))
        (pss_one (ps_ret (pe_lock (pe_dc (own := [("key", 1)]) (g := gName 1) (tt := tYes) rfl scCopied.nd (pi_keys (pv 0)) (blkOk_by (N := ["document", "key"]) (sc := defScope sCopied) (by decide +kernel)) (fun _ _ _ _ _ => pg_name (i := 1) scCopied.nd rfl (Or.inl rfl)) (fun _ _ _ _ _ => pts_nil)
          (fun _ _ _ _ _ => pv 1) (fun _ _ _ _ _ => pe_call ih hr rfl Dd.m Dd.F.kp Dd.b .nil pass0 (pa_cons (pe_dget hu (pv 0) (pv 1) (fun _ _ => rfl)) pa_nil)))))) pss_nil)
      (pss_cons (ps_if (pt_val (pe_callB call_isi (by rfl) (T.of "isinstance") (by decide +kernel) (pa_cons (pv 0) (pa_cons (pe_bltn (v := .ty "list") (by rfl) (T.of "list") (by decide +kernel) rfl) pa_nil))))
        (pss_one (ps_ret (pe_callTy call_list_of (by rfl) (T.of "list") (by decide +kernel) (pa_cons (pv 0) pa_nil)))) pss_nil)
      (pss_one (ps_ret (pv 0)))), ?_⟩
    obtain ⟨t1, ty1, kit1⟩ := isiD K hv
    obtain ⟨t2, ty2, kit2⟩ := isiL K hv
    refine ⟨v, rfl, v, .ty "dict", t1, _, _, rfl, .ty _, ty1, kit1, _, rfl, ?_⟩
    refine hv.cases (fun m e hs ed => ?_) (fun m a xs e ev hS r hx ed => ?_) (fun m a ms f e ev hS r M ed => ?_)
    · subst ed
      refine iteF ⟨v, rfl, v, .ty "list", t2, _, _, rfl, .ty _, ty2, kit2, _, rfl, iteF ⟨v, rfl, ?_⟩⟩
      exact k v H (Ex.refl H) (by cases e; exact Dc.sc hs)
    · subst ed; subst ev
      refine iteF ⟨_, rfl, .ref a, .ty "list", t2, _, _, rfl, .ty _, ty2, kit2, _, rfl, iteT ⟨_, rfl, a, xs, rfl, .inl (.inl (.inl r)), fun l hl => ?_⟩⟩
      exact k _ _ (Ex.new hl) (by cases e; exact Dc.ls hl upd_same hx)
    · subst ed; subst ev
      cases e
      refine iteT ⟨a, _, r, trivial, fun od => ?_⟩
      have M' := M.lock r hS (o := .frz od (.dK (kvsOf ms)))
      refine ⟨_, rfl, a, od, rfl, .inl ⟨_, upd_same, fun Da hD => ?_⟩⟩
      have hDa : Da ≠ a := fun z => by rw [z, upd_same] at hD; cases hD
      have hDH : H Da = none := by rw [upd_ne hDa] at hD; exact hD
      refine dc_keys (o := od) (d := a) (ms := ms) (fun i H2 => Ex (upd H a (.frz od (.dK (kvsOf ms)))) H2 ∧ ∃ ms2 f2, H2 Da = some (.dK (kvsOf ms2)) ∧ Mem (fun b => H b = none ∧ b ≠ Da) G H2 n ms2 f2 ∧ f2 = mix ms i f (fun _ => .nil)) ?_ ?_ ?_ ?_
      · exact ⟨Ex.new hD, [], fun _ => .nil, upd_same, Mem.nil, mix_zero.symm⟩
      · exact fun i H2 _ p => p.1 a _ upd_same
      · intro i key u H2 hi p
        obtain ⟨ex, ms2, f2, h2, M2, hf⟩ := p
        have hku : valV ms key = some u := valV_of_mem M.nd (List.mem_of_getElem? hi)
        refine ⟨rfl, ?_⟩
        refine t_yes ?_
        refine ⟨.str key, rfl, .ref a, rfl, .str key, rfl, a, u, rfl, .inl ⟨_, Sum.inr key, .inr ⟨od, ex a _ upd_same⟩, rfl, by rw [valV_inK]; exact hku.symm⟩, ?_⟩
        refine ⟨S, u, f key, rfl, (M'.at' key u hku).ex ex, fun z H5 ex5 hz => ?_⟩
        have h5 := ex5 Da _ h2
        have M5 := M2.ex ex5
        have nz : Dc (fun b => H b = none ∧ b ≠ Da) G H5 n z (f key) := hz.imp fun b hb => by
          have q := fresh_back ex hb
          by_cases zz : b = a
          · rw [zz, upd_same] at q; cases q
          · rw [upd_ne zz] at q
            exact ⟨q, (ne_of_none h2 hb).symm⟩
        refine ⟨kvsOf ms2, Sum.inr key, rfl, h5, sizeK hG M5, ?_, putK ms2 key z, D.fup f2 key (f key), by rw [upd_same, putK_inK], ?_, ?_⟩
        · exact Ex.mut (ex.trans ex5) hD h5
        · exact (M5.put (M.ks key (List.mem_map.mpr ⟨_, List.mem_of_getElem? hi, rfl⟩)) nz).off fun z => z.2 rfl
        · rw [hf]; exact mix_succ hi
      · intro H2 p
        obtain ⟨ex, ms2, f2, h2, M2, hf⟩ := p
        refine ⟨ex a _ upd_same, ?_⟩
        refine k _ _ (ex_unlock r ex) (Dc.ob hDH (by rw [upd_ne hDa]; exact h2) ?_)
        have e : f2 = f := by
          rw [hf]
          exact mix_all fun k hk => M.no k (valV_none_of hk)
        rw [← e]
        exact (M2.imp fun b hb => hb.1).off (fun z => by rw [show H a = none from z] at r; cases r)
end
end TP

namespace TP
open PySem PySem.Spec PyProof.Rows L2
abbrev sCheck : Stmt := topS 8
-- no sApplied
abbrev sDepth : Stmt := topS 11
abbrev sParts : Stmt := topS 12
abbrev sWrong : Stmt := topS 13
abbrev sIsAtom : Stmt := topS 14
abbrev sIsElem : Stmt := topS 15
section
variable [TabL] {P : Program} {w : World} {K : PySem.W.Frag} {mg : Str → Option Value} {base : Heap}
/-! ### is_element -/
def spElem : Sp := fun vs H Q _ => ∃ v, vs = [v] ∧ isSc v = true ∧ ∀ H', Ex H H' → Q (.bl true) H'
theorem scElem : FnScope ["value"] ["value"] (defScope sIsElem) := ⟨rfl, rfl, rfl, by decide +kernel, rfl, by decide +kernel, by decide +kernel⟩
theorem ok_elem {f : Addr} {fd : FuncData} (Dd : Df K mg "is_element" sIsElem ["value"] f fd) (T : Bi mg) : FnOk P w K mg base CX0 1 f fd ["value"] spElem := by
  refine Dd.F.ok scElem (fun vs H Q E h => ?_) (fun cdv A outer s H vs Q E hr h => ?_)
  · obtain ⟨v, rfl, _⟩ := h
    rfl
  obtain ⟨v, rfl, hv, k⟩ := h
  refine ⟨_, pss_one (ps_ret (pe_or (pe_cmpR op_isN (pv 0) pe_non (nomark _)) (pe_one (pe_and (pe_callB call_isiT (by rfl) (T.of "isinstance") (by decide +kernel) (pa_cons (pv 0) (pa_cons (pe_tup (pa_cons (pe_bltn (v := .ty "int") (by rfl) (T.of "int") (by decide +kernel) rfl) (pa_cons (pe_bltn (v := .ty "str") (by rfl) (T.of "str") (by decide +kernel) rfl) pa_nil))) pa_nil)))
    (pe_one (pe_not (pe_callB call_isi (by rfl) (T.of "isinstance") (by decide +kernel) (pa_cons (pv 0) (pa_cons (pe_bltn (v := .ty "bool") (by rfl) (T.of "bool") (by decide +kernel) rfl) pa_nil))))))))), ?_⟩
  refine ⟨v, rfl, rfl, _, rfl, ?_⟩
  have way : ∀ t : String, (∀ H', TyX K H' v (.type t)) → v ≠ .non → PySem.W.kitAny K (.type t) [.type "int", .type "str"] = some true → PySem.W.kitOne K (.type t) (.type "bool") = some false →
      tAndV (tCB (rIsiT K) (tCons (tVar 0) (tCons (tTup (tCons (tC (.ty "int")) (tCons (tC (.ty "str")) tNil))) tNil))) (tNotV (tCB (rIsi K) (tCons (tVar 0) (tCons (tC (.ty "bool")) tNil)))) (start ["value"] [v]) H Q := fun t ty _ ka kb =>
    ⟨v, rfl, (by show 2 ≤ sizeLine; decide), fun p hp => ⟨v, p, [.ty "int", .ty "str"], _, _, _, rfl, upd_same, .cons (.ty _) (.cons (.ty _) .nil), ty _, ka, _, rfl, iteT ⟨v, rfl, v, .ty "bool", _, _, _, rfl, .ty _, ty _, kb, _, rfl, k _ (Ex.new hp)⟩⟩⟩
  cases v <;> first | cases hv | skip
  · exact iteT (k H (Ex.refl H))
  · exact ifF rfl (way "int" (fun _ => .base (.int _)) (fun z => nomatch z) (kitAny_cons (b := true) (kit_ty (by decide +kernel)) (fun z => nomatch z) fun _ => rfl) (kit_ty (r := false) (by decide +kernel)))
  · exact ifF rfl (way "str" (fun _ => .base (.str _)) (fun z => nomatch z) (kitAny_cons (b := false) (kit_ty (by decide +kernel)) (fun _ => kitAny_cons (b := true) (kit_ty (by decide +kernel)) (fun z => nomatch z) fun _ => rfl) fun z => nomatch z) (kit_ty (r := false) (by decide +kernel)))
/-! ### is_atom -/
def spAtom (G : Gen) : Sp := fun vs H Q _ => ∃ (S : Addr → Prop) (n : Nat) (v : V) (d : D), vs = [v] ∧ Dc S G H n v d ∧ d.isOb = false ∧ ∀ H', Ex H H' → Q (.bl true) H'
theorem scAtom : FnScope ["value", "element"] ["value"] (defScope sIsAtom) := ⟨rfl, rfl, rfl, by decide +kernel, rfl, by decide +kernel, by decide +kernel⟩
theorem ok_atom {f fe : Addr} {fd fde : FuncData} (Dd : Df K mg "is_atom" sIsAtom ["value"] f fd) (De : Df K mg "is_element" sIsElem ["value"] fe fde) (T : Bi mg) {G : Gen} (hL : G.L ≤ 5000) : FnOk P w K mg base CX0 2 f fd ["value"] (spAtom G) := by
  have ge : FnOk P w K mg base CX0 1 fe fde ["value"] spElem := ok_elem De T
  refine Dd.F.ok scAtom (fun vs H Q E h => ?_) (fun cdv A outer s H vs Q E hr h => ?_)
  · obtain ⟨_, _, v, _, rfl, _⟩ := h
    rfl
  obtain ⟨S, n, v, d, rfl, hv, ho, k⟩ := h
  refine ⟨_, pss_cons (ps_if (pt_val (pe_callB call_isi (by rfl) (T.of "isinstance") (by decide +kernel) (pa_cons (pv 0) (pa_cons (pe_bltn (v := .ty "list") (by rfl) (T.of "list") (by decide +kernel) rfl) pa_nil))))
      (pss_one (ps_ret (pe_callB (cr_all rfl) (by rfl) (T.of "all") (by decide +kernel) (pa_cons (pe_lc (own := [("element", 1)]) (g := gName 1) (tt := tYes) rfl scAtom.nd (pi_list (pv 0)) (blkOk_by (N := ["value", "element"]) (sc := defScope sIsAtom) (by decide +kernel))
        (fun _ _ _ _ _ => pg_name (i := 1) scAtom.nd rfl (Or.inl rfl)) (fun _ _ _ _ _ => pts_nil) (fun _ _ _ _ _ => pe_call ge hr rfl De.m De.F.kp De.b .nil pass0 (pa_cons (pv 1) pa_nil))) pa_nil)))) pss_nil)
    (pss_one (ps_ret (pe_call ge hr rfl De.m De.F.kp De.b .nil pass0 (pa_cons (pv 0) pa_nil)))), ?_⟩
  obtain ⟨t1, ty1, kit1⟩ := isiL K hv
  refine ⟨v, rfl, v, .ty "list", t1, _, _, rfl, .ty _, ty1, kit1, _, rfl, ?_⟩
  refine hv.cases (fun m _ hs e => ?_) (fun m a xs _ ev hS r hx e => ?_) (fun m a ms g _ _ _ _ _ e => ?_)
  · subst e
    exact iteF ⟨v, rfl, v, rfl, G.sc _ hs, fun H' ex => k H' ex⟩
  · subst e; subst ev
    refine iteT ⟨_, rfl, a, rfl, ⟨_, .inl (.inl r)⟩, fun Da hD => ?_⟩
    refine lc_list (K := K) (a := a) (xs := xs) (fun i H2 => Ex H H2 ∧ H2 Da = some (.lst (List.replicate i (.bl true)))) ⟨Ex.new hD, upd_same⟩ (fun i H2 _ q => .inl (.inl (q.1 a _ r))) ?_ ?_
    · intro i x H2 hi q
      refine ⟨rfl, t_yes ?_⟩
      refine ⟨x, rfl, x, rfl, G.sc _ (hx.2 x (List.mem_of_getElem? hi)), fun H5 ex5 => ⟨_, ex5 Da _ q.2, ?_, Ex.mut (q.1.trans ex5) hD (ex5 Da _ q.2), ?_⟩⟩
      · have := (List.getElem?_eq_some_iff.mp hi).1
        rw [List.length_replicate]
        exact Nat.lt_of_le_of_lt (show i ≤ 5000 by omega) (by decide)
      · rw [upd_same, List.replicate_succ']
    · intro H2 q
      refine ⟨Da, List.replicate xs.length true, rfl, .inl (.inl (by rw [q.2, List.map_replicate])), ?_⟩
      rw [show (List.replicate xs.length true).all id = true by simp]
      exact k H2 q.1
  · subst e
    cases ho
/-! ### wrong_path -/
def spWrong (G : Gen) (n : Nat) : Sp := fun vs H Q _ => ∃ (S : Addr → Prop) (v : V) (d : D), vs = [v] ∧ Dc S G H n v d ∧ ∀ H', Ex H H' → Q .non H'
abbrev nWrong : List Str := ["value", "key", "path"]
theorem scWrong : FnScope nWrong ["value"] (defScope sWrong) := ⟨rfl, rfl, rfl, by decide +kernel, rfl, by decide +kernel, by decide +kernel⟩
theorem ok_wrong {f fa fe : Addr} {fd fda fde : FuncData} (Dd : Df K mg "wrong_path" sWrong ["value"] f fd) (Da' : Df K mg "is_atom" sIsAtom ["value"] fa fda) (De : Df K mg "is_element" sIsElem ["value"] fe fde) (T : Bi mg) {G : Gen} (hL : G.L ≤ 5000) (hG : G.KS.length < 64) :
    ∀ n, FnOk P w K mg base CX0 (n + 2) f fd ["value"] (spWrong G n)
  | 0 => fn_zero fun vs H Q E ⟨_, _, _, _, h, _⟩ => h
  | n + 1 => by
    have ih := ok_wrong Dd Da' De T hL hG n
    have ga : FnOk P w K mg base CX0 (n + 2) fa fda ["value"] (spAtom G) := (ok_atom Da' De T hL).mono (by omega)
    refine Dd.F.ok scWrong (fun vs H Q E h => ?_) (fun cdv A outer s H vs Q E hr h => ?_)
    · obtain ⟨_, v, _, rfl, _⟩ := h
      rfl
    obtain ⟨S, v, d, rfl, hv, k⟩ := h
    have hu := hu_of hr
    refine ⟨_, pss_cons (ps_if (pt_not (pt_val (pe_callB call_isi (by rfl) (T.of "isinstance") (by decide +kernel) (pa_cons (pv 0) (pa_cons (pe_bltn (v := .ty "dict") (by rfl) (T.of "dict") (by decide +kernel) rfl) pa_nil)))))
        (pss_one (ps_ret (pe_ifExp (pt_val (pe_call ga hr rfl Da'.m Da'.F.kp Da'.b .nil pass0 (pa_cons (pv 0) pa_nil))) pe_non (pe_tup pa_nil)))) pss_nil)
      (pss_cons (ps_if (pt_not (pt_val (pe_callB (cr_all rfl) (by rfl) (T.of "all") (by decide +kernel) (pa_cons (pe_lock (pe_lc (own := [("key", 1)]) (g := gName 1) (tt := tYes) rfl scWrong.nd (pi_keys (pv 0)) (blkOk_by (N := nWrong) (sc := defScope sWrong) (by decide +kernel))
          (fun _ _ _ _ _ => pg_name (i := 1) scWrong.nd rfl (Or.inl rfl)) (fun _ _ _ _ _ => pts_nil) (fun _ _ _ _ _ => pe_callB (id := "isinstance") (r := rIsi K) call_isi (by rfl) (T.of "isinstance") (by decide +kernel) (pa_cons (pv 1) (pa_cons (pe_bltn (v := .ty "str") (by rfl) (T.of "str") (by decide +kernel) rfl) pa_nil))))) pa_nil))))
          (pss_one ps_never) pss_nil)
      (pss_cons (ps_for PassesOwn.never rfl (pi_list (pe_callB (call_sortedD rfl) (by rfl) (T.of "sorted") (by decide +kernel) (pa_cons (pv 0) pa_nil))) (pg_name (i := 1) scWrong.nd rfl (Or.inl rfl))
        (pss_cons (ps_set (i := 2) scWrong.nd rfl (Or.inl rfl) (pe_call ih hr rfl Dd.m Dd.F.kp Dd.b .nil pass0 (pa_cons (pe_dget hu (pv 0) (pv 1) (fun _ _ => rfl)) pa_nil)))
        (pss_one (ps_if (pt_cmpR op_notN (pv 2) pe_non (nomark _)) (pss_one ps_never) pss_nil))))
      (pss_one (ps_ret pe_non)))), ?_⟩
    obtain ⟨t1, ty1, kit1⟩ := isiD K hv
    refine ⟨v, rfl, v, .ty "dict", t1, _, _, rfl, .ty _, ty1, kit1, _, rfl, ?_⟩
    refine hv.cases (fun m _ hs e => ?_) (fun m a xs _ ev hS r hx e => ?_) (fun m a ms g em ev hS r M e => ?_)
    · subst e
      exact iteT ⟨v, rfl, S, _, v, _, rfl, hv, rfl, fun H' ex => ⟨_, rfl, iteT (k H' ex)⟩⟩
    · subst e
      exact iteT ⟨v, rfl, S, _, v, _, rfl, hv, rfl, fun H' ex => ⟨_, rfl, iteT (k H' ex)⟩⟩
    subst e; subst ev; cases em
    refine iteF ⟨a, _, r, trivial, fun od => ⟨_, rfl, a, od, rfl, .inl ⟨_, upd_same, fun Da hD => ?_⟩⟩⟩
    have hDa : Da ≠ a := fun z => by rw [z, upd_same] at hD; cases hD
    have hml := M.len
    refine lc_keys (o := od) (d := a) (ms := ms) (fun i H2 => Ex (upd H a (.frz od (.dK (kvsOf ms)))) H2 ∧ H2 Da = some (.lst (List.replicate i (.bl true)))) ⟨Ex.new hD, upd_same⟩ (fun i H2 _ q => q.1 a _ upd_same) ?_ ?_
    · intro i key u H2 hi q
      refine ⟨rfl, t_yes ?_⟩
      refine ⟨.str key, rfl, .str key, .ty "str", _, _, _, rfl, .ty _, .base (.str key), kit_ty (r := true) (by decide +kernel), _, q.2, ?_, Ex.mut q.1 hD q.2, ?_⟩
      · have := (List.getElem?_eq_some_iff.mp hi).1
        rw [List.length_replicate]
        exact Nat.lt_of_le_of_lt (show i ≤ 5000 by omega) (by decide)
      · rw [upd_same, List.replicate_succ']
    intro H2 q
    refine ⟨q.1 a _ upd_same, ?_⟩
    refine ⟨Da, List.replicate ms.length true, rfl, .inl (.inl (by rw [upd_ne hDa, q.2, List.map_replicate])), ?_⟩
    have ex : Ex H (upd H2 a (.dK (kvsOf ms))) := ex_unlock r q.1
    generalize upd H2 a (.dK (kvsOf ms)) = H3 at ex
    rw [show (List.replicate ms.length true).all id = true by simp]
    refine ⟨_, rfl, iteF ?_⟩
    refine ⟨_, rfl, a, kvsOf ms, ms.map (·.1), rfl, .inl (ex a _ r), by rw [List.map_map, List.map_map]; rfl, by rw [List.length_map]; omega, fun ys p hp _ nw => ?_⟩
    refine ⟨p, rfl, ⟨_, .inl (.inl upd_same)⟩, for_list (K := K) (a := p) (xs := ys.map V.str) (fun i σ H4 => (∃ x y, σ = [some (.ref a), x, y]) ∧ Ex H H4 ∧ H4 p = some (.lst (ys.map V.str))) ⟨⟨_, _, rfl⟩, ex.trans (Ex.new nw), upd_same⟩ (fun i σ H4 _ q => .inl (.inl q.2.2)) ?_ ?_⟩
    · rintro i x σ H4 hi ⟨⟨x1, y1, rfl⟩, e4, hp4⟩
      obtain ⟨key, hk, rfl⟩ : ∃ key, key ∈ ys ∧ x = .str key := by
        obtain ⟨key, h1, h2⟩ := List.mem_map.mp (List.mem_of_getElem? hi)
        exact ⟨key, h1, h2.symm⟩
      obtain ⟨u, hku⟩ := valV_some_of ((hp.mem_iff).mp hk)
      refine ⟨.ref a, rfl, .str key, rfl, a, u, rfl, .inl ⟨_, Sum.inr key, .inl (e4 a _ r), rfl, by rw [valV_inK]; exact hku.symm⟩, S, u, g key, rfl, (M.at' key u hku).ex e4, fun H5 e5 => ?_⟩
      exact ⟨_, rfl, rfl, _, rfl, iteF ⟨⟨_, _, rfl⟩, e4.trans e5, e5 p _ hp4⟩⟩
    · rintro σ H4 ⟨_, e4, _⟩
      exact k H4 e4
end
end TP

namespace TP
open PySem PySem.Spec PyProof.Rows L2
section
variable [TabL] {P : Program} {w : World} {K : PySem.W.Frag} {mg : Str → Option Value} {base : Heap}
/-! ### depth -/
def spDepth (G : Gen) (n : Nat) : Sp := fun vs H Q _ => ∃ (S : Addr → Prop) (v : V) (d : D) (b : Nat), vs = [v] ∧ Dc S G H n v d ∧ DD d b ∧ ∀ (j : Int) H', Ex H H' → 0 ≤ j → j ≤ b → Q (.int j) H'
theorem scDepth : FnScope ["document", "key"] ["document"] (defScope sDepth) := ⟨rfl, rfl, rfl, by decide +kernel, rfl, by decide +kernel, by decide +kernel⟩
theorem ok_depth {f : Addr} {fd : FuncData} (Dd : Df K mg "depth" sDepth ["document"] f fd) (T : Bi mg) {G : Gen} (hG : G.KS.length ≤ 5000) : ∀ n, FnOk P w K mg base CX0 n f fd ["document"] (spDepth G n)
  | 0 => fn_zero fun vs H Q E ⟨_, _, _, _, _, h, _⟩ => h
  | n + 1 => by
    have ih := ok_depth Dd T hG n
    refine Dd.F.ok scDepth (fun vs H Q E h => ?_) (fun cdv A outer s H vs Q E hr h => ?_)
    · obtain ⟨_, v, d, _, rfl, _⟩ := h
      rfl
    obtain ⟨S, v, d, b, rfl, hv, hd, k⟩ := h
    have hu := hu_of hr
    refine ⟨_, pss_cons (ps_if (pt_not (pt_val (pe_callB call_isi (by rfl) (T.of "isinstance") (by decide +kernel) (pa_cons (pv 0) (pa_cons (pe_bltn (v := .ty "dict") (by rfl) (T.of "dict") (by decide +kernel) rfl) pa_nil)))))
        (pss_one (ps_ret pe_int)) pss_nil)
      (pss_one (ps_ret (pe_op op_add pe_int (pe_callBK (cr_maxDef hr.units hr.hd) (by rfl) (T.of "max") (by decide +kernel) (pa_cons (pe_lock (pe_lc (own := [("key", 1)]) (g := gName 1) (tt := tYes) rfl scDepth.nd (pi_keys (pv 0)) (blkOk_by (N := ["document", "key"]) (sc := defScope sDepth) (by decide +kernel))
          (fun _ _ _ _ _ => pg_name (i := 1) scDepth.nd rfl (Or.inl rfl)) (fun _ _ _ _ _ => pts_nil) (fun _ _ _ _ _ => pe_call ih hr rfl Dd.m Dd.F.kp Dd.b .nil pass0 (pa_cons (pe_dget hu (pv 0) (pv 1) (fun _ _ => rfl)) pa_nil)))) pa_nil) (pk_cons pe_int pk_nil))))), ?_⟩
    obtain ⟨t1, ty1, kit1⟩ := isiD K hv
    refine ⟨v, rfl, v, .ty "dict", t1, _, _, rfl, .ty _, ty1, kit1, _, rfl, ?_⟩
    refine hv.cases (fun m _ hs e => ?_) (fun m a xs _ ev hS r hx e => ?_) (fun m a ms g em ev hS r M e => ?_)
    · subst e
      exact iteT (k 0 H (Ex.refl H) (Int.le_refl _) (by omega))
    · subst e
      exact iteT (k 0 H (Ex.refl H) (Int.le_refl _) (by omega))
    subst e; subst ev; cases em
    refine iteF ⟨a, _, r, trivial, fun od => ⟨_, rfl, a, od, rfl, .inl ⟨_, upd_same, fun Da hD => ?_⟩⟩⟩
    have hDa : Da ≠ a := fun z => by rw [z, upd_same] at hD; cases hD
    have hml := M.len
    have M' := M.lock r hS (o := .frz od (.dK (kvsOf ms)))
    refine lc_keys (o := od) (d := a) (ms := ms) (fun i H2 => Ex (upd H a (.frz od (.dK (kvsOf ms)))) H2 ∧ ∃ ns : List Int, H2 Da = some (.lst (ns.map V.int)) ∧ ns.length = i ∧ ∀ x ∈ ns, 0 ≤ x ∧ x ≤ ((b - 1 : Nat) : Int)) ⟨Ex.new hD, [], upd_same, rfl, fun x hx => nomatch hx⟩ (fun i H2 _ q => q.1 a _ upd_same) ?_ ?_
    · rintro i key u H2 hi ⟨ex, ns, h2, hl, hb⟩
      have hku : valV ms key = some u := valV_of_mem M.nd (List.mem_of_getElem? hi)
      refine ⟨rfl, t_yes ?_⟩
      refine ⟨.ref a, rfl, .str key, rfl, a, u, rfl, .inl ⟨_, Sum.inr key, .inr ⟨od, ex a _ upd_same⟩, rfl, by rw [valV_inK]; exact hku.symm⟩, S, u, g key, b - 1, rfl, (M'.at' key u hku).ex ex, hd.2 key, fun j H5 e5 j0 j1 => ?_⟩
      refine ⟨_, e5 Da _ h2, ?_, Ex.mut (ex.trans e5) hD (e5 Da _ h2), ns ++ [j], ?_, ?_, ?_⟩
      · have := (List.getElem?_eq_some_iff.mp hi).1
        rw [List.length_map, hl]
        exact Nat.lt_of_le_of_lt (show i ≤ 5000 by omega) (by decide)
      · rw [upd_same, List.map_append]; rfl
      · rw [List.length_append, hl]; rfl
      · intro x hx
        rcases List.mem_append.mp hx with hx | hx
        · exact hb x hx
        · rw [List.mem_singleton.mp hx]; exact ⟨j0, j1⟩
    rintro H2 ⟨ex, ns, h2, hl, hb⟩
    refine ⟨ex a _ upd_same, ?_⟩
    have ex' : Ex H (upd H2 a (.dK (kvsOf ms))) := ex_unlock r ex
    have hd1 := hd.1
    refine ⟨Da, ns, 0, rfl, rfl, .inl (.inl (by rw [upd_ne hDa]; exact h2)), fun _ => ?_, fun z hz _ => ?_⟩
    · exact ⟨_, _, rfl, rfl, k _ _ ex' (by omega) (by omega)⟩
    · have := hb z hz
      exact ⟨_, _, rfl, rfl, k _ _ ex' (by omega) (by omega)⟩
/-! ### parts -/
def spParts (G : Gen) (n : Nat) : Sp := fun vs H Q _ => ∃ (S : Addr → Prop) (v : V) (d : D) (p : Nat), vs = [v] ∧ Dc S G H n v d ∧ PD d p ∧ ∀ (j : Int) H', Ex H H' → 1 ≤ j → j ≤ p → Q (.int j) H'
theorem scParts : FnScope ["document", "key"] ["document"] (defScope sParts) := ⟨rfl, rfl, rfl, by decide +kernel, rfl, by decide +kernel, by decide +kernel⟩
theorem ok_parts {f : Addr} {fd : FuncData} (Dd : Df K mg "parts" sParts ["document"] f fd) (T : Bi mg) {G : Gen} (hG : G.KS.length ≤ 5000) : ∀ n, FnOk P w K mg base CX0 n f fd ["document"] (spParts G n)
  | 0 => fn_zero fun vs H Q E ⟨_, _, _, _, _, h, _⟩ => h
  | n + 1 => by
    have ih := ok_parts Dd T hG n
    refine Dd.F.ok scParts (fun vs H Q E h => ?_) (fun cdv A outer s H vs Q E hr h => ?_)
    · obtain ⟨_, v, d, _, rfl, _⟩ := h
      rfl
    obtain ⟨S, v, d, p, rfl, hv, hp, k⟩ := h
    have hu := hu_of hr
    refine ⟨_, pss_cons (ps_if (pt_not (pt_val (pe_callB call_isi (by rfl) (T.of "isinstance") (by decide +kernel) (pa_cons (pv 0) (pa_cons (pe_bltn (v := .ty "dict") (by rfl) (T.of "dict") (by decide +kernel) rfl) pa_nil)))))
        (pss_one (ps_ret pe_int)) pss_nil)
      (pss_one (ps_ret (pe_op op_add pe_int (pe_callB (cr_sum rfl) (by rfl) (T.of "sum") (by decide +kernel) (pa_cons (pe_lock (pe_lc (own := [("key", 1)]) (g := gName 1) (tt := tYes) rfl scParts.nd (pi_keys (pv 0)) (blkOk_by (N := ["document", "key"]) (sc := defScope sParts) (by decide +kernel))
          (fun _ _ _ _ _ => pg_name (i := 1) scParts.nd rfl (Or.inl rfl)) (fun _ _ _ _ _ => pts_nil) (fun _ _ _ _ _ => pe_call ih hr rfl Dd.m Dd.F.kp Dd.b .nil pass0 (pa_cons (pe_dget hu (pv 0) (pv 1) (fun _ _ => rfl)) pa_nil)))) pa_nil))))), ?_⟩
    obtain ⟨t1, ty1, kit1⟩ := isiD K hv
    refine ⟨v, rfl, v, .ty "dict", t1, _, _, rfl, .ty _, ty1, kit1, _, rfl, ?_⟩
    refine hv.cases (fun m _ hs e => ?_) (fun m a xs _ ev hS r hx e => ?_) (fun m a ms g em ev hS r M e => ?_)
    · subst e
      have hp : 1 ≤ p := hp
      exact iteT (k 1 H (Ex.refl H) (Int.le_refl _) (by omega))
    · subst e
      have hp : 1 ≤ p := hp
      exact iteT (k 1 H (Ex.refl H) (Int.le_refl _) (by omega))
    subst e; subst ev; cases em
    obtain ⟨ks, q, hks, hq, hsum⟩ := hp
    refine iteF ⟨a, _, r, trivial, fun od => ⟨_, rfl, a, od, rfl, .inl ⟨_, upd_same, fun Da hD => ?_⟩⟩⟩
    have hDa : Da ≠ a := fun z => by rw [z, upd_same] at hD; cases hD
    have hml := M.len
    have M' := M.lock r hS (o := .frz od (.dK (kvsOf ms)))
    refine lc_keys (o := od) (d := a) (ms := ms) (fun i H2 => Ex (upd H a (.frz od (.dK (kvsOf ms)))) H2 ∧ ∃ ns : List Int, H2 Da = some (.lst (ns.map V.int)) ∧ ns.length = i ∧ 0 ≤ ns.sum ∧ ns.sum ≤ ((((ms.take i).map (·.1)).map q).sum : Nat)) ⟨Ex.new hD, [], upd_same, rfl, by simp, by simp⟩ (fun i H2 _ q => q.1 a _ upd_same) ?_ ?_
    · rintro i key u H2 hi ⟨ex, ns, h2, hl, hb0, hb1⟩
      have hku : valV ms key = some u := valV_of_mem M.nd (List.mem_of_getElem? hi)
      refine ⟨rfl, t_yes ?_⟩
      refine ⟨.ref a, rfl, .str key, rfl, a, u, rfl, .inl ⟨_, Sum.inr key, .inr ⟨od, ex a _ upd_same⟩, rfl, by rw [valV_inK]; exact hku.symm⟩, S, u, g key, q key, rfl, (M'.at' key u hku).ex ex, hq key, fun j H5 e5 j0 j1 => ?_⟩
      refine ⟨_, e5 Da _ h2, ?_, Ex.mut (ex.trans e5) hD (e5 Da _ h2), ns ++ [j], ?_, ?_, ?_, ?_⟩
      · have := (List.getElem?_eq_some_iff.mp hi).1
        rw [List.length_map, hl]
        exact Nat.lt_of_le_of_lt (show i ≤ 5000 by omega) (by decide)
      · rw [upd_same, List.map_append]; rfl
      · rw [List.length_append, hl]; rfl
      · rw [List.sum_append]; simp; omega
      · rw [List.sum_append, List.take_add_one, hi]
        simp
        simp at hb1
        omega
    rintro H2 ⟨ex, ns, h2, hl, hb0, hb1⟩
    refine ⟨ex a _ upd_same, ?_⟩
    have ex' : Ex H (upd H2 a (.dK (kvsOf ms))) := ex_unlock r ex
    refine ⟨Da, ns, rfl, .inl (.inl (by rw [upd_ne hDa]; exact h2)), _, _, rfl, rfl, k _ _ ex' (by omega) ?_⟩
    rw [List.take_length] at hb1
    have := sum_sub q M.nd (ys := ks) fun x hx => by
      obtain ⟨u, hu⟩ := valV_some_of hx
      exact hks x (M.at' x u hu).ne_nil
    omega
/-! ### check -/
def spCheck (G : Gen) (n : Nat) : Sp := fun vs H Q _ => ∃ (S : Addr → Prop) (v : V) (d : D), vs = [v] ∧ Dc S G H n v d ∧ PD d 200 ∧ DD d 8 ∧ ∀ H', Ex H H' → Q .non H'
theorem scCheck : FnScope ["value", "path"] ["value"] (defScope sCheck) := ⟨rfl, rfl, rfl, by decide +kernel, rfl, by decide +kernel, by decide +kernel⟩
/-- what the program's own defs are -/
structure Prog (K : PySem.W.Frag) (mg : Str → Option Value) (aCheck aWrong aAtom aElem aDepth aParts aCopied : Addr) (fCheck fWrong fAtom fElem fDepth fParts fCopied : FuncData) : Prop where
  check : Df K mg "check" sCheck ["value"] aCheck fCheck
  wrong : Df K mg "wrong_path" sWrong ["value"] aWrong fWrong
  atom : Df K mg "is_atom" sIsAtom ["value"] aAtom fAtom
  elem : Df K mg "is_element" sIsElem ["value"] aElem fElem
  depth : Df K mg "depth" sDepth ["document"] aDepth fDepth
  parts : Df K mg "parts" sParts ["document"] aParts fParts
  copied : Df K mg "copied" sCopied ["document"] aCopied fCopied
  md : ∃ t, mg "MOST_DEPTH" = some (.int 8 t)
  mp : ∃ t, mg "MOST_PARTS" = some (.int 200 t)
variable {aCheck aWrong aAtom aElem aDepth aParts aCopied : Addr} {fCheck fWrong fAtom fElem fDepth fParts fCopied : FuncData}
theorem ok_check (R : Prog K mg aCheck aWrong aAtom aElem aDepth aParts aCopied fCheck fWrong fAtom fElem fDepth fParts fCopied) (T : Bi mg) {G : Gen} (hL : G.L ≤ 5000) (hG : G.KS.length < 64) (n : Nat) : FnOk P w K mg base CX0 (n + 3) aCheck fCheck ["value"] (spCheck G n) := by
  have gw : FnOk P w K mg base CX0 (n + 2) aWrong fWrong ["value"] (spWrong G n) := ok_wrong R.wrong R.atom R.elem T hL hG n
  have gd : FnOk P w K mg base CX0 (n + 2) aDepth fDepth ["document"] (spDepth G n) := (ok_depth R.depth T (by omega) n).mono (by omega)
  have gp : FnOk P w K mg base CX0 (n + 2) aParts fParts ["document"] (spParts G n) := (ok_parts R.parts T (by omega) n).mono (by omega)
  obtain ⟨t1, md⟩ := R.md
  obtain ⟨t2, mp⟩ := R.mp
  refine R.check.F.ok scCheck (fun vs H Q E h => ?_) (fun cdv A outer s H vs Q E hr h => ?_)
  · obtain ⟨_, v, d, rfl, _⟩ := h
    rfl
  obtain ⟨S, v, d, rfl, hv, hp, hn, k⟩ := h
  refine ⟨_, pss_cons (ps_set (i := 1) scCheck.nd rfl (Or.inl rfl) (pe_call gw hr rfl R.wrong.m R.wrong.F.kp R.wrong.b .nil pass0 (pa_cons (pv 0) pa_nil)))
    (pss_cons (ps_if (pt_cmpR op_notN (pv 1) pe_non (nomark _)) (pss_one ps_never) pss_nil)
    (pss_cons (ps_if (pt_cmpR op_gt (pe_call gd hr rfl R.depth.m R.depth.F.kp R.depth.b .nil pass0 (pa_cons (pv 0) pa_nil)) (pe_glob (v := .int 8) rfl md ⟨t1, rfl⟩) (nomark _)) (pss_one ps_never) pss_nil)
    (pss_one (ps_if (pt_cmpR op_gt (pe_call gp hr rfl R.parts.m R.parts.F.kp R.parts.b .nil pass0 (pa_cons (pv 0) pa_nil)) (pe_glob (v := .int 200) rfl mp ⟨t2, rfl⟩) (nomark _)) (pss_one ps_never) pss_nil)))), ?_⟩
  refine ⟨v, rfl, S, v, d, rfl, hv, fun H1 e1 => ⟨_, rfl, rfl, _, rfl, iteF ?_⟩⟩
  refine ⟨v, rfl, S, v, d, 8, rfl, hv.ex e1, hn, fun j H2 e2 j0 j1 => ⟨_, _, rfl, rfl, _, rfl, ifF (decide_eq_false (by omega)) ?_⟩⟩
  refine ⟨v, rfl, S, v, d, 200, rfl, (hv.ex e1).ex e2, hp, fun i H3 e3 i0 i1 => ⟨_, _, rfl, rfl, _, rfl, ifF (decide_eq_false (by omega)) ?_⟩⟩
  exact k H3 ((e1.trans e2).trans e3)
end
end TP

namespace TP
open PySem PySem.Spec PyProof.Rows L2
abbrev sCheckRow : Stmt := topS 9
/-- a row: its patches, each with a bound of its parts -/
structure RowAt (S : Addr → Prop) (G : Gen) (H : Hp) (n : Nat) (a : Addr) (rs : List (V × D × Nat)) : Prop where
  sq : H a = some (.lst (rs.map (·.1))) ∨ H a = some (.tup (rs.map (·.1)))
  dc : ∀ r ∈ rs, Dc S G H n r.1 r.2.1 ∧ PD r.2.1 r.2.2 ∧ PD r.2.1 200 ∧ DD r.2.1 8
  sum : (rs.map (·.2.2)).sum ≤ 200
  len : rs.length ≤ 5000
theorem RowAt.ex [TabL] {S G H H' n a rs} (h : RowAt S G H n a rs) (e : Ex H H') : RowAt S G H' n a rs := ⟨h.sq.imp (fun z => e _ _ z) fun z => e _ _ z, fun r hr => ⟨(h.dc r hr).1.ex e, (h.dc r hr).2⟩, h.sum, h.len⟩
def spRow [TabL] (G : Gen) (n : Nat) : Sp := fun vs H Q _ => ∃ (S : Addr → Prop) (a : Addr) (rs : List (V × D × Nat)), vs = [.ref a] ∧ RowAt S G H n a rs ∧ ∀ H', Ex H H' → Q .non H'
theorem scRow : FnScope ["row", "patch"] ["row"] (defScope sCheckRow) := ⟨rfl, rfl, rfl, by decide +kernel, rfl, by decide +kernel, by decide +kernel⟩
section
variable [TabL] {P : Program} {w : World} {K : PySem.W.Frag} {mg : Str → Option Value} {base : Heap}
variable {aCheck aWrong aAtom aElem aDepth aParts aCopied : Addr} {fCheck fWrong fAtom fElem fDepth fParts fCopied : FuncData}
theorem ok_row (R : Prog K mg aCheck aWrong aAtom aElem aDepth aParts aCopied fCheck fWrong fAtom fElem fDepth fParts fCopied) (T : Bi mg) {G : Gen} (hL : G.L ≤ 5000) (hG : G.KS.length < 64) (n : Nat) {f : Addr} {fd : FuncData} (Dd : Df K mg "check_row" sCheckRow ["row"] f fd) : FnOk P w K mg base CX0 (n + 4) f fd ["row"] (spRow G n) := by
  have gc : FnOk P w K mg base CX0 (n + 3) aCheck fCheck ["value"] (spCheck G n) := ok_check R T hL hG n
  have gp : FnOk P w K mg base CX0 (n + 3) aParts fParts ["document"] (spParts G n) := (ok_parts R.parts T (by omega) n).mono (by omega)
  obtain ⟨t2, mp⟩ := R.mp
  refine Dd.F.ok scRow (fun vs H Q E h => ?_) (fun cdv A outer s H vs Q E hr h => ?_)
  · obtain ⟨_, a, rs, rfl, _⟩ := h
    rfl
  obtain ⟨S, a, rs, rfl, hrow, k⟩ := h
  have hu := hu_of hr
  refine ⟨_, pss_cons (ps_for PassesOwn.never rfl (pi_seq (pv 0)) (pg_name (i := 1) scRow.nd rfl (Or.inl rfl)) (pss_one (ps_expr (pe_call gc hr rfl R.check.m R.check.F.kp R.check.b .nil pass0 (pa_cons (pv 1) pa_nil)))))
    (pss_one (ps_if (pt_cmpR op_gt (pe_callB (cr_sum rfl) (by rfl) (T.of "sum") (by decide +kernel) (pa_cons (pe_lc (own := [("patch", 1)]) (g := gName 1) (tt := tYes) rfl scRow.nd (pi_seq (pv 0)) (blkOk_by (N := ["row", "patch"]) (sc := defScope sCheckRow) (by decide +kernel))
      (fun _ _ _ _ _ => pg_name (i := 1) scRow.nd rfl (Or.inl rfl)) (fun _ _ _ _ _ => pts_nil) (fun _ _ _ _ _ => pe_call gp hr rfl R.parts.m R.parts.F.kp R.parts.b .nil pass0 (pa_cons (pv 1) pa_nil))) pa_nil)) (pe_glob (v := .int 200) rfl mp ⟨t2, rfl⟩) (nomark _)) (pss_one ps_never) pss_nil)), ?_⟩
  have fin : ∀ (H1 : Hp), Ex H H1 → ∀ ns : List Int, 0 ≤ ns.sum → ns.sum ≤ ((rs.map (·.2.2)).sum : Nat) → ¬ (200 : Int) < ns.sum := fun H1 e ns h0 h1 => by
    have := hrow.sum
    omega
  have get : ∀ (i : Nat) (y : V), (rs.map (·.1))[i]? = some y → ∃ r, rs[i]? = some r ∧ y = r.1 := fun i y hi => by
    rw [List.getElem?_map] at hi
    obtain ⟨r, h1, h2⟩ := Option.map_eq_some_iff.mp hi
    exact ⟨r, h1, h2.symm⟩
  have stepN : ∀ (i : Nat) (r : V × D × Nat) (ns : List Int) (j : Int), rs[i]? = some r → 0 ≤ ns.sum → ns.sum ≤ (((rs.take i).map (·.2.2)).sum : Nat) → 1 ≤ j → j ≤ r.2.2 → 0 ≤ (ns ++ [j]).sum ∧ (ns ++ [j]).sum ≤ (((rs.take (i + 1)).map (·.2.2)).sum : Nat) := fun i r ns j hi h0 h1 j0 j1 => by
    rw [List.sum_append, List.take_add_one, hi]
    simp
    simp at h1
    omega
  have hlen : ∀ (i : Nat) (r : V × D × Nat) (ns : List Int), rs[i]? = some r → ns.length = i → (ns.map V.int).length < sizeLine := fun i r ns hi hl => by
    have := (List.getElem?_eq_some_iff.mp hi).1
    have := hrow.len
    rw [List.length_map, hl]
    exact Nat.lt_of_le_of_lt (show i ≤ 5000 by omega) (by decide)
  rcases hrow.sq with sq | sq
  all_goals
    first
      | refine .inl ⟨.ref a, rfl, a, rfl, ⟨_, .inl (.inl sq)⟩, for_list (K := K) (a := a) (xs := rs.map (·.1)) (fun i σ H1 => (∃ x, σ = [some (.ref a), x]) ∧ Ex H H1) ⟨⟨_, rfl⟩, Ex.refl H⟩ (fun i σ H1 _ q => .inl (.inl (q.2 _ _ sq))) (fun i y σ H1 hi q => ?_) fun σ H1 q => ?_⟩
      | refine .inr ⟨.ref a, rfl, a, rfl, ⟨_, .inl (.inl sq)⟩, for_tup (K := K) (a := a) (xs := rs.map (·.1)) (fun i σ H1 => (∃ x, σ = [some (.ref a), x]) ∧ Ex H H1) ⟨⟨_, rfl⟩, Ex.refl H⟩ (fun i σ H1 _ q => .inl (.inl (q.2 _ _ sq))) (fun i y σ H1 hi q => ?_) fun σ H1 q => ?_⟩
    · obtain ⟨⟨x, rfl⟩, e1⟩ := q
      obtain ⟨r, hr', rfl⟩ := get i y hi
      obtain ⟨d1, d2, d3, d4⟩ := hrow.dc r (List.mem_of_getElem? hr')
      exact ⟨_, rfl, S, r.1, r.2.1, rfl, d1.ex e1, d3, d4, fun H2 e2 => ⟨⟨_, rfl⟩, e1.trans e2⟩⟩
    · obtain ⟨⟨x, rfl⟩, e1⟩ := q
      first
        | refine .inl ⟨.ref a, rfl, a, rfl, ⟨_, .inl (.inl (e1 _ _ sq))⟩, fun Da hD => lc_list (K := K) (a := a) (xs := rs.map (·.1)) (fun i H2 => Ex H1 H2 ∧ ∃ ns : List Int, H2 Da = some (.lst (ns.map V.int)) ∧ ns.length = i ∧ 0 ≤ ns.sum ∧ ns.sum ≤ (((rs.take i).map (·.2.2)).sum : Nat)) ⟨Ex.new hD, [], upd_same, rfl, by simp, by simp⟩ (fun i H2 _ q => .inl (.inl (q.1 _ _ (e1 _ _ sq)))) (fun i y H2 hi q => ?_) fun H2 q => ?_⟩
        | refine .inr ⟨.ref a, rfl, a, rfl, ⟨_, .inl (.inl (e1 _ _ sq))⟩, fun Da hD => lc_tup (K := K) (a := a) (xs := rs.map (·.1)) (fun i H2 => Ex H1 H2 ∧ ∃ ns : List Int, H2 Da = some (.lst (ns.map V.int)) ∧ ns.length = i ∧ 0 ≤ ns.sum ∧ ns.sum ≤ (((rs.take i).map (·.2.2)).sum : Nat)) ⟨Ex.new hD, [], upd_same, rfl, by simp, by simp⟩ (fun i H2 _ q => .inl (.inl (q.1 _ _ (e1 _ _ sq)))) (fun i y H2 hi q => ?_) fun H2 q => ?_⟩
      · obtain ⟨e2, ns, h2, hl, hb0, hb1⟩ := q
        obtain ⟨r, hr', rfl⟩ := get i y hi
        obtain ⟨d1, d2, d3, d4⟩ := hrow.dc r (List.mem_of_getElem? hr')
        refine ⟨rfl, t_yes ?_⟩
        refine ⟨_, rfl, S, r.1, r.2.1, r.2.2, rfl, (d1.ex e1).ex e2, d2, fun j H5 e5 j0 j1 => ?_⟩
        refine ⟨_, e5 Da _ h2, hlen i r ns hr' hl, Ex.mut (e2.trans e5) hD (e5 Da _ h2), ns ++ [j], ?_, ?_, (stepN i r ns j hr' hb0 hb1 j0 j1).1, (stepN i r ns j hr' hb0 hb1 j0 j1).2⟩
        · rw [upd_same, List.map_append]; rfl
        · rw [List.length_append, hl]; rfl
      · obtain ⟨e2, ns, h2, hl, hb0, hb1⟩ := q
        rw [List.length_map, List.take_length] at hb1
        refine ⟨Da, ns, rfl, .inl (.inl h2), _, _, rfl, rfl, _, rfl, ifF (decide_eq_false (fin H2 (e1.trans e2) ns hb0 hb1)) (k H2 (e1.trans e2))⟩
end
end TP

namespace TP
open PySem PySem.Spec PyProof.Rows L2
/-! ### values of two kinds that decline -/
theorem rc_eq_no {M : Model} {A : Around} {E : Value → Shared → Prop} {s : Shared} {a b : Value} {Ta Tb ida idb : String} {Q : Value → Shared → Prop} (ta : s.TypeIs a Ta) (tb : s.TypeIs b Tb) (ne : (Value.type Ta != Value.type Tb) = true) (sub : isSubtype (.type Tb) (.type Ta) = pure false)
    (sa : Slot Ta (cmpInfo .Eq).2.1 ida) (sb : Slot Tb (cmpInfo .Eq).2.2 idb) (one : oneThing? .Eq a b = none) (hu : A.units < cLine)
    (h1 : ∀ Q : Value → Shared → Prop, Q .notImplemented s → wpAny M A (call (.builtin ida) [a, b]) Q E s) (h2 : ∀ Q : Value → Shared → Prop, Q .notImplemented s → wpAny M A (call (.builtin idb) [b, a]) Q E s)
    (hs : ∀ Q : Bool → Shared → Prop, Q false s → wpAny M A (isSame a b) Q E s) (q : Q (.bool false) s) : wpAny M A (richCompare .Eq a b) Q E s := by
  unfold richCompare
  refine wpAny_holding (wpAny_bind (wpAny_cRoomFor hu ?_))
  rw [one]
  refine wpAny_bind (wpAny_typeOf ta (wpAny_bind (wpAny_typeOf tb ?_)))
  simp only [ne, if_true, sub]
  refine wpAny_bind (wpAny_pure ?_)
  simp only [Bool.false_eq_true, if_false, Bool.not_false, if_true]
  refine wpAny_bind (wpAny_tryCompare_declines ta sa (h1 _ ⟨rfl, ?_⟩))
  refine wpAny_bind (wpAny_tryCompare_declines tb sb (h2 _ ⟨rfl, ?_⟩))
  refine wpAny_bind (wpAny_rule (wpAny_bind (hs _ (wpAny_pure q))))
theorem rc_ne_no {M : Model} {A : Around} {E : Value → Shared → Prop} {s : Shared} {a b : Value} {Ta Tb ida idb : String} {Q : Value → Shared → Prop} (ta : s.TypeIs a Ta) (tb : s.TypeIs b Tb) (ne : (Value.type Ta != Value.type Tb) = true) (sub : isSubtype (.type Tb) (.type Ta) = pure false)
    (sa : Slot Ta (cmpInfo .NotEq).2.1 ida) (sb : Slot Tb (cmpInfo .NotEq).2.2 idb) (one : oneThing? .NotEq a b = none) (hu : A.units < cLine)
    (h1 : ∀ Q : Value → Shared → Prop, Q .notImplemented s → wpAny M A (call (.builtin ida) [a, b]) Q E s) (h2 : ∀ Q : Value → Shared → Prop, Q .notImplemented s → wpAny M A (call (.builtin idb) [b, a]) Q E s)
    (hs : ∀ Q : Bool → Shared → Prop, Q false s → wpAny M A (isSame a b) Q E s) (q : Q (.bool true) s) : wpAny M A (richCompare .NotEq a b) Q E s := by
  unfold richCompare
  refine wpAny_holding (wpAny_bind (wpAny_cRoomFor hu ?_))
  rw [one]
  refine wpAny_bind (wpAny_typeOf ta (wpAny_bind (wpAny_typeOf tb ?_)))
  simp only [ne, if_true, sub]
  refine wpAny_bind (wpAny_pure ?_)
  simp only [Bool.false_eq_true, if_false, Bool.not_false, if_true]
  refine wpAny_bind (wpAny_tryCompare_declines ta sa (h1 _ ⟨rfl, ?_⟩))
  refine wpAny_bind (wpAny_tryCompare_declines tb sb (h2 _ ⟨rfl, ?_⟩))
  refine wpAny_bind (wpAny_rule (wpAny_bind (hs _ (wpAny_pure q))))
/-! ### a dict declines what is no dict -/
section
variable {prog : Program} {w : World} {A : Around} {E : Value → Shared → Prop} {s : Shared} {a : Addr} {v : Value} {T : String}
theorem dict_eq_no (ta : s.TypeIs (.ref a) "dict") (tv : s.TypeIs v T) (sub : isSubtype (.type T) (.type "dict") = pure false) (Q : Value → Shared → Prop) (q : Q .notImplemented s) : wpAny (model prog w) A (call (.builtin "dict.__eq__") [.ref a, v]) Q E s := by
  refine wpAny_call_entry PySem.F.slot_dict_eq ta PySem.F.entry_dict_eq ?_ (PySem.F.args_dict_eq_2 _ _)
  refine wpAny_bind ?_
  unfold Builtin.Dict.dictSlotArgs
  refine wpAny_bind (wpAny_notOrdered_dict ta (wpAny_pure (wpAny_bind (wpAny_isInstance (T := T) tv sub ?_))))
  simp only [Bool.not_false, if_true]
  exact wpAny_bind (wpAny_rule (wpAny_pure ⟨_, rfl, q⟩))
theorem dict_ne_no (ta : s.TypeIs (.ref a) "dict") (tv : s.TypeIs v T) (sub : isSubtype (.type T) (.type "dict") = pure false) (Q : Value → Shared → Prop) (q : Q .notImplemented s) : wpAny (model prog w) A (call (.builtin "dict.__ne__") [.ref a, v]) Q E s := by
  refine wpAny_call_entry PySem.F.slot_dict_ne ta PySem.F.entry_dict_ne ?_ (PySem.F.args_dict_ne_2 _ _)
  refine wpAny_bind ?_
  unfold Builtin.Dict.dictSlotArgs
  refine wpAny_bind (wpAny_notOrdered_dict ta (wpAny_pure (wpAny_bind (wpAny_isInstance (T := T) tv sub ?_))))
  simp only [Bool.not_false, if_true]
  exact wpAny_bind (wpAny_rule (wpAny_pure ⟨_, rfl, q⟩))
theorem none_eq_no {a : Addr} (Q : Value → Shared → Prop) (q : Q .notImplemented s) : wpAny (model prog w) A (call (.builtin "NoneType.__eq__") [.none, .ref a]) Q E s := by
  refine wpAny_call_entry PySem.F.slot_NoneType_eq rfl PySem.F.entry_NoneType_eq ?_ (PySem.F.args_NoneType_eq_2 _ _)
  exact wpAny_bind (wpAny_pure (wpAny_pure ⟨_, rfl, q⟩))
theorem none_ne_no {a : Addr} (Q : Value → Shared → Prop) (q : Q .notImplemented s) : wpAny (model prog w) A (call (.builtin "NoneType.__ne__") [.none, .ref a]) Q E s := by
  refine wpAny_call_entry PySem.F.slot_NoneType_ne rfl PySem.F.entry_NoneType_ne ?_ (PySem.F.args_NoneType_ne_2 _ _)
  exact wpAny_bind (wpAny_pure (wpAny_pure ⟨_, rfl, q⟩))
theorem int_eq_no {a : Addr} {i : Int} {t : Tok} {o : Obj} {es : Array DictEntry} {n : Nat} (ho : s.heap.get? a = some o) (hd : o.data = .dict es n) (Q : Value → Shared → Prop) (q : Q .notImplemented s) : wpAny (model prog w) A (call (.builtin "int.__eq__") [.int i t, .ref a]) Q E s := by
  refine wpAny_call_entry PySem.F.slot_int_eq rfl PySem.F.entry_int_eq ?_ (PySem.F.args_int_eq_2 _ _)
  refine wpAny_bind (wpAny_pure (wpAny_bind (wpAny_pure (wpAny_bind ?_))))
  refine wpAny_bind (wpAny_load ho ?_)
  simp only [hd]
  exact wpAny_pure (wpAny_bind (wpAny_rule (wpAny_pure ⟨_, rfl, q⟩)))
theorem str_eq_no {a : Addr} {x : Str} {t : Tok} {o : Obj} {es : Array DictEntry} {n : Nat} (ho : s.heap.get? a = some o) (hd : o.data = .dict es n) (Q : Value → Shared → Prop) (q : Q .notImplemented s) : wpAny (model prog w) A (call (.builtin "str.__eq__") [.str x t, .ref a]) Q E s := by
  refine wpAny_call_entry PySem.F.slot_str_eq rfl PySem.F.entry_str_eq ?_ (PySem.F.args_str_eq_2 _ _)
  refine wpAny_bind (wpAny_bind (wpAny_pure (wpAny_bind (wpAny_pure (wpAny_pure (wpAny_bind ?_))))))
  refine wpAny_bind (wpAny_load ho ?_)
  simp only [hd]
  exact wpAny_pure (wpAny_bind (wpAny_rule (wpAny_pure ⟨_, rfl, q⟩)))
theorem list_eq_no {l a : Addr} (tl : s.TypeIs (.ref l) "list") (ta : s.TypeIs (.ref a) "dict") (Q : Value → Shared → Prop) (q : Q .notImplemented s) : wpAny (model prog w) A (call (.builtin "list.__eq__") [.ref l, .ref a]) Q E s := by
  refine wpAny_call_entry PySem.F.slot_list_eq tl PySem.F.entry_list_eq ?_ (PySem.F.args_list_eq_2 _ _)
  refine wpAny_bind (wpAny_pure (wpAny_bind (wpAny_isInstance (T := "dict") ta (by rfl) ?_)))
  exact wpAny_pure ⟨_, rfl, q⟩
theorem int_ne_no {a : Addr} {i : Int} {t : Tok} {o : Obj} {es : Array DictEntry} {n : Nat} (ho : s.heap.get? a = some o) (hd : o.data = .dict es n) (Q : Value → Shared → Prop) (q : Q .notImplemented s) : wpAny (model prog w) A (call (.builtin "int.__ne__") [.int i t, .ref a]) Q E s := by
  refine wpAny_call_entry PySem.F.slot_int_ne rfl PySem.F.entry_int_ne ?_ (PySem.F.args_int_ne_2 _ _)
  refine wpAny_bind (wpAny_pure (wpAny_bind (wpAny_pure (wpAny_bind ?_))))
  refine wpAny_bind (wpAny_load ho ?_)
  simp only [hd]
  exact wpAny_pure (wpAny_bind (wpAny_rule (wpAny_pure ⟨_, rfl, q⟩)))
theorem str_ne_no {a : Addr} {x : Str} {t : Tok} {o : Obj} {es : Array DictEntry} {n : Nat} (ho : s.heap.get? a = some o) (hd : o.data = .dict es n) (Q : Value → Shared → Prop) (q : Q .notImplemented s) : wpAny (model prog w) A (call (.builtin "str.__ne__") [.str x t, .ref a]) Q E s := by
  refine wpAny_call_entry PySem.F.slot_str_ne rfl PySem.F.entry_str_ne ?_ (PySem.F.args_str_ne_2 _ _)
  refine wpAny_bind (wpAny_bind (wpAny_pure (wpAny_bind (wpAny_pure (wpAny_pure (wpAny_bind ?_))))))
  refine wpAny_bind (wpAny_load ho ?_)
  simp only [hd]
  exact wpAny_pure (wpAny_bind (wpAny_rule (wpAny_pure ⟨_, rfl, q⟩)))
theorem list_ne_no {l a : Addr} (tl : s.TypeIs (.ref l) "list") (ta : s.TypeIs (.ref a) "dict") (Q : Value → Shared → Prop) (q : Q .notImplemented s) : wpAny (model prog w) A (call (.builtin "list.__ne__") [.ref l, .ref a]) Q E s := by
  refine wpAny_call_entry PySem.F.slot_list_ne tl PySem.F.entry_list_ne ?_ (PySem.F.args_list_ne_2 _ _)
  refine wpAny_bind (wpAny_pure (wpAny_bind (wpAny_isInstance (T := "dict") ta (by rfl) ?_)))
  exact wpAny_pure ⟨_, rfl, q⟩
end

/-! ### == of any two documents -/
open Classical in
noncomputable def deq (d e : D) : Bool := decide (d = e)
open Classical in
theorem deq_t {d e : D} (h : d = e) : deq d e = true := by unfold deq; exact decide_eq_true h
open Classical in
theorem deq_f {d e : D} (h : d ≠ e) : deq d e = false := by unfold deq; exact decide_eq_false h
open Classical in
theorem deq_iff {d e : D} : deq d e = true ↔ d = e := by unfold deq; exact decide_eq_true_iff
theorem bool_of {b c : Bool} (h : b = true ↔ c = true) : b = c := by cases b <;> cases c <;> simp_all
section
variable {P : Program} {w : World} {A : Around} {s : Shared}
theorem eqP_rc {v u : Value} {k : Bool} (ne : (v == u) = false) (h : (∃ a, v = .ref a) ∨ ∃ a, u = .ref a) (rc : ∀ (E Q : Value → Shared → Prop), Q (.bool k) s → wpAny (model P w) A (richCompare .Eq v u) Q E s) : SeqAt.EqP P w A s v u k := by
  intro E Q q
  unfold eqBool
  refine wpAny_holding ?_
  rw [ne]
  simp only [Bool.false_eq_true, if_false]
  have fin : wpAny (model P w) A (do let r ← richCompare .Eq v u; truthOfDropped r) Q E s := wpAny_bind (rc _ _ (by show wpAny _ _ (truthOfDropped (.bool k)) Q E s; exact wpAny_pure q))
  rcases h with ⟨a, rfl⟩ | ⟨a, rfl⟩
  · exact fin
  · cases v <;> exact fin
end
section
variable {X : Cx} {pins : List (Addr × Obj)} {σ : L2.St} {H : Hp} {s : Shared}
theorem dk_obj (I : Inv X pins σ H s) {a : Addr} {kvs : List (Key × V)} (h : H a = some (.dK kvs)) : s.TypeIs (.ref a) "dict" ∧ ∃ o es n, s.heap.get? a = some o ∧ o.data = .dict es n ∧ o.cls = .type "dict" := by
  obtain ⟨_, _, _, _, da⟩ := dk_rd I.hok (.inl h)
  have t := da.typeIs
  obtain ⟨o, es, n, h1, h2, h3, _⟩ := da
  obtain ⟨o', g1, g2⟩ := t
  rw [h1] at g1
  cases g1
  exact ⟨⟨o, h1, g2⟩, o, es, n, h1, h3, g2⟩
/-- an atom and a dict -/
theorem sc_dict (I : Inv X pins σ H s) {A : Around} (hu : A.units < cLine) {x : V} {v : Value} {a : Addr} {kvs : List (Key × V)} (hx : isSc x = true) (r : RelV x v) (h : H a = some (.dK kvs)) : SeqAt.EqP X.prog X.w A s v (.ref a) false ∧ SeqAt.EqP X.prog X.w A s (.ref a) v false := by
  obtain ⟨ta, o, es, n, ho, hd, _⟩ := dk_obj I h
  cases x with
  | non =>
    cases (show v = Value.none from r)
    exact ⟨eqP_rc rfl (.inr ⟨_, rfl⟩) fun E Q q => rc_eq_no (Ta := "NoneType") (Tb := "dict") rfl ta (by decide) (by rfl) PySem.F.slot_NoneType_eq PySem.F.slot_dict_eq_refl rfl hu (fun Q q => none_eq_no Q q) (fun Q q => dict_eq_no (T := "NoneType") (v := .none) ta rfl (by rfl) Q q) (fun Q q => wpAny_pure q) q,
      eqP_rc rfl (.inl ⟨_, rfl⟩) fun E Q q => rc_eq_no (Ta := "dict") (Tb := "NoneType") ta rfl (by decide) (by rfl) PySem.F.slot_dict_eq PySem.F.slot_NoneType_eq_refl rfl hu (fun Q q => dict_eq_no (T := "NoneType") (v := .none) ta rfl (by rfl) Q q) (fun Q q => none_eq_no Q q) (fun Q q => wpAny_pure q) q⟩
  | int i =>
    obtain ⟨t, rfl⟩ := (show ∃ t, v = Value.int i t from r)
    exact ⟨eqP_rc rfl (.inr ⟨_, rfl⟩) fun E Q q => rc_eq_no (Ta := "int") (Tb := "dict") rfl ta (by decide) (by rfl) PySem.F.slot_int_eq PySem.F.slot_dict_eq_refl rfl hu (fun Q q => int_eq_no ho hd Q q) (fun Q q => dict_eq_no (T := "int") (v := .int i t) ta rfl (by rfl) Q q) (fun Q q => wpAny_pure q) q,
      eqP_rc rfl (.inl ⟨_, rfl⟩) fun E Q q => rc_eq_no (Ta := "dict") (Tb := "int") ta rfl (by decide) (by rfl) PySem.F.slot_dict_eq PySem.F.slot_int_eq_refl rfl hu (fun Q q => dict_eq_no (T := "int") (v := .int i t) ta rfl (by rfl) Q q) (fun Q q => int_eq_no ho hd Q q) (fun Q q => wpAny_pure q) q⟩
  | str y =>
    obtain ⟨t, rfl⟩ := (show ∃ t, v = Value.str y t from r)
    exact ⟨eqP_rc rfl (.inr ⟨_, rfl⟩) fun E Q q => rc_eq_no (Ta := "str") (Tb := "dict") rfl ta (by decide) (by rfl) PySem.F.slot_str_eq PySem.F.slot_dict_eq_refl rfl hu (fun Q q => str_eq_no ho hd Q q) (fun Q q => dict_eq_no (T := "str") (v := .str y t) ta rfl (by rfl) Q q) (fun Q q => wpAny_pure q) q,
      eqP_rc rfl (.inl ⟨_, rfl⟩) fun E Q q => rc_eq_no (Ta := "dict") (Tb := "str") ta rfl (by decide) (by rfl) PySem.F.slot_dict_eq PySem.F.slot_str_eq_refl rfl hu (fun Q q => dict_eq_no (T := "str") (v := .str y t) ta rfl (by rfl) Q q) (fun Q q => str_eq_no ho hd Q q) (fun Q q => wpAny_pure q) q⟩
  | _ => cases hx
/-- a list and a dict -/
theorem ls_dict (I : Inv X pins σ H s) {A : Around} (hu : A.units < cLine) {l a : Addr} {xs : List V} {kvs : List (Key × V)} (hl : H l = some (.lst xs)) (h : H a = some (.dK kvs)) : SeqAt.EqP X.prog X.w A s (.ref l) (.ref a) false ∧ SeqAt.EqP X.prog X.w A s (.ref a) (.ref l) false := by
  obtain ⟨ta, o, es, n, ho, hd, hc⟩ := dk_obj I h
  obtain ⟨us, _, p1, _⟩ := I.list (.inl (.inl hl))
  obtain ⟨ol, g1, g2⟩ : s.TypeIs (.ref l) "list" := p1.isList.typeIs
  have tl : s.TypeIs (.ref l) "list" := ⟨ol, g1, g2⟩
  have ne : l ≠ a := fun z => by rw [z, h] at hl; cases hl
  refine ⟨SeqAt.eqP_refs ne fun E Q q => rc_eq_no (Ta := "list") (Tb := "dict") tl ta (by decide) (by rfl) PySem.F.slot_list_eq PySem.F.slot_dict_eq_refl rfl hu (fun Q q => list_eq_no tl ta Q q) (fun Q q => dict_eq_no (T := "list") ta tl (by rfl) Q q) (fun Q q => wpAny_isSame_ref_other ne g1 ho (by rw [g2]; decide) q) q,
    SeqAt.eqP_refs ne.symm fun E Q q => rc_eq_no (Ta := "dict") (Tb := "list") ta tl (by decide) (by rfl) PySem.F.slot_dict_eq PySem.F.slot_list_eq_refl rfl hu (fun Q q => dict_eq_no (T := "list") ta tl (by rfl) Q q) (fun Q q => list_eq_no tl ta Q q) (fun Q q => wpAny_isSame_ref_other ne.symm ho g1 (by rw [hc]; decide) q) q⟩
/-- two atoms -/
theorem sc_at {A : Around} {x y : V} {v u : Value} (hx : isSc x = true) (hy : isSc y = true) (r : RelV x v) (r' : RelV y u) : SeqAt.EqAt A s v u (deq (.sc x) (.sc y)) := by
  have no : x ≠ y → deq (.sc x) (.sc y) = false := fun n => deq_f fun z => n (by injection z)
  by_cases e : x = y
  · subst e
    rw [deq_t rfl]
    exact eqAt_same r r' (flat_sc hx)
  · rw [no e]
    cases x with
    | non =>
      cases (show v = Value.none from r)
      cases y with
      | non => exact absurd rfl e
      | int j => obtain ⟨t, rfl⟩ := (show ∃ t, u = Value.int j t from r'); exact SeqAt.EqAt.none_int _ _
      | str z => obtain ⟨t, rfl⟩ := (show ∃ t, u = Value.str z t from r'); exact SeqAt.EqAt.none_str _ _
      | _ => cases hy
    | int i =>
      obtain ⟨t, rfl⟩ := (show ∃ t, v = Value.int i t from r)
      cases y with
      | non => cases (show u = Value.none from r'); exact SeqAt.EqAt.int_none _ _
      | int j =>
        obtain ⟨t', rfl⟩ := (show ∃ t, u = Value.int j t from r')
        have := SeqAt.EqAt.int_int (A := A) (s := s) i t j t'
        rwa [show (i == j) = false from beq_eq_false_iff_ne.mpr fun z => e (by rw [z])] at this
      | str z => obtain ⟨t', rfl⟩ := (show ∃ t, u = Value.str z t from r'); exact SeqAt.EqAt.int_str _ _ _ _
      | _ => cases hy
    | str i =>
      obtain ⟨t, rfl⟩ := (show ∃ t, v = Value.str i t from r)
      cases y with
      | non => cases (show u = Value.none from r'); exact SeqAt.EqAt.str_none _ _
      | int j => obtain ⟨t', rfl⟩ := (show ∃ t, u = Value.int j t from r'); exact SeqAt.EqAt.str_int _ _ _ _
      | str z =>
        obtain ⟨t', rfl⟩ := (show ∃ t, u = Value.str z t from r')
        have := SeqAt.EqAt.str_str (A := A) (s := s) i t z t'
        rwa [show (i == z) = false from beq_eq_false_iff_ne.mpr fun q => e (by rw [q])] at this
      | _ => cases hy
    | _ => cases hx
theorem sc_sc {A : Around} {x y : V} {v u : Value} (hx : isSc x = true) (hy : isSc y = true) (r : RelV x v) (r' : RelV y u) : SeqAt.EqP X.prog X.w A s v u (deq (.sc x) (.sc y)) := (sc_at hx hy r r').eqP
/-- an atom and a list -/
theorem sc_list (I : Inv X pins σ H s) {A : Around} (hu : A.units < cLine) {x : V} {v : Value} {a : Addr} {xs : List V} (hx : isSc x = true) (r : RelV x v) (h : H a = some (.lst xs)) : SeqAt.EqP X.prog X.w A s v (.ref a) false ∧ SeqAt.EqP X.prog X.w A s (.ref a) v false := by
  obtain ⟨us, _, p1, _⟩ := I.list (.inl (.inl h))
  have l := p1.isList
  cases x with
  | non => cases (show v = Value.none from r); exact ⟨(SeqAt.EqAt.none_list l hu).eqP, (SeqAt.EqAt.list_none l hu).eqP⟩
  | int i => obtain ⟨t, rfl⟩ := (show ∃ t, v = Value.int i t from r); exact ⟨(SeqAt.EqAt.int_list _ _ l hu).eqP, (SeqAt.EqAt.list_int _ _ l hu).eqP⟩
  | str i => obtain ⟨t, rfl⟩ := (show ∃ t, v = Value.str i t from r); exact ⟨(SeqAt.EqAt.str_list _ _ l hu).eqP, (SeqAt.EqAt.list_str _ _ l hu).eqP⟩
  | _ => cases hx
theorem vals_at : ∀ {zs : List V} {us : List Value}, Vals zs us → ∀ j (h1 : j < us.length), ∃ h : j < zs.length, RelV zs[j] us[j]
  | _, _, .nil, j, h1 => absurd h1 (Nat.not_lt_zero j)
  | _, _, .cons r _, 0, _ => ⟨Nat.zero_lt_succ _, r⟩
  | _, _, .cons _ rs, j + 1, h1 => let ⟨h, q⟩ := vals_at rs j (Nat.lt_of_succ_lt_succ h1); ⟨Nat.succ_lt_succ h, q⟩
/-- two lists of atoms -/
theorem ls_ls (I : Inv X pins σ H s) {A : Around} (hu : A.units + 1 < cLine) {a b : Addr} {xs ys : List V} (h : H a = some (.lst xs)) (h' : H b = some (.lst ys)) (hx : ∀ x ∈ xs, isSc x = true) (hy : ∀ y ∈ ys, isSc y = true) : SeqAt.EqP X.prog X.w A s (.ref a) (.ref b) (deq (.ls xs) (.ls ys)) := by
  by_cases e : a = b
  · subst e
    rw [h] at h'
    cases h'
    rw [deq_t rfl]
    exact (SeqAt.EqAt.same _).eqP
  obtain ⟨us, r1, p1, _⟩ := I.list (.inl (.inl h))
  obtain ⟨ws, r2, p2, _⟩ := I.list (.inl (.inl h'))
  by_cases hl : xs.length = ys.length
  · have hl' : us.length = ws.length := by rw [← r1.length, ← r2.length, hl]
    refine SeqAt.eqP_refs e fun E Q q => SeqAt.rcP_lists (e := fun j => deq (.sc (xs.getD j .non)) (.sc (ys.getD j .non))) p1.isList p2.isList (by rw [List.size_toArray, List.size_toArray, hl']) (by omega) (fun j h1 h2 => ?_) E Q ?_
    · have h1 : j < us.length := by simpa using h1
      have h2 : j < ws.length := by simpa using h2
      obtain ⟨k1, q1⟩ := vals_at r1 j h1
      obtain ⟨k2, q2⟩ := vals_at r2 j h2
      have := sc_sc (X := X) (s := s) (A := A.in1) (hx _ (List.getElem_mem k1)) (hy _ (List.getElem_mem k2)) q1 q2
      simpa [List.getD_eq_getElem?_getD, k1, k2] using this
    · have : deq (.ls xs) (.ls ys) = (List.range us.toArray.size).all fun j => deq (.sc (xs.getD j .non)) (.sc (ys.getD j .non)) := by
        refine bool_of ?_
        rw [deq_iff, List.all_eq_true, List.size_toArray, ← r1.length]
        constructor
        · intro z j _
          injection z with z
          rw [z]
          exact deq_t rfl
        · intro z
          congr 1
          refine List.ext_getElem hl fun j h1 h2 => ?_
          have := deq_iff.mp (z j (List.mem_range.mpr h1))
          injection this with this
          simpa [List.getD_eq_getElem?_getD, h1, h2] using this
      rw [← this]
      exact q
  · rw [deq_f fun z => hl (by injection z with z; rw [z])]
    refine SeqAt.eqP_refs e fun E Q q => SeqAt.RcAt.lists_lengths p1.isList p2.isList ?_ (by omega) _ _ E Q q
    rw [List.size_toArray, List.size_toArray, ← r1.length, ← r2.length]
    exact bne_iff_ne.mpr hl
/-- one value stands for one document -/
theorem dc_det {S S' : Addr → Prop} {G G' : Gen} {H : Hp} : ∀ {n m : Nat} {v : V} {d e : D}, Dc S G H n v d → Dc S' G' H m v e → d = e
  | 0, _, _, _, _, h, _ => (show False from h).elim
  | _ + 1, 0, _, _, _, _, h => (show False from h).elim
  | n + 1, m + 1, v, d, e, h, h' => by
    rcases h with ⟨hv, rfl⟩ | ⟨a, xs, rfl, s1, r, hx, rfl⟩ | ⟨a, ms, f, rfl, s1, r, nd, ks, rfl, no, at'⟩
    · rcases h' with ⟨_, rfl⟩ | ⟨b, ys, rfl, _⟩ | ⟨b, ms', f', rfl, _⟩
      · rfl
      · exact nomatch G.sc _ hv
      · exact nomatch G.sc _ hv
    · rcases h' with ⟨hv, _⟩ | ⟨b, ys, z, s', r', hy, rfl⟩ | ⟨b, ms', f', z, s', r', _⟩
      · exact nomatch G'.sc _ hv
      · cases z; rw [r] at r'; cases r'; rfl
      · cases z; rw [r] at r'; cases r'
    · rcases h' with ⟨hv, _⟩ | ⟨b, ys, z, s', r', hy, rfl⟩ | ⟨b, ms', f', z, s', r', nd', ks', rfl, no', at''⟩
      · exact nomatch G'.sc _ hv
      · cases z; rw [r] at r'; cases r'
      · cases z
        rw [r] at r'
        have e' : kvsOf ms = kvsOf ms' := by injection r' with r'; injection r'
        have vv : ∀ j, valV ms' j = valV ms j := fun j => by rw [← valV_inK, ← valV_inK, e']
        congr 1
        funext k
        cases hk : valV ms k with
        | none => rw [no k hk, no' k (by rw [vv]; exact hk)]
        | some u => exact dc_det (at' k u hk) (at'' k u (by rw [vv]; exact hk))
theorem hits_dec {Pg : Program} {w : World} {A : Around} {S S' : Addr → Prop} {G G' : Gen} {n m : Nat} {ms' : List (Str × V)} {f f' : Str → D} (M' : Mem S' G' H m ms' f') {vb : List (Key × Value)} (rb : KV (kvsOf ms') vb)
    (run : ∀ (x y : V) (d e : D) (v u : Value), Dc S G H n x d → Dc S' G' H m y e → RelV x v → RelV y u → SeqAt.EqP Pg w A s v u (deq d e)) : ∀ {ms : List (Str × V)} {va : List (Key × Value)}, KV (kvsOf ms) va → (∀ p ∈ ms, Dc S G H n p.2 (f p.1)) → ∃ r, PySem.W.KeqHitsP Pg w A s vb va r ∧ (r = true ↔ ∀ p ∈ ms, f p.1 = f' p.1)
  | [], _, .nil, _ => ⟨true, .nil, ⟨fun _ p hp => (nomatch hp), fun _ => rfl⟩⟩
  | p :: ms, _, .cons (b := q) ⟨hk, rv⟩ rs, h => by
    obtain ⟨r, hr, hi⟩ := hits_dec M' rb run rs fun p hp => h p (List.mem_cons_of_mem _ hp)
    have hp := h p List.mem_cons_self
    have ro := KV.val rb q.1
    rw [← hk] at ro
    have ro : RelO (valV (kvsOf ms') (Sum.inr p.1)) (valueAt vb q.1) := by rw [← hk]; exact ro
    rw [valV_inK] at ro
    obtain ⟨qk, qv⟩ := q
    cases e : valV ms' p.1 with
    | none =>
      rw [e] at ro
      have nn : valueAt vb qk = none := by
        cases z : valueAt vb qk with
        | none => rfl
        | some y => rw [z] at ro; exact ro.elim
      refine ⟨false, .miss nn, ⟨fun z => (nomatch z), fun z => ?_⟩⟩
      have := z p List.mem_cons_self
      rw [M'.no _ e] at this
      have ne := hp.ne_nil
      rw [this] at ne
      cases ne
    | some u =>
      rw [e] at ro
      obtain ⟨y, hy, ry⟩ : ∃ y, valueAt vb qk = some y ∧ RelV u y := by
        cases z : valueAt vb qk with
        | none => rw [z] at ro; exact ro.elim
        | some y => rw [z] at ro; exact ⟨y, rfl, ro⟩
      refine ⟨_, .hit hy (run _ _ _ _ _ _ hp (M'.at' _ _ e) rv ry) hr, ?_⟩
      rw [Bool.and_eq_true, deq_iff, hi]
      constructor
      · rintro ⟨z1, z2⟩ p' hp'
        rcases List.mem_cons.mp hp' with rfl | hp'
        · exact z1
        · exact z2 p' hp'
      · exact fun z => ⟨z p List.mem_cons_self, fun p' hp' => z p' (List.mem_cons_of_mem _ hp')⟩
/-- same members -/
theorem ob_iff {S S' : Addr → Prop} {G G' : Gen} {n m : Nat} {ms ms' : List (Str × V)} {f f' : Str → D} (h : Mem S G H n ms f) (h' : Mem S' G' H m ms' f') : D.ob f = D.ob f' ↔ ms.length = ms'.length ∧ ∀ p ∈ ms, f p.1 = f' p.1 := by
  constructor
  · intro e
    injection e with e
    subst e
    exact ⟨(ob_keys h h').1, fun _ _ => rfl⟩
  · rintro ⟨hl, z⟩
    congr 1
    funext k
    by_cases hk : k ∈ ms.map (·.1)
    · obtain ⟨p, hp, rfl⟩ := List.mem_map.mp hk
      exact z p hp
    · rw [h.no k (valV_none_of hk)]
      have sub : ∀ j ∈ ms.map (·.1), j ∈ ms'.map (·.1) := fun j hj => by
        obtain ⟨p, hp, rfl⟩ := List.mem_map.mp hj
        refine Classical.byContradiction fun n => ?_
        have e := z p hp
        rw [h'.no p.1 (valV_none_of n)] at e
        have ne := (h.at' p.1 p.2 (valV_of_mem h.nd hp)).ne_nil
        rw [e] at ne
        cases ne
      refine (h'.no k (valV_none_of fun hk' => ?_)).symm
      have := sub_len (xs := k :: ms.map (·.1)) (ys := ms'.map (·.1)) (List.nodup_cons.mpr ⟨hk, h.nd⟩) (fun j hj => (List.mem_cons.mp hj).elim (fun e => by rw [e]; exact hk') (sub j))
      rw [List.length_cons, List.length_map, List.length_map] at this
      omega
/-- any two documents compared -/
theorem docs_dec (I : Inv X pins σ H s) {S S' : Addr → Prop} {G G' : Gen} : ∀ (n m : Nat) (A : Around) (x y : V) (d e : D) (v u : Value), A.units + n + 1 < cLine → Dc S G H n x d → Dc S' G' H m y e → RelV x v → RelV y u → SeqAt.EqP X.prog X.w A s v u (deq d e)
  | 0, _, _, _, _, _, _, _, _, _, h, _, _, _ => (show False from h).elim
  | _ + 1, 0, _, _, _, _, _, _, _, _, _, h, _, _ => (show False from h).elim
  | n + 1, m + 1, A, x, y, d, e, v, u, hu, h, h', rx, ry => by
    rcases id h with ⟨hx, rfl⟩ | ⟨a, xs, rfl, s1, r, hx, rfl⟩ | ⟨a, ms, f, rfl, s1, r, nd, ks, rfl, no, at'⟩
    · rcases id h' with ⟨hy, rfl⟩ | ⟨b, ys, rfl, s', r', hy, rfl⟩ | ⟨b, ms', f', rfl, s', r', nd', ks', rfl, no', at''⟩
      · exact sc_sc (G.sc _ hx) (G'.sc _ hy) rx ry
      · cases (show u = Value.ref b from ry)
        rw [deq_f (show D.sc x ≠ D.ls ys from fun z => nomatch z)]
        exact (sc_list I (by omega) (G.sc _ hx) rx r').1
      · cases (show u = Value.ref b from ry)
        rw [deq_f (show D.sc x ≠ D.ob f' from fun z => nomatch z)]
        exact (sc_dict I (by omega) (G.sc _ hx) rx r').1
    · cases (show v = Value.ref a from rx)
      rcases id h' with ⟨hy, rfl⟩ | ⟨b, ys, rfl, s', r', hy, rfl⟩ | ⟨b, ms', f', rfl, s', r', nd', ks', rfl, no', at''⟩
      · rw [deq_f (show D.ls xs ≠ D.sc y from fun z => nomatch z)]
        exact (sc_list I (by omega) (G'.sc _ hy) ry r).2
      · cases (show u = Value.ref b from ry)
        exact ls_ls I (by omega) r r' (fun x z => G.sc _ (hx.2 x z)) fun y z => G'.sc _ (hy.2 y z)
      · cases (show u = Value.ref b from ry)
        rw [deq_f (show D.ls xs ≠ D.ob f' from fun z => nomatch z)]
        exact (ls_dict I (by omega) r r').1
    · cases (show v = Value.ref a from rx)
      rcases id h' with ⟨hy, rfl⟩ | ⟨b, ys, rfl, s', r', hy, rfl⟩ | ⟨b, ms', f', rfl, s', r', nd', ks', rfl, no', at''⟩
      · rw [deq_f (show D.ob f ≠ D.sc y from fun z => nomatch z)]
        exact (sc_dict I (by omega) (G'.sc _ hy) ry r).2
      · cases (show u = Value.ref b from ry)
        rw [deq_f (show D.ob f ≠ D.ls ys from fun z => nomatch z)]
        exact (ls_dict I (by omega) r' r).2
      · cases (show u = Value.ref b from ry)
        by_cases e : a = b
        · subst e
          rw [deq_t (dc_det h h')]
          exact (SeqAt.EqAt.same _).eqP
        have M : Mem S G H n ms f := ⟨nd, ks, no, at'⟩
        have M' : Mem S' G' H m ms' f' := ⟨nd', ks', no', at''⟩
        obtain ⟨_, ya, va, ra, da⟩ := dk_rd I.hok (.inl r)
        obtain ⟨_, yb, vb, rb, db⟩ := dk_rd I.hok (.inl r')
        obtain ⟨b', hb, hi⟩ := hits_dec (A := A.in1) (f := f) M' rb (fun x y d e v u h1 h2 r1 r2 => docs_dec I n m A.in1 x y d e v u (show A.units + 1 + n + 1 < cLine by omega) h1 h2 r1 r2) ra fun p hp => M.at' p.1 p.2 (valV_of_mem nd hp)
        refine SeqAt.eqP_refs e fun E Q q => PySem.W.rcP_dicts (knd := mixKind X.prog X.w) (r := b') ya yb da db (by omega) (fun _ => hb) E Q ?_
        have : (va.length == vb.length && b') = deq (.ob f) (.ob f') := by
          refine bool_of ?_
          rw [Bool.and_eq_true, deq_iff, ob_iff M M', hi, beq_iff_eq, ← ra.length, ← rb.length, List.length_map, List.length_map]
        rw [this]
        exact q
end
end TP

namespace TP
open PySem PySem.Spec PyProof.Rows L2
section
variable {X : Cx}
def rEqD2 : R2 := fun x y H Q => ∃ (S S' : Addr → Prop) (G G' : Gen) (n m : Nat) (d e : D), n ≤ 40 ∧ Dc S G H n x d ∧ Dc S' G' H m y e ∧ Q (.bl (deq d e)) H
def rNeD2 : R2 := fun x y H Q => ∃ (S S' : Addr → Prop) (G G' : Gen) (n m : Nat) (d e : D), n ≤ 40 ∧ Dc S G H n x d ∧ Dc S' G' H m y e ∧ Q (.bl (!deq d e)) H
theorem deq_sc (x y : V) : deq (.sc x) (.sc y) = decide (x = y) := by
  refine bool_of ?_
  rw [deq_iff, decide_eq_true_iff]
  exact ⟨fun z => by injection z, fun z => by rw [z]⟩
theorem scal_two : ∀ {x y : V}, isSc x = true → isSc y = true → scal x y = true
  | .non, .non, _, _ => by simp [scal]
  | .non, .int _, _, _ => by simp [scal]
  | .non, .str _, _, _ => by simp [scal]
  | .int _, .non, _, _ => by simp [scal]
  | .int _, .int _, _, _ => by simp [scal]
  | .int _, .str _, _, _ => by simp [scal]
  | .str _, .non, _, _ => by simp [scal]
  | .str _, .int _, _, _ => by simp [scal]
  | .str _, .str _, _, _ => by simp [scal]
theorem ls_items {A : Around} {s : Shared} {xs ys : List V} {us ws : List Value} (hl : xs.length = ys.length) (r1 : Vals xs us) (r2 : Vals ys ws) (hx : ∀ x ∈ xs, isSc x = true) (hy : ∀ y ∈ ys, isSc y = true) : ∀ (j : Nat) (h1 : j < us.length) (h2 : j < ws.length), SeqAt.EqAt A s us[j] ws[j] (deq (.sc (xs.getD j .non)) (.sc (ys.getD j .non))) := fun j h1 h2 => by
  obtain ⟨k1, q1⟩ := vals_at r1 j h1
  obtain ⟨k2, q2⟩ := vals_at r2 j h2
  have := sc_at (A := A) (s := s) (hx _ (List.getElem_mem k1)) (hy _ (List.getElem_mem k2)) q1 q2
  simpa [List.getD_eq_getElem?_getD, k1, k2] using this
theorem ls_all {xs ys : List V} (hl : xs.length = ys.length) : deq (.ls xs) (.ls ys) = (List.range xs.length).all fun j => deq (.sc (xs.getD j .non)) (.sc (ys.getD j .non)) := by
  refine bool_of ?_
  rw [deq_iff, List.all_eq_true]
  constructor
  · intro z j _
    injection z with z
    rw [z]
    exact deq_t rfl
  · intro z
    congr 1
    refine List.ext_getElem hl fun j h1 h2 => ?_
    have := deq_iff.mp (z j (List.mem_range.mpr h1))
    injection this with this
    simpa [List.getD_eq_getElem?_getD, h1, h2] using this
theorem op_neD2 (hu : X.A.units + 64 < cLine) : OpR X (compareOp .NotEq) rNeD2 := by
  intro pins s σ H x y v u Q I rx ry h
  obtain ⟨S, S', G, G', n, m, d, e, hn, h, h', q⟩ := h
  cases n with
  | zero => exact (show False from h).elim
  | succ n =>
  cases m with
  | zero => exact (show False from h').elim
  | succ m =>
    have fin : ∀ b : Bool, Q (.bl b) H → EP X pins σ Q (.bool b) s := fun b z => ⟨.bl b, H, I, rfl, z⟩
    have hu0 : X.A.units < cLine := by omega
    rcases id h with ⟨hx, rfl⟩ | ⟨a, xs, rfl, s1, r, hx, rfl⟩ | ⟨a, ms, f, rfl, s1, r, nd, ks, rfl, no, at'⟩
    · have cx := G.sc _ hx
      rcases id h' with ⟨hy, rfl⟩ | ⟨b, ys, rfl, s', r', hy, rfl⟩ | ⟨b, ms', f', rfl, s', r', nd', ks', rfl, no', at''⟩
      · refine op_ne pins s σ H x y v u Q I rx ry ⟨scal_two cx (G'.sc _ hy), ?_⟩
        rw [deq_sc] at q
        exact q
      · cases (show u = Value.ref b from ry)
        rw [deq_f (show D.sc x ≠ D.ls ys from fun z => nomatch z)] at q
        obtain ⟨us, _, p1, _⟩ := I.list (.inl (.inl r'))
        have l := p1.isList
        cases x with
        | non => cases (show v = Value.none from rx); exact SeqAt.RcNeAt.none_list l hu0 _ _ _ _ (fin _ q)
        | int i => obtain ⟨t, rfl⟩ := (show ∃ t, v = Value.int i t from rx); exact SeqAt.RcNeAt.int_list _ _ l hu0 _ _ _ _ (fin _ q)
        | str i => obtain ⟨t, rfl⟩ := (show ∃ t, v = Value.str i t from rx); exact SeqAt.RcNeAt.str_list _ _ l hu0 _ _ _ _ (fin _ q)
        | _ => cases cx
      · cases (show u = Value.ref b from ry)
        rw [deq_f (show D.sc x ≠ D.ob f' from fun z => nomatch z)] at q
        obtain ⟨ta, o, es, n, ho, hd, _⟩ := dk_obj I r'
        cases x with
        | non => cases (show v = Value.none from rx); exact rc_ne_no (Ta := "NoneType") (Tb := "dict") rfl ta (by decide) (by rfl) PySem.F.slot_NoneType_ne PySem.F.slot_dict_ne_refl rfl hu0 (fun Q q => none_ne_no Q q) (fun Q q => dict_ne_no (T := "NoneType") (v := .none) ta rfl (by rfl) Q q) (fun Q q => wpAny_pure q) (fin _ q)
        | int i => obtain ⟨t, rfl⟩ := (show ∃ t, v = Value.int i t from rx); exact rc_ne_no (Ta := "int") (Tb := "dict") rfl ta (by decide) (by rfl) PySem.F.slot_int_ne PySem.F.slot_dict_ne_refl rfl hu0 (fun Q q => int_ne_no ho hd Q q) (fun Q q => dict_ne_no (T := "int") (v := .int i t) ta rfl (by rfl) Q q) (fun Q q => wpAny_pure q) (fin _ q)
        | str i => obtain ⟨t, rfl⟩ := (show ∃ t, v = Value.str i t from rx); exact rc_ne_no (Ta := "str") (Tb := "dict") rfl ta (by decide) (by rfl) PySem.F.slot_str_ne PySem.F.slot_dict_ne_refl rfl hu0 (fun Q q => str_ne_no ho hd Q q) (fun Q q => dict_ne_no (T := "str") (v := .str i t) ta rfl (by rfl) Q q) (fun Q q => wpAny_pure q) (fin _ q)
        | _ => cases cx
    · cases (show v = Value.ref a from rx)
      obtain ⟨us, r1, p1, _⟩ := I.list (.inl (.inl r))
      have l := p1.isList
      rcases id h' with ⟨hy, rfl⟩ | ⟨b, ys, rfl, s', r', hy, rfl⟩ | ⟨b, ms', f', rfl, s', r', nd', ks', rfl, no', at''⟩
      · rw [deq_f (show D.ls xs ≠ D.sc y from fun z => nomatch z)] at q
        have cy := G'.sc _ hy
        cases y with
        | non => cases (show u = Value.none from ry); exact SeqAt.RcNeAt.list_none l hu0 _ _ _ _ (fin _ q)
        | int i => obtain ⟨t, rfl⟩ := (show ∃ t, u = Value.int i t from ry); exact SeqAt.RcNeAt.list_int _ _ l hu0 _ _ _ _ (fin _ q)
        | str i => obtain ⟨t, rfl⟩ := (show ∃ t, u = Value.str i t from ry); exact SeqAt.RcNeAt.list_str _ _ l hu0 _ _ _ _ (fin _ q)
        | _ => cases cy
      · cases (show u = Value.ref b from ry)
        obtain ⟨ws, r2, p2, _⟩ := I.list (.inl (.inl r'))
        by_cases hl : xs.length = ys.length
        · refine SeqAt.RcNeAt.lists (e := fun j => deq (.sc (xs.getD j .non)) (.sc (ys.getD j .non))) l p2.isList (by rw [List.size_toArray, List.size_toArray, ← r1.length, ← r2.length, hl]) hu0 (fun j h1 h2 => ?_) _ _ _ _ ?_
          · simpa using ls_items hl r1 r2 (fun x z => G.sc _ (hx.2 x z)) (fun y z => G'.sc _ (hy.2 y z)) j (by simpa using h1) (by simpa using h2)
          · rw [ls_all hl] at q
            rw [List.size_toArray, ← r1.length]
            exact fin _ q
        · rw [deq_f (show D.ls xs ≠ D.ls ys from fun z => hl (by injection z with z; rw [z]))] at q
          refine SeqAt.RcNeAt.lists_lengths l p2.isList (by rw [List.size_toArray, List.size_toArray, ← r1.length, ← r2.length]; exact bne_iff_ne.mpr hl) hu0 _ _ _ _ (fin _ q)
      · cases (show u = Value.ref b from ry)
        rw [deq_f (show D.ls xs ≠ D.ob f' from fun z => nomatch z)] at q
        obtain ⟨ta, o, es, n, ho, hd, hc⟩ := dk_obj I r'
        have tl : s.TypeIs (.ref a) "list" := l.typeIs
        obtain ⟨ol, g1, g2⟩ := id tl
        have ne : a ≠ b := fun z => by rw [z, r'] at r; cases r
        exact rc_ne_no (Ta := "list") (Tb := "dict") tl ta (by decide) (by rfl) PySem.F.slot_list_ne PySem.F.slot_dict_ne_refl rfl hu0 (fun Q q => list_ne_no tl ta Q q) (fun Q q => dict_ne_no (T := "list") ta tl (by rfl) Q q) (fun Q q => wpAny_isSame_ref_other ne g1 ho (by rw [g2]; decide) q) (fin _ q)
    · cases (show v = Value.ref a from rx)
      obtain ⟨ta, o, es, no', ho, hd, hc⟩ := dk_obj I r
      rcases id h' with ⟨hy, rfl⟩ | ⟨b, ys, rfl, s', r', hy, rfl⟩ | ⟨b, ms', f', rfl, s', r', nd', ks', rfl, no', at''⟩
      · rw [deq_f (show D.ob f ≠ D.sc y from fun z => nomatch z)] at q
        have cy := G'.sc _ hy
        cases y with
        | non => cases (show u = Value.none from ry); exact rc_ne_no (Ta := "dict") (Tb := "NoneType") ta rfl (by decide) (by rfl) PySem.F.slot_dict_ne PySem.F.slot_NoneType_ne_refl rfl hu0 (fun Q q => dict_ne_no (T := "NoneType") (v := .none) ta rfl (by rfl) Q q) (fun Q q => none_ne_no Q q) (fun Q q => wpAny_pure q) (fin _ q)
        | int i => obtain ⟨t, rfl⟩ := (show ∃ t, u = Value.int i t from ry); exact rc_ne_no (Ta := "dict") (Tb := "int") ta rfl (by decide) (by rfl) PySem.F.slot_dict_ne PySem.F.slot_int_ne_refl rfl hu0 (fun Q q => dict_ne_no (T := "int") (v := .int i t) ta rfl (by rfl) Q q) (fun Q q => int_ne_no ho hd Q q) (fun Q q => wpAny_pure q) (fin _ q)
        | str i => obtain ⟨t, rfl⟩ := (show ∃ t, u = Value.str i t from ry); exact rc_ne_no (Ta := "dict") (Tb := "str") ta rfl (by decide) (by rfl) PySem.F.slot_dict_ne PySem.F.slot_str_ne_refl rfl hu0 (fun Q q => dict_ne_no (T := "str") (v := .str i t) ta rfl (by rfl) Q q) (fun Q q => str_ne_no ho hd Q q) (fun Q q => wpAny_pure q) (fin _ q)
        | _ => cases cy
      · cases (show u = Value.ref b from ry)
        rw [deq_f (show D.ob f ≠ D.ls ys from fun z => nomatch z)] at q
        obtain ⟨ws, r2, p2, _⟩ := I.list (.inl (.inl r'))
        have tl : s.TypeIs (.ref b) "list" := p2.isList.typeIs
        obtain ⟨ol, g1, g2⟩ := id tl
        have ne : a ≠ b := fun z => by rw [z, r'] at r; cases r
        exact rc_ne_no (Ta := "dict") (Tb := "list") ta tl (by decide) (by rfl) PySem.F.slot_dict_ne PySem.F.slot_list_ne_refl rfl hu0 (fun Q q => dict_ne_no (T := "list") ta tl (by rfl) Q q) (fun Q q => list_ne_no tl ta Q q) (fun Q q => wpAny_isSame_ref_other ne ho g1 (by rw [hc]; decide) q) (fin _ q)
      · cases (show u = Value.ref b from ry)
        have M : Mem S G H n ms f := ⟨nd, ks, no, at'⟩
        have M' : Mem S' G' H m ms' f' := ⟨nd', ks', no', at''⟩
        obtain ⟨_, ya, va, ra, da⟩ := dk_rd I.hok (.inl r)
        obtain ⟨_, yb, vb, rb, db⟩ := dk_rd I.hok (.inl r')
        obtain ⟨b', hb, hi⟩ := hits_dec (A := X.A.in1) (Pg := X.prog) (w := X.w) (s := s) (f := f) M' rb (fun x y d e v u h1 h2 r1 r2 => docs_dec I n m _ x y d e v u (show X.A.units + 1 + n + 1 < cLine by omega) h1 h2 r1 r2) ra fun p hp => M.at' p.1 p.2 (valV_of_mem nd hp)
        have e : (va.length == vb.length && b') = deq (.ob f) (.ob f') := by
          refine bool_of ?_
          rw [Bool.and_eq_true, deq_iff, ob_iff M M', hi, beq_iff_eq, ← ra.length, ← rb.length, List.length_map, List.length_map]
        refine wpAny_richCompare_same_room (op := .NotEq) da.typeIs db.typeIs PySem.F.slot_dict_ne (wpAny_call_entry PySem.F.slot_dict_ne da.typeIs PySem.F.entry_dict_ne ?_ (PySem.F.args_dict_ne_2 _ _)) (by omega)
        refine wpAny_bind ?_
        unfold Builtin.Dict.dictSlotArgs
        refine wpAny_bind (wpAny_notOrdered_dict da.typeIs (wpAny_pure (wpAny_bind (wpAny_isInstance (T := "dict") db.typeIs PySem.F.sub_dict_dict ?_))))
        simp only [Bool.not_true, Bool.false_eq_true, if_false]
        refine wpAny_bind (wpAny_pure (wpAny_bind (wpAny_pure (wpAny_bind (PySem.W.samePairsP (r := b') ya yb da db (fun _ => ?_) ?_)))))
        · exact hb
        · rw [e]
          refine wpAny_pure ⟨_, rfl, (fun x => nomatch x), ?_⟩
          have z : (deq (.ob f) (.ob f') == false) = !deq (.ob f) (.ob f') := by cases deq (.ob f) (.ob f') <;> rfl
          rw [z]
          exact fin _ q
theorem op_eqD2 (hu : X.A.units + 64 < cLine) : OpR X (compareOp .Eq) rEqD2 := by
  intro pins s σ H x y v u Q I rx ry h
  obtain ⟨S, S', G, G', n, m, d, e, hn, h, h', q⟩ := h
  cases n with
  | zero => exact (show False from h).elim
  | succ n =>
  cases m with
  | zero => exact (show False from h').elim
  | succ m =>
    have fin : ∀ b : Bool, Q (.bl b) H → EP X pins σ Q (.bool b) s := fun b z => ⟨.bl b, H, I, rfl, z⟩
    have hu0 : X.A.units < cLine := by omega
    rcases id h with ⟨hx, rfl⟩ | ⟨a, xs, rfl, s1, r, hx, rfl⟩ | ⟨a, ms, f, rfl, s1, r, nd, ks, rfl, no, at'⟩
    · have cx := G.sc _ hx
      rcases id h' with ⟨hy, rfl⟩ | ⟨b, ys, rfl, s', r', hy, rfl⟩ | ⟨b, ms', f', rfl, s', r', nd', ks', rfl, no', at''⟩
      · refine op_eq pins s σ H x y v u Q I rx ry ⟨scal_two cx (G'.sc _ hy), ?_⟩
        rw [deq_sc] at q
        exact q
      · cases (show u = Value.ref b from ry)
        rw [deq_f (show D.sc x ≠ D.ls ys from fun z => nomatch z)] at q
        obtain ⟨us, _, p1, _⟩ := I.list (.inl (.inl r'))
        have l := p1.isList
        cases x with
        | non => cases (show v = Value.none from rx); exact SeqAt.RcAt.none_list l hu0 _ _ _ _ (fin _ q)
        | int i => obtain ⟨t, rfl⟩ := (show ∃ t, v = Value.int i t from rx); exact SeqAt.RcAt.int_list _ _ l hu0 _ _ _ _ (fin _ q)
        | str i => obtain ⟨t, rfl⟩ := (show ∃ t, v = Value.str i t from rx); exact SeqAt.RcAt.str_list _ _ l hu0 _ _ _ _ (fin _ q)
        | _ => cases cx
      · cases (show u = Value.ref b from ry)
        rw [deq_f (show D.sc x ≠ D.ob f' from fun z => nomatch z)] at q
        obtain ⟨ta, o, es, n, ho, hd, _⟩ := dk_obj I r'
        cases x with
        | non => cases (show v = Value.none from rx); exact rc_eq_no (Ta := "NoneType") (Tb := "dict") rfl ta (by decide) (by rfl) PySem.F.slot_NoneType_eq PySem.F.slot_dict_eq_refl rfl hu0 (fun Q q => none_eq_no Q q) (fun Q q => dict_eq_no (T := "NoneType") (v := .none) ta rfl (by rfl) Q q) (fun Q q => wpAny_pure q) (fin _ q)
        | int i => obtain ⟨t, rfl⟩ := (show ∃ t, v = Value.int i t from rx); exact rc_eq_no (Ta := "int") (Tb := "dict") rfl ta (by decide) (by rfl) PySem.F.slot_int_eq PySem.F.slot_dict_eq_refl rfl hu0 (fun Q q => int_eq_no ho hd Q q) (fun Q q => dict_eq_no (T := "int") (v := .int i t) ta rfl (by rfl) Q q) (fun Q q => wpAny_pure q) (fin _ q)
        | str i => obtain ⟨t, rfl⟩ := (show ∃ t, v = Value.str i t from rx); exact rc_eq_no (Ta := "str") (Tb := "dict") rfl ta (by decide) (by rfl) PySem.F.slot_str_eq PySem.F.slot_dict_eq_refl rfl hu0 (fun Q q => str_eq_no ho hd Q q) (fun Q q => dict_eq_no (T := "str") (v := .str i t) ta rfl (by rfl) Q q) (fun Q q => wpAny_pure q) (fin _ q)
        | _ => cases cx
    · cases (show v = Value.ref a from rx)
      obtain ⟨us, r1, p1, _⟩ := I.list (.inl (.inl r))
      have l := p1.isList
      rcases id h' with ⟨hy, rfl⟩ | ⟨b, ys, rfl, s', r', hy, rfl⟩ | ⟨b, ms', f', rfl, s', r', nd', ks', rfl, no', at''⟩
      · rw [deq_f (show D.ls xs ≠ D.sc y from fun z => nomatch z)] at q
        have cy := G'.sc _ hy
        cases y with
        | non => cases (show u = Value.none from ry); exact SeqAt.RcAt.list_none l hu0 _ _ _ _ (fin _ q)
        | int i => obtain ⟨t, rfl⟩ := (show ∃ t, u = Value.int i t from ry); exact SeqAt.RcAt.list_int _ _ l hu0 _ _ _ _ (fin _ q)
        | str i => obtain ⟨t, rfl⟩ := (show ∃ t, u = Value.str i t from ry); exact SeqAt.RcAt.list_str _ _ l hu0 _ _ _ _ (fin _ q)
        | _ => cases cy
      · cases (show u = Value.ref b from ry)
        obtain ⟨ws, r2, p2, _⟩ := I.list (.inl (.inl r'))
        by_cases hl : xs.length = ys.length
        · refine SeqAt.rcP_lists (e := fun j => deq (.sc (xs.getD j .non)) (.sc (ys.getD j .non))) l p2.isList (by rw [List.size_toArray, List.size_toArray, ← r1.length, ← r2.length, hl]) hu0 (fun j h1 h2 => ?_) _ _ ?_
          · have := ls_items hl r1 r2 (A := X.A.in1) (s := s) (fun x z => G.sc _ (hx.2 x z)) (fun y z => G'.sc _ (hy.2 y z)) j (by simpa using h1) (by simpa using h2)
            simpa using this.eqP (prog := X.prog) (w := X.w)
          · rw [ls_all hl] at q
            rw [List.size_toArray, ← r1.length]
            exact fin _ q
        · rw [deq_f (show D.ls xs ≠ D.ls ys from fun z => hl (by injection z with z; rw [z]))] at q
          refine SeqAt.RcAt.lists_lengths l p2.isList (by rw [List.size_toArray, List.size_toArray, ← r1.length, ← r2.length]; exact bne_iff_ne.mpr hl) hu0 _ _ _ _ (fin _ q)
      · cases (show u = Value.ref b from ry)
        rw [deq_f (show D.ls xs ≠ D.ob f' from fun z => nomatch z)] at q
        obtain ⟨ta, o, es, n, ho, hd, hc⟩ := dk_obj I r'
        have tl : s.TypeIs (.ref a) "list" := l.typeIs
        obtain ⟨ol, g1, g2⟩ := id tl
        have ne : a ≠ b := fun z => by rw [z, r'] at r; cases r
        exact rc_eq_no (Ta := "list") (Tb := "dict") tl ta (by decide) (by rfl) PySem.F.slot_list_eq PySem.F.slot_dict_eq_refl rfl hu0 (fun Q q => list_eq_no tl ta Q q) (fun Q q => dict_eq_no (T := "list") ta tl (by rfl) Q q) (fun Q q => wpAny_isSame_ref_other ne g1 ho (by rw [g2]; decide) q) (fin _ q)
    · cases (show v = Value.ref a from rx)
      obtain ⟨ta, o, es, no', ho, hd, hc⟩ := dk_obj I r
      rcases id h' with ⟨hy, rfl⟩ | ⟨b, ys, rfl, s', r', hy, rfl⟩ | ⟨b, ms', f', rfl, s', r', nd', ks', rfl, no', at''⟩
      · rw [deq_f (show D.ob f ≠ D.sc y from fun z => nomatch z)] at q
        have cy := G'.sc _ hy
        cases y with
        | non => cases (show u = Value.none from ry); exact rc_eq_no (Ta := "dict") (Tb := "NoneType") ta rfl (by decide) (by rfl) PySem.F.slot_dict_eq PySem.F.slot_NoneType_eq_refl rfl hu0 (fun Q q => dict_eq_no (T := "NoneType") (v := .none) ta rfl (by rfl) Q q) (fun Q q => none_eq_no Q q) (fun Q q => wpAny_pure q) (fin _ q)
        | int i => obtain ⟨t, rfl⟩ := (show ∃ t, u = Value.int i t from ry); exact rc_eq_no (Ta := "dict") (Tb := "int") ta rfl (by decide) (by rfl) PySem.F.slot_dict_eq PySem.F.slot_int_eq_refl rfl hu0 (fun Q q => dict_eq_no (T := "int") (v := .int i t) ta rfl (by rfl) Q q) (fun Q q => int_eq_no ho hd Q q) (fun Q q => wpAny_pure q) (fin _ q)
        | str i => obtain ⟨t, rfl⟩ := (show ∃ t, u = Value.str i t from ry); exact rc_eq_no (Ta := "dict") (Tb := "str") ta rfl (by decide) (by rfl) PySem.F.slot_dict_eq PySem.F.slot_str_eq_refl rfl hu0 (fun Q q => dict_eq_no (T := "str") (v := .str i t) ta rfl (by rfl) Q q) (fun Q q => str_eq_no ho hd Q q) (fun Q q => wpAny_pure q) (fin _ q)
        | _ => cases cy
      · cases (show u = Value.ref b from ry)
        rw [deq_f (show D.ob f ≠ D.ls ys from fun z => nomatch z)] at q
        obtain ⟨ws, r2, p2, _⟩ := I.list (.inl (.inl r'))
        have tl : s.TypeIs (.ref b) "list" := p2.isList.typeIs
        obtain ⟨ol, g1, g2⟩ := id tl
        have ne : a ≠ b := fun z => by rw [z, r'] at r; cases r
        exact rc_eq_no (Ta := "dict") (Tb := "list") ta tl (by decide) (by rfl) PySem.F.slot_dict_eq PySem.F.slot_list_eq_refl rfl hu0 (fun Q q => dict_eq_no (T := "list") ta tl (by rfl) Q q) (fun Q q => list_eq_no tl ta Q q) (fun Q q => wpAny_isSame_ref_other ne ho g1 (by rw [hc]; decide) q) (fin _ q)
      · cases (show u = Value.ref b from ry)
        have M : Mem S G H n ms f := ⟨nd, ks, no, at'⟩
        have M' : Mem S' G' H m ms' f' := ⟨nd', ks', no', at''⟩
        obtain ⟨_, ya, va, ra, da⟩ := dk_rd I.hok (.inl r)
        obtain ⟨_, yb, vb, rb, db⟩ := dk_rd I.hok (.inl r')
        obtain ⟨b', hb, hi⟩ := hits_dec (A := X.A.in1) (Pg := X.prog) (w := X.w) (s := s) (f := f) M' rb (fun x y d e v u h1 h2 r1 r2 => docs_dec I n m _ x y d e v u (show X.A.units + 1 + n + 1 < cLine by omega) h1 h2 r1 r2) ra fun p hp => M.at' p.1 p.2 (valV_of_mem nd hp)
        have e : (va.length == vb.length && b') = deq (.ob f) (.ob f') := by
          refine bool_of ?_
          rw [Bool.and_eq_true, deq_iff, ob_iff M M', hi, beq_iff_eq, ← ra.length, ← rb.length, List.length_map, List.length_map]
        refine PySem.W.rcP_dicts (knd := mixKind X.prog X.w) (r := b') ya yb da db hu0 (fun _ => hb) _ _ ?_
        rw [e]
        exact fin _ q
end
end TP

namespace TP
open PySem PySem.Spec PyProof.Rows L2
/-! ### != of lists whose items are compared inside one model -/
section
open PySem.SeqAt
open AutoSeq1 (wpAny_loadPart')
open MeetsSeq MeetsSeq2 MeetsSeq3 SeqRoads2
variable {prog : Program} {w : World}
theorem neP_loop (l b : Addr) (xs ys : Array Value) (n m : Nat) (dx dy : Option Addr) (sx sy : Array (Option Value)) (same : xs.size = ys.size) (c : Nat → Bool) : ∀ k i : Nat, i + k = xs.size →
    MeetsIn prog w (Builtin.«list.__eq__.loop» ⟨[.ref l, .ref b, rawInt i, rawInt 3], []⟩) (fun A R s => s.heap.get? l = some { cls := .type "list", dict := dx, data := .seq xs n, slots := sx } ∧ s.heap.get? b = some { cls := .type "list", dict := dy, data := .seq ys m, slots := sy } ∧
      (∀ j (p : j < xs.size) (q : j < ys.size), EqP prog w A.in1 s xs[j] ys[j] (c j)) ∧ R (.ok (.ret (.bool (!((List.range xs.size).drop i).all c)))) s)
  | 0, i, hk => by
    intro A R s z
    obtain ⟨h0, gg, dd, tk, ost⟩ := s
    obtain ⟨z1, z2, _, z4⟩ := z
    have w1 : xs[((i : Nat) : Int).toNat]? = none := by simp; omega
    have w2 : ys[((i : Nat) : Int).toNat]? = none := by simp; omega
    wp_walk using wpAny_loadPart' z1, wpAny_loadPart' z2
    rw [w1, w2]
    wp_walk using wpAny_loadPart' z1, wpAny_loadPart' z2
    have w3 : (List.range xs.size).drop i = [] := List.drop_of_length_le (by simp; omega)
    rw [w3] at z4
    show R (.ok (.ret (.bool (xs.size != ys.size)))) _
    rw [same]
    simpa using z4
  | k + 1, i, hk => by
    intro A R s z
    obtain ⟨h0, gg, dd, tk, ost⟩ := s
    obtain ⟨z1, z2, z3, z4⟩ := z
    have lt1 : i < xs.size := by omega
    have lt2 : i < ys.size := by omega
    have w1 : xs[((i : Nat) : Int).toNat]? = some xs[i] := by simp [lt1]
    have w2 : ys[((i : Nat) : Int).toNat]? = some ys[i] := by simp [lt2]
    have w3 : (List.range xs.size).drop i = i :: (List.range xs.size).drop (i + 1) := by simp [List.drop_eq_getElem_cons, lt1]
    rw [w3, List.all_cons] at z4
    wp_walk using wpAny_loadPart' z1, wpAny_loadPart' z2
    rw [w1, w2]
    refine wpAny_bind (z3 i lt1 lt2 _ _ ?_)
    have w4 : ((i : Int) + 1) = ((i + 1 : Nat) : Int) := by push_cast; rfl
    cases w5 : c i with
    | true =>
      rw [w5] at z4
      wp_walk
      rw [w4]
      refine ⟨plainId_quiet plain_eq_loop _, codeAny_builtin entry_eq_loop ?_⟩
      rw [Around.under_plainId plain_eq_loop _]
      exact neP_loop l b xs ys n m dx dy sx sy same c k (i + 1) (by omega) A R _ ⟨z1, z2, z3, by simpa using z4⟩
    | false =>
      rw [w5] at z4
      wp_walk using wpAny_loadPart' z1, wpAny_loadPart' z2
      rw [w1, w2]
      wp_walk
      simpa using z4
theorem neP_list (l b : Addr) (xs ys : Array Value) (n m : Nat) (dx dy : Option Addr) (sx sy : Array (Option Value)) (same : xs.size = ys.size) (c : Nat → Bool) :
    MeetsIn prog w (Builtin.«list.__ne__» ⟨[.ref l, .ref b], []⟩) (fun A R s => s.heap.get? l = some { cls := .type "list", dict := dx, data := .seq xs n, slots := sx } ∧ s.heap.get? b = some { cls := .type "list", dict := dy, data := .seq ys m, slots := sy } ∧
      (∀ j (p : j < xs.size) (q : j < ys.size), EqP prog w A.in1 s xs[j] ys[j] (c j)) ∧ R (.ok (.ret (.bool (!(List.range xs.size).all c)))) s) := by
  intro A R s z
  obtain ⟨h0, gg, dd, tk, ost⟩ := s
  obtain ⟨z1, z2, z3, z4⟩ := z
  have sub := AutoSeq1.sub_list_list
  have nne : ¬ (xs.size != ys.size) = true := by simp [same]
  wp_walk using wpAny_loadPart' z1, wpAny_loadPart' z2
  refine ⟨plainId_quiet plain_eq_loop _, codeAny_builtin entry_eq_loop ?_⟩
  rw [Around.under_plainId plain_eq_loop _]
  exact neP_loop l b xs ys n m dx dy sx sy same c xs.size 0 (by omega) A R _ ⟨z1, z2, z3, by simpa using z4⟩
theorem rcNeP_lists {A : Around} {s : Shared} {l b : Addr} {xs ys : Array Value} {c : Nat → Bool} (hl : s.heap.IsList l xs) (hb : s.heap.IsList b ys) (same : xs.size = ys.size) (hu : A.units < cLine)
    (he : ∀ j (p : j < xs.size) (q : j < ys.size), EqP prog w A.in1 s xs[j] ys[j] (c j)) (E Q : Value → Shared → Prop) (h : Q (.bool (!(List.range xs.size).all c)) s) : wpAny (model prog w) A (richCompare .NotEq (.ref l) (.ref b)) Q E s := by
  obtain ⟨⟨cx, dx, tx, sx⟩, ox, ex, n, fx⟩ := id hl
  obtain ⟨⟨cy, dy, ty, sy⟩, oy, ey, m, fy⟩ := id hb
  simp only at ex fx ey fy
  subst ex fx ey fy
  have t1 : s.TypeIs (.ref l) "list" := ⟨_, ox, rfl⟩
  have t2 : s.TypeIs (.ref b) "list" := ⟨_, oy, rfl⟩
  refine wpAny_richCompare_same_room (op := .NotEq) t1 t2 F.slot_list_ne (call_meetsIn F.slot_list_ne t1 F.entry_list_ne (F.args_list_ne_2 _ _) (neP_list l b xs ys n m dx dy sx sy same c) ⟨ox, oy, he, ?_⟩) hu
  exact (show Value.bool (!(List.range xs.size).all c) ≠ Value.notImplemented ∧ Q (.bool (!(List.range xs.size).all c)) s from ⟨(fun x => nomatch x), h⟩)
end
/-! ### a list with one document, or with none -/
/-- d: what it holds; .nil: nothing -/
def LdAt (S : Addr → Prop) (G : Gen) (H : Hp) (n : Nat) (a : Addr) (d : D) : Prop := (d = .nil ∧ H a = some (.lst [])) ∨ ∃ u, H a = some (.lst [u]) ∧ Dc S G H n u d
theorem LdAt.ex [TabL] {S G H H' n a d} (e : Ex H H') (h : LdAt S G H n a d) : LdAt S G H' n a d := Or.imp (fun ⟨z, r⟩ => ⟨z, e _ _ r⟩) (fun ⟨u, r, h⟩ => ⟨u, e _ _ r, h.ex e⟩) h
theorem LdAt.imp {S S' : Addr → Prop} {G H n a d} (i : ∀ x, S x → S' x) (h : LdAt S G H n a d) : LdAt S' G H n a d := Or.imp id (fun ⟨u, r, h⟩ => ⟨u, r, h.imp i⟩) h
theorem LdAt.lst {S G H n a d} (h : LdAt S G H n a d) : ∃ us, H a = some (.lst us) ∧ us.length ≤ 1 := h.elim (fun ⟨_, r⟩ => ⟨_, r, by decide⟩) fun ⟨u, r, _⟩ => ⟨_, r, by show 1 ≤ 1; decide⟩
section
variable {X : Cx} {pins : List (Addr × Obj)} {σ : L2.St} {H : Hp} {s : Shared}
/-- how two of them compare, without the question whether they are one list -/
theorem ld_items (I : Inv X pins σ H s) {S S' : Addr → Prop} {G G' : Gen} {n m : Nat} {A : Around} {a b : Addr} {d e : D} (hu : A.units + n + 3 < cLine) (h : LdAt S G H n a d) (h' : LdAt S' G' H m b e) :
    ∃ us ws : List Value, s.heap.IsList a us.toArray ∧ s.heap.IsList b ws.toArray ∧ ((us.length ≠ ws.length ∧ deq d e = false) ∨ (us.length = ws.length ∧ (∀ j (h1 : j < us.toArray.size) (h2 : j < ws.toArray.size), SeqAt.EqP X.prog X.w A s us.toArray[j] ws.toArray[j] (deq d e)) ∧ ((List.range us.toArray.size).all fun _ => deq d e) = deq d e)) := by
  have nil_ne : ∀ {S G H n v d}, Dc S G H n v d → d ≠ .nil := fun h z => by have := h.ne_nil; rw [z] at this; cases this
  rcases h with ⟨rfl, r⟩ | ⟨u, r, hd⟩ <;> rcases h' with ⟨rfl, r'⟩ | ⟨v, r', hd'⟩
  · obtain ⟨us, r1, p1, _⟩ := I.list (.inl (.inl r))
    obtain ⟨ws, r2, p2, _⟩ := I.list (.inl (.inl r'))
    cases r1; cases r2
    refine ⟨_, _, p1.isList, p2.isList, .inr ⟨rfl, fun j h1 => absurd h1 (by simp), ?_⟩⟩
    rw [deq_t rfl]
    rfl
  · obtain ⟨us, r1, p1, _⟩ := I.list (.inl (.inl r))
    obtain ⟨ws, r2, p2, _⟩ := I.list (.inl (.inl r'))
    refine ⟨_, _, p1.isList, p2.isList, .inl ⟨?_, deq_f fun z => nil_ne hd' z.symm⟩⟩
    rw [← r1.length, ← r2.length]
    simp
  · obtain ⟨us, r1, p1, _⟩ := I.list (.inl (.inl r))
    obtain ⟨ws, r2, p2, _⟩ := I.list (.inl (.inl r'))
    refine ⟨_, _, p1.isList, p2.isList, .inl ⟨?_, deq_f (nil_ne hd)⟩⟩
    rw [← r1.length, ← r2.length]
    simp
  · obtain ⟨us, r1, p1, _⟩ := I.list (.inl (.inl r))
    obtain ⟨ws, r2, p2, _⟩ := I.list (.inl (.inl r'))
    obtain ⟨x, rfl, rx⟩ := vals1 r1
    obtain ⟨y, rfl, ry⟩ := vals1 r2
    refine ⟨_, _, p1.isList, p2.isList, .inr ⟨rfl, fun j h1 h2 => ?_, ?_⟩⟩
    · have hj : j = 0 := by simp at h1; omega
      subst hj
      exact docs_dec I n m A u v d e x y (by omega) hd hd' rx ry
    · simp
theorem ld_det {S S' : Addr → Prop} {G G' : Gen} {n m : Nat} {a : Addr} {d e : D} (h : LdAt S G H n a d) (h' : LdAt S' G' H m a e) : d = e := by
  rcases h with ⟨rfl, r⟩ | ⟨u, r, hd⟩ <;> rcases h' with ⟨rfl, r'⟩ | ⟨v, r', hd'⟩
  · rfl
  · rw [r] at r'; cases r'
  · rw [r] at r'; cases r'
  · rw [r] at r'; cases r'
    exact dc_det hd hd'
theorem ld_dec (I : Inv X pins σ H s) {S S' : Addr → Prop} {G G' : Gen} {n m : Nat} {A : Around} {a b : Addr} {d e : D} (hu : A.units + n + 4 < cLine) (h : LdAt S G H n a d) (h' : LdAt S' G' H m b e) : SeqAt.EqP X.prog X.w A s (.ref a) (.ref b) (deq d e) := by
  by_cases c : a = b
  · subst c
    rw [deq_t (ld_det h h')]
    exact (SeqAt.EqAt.same _).eqP
  obtain ⟨us, ws, p1, p2, q⟩ := ld_items (A := A.in1) I (show A.units + 1 + n + 3 < cLine by omega) h h'
  refine SeqAt.eqP_refs c fun E Q k => ?_
  rcases q with ⟨q1, q2⟩ | ⟨q1, q2, q3⟩
  · rw [q2] at k
    exact SeqAt.RcAt.lists_lengths p1 p2 (by rw [List.size_toArray, List.size_toArray]; exact bne_iff_ne.mpr q1) (by omega) _ _ _ _ k
  · exact SeqAt.rcP_lists (e := fun _ => deq d e) p1 p2 (by rw [List.size_toArray, List.size_toArray, q1]) (by omega) q2 E Q (by rw [q3]; exact k)
end
section
variable {X : Cx}
/-- one != other, of two such lists -/
def rNeLD : R2 := fun x y H Q => ∃ (S S' : Addr → Prop) (G G' : Gen) (n m : Nat) (a b : Addr) (d e : D), x = .ref a ∧ y = .ref b ∧ n ≤ 40 ∧ LdAt S G H n a d ∧ LdAt S' G' H m b e ∧ Q (.bl (!deq d e)) H
def rEqLD : R2 := fun x y H Q => ∃ (S S' : Addr → Prop) (G G' : Gen) (n m : Nat) (a b : Addr) (d e : D), x = .ref a ∧ y = .ref b ∧ n ≤ 40 ∧ LdAt S G H n a d ∧ LdAt S' G' H m b e ∧ Q (.bl (deq d e)) H
theorem op_neLD (hu : X.A.units + 64 < cLine) : OpR X (compareOp .NotEq) rNeLD := by
  intro pins s σ H x y v u Q I rx ry h
  obtain ⟨S, S', G, G', n, m, a, b, d, e, rfl, rfl, hn, h, h', q⟩ := h
  cases (show v = Value.ref a from rx)
  cases (show u = Value.ref b from ry)
  obtain ⟨us, ws, p1, p2, c⟩ := ld_items (A := X.A.in1) I (show X.A.units + 1 + n + 3 < cLine by omega) h h'
  rcases c with ⟨q1, q2⟩ | ⟨q1, q2, q3⟩
  · rw [q2] at q
    exact SeqAt.RcNeAt.lists_lengths p1 p2 (by rw [List.size_toArray, List.size_toArray]; exact bne_iff_ne.mpr q1) (by omega) _ _ _ _ ⟨.bl true, H, I, rfl, q⟩
  · exact rcNeP_lists (c := fun _ => deq d e) p1 p2 (by rw [List.size_toArray, List.size_toArray, q1]) (by omega) q2 _ _ ⟨.bl (!deq d e), H, I, by rw [q3]; rfl, q⟩
theorem op_eqLD (hu : X.A.units + 64 < cLine) : OpR X (compareOp .Eq) rEqLD := by
  intro pins s σ H x y v u Q I rx ry h
  obtain ⟨S, S', G, G', n, m, a, b, d, e, rfl, rfl, hn, h, h', q⟩ := h
  cases (show v = Value.ref a from rx)
  cases (show u = Value.ref b from ry)
  obtain ⟨us, ws, p1, p2, c⟩ := ld_items (A := X.A.in1) I (show X.A.units + 1 + n + 3 < cLine by omega) h h'
  rcases c with ⟨q1, q2⟩ | ⟨q1, q2, q3⟩
  · rw [q2] at q
    exact SeqAt.RcAt.lists_lengths p1 p2 (by rw [List.size_toArray, List.size_toArray]; exact bne_iff_ne.mpr q1) (by omega) _ _ _ _ ⟨.bl false, H, I, rfl, q⟩
  · exact SeqAt.rcP_lists (e := fun _ => deq d e) p1 p2 (by rw [List.size_toArray, List.size_toArray, q1]) (by omega) q2 _ _ ⟨.bl (deq d e), H, I, by rw [q3]; rfl, q⟩
/-- == of two lists of such lists, as many in each -/
noncomputable def deqL : List D → List D → Bool
  | [], [] => true
  | d :: ds, e :: es => deq d e && deqL ds es
  | _, _ => false
theorem deqL_iff : ∀ {ds es : List D}, deqL ds es = true ↔ ds = es
  | [], [] => by simp [deqL]
  | [], _ :: _ => by simp [deqL]
  | _ :: _, [] => by simp [deqL]
  | d :: ds, e :: es => by simp [deqL, deq_iff, deqL_iff (ds := ds) (es := es)]
theorem deqL_all {f : Nat → Bool} : ∀ {ds es : List D} (k : Nat), ds.length = es.length → (∀ j (h1 : j < ds.length) (h2 : j < es.length), f (k + j) = deq ds[j] es[j]) → ((List.range' k ds.length).all f) = deqL ds es
  | [], [], _, _, _ => rfl
  | [], _ :: _, _, h, _ => by cases h
  | _ :: _, [], _, h, _ => by cases h
  | d :: ds, e :: es, k, h, hf => by
    have h0 := hf 0 (by simp) (by simp)
    have ih := deqL_all (f := f) (ds := ds) (es := es) (k + 1) (by simpa using h) fun j h1 h2 => by
      have := hf (j + 1) (by simpa using h1) (by simpa using h2)
      rw [show k + 1 + j = k + (j + 1) by omega]
      simpa using this
    rw [List.length_cons, List.range'_succ, List.all_cons, ih]
    simp only [Nat.add_zero] at h0
    rw [h0]
    rfl
def rEqLL : R2 := fun x y H Q => ∃ (S S' : Addr → Prop) (G G' : Gen) (n m : Nat) (a b : Addr) (as bs : List (Addr × D)), x = .ref a ∧ y = .ref b ∧ n ≤ 40 ∧ a ≠ b ∧ H a = some (.lst (as.map fun p => V.ref p.1)) ∧ H b = some (.lst (bs.map fun p => V.ref p.1)) ∧ as.length = bs.length ∧
  (∀ p ∈ as, LdAt S G H n p.1 p.2) ∧ (∀ p ∈ bs, LdAt S' G' H m p.1 p.2) ∧ Q (.bl (deqL (as.map (·.2)) (bs.map (·.2)))) H
theorem op_eqLL (hu : X.A.units + 64 < cLine) : OpR X (compareOp .Eq) rEqLL := by
  intro pins s σ H x y v u Q I rx ry h
  obtain ⟨S, S', G, G', n, m, a, b, as, bs, rfl, rfl, hn, nab, ha, hb, hl, h, h', q⟩ := h
  cases (show v = Value.ref a from rx)
  cases (show u = Value.ref b from ry)
  obtain ⟨us, r1, p1, _⟩ := I.list (.inl (.inl ha))
  obtain ⟨ws, r2, p2, _⟩ := I.list (.inl (.inl hb))
  have l1 : us.length = as.length := by rw [← r1.length, List.length_map]
  have l2 : ws.length = bs.length := by rw [← r2.length, List.length_map]
  refine SeqAt.rcP_lists (e := fun j => deq (as.map (·.2) |>.getD j .nil) (bs.map (·.2) |>.getD j .nil)) p1.isList p2.isList (by rw [List.size_toArray, List.size_toArray, l1, l2, hl]) (by omega) (fun j h1 h2 => ?_) _ _ ⟨.bl _, H, I, rfl, ?_⟩
  · have k1 : j < as.length := by rw [List.size_toArray, l1] at h1; exact h1
    have k2 : j < bs.length := by rw [← hl]; exact k1
    obtain ⟨y1, hy1, ry1⟩ := vals_get r1 (j := j) (x := V.ref (as[j]).1) (by rw [List.getElem?_map, List.getElem?_eq_getElem k1]; rfl)
    obtain ⟨y2, hy2, ry2⟩ := vals_get r2 (j := j) (x := V.ref (bs[j]).1) (by rw [List.getElem?_map, List.getElem?_eq_getElem k2]; rfl)
    cases (show y1 = Value.ref _ from ry1)
    cases (show y2 = Value.ref _ from ry2)
    have e1 : us.toArray[j] = Value.ref (as[j]).1 := by
      have := (List.getElem?_eq_some_iff.mp hy1).2
      simpa using this
    have e2 : ws.toArray[j] = Value.ref (bs[j]).1 := by
      have := (List.getElem?_eq_some_iff.mp hy2).2
      simpa using this
    rw [e1, e2]
    have := ld_dec (A := X.A.in1) I (show X.A.units + 1 + n + 4 < cLine by omega) (h _ (List.getElem_mem k1)) (h' _ (List.getElem_mem k2))
    simpa [List.getD_eq_getElem?_getD, k1, k2] using this
  · have e := deqL_all (f := fun j => deq (as.map (·.2) |>.getD j .nil) (bs.map (·.2) |>.getD j .nil)) (ds := as.map (·.2)) (es := bs.map (·.2)) 0 (by rw [List.length_map, List.length_map, hl]) fun j h1 h2 => by
      simp only [Nat.zero_add]
      simp only [List.length_map] at h1 h2
      simp [List.getD_eq_getElem?_getD, h1, h2]
    rw [List.length_map] at e
    rw [List.size_toArray, l1, List.range_eq_range', e]
    exact q
end
end TP

/-! lists of documents: == and !=, and whether a document is in one -/
namespace TP
open PySem PySem.Spec PyProof.Rows L2
section
open PySem.SeqAt
open AutoSeq1 (wpAny_loadPart')
open MeetsSeq MeetsSeq2 MeetsSeq3 SeqRoads2
variable {prog : Program} {w : World}
theorem inP_loop (l : Addr) (items : Array Value) (n : Nat) (dd : Option Addr) (sl : Array (Option Value)) (x : Value) (e : Nat → Bool) : ∀ k i : Nat, i + k = items.size →
    MeetsIn prog w (Builtin.«list.__contains__.loop» ⟨[.ref l, x, rawInt i], []⟩)
      (fun A R s => s.heap.get? l = some { cls := .type "list", dict := dd, data := .seq items n, slots := sl } ∧ (∀ j (h : j < items.size), EqP prog w A.in1 s items[j] x (e j)) ∧ R (.ok (.ret (.bool (((List.range items.size).drop i).any e)))) s)
  | 0, i, hk => by
    intro A R s z
    obtain ⟨hp, g, d, tk, os⟩ := s
    obtain ⟨hl, he, h⟩ := z
    wp_walk using wpAny_loadPart' hl
    have hi : items[((i : Nat) : Int).toNat]? = none := by simp; omega
    have hd : (List.range items.size).drop i = [] := List.drop_of_length_le (by simp; omega)
    rw [hd] at h
    rw [hi]
    wp_walk
    exact h
  | k + 1, i, hk => by
    intro A R s z
    obtain ⟨hp, g, d, tk, os⟩ := s
    obtain ⟨hl, he, h⟩ := z
    wp_walk using wpAny_loadPart' hl
    have hlt : i < items.size := by omega
    have hi : items[((i : Nat) : Int).toNat]? = some items[i] := by simp [hlt]
    have hd : (List.range items.size).drop i = i :: (List.range items.size).drop (i + 1) := by simp [List.drop_eq_getElem_cons, hlt]
    rw [hd, List.any_cons] at h
    rw [hi]
    refine wpAny_bind (he i hlt _ _ ?_)
    cases hb : e i with
    | true =>
      rw [hb] at h
      wp_walk
      exact h
    | false =>
      rw [hb] at h
      have hc : ((i : Int) + 1) = ((i + 1 : Nat) : Int) := by push_cast; rfl
      wp_walk
      rw [hc]
      refine ⟨plainId_quiet plain_contains_loop _, codeAny_builtin entry_contains_loop ?_⟩
      rw [Around.under_plainId plain_contains_loop _]
      exact inP_loop l items n dd sl x e k (i + 1) (by omega) A R _ ⟨hl, he, by simpa using h⟩
theorem inP_list (l : Addr) (items : Array Value) (n : Nat) (dd : Option Addr) (sl : Array (Option Value)) (x : Value) (e : Nat → Bool) :
    MeetsIn prog w (Builtin.«list.__contains__» ⟨[.ref l, x], []⟩)
      (fun A R s => s.heap.get? l = some { cls := .type "list", dict := dd, data := .seq items n, slots := sl } ∧ (∀ j (h : j < items.size), EqP prog w A.in1 s items[j] x (e j)) ∧ R (.ok (.ret (.bool ((List.range items.size).any e)))) s) := by
  intro A R s z
  obtain ⟨hp, g, d, tk, os⟩ := s
  obtain ⟨hl, he, h⟩ := z
  wp_walk using wpAny_loadPart' hl
  refine ⟨plainId_quiet plain_contains_loop _, codeAny_builtin entry_contains_loop ?_⟩
  rw [Around.under_plainId plain_contains_loop _]
  exact inP_loop l items n dd sl x e items.size 0 (by omega) A R _ ⟨hl, he, by simpa using h⟩
theorem notInP {A : Around} {s : Shared} {E : Value → Shared → Prop} {l : Addr} {items : Array Value} {x : Value} {Q : Value → Shared → Prop} (e : Nat → Bool) (hl : s.heap.IsList l items) (he : ∀ j (h : j < items.size), EqP prog w A.in1 s items[j] x (e j))
    (h : Q (.bool (!(List.range items.size).any e)) s) : wpAny (model prog w) A (compareOp .NotIn x (.ref l)) Q E s := by
  obtain ⟨⟨cls, dd, data, sl⟩, ho, hc, n, hd⟩ := id hl
  simp only at hc hd
  subst hc hd
  have hT : s.TypeIs (.ref l) "list" := ⟨_, ho, rfl⟩
  show wpAny _ A (do return .bool (!(← contains (.ref l) x))) Q E s
  refine wpAny_bind (wpAny_contains_slot hT F.slot_list_contains (wpAny_mono (call_meetsIn (E := E) (Q := fun v s' => ∃ b, v = .bool b ∧ Q (.bool (!b)) s') F.slot_list_contains hT F.entry_list_contains (F.args_list_contains_2 _ _) (inP_list l items n dd sl x e) ⟨ho, he, _, rfl, h⟩) (fun v s' hv => ?_) fun _ _ e => e))
  obtain ⟨b, rfl, hq⟩ := hv
  exact wpAny_truthy_bool (wpAny_pure hq)
theorem inP {A : Around} {s : Shared} {E : Value → Shared → Prop} {l : Addr} {items : Array Value} {x : Value} {Q : Value → Shared → Prop} (e : Nat → Bool) (hl : s.heap.IsList l items) (he : ∀ j (h : j < items.size), EqP prog w A.in1 s items[j] x (e j))
    (h : Q (.bool ((List.range items.size).any e)) s) : wpAny (model prog w) A (compareOp .In x (.ref l)) Q E s := by
  obtain ⟨⟨cls, dd, data, sl⟩, ho, hc, n, hd⟩ := id hl
  simp only at hc hd
  subst hc hd
  have hT : s.TypeIs (.ref l) "list" := ⟨_, ho, rfl⟩
  show wpAny _ A (do return .bool (← contains (.ref l) x)) Q E s
  refine wpAny_bind (wpAny_contains_slot hT F.slot_list_contains (wpAny_mono (call_meetsIn (E := E) (Q := fun v s' => ∃ b, v = .bool b ∧ Q (.bool b) s') F.slot_list_contains hT F.entry_list_contains (F.args_list_contains_2 _ _) (inP_list l items n dd sl x e) ⟨ho, he, _, rfl, h⟩) (fun v s' hv => ?_) fun _ _ e => e))
  obtain ⟨b, rfl, hq⟩ := hv
  exact wpAny_truthy_bool (wpAny_pure hq)
end
section
variable {X : Cx}
/-- a list of documents -/
structure DsAt (S : Addr → Prop) (G : Gen) (H : Hp) (n : Nat) (a : Addr) (rs : List (V × D)) : Prop where
  at' : H a = some (.lst (rs.map (·.1)))
  dc : ∀ r ∈ rs, Dc S G H n r.1 r.2
theorem ds_items {pins : List (Addr × Obj)} {σ : L2.St} {H : Hp} {s : Shared} (I : Inv X pins σ H s) {S S' : Addr → Prop} {G G' : Gen} {n m : Nat} {A : Around} {a b : Addr} {rs ss : List (V × D)} (hu : A.units + n + 1 < cLine) (h : DsAt S G H n a rs) (h' : DsAt S' G' H m b ss) :
    ∃ us ws : List Value, s.heap.IsList a us.toArray ∧ s.heap.IsList b ws.toArray ∧ us.length = rs.length ∧ ws.length = ss.length ∧ ∀ j (h1 : j < us.toArray.size) (h2 : j < ws.toArray.size), SeqAt.EqP X.prog X.w A s us.toArray[j] ws.toArray[j] (deq ((rs.map (·.2)).getD j .nil) ((ss.map (·.2)).getD j .nil)) := by
  obtain ⟨us, r1, p1, _⟩ := I.list (.inl (.inl h.at'))
  obtain ⟨ws, r2, p2, _⟩ := I.list (.inl (.inl h'.at'))
  have l1 : us.length = rs.length := by rw [← r1.length, List.length_map]
  have l2 : ws.length = ss.length := by rw [← r2.length, List.length_map]
  refine ⟨us, ws, p1.isList, p2.isList, l1, l2, fun j h1 h2 => ?_⟩
  have k1 : j < rs.length := by rw [List.size_toArray, l1] at h1; exact h1
  have k2 : j < ss.length := by rw [List.size_toArray, l2] at h2; exact h2
  obtain ⟨y1, hy1, ry1⟩ := vals_get r1 (j := j) (x := (rs[j]).1) (by rw [List.getElem?_map, List.getElem?_eq_getElem k1]; rfl)
  obtain ⟨y2, hy2, ry2⟩ := vals_get r2 (j := j) (x := (ss[j]).1) (by rw [List.getElem?_map, List.getElem?_eq_getElem k2]; rfl)
  have e1 : us.toArray[j] = y1 := by
    have := (List.getElem?_eq_some_iff.mp hy1).2
    simpa using this
  have e2 : ws.toArray[j] = y2 := by
    have := (List.getElem?_eq_some_iff.mp hy2).2
    simpa using this
  rw [e1, e2]
  have := docs_dec I n m A _ _ _ _ y1 y2 hu (h.dc _ (List.getElem_mem k1)) (h'.dc _ (List.getElem_mem k2)) ry1 ry2
  simpa [List.getD_eq_getElem?_getD, k1, k2] using this
theorem deqL_len {ds es : List D} (h : ds.length ≠ es.length) : deqL ds es = false := by
  cases c : deqL ds es with
  | false => rfl
  | true => exact absurd (congrArg List.length (deqL_iff.mp c)) h
theorem ds_all {rs ss : List (V × D)} (l : rs.length = ss.length) : ((List.range rs.length).all fun j => deq ((rs.map (·.2)).getD j .nil) ((ss.map (·.2)).getD j .nil)) = deqL (rs.map (·.2)) (ss.map (·.2)) := by
  have e := deqL_all (f := fun j => deq ((rs.map (·.2)).getD j .nil) ((ss.map (·.2)).getD j .nil)) (ds := rs.map (·.2)) (es := ss.map (·.2)) 0 (by rw [List.length_map, List.length_map, l]) fun j h1 h2 => by
    simp only [Nat.zero_add]
    simp only [List.length_map] at h1 h2
    simp [List.getD_eq_getElem?_getD, h1, h2]
  rw [List.length_map] at e
  rw [List.range_eq_range', e]
def rNeDL : R2 := fun x y H Q => ∃ (S S' : Addr → Prop) (G G' : Gen) (n m : Nat) (a b : Addr) (rs ss : List (V × D)), x = .ref a ∧ y = .ref b ∧ n ≤ 40 ∧ DsAt S G H n a rs ∧ DsAt S' G' H m b ss ∧ Q (.bl (!deqL (rs.map (·.2)) (ss.map (·.2)))) H
def rEqDL : R2 := fun x y H Q => ∃ (S S' : Addr → Prop) (G G' : Gen) (n m : Nat) (a b : Addr) (rs ss : List (V × D)), x = .ref a ∧ y = .ref b ∧ n ≤ 40 ∧ DsAt S G H n a rs ∧ DsAt S' G' H m b ss ∧ Q (.bl (deqL (rs.map (·.2)) (ss.map (·.2)))) H
theorem op_neDL (hu : X.A.units + 64 < cLine) : OpR X (compareOp .NotEq) rNeDL := by
  intro pins s σ H x y v u Q I rx ry h
  obtain ⟨S, S', G, G', n, m, a, b, rs, ss, rfl, rfl, hn, h, h', q⟩ := h
  cases (show v = Value.ref a from rx)
  cases (show u = Value.ref b from ry)
  obtain ⟨us, ws, p1, p2, l1, l2, c⟩ := ds_items (A := X.A.in1) I (show X.A.units + 1 + n + 1 < cLine by omega) h h'
  by_cases l : rs.length = ss.length
  · refine rcNeP_lists (c := fun j => deq ((rs.map (·.2)).getD j .nil) ((ss.map (·.2)).getD j .nil)) p1 p2 (by rw [List.size_toArray, List.size_toArray, l1, l2, l]) (by omega) c _ _ ⟨.bl (!deqL (rs.map (·.2)) (ss.map (·.2))), H, I, ?_, q⟩
    rw [List.size_toArray, l1, ds_all l]
    rfl
  · rw [deqL_len (by rw [List.length_map, List.length_map]; exact l)] at q
    exact SeqAt.RcNeAt.lists_lengths p1 p2 (by rw [List.size_toArray, List.size_toArray, l1, l2]; exact bne_iff_ne.mpr l) (by omega) _ _ _ _ ⟨.bl true, H, I, rfl, q⟩
theorem op_eqDL (hu : X.A.units + 64 < cLine) : OpR X (compareOp .Eq) rEqDL := by
  intro pins s σ H x y v u Q I rx ry h
  obtain ⟨S, S', G, G', n, m, a, b, rs, ss, rfl, rfl, hn, h, h', q⟩ := h
  cases (show v = Value.ref a from rx)
  cases (show u = Value.ref b from ry)
  obtain ⟨us, ws, p1, p2, l1, l2, c⟩ := ds_items (A := X.A.in1) I (show X.A.units + 1 + n + 1 < cLine by omega) h h'
  by_cases l : rs.length = ss.length
  · refine SeqAt.rcP_lists (e := fun j => deq ((rs.map (·.2)).getD j .nil) ((ss.map (·.2)).getD j .nil)) p1 p2 (by rw [List.size_toArray, List.size_toArray, l1, l2, l]) (by omega) c _ _ ⟨.bl (deqL (rs.map (·.2)) (ss.map (·.2))), H, I, ?_, q⟩
    rw [List.size_toArray, l1, ds_all l]
    rfl
  · rw [deqL_len (by rw [List.length_map, List.length_map]; exact l)] at q
    exact SeqAt.RcAt.lists_lengths p1 p2 (by rw [List.size_toArray, List.size_toArray, l1, l2]; exact bne_iff_ne.mpr l) (by omega) _ _ _ _ ⟨.bl false, H, I, rfl, q⟩
/-- d is none of them -/
noncomputable def notInL (d : D) (es : List D) : Bool := !es.any fun e => deq e d
theorem any_range (f : D → Bool) : ∀ (es : List D) (k : Nat) (g : Nat → Bool), (∀ j (h : j < es.length), g (k + j) = f es[j]) → (List.range' k es.length).any g = es.any f
  | [], _, _, _ => rfl
  | e :: es, k, g, h => by
    have h0 := h 0 (by simp)
    rw [List.length_cons, List.range'_succ, List.any_cons, List.any_cons, any_range f es (k + 1) g fun j hj => by
      have := h (j + 1) (by simpa using hj)
      rw [show k + 1 + j = k + (j + 1) by omega]
      simpa using this]
    simp only [Nat.add_zero] at h0
    rw [h0]
    rfl
def rNotInDL : R2 := fun x y H Q => ∃ (S S' : Addr → Prop) (G G' : Gen) (n m : Nat) (d : D) (b : Addr) (ss : List (V × D)), y = .ref b ∧ m ≤ 40 ∧ Dc S G H n x d ∧ DsAt S' G' H m b ss ∧ Q (.bl (notInL d (ss.map (·.2)))) H
theorem op_notInDL (hu : X.A.units + 64 < cLine) : OpR X (compareOp .NotIn) rNotInDL := by
  intro pins s σ H x y v u Q I rx ry h
  obtain ⟨S, S', G, G', n, m, d, b, ss, rfl, hm, h, h', q⟩ := h
  cases (show u = Value.ref b from ry)
  obtain ⟨ws, r2, p2, _⟩ := I.list (.inl (.inl h'.at'))
  have l2 : ws.length = ss.length := by rw [← r2.length, List.length_map]
  refine notInP (fun j => deq ((ss.map (·.2)).getD j .nil) d) p2.isList (fun j h2 => ?_) ⟨.bl (notInL d (ss.map (·.2))), H, I, ?_, q⟩
  · have k2 : j < ss.length := by rw [List.size_toArray, l2] at h2; exact h2
    obtain ⟨y2, hy2, ry2⟩ := vals_get r2 (j := j) (x := (ss[j]).1) (by rw [List.getElem?_map, List.getElem?_eq_getElem k2]; rfl)
    have e2 : ws.toArray[j] = y2 := by
      have := (List.getElem?_eq_some_iff.mp hy2).2
      simpa using this
    rw [e2]
    have := docs_dec I m n X.A.in1 _ _ _ _ y2 v (show X.A.units + 1 + m + 1 < cLine by omega) (h'.dc _ (List.getElem_mem k2)) h ry2 rx
    simpa [List.getD_eq_getElem?_getD, k2] using this
  · rw [List.size_toArray, l2]
    have e := any_range (fun e => deq e d) (ss.map (·.2)) 0 (fun j => deq ((ss.map (·.2)).getD j .nil) d) fun j hj => by
      simp only [Nat.zero_add]
      simp only [List.length_map] at hj
      simp [List.getD_eq_getElem?_getD, hj]
    rw [List.length_map] at e
    rw [List.range_eq_range', e]
    rfl
end
end TP

/-! whether a document is in a tuple of documents -/
namespace TP
open PySem PySem.Spec PyProof.Rows L2
section
open PySem.SeqAt
open AutoSeq1 (wpAny_loadPart')
open MeetsSeq MeetsSeq2 MeetsSeq3 SeqRoads2
variable {prog : Program} {w : World}
theorem inP_tup (l : Addr) (items : Array Value) (n : Nat) (dd : Option Addr) (sl : Array (Option Value)) (x : Value) (e : Nat → Bool) :
    MeetsIn prog w (Builtin.«tuple.__contains__» ⟨[.ref l, x], []⟩)
      (fun A R s => s.heap.get? l = some { cls := .type "tuple", dict := dd, data := .seq items n, slots := sl } ∧ (∀ j (h : j < items.size), EqP prog w A.in1 s items[j] x (e j)) ∧ R (.ok (.ret (.bool ((List.range items.size).any e)))) s) := by
  intro A R s h
  obtain ⟨hp, g, d, tk, os⟩ := s
  obtain ⟨hl, he, h⟩ := h
  wp_walk using wpAny_loadPart' hl, wpAny_forIn_array _ (fun rest b s' => b.1 = none ∧ s' = ⟨hp, g, d, tk, os⟩ ∧ ∃ i, rest = items.toList.drop i ∧ R (.ok (.ret (.bool (((List.range items.size).drop i).any e)))) ⟨hp, g, d, tk, os⟩) _
  case turn =>
    rintro y rest b s' ⟨hb, rfl, i, hz, hR⟩
    have hlt : i < items.toList.length := by
      rcases Nat.lt_or_ge i items.toList.length with h' | h'
      · exact h'
      · rw [List.drop_of_length_le h'] at hz; cases hz
    have hls : i < items.size := by simpa using hlt
    rw [List.drop_eq_getElem_cons hlt] at hz
    injection hz with hy hrest
    have hy : y = items[i] := by simpa using hy
    subst hy
    have hd : (List.range items.size).drop i = i :: (List.range items.size).drop (i + 1) := by simp [List.drop_eq_getElem_cons, hls]
    rw [hd, List.any_cons] at hR
    refine wpAny_bind (he i hls _ _ ?_)
    cases hy : e i with
    | true =>
      rw [hy] at hR
      wp_walk
      simpa using hR
    | false =>
      rw [hy] at hR
      wp_walk
      exact ⟨rfl, rfl, i + 1, hrest, by simpa using hR⟩
  case fin =>
    rintro ⟨b1, b2⟩ s' ⟨hb, rfl, i, hz, hR⟩
    simp only at hb
    subst hb
    have hge : items.size ≤ i := by
      rcases Nat.lt_or_ge i items.size with h' | h'
      · have hlt : i < items.toList.length := by simpa using h'
        rw [List.drop_eq_getElem_cons hlt] at hz
        cases hz
      · exact h'
    rw [List.drop_of_length_le (by simpa using hge)] at hR
    wp_walk
    simpa using hR
  case h =>
    exact ⟨rfl, rfl, 0, by simp, by simpa using h⟩
theorem notInPT {A : Around} {s : Shared} {E : Value → Shared → Prop} {l : Addr} {items : Array Value} {x : Value} {Q : Value → Shared → Prop} (e : Nat → Bool) (hl : s.heap.IsTuple l items) (he : ∀ j (h : j < items.size), EqP prog w A.in1 s items[j] x (e j))
    (h : Q (.bool (!(List.range items.size).any e)) s) : wpAny (model prog w) A (compareOp .NotIn x (.ref l)) Q E s := by
  obtain ⟨⟨cls, dd, data, sl⟩, ho, hc, n, hd⟩ := id hl
  simp only at hc hd
  subst hc hd
  have hT : s.TypeIs (.ref l) "tuple" := ⟨_, ho, rfl⟩
  show wpAny _ A (do return .bool (!(← contains (.ref l) x))) Q E s
  refine wpAny_bind (wpAny_contains_slot hT F.slot_tuple_contains (wpAny_mono (call_meetsIn (E := E) (Q := fun v s' => ∃ b, v = .bool b ∧ Q (.bool (!b)) s') F.slot_tuple_contains hT F.entry_tuple_contains (F.args_tuple_contains_2 _ _) (inP_tup l items n dd sl x e) ⟨ho, he, _, rfl, h⟩) (fun v s' hv => ?_) fun _ _ e => e))
  obtain ⟨b, rfl, hq⟩ := hv
  exact wpAny_truthy_bool (wpAny_pure hq)
end
section
variable {X : Cx}
def rNotInDT (K : PySem.W.Frag) : R2 := fun x y H Q => ∃ (S S' : Addr → Prop) (G G' : Gen) (n m : Nat) (d : D) (b : Addr) (ss : List (V × D)), y = .ref b ∧ m ≤ 40 ∧ Dc S G H n x d ∧ SqT K H b (ss.map (·.1)) ∧ (∀ r ∈ ss, Dc S' G' H m r.1 r.2) ∧ Q (.bl (notInL d (ss.map (·.2)))) H
theorem op_notInDT (hu : X.A.units + 64 < cLine) : OpR X (compareOp .NotIn) (rNotInDT X.K) := by
  intro pins s σ H x y v u Q I rx ry h
  obtain ⟨S, S', G, G', n, m, d, b, ss, rfl, hm, h, hb, hds, q⟩ := h
  cases (show u = Value.ref b from ry)
  obtain ⟨ws, r2, p2, _⟩ := I.tuple hb
  have l2 : ws.length = ss.length := by rw [← r2.length, List.length_map]
  refine notInPT (fun j => deq ((ss.map (·.2)).getD j .nil) d) (show s.heap.IsTuple b ws.toArray from p2) (fun j h2 => ?_) ⟨.bl (notInL d (ss.map (·.2))), H, I, ?_, q⟩
  · have k2 : j < ss.length := by rw [List.size_toArray, l2] at h2; exact h2
    obtain ⟨y2, hy2, ry2⟩ := vals_get r2 (j := j) (x := (ss[j]).1) (by rw [List.getElem?_map, List.getElem?_eq_getElem k2]; rfl)
    have e2 : ws.toArray[j] = y2 := by
      have := (List.getElem?_eq_some_iff.mp hy2).2
      simpa using this
    rw [e2]
    have := docs_dec I m n X.A.in1 _ _ _ _ y2 v (show X.A.units + 1 + m + 1 < cLine by omega) (hds _ (List.getElem_mem k2)) h ry2 rx
    simpa [List.getD_eq_getElem?_getD, k2] using this
  · rw [List.size_toArray, l2]
    have e := any_range (fun e => deq e d) (ss.map (·.2)) 0 (fun j => deq ((ss.map (·.2)).getD j .nil) d) fun j hj => by
      simp only [Nat.zero_add]
      simp only [List.length_map] at hj
      simp [List.getD_eq_getElem?_getD, hj]
    rw [List.length_map] at e
    rw [List.range_eq_range', e]
    rfl
end
end TP

/-! sorted(xs), xs tuples of texts, the empty one among them -/
namespace TP
open PySem PySem.Spec PyProof.Rows PySem.W PySem.SeqAt PySem.Calls
section
variable {prog : Program} {w : World} {A : Around} {E : Value → Shared → Prop} {s : Shared}
/-- the call of tuple's own __lt__, as sorting makes it -/
theorem call_tuple_lt {Q : Value → Shared → Prop} {l b : Addr} {items items2 : Array Value} {e r : Nat → Bool} (hl : s.heap.IsTuple l items) (hb : s.heap.IsTuple b items2)
    (he : ∀ j (h1 : j < items.size) (h2 : j < items2.size), EqAt A.in1 s items[j] items2[j] (e j)) (hr : ∀ j (h1 : j < items.size) (h2 : j < items2.size), e j = false → RcLt A.in1 s items[j] items2[j] (r j))
    (h : Q (.bool (firstLt e r (decide (items.size < items2.size)) (List.range (min items.size items2.size)))) s) : wpAny (model prog w) A (call (.builtin "tuple.__lt__") [.ref l, .ref b]) Q E s := by
  obtain ⟨⟨cls, dd, data, sl⟩, ho, hc, n, hd⟩ := id hl
  obtain ⟨⟨cls2, dd2, data2, sl2⟩, ho2, hc2, n2, hd2⟩ := id hb
  simp only at hc hd hc2 hd2
  subst hc hd hc2 hd2
  exact call_meets PySem.F.slot_tuple_lt ⟨_, ho, rfl⟩ PySem.F.entry_tuple_lt (PySem.F.args_tuple_lt_2 _ _) (PySem.SeqAt.tuple_ltAt l b items items2 n n2 dd dd2 sl sl2 e r) ⟨ho, ho2, he, hr, h⟩
theorem oneLt_tup {xs ys : List PyData} {a b : Value} {as bs : List Addr} {Q : Bool → Shared → Prop} (ra : Reads s.heap a (.tuple xs) as) (rb : Reads s.heap b (.tuple ys) bs) (h : alike (.tuple xs) (.tuple ys) = true)
    (hu : A.units + min (PyData.tuple xs).depth (PyData.tuple ys).depth < cLine) (hq : Q (dataLt (.tuple xs) (.tuple ys)) s) : wpAny (model prog w) A (oneLt' true a b) Q E s := by
  have hal : alikeAll xs ys = true := by simpa [alike] using h
  cases ra with
  | @tuple l o vs n _ as₁ h1 h2 h3 h4 =>
    cases rb with
    | @tuple l' o' vs' n' _ bs₁ k1 k2 k3 k4 =>
      have n1 : vs.size = xs.length := by simpa using ReadsAll.length _ _ _ h4
      have n2 : vs'.size = ys.length := by simpa using ReadsAll.length _ _ _ k4
      rw [dataLt_tuple, ← firstLt_toks xs ys hal, ← n1, ← n2] at hq
      rw [oneLt'_eq]
      simp only [if_true]
      refine wpAny_bind (wpAny_cRoomFor (room_here hu) ?_)
      refine wpAny_bind (wpAny_callSpecialIfBound?_slot (T := "tuple") ⟨_, h1, h2⟩ PySem.F.slot_tuple_lt (call_tuple_lt (e := pairEq xs ys) (r := fun j => dataLt (xs.getD j .none) (ys.getD j .none)) ⟨_, h1, h2, _, h3⟩ ⟨_, k1, k2, _, k3⟩ (fun j j1 j2 => ?_) (fun j j1 j2 hj => ?_) ?_))
      · have := eqAt_alikeAll xs ys A.in1 s vs.toList vs'.toList _ _ h4 k4 hal (room_in hu) j (by simpa using j1) (by simpa using j2)
        simpa using this
      · have := rcLt_alikeAll xs ys A.in1 s vs.toList vs'.toList _ _ h4 k4 hal (room_in hu) j (by simpa using j1) (by simpa using j2) hj
        simpa using this
      · exact wpAny_truthy_bool hq
/-- the first items of tuples -/
def fsts (h : Heap) : List Value → List (Option Value) → Prop
  | [], [] => True
  | v :: vs, f :: fs => (∃ a o xs n, v = .ref a ∧ h.get? a = some o ∧ o.cls = .type "tuple" ∧ o.data = .seq xs n ∧ xs[0]? = f) ∧ fsts h vs fs
  | _, _ => False
theorem mapM_fsts {M : Model} : ∀ (vs : List Value) (fs : List (Option Value)) {Q : List (Option Value) → Shared → Prop}, fsts s.heap vs fs → Q fs s → wpAny M A (vs.mapM firstOfTuple') Q E s
  | [], [], _, _, h => by rw [List.mapM_nil]; exact wpAny_pure h
  | [], _ :: _, _, t, _ => t.elim
  | _ :: _, [], _, t, _ => t.elim
  | v :: vs, f :: fs, Q, t, h => by
    obtain ⟨⟨a, o, xs, n, rfl, ho, hc, hd, hf⟩, t⟩ := t
    rw [List.mapM_cons]
    refine wpAny_bind ?_
    rw [kas_first_eq]
    refine wpAny_bind (Looks.here (show Looks M s.heap (typeOf (.ref a)) o.cls from (Looks.ld ho).andThen .now) ?_)
    rw [hc, if_neg (by first | decide | simp)]
    refine wpAny_bind (PyProof.Rows.listItems_at ho hd (wpAny_pure ?_))
    rw [hf]
    exact wpAny_bind (mapM_fsts vs fs (Q := fun bs s' => wpAny M A (pure (f :: bs)) Q E s') t (wpAny_pure h))
/-- a list of tuples, one of them empty: the kind that sorting finds -/
theorem kind_tup {vs : List Value} {fs : List (Option Value)} {Q : SortKind → Shared → Prop} (h2 : 2 ≤ vs.length) (t : fsts s.heap vs fs) (hT : ∀ v ∈ vs, Looks (model prog w) s.heap (typeOf v) (.type "tuple")) (hn : ∃ f ∈ fs, f = none)
    (h : Q (if (fs[0]?.bind id).isSome then general' else oneType') s) : wpAny (model prog w) A (keyKind' vs.toArray) Q E s := by
  rw [kat_kind_eq, List.mapM_toArray, map_eq_pure_bind]
  refine wpAny_bind (wpAny_bind (mapM_fsts vs fs t (wpAny_pure ?_)))
  have hall : (fs.toArray.all fun x => x.isSome) = false := by
    obtain ⟨f, hf, rfl⟩ := hn
    rw [List.all_toArray]
    cases hh : fs.all fun x => x.isSome with
    | false => rfl
    | true =>
      have := List.all_eq_true.mp hh none hf
      cases this
  rw [hall]
  simp only [Bool.false_eq_true, if_false]
  have e0 : fs.toArray[0]? = fs[0]? := by simp
  rw [e0]
  by_cases c : (fs[0]?.bind id).isSome = true
  · rw [if_pos c] at h ⊢
    exact wpAny_pure h
  · rw [if_neg c] at h ⊢
    rw [oneTypeOnly'_eq, List.mapM_toArray, map_eq_pure_bind]
    refine wpAny_bind (wpAny_bind (wpAny_bind (kas_mapM (r := Value.type "tuple") _ (fun v hv Q' hq => (hT v hv).here hq) (wpAny_pure ?_))))
    have hall2 : ((List.map (fun _ => Value.type "tuple") vs).toArray.all fun x => x == Value.type "tuple") = true := by
      simp only [List.all_toArray, List.all_map, List.all_eq_true]
      intro _ _
      exact beq_self_eq_true _
    have h0 : (List.map (fun _ => Value.type "tuple") vs).toArray[0]? = some (Value.type "tuple") := by
      cases vs with
      | nil => simp at h2
      | cons v vs => simp
    rw [h0]
    simp only [hall2, if_true]
    exact wpAny_pure (wpAny_pure h)
theorem each_fsts {h : Heap} : ∀ {vs : List Value} {ds : List PyData}, EachIs (fun v d => ∃ as, Reads h v d as) vs ds → (∀ d, d ∈ ds → ∃ xs, d = .tuple xs) → ∃ fs, fsts h vs fs ∧ ((∃ d ∈ ds, d = .tuple []) → ∃ f ∈ fs, f = none)
  | _, _, .nil, _ => ⟨[], trivial, fun ⟨_, z, _⟩ => nomatch z⟩
  | _, _, .cons (b := d) ⟨as, r⟩ t, ht => by
    obtain ⟨fs, h1, h2⟩ := each_fsts t fun d hd => ht d (List.mem_cons_of_mem _ hd)
    obtain ⟨xs', rfl⟩ := ht d List.mem_cons_self
    cases r with
    | @tuple a o xs n _ _ ho hc hd hr =>
      refine ⟨xs[0]? :: fs, ⟨⟨a, o, xs, n, rfl, ho, hc, hd, rfl⟩, h1⟩, ?_⟩
      rintro ⟨d, hd', rfl⟩
      rcases List.mem_cons.mp hd' with e | hd'
      · injection e with e
        subst e
        refine ⟨_, List.mem_cons_self, ?_⟩
        have : xs.size = 0 := by simpa using ReadsAll.length _ _ _ hr
        rw [Array.getElem?_eq_none (by omega)]
      · obtain ⟨f, h3, h4⟩ := h2 ⟨_, hd', rfl⟩
        exact ⟨f, List.mem_cons_of_mem _ h3, h4⟩
/-- values that read as alike tuples can be sorted -/
theorem sortsAt_tup {vs : List Value} {ds : List PyData} (e : EachIs (fun v d => ∃ as, Reads s.heap v d as) vs ds) (hal : AllAlike ds) (ht : ∀ d, d ∈ ds → ∃ xs, d = .tuple xs) (hu : ∀ d, d ∈ ds → A.units + d.depth < cLine) : SortsAt prog w A s (dataKind s.heap ds) vs := by
  by_cases c : ∀ d, d ∈ ds → ∃ x r, d = .tuple (x :: r)
  · exact SortsAt.data e hal (.inl c) hu
  have room : ∀ {d d' : PyData}, d ∈ ds → A.units + min d.depth d'.depth < cLine := fun {d d'} hd => Nat.lt_of_le_of_lt (Nat.add_le_add_left (Nat.min_le_left _ _) _) (hu d hd)
  obtain ⟨fs, f1, f2⟩ := each_fsts e ht
  have f3 : ∃ f ∈ fs, f = none := by
    refine f2 ?_
    refine Classical.byContradiction fun z => c fun d hd => ?_
    obtain ⟨xs, rfl⟩ := ht d hd
    cases xs with
    | nil => exact absurd ⟨_, hd, rfl⟩ z
    | cons x r => exact ⟨x, r, rfl⟩
  refine ⟨fun v hv => ?_, (if (fs[0]?.bind id).isSome then general' else oneType'), ?_, fun h2 E Q hq => ?_⟩
  · obtain ⟨d, hd, as, r⟩ := e.left v hv
    exact ⟨_, dataKind_some hal hd r⟩
  · intro E x y a b Q ha hb hq
    obtain ⟨d, as, hd, ra, rfl⟩ := dataKind_inv ha
    obtain ⟨d', as', hd', rb, rfl⟩ := dataKind_inv hb
    obtain ⟨xs, rfl⟩ := ht d hd
    obtain ⟨ys, rfl⟩ := ht d' hd'
    split
    · exact oneLt_alike (f := false) (fun z => nomatch z) ra rb (hal _ hd _ hd') (fun z => nomatch z) (room hd) hq
    · rw [keyLt'_oneType]
      exact oneLt_tup ra rb (hal _ hd _ hd') (room hd) hq
  · refine kind_tup h2 f1 (fun v hv => ?_) f3 hq
    obtain ⟨d, hd, as, r⟩ := e.left v hv
    obtain ⟨xs, rfl⟩ := ht d hd
    exact looks_reads r
/-- sorted(xs) -/
theorem sorted_tup {β : Type} {enc : β → PyData} {R : Value → β → Prop} {vs : List Value} {bs : List β} {l : Addr} {Q : Value → Shared → Prop} (hl : s.heap.IsList l vs.toArray) (e : EachIs R vs bs) (er : EachIs (fun v b => ∃ as, Reads s.heap v (enc b) as) vs bs) (hal : AllAlike (bs.map enc)) (ht : ∀ b, ∃ xs, enc b = .tuple xs) (hL : bs.length ≤ sizeLine)
    (hu : ∀ b, b ∈ bs → A.units + 2 + (enc b).depth < cLine) (h : ∀ out, out.length = bs.length → EachIs R out (bs.mergeSort (dataLe false enc)) → Q (.ref (s.heap.objs.size + 1)) { s with heap := sortedAll s.heap vs (List.toArray out) }) :
    wpAny (model prog w) A (call (.builtin "sorted") [.ref l]) Q E s := by
  have er' : EachIs (fun v b => ∃ as, Reads (sortingHeap (copyHeap s.heap vs) (s.heap.objs.size + 1) vs) v (enc b) as) vs bs := er.mono fun _ _ ⟨as, r⟩ => ⟨as, PyProof.Rows.Reads.keeps (fun _ _ => sorting_copy_old) r⟩
  exact sorted_vals hl (sortsAt_tup (s := { s with heap := sortingHeap (copyHeap s.heap vs) (s.heap.objs.size + 1) vs }) (each_map (R := fun v d => ∃ as, Reads (sortingHeap (copyHeap s.heap vs) (s.heap.objs.size + 1) vs) v d as) enc er') hal (fun d hd => by
      obtain ⟨b, _, rfl⟩ := List.mem_map.mp hd
      exact ht b) (bound_map hu)) (by rw [e.length]; exact hL)
    (h _ (by rw [sortVals_length false rfl]; exact e.length) (sortVals_data false e er' hal))
end
end TP
namespace TP
open PySem PySem.Spec PyProof.Rows L2
open PySem.W (EachIs)
/-- a path as a datum -/
def tsD (ks : List Str) : PyData := .tuple (ks.map .str)
def srtT (qs : List (Addr × List Str)) : List (Addr × List Str) := qs.mergeSort (PySem.W.dataLe false fun q => tsD q.2)
theorem srtT_perm (qs : List (Addr × List Str)) : (srtT qs).Perm qs := List.mergeSort_perm _ _
theorem alike_strs : ∀ xs ys : List Str, PySem.W.alikeAll (xs.map .str) (ys.map .str) = true
  | [], _ => by simp [PySem.W.alikeAll]
  | _ :: _, [] => by simp [PySem.W.alikeAll]
  | x :: xs, y :: ys => by
    show PySem.W.alikeAll (.str x :: xs.map .str) (.str y :: ys.map .str) = true
    rw [PySem.W.alikeAll, alike_strs xs ys]
    simp [PySem.W.alike]
theorem depth_strs : ∀ xs : List Str, PyData.depthAll (xs.map .str) = 0
  | [] => by simp [PyData.depthAll]
  | x :: xs => by
    show PyData.depthAll (.str x :: xs.map .str) = 0
    rw [PyData.depthAll, depth_strs xs]
    simp [PyData.depth]
theorem reads_strs {h : Heap} : ∀ {ks : List Str} {us : List Value}, Vals (ks.map V.str) us → PySem.ReadsAll h us (ks.map .str) []
  | [], _, r => by
    cases r
    exact .nil
  | k :: ks, _, r => by
    cases r with
    | cons r1 r2 =>
      obtain ⟨t, rfl⟩ := r1
      exact .cons (as := []) (bs := []) (.str k t) (reads_strs r2)
theorem refs_vals : ∀ {qs : List (Addr × List Str)} {us : List Value}, Vals (qs.map fun q => V.ref q.1) us → us = qs.map fun q => Value.ref q.1
  | [], us, r => by
    rw [List.map_nil] at r
    cases r
    rfl
  | q :: qs, us, r => by
    rw [List.map_cons] at r
    cases r with
    | cons h q' =>
      cases h
      rw [List.map_cons, ← refs_vals q']
theorem vals_refs : ∀ qs : List (Addr × List Str), Vals (qs.map fun q => V.ref q.1) (qs.map fun q => Value.ref q.1)
  | [] => .nil
  | _ :: qs => .cons rfl (vals_refs qs)
theorem each_self {P : Addr × List Str → Prop} : ∀ (qs : List (Addr × List Str)), (∀ q ∈ qs, P q) → EachIs (fun v q => v = Value.ref q.1 ∧ P q) (qs.map fun q => Value.ref q.1) qs
  | [], _ => .nil
  | q :: qs, h => .cons ⟨rfl, h q List.mem_cons_self⟩ (each_self qs fun r hr => h r (List.mem_cons_of_mem _ hr))
theorem each_eq : ∀ {out : List Value} {qs : List (Addr × List Str)}, EachIs (fun v q => v = Value.ref q.1) out qs → out = qs.map fun q => Value.ref q.1
  | _, _, .nil => rfl
  | _, _, .cons h t => by rw [List.map_cons, ← each_eq t, h]
/-- sorted(xs), xs a list of tuples of texts: a new list -/
def rSortTS (K : PySem.W.Frag) : List V → Hp → VK → Prop := fun vs H Q => ∃ (a : Addr) (qs : List (Addr × List Str)), vs = [V.ref a] ∧ SqL K H a (qs.map fun q => V.ref q.1) ∧ (∀ q ∈ qs, SqT K H q.1 (q.2.map V.str)) ∧ ∀ p, H p = none → Q (.ref p) (upd H p (.lst ((srtT qs).map fun q => V.ref q.1)))
theorem cr_sortTS {X : Cx} (hu : X.A.units + 64 < cLine) : CallR X (.builtin "sorted") (rSortTS X.K) := by
  intro pins s σ H vs us Q I r h
  obtain ⟨a, qs, rfl, hs, hx, q⟩ := h
  obtain ⟨its, rv, hl, hz⟩ := I.list hs
  rw [Vals.ref1 r]
  have ei := refs_vals rv
  rw [List.length_map] at hz
  have hr : ∀ q ∈ qs, ∃ as, Reads s.heap (.ref q.1) (tsD q.2) as := fun q hq => by
    obtain ⟨ts, rt, ⟨o, h1, h2, n, h3⟩, _⟩ := I.tuple (hx q hq)
    exact ⟨[], .tuple h1 h2 h3 (by simpa using reads_strs rt)⟩
  have e1 : EachIs (fun v q => v = Value.ref q.1 ∧ ∃ as, Reads s.heap (.ref q.1) (tsD q.2) as) its qs := by
    rw [ei]
    exact each_self qs hr
  refine sorted_tup (β := Addr × List Str) (enc := fun q => tsD q.2) (R := fun v q => v = Value.ref q.1) (bs := qs) hl.isList (e1.mono fun _ _ z => z.1) (e1.mono fun v q z => by rw [z.1]; exact z.2)
    (PySem.W.AllAlike.of fun b b' => by show PySem.W.alike (.tuple _) (.tuple _) = true; simp only [PySem.W.alike]; exact alike_strs _ _) (fun b => ⟨_, rfl⟩) hz (fun b _ => ?_) fun out ho hout => ?_
  · have : (tsD b.2).depth = 1 := by show (PyData.tuple _).depth = 1; rw [PyData.depth, depth_strs]
    rw [this]
    omega
  · have eo : out = (srtT qs).map fun q => Value.ref q.1 := each_eq hout
    obtain ⟨ep, he'⟩ := PyProof.Rows.sortedAll_at s.heap its out.toArray
    have hlen : ((srtT qs).map fun q => V.ref q.1).length ≤ sizeLine := by
      rw [List.length_map, (srtT_perm qs).length_eq]
      exact hz
    refine ⟨.ref _, upd H (s.heap.objs.size + 1) (.lst ((srtT qs).map fun q => V.ref q.1)), I.laid (t' := s.toks) (fun _ _ => PyProof.Rows.sortedAll_old) (Nat.le_succ _) ⟨hlen, out, ep, by rw [eo]; exact vals_refs _, he'⟩, rfl, q _ (I.hok.fresh (Nat.le_succ _))⟩
end TP

/-! {t: v}, t a tuple of texts and ints -/
namespace TP
open PySem PySem.Spec PyProof.Rows L2
def tDispT (trs : List (TE × TE)) : TE := fun σ H Q => ∀ p, H p = none → tPairs trs σ (upd H p (.dT [])) fun ps H2 => H2 p = some (.dT []) ∧ ∃ (k : List L2.Key) (b : Addr) (v : V), ps = [(.ref b, v)] ∧ H2 b = some (.tup (k.map kV)) ∧ Q (.ref p) (upd H2 p (.dT [(k, v)]))
theorem pe_dispT {X : Cx} {pos : Pos} {keys : List (Option Expr)} {values : List Expr} {trs : List (TE × TE)} (hu : X.A.units + 1 < cLine) (h : PPs X pos keys values trs) (hall : keys.all (·.isSome) = true) (hl : keys.length = values.length) (h0 : keys ≠ [])
    (h15 : keys.length ≤ 15) : PE X (.Dict keys values pos) (tDispT trs) := by
  refine ⟨fun pins s σ H Q I q => ?_⟩
  have hn := I.hok.fresh (Nat.le_refl s.heap.objs.size)
  have I1 := I.laid (a := s.heap.objs.size) (o := .dT []) (h' := s.heap.push { cls := .type "dict", data := .dict #[] }) (t' := s.toks) (fun _ _ q => Heap.get?_push_of_some _ q) (Nat.le_refl _) (dt_empty s.heap I.big)
  have hlen := pairTrees_length keys values X.env pos hall hl
  have hne : pairTrees keys values X.env pos ≠ [] := by
    intro he
    rw [he] at hlen
    exact h0 (List.length_eq_zero_iff.mp hlen.symm)
  rw [arm_eval_Dict, zip_pairTrees keys values X.env pos hall hl, dictDisplay_pairs _ hne (by omega)]
  refine wpAny_bind (wpAny_standAt (wpAny_bind (wpAny_subDictH (knd := tupleKind (mixKind X.prog X.w)) (Q := fun d s' => wpAny (model X.prog X.w) X.A (pure (Value.ref d)) _ X.xe s') (show X.A.units < cLine by omega) (by omega) (thn (h.run pins _ σ _ _ I1 (q _ hn)) fun ws s2 z => ?_))))
  obtain ⟨ps, H2, I2, rel, e, k, b, v, ep, eb, q2⟩ := z
  subst ep
  cases rel with
  | cons hr t =>
    cases t
    rename_i w2
    obtain ⟨w2a, w2b⟩ := w2
    obtain ⟨r1, r2⟩ := hr
    have r1 : w2a = .ref b := r1
    obtain ⟨z, hd, xs, r0, dd⟩ := dt_of I2.hok e
    cases r0
    refine ⟨[(k, b, w2b)], ⟨r1, rfl, key_of I2.hok eb, trivial⟩, dd, fun h' tk dd' hs => wpAny_pure ⟨.ref s.heap.objs.size, _, ?_, rfl, q2⟩⟩
    obtain ⟨q, es, ep, hq, h2, h3, h4, _, h5⟩ := dd'
    refine d_write I2 (by rw [e]; exact True.intro) hs ⟨q, hq⟩ ⟨(by show 1 ≤ sizeLine; decide), hd, _, ((show KT H2 [] [] from .nil).put k eb r2).keeps fun c ys ec => ?_, q, es, ep, hq, h2, h3, h4, h5⟩
    rw [upd_ne (ne_of ec e (fun z => nomatch z))]
    exact ec
end TP

/-! t[::-1], t a tuple -/
namespace HT
open PySem PyProof.Rows
section
variable {prog : Program} {w : World} {A : Around} {E : Value → Shared → Prop} {s : Shared}
theorem adjust_rev (n : Nat) : Builtin.Slice.sliceAdjust none none (-1) (n : Int) = ((n : Int) - 1, -1) := by
  first | rfl | simp [Builtin.Slice.sliceAdjust]
theorem places_rev (n : Nat) : Builtin.Slice.slicePlaces ((n : Int) - 1) (-1) (-1) = n := by
  unfold Builtin.Slice.slicePlaces
  simp
  omega
theorem sliceApplied_rev {sl : Addr} {vk : Value} {n : Nat} {Q : Int × Int × Nat → Shared → Prop} (hs : s.heap.IsSliceOf sl .none .none vk) (pk : IsPart vk (some (-1)))
    (h : Q ((n : Int) - 1, -1, n) s) : wpAny (model prog w) A (Builtin.Slice.sliceApplied (.ref sl) (pure (n : Int))) Q E s := by
  obtain ⟨os, hos, hcs, hds⟩ := id hs
  unfold Builtin.Slice.sliceApplied Builtin.Slice.sliceFields
  refine wpAny_bind (wpAny_bind (wpAny_field hos hds (x := .none) rfl (wpAny_bind (wpAny_field hos hds (x := .none) rfl (wpAny_bind (wpAny_field hos hds (x := vk) rfl (wpAny_pure ?_)))))))
  refine wpAny_bind (slicePart_ pk ?_)
  show wpAny _ _ (if ((-1 : Int) == 0) = true then _ else _) _ _ s
  rw [if_neg (by decide)]
  refine wpAny_bind (slicePart_none (wpAny_bind (slicePart_none (wpAny_bind (wpAny_pure ?_)))))
  show wpAny _ _ (match Builtin.Slice.sliceAdjust none none (-1) (n : Int) with | (lo, hi) => pure (lo, (-1 : Int), Builtin.Slice.slicePlaces lo hi (-1))) _ _ s
  rw [adjust_rev n]
  show wpAny _ _ (pure ((n : Int) - 1, (-1 : Int), Builtin.Slice.slicePlaces ((n : Int) - 1) (-1) (-1))) _ _ s
  rw [places_rev]
  exact wpAny_pure h
theorem fm_congr {α β : Type} {f g : α → Option β} : ∀ {l : List α}, (∀ x ∈ l, f x = g x) → l.filterMap f = l.filterMap g
  | [], _ => rfl
  | x :: l, h => by
    rw [List.filterMap_cons, List.filterMap_cons, h x List.mem_cons_self, fm_congr fun y hy => h y (List.mem_cons_of_mem _ hy)]
theorem pick_rev (xs : Array Value) : ((List.range xs.size).filterMap fun (m : Nat) => xs[(((xs.size : Nat) : Int) - 1 + (m : Int) * (-1)).toNat]?).toArray = xs.toList.reverse.toArray := by
  have e : ((List.range xs.size).filterMap fun (m : Nat) => xs[(((xs.size : Nat) : Int) - 1 + (m : Int) * (-1)).toNat]?) = ((List.range xs.size).map fun k => xs.size - 1 - k).filterMap (xs[·]?) := by
    rw [List.filterMap_map]
    refine fm_congr fun m hm => ?_
    have hm := List.mem_range.mp hm
    show xs[(((xs.size : Nat) : Int) - 1 + (m : Int) * (-1)).toNat]? = xs[xs.size - 1 - m]?
    rw [show (((xs.size : Nat) : Int) - 1 + (m : Int) * (-1)).toNat = xs.size - 1 - m by omega]
  rw [e, PySem.W.krv_range, List.filterMap_reverse, PySem.W.krv_all]
theorem getItem_tuple_rev {t sl : Addr} {items : Array Value} {vk : Value} {Q : Value → Shared → Prop} (ht : IsTup s.heap t items) (hs : s.heap.IsSliceOf sl .none .none vk) (pk : IsPart vk (some (-1)))
    (h : Q (.ref s.heap.objs.size) { s with heap := s.heap.push { cls := .type "tuple", data := .seq items.toList.reverse.toArray } })
    (hsz : items.size ≤ sizeLine) : wpAny (model prog w) A (getItem (.ref t) (.ref sl)) Q E s := by
  have htake : sizeOk (.seq items.toList.reverse.toArray) := by
    show items.toList.reverse.toArray.size ≤ sizeLine
    simpa using hsz
  obtain ⟨os, hos, hcs, hds⟩ := id hs
  have hTs : s.TypeIs (.ref sl) "slice" := ⟨os, hos, hcs⟩
  unfold getItem
  try with_reducible refine wpAny_holding ?_
  first | refine wpAny_bind (wpAny_pure ?_) | skip
  refine wpAny_bind (wpAny_sequenceKey ht.typeIs (by decide) ?_)
  refine wpAny_bind (wpAny_callSpecial?_slot (name := Str.ofString "__getitem__") ht.typeIs PyProof.Rows.slot_tuple_getitem
    (wpAny_call_entry PyProof.Rows.slot_tuple_getitem ht.typeIs entry_tuple_getitem ?_ (args_tuple_getitem _ _)))
  show wpAny _ _ (Builtin.Tuple.tupleItemsOf (.ref t) >>= _) _ _ s
  refine wpAny_bind (tupleItemsOf_ ht ?_)
  refine wpAny_bind (wpAny_typeOf hTs ?_)
  rw [if_pos (by decide)]
  refine wpAny_bind (sliceApplied_rev hs pk ?_)
  have hno : ¬ (((((items.size : Nat) : Int) - 1) == 0 && (-1 : Int) == 1 && items.size == items.size) = true) := by
    intro q
    rw [Bool.and_eq_true, Bool.and_eq_true] at q
    exact absurd (eq_of_beq q.1.2) (by decide)
  show wpAny _ _ (if ((((items.size : Nat) : Int) - 1) == 0 && (-1 : Int) == 1 && items.size == items.size) = true then _ else _) _ _ s
  rw [if_neg hno, pick_rev]
  first
    | exact wpAny_bind (m := Builtin.Tuple.tupleExact _) (wpAny_newObj_type (wpAny_pure ⟨_, rfl, wpAny_pure h⟩) htake)
    | exact wpAny_bind (m := Builtin.Tuple.tupleExact _) (wpAny_newObj_type (wpAny_bind (wpAny_pure (wpAny_pure ⟨_, rfl, wpAny_pure h⟩))) htake)
    | exact wpAny_bind (wpAny_bind (m := Builtin.Tuple.tupleExact _) (wpAny_newObj_type (wpAny_pure (wpAny_pure ⟨_, rfl, wpAny_pure h⟩)) htake))
    | exact wpAny_bind (wpAny_bind (m := Builtin.Tuple.tupleExact _) (wpAny_newObj_type (wpAny_pure ⟨_, rfl, wpAny_pure h⟩) htake))
end
end HT
namespace TP
open PySem PySem.Spec PyProof.Rows L2
def tRevT (K : PySem.W.Frag) (te : TE) : TE := fun σ H Q => te σ H fun x H1 => ∃ a xs, x = .ref a ∧ SqT K H1 a xs ∧ ∀ p, H1 p = none → Q (.ref p) (upd H1 p (.tup xs.reverse))
theorem pe_revT {X : Cx} {e : Expr} {te : TE} {k : Nat} {p1 p2 p3 pos : Pos} (he : PE X e te) : PE X (.Subscript e (.Slice none none (some (.UnaryOp .USub (.Constant (.int 1) k p1) p2)) p3) pos) (tRevT X.K te) := by
  refine ⟨fun pins s σ H Q I h => ?_⟩
  refine Subscript_ (thn (he.run pins s σ H _ I h) fun v s1 ⟨x, H1, I1, r1, q1⟩ => ?_)
  obtain ⟨a, xs, ex, hx, q⟩ := q1
  subst ex
  cases r1
  have hst : PO X (some (.UnaryOp .USub (.Constant (.int 1) k p1) p2)) (tPart (tUn (rU fun i => .int (-i)) (tC (.int 1)))) := po_some (pe_un un_neg pe_int)
  refine wpAny_Slice (thn (po_none.run pins s1 σ H1 (fun o H2 => o = none ∧ H2 = H1) I1 ⟨rfl, rfl⟩) fun vl s2 ⟨l, H2, I2, pl, el, e2⟩ => ?_)
  subst el e2
  refine thn (po_none.run pins s2 σ H2 (fun o H3 => o = none ∧ H3 = H2) I2 ⟨rfl, rfl⟩) fun vu s3 ⟨u, H3, I3, pu, eu, e3⟩ => ?_
  subst eu e3
  refine thn (hst.run pins s3 σ H3 (fun o H4 => o = some (-1) ∧ H4 = H3) I3 ⟨1, rfl, -1, rfl, rfl, rfl⟩) fun vs s4 ⟨o, H4, I4, ps, eo, e4⟩ => ?_
  subst eo e4
  have I5 : Inv X pins σ H4 { s4 with heap := s4.heap.push { cls := .type "slice", data := .fields #[vl, vu, vs] } } := I4.kept (t' := s4.toks) fun b ob q => Heap.get?_push_of_some _ q
  obtain ⟨its, r, ht, hz⟩ := I5.tuple hx
  have hlen := r.length
  cases pl
  cases pu
  refine tail_any (ops := [.ref a, .ref s4.heap.objs.size]) ht.typeIs (PyProof.Rows.slot_tuple_getitem.lookup) ?_ (by with_unfolding_all rfl)
  refine HT.getItem_tuple_rev ht (Heap.IsSliceOf.new _ .none .none vs) ps ?_ (by rw [List.size_toArray]; omega)
  refine ⟨.ref _, _, I5.laid (t' := s4.toks) (o := .tup xs.reverse) (fun b ob q => Heap.get?_push_of_some _ q) (Nat.le_refl _) ?_, rfl, q _ (I5.hok.fresh (Nat.le_refl _))⟩
  exact ⟨by rw [List.length_reverse]; exact hz, _, r.reverse, IsTup.new _ _⟩
end TP

/-! enumerate(t), t a tuple -/
namespace PySem
open Sem (wp)
open AutoSeq1 (wpAny_loadPart')
open MeetsSeq MeetsSeq2 MeetsSeq3 SeqRoads2
theorem tp_enumerate_new (l : Addr) (items : Array Value) (n : Nat) (dct : Option Addr) (sl : Array (Option Value)) :
    Meets (Builtin.«enumerate.__new__» ⟨[.type "enumerate", .ref l], []⟩) (fun _ R s => s.heap.get? l = some { cls := .type "tuple", dict := dct, data := .seq items n, slots := sl } ∧
      R (.ok (.ret (.ref (s.heap.push { cls := .type "tuple_iterator", data := .fields #[.ref l, .int 0 0] }).objs.size)))
        { s with heap := (s.heap.push { cls := .type "tuple_iterator", data := .fields #[.ref l, .int 0 0] }).push { cls := .type "enumerate", data := .fields #[.none, .bool false, .ref s.heap.objs.size, rawInt 0, .none, .none] } }) :=
  .of_wp fun prog w A R s h => by
    obtain ⟨hp, g, d, tk, os⟩ := s; obtain ⟨hl, h⟩ := h
    have hsub := sub_enumerate
    have hL : Heap.IsTuple (Shared.heap ⟨hp, g, d, tk, os⟩) l items := ⟨_, hl, rfl, n, rfl⟩
    wp_walk using wpAny_loadPart' hl
    refine wpAny_stack_any fun st => wpAny_pure ?_
    split
    · rename_i c _ _ _ _ _
      cases (c == Value.type "enumerate")
      · wp_walk using wpAny_loadPart' hl, wpAny_pyIter_tuple hL
        exact ⟨_, rfl, h⟩
      · wp_walk using wpAny_loadPart' hl, wpAny_pyIter_tuple hL
        exact ⟨_, rfl, h⟩
    · wp_walk using wpAny_loadPart' hl, wpAny_pyIter_tuple hL
      exact ⟨_, rfl, h⟩
section
variable {prog : Program} {w : World} {A : Around} {E : Value → Shared → Prop} {s : Shared}
theorem call_enumerate_tp {l : Addr} {items : Array Value} {Q : Value → Shared → Prop} (hL : s.heap.IsTuple l items)
    (h : ∀ h', IsEnum h' (s.heap.objs.size + 1) s.heap.objs.size 0 .none → h'.IsTupleIter s.heap.objs.size l 0 → h'.objs.size = s.heap.objs.size + 2 →
      (∀ b o, s.heap.get? b = some o → h'.get? b = some o) → Q (.ref (s.heap.objs.size + 1)) { s with heap := h' }) :
    wpAny (model prog w) A (call (.type "enumerate") [.ref l]) Q E s := by
  obtain ⟨⟨c, dct, dt, sl⟩, hl, hc, n, hd⟩ := hL
  replace hc : c = .type "tuple" := hc
  replace hd : dt = .seq items n := hd
  subst hc hd
  refine callType_new F.called_enumerate (by decide) (F.typeCall_enumerate_1 _) (F.newCall_enumerate_1 _) (fun obj => F.args_object_init_2 obj _) F.entry_enumerate_new
    (tp_enumerate_new l items n dct sl) ⟨hl, ?_⟩
  have hz : (s.heap.push { cls := .type "tuple_iterator", data := .fields #[.ref l, .int 0 0] }).objs.size = s.heap.objs.size + 1 := Heap.size_push ..
  show _ ∧ _
  rw [hz]
  have he : IsEnum ((s.heap.push { cls := .type "tuple_iterator", data := .fields #[.ref l, .int 0 0] }).push
      { cls := .type "enumerate", data := .fields #[.none, .bool false, .ref s.heap.objs.size, rawInt 0, .none, .none] }) (s.heap.objs.size + 1) s.heap.objs.size 0 .none := by
    have := Heap.get?_push_size (s.heap.push { cls := .type "tuple_iterator", data := .fields #[.ref l, .int 0 0] })
      (o := { cls := .type "enumerate", data := .fields #[.none, .bool false, .ref s.heap.objs.size, rawInt 0, .none, .none] }) rfl
    rw [hz] at this; exact this
  refine ⟨⟨_, he, rfl⟩, h _ he ⟨_, Heap.get?_push_of_some _ (Heap.get?_push_size _ rfl), rfl, rfl⟩ (by rw [Heap.size_push, hz]) fun b o x => Heap.get?_push_of_some _ (Heap.get?_push_of_some _ x)⟩
end
end PySem
namespace L2
open PySem PySem.Spec PyProof.Rows
/-- the tuple at a as it stands at each turn, the items in new pairs -/
def Itet (K : PySem.W.Frag) (a : Addr) : It :=
  ⟨fun i H => ∃ (xs : List V) (x : V), SqT K H a xs ∧ xs[i]? = some x, fun i H v H' => ∃ T x, v = .ref T ∧ H T = none ∧ H' = upd H T (.tup [.int (i : Nat), x]) ∧ ∀ xs, SqT K H a xs → xs[i]? = some x, fun i H => ∃ xs : List V, SqT K H a xs ∧ xs.length = i⟩
theorem turn_enumT {P : Program} {w : World} {K : PySem.W.Frag} {elts : List Expr} {kk : Nat} {tpos : Pos} (a e it : Addr) (hai : a ≠ it) (hae : e ≠ a) :
    Turn P w K (.Tuple elts kk tpos) (Itet K a) [e, it] e (fun i h => (∃ old, IsEnum h e it ((i : Nat) : Int) old) ∧ h.IsTupleIter it a i ∧ e ≠ it) where
  mem := by simp
  obj := fun i h st b hb => by
    obtain ⟨⟨old, he⟩, ⟨o, ho, hc, hd⟩, _⟩ := st
    have e' : b = e ∨ b = it := by simpa using hb
    rcases e' with z | z
    · rw [z]; exact ⟨_, he, fun v q => nomatch q⟩
    · rw [z]; exact ⟨o, ho, fun v q => by rw [hd] at q; cases q⟩
  keep := fun i h h' st k => let ⟨⟨old, he⟩, hi, hne⟩ := st; ⟨⟨old, k e (by simp) _ he⟩, hi.at fun o q => k it (by simp) o q, hne⟩
  item := by
    intro X hP hw hK hc i pins s σ H E I hf st hg
    subst hP hw hK
    obtain ⟨⟨old, he⟩, hit, hne⟩ := st
    obtain ⟨xs, x, hq, hx⟩ := hg
    obtain ⟨its, rv, p, hz⟩ := I.tuple hq
    obtain ⟨u, hu, ru⟩ := rv.get hx
    have hel : e < s.heap.objs.size := Heap.lt_size he
    have hil : it < s.heap.objs.size := by obtain ⟨_, q, _⟩ := hit; exact Heap.lt_size q
    have hult : i < its.toArray.size := by
      have := (List.getElem?_eq_some_iff.mp hu).1
      simpa using this
    refine wpAny_pyNext_enum_itemD (Draws.tuple (A := X.A.in1) (show X.A.in1.handled = none from I.ok.hd hc) it a hai its.toArray) he ⟨hit, p⟩ hult hne (by simp [hne, hae]) fun x' h' tk hx' ho hst hT hsz hk => ?_
    have ex' : x' = u := by
      have hu' : its.toArray[i]? = some u := by simpa using hu
      rw [hu'] at hx'
      exact (Option.some.inj hx').symm
    subst ex'
    obtain ⟨hit', _⟩ := hst
    refine ⟨_, rfl, wpAny_letOwnedTupleGo_enum (s := { s with heap := h', toks := tk + 1 }) ho fun h'' he' sb => ?_⟩
    have hT2 : h''.get? s.heap.objs.size = some { cls := .type "tuple", data := .seq #[.int i tk, x'] } := (sb.2 _ (Nat.ne_of_gt hel)).trans hT
    have new : ObjOk X.prog X.w (upd H s.heap.objs.size (.tup [.int (i : Nat), x])) h'' s.heap.objs.size (.tup [.int (i : Nat), x]) :=
      ⟨by show 2 ≤ sizeLine; decide, [.int i tk, x'], .cons ⟨_, rfl⟩ (.cons ru .nil), ⟨_, hT2, rfl, _, rfl⟩⟩
    have I1 : Inv X pins σ (upd H s.heap.objs.size (.tup [.int (i : Nat), x])) { s with heap := h'', toks := tk + 1 } :=
      I.turnedNew (ch := [e, it]) (fun b ob hb q => (sb.2 b (fun z => hb (by simp [z]))).trans (hk b ob (fun z => hb (by simp [z])) (fun z => hb (by simp [z])) q)) hf (Nat.le_refl _) new
    refine ⟨.ref s.heap.objs.size, _, I1, rfl, ⟨_, x, rfl, I.hok.fresh (Nat.le_refl _), rfl, fun ys hy => by rw [I.tuple_inj hy hq]; exact hx⟩, ⟨⟨x', ?_⟩, hit'.at fun o q => (sb.2 it (Ne.symm hne)).trans q, hne⟩, fun b hb => ?_⟩
    · have e1 : ((i + 1 : Nat) : Int) = (i : Int) + 1 := by omega
      rw [e1]; exact he'
    · have hb' : b < s.heap.objs.size := by
        have e' : b = e ∨ b = it := by simpa using hb
        rcases e' with z | z
        · rw [z]; exact hel
        · rw [z]; exact hil
      rw [upd_ne (Nat.ne_of_lt hb')]
      exact (hf b hb).1
  done := by
    intro X hP hw hK hc i pins s σ H E I hf st hg
    subst hP hw hK
    obtain ⟨⟨old, he⟩, hit, hne⟩ := st
    obtain ⟨xs, hq, hx⟩ := hg
    obtain ⟨its, rv, p, hz⟩ := I.tuple hq
    obtain ⟨f0, f1, f2, f3, f4, f5⟩ := hf it (by simp)
    have hl := rv.length
    have c : i = its.toArray.size := by rw [List.size_toArray]; omega
    subst c
    exact wpAny_pyNext_enum_endD (Draws.tuple (A := X.A.in1) (show X.A.in1.handled = none from I.ok.hd hc) it a hai its.toArray) he ⟨hit, p⟩ fun h' eb => ⟨rfl, I.turned (t' := s.toks) (fun b o hb q => eb b o hb q) f0 f1 f3 f4 f5⟩
  self := fun A i s Q E st h => let ⟨⟨_, he⟩, _⟩ := st; wpAny_pyIter_enum he h
def iEnumT (K : PySem.W.Frag) (ta : TA) : TI := fun σ H R => ta σ H fun vs H1 => ∃ a xs, vs = [.ref a] ∧ SqT K H1 a xs ∧ R (Itet K a) H1
theorem pi_enumT {X : Cx} {e : Expr} {ta : TA} {p pos tpos : Pos} {elts : List Expr} {kk : Nat} (hg : Gl X "enumerate") (hm : X.mg "enumerate" = none) (ha : PA X [e] ta) (hs : starEach [e] X.env = [(false, eval e X.env)] := by rfl) :
    PI X (.Tuple elts kk tpos) (.Call (.Name "enumerate" p) [e] [] pos) (iEnumT X.K ta) := by
  refine ⟨fun pins s σ H R I h => ?_⟩
  refine Call_ (ld_blt I hg hm boot_enumerate (PyProof.Rows.callWith_type1 (thn (ha.run pos pins s σ H _ I h) fun us s1 ⟨vs, H1, I1, r1, q1⟩ => ?_) hs rfl))
  obtain ⟨a, xs, ex, hq, q⟩ := q1
  subst ex
  cases r1 with
  | cons r rr =>
    cases rr
    cases r
    obtain ⟨its, rv, p', hz⟩ := I1.tuple hq
    have hal : a < s1.heap.objs.size := by obtain ⟨_, q, _⟩ := p'; exact Heap.lt_size q
    refine call_enumerate_tp (show s1.heap.IsTuple a its.toArray from p') fun h' he hit hsz hk => wpAny_pyIter_enum he ?_
    have I2 : Inv X pins σ H1 { s1 with heap := h' } := I1.kept (t' := s1.toks) hk
    refine ⟨s1.heap.objs.size + 1, [s1.heap.objs.size + 1, s1.heap.objs.size], _, _, H1, rfl, I2, turn_enumT a (s1.heap.objs.size + 1) s1.heap.objs.size (Nat.ne_of_lt hal) (Nat.ne_of_gt (Nat.lt_succ_of_lt hal)), ⟨⟨.none, he⟩, hit, Nat.succ_ne_self _⟩, fun b hb => ?_, q⟩
    have e' : b = s1.heap.objs.size + 1 ∨ b = s1.heap.objs.size := by simpa using hb
    have hle : s1.heap.objs.size ≤ b := by
      rcases e' with z | z
      · rw [z]; exact Nat.le_add_right _ _
      · rw [z]; exact Nat.le_refl _
    exact I1.fpOk hle (I1.hok.fresh hle)
theorem walk_enumT {K : PySem.W.Frag} {a : Addr} {xs : List V} : Walk (Itet K a) xs.length (fun H => SqT K H a xs) (YPair (fun i => some (.int (i : Nat))) (fun i => xs[i]?)) := by
  refine ⟨fun i _ hi q => ⟨xs, xs[i], q, by simp [hi]⟩, fun _ q => ⟨xs, q, rfl⟩, fun i H v H' _ q y => ?_⟩
  obtain ⟨T, x, h1, h2, h3, h4⟩ := y
  exact ⟨T, .int (i : Nat), x, h1, h2, h3, rfl, h4 xs q⟩
end L2

namespace TP
open PySem PySem.Spec PyProof.Rows L2
/-- the state that draws go through -/
def StAt (H : Hp) (a : Addr) : Prop := ∃ x y z : Int, H a = some (.lst [.int x, .int y, .int z]) ∧ 0 ≤ x ∧ 0 ≤ y ∧ y < 2147483640 ∧ 0 ≤ z
/-- only the state at a has moved -/
structure Mv [TabL] (a : Addr) (H H' : Hp) : Prop where
  st : StAt H' a
  go : ∀ b o, b ≠ a → H b = some o → isTbl o = false → H' b = some o
  ne : ∀ b, H b ≠ none → H' b ≠ none
  tab : ∀ b q, TabL.R b q → LamX.TabS H b q → LamX.TabS H' b q
theorem Mv.ex [TabL] {a H H'} (x : Mv a H H') (b : Addr) (o : HO) [z : NT o] (n : b ≠ a) (h : H b = some o) : H' b = some o := x.go b o n h z.h
theorem Mv.trans [TabL] {a H H1 H2} (x : Mv a H H1) (y : Mv a H1 H2) : Mv a H H2 := ⟨y.st, fun b o n h z => y.go b o n (x.go b o n h z) z, fun b h => y.ne b (x.ne b h), fun b q r h => y.tab b q r (x.tab b q r h)⟩
theorem Mv.refl [TabL] {a H} (h : StAt H a) : Mv a H H := ⟨h, fun _ _ _ z _ => z, fun _ z => z, fun _ _ _ z => z⟩
theorem Mv.of_ex [TabL] {a H H'} (e : Ex H H') (h : StAt H a) : Mv a H H' := ⟨let ⟨x, y, z, hx, r⟩ := h; ⟨x, y, z, e a _ hx, r⟩, fun b o _ h z => e.go b o h z, e.ne, e.tab⟩
/-- the state itself is written -/
theorem Mv.put [TabL] {a H} (h : StAt H a) (x y z : Int) (x0 : 0 ≤ x) (y0 : 0 ≤ y) (y1 : y < 2147483640) (z0 : 0 ≤ z) : Mv a H (upd H a (.lst [.int x, .int y, .int z])) := by
  obtain ⟨u, v, w, hx, _⟩ := h
  refine ⟨⟨x, y, z, upd_same, x0, y0, y1, z0⟩, fun b o n e _ => by rw [upd_ne n]; exact e, fun b e => ?_, fun b q _ t => tab_upd t fun w hw => by rw [hx] at hw; cases hw; rfl⟩
  by_cases c : b = a
  · rw [c, upd_same]; exact fun z => nomatch z
  · rw [upd_ne c]; exact e
/-- what is new since H may change -/
theorem Mv.mut [TabL] {a H H1 p o u} (x : Mv a H H1) (ha : H a ≠ none) (hp : H p = none) (hu : H1 p = some u) (pl : isPl u = true := by rfl) : Mv a H (upd H1 p o) := by
  have npa : a ≠ p := fun z => ha (by rw [z]; exact hp)
  obtain ⟨c, y, z, hx, r⟩ := x.st
  exact ⟨⟨c, y, z, by rw [upd_ne npa]; exact hx, r⟩, fun b w n e z => by rw [upd_ne (ne_of_none e hp)]; exact x.go b w n e z, fun b e => by rw [upd_ne (fun z => e (by rw [z]; exact hp))]; exact x.ne b e, fun b q r t => tab_upd (x.tab b q r t) fun w hw => by rw [hu] at hw; cases hw; exact pl⟩
theorem Mv.new [TabL] {a H H1 p o} (x : Mv a H H1) (hp : H1 p = none) : Mv a H (upd H1 p o) := by
  exact x.trans (.of_ex (Ex.new hp) x.st)
theorem Mv.free [TabL] {a H H1 p} (x : Mv a H H1) (ha : H a ≠ none) (hp : H1 p = none) : H p = none := by
  cases e : H p with
  | none => rfl
  | some o => exact absurd hp (x.ne p (by rw [e]; exact fun z => nomatch z))
theorem StAt.ne {H a} (h : StAt H a) : H a ≠ none := by
  obtain ⟨u, y, w, h, _⟩ := h
  rw [h]
  exact fun z => nomatch z
theorem Dc.mv [TabL] {S G H H' n v d a} (x : Mv a H H') (hS : ¬ S a) (h : Dc S G H n v d) : Dc S G H' n v d := Dc.mono (fun _ z => z) (fun b u s y r => x.go b u (fun z => hS (by rw [← z]; exact s)) r y) (Nat.le_refl _) h
theorem Mem.mv [TabL] {S G H H' n ms f a} (x : Mv a H H') (hS : ¬ S a) (h : Mem S G H n ms f) : Mem S G H' n ms f := ⟨h.nd, h.ks, h.no, fun k u z => (h.at' k u z).mv x hS⟩
/-- new since H, and away from one address -/
abbrev Sl (H : Hp) : Addr → Prop := fun x => H x = none ∧ x ≠ sysModules
section
variable [TabL]
def spState : Sp := fun vs H Q _ => ∃ n : Int, vs = [.int n] ∧ ∀ p H', H p = none → Ex H H' → StAt H' p → (∀ b, b ≠ p → H b = none → H' b = none) → Q (.ref p) H'
def spDigit : Sp := fun vs H Q _ => ∃ (a : Addr) (b : Int), vs = [.ref a, .int b] ∧ StAt H a ∧ 0 < b ∧ b < 1000 ∧ ∀ (d : Int) H', 0 ≤ d → d < b → Mv a H H' → (∀ c, c ≠ a → H' c = H c) → Q (.int d) H'
end
theorem mem_cutV {xs : List V} {lo hi : Option Int} {x : V} (h : x ∈ cutV xs lo hi) : x ∈ xs := List.mem_of_mem_drop (List.mem_of_mem_take h)
theorem mv_ex [TabL] {a H0 H H'} (e : Ex H0 H) (ha : H0 a = none) (m : Mv a H H') : Ex H0 H' := ⟨fun b o h z => m.go b o (ne_of_none h ha) (e.go b o h z) z, fun b h => m.ne b (e.ne b h), fun b q r h => m.tab b q r (e.tab b q r h)⟩
theorem rd_two {H : Hp} {a : Addr} {u u' : HO} (h : Rd H a u) (h' : Rd H a u') (n : ∀ o w, u ≠ .frz o w) (n' : ∀ o w, u' ≠ .frz o w) : u = u' := by
  rcases h with h | ⟨o, h⟩ <;> rcases h' with h' | ⟨o', h'⟩
  · rw [h] at h'; injection h'
  · rw [h] at h'; injection h' with h'; exact absurd h' (n _ _)
  · rw [h] at h'; injection h' with h'; exact absurd h'.symm (n' _ _)
  · rw [h] at h'; injection h' with h'; injection h'
theorem inK_inj : ∀ {ms ms' : List (Str × V)}, kvsOf ms = kvsOf ms' → ms = ms'
  | [], [], _ => rfl
  | [], _ :: _, h => by cases h
  | _ :: _, [], h => by cases h
  | (k, v) :: ms, (k', v') :: ms', h => by
    injection h with h1 h2
    injection h1 with h3 h4
    injection h3 with h3
    have h3 : k = k' := h3
    have h4 : v = v' := h4
    rw [h3, h4, inK_inj h2]
mutual
theorem Pd.det {H : Hp} : ∀ {v : V} {d d' : PyData}, Pd H v d → Pd H v d' → d = d'
  | _, _, _, .non, h => by cases h; rfl
  | _, _, _, .int i, h => by cases h; rfl
  | _, _, _, .str x, h => by cases h; rfl
  | _, _, _, .lst n r a, h => by
    cases h with
    | lst n' r' a' =>
      have z := rd_two r r' (fun _ _ z => nomatch z) (fun _ _ z => nomatch z)
      injection z with z
      subst z
      rw [PdAll.det a a']
    | tup r' a' => exact nomatch rd_two r r' (fun _ _ z => nomatch z) (fun _ _ z => nomatch z)
    | dct r' a' => exact nomatch rd_two r r' (fun _ _ z => nomatch z) (fun _ _ z => nomatch z)
  | _, _, _, .tup r a, h => by
    cases h with
    | lst n' r' a' => exact nomatch rd_two r r' (fun _ _ z => nomatch z) (fun _ _ z => nomatch z)
    | tup r' a' =>
      have z := rd_two r r' (fun _ _ z => nomatch z) (fun _ _ z => nomatch z)
      injection z with z
      subst z
      rw [PdAll.det a a']
    | dct r' a' => exact nomatch rd_two r r' (fun _ _ z => nomatch z) (fun _ _ z => nomatch z)
  | _, _, _, .dct r a, h => by
    cases h with
    | lst n' r' a' => exact nomatch rd_two r r' (fun _ _ z => nomatch z) (fun _ _ z => nomatch z)
    | tup r' a' => exact nomatch rd_two r r' (fun _ _ z => nomatch z) (fun _ _ z => nomatch z)
    | dct r' a' =>
      have z := rd_two r r' (fun _ _ z => nomatch z) (fun _ _ z => nomatch z)
      injection z with z
      have z := inK_inj z
      subst z
      rw [PdAll.det a a']
theorem PdAll.det {H : Hp} : ∀ {vs : List V} {ds ds' : List PyData}, PdAll H vs ds → PdAll H vs ds' → ds = ds'
  | _, _, _, .nil, h => by cases h; rfl
  | _, _, _, .cons a b, h => by
    cases h with
    | cons a' b' => rw [Pd.det a a', PdAll.det b b']
end
/-- ps: new pairs (key, value), one for each member -/
abbrev PairsAt (H : Hp) : List Addr → List (Str × V) → Prop := Paired fun p m => H p = some (.tup [.str m.1, m.2])
theorem PairsAt.ex [TabL] {H H' ps ms} (e : Ex H H') (h : PairsAt H ps ms) : PairsAt H' ps ms := Paired.mapP h fun p m z => e p _ z
theorem PairsAt.toK {K : PySem.W.Frag} {H : Hp} {ps : List Addr} {ms : List (Str × V)} (h : PairsAt H ps ms) : Paired (fun p (kv : Key × V) => SqT K H p [kV kv.1, kv.2]) ps (kvsOf ms) := by
  induction h with
  | nil => exact .nil
  | cons a _ ih => exact .cons (.inl (.inl a)) ih
/-- one more pair -/
theorem PairsAt.more [TabL] {H H' : Hp} {ps ms p m} (h : PairsAt H ps ms) (e : Ex H H') (hp : H' p = some (.tup [.str m.1, m.2])) : PairsAt H' (ps ++ [p]) (ms ++ [m]) := Paired.snoc (h.ex e) hp

/-! ### the documents of the family -/
def cC : List V := [.non, .int 0, .int 1, .int 2, .int 3, .int 5, .int (-5), .int 77, .int 78, .str "x", .str "", .str "0", .str "1", .str "2"]
def gC : Gen where
  KS := ["a", "b", "c", "keep", "drop", "a.b", "zz"]
  C := fun v => decide (v ∈ cC)
  L := 2
  sc := fun v h => by
    have h := of_decide_eq_true h
    simp only [cC, List.mem_cons, List.not_mem_nil, or_false] at h
    rcases h with rfl | rfl | rfl | rfl | rfl | rfl | rfl | rfl | rfl | rfl | rfl | rfl | rfl | rfl <;> rfl
def pB : Nat → Nat
  | 0 => 1
  | n + 1 => 1 + 3 * pB n
theorem pB_pos : ∀ n, 1 ≤ pB n
  | 0 => Nat.le_refl _
  | n + 1 => by show 1 ≤ 1 + 3 * pB n; omega
structure Dn (S : Addr → Prop) (H : Hp) (n p q : Nat) (v : V) (d : D) : Prop where
  dc : Dc S gC H n v d
  pd : PD d p
  dd : DD d q
theorem Dn.imp {S S' : Addr → Prop} {H n p q v d} (h : Dn S H n p q v d) (z : ∀ x, S x → S' x) : Dn S' H n p q v d := ⟨h.dc.imp z, h.pd, h.dd⟩
theorem Dn.mv [TabL] {S a H H' n p q v d} (x : Mv a H H') (hS : ¬ S a) (h : Dn S H n p q v d) : Dn S H' n p q v d := ⟨h.dc.mv x hS, h.pd, h.dd⟩
theorem ScrAt.sqL {K : PySem.W.Frag} {H : Hp} {a : Addr} {xs : List V} (h : ScrAt K H a xs) : SqL K H a xs := by
  obtain ⟨its, r, l, z | z⟩ := h
  · exact .inr ⟨_, its.toArray, _, z, rfl, rfl, rfl, by rw [List.size_toArray, ← r.length]; exact Nat.le_trans l (by decide), by simpa using r⟩
  · exact .inl (.inr ⟨_, z⟩)
end TP

namespace TP
open PySem PySem.Spec PyProof.Rows L2
abbrev sCell : Stmt := topS 19
abbrev sRng : Stmt := topS 20
abbrev sDraw : Stmt := topS 21
abbrev sPick : Stmt := topS 22
abbrev nCell : List Str := ["_law_script", "_law_index"]
theorem scCell : FnScope nCell ["_law_script", "_law_index"] (defScope sCell) := ⟨rfl, rfl, rfl, by decide +kernel, rfl, by decide +kernel, by decide +kernel⟩
abbrev nRng : List Str := ["_law_cell_here"]
theorem scRng : FnScope nRng ["_law_cell_here"] (defScope sRng) := ⟨rfl, rfl, rfl, by decide +kernel, rfl, by decide +kernel, by decide +kernel⟩
abbrev nDraw : List Str := ["_law_rng_here", "_law_limit", "_law_digit", "_law_mixed"]
theorem scDraw : FnScope nDraw ["_law_rng_here", "_law_limit"] (defScope sDraw) := ⟨rfl, rfl, rfl, by decide +kernel, rfl, by decide +kernel, by decide +kernel⟩
abbrev nPick : List Str := ["_law_rng_here", "_law_items"]
theorem scPick : FnScope nPick ["_law_rng_here", "_law_items"] (defScope sPick) := ⟨rfl, rfl, rfl, by decide +kernel, rfl, by decide +kernel, by decide +kernel⟩
def spCell (K : PySem.W.Frag) : Sp := fun vs H Q _ => ∃ (a : Addr) (ns : List Int), vs = [.ref a, .int 0] ∧ ScrAt K H a (ns.map V.int) ∧ ∀ z, Q (.int z) H
def spPick [TabL] : Sp := fun vs H Q _ => ∃ (s a : Addr) (xs : List V), vs = [.ref s, .ref a] ∧ StAt H s ∧ a ≠ s ∧ H a = some (.lst xs) ∧ 0 < xs.length ∧ xs.length < 1000 ∧ ∀ x ∈ xs, ∀ H', Mv s H H' → Q x H'
section
variable [TabL] {P : Program} {w : World} {K : PySem.W.Frag} {mg : Str → Option Value} {base : Heap}
theorem ok_cell {f : Addr} {fd : FuncData} (T : Bi mg) (Dd : Df K mg "_law_cell" sCell ["_law_script", "_law_index"] f fd) : FnOk P w K mg base CX0 1 f fd ["_law_script", "_law_index"] (spCell K) := by
  refine Dd.F.ok scCell (fun vs H Q E h => ?_) (fun cdv A outer s H vs Q E hr h => ?_)
  · obtain ⟨a, ns, rfl, _⟩ := h
    rfl
  obtain ⟨a, ns, rfl, hs, k⟩ := h
  refine ⟨_, (pss_cons (ps_if (pt_cmpR op_lt (pv 1) (pe_callB call_len_seq (by rfl) (T.of "len") (by decide +kernel) (pa_cons (pv 0) pa_nil)) (nomark _)) (pss_one (ps_ret (pe_ix ix_list (pv 0) (pv 1) (fun _ _ => rfl)))) pss_nil)
    (pss_one (ps_ret pe_int))), ?_⟩
  refine ⟨.int 0, rfl, .ref a, rfl, a, _, rfl, .inl hs.sqL, _, _, rfl, rfl, _, rfl, ?_⟩
  refine ite2 (fun c => ?_) fun c => k 0
  cases ns with
  | nil =>
    have c : (0 : Int) < ((([] : List Int).map V.int).length : Int) := of_decide_eq_true c
    exact absurd c (by simp)
  | cons z ns => exact ⟨.ref a, rfl, .int 0, rfl, a, _, 0, _, rfl, rfl, hs.sqL, atI_nat (j := 0) rfl, k z⟩
theorem ok_rng {f : Addr} {fd : FuncData} (T : Bi mg) (Dd : Df K mg "_law_rng" sRng ["_law_cell_here"] f fd) : FnOk P w K mg base CX0 1 f fd ["_law_cell_here"] spState := by
  refine Dd.F.ok scRng (fun vs H Q E h => ?_) (fun cdv A outer s H vs Q E hr h => ?_)
  · obtain ⟨n, rfl, _⟩ := h
    rfl
  obtain ⟨n, rfl, k⟩ := h
  refine ⟨_, (pss_one (ps_ret (pe_lst (pa_cons (pe_callB call_abs (by rfl) (T.of "abs") (by decide +kernel) (pa_cons (pv 0) pa_nil)) (pa_cons (pe_op op_mod (pv 0) pe_int) (pa_cons pe_int pa_nil)))))), ?_⟩
  refine ⟨_, rfl, n, rfl, ?_⟩
  have h0 : 0 ≤ (if n < 0 then -n else n) := by split <;> omega
  generalize (if n < 0 then -n else n) = m at h0
  refine ⟨_, rfl, _, _, rfl, rfl, (by show (0 : Int) < 2147483629; decide), (by show 3 ≤ sizeLine; decide), fun p hp => ?_⟩
  refine k p _ hp (Ex.new hp) ⟨_, _, _, upd_same, h0, Int.emod_nonneg n (by decide), ?_, by decide⟩ fun b nb hb => by rw [upd_ne nb]; exact hb
  have := Int.emod_lt_of_pos n (show (0 : Int) < 2147483629 by decide)
  omega
theorem ok_cdraw {f : Addr} {fd : FuncData} (T : Bi mg) (Dd : Df K mg "_law_draw" sDraw ["_law_rng_here", "_law_limit"] f fd) : FnOk P w K mg base CX0 1 f fd ["_law_rng_here", "_law_limit"] spDigit := by
  refine Dd.F.ok scDraw (fun vs H Q E h => ?_) (fun cdv A outer s H vs Q E hr h => ?_)
  · obtain ⟨a, b, rfl, _⟩ := h
    rfl
  obtain ⟨a, b, rfl, ⟨x, y, z, ha, x0, y0, y1, z0⟩, b0, b1, k⟩ := h
  refine ⟨_, (pss_cons (ps_if (pt_cmpR op_ge (pe_ix ix_list (pv 0) pe_int (fun _ _ => rfl)) (pe_op op_pow pe_int pe_int) (nomark _)) (pss_cons (ps_set (i := 2) scDraw.nd rfl (Or.inl rfl) (pe_op op_mod (pe_ix ix_list (pv 0) pe_int (fun _ _ => rfl)) (pv 1)))
      (pss_cons (ps_asg (pe_op op_fdiv (pe_ix ix_list (pv 0) pe_int (fun _ _ => rfl)) (pv 1)) (pg_sub (pv 0) pe_int set_list))
      (pss_one (ps_ret (pv 2))))) pss_nil)
    (pss_cons (ps_asg (pe_op op_add (pe_ix ix_list (pv 0) pe_int (fun _ _ => rfl)) pe_int) (pg_sub (pv 0) pe_int set_list))
    (pss_cons (ps_set (i := 3) scDraw.nd rfl (Or.inl rfl) (pe_op op_mod (pe_op op_mul (pe_op op_add (pe_op op_add (pe_ix ix_list (pv 0) pe_int (fun _ _ => rfl)) (pe_op op_mul pe_int (pe_ix ix_list (pv 0) pe_int (fun _ _ => rfl)))) pe_int) pe_int) pe_int))
    (pss_cons (ps_set (i := 3) scDraw.nd rfl (Or.inl rfl) (pe_op op_mod (pe_op op_mul (pv 3) (pe_op op_add (pe_op op_fdiv (pv 3) pe_int) pe_int)) pe_int))
    (pss_one (ps_ret (pe_op op_mod (pe_op op_mod (pe_op op_add (pe_op op_fdiv (pv 3) pe_int) (pe_op op_mul (pe_op op_mod (pv 3) pe_int) pe_int)) pe_int) (pv 1)))))))), ?_⟩
  have L : SqL K H a [.int x, .int y, .int z] := .inl (.inl ha)
  refine ⟨.ref a, rfl, a, _, 0, _, rfl, rfl, L, atI_nat (j := 0) rfl, _, _, rfl, rfl, ⟨by decide, by decide, by decide⟩, _, _, rfl, rfl, _, rfl, ?_⟩
  refine ite2 (fun c => ?_) fun c => ?_
  · have c : (10 : Int) ^ (18 : Int).toNat ≤ x := of_decide_eq_true c
    refine ⟨.ref a, rfl, a, _, 0, _, rfl, rfl, L, atI_nat (j := 0) rfl, _, rfl, _, _, rfl, rfl, b0, ?_⟩
    refine ⟨.ref a, rfl, a, _, 0, _, rfl, rfl, L, atI_nat (j := 0) rfl, _, rfl, _, _, rfl, rfl, ⟨b0, by omega⟩, .ref a, rfl, a, _, 0, 0, rfl, rfl, ha, rfl, ?_⟩
    refine ⟨_, rfl, ?_⟩
    exact k _ _ (Int.emod_nonneg x (by omega)) (Int.emod_lt_of_pos x b0) (Mv.put ⟨x, y, z, ha, x0, y0, y1, z0⟩ (x / b) y z (Int.ediv_nonneg x0 (by omega)) y0 y1 z0) fun c n => upd_ne n
  · refine ⟨.ref a, rfl, a, _, 2, _, rfl, rfl, L, atI_nat (j := 2) rfl, _, _, rfl, rfl, .ref a, rfl, a, _, 2, 2, rfl, rfl, ha, rfl, ?_⟩
    have P0 := Mv.put (a := a) (H := H) ⟨x, y, z, ha, x0, y0, y1, z0⟩ x y (z + 1) x0 y0 y1 (by omega)
    have L2 : SqL K (upd H a (.lst [.int x, .int y, .int (z + 1)])) a [.int x, .int y, .int (z + 1)] := .inl (.inl upd_same)
    refine ⟨.ref a, rfl, a, _, 1, _, rfl, rfl, L2, atI_nat (j := 1) rfl, .ref a, rfl, a, _, 2, _, rfl, rfl, L2, atI_nat (j := 2) rfl, _, _, rfl, rfl, .inl ⟨by decide, by decide⟩, _, _, rfl, rfl, _, _, rfl, rfl, _, _, rfl, rfl, .inr ⟨by decide, by decide⟩, _, _, rfl, rfl, (by show (0 : Int) < 2147483647; decide), ?_⟩
    generalize (y + 7919 * (z + 1) + 1) * 48271 = m
    have h0 := Int.emod_nonneg m (show (2147483647 : Int) ≠ 0 by decide)
    have h1 := Int.emod_lt_of_pos m (show (0 : Int) < 2147483647 by decide)
    generalize m % 2147483647 = q at h0 h1
    refine ⟨_, rfl, _, rfl, _, _, rfl, rfl, ⟨by decide, by decide⟩, _, _, rfl, rfl, _, _, rfl, rfl, .inl ⟨by omega, by omega⟩, _, _, rfl, rfl, (by show (0 : Int) < 2147483587; decide), ?_⟩
    generalize q * (q / 1013 + 69621) = m2
    have h2 := Int.emod_nonneg m2 (show (2147483587 : Int) ≠ 0 by decide)
    have h3 := Int.emod_lt_of_pos m2 (show (0 : Int) < 2147483587 by decide)
    generalize m2 % 2147483587 = q2 at h2 h3
    refine ⟨_, rfl, _, _, rfl, rfl, ⟨by decide, by decide⟩, _, rfl, _, _, rfl, rfl, (by show (0 : Int) < 7919; decide), _, _, rfl, rfl, .inr ⟨by decide, by decide⟩, _, _, rfl, rfl, _, _, rfl, rfl, (by show (0 : Int) < 2147483399; decide), _, rfl, _, _, rfl, rfl, b0, ?_⟩
    exact k _ _ (Int.emod_nonneg _ (by omega)) (Int.emod_lt_of_pos _ b0) P0 fun c n => upd_ne n
theorem ok_pick {f fg : Addr} {fd dg : FuncData} {k : Nat} (T : Bi mg) (Dd : Df K mg "_law_pick" sPick ["_law_rng_here", "_law_items"] f fd) (Dg : Df K mg "_law_draw" sDraw ["_law_rng_here", "_law_limit"] fg dg)
    (gG : FnOk P w K mg base CX0 k fg dg ["_law_rng_here", "_law_limit"] spDigit) : FnOk P w K mg base CX0 (k + 1) f fd ["_law_rng_here", "_law_items"] spPick := by
  refine Dd.F.ok scPick (fun vs H Q E h => ?_) (fun cdv A outer s H vs Q E hr h => ?_)
  · obtain ⟨s, a, xs, rfl, _⟩ := h
    rfl
  obtain ⟨s, a, xs, rfl, st, ne, ha, l0, l1, k⟩ := h
  refine ⟨_, (pss_one (ps_ret (pe_ix ix_list (pv 1) (pe_call gG hr rfl Dg.m Dg.F.kp Dg.b .nil pass0 (pa_cons (pv 0) (pa_cons (pe_callB call_len_seq (by rfl) (T.of "len") (by decide +kernel) (pa_cons (pv 1) pa_nil)) pa_nil))) (fun _ _ => rfl)))), ?_⟩
  refine ⟨.ref a, rfl, .ref s, rfl, .ref a, rfl, a, _, rfl, .inl (.inl (.inl ha)), s, _, rfl, st, by omega, by omega, fun d H1 d0 d1 m1 _ => ?_⟩
  have ha1 := m1.ex _ _ ne ha
  have hj : d.toNat < xs.length := by omega
  refine ⟨a, xs, d, xs[d.toNat], rfl, rfl, .inl (.inl ha1), ?_, k _ (List.getElem_mem hj) H1 m1⟩
  have := atI_nat (j := d.toNat) (v := xs[d.toNat]) (xs := xs) (List.getElem?_eq_getElem hj)
  rwa [show ((d.toNat : Nat) : Int) = d by omega] at this
end
end TP

namespace TP
open PySem PySem.Spec PyProof.Rows L2
abbrev sRPatch : Stmt := topS 23
/-! ### _law_random_patch -/
structure KeysAt (s : Addr) (H : Hp) (a : Addr) (ks : List Str) : Prop where
  ne : a ≠ s
  at' : H a = some (.lst (ks.map V.str))
  ok : ∀ k ∈ ks, k ∈ gC.KS
  len : ks.length ≤ 3
theorem KeysAt.mv [TabL] {s H H' a ks} (m : Mv s H H') (h : KeysAt s H a ks) : KeysAt s H' a ks := ⟨h.ne, m.ex _ _ h.ne h.at', h.ok, h.len⟩
def spRPatch [TabL] (n : Nat) : Sp := fun vs H Q _ => ∃ (s a : Addr) (ks : List Str), vs = [.ref s, .ref a, .int n] ∧ StAt H s ∧ KeysAt s H a ks ∧ ∀ v d H', Mv s H H' → Dn (Nw H) H' (n + 1) (pB n) n v d → Q v H'
abbrev nRPatch : List Str := ["_law_rng_here", "_law_keys", "_law_depth", "_law_atom", "_law_result", "_law_key", "_law_way"]
theorem scRPatch : FnScope nRPatch ["_law_rng_here", "_law_keys", "_law_depth"] (defScope sRPatch) := ⟨rfl, rfl, rfl, by decide +kernel, rfl, by decide +kernel, by decide +kernel⟩
section
variable [TabL] {P : Program} {w : World} {K : PySem.W.Frag} {mg : Str → Option Value} {base : Heap}
set_option maxHeartbeats 0 in
theorem ok_rpatch {f fg fp : Addr} {fd dg dp : FuncData} (T : Bi mg) (Dd : Df K mg "_law_random_patch" sRPatch ["_law_rng_here", "_law_keys", "_law_depth"] f fd) (Dg : Df K mg "_law_draw" sDraw ["_law_rng_here", "_law_limit"] fg dg) (Dp : Df K mg "_law_pick" sPick ["_law_rng_here", "_law_items"] fp dp)
    (gG : FnOk P w K mg base CX0 1 fg dg ["_law_rng_here", "_law_limit"] spDigit) (gP : FnOk P w K mg base CX0 2 fp dp ["_law_rng_here", "_law_items"] spPick) : ∀ n, FnOk P w K mg base CX0 (n + 3) f fd ["_law_rng_here", "_law_keys", "_law_depth"] (spRPatch n) := by
  intro n
  have ih : ∃ m, (n ≠ 0 → n = m + 1) ∧ FnOk P w K mg base CX0 (n + 2) f fd ["_law_rng_here", "_law_keys", "_law_depth"] (fun vs H Q E => n ≠ 0 ∧ spRPatch m vs H Q E) := by
    cases n with
    | zero => exact ⟨0, fun z => absurd rfl z, fn_zero fun vs H Q E z => z.1 rfl⟩
    | succ m => exact ⟨m, fun _ => rfl, (ok_rpatch T Dd Dg Dp gG gP m).imp fun vs H Q E z => z.2⟩
  obtain ⟨m', hm', ih⟩ := ih
  have gG := gG.mono (show 1 ≤ n + 2 by omega)
  have gP := gP.mono (show 2 ≤ n + 2 by omega)
  refine Dd.F.ok scRPatch (fun vs H Q E h => ?_) (fun cdv A outer sh H vs Q E hr h => ?_)
  · obtain ⟨s, a, ks, rfl, _⟩ := h
    rfl
  obtain ⟨s, a, ks, rfl, st, kA, k⟩ := h
  have hu := hu_of hr
  refine ⟨_, (pss_cons (ps_if (PW.pt (pw_or (pt_cmpR op_eq (pv 2) pe_int (nomark _)) (pw_or1 (pt_cmpR op_eq (pe_call gG hr rfl Dg.m Dg.F.kp Dg.b .nil pass0 (pa_cons (pv 0) (pa_cons pe_int pa_nil))) pe_int (nomark _))))) (C8.pss_cut (ps_set (i := 3) scRPatch.nd rfl (Or.inl rfl) (pe_call gP hr rfl Dp.m Dp.F.kp Dp.b .nil pass0 (pa_cons (pv 0) (pa_cons (pe_lst (pa_cons pe_int (pa_cons pe_int (pa_cons pe_str (pa_cons (pe_lst (pa_cons pe_int pa_nil)) (pa_cons (pe_lst (pa_cons pe_non (pa_cons pe_str pa_nil))) (pa_cons (pe_lst pa_nil) (pa_cons pe_int (pa_cons pe_str (pa_cons (pe_un un_neg pe_int) pa_nil)))))))))) pa_nil))))
      (pss_one (ps_ret (pe_ifExp (pt_val (pe_callB (id := "isinstance") (r := rIsi K) call_isi (by rfl) (T.of "isinstance") (by decide +kernel) (pa_cons (pv 3) (pa_cons (pe_bltn (v := .ty "list") (by rfl) (T.of "list") (by decide +kernel) rfl) pa_nil)))) (pe_callTy call_list_of (by rfl) (T.of "list") (by decide +kernel) (pa_cons (pv 3) pa_nil)) (pv 3))))) pss_nil)
    (pss_cons (ps_set (i := 4) scRPatch.nd rfl (Or.inl rfl) pe_dnewK)
    (pss_cons (ps_for PassesOwn.never rfl (pi_list (pv 1)) (pg_name (i := 5) scRPatch.nd rfl (Or.inl rfl)) (pss_cons (ps_set (i := 6) scRPatch.nd rfl (Or.inl rfl) (pe_call gG hr rfl Dg.m Dg.F.kp Dg.b .nil pass0 (pa_cons (pv 0) (pa_cons pe_int pa_nil))))
      (pss_one (ps_if (pt_cmpR op_eq (pv 6) pe_int (nomark _)) (pss_one (ps_dput hu (pv 4) (pv 5) pe_non rfl)) (pss_one (ps_if (pt_cmpR op_lt (pv 6) pe_int (nomark _)) (pss_one (ps_dput hu (pv 4) (pv 5) (pe_call ih hr rfl Dd.m Dd.F.kp Dd.b .nil pass0 (pa_cons (pv 0) (pa_cons (pv 1) (pa_cons (pe_op op_sub (pv 2) pe_int) pa_nil)))) rfl)) pss_nil))))))
    (pss_one (ps_ret (pv 4)))))), ?_⟩
  refine ⟨_, rfl, rfl, _, rfl, ite2 (fun c1 => iteT ?_) fun c1 => ⟨.ref s, rfl, s, 5, rfl, st, by decide, by decide, fun w0 H1 _ _ m1 _ => ⟨rfl, _, rfl, ite2 (fun c2 => ?_) fun c2 => ?_⟩⟩⟩
  · skip
    refine ⟨fun σ' H' => ∃ v d, σ' = [some (.ref s), some (.ref a), some (.int n), some v, none, none, none] ∧ Mv s H H' ∧ Dn (Nw H) H' 1 1 0 v d, ?_, ?_⟩
    · refine ⟨.ref s, rfl, (by show 1 ≤ sizeLine; decide), fun p1 h1 => ⟨(by show 2 ≤ sizeLine; decide), fun p2 h2 => ⟨(by show 0 ≤ sizeLine; decide), fun p3 h3 => ⟨_, rfl, (by show 9 ≤ sizeLine; decide), fun p4 h4 => ?_⟩⟩⟩⟩
      have mA := Mv.refl st
      have f1 : H p1 = none := mA.free st.ne h1
      have m1 := mA.new (o := .lst [.int 1]) h1
      have l1 : (upd H p1 (.lst [.int 1])) p1 = some (.lst [.int 1]) := upd_same
      generalize (upd H p1 (.lst [.int 1])) = G1 at m1 l1 h2 h3 h4 ⊢
      have f2 : H p2 = none := m1.free st.ne h2
      have x2 : Ex G1 (upd G1 p2 (.lst [.non, .str "x"])) := Ex.new h2
      have l2 : (upd G1 p2 (.lst [.non, .str "x"])) p2 = some (.lst [.non, .str "x"]) := upd_same
      have m2 := m1.new (o := .lst [.non, .str "x"]) h2
      generalize (upd G1 p2 (.lst [.non, .str "x"])) = G2 at x2 m2 l2 h3 h4 ⊢
      have f3 : H p3 = none := m2.free st.ne h3
      have x3 : Ex G2 (upd G2 p3 (.lst [])) := Ex.new h3
      have l3 : (upd G2 p3 (.lst [])) p3 = some (.lst []) := upd_same
      have m3 := m2.new (o := .lst []) h3
      generalize (upd G2 p3 (.lst [])) = G3 at x3 m3 l3 h4 ⊢
      have n4 : p4 ≠ s := fun z => m3.st.ne (by rw [← z]; exact h4)
      have x4 : Ex G3 (upd G3 p4 (.lst [.int 1, .int 2, .str "x", .ref p1, .ref p2, .ref p3, .int 0, .str "", .int (-5)])) := Ex.new h4
      have l4 : (upd G3 p4 (.lst [.int 1, .int 2, .str "x", .ref p1, .ref p2, .ref p3, .int 0, .str "", .int (-5)])) p4 = some (.lst [.int 1, .int 2, .str "x", .ref p1, .ref p2, .ref p3, .int 0, .str "", .int (-5)]) := upd_same
      have m4 := m3.new (o := .lst [.int 1, .int 2, .str "x", .ref p1, .ref p2, .ref p3, .int 0, .str "", .int (-5)]) h4
      generalize (upd G3 p4 (.lst [.int 1, .int 2, .str "x", .ref p1, .ref p2, .ref p3, .int 0, .str "", .int (-5)])) = G4 at x4 m4 l4 ⊢
      refine ⟨s, p4, _, rfl, m4.st, n4, l4, (by show 0 < 9; decide), (by show 9 < 1000; decide), fun x hx H' m5 => ?_⟩
      have m := m4.trans m5
      have ne : ∀ {p : Addr}, H p = none → p ≠ s := fun {p} hp z => st.ne (by rw [← z]; exact hp)
      have q1 := m5.ex _ _ (ne f1) ((x2.trans (x3.trans x4)) _ _ l1)
      have q2 := m5.ex _ _ (ne f2) ((x3.trans x4) _ _ l2)
      have q3 := m5.ex _ _ (ne f3) (x4 _ _ l3)
      have sc : ∀ v : V, gC.C v = true → Dn (Nw H) H' 1 1 0 v (.sc v) := fun v hv => ⟨Dc.sc hv, Nat.le_refl _, trivial⟩
      have ls : ∀ (p : Addr) (xs : List V), H p = none → H' p = some (.lst xs) → (xs.length ≤ 2 ∧ ∀ x ∈ xs, gC.C x = true) → Dn (Nw H) H' 1 1 0 (.ref p) (.ls xs) := fun p xs hp hl hx => ⟨Dc.ls hp hl hx, Nat.le_refl _, trivial⟩
      simp only [List.mem_cons, List.not_mem_nil, or_false] at hx
      rcases hx with rfl | rfl | rfl | rfl | rfl | rfl | rfl | rfl | rfl
      · exact ⟨_, _, rfl, m, sc _ (by decide +kernel)⟩
      · exact ⟨_, _, rfl, m, sc _ (by decide +kernel)⟩
      · exact ⟨_, _, rfl, m, sc _ (by decide +kernel)⟩
      · exact ⟨_, _, rfl, m, ls p1 _ f1 q1 (by decide +kernel)⟩
      · exact ⟨_, _, rfl, m, ls p2 _ f2 q2 (by decide +kernel)⟩
      · exact ⟨_, _, rfl, m, ls p3 _ f3 q3 (by decide +kernel)⟩
      · exact ⟨_, _, rfl, m, sc _ (by decide +kernel)⟩
      · exact ⟨_, _, rfl, m, sc _ (by decide +kernel)⟩
      · exact ⟨_, _, rfl, m, sc _ (by decide +kernel)⟩
    rintro _ H2 ⟨v, d, rfl, m2, dn⟩
    obtain ⟨t2, ty2, kit2⟩ := isiL K dn.dc
    refine ⟨v, rfl, v, .ty "list", t2, _, _, rfl, .ty _, ty2, kit2, _, rfl, ?_⟩
    refine dn.dc.cases (fun m e hs ed => ?_) (fun m b xs e ev hS r hx ed => ?_) (fun m b ms g e ev hS r M ed => ?_)
    · subst ed
      exact iteF ⟨v, rfl, k v _ H2 m2 ⟨Dc.sc hs, pB_pos n, trivial⟩⟩
    · subst ed; subst ev
      exact iteT ⟨_, rfl, b, xs, rfl, .inl (.inl (.inl r)), fun l hl => k _ (.ls xs) _ (m2.new hl) ⟨Dc.ls (m2.free st.ne hl) upd_same hx, pB_pos n, trivial⟩⟩
    · subst ed
      exact absurd dn.dd.1 (by omega)
  · skip
    refine ⟨fun σ' H' => ∃ v d, σ' = [some (.ref s), some (.ref a), some (.int n), some v, none, none, none] ∧ Mv s H H' ∧ Dn (Nw H) H' 1 1 0 v d, ?_, ?_⟩
    · refine ⟨.ref s, rfl, (by show 1 ≤ sizeLine; decide), fun p1 h1 => ⟨(by show 2 ≤ sizeLine; decide), fun p2 h2 => ⟨(by show 0 ≤ sizeLine; decide), fun p3 h3 => ⟨_, rfl, (by show 9 ≤ sizeLine; decide), fun p4 h4 => ?_⟩⟩⟩⟩
      have mA := m1
      have f1 : H p1 = none := mA.free st.ne h1
      have m1 := mA.new (o := .lst [.int 1]) h1
      have l1 : (upd H1 p1 (.lst [.int 1])) p1 = some (.lst [.int 1]) := upd_same
      generalize (upd H1 p1 (.lst [.int 1])) = G1 at m1 l1 h2 h3 h4 ⊢
      have f2 : H p2 = none := m1.free st.ne h2
      have x2 : Ex G1 (upd G1 p2 (.lst [.non, .str "x"])) := Ex.new h2
      have l2 : (upd G1 p2 (.lst [.non, .str "x"])) p2 = some (.lst [.non, .str "x"]) := upd_same
      have m2 := m1.new (o := .lst [.non, .str "x"]) h2
      generalize (upd G1 p2 (.lst [.non, .str "x"])) = G2 at x2 m2 l2 h3 h4 ⊢
      have f3 : H p3 = none := m2.free st.ne h3
      have x3 : Ex G2 (upd G2 p3 (.lst [])) := Ex.new h3
      have l3 : (upd G2 p3 (.lst [])) p3 = some (.lst []) := upd_same
      have m3 := m2.new (o := .lst []) h3
      generalize (upd G2 p3 (.lst [])) = G3 at x3 m3 l3 h4 ⊢
      have n4 : p4 ≠ s := fun z => m3.st.ne (by rw [← z]; exact h4)
      have x4 : Ex G3 (upd G3 p4 (.lst [.int 1, .int 2, .str "x", .ref p1, .ref p2, .ref p3, .int 0, .str "", .int (-5)])) := Ex.new h4
      have l4 : (upd G3 p4 (.lst [.int 1, .int 2, .str "x", .ref p1, .ref p2, .ref p3, .int 0, .str "", .int (-5)])) p4 = some (.lst [.int 1, .int 2, .str "x", .ref p1, .ref p2, .ref p3, .int 0, .str "", .int (-5)]) := upd_same
      have m4 := m3.new (o := .lst [.int 1, .int 2, .str "x", .ref p1, .ref p2, .ref p3, .int 0, .str "", .int (-5)]) h4
      generalize (upd G3 p4 (.lst [.int 1, .int 2, .str "x", .ref p1, .ref p2, .ref p3, .int 0, .str "", .int (-5)])) = G4 at x4 m4 l4 ⊢
      refine ⟨s, p4, _, rfl, m4.st, n4, l4, (by show 0 < 9; decide), (by show 9 < 1000; decide), fun x hx H' m5 => ?_⟩
      have m := m4.trans m5
      have ne : ∀ {p : Addr}, H p = none → p ≠ s := fun {p} hp z => st.ne (by rw [← z]; exact hp)
      have q1 := m5.ex _ _ (ne f1) ((x2.trans (x3.trans x4)) _ _ l1)
      have q2 := m5.ex _ _ (ne f2) ((x3.trans x4) _ _ l2)
      have q3 := m5.ex _ _ (ne f3) (x4 _ _ l3)
      have sc : ∀ v : V, gC.C v = true → Dn (Nw H) H' 1 1 0 v (.sc v) := fun v hv => ⟨Dc.sc hv, Nat.le_refl _, trivial⟩
      have ls : ∀ (p : Addr) (xs : List V), H p = none → H' p = some (.lst xs) → (xs.length ≤ 2 ∧ ∀ x ∈ xs, gC.C x = true) → Dn (Nw H) H' 1 1 0 (.ref p) (.ls xs) := fun p xs hp hl hx => ⟨Dc.ls hp hl hx, Nat.le_refl _, trivial⟩
      simp only [List.mem_cons, List.not_mem_nil, or_false] at hx
      rcases hx with rfl | rfl | rfl | rfl | rfl | rfl | rfl | rfl | rfl
      · exact ⟨_, _, rfl, m, sc _ (by decide +kernel)⟩
      · exact ⟨_, _, rfl, m, sc _ (by decide +kernel)⟩
      · exact ⟨_, _, rfl, m, sc _ (by decide +kernel)⟩
      · exact ⟨_, _, rfl, m, ls p1 _ f1 q1 (by decide +kernel)⟩
      · exact ⟨_, _, rfl, m, ls p2 _ f2 q2 (by decide +kernel)⟩
      · exact ⟨_, _, rfl, m, ls p3 _ f3 q3 (by decide +kernel)⟩
      · exact ⟨_, _, rfl, m, sc _ (by decide +kernel)⟩
      · exact ⟨_, _, rfl, m, sc _ (by decide +kernel)⟩
      · exact ⟨_, _, rfl, m, sc _ (by decide +kernel)⟩
    rintro _ H2 ⟨v, d, rfl, m2, dn⟩
    obtain ⟨t2, ty2, kit2⟩ := isiL K dn.dc
    refine ⟨v, rfl, v, .ty "list", t2, _, _, rfl, .ty _, ty2, kit2, _, rfl, ?_⟩
    refine dn.dc.cases (fun m e hs ed => ?_) (fun m b xs e ev hS r hx ed => ?_) (fun m b ms g e ev hS r M ed => ?_)
    · subst ed
      exact iteF ⟨v, rfl, k v _ H2 m2 ⟨Dc.sc hs, pB_pos n, trivial⟩⟩
    · subst ed; subst ev
      exact iteT ⟨_, rfl, b, xs, rfl, .inl (.inl (.inl r)), fun l hl => k _ (.ls xs) _ (m2.new hl) ⟨Dc.ls (m2.free st.ne hl) upd_same hx, pB_pos n, trivial⟩⟩
    · subst ed
      exact absurd dn.dd.1 (by omega)
  have hn : n ≠ 0 := fun z => c1 (by rw [z]; rfl)
  have em := hm' hn
  subst em
  intro Fa hF
  have hFH : H Fa = none := m1.free st.ne hF
  have mF : Mv s H (upd H1 Fa (.dK [])) := m1.new hF
  have nFa : Fa ≠ s := fun z => m1.st.ne (by rw [← z]; exact hF)
  have kF := kA.mv mF
  refine ⟨.ref a, rfl, a, rfl, ⟨_, .inl (.inl kF.at')⟩, ?_⟩
  refine for_list (K := K) (a := a) (xs := ks.map V.str) (fun i σ H3 => (∃ x5 x6, σ = [some (.ref s), some (.ref a), some (.int ((m' + 1 : Nat) : Int)), none, some (.ref Fa), x5, x6]) ∧ Mv s H H3 ∧ ∃ ms f, ms.length ≤ i ∧ H3 Fa = some (.dK (kvsOf ms)) ∧ Mem (fun x => Nw H x ∧ x ≠ Fa) gC H3 (m' + 1) ms f ∧ (∀ k, PD (f k) (pB m')) ∧ ∀ k, DD (f k) m') ⟨⟨_, _, rfl⟩, mF, [], fun _ => .nil, Nat.le_refl _, upd_same, Mem.nil, fun _ => trivial, fun _ => trivial⟩ (fun i σ H3 _ q => .inl (.inl (kA.mv q.2.1).at')) ?_ ?_
  · rintro i y σ H3 hi ⟨⟨x5, x6, rfl⟩, m3, ms, f, hle, h3, M3, hp, hd⟩
    obtain ⟨key, hkey, rfl⟩ : ∃ key, ks[i]? = some key ∧ y = .str key := by
      rw [List.getElem?_map] at hi
      obtain ⟨q, h1, h2⟩ := Option.map_eq_some_iff.mp hi
      exact ⟨q, h1, h2.symm⟩
    have hk : key ∈ gC.KS := kA.ok key (List.mem_of_getElem? hkey)
    have hS3 : ¬ (Nw H s ∧ s ≠ Fa) := fun z => st.ne z.1
    have put : ∀ v d H4, Mv s H H4 → H4 Fa = some (.dK (kvsOf ms)) → Mem (fun x => Nw H x ∧ x ≠ Fa) gC H4 (m' + 1) ms f → Dc (fun x => Nw H x ∧ x ≠ Fa) gC H4 (m' + 1) v d → PD d (pB m') → DD d m' →
        Mv s H (upd H4 Fa (.dK (putK (kvsOf ms) (Sum.inr key) v))) ∧ ∃ ms2 f2, ms2.length ≤ i + 1 ∧ (upd H4 Fa (.dK (putK (kvsOf ms) (Sum.inr key) v))) Fa = some (.dK (kvsOf ms2)) ∧ Mem (fun x => Nw H x ∧ x ≠ Fa) gC (upd H4 Fa (.dK (putK (kvsOf ms) (Sum.inr key) v))) (m' + 1) ms2 f2 ∧ (∀ k, PD (f2 k) (pB m')) ∧ ∀ k, DD (f2 k) m' := fun v d H4 m4 h4 M4 dv pv' dv' => by
      refine ⟨m4.mut st.ne hFH h4, putK ms key v, D.fup f key d, Nat.le_trans (length_putK _ _ _) (Nat.succ_le_succ hle), by rw [upd_same, putK_inK], (M4.put hk dv).off (fun z => z.2 rfl), fun q => ?_, fun q => ?_⟩
      · unfold D.fup
        split
        · exact pv'
        · exact hp q
      · unfold D.fup
        split
        · exact dv'
        · exact hd q
    refine ⟨.ref s, rfl, s, 6, rfl, m3.st, by decide, by decide, fun wy H4 _ _ m4 _ => ⟨_, rfl, rfl, _, rfl, ?_⟩⟩
    have h4 := m4.ex Fa _ nFa h3
    have M4 := M3.mv m4 hS3
    refine ite2 (fun c => ?_) fun c => ?_
    · obtain ⟨q1, q2⟩ := put .non (.sc .non) H4 (m3.trans m4) h4 M4 (Dc.sc (by decide +kernel)) (pB_pos _) trivial
      exact ⟨.ref Fa, rfl, .str key, rfl, Fa, _, rfl, DPut.k (k := Sum.inr key) h4 (sizeK (by decide) M4), ⟨_, _, rfl⟩, q1, q2⟩
    · refine ⟨_, rfl, _, _, rfl, rfl, _, rfl, ite2 (fun c3 => ?_) fun c3 => ?_⟩
      · refine ⟨.ref s, rfl, .ref a, rfl, _, rfl, _, _, rfl, rfl, hn, s, a, ks, by show [V.ref s, V.ref a, V.int (((m' + 1 : Nat) : Int) - 1)] = _; rw [show ((m' + 1 : Nat) : Int) - 1 = (m' : Int) by omega], m4.st, kA.mv (m3.trans m4), fun v d H5 m5 dn => ?_⟩
        have h5 := m5.ex Fa _ nFa h4
        have M5 := M4.mv m5 hS3
        have dv : Dc (fun x => Nw H x ∧ x ≠ Fa) gC H5 (m' + 1) v d := dn.dc.imp fun x hx => ⟨(m3.trans m4).free st.ne hx, (ne_of_none h4 hx).symm⟩
        obtain ⟨q1, q2⟩ := put v d H5 ((m3.trans m4).trans m5) h5 M5 dv dn.pd dn.dd
        exact ⟨.ref Fa, rfl, .str key, rfl, Fa, _, rfl, DPut.k (k := Sum.inr key) h5 (sizeK (by decide) M5), ⟨_, _, rfl⟩, q1, q2⟩
      · exact ⟨⟨_, _, rfl⟩, m3.trans m4, ms, f, by omega, h4, M4, hp, hd⟩
  · rintro σ H3 ⟨⟨x5, x6, rfl⟩, m3, ms, f, hle, h3, M3, hp, hd⟩
    refine ⟨.ref Fa, rfl, k (.ref Fa) (.ob f) H3 m3 ⟨Dc.ob hFH h3 (M3.imp fun x hx => hx.1), ?_, ?_⟩⟩
    · refine ⟨ms.map (·.1), fun _ => pB m', fun k hk => ?_, hp, ?_⟩
      · cases e : valV ms k with
        | none => rw [M3.no k e] at hk; cases hk
        | some u => exact List.mem_map.mpr ⟨_, valV_mem e, rfl⟩
      · rw [List.map_map, show ((fun _ => pB m') ∘ fun x : Str × V => x.1) = fun _ => pB m' from rfl, List.map_const', List.sum_replicate_nat]
        show 1 + ms.length * pB m' ≤ 1 + 3 * pB m'
        rw [List.length_map] at hle
        have : ms.length ≤ 3 := Nat.le_trans hle kA.len
        have := Nat.mul_le_mul_right (pB m') this
        omega
    · exact ⟨by omega, fun k => hd k⟩
end
end TP

namespace TP
open PySem PySem.Spec PyProof.Rows L2
abbrev sLAfter : Stmt := topS 24
abbrev sLRun : Stmt := topS 25
/-! ### _law_after: what is not changed is shared -/
theorem dropK_inK (ms : List (Str × V)) (k : Str) : dropK (kvsOf ms) (Sum.inr k) = kvsOf (ms.filter fun p => decide (p.1 ≠ k)) := by
  unfold dropK kvsOf
  rw [List.filter_map]
  congr 1
  apply List.filter_congr
  intro p _
  show decide (Sum.inr p.1 ≠ Sum.inr k) = decide (p.1 ≠ k)
  by_cases c : p.1 = k
  · simp [c]
  · have : ¬ ((Sum.inr p.1 : Key) = Sum.inr k) := fun z => c (by injection z)
    simp [c, this]
def Ls (H : Hp) (x : Addr) : Prop := ∃ xs, H x = some (.lst xs)
def Nt (H : Hp) (x : Addr) : Prop := ∃ o, H x = some o ∧ isTbl o = false
theorem Ls.ex [TabL] {H H' x} (e : Ex H H') : Ls H x → Ls H' x := fun ⟨xs, h⟩ => ⟨xs, e _ _ h⟩
theorem Dc.nt {S : Addr → Prop} {G : Gen} {H : Hp} : ∀ {n : Nat} {v : V} {d : D}, Dc S G H n v d → Dc (fun x => S x ∧ Nt H x) G H n v d
  | 0, _, _, h => h
  | n + 1, v, d, h => by
    rcases h with ⟨a, b⟩ | ⟨a, xs, e, s, r, x, d⟩ | ⟨a, ms, f, e, s, r, nd, ks, d, no, at'⟩
    · exact .inl ⟨a, b⟩
    · exact .inr (.inl ⟨a, xs, e, ⟨s, _, r, rfl⟩, r, x, d⟩)
    · exact .inr (.inr ⟨a, ms, f, e, ⟨s, _, r, rfl⟩, r, nd, ks, d, no, fun k u hu => Dc.nt (at' k u hu)⟩)
theorem Mem.nt {S : Addr → Prop} {G : Gen} {H : Hp} {n ms f} (h : Mem S G H n ms f) : Mem (fun x => S x ∧ Nt H x) G H n ms f := ⟨h.nd, h.ks, h.no, fun k u z => (h.at' k u z).nt⟩
def RgA (S1 S2 : Addr → Prop) (H : Hp) (x : Addr) : Prop := S1 x ∨ H x = none ∨ (S2 x ∧ Ls H x)
def spCAfter [TabL] (G : Gen) (n : Nat) : Sp := fun vs H Q _ => ∃ (S1 S2 : Addr → Prop) (v1 v2 : V) (d p : D), vs = [v1, v2] ∧ Dc S1 G H n v1 d ∧ Dc S2 G H n v2 p ∧ (∀ x, S1 x → S2 x → Ls H x) ∧ ∀ r H', Ex H H' → Dc (RgA S1 S2 H) G H' n r (d.app p) → Q r H'
def spCRun [TabL] (G : Gen) (n : Nat) : Sp := fun vs H Q _ => ∃ (S1 S2 : Addr → Prop) (v : V) (d : D) (a : Addr) (rs : List (V × D)), vs = [v, .ref a] ∧ Dc S1 G H n v d ∧ H a = some (.lst (rs.map (·.1))) ∧ (∀ r ∈ rs, Dc S2 G H n r.1 r.2) ∧ (∀ x, S1 x → S2 x → Ls H x) ∧ ∀ r H' S, Ex H H' → Dc S G H' n r (rowD d (rs.map (·.2))) → Q r H'
section
variable [TabL] {P : Program} {w : World} {K : PySem.W.Frag} {mg : Str → Option Value} {base : Heap}
/-- a shallow copy of d if isinstance(d, dict) else {} -/
theorem t_shallow {K : PySem.W.Frag} {S : Addr → Prop} {G : Gen} {H : Hp} {n : Nat} {v : V} {d : D} {i : Nat} {σ : L2.St} {Q : VK} (hσ : σ[i]? = some (some v)) (hv : Dc S G H (n + 1) v d)
    (h : ∀ a1 ms1 H1, Ex H H1 → H1 a1 = some (.dK (kvsOf ms1)) → H a1 = none → Mem (fun x => S x ∧ Nt H x) G H1 n ms1 d.tgt → Q (.ref a1) H1) :
    tIf (tB (tCB (rIsi K) (tCons (tVar i) (tCons (tC (.ty "dict")) tNil)))) (tCB (fun xs H Q => ∃ (a : Addr) (kvs : List (Key × V)), xs = [.ref a] ∧ Rd H a (.dK kvs) ∧ ∀ p, H p = none → Q (.ref p) (upd H p (.dK kvs))) (tCons (tVar i) tNil)) tDNewK σ H Q := by
  obtain ⟨t1, ty1, kit1⟩ := isiD K hv
  refine ⟨v, hσ, v, .ty "dict", t1, _, _, rfl, .ty _, ty1, kit1, _, rfl, ?_⟩
  have none_way : d.isOb = false → d.tgt = (fun _ => .nil) → (if d.isOb = true then tCB (fun xs H Q => ∃ (a : Addr) (kvs : List (Key × V)), xs = [.ref a] ∧ Rd H a (.dK kvs) ∧ ∀ p, H p = none → Q (.ref p) (upd H p (.dK kvs))) (tCons (tVar i) tNil) σ H Q else tDNewK σ H Q) := fun e e2 => by
    rw [e]
    exact iteF fun p hp => h p [] _ (Ex.new hp) upd_same hp (by rw [e2]; exact Mem.nil)
  refine hv.cases (fun m _ _ e => ?_) (fun m a xs _ _ _ _ _ e => ?_) (fun m a ms f em ev hS r M e => ?_)
  · exact none_way (by rw [e]; rfl) (by rw [e]; rfl)
  · exact none_way (by rw [e]; rfl) (by rw [e]; rfl)
  · cases em; subst e; subst ev
    exact iteT ⟨_, hσ, a, _, rfl, .inl r, fun p hp => h p ms _ (Ex.new hp) upd_same hp (M.nt.ex (Ex.new hp))⟩
abbrev nLAfter : List Str := ["_law_document_here", "_law_patch", "_law_result", "_law_key"]
theorem scLAfter : FnScope nLAfter ["_law_document_here", "_law_patch"] (defScope sLAfter) := ⟨rfl, rfl, rfl, by decide +kernel, rfl, by decide +kernel, by decide +kernel⟩
theorem ok_cafter {f : Addr} {fd : FuncData} (Dd : Df K mg "_law_after" sLAfter ["_law_document_here", "_law_patch"] f fd) (T : Bi mg) {G : Gen} (hG : G.KS.length ≤ 5000) (hN : G.C .non = true) :
    ∀ n, FnOk P w K mg base CX0 (n + 1) f fd ["_law_document_here", "_law_patch"] (spCAfter G n)
  | 0 => fn_zero fun vs H Q E ⟨_, _, _, _, _, _, _, h, _⟩ => h
  | n + 1 => by
    have ih := ok_cafter Dd T hG hN n
    refine Dd.F.ok scLAfter (fun vs H Q E h => ?_) (fun cdv A outer s H vs Q E hr h => ?_)
    · obtain ⟨_, _, v1, v2, d, p, rfl, _⟩ := h
      rfl
    obtain ⟨S1, S2, v1, v2, d, p, rfl, h1, h2, dis, k⟩ := h
    have hu := hu_of hr
    refine ⟨_, pss_cons (ps_if (pt_not (pt_val (pe_callB call_isi (by rfl) (T.of "isinstance") (by decide +kernel) (pa_cons (pv 1) (pa_cons (pe_bltn (v := .ty "dict") (by rfl) (T.of "dict") (by decide +kernel) rfl) pa_nil)))))
        (pss_one (ps_ret (pv 1))) pss_nil)
      (pss_cons (ps_set (i := 2) scLAfter.nd rfl (Or.inl rfl) (pe_ifExp (pt_val (pe_callB call_isi (by rfl) (T.of "isinstance") (by decide +kernel) (pa_cons (pv 0) (pa_cons (pe_bltn (v := .ty "dict") (by rfl) (T.of "dict") (by decide +kernel) rfl) pa_nil))))
        (pe_callTy call_dictD (by rfl) (T.of "dict") (by decide +kernel) (pa_cons (pv 0) pa_nil)) pe_dnewK))
      (pss_cons (ps_lock (ps_for PassesOwn.never rfl (pi_keys (pv 1)) (pg_name (i := 3) scLAfter.nd rfl (Or.inl rfl))
          (pss_one (ps_if (pt_cmpR op_isN (pe_dget hu (pv 1) (pv 3) (fun _ _ => rfl)) pe_non (nomark _))
            (pss_one (ps_expr (pe_dpop2 (pv 2) (pv 3) pe_non ⟨rfl, rfl, rfl, rfl⟩)))
            (pss_one (ps_dput hu (pv 2) (pv 3) (pe_call ih hr rfl Dd.m Dd.F.kp Dd.b .nil pass0 (pa_cons (pe_dget1 hu (pv 2) (pv 3) ⟨rfl, rfl, rfl, rfl⟩) (pa_cons (pe_dget hu (pv 1) (pv 3) (fun _ _ => rfl)) pa_nil))) rfl))))))
      (pss_one (ps_ret (pv 2))))), ?_⟩
    obtain ⟨t1, ty1, kit1⟩ := isiD K h2
    refine ⟨v2, rfl, v2, .ty "dict", t1, _, _, rfl, .ty _, ty1, kit1, _, rfl, ?_⟩
    refine h2.cases (fun m _ hs e => ?_) (fun m a xs _ ev hS r hx e => ?_) (fun m a2 ms2 g em ev hS2 r2 M2 e => ?_)
    · subst e
      exact iteT ⟨v2, rfl, k v2 H (Ex.refl H) (Dc.sc hs)⟩
    · subst e; subst ev
      exact iteT ⟨_, rfl, k _ H (Ex.refl H) (Dc.ls (.inr (.inr ⟨hS, _, r⟩)) r hx)⟩
    subst e; subst ev; cases em
    refine iteF ?_
    refine t_shallow (n := n) rfl h1 fun a1 ms1 H1 ex1 r1 n1 M1 => ?_
    have na12 : a2 ≠ a1 := ne_of_none r2 n1
    have nl2 : ¬ Ls H a2 := fun ⟨_, z⟩ => by rw [r2] at z; cases z
    have nS1 : ¬ S1 a2 := fun z => nl2 (dis a2 z hS2)
    -- where the parts of the result lie
    obtain ⟨R, hR⟩ : ∃ R : Addr → Prop, R = fun b => (S1 b ∧ Nt H b) ∨ H b = none ∨ (S2 b ∧ Ls H b) := ⟨_, rfl⟩
    have nR2 : ¬ R a2 := by
      rw [hR]
      rintro (z | z | z)
      · exact nS1 z.1
      · rw [r2] at z; cases z
      · exact nl2 z.2
    have hS2' : (fun x => S2 x ∧ Nt H x) a2 := ⟨hS2, _, r2, rfl⟩
    refine ⟨a2, _, ex1 a2 _ r2, trivial, fun od2 => ?_⟩
    have N2 : Mem (fun x => S2 x ∧ Nt H x) G (upd H a2 (.frz od2 (.dK (kvsOf ms2)))) n ms2 g := M2.nt.lock r2 hS2'
    refine ⟨_, rfl, a2, od2, rfl, .inl ⟨_, upd_same, ?_⟩⟩
    have nFl : (upd H a2 (.frz od2 (.dK (kvsOf ms2)))) a1 = none := by rw [upd_ne na12.symm]; exact n1
    have back : ∀ {H5 : Hp} {b : Addr}, Ex (upd H a2 (.frz od2 (.dK (kvsOf ms2)))) H5 → H5 b = none → H b = none := fun {H5 b} ex hb => by
      have q := fresh_back ex hb
      by_cases zz : b = a2
      · rw [zz, upd_same] at q; cases q
      · rwa [upd_ne zz] at q
    refine for_keys (o := od2) (d := a2) (ms := ms2) (fun i σ H5 => ∃ ms5 f5, (∃ v4, σ = [some v1, some (.ref a2), some (.ref a1), v4]) ∧ Ex (upd H a2 (.frz od2 (.dK (kvsOf ms2)))) H5 ∧ H5 a1 = some (.dK (kvsOf ms5)) ∧ Mem (fun b => R b ∧ b ≠ a1) G H5 n ms5 f5 ∧
      f5 = mix ms2 i (fun k => if (g k).isNil then d.tgt k else if (g k).isNon then .nil else D.app (d.tgt k) (g k)) d.tgt) ?_ ?_ ?_ ?_
    · refine ⟨ms1, _, ⟨_, rfl⟩, Ex.both ex1 r2, by rw [upd_ne na12.symm]; exact r1, ?_, mix_zero.symm⟩
      refine (M1.off (fun z => nS1 z.1)).imp fun b hb => ⟨by rw [hR]; exact .inl hb, fun z => ?_⟩
      obtain ⟨o, ho, _⟩ := hb.2
      rw [z, n1] at ho
      cases ho
    · exact fun i σ H5 _ ⟨_, _, _, ex, _⟩ => ex a2 _ upd_same
    · rintro i key u σ H5 hi ⟨ms5, f5, ⟨v4, rfl⟩, ex, h5, M5, hf⟩
      have hku : valV ms2 key = some u := valV_of_mem M2.nd (List.mem_of_getElem? hi)
      have hk : key ∈ ms2.map (·.1) := List.mem_map.mpr ⟨_, List.mem_of_getElem? hi, rfl⟩
      have hu2 := (N2.at' key u hku).ex ex
      have l2 : Rd H5 a2 (.dK (kvsOf ms2)) := .inr ⟨od2, ex a2 _ upd_same⟩
      have l5 : Rd H5 a1 (.dK (kvsOf ms5)) := .inl h5
      have fk : f5 key = d.tgt key := by rw [hf]; exact mix_new M2.nd hi
      refine ⟨.ref a2, rfl, .str key, rfl, a2, u, rfl, .inl ⟨_, Sum.inr key, l2, rfl, by rw [valV_inK]; exact hku.symm⟩, rfl, _, rfl, ?_⟩
      have nn := hu2.ne_nil
      have nd := hu2.non
      by_cases c : u = .non
      · subst c
        refine iteT ?_
        have ak : (if (g key).isNil = true then d.tgt key else if (g key).isNon = true then D.nil else D.app (d.tgt key) (g key)) = D.nil := by
          rw [nn, nd]
          rfl
        refine ⟨.ref a1, rfl, a1, rfl, .inl ⟨_, l5⟩, .str key, rfl, kvsOf ms5, Sum.inr key, h5, rfl, fun v hv => ?_, fun hv => ?_⟩
        · rw [dropK_inK]
          refine ⟨_, _, ⟨_, rfl⟩, Ex.mut ex nFl h5, upd_same, (M5.drop key).off (fun z => z.2 rfl), ?_⟩
          rw [hf, ← mix_succ hi, ak]
        · rw [valV_inK] at hv
          refine ⟨ms5, f5, ⟨_, rfl⟩, ex, h5, M5, hf.trans (mix_skip hi ?_)⟩
          rw [ak, ← fk, M5.no key hv]
      · refine ifF (by simp [c]) ?_
        refine ⟨.ref a1, rfl, a1, rfl, .inl ⟨_, l5⟩, .str key, rfl, valV ms5 key, .inl ⟨_, Sum.inr key, l5, rfl, (valV_inK ms5 key).symm⟩, .ref a2, rfl, .str key, rfl, a2, u, rfl, .inl ⟨_, Sum.inr key, l2, rfl, by rw [valV_inK]; exact hku.symm⟩, ?_⟩
        have dt : ∃ e, Dc (fun b => R b ∧ b ≠ a1) G H5 n ((valV ms5 key).getD .non) e ∧ e.tgt = (d.tgt key).tgt := by
          rw [← fk]
          cases e : valV ms5 key with
          | some t => exact ⟨_, M5.at' key t e, rfl⟩
          | none =>
            cases n with
            | zero => exact (show False from hu2).elim
            | succ m => exact ⟨.sc .non, Dc.sc hN, by rw [M5.no key e]; rfl⟩
        obtain ⟨e, he, het⟩ := dt
        have keepL : ∀ x, x ≠ a2 → Ls H x → Ls H5 x := fun x nx ⟨xs, hx⟩ => ⟨xs, ex x _ (by rw [upd_ne nx]; exact hx)⟩
        refine ⟨_, _, _, u, e, g key, rfl, he, hu2, (fun x hx hx2 => ?_), fun z H6 ex6 hz => ?_⟩
        · have nx : x ≠ a2 := fun z => nR2 (by rw [← z]; exact hx.1)
          have hx1 := hx.1
          rw [hR] at hx1
          rcases hx1 with y | y | y
          · exact keepL x nx (dis x y.1 hx2.1)
          · obtain ⟨o, ho, _⟩ := hx2.2
            rw [y] at ho
            cases ho
          · exact keepL x nx y.2
        have h6 := ex6 a1 _ h5
        have M6 := M5.ex ex6
        have nz : Dc (fun b => R b ∧ b ≠ a1) G H6 n z (D.app (d.tgt key) (g key)) := by
          rw [← app_tgt het]
          refine hz.imp fun b hb => ?_
          rcases hb with y | y | ⟨y, xs, hy⟩
          · exact y
          · exact ⟨by rw [hR]; exact .inr (.inl (back ex y)), (ne_of_none h5 y).symm⟩
          · have nb2 : b ≠ a2 := fun q => by rw [q, ex a2 _ upd_same] at hy; cases hy
            have nb1 : b ≠ a1 := fun q => by rw [q, h5] at hy; cases hy
            obtain ⟨o, ho, no⟩ := y.2
            have := ex.go b o (by rw [upd_ne nb2]; exact ho) no
            rw [hy] at this
            cases this
            exact ⟨by rw [hR]; exact .inr (.inr ⟨y.1, xs, ho⟩), nb1⟩
        refine ⟨.ref a1, rfl, .str key, rfl, a1, _, rfl, DPut.k (k := Sum.inr key) h6 (sizeK hG M6), putK ms5 key z, D.fup f5 key (D.app (d.tgt key) (g key)), ⟨_, rfl⟩, Ex.mut (ex.trans ex6) nFl h6, by rw [upd_same, putK_inK], ?_, ?_⟩
        · exact (M6.put (M2.ks key hk) nz).off fun z => z.2 rfl
        · have z := mix_succ (f := fun k => if (g k).isNil then d.tgt k else if (g k).isNon then .nil else D.app (d.tgt k) (g k)) (g := d.tgt) hi
          simp only [nn, nd, c, decide_false, Bool.false_eq_true, if_false] at z
          rw [hf]
          exact z
    · rintro σ H5 ⟨ms5, f5, ⟨v4, rfl⟩, ex, h5, M5, hf⟩
      refine ⟨ex a2 _ upd_same, .ref a1, rfl, ?_⟩
      refine k _ _ (ex_unlock r2 ex) ?_
      have e : f5 = fun k => if (g k).isNil then d.tgt k else if (g k).isNon then .nil else D.app (d.tgt k) (g k) := by
        rw [hf]
        refine mix_all fun k hk => ?_
        rw [M2.no k (valV_none_of hk)]
        rfl
      rw [app_ob, ← e]
      refine Dc.ob (.inr (.inl n1)) (by rw [upd_ne na12.symm]; exact h5) ((M5.off fun z => nR2 z.1).imp fun b hb => ?_)
      have hb := hb.1
      rw [hR] at hb
      exact hb.imp (fun z => z.1) id
abbrev nLRun : List Str := ["_law_document_here", "_law_row", "_law_patch"]
theorem scLRun : FnScope nLRun ["_law_document_here", "_law_row"] (defScope sLRun) := ⟨rfl, rfl, rfl, by decide +kernel, rfl, by decide +kernel, by decide +kernel⟩
theorem ok_crun {G : Gen} {n k : Nat} {f fa : Addr} {fd fda : FuncData} (Dd : Df K mg "_law_run" sLRun ["_law_document_here", "_law_row"] f fd) (Da : Df K mg "_law_after" sLAfter ["_law_document_here", "_law_patch"] fa fda) (ga : FnOk P w K mg base CX0 k fa fda ["_law_document_here", "_law_patch"] (spCAfter G n)) : FnOk P w K mg base CX0 (k + 1) f fd ["_law_document_here", "_law_row"] (spCRun G n) := by
  refine Dd.F.ok scLRun (fun vs H Q E h => ?_) (fun cdv A outer s H vs Q E hr h => ?_)
  · obtain ⟨_, _, v, d, a, rs, rfl, _⟩ := h
    rfl
  obtain ⟨S1, S2, v, d, a, rs, rfl, hv, sq, hrow, dis, kq⟩ := h
  refine ⟨_, pss_cons (ps_for PassesOwn.never rfl (pi_list (pv 1)) (pg_name (i := 2) scLRun.nd rfl (Or.inl rfl)) (pss_one (ps_set (i := 0) scLRun.nd rfl (Or.inl rfl) (pe_call ga hr rfl Da.m Da.F.kp Da.b .nil pass0 (pa_cons (pv 0) (pa_cons (pv 2) pa_nil))))))
    (pss_one (ps_ret (pv 0))), ?_⟩
  refine ⟨.ref a, rfl, a, rfl, ⟨_, .inl (.inl sq)⟩, for_list (K := K) (a := a) (xs := rs.map (·.1)) (fun i σ H5 => ∃ z, (∃ x, σ = [some z, some (.ref a), x]) ∧ Ex H H5 ∧ Dc (RgA (fun x => S1 x ∧ Nt H x) (fun x => S2 x ∧ Nt H x) H) G H5 n z (rowD d ((rs.take i).map (·.2)))) ⟨v, ⟨_, rfl⟩, Ex.refl H, hv.nt.imp fun x hx => .inl hx⟩ (fun i σ H5 _ ⟨_, _, e, _⟩ => .inl (.inl (e _ _ sq))) (fun i y σ H5 hi q => ?_) fun σ H5 q => ?_⟩
  · obtain ⟨z, ⟨x, rfl⟩, e5, h5⟩ := q
    obtain ⟨r, hr', rfl⟩ : ∃ r, rs[i]? = some r ∧ y = r.1 := by
      rw [List.getElem?_map] at hi
      obtain ⟨r, h1, h2⟩ := Option.map_eq_some_iff.mp hi
      exact ⟨r, h1, h2.symm⟩
    have d1 := (hrow r (List.mem_of_getElem? hr')).nt
    refine ⟨_, rfl, _, rfl, _, (fun x => S2 x ∧ Nt H x), z, r.1, _, r.2, rfl, h5, d1.ex e5, (fun x hx hx2 => ?_), fun z2 H6 e6 h6 => ?_⟩
    · rcases hx with y | y | y
      · exact (dis x y.1 hx2.1).ex e5
      · obtain ⟨o, ho, _⟩ := hx2.2
        rw [y] at ho
        cases ho
      · exact y.2.ex e5
    refine ⟨z2, ⟨_, rfl⟩, e5.trans e6, ?_⟩
    rw [List.take_add_one, hr']
    simp only [Option.toList_some, List.map_append, List.map_cons, List.map_nil]
    show Dc _ G H6 n z2 (List.foldl D.app d _)
    rw [List.foldl_append]
    refine h6.imp fun b hb => ?_
    rcases hb with y | y | ⟨y, xs, hy⟩
    · exact y
    · exact .inr (.inl (fresh_back e5 y))
    · obtain ⟨o, ho, no⟩ := y.2
      have := e5.go b o ho no
      rw [hy] at this
      cases this
      exact .inr (.inr ⟨y, xs, ho⟩)
  · obtain ⟨z, ⟨x, rfl⟩, e5, h5⟩ := q
    rw [List.length_map, List.take_length] at h5
    exact ⟨z, rfl, kq z H5 _ e5 h5⟩
end
end TP

namespace TP
open PySem PySem.Spec PyProof.Rows L2
abbrev sPathsIn : Stmt := topS 26
/-! ### the paths of patches -/
structure PL (H : Hp) (a : Addr) (qs : List (Addr × List Str)) : Prop where
  at' : H a = some (.lst (qs.map fun q => V.ref q.1))
  tp : ∀ q ∈ qs, H q.1 = some (.tup (q.2.map V.str))
theorem PL.ex [TabL] {H H' a qs} (e : Ex H H') (h : PL H a qs) : PL H' a qs := ⟨e _ _ h.at', fun q hq => e _ _ (h.tp q hq)⟩
def pc : Nat → Nat
  | 0 => 0
  | n + 1 => 1 + 7 * pc n
theorem pc_le {n : Nat} (h : n ≤ 5) : pc n ≤ 20000 := by
  match n, h with
  | 0, _ => decide
  | 1, _ => decide
  | 2, _ => decide
  | 3, _ => decide
  | 4, _ => decide
  | 5, _ => decide
def GdP (n : Nat) (ks : List Str) : Prop := (∀ k ∈ ks, k ∈ gC.KS) ∧ ks.length < n
def spPathsIn [TabL] (n : Nat) : Sp := fun vs H Q _ => ∃ (S : Addr → Prop) (v : V) (d : D) (p : Addr) (ks : List Str), vs = [v, .ref p] ∧ Dc S gC H n v d ∧ H p = some (.tup (ks.map V.str)) ∧ (∀ k ∈ ks, k ∈ gC.KS) ∧ ks.length + n ≤ 20 ∧ n ≤ 5 ∧
  ∀ r H' qs, Ex H H' → H r = none → PL H' r qs → (∀ q ∈ qs, GdP (ks.length + n) q.2) → qs.length ≤ pc n → Q (.ref r) H'
abbrev nPathsIn : List Str := ["_law_patch", "_law_path", "_law_result", "_law_key"]
theorem scPathsIn : FnScope nPathsIn ["_law_patch", "_law_path"] (defScope sPathsIn) := ⟨rfl, rfl, rfl, by decide +kernel, rfl, by decide +kernel, by decide +kernel⟩
section
variable [TabL] {P : Program} {w : World} {K : PySem.W.Frag} {mg : Str → Option Value} {base : Heap}
theorem ok_pathsin {f : Addr} {fd : FuncData} (T : Bi mg) (Dd : Df K mg "_law_paths_in" sPathsIn ["_law_patch", "_law_path"] f fd) : ∀ n, FnOk P w K mg base CX0 n f fd ["_law_patch", "_law_path"] (spPathsIn n)
  | 0 => fn_zero fun vs H Q E ⟨_, _, _, _, _, _, h, _⟩ => h
  | n + 1 => by
    have ih := ok_pathsin T Dd n
    refine Dd.F.ok scPathsIn (fun vs H Q E h => ?_) (fun cdv A outer s H vs Q E hr h => ?_)
    · obtain ⟨_, v, _, p, _, rfl, _⟩ := h
      rfl
    obtain ⟨S, v, d, p, ks, rfl, hv, hp, hks, hl, hn, k⟩ := h
    have hu := hu_of hr
    refine ⟨_, (pss_cons (ps_set (i := 2) scPathsIn.nd rfl (Or.inl rfl) (pe_lst (pa_cons (pv 1) pa_nil)))
    (pss_cons (ps_if (pt_val (pe_callB (id := "isinstance") (r := rIsi K) call_isi (by rfl) (T.of "isinstance") (by decide +kernel) (pa_cons (pv 0) (pa_cons (pe_bltn (v := .ty "dict") (by rfl) (T.of "dict") (by decide +kernel) rfl) pa_nil)))) (pss_one (ps_lock (ps_for PassesOwn.never rfl (pi_keys (pv 0)) (pg_name (i := 3) scPathsIn.nd rfl (Or.inl rfl)) (pss_one (ps_expr (pe_bm PySem.F.plainAttrs_list PySem.F.slot_list_extend PySem.F.type_list_extend mt_extend (pv 2) (pa_cons (pe_call ih hr rfl Dd.m Dd.F.kp Dd.b .nil pass0 (pa_cons (pe_dget hu (pv 0) (pv 3) (fun _ _ => rfl)) (pa_cons (pe_op op_catA (pv 1) (pe_tup (pa_cons (pv 3) pa_nil))) pa_nil))) pa_nil))))))) pss_nil)
    (pss_one (ps_ret (pv 2))))), ?_⟩
    refine ⟨.ref p, rfl, (by show 1 ≤ sizeLine; decide), fun L hL => ?_⟩
    have e1 : Ex H (upd H L (.lst [.ref p])) := Ex.new hL
    have pl1 : PL (upd H L (.lst [.ref p])) L [(p, ks)] := ⟨upd_same, fun q hq => by rw [List.mem_singleton.mp hq]; exact e1 _ _ hp⟩
    have g1 : ∀ q ∈ [(p, ks)], GdP (ks.length + (n + 1)) q.2 := fun q hq => by rw [List.mem_singleton.mp hq]; exact ⟨hks, by show ks.length < _; omega⟩
    have hv1 := hv.ex e1
    obtain ⟨t1, ty1, kit1⟩ := isiD K hv1
    refine ⟨v, rfl, v, .ty "dict", t1, _, _, rfl, .ty _, ty1, kit1, _, rfl, ?_⟩
    have plain := k L _ _ e1 hL pl1 g1 (by show 1 ≤ 1 + 7 * pc n; omega)
    refine hv.cases (fun m _ hs e => ?_) (fun m a xs _ ev hS r hx e => ?_) (fun m a ms g em ev hS r M e => ?_)
    · subst e
      exact iteF ⟨.ref L, rfl, plain⟩
    · subst e
      exact iteF ⟨.ref L, rfl, plain⟩
    subst e; subst ev; cases em
    have naL : a ≠ L := ne_of_none r hL
    refine iteT ⟨a, _, e1 a _ r, trivial, fun od => ?_⟩
    have N : Mem S gC (upd H a (.frz od (.dK (kvsOf ms)))) n ms g := M.lock r hS
    have nFl : (upd H a (.frz od (.dK (kvsOf ms)))) L = none := by rw [upd_ne naL.symm]; exact hL
    have hms : ms.length ≤ 7 := by
      have := sub_len M.nd M.ks
      rwa [List.length_map] at this
    have pcn := pc_le (n := n) (by omega)
    refine ⟨_, rfl, a, od, rfl, .inl ⟨_, upd_same, ?_⟩⟩
    obtain ⟨Iv, hIv⟩ : ∃ Iv : Nat → L2.St → Hp → Prop, Iv = fun i σ H5 => ∃ qs, (∃ x, σ = [some (.ref a), some (.ref p), some (.ref L), x]) ∧ Ex (upd H a (.frz od (.dK (kvsOf ms)))) H5 ∧ PL H5 L qs ∧ (∀ q ∈ qs, GdP (ks.length + (n + 1)) q.2) ∧ qs.length ≤ 1 + i * pc n := ⟨_, rfl⟩
    have hp' : (upd H a (.frz od (.dK (kvsOf ms)))) p = some (.tup (ks.map V.str)) := by
      rw [upd_ne (fun z => by rw [z, r] at hp; cases hp)]
      exact hp
    refine for_keys (o := od) (d := a) (ms := ms) Iv ?_ (fun i σ H5 _ q => ?_) ?_ ?_
    · rw [hIv]
      refine ⟨[(p, ks)], ⟨_, rfl⟩, Ex.both e1 r, ⟨by rw [upd_ne naL.symm]; exact upd_same, fun q hq => ?_⟩, g1, by simp⟩
      rw [List.mem_singleton.mp hq]
      rw [upd_ne (fun z => by rw [show p = a from z, r] at hp; cases hp), upd_ne (ne_of_none hp hL)]
      exact hp
    · rw [hIv] at q
      obtain ⟨_, _, ex, _⟩ := q
      exact ex a _ upd_same
    · intro i key u σ H5 hi q
      rw [hIv] at q
      obtain ⟨qs, ⟨x, rfl⟩, ex, pl, gd, ln⟩ := q
      have hku : valV ms key = some u := valV_of_mem M.nd (List.mem_of_getElem? hi)
      have hk : key ∈ gC.KS := M.ks key (List.mem_map.mpr ⟨_, List.mem_of_getElem? hi, rfl⟩)
      have hil : i < ms.length := (List.getElem?_eq_some_iff.mp hi).1
      have hu2 := (N.at' key u hku).ex ex
      have l2 : Rd H5 a (.dK (kvsOf ms)) := .inr ⟨od, ex a _ upd_same⟩
      have fin : ∀ t' H6, Ex H5 H6 → H6 t' = some (.tup ((ks ++ [key]).map V.str)) → spPathsIn n [u, .ref t'] H6 (fun v H7 => rExtend (.ref L) [v] H7 fun _ H8 => Iv (i + 1) [some (.ref a), some (.ref p), some (.ref L), some (.str key)] H8) E0 := fun t' H6 e6 ht => by
        refine ⟨S, u, g key, t', ks ++ [key], rfl, hu2.ex e6, ht, fun j hj => ?_, by rw [List.length_append]; show ks.length + 1 + n ≤ 20; omega, by omega, fun r7 H7 qs' e7 _ pl' gd' ln' => ?_⟩
        · rcases List.mem_append.mp hj with hj | hj
          · exact hks j hj
          · rw [List.mem_singleton.mp hj]; exact hk
        have plL := pl.ex (e6.trans e7)
        have hmul : i * pc n ≤ 7 * pc n := Nat.mul_le_mul_right _ (by omega)
        refine ⟨L, r7, _, _, rfl, rfl, plL.at', pl'.at', ?_, ?_⟩
        · rw [List.length_map, List.length_map]
          exact Nat.le_trans (show _ ≤ 1000000 by omega) (by decide)
        · rw [hIv]
          have ntL : ∀ (b : Addr) xs, H7 b = some (.tup xs) → (upd H7 L (.lst (qs.map (fun q => V.ref q.1) ++ qs'.map fun q => V.ref q.1))) b = some (.tup xs) := fun b xs hb => by
            rw [upd_ne (fun z => by rw [z, plL.at'] at hb; cases hb)]
            exact hb
          refine ⟨qs ++ qs', ⟨_, rfl⟩, Ex.mut (ex.trans (e6.trans e7)) nFl plL.at', ⟨by rw [upd_same, List.map_append], fun q hq => ?_⟩, fun q hq => ?_, ?_⟩
          · rcases List.mem_append.mp hq with hq | hq
            · exact ntL _ _ (plL.tp q hq)
            · exact ntL _ _ (pl'.tp q hq)
          · rcases List.mem_append.mp hq with hq | hq
            · exact gd q hq
            · have := gd' q hq
              rw [List.length_append] at this
              exact ⟨this.1, by have := this.2; simp only [List.length_cons, List.length_nil] at this; omega⟩
          · rw [List.length_append, Nat.succ_mul]
            omega
      refine ⟨.ref L, rfl, .inl ⟨rfl, _, .inl (.inl pl.at')⟩, .ref a, rfl, .str key, rfl, a, u, rfl, .inl ⟨_, Sum.inr key, l2, rfl, by rw [valV_inK]; exact hku.symm⟩, .ref p, rfl, _, rfl, (by show 1 ≤ sizeLine; decide), fun t ht => ⟨p, t, ks.map V.str, [.str key], rfl, rfl, .inl (.inl ((ex.trans (Ex.new ht)) _ _ hp')), .inl (.inl upd_same), ?_, fun z => ?_, fun _ z => (by cases z), fun _ _ p4 hp4 => ?_⟩⟩
      · rw [List.length_map]
        exact Nat.le_trans (show ks.length + 1 ≤ 21 by omega) (by decide)
      · have z : ks = [] := List.map_eq_nil_iff.mp z
        refine fin t _ (Ex.new ht) ?_
        rw [z]
        exact upd_same
      · refine fin p4 _ ((Ex.new ht).trans (Ex.new hp4)) ?_
        rw [List.map_append]
        exact upd_same
    · intro σ H5 q
      rw [hIv] at q
      obtain ⟨qs, ⟨x, rfl⟩, ex, pl, gd, ln⟩ := q
      refine ⟨ex a _ upd_same, .ref L, rfl, ?_⟩
      have hmul : ms.length * pc n ≤ 7 * pc n := Nat.mul_le_mul_right _ hms
      refine k L _ qs (ex_unlock r ex) hL ⟨by rw [upd_ne naL.symm]; exact pl.at', fun q hq => ?_⟩ gd (by show _ ≤ 1 + 7 * pc n; omega)
      have hq' := pl.tp q hq
      rw [upd_ne (fun z => by rw [z, ex a _ upd_same] at hq'; cases hq')]
      exact hq'
end
end TP

namespace TP
open PySem PySem.Spec PyProof.Rows L2
abbrev sCPaths : Stmt := topS 27
theorem putK_keys {κ : Type} [DecidableEq κ] {kvs : List (κ × V)} {k : κ} {v : V} : ∀ kv ∈ putK kvs k v, kv.1 = k ∨ ∃ kv' ∈ kvs, kv'.1 = kv.1 := by
  intro kv h
  unfold putK at h
  split at h
  · obtain ⟨q, hq, rfl⟩ := List.mem_map.mp h
    refine .inr ⟨q, hq, ?_⟩
    split <;> rfl
  · rcases List.mem_append.mp h with h | h
    · exact .inr ⟨kv, h, rfl⟩
    · rw [List.mem_singleton.mp h]
      exact .inl rfl
instance ntDT (kvs : List (List L2.Key × V)) : NT (.dT kvs) := ⟨rfl⟩
def GdK (n : Nat) (kvs : List (List L2.Key × V)) : Prop := ∀ kv ∈ kvs, ∃ ks : List Str, kv.1 = ks.map Sum.inr ∧ GdP n ks
theorem keys_paths {n : Nat} {H : Hp} : ∀ {kvs : List (List L2.Key × V)} {bs : List Addr}, IsKeys H kvs bs → GdK n kvs → ∃ qs : List (Addr × List Str), qs.map (·.1) = bs ∧ (∀ q ∈ qs, H q.1 = some (.tup (q.2.map V.str)) ∧ GdP n q.2) ∧ qs.length = kvs.length
  | [], _, h, _ => by
    cases h
    exact ⟨[], rfl, fun q hq => (nomatch hq), rfl⟩
  | kv :: kvs, _, h, g => by
    cases h with
    | @cons _ b _ bs h1 h2 =>
      obtain ⟨qs, q1, q2, q3⟩ := keys_paths h2 fun x hx => g x (List.mem_cons_of_mem _ hx)
      obtain ⟨ks, e, gd⟩ := g kv List.mem_cons_self
      refine ⟨(b, ks) :: qs, by rw [List.map_cons, q1], fun q hq => ?_, by rw [List.length_cons, List.length_cons, q3]⟩
      rcases List.mem_cons.mp hq with rfl | hq
      · refine ⟨?_, gd⟩
        have h1 : H b = some (.tup (kv.1.map kV)) := h1
        rw [e, List.map_map] at h1
        exact h1
      · exact q2 q hq
def spCPaths [TabL] (n : Nat) : Sp := fun vs H Q _ => ∃ (S : Addr → Prop) (a : Addr) (rs : List (V × D)), vs = [.ref a] ∧ H a = some (.lst (rs.map (·.1))) ∧ (∀ r ∈ rs, Dc S gC H n r.1 r.2) ∧ rs.length ≤ 100 ∧ n ≤ 5 ∧
  ∀ r H' qs, Ex H H' → PL H' r qs → (∀ q ∈ qs, GdP n q.2) → qs.length ≤ 2000001 → Q (.ref r) H'
abbrev nCPaths : List Str := ["_law_row", "_law_result", "_law_patch", "_law_path"]
theorem scCPaths : FnScope nCPaths ["_law_row"] (defScope sCPaths) := ⟨rfl, rfl, rfl, by decide +kernel, rfl, by decide +kernel, by decide +kernel⟩
section
variable [TabL] {P : Program} {w : World} {K : PySem.W.Frag} {mg : Str → Option Value} {base : Heap}
theorem ok_cpaths {n k : Nat} {f fi : Addr} {fd di : FuncData} (hn1 : 1 ≤ n) (T : Bi mg) (Dd : Df K mg "_law_paths" sCPaths ["_law_row"] f fd) (Di : Df K mg "_law_paths_in" sPathsIn ["_law_patch", "_law_path"] fi di)
    (gI : FnOk P w K mg base CX0 k fi di ["_law_patch", "_law_path"] (spPathsIn n)) : FnOk P w K mg base CX0 (k + 1) f fd ["_law_row"] (spCPaths n) := by
  refine Dd.F.ok scCPaths (fun vs H Q E h => ?_) (fun cdv A outer s H vs Q E hr h => ?_)
  · obtain ⟨_, a, _, rfl, _⟩ := h
    rfl
  obtain ⟨S, a, rs, rfl, ha, hrs, hl, hn, kq⟩ := h
  have hu := hu_of hr
  refine ⟨_, (pss_cons (ps_set (i := 1) scCPaths.nd rfl (Or.inl rfl) (pe_dispT hu (pps_cons (pe_tup pa_nil) pe_bl pps_nil) (by rfl) (by rfl) (fun z => by cases z) (by decide)))
    (pss_cons (ps_for PassesOwn.never rfl (pi_list (pv 0)) (pg_name (i := 2) scCPaths.nd rfl (Or.inl rfl)) (pss_one (ps_for PassesOwn.never rfl (pi_list (pe_call gI hr rfl Di.m Di.F.kp Di.b .nil pass0 (pa_cons (pv 2) (pa_cons (pe_tup pa_nil) pa_nil)))) (pg_name (i := 3) scCPaths.nd rfl (Or.inl rfl)) (pss_one (ps_dput hu (pv 1) (pv 3) pe_bl rfl)))))
    (pss_one (ps_ret (pe_callB (cr_sortTS hr.units) (by rfl) (T.of "sorted") (by decide +kernel) (pa_cons (pe_callTy (call_list_dT rfl) (by rfl) (T.of "list") (by decide +kernel) (pa_cons (pv 1) pa_nil)) pa_nil)))))), ?_⟩
  intro Fa hF
  refine ⟨(by show 0 ≤ sizeLine; decide), fun t0 ht0 => ⟨by rw [upd_ne (ne_of_none upd_same ht0), upd_same], [], t0, .bl true, rfl, upd_same, ?_⟩⟩
  have x0 : Ex H (upd (upd (upd H Fa (.dT [])) t0 (.tup [])) Fa (.dT [([], .bl true)])) := Ex.mut ((Ex.new hF).trans (Ex.new ht0)) hF (by rw [upd_ne (ne_of_none upd_same ht0), upd_same])
  have l0 : (upd (upd (upd H Fa (.dT [])) t0 (.tup [])) Fa (.dT [([], .bl true)])) Fa = some (.dT [([], .bl true)]) := upd_same
  generalize (upd (upd (upd H Fa (.dT [])) t0 (.tup [])) Fa (.dT [([], .bl true)])) = H0 at x0 l0 ⊢
  refine ⟨.ref a, rfl, a, rfl, ⟨_, .inl (.inl (x0 _ _ ha))⟩, ?_⟩
  refine for_list (K := K) (a := a) (xs := rs.map (·.1)) (fun i σ H3 => (∃ x2 x3, σ = [some (.ref a), some (.ref Fa), x2, x3]) ∧ Ex H H3 ∧ ∃ kvs, H3 Fa = some (.dT kvs) ∧ GdK n kvs ∧ kvs.length ≤ 1 + i * 20000) ⟨⟨_, _, rfl⟩, x0, _, l0, fun kv hkv => by rw [List.mem_singleton.mp hkv]; exact ⟨[], rfl, fun k hk => (nomatch hk), by show 0 < n; omega⟩, by simp⟩ (fun i σ H3 _ q => .inl (.inl (q.2.1 _ _ ha))) ?_ ?_
  · rintro i y σ H3 hi ⟨⟨x2, x3, rfl⟩, e3, kvs, h3, gk, lk⟩
    obtain ⟨r, hr', rfl⟩ : ∃ r, rs[i]? = some r ∧ y = r.1 := by
      rw [List.getElem?_map] at hi
      obtain ⟨r, h1, h2⟩ := Option.map_eq_some_iff.mp hi
      exact ⟨r, h1, h2.symm⟩
    have d1 := (hrs r (List.mem_of_getElem? hr')).ex e3
    have hil : i < rs.length := (List.getElem?_eq_some_iff.mp hr').1
    refine ⟨r.1, rfl, (by show 0 ≤ sizeLine; decide), fun t ht => ⟨S, r.1, r.2, t, [], rfl, d1.ex (Ex.new ht), upd_same, (fun k hk => nomatch hk), by show 0 + n ≤ 20; omega, hn, fun L H5 qs e5 _ pl gd ln => ?_⟩⟩
    have e35 : Ex H3 H5 := (Ex.new ht).trans e5
    have h5 := e35 _ _ h3
    have pcn := pc_le (n := n) hn
    refine ⟨L, rfl, ⟨_, .inl (.inl pl.at')⟩, ?_⟩
    refine for_list (K := K) (a := L) (xs := qs.map fun q => V.ref q.1) (fun j σ H6 => (∃ x3, σ = [some (.ref a), some (.ref Fa), some r.1, x3]) ∧ Ex H H6 ∧ PL H6 L qs ∧ ∃ kvs, H6 Fa = some (.dT kvs) ∧ GdK n kvs ∧ kvs.length ≤ 1 + i * 20000 + j) ⟨⟨_, rfl⟩, e3.trans e35, pl, kvs, h5, gk, lk⟩ (fun j σ H6 _ q => .inl (.inl q.2.2.1.at')) ?_ ?_
    · rintro j y σ H6 hj ⟨⟨x3, rfl⟩, e6, pl6, kvs6, h6, gk6, lk6⟩
      obtain ⟨q, hq, rfl⟩ : ∃ q, qs[j]? = some q ∧ y = .ref q.1 := by
        rw [List.getElem?_map] at hj
        obtain ⟨q, h1, h2⟩ := Option.map_eq_some_iff.mp hj
        exact ⟨q, h1, h2.symm⟩
      have hjl : j < qs.length := (List.getElem?_eq_some_iff.mp hq).1
      have mq := List.mem_of_getElem? hq
      have ht := pl6.tp q mq
      refine ⟨.ref Fa, rfl, .ref q.1, rfl, Fa, _, rfl, DPut.t (k := q.2.map Sum.inr) h6 (by rw [List.map_map]; exact ht) (Nat.lt_of_le_of_lt (show _ ≤ 3000000 by omega) (by decide)), ⟨_, rfl⟩, Ex.mut e6 hF h6, ⟨?_, fun q' hq' => ?_⟩, _, upd_same, fun kv hkv => ?_, ?_⟩
      · rw [upd_ne (fun z => by have := pl6.at'; rw [z, h6] at this; cases this)]
        exact pl6.at'
      · have := pl6.tp q' hq'
        rw [upd_ne (fun z => by rw [z, h6] at this; cases this)]
        exact this
      · rcases putK_keys kv hkv with e | ⟨kv', h1, h2⟩
        · have g := gd q mq
          exact ⟨q.2, e, g.1, by have := g.2; simp only [List.length_nil] at this; omega⟩
        · obtain ⟨ks, e, g⟩ := gk6 kv' h1
          exact ⟨ks, h2 ▸ e, g⟩
      · have := length_putK kvs6 (q.2.map Sum.inr) (.bl true)
        omega
    · rintro σ H6 ⟨⟨x3, rfl⟩, e6, pl6, kvs6, h6, gk6, lk6⟩
      rw [List.length_map] at lk6
      exact ⟨⟨_, _, rfl⟩, e6, kvs6, h6, gk6, by omega⟩
  · rintro σ H3 ⟨⟨x2, x3, rfl⟩, e3, kvs, h3, gk, lk⟩
    rw [List.length_map] at lk
    refine ⟨.ref Fa, rfl, Fa, kvs, rfl, .inl h3, fun p bs hp ik => ?_⟩
    obtain ⟨qs, q1, q2, q3⟩ := keys_paths ik gk
    have q1' : bs.map V.ref = qs.map fun q => V.ref q.1 := by rw [← q1, List.map_map]; rfl
    rw [q1']
    have x4 : Ex H3 (upd H3 p (.lst (qs.map fun q => V.ref q.1))) := Ex.new hp
    refine ⟨p, qs, rfl, .inl (.inl upd_same), fun q hq => .inl (.inl (x4 _ _ (q2 q hq).1)), fun p2 hp2 => ?_⟩
    refine kq p2 _ (srtT qs) (e3.trans (x4.trans (Ex.new hp2))) ⟨upd_same, fun q hq => ?_⟩ (fun q hq => (q2 q ((srtT_perm qs).mem_iff.mp hq)).2) ?_
    · exact (Ex.new hp2) _ _ (x4 _ _ (q2 q ((srtT_perm qs).mem_iff.mp hq)).1)
    · rw [(srtT_perm qs).length_eq, q3]
      omega
end
end TP

namespace TP
open PySem PySem.Spec PyProof.Rows L2
abbrev sDocu : Stmt := topS 28
abbrev sDocus : Stmt := topS 29
abbrev sIsSame : Stmt := topS 30
def oneD (k : Str) (d : D) : D := .ob fun j => if j = k then d else .nil
theorem mem_one {S : Addr → Prop} {G : Gen} {H : Hp} {n : Nat} {k : Str} {v : V} {d : D} (hk : k ∈ G.KS) (h : Dc S G H n v d) : Mem S G H n [(k, v)] (fun j => if j = k then d else .nil) := by
  refine ⟨by simp, fun j hj => by simp at hj; rw [hj]; exact hk, fun j hj => ?_, fun j u hu => ?_⟩
  · by_cases c : j = k
    · rw [c, valV_pos (p := (k, v)) rfl] at hj; cases hj
    · exact if_neg c
  · by_cases c : j = k
    · rw [c, valV_pos (p := (k, v)) rfl] at hu
      cases hu
      show Dc S G H n v (if j = k then d else .nil)
      rw [if_pos c]
      exact h
    · rw [valV_neg (p := (k, v)) (fun z => c z.symm)] at hu
      cases hu
theorem dc_one {S : Addr → Prop} {G : Gen} {H : Hp} {n : Nat} {k : Str} {v : V} {d : D} {p : Addr} (hk : k ∈ G.KS) (hp : S p) (hH : H p = some (.dK (mergeK [] [(Sum.inr k, v)]))) (h : Dc S G H n v d) : Dc S G H (n + 1) (.ref p) (oneD k d) := Dc.ob (ms := [(k, v)]) hp hH (mem_one hk h)
def nestD : List Str → D → D
  | [], d => d
  | k :: ks, d => oneD k (nestD ks d)

theorem pts {H : Hp} {a : Addr} {xs : List V} {p : Addr} (h : H a = some (.tup xs)) (hp : H p = none) (o : HO) : (upd H p o) a = some (.tup xs) := by rw [upd_ne (ne_of_none h hp)]; exact h
def spDocu [TabL] : Sp := fun vs H Q _ => ∃ (S : Addr → Prop) (p : Addr) (ks : List Str) (m : Nat) (v : V) (d : D), vs = [.ref p, v] ∧ H p = some (.tup (ks.map V.str)) ∧ (∀ k ∈ ks, k ∈ gC.KS) ∧ Dc S gC H m v d ∧ ∀ r H', Ex H H' → Dc (fun x => S x ∨ H x = none) gC H' (m + ks.length) r (nestD ks d) → Q r H'
def spDocus [TabL] (n : Nat) : Sp := fun vs H Q _ => ∃ (a : Addr) (qs : List (Addr × List Str)), vs = [.ref a] ∧ PL H a qs ∧ (∀ q ∈ qs, GdP n q.2) ∧ qs.length ≤ 2000001 ∧ ∀ r H' (rs : List (V × D)), Ex H H' → H' r = some (.lst (rs.map (·.1))) → (∀ x ∈ rs, Dc (Nw H) gC H' (n + 1) x.1 x.2) → Q (.ref r) H'
def spIsSame [TabL] (n : Nat) : Sp := fun vs H Q _ => ∃ (S1 S2 : Addr → Prop) (a b : Addr) (rs ss : List (V × D)), vs = [.ref a, .ref b] ∧ H a = some (.lst (rs.map (·.1))) ∧ H b = some (.lst (ss.map (·.1))) ∧ (∀ r ∈ rs, Dc S1 gC H n r.1 r.2) ∧ (∀ r ∈ ss, Dc S2 gC H n r.1 r.2) ∧ rs.length ≤ 50 ∧ ss.length ≤ 50 ∧
  (∀ d, rowD d (rs.map (·.2)) = rowD d (ss.map (·.2))) ∧ ∀ H', Ex H H' → Q (.bl true) H'
abbrev nDocu : List Str := ["_law_path", "_law_end", "_law_key"]
theorem scDocu : FnScope nDocu ["_law_path", "_law_end"] (defScope sDocu) := ⟨rfl, rfl, rfl, by decide +kernel, rfl, by decide +kernel, by decide +kernel⟩
abbrev nDocus : List Str := ["_law_paths_here", "_law_result", "_law_path", "_law_end"]
theorem scDocus : FnScope nDocus ["_law_paths_here"] (defScope sDocus) := ⟨rfl, rfl, rfl, by decide +kernel, rfl, by decide +kernel, by decide +kernel⟩
abbrev nIsSame : List Str := ["_law_row", "_law_other", "_law_document_here"]
theorem scIsSame : FnScope nIsSame ["_law_row", "_law_other"] (defScope sIsSame) := ⟨rfl, rfl, rfl, by decide +kernel, rfl, by decide +kernel, by decide +kernel⟩
section
variable [TabL] {P : Program} {w : World} {K : PySem.W.Frag} {mg : Str → Option Value} {base : Heap}
theorem ok_docu {f : Addr} {fd : FuncData} (T : Bi mg) (Dd : Df K mg "_law_document" sDocu ["_law_path", "_law_end"] f fd) : FnOk P w K mg base CX0 1 f fd ["_law_path", "_law_end"] spDocu := by
  refine Dd.F.ok scDocu (fun vs H Q E h => ?_) (fun cdv A outer s H vs Q E hr h => ?_)
  · obtain ⟨_, p, _, _, v, _, rfl, _⟩ := h
    rfl
  obtain ⟨S, p, ks, m, v, d, rfl, hp, hk, hv, kq⟩ := h
  refine ⟨_, (pss_cons (ps_for PassesOwn.never rfl (pi_tup (pe_revT (pv 0))) (pg_name (i := 2) scDocu.nd rfl (Or.inl rfl)) (pss_one (ps_set (i := 1) scDocu.nd rfl (Or.inl rfl) (pe_disp (pps_cons (pv 2) (pv 1) pps_nil) (by rfl) (by rfl) (fun z => by cases z) (by decide)))))
    (pss_one (ps_ret (pv 1)))), ?_⟩
  refine ⟨.ref p, rfl, p, _, rfl, .inl (.inl hp), fun t ht => ⟨t, rfl, ⟨_, .inl (.inl upd_same)⟩, ?_⟩⟩
  have x1 : Ex H (upd H t (.tup (ks.map V.str).reverse)) := Ex.new ht
  have l1 : (upd H t (.tup (ks.map V.str).reverse)) t = some (.tup (ks.reverse.map V.str)) := by rw [upd_same, List.map_reverse]
  rw [← List.map_reverse] at *
  generalize (upd H t (.tup (ks.reverse.map V.str))) = H1 at x1 l1 ⊢
  refine for_tup (K := K) (a := t) (xs := ks.reverse.map V.str) (fun i σ H3 => ∃ z, (∃ x, σ = [some (.ref p), some z, x]) ∧ Ex H H3 ∧ H3 t = some (.tup (ks.reverse.map V.str)) ∧ Dc (fun x => S x ∨ H x = none) gC H3 (m + i) z (nestD (ks.reverse.take i).reverse d)) ⟨v, ⟨_, rfl⟩, x1, l1, (hv.ex x1).imp fun x hx => .inl hx⟩ (fun i σ H3 _ ⟨_, _, _, q, _⟩ => .inl (.inl q)) ?_ ?_
  · rintro i y σ H3 hi ⟨z, ⟨x, rfl⟩, e3, l3, hz⟩
    obtain ⟨key, hkey, rfl⟩ : ∃ key, ks.reverse[i]? = some key ∧ y = .str key := by
      rw [List.getElem?_map] at hi
      obtain ⟨q, h1, h2⟩ := Option.map_eq_some_iff.mp hi
      exact ⟨q, h1, h2.symm⟩
    intro q hq
    refine ⟨.str key, rfl, z, rfl, upd_same, [(Sum.inr key, z)], rfl, (by show 1 ≤ 15; decide), ?_⟩
    have e4 : Ex H3 (upd (upd H3 q (.dK [])) q (.dK (mergeK [] [(Sum.inr key, z)]))) := (Ex.new hq).mut hq upd_same
    refine ⟨.ref q, ⟨_, rfl⟩, e3.trans e4, e4 _ _ l3, ?_⟩
    rw [List.take_add_one, hkey, Option.toList_some, List.reverse_append]
    exact dc_one (n := m + i) (hk key (List.mem_reverse.mp (List.mem_of_getElem? hkey))) (.inr (fresh_back e3 hq)) upd_same (hz.ex e4)
  · rintro σ H3 ⟨z, ⟨x, rfl⟩, e3, l3, hz⟩
    rw [List.length_map, List.take_length, List.reverse_reverse, List.length_reverse] at hz
    exact ⟨z, rfl, kq z H3 e3 hz⟩
theorem ok_docus {n k : Nat} {f fd' : Addr} {fd dd : FuncData} (hn : n ≤ 5) (T : Bi mg) (Dd : Df K mg "_law_documents" sDocus ["_law_paths_here"] f fd) (Ddo : Df K mg "_law_document" sDocu ["_law_path", "_law_end"] fd' dd)
    (gD : FnOk P w K mg base CX0 k fd' dd ["_law_path", "_law_end"] spDocu) : FnOk P w K mg base CX0 (k + 1) f fd ["_law_paths_here"] (spDocus n) := by
  refine Dd.F.ok scDocus (fun vs H Q E h => ?_) (fun cdv A outer s H vs Q E hr h => ?_)
  · obtain ⟨a, _, rfl, _⟩ := h
    rfl
  obtain ⟨a, qs, rfl, pl, gd, ln, kq⟩ := h
  refine ⟨_, (pss_cons (ps_set (i := 1) scDocus.nd rfl (Or.inl rfl) (pe_lst pa_nil))
    (pss_cons (ps_for PassesOwn.never rfl (pi_list (pv 0)) (pg_name (i := 2) scDocus.nd rfl (Or.inr rfl)) (pss_one (ps_expr (pe_bm PySem.F.plainAttrs_list PySem.F.slot_list_extend PySem.F.type_list_extend mt_extend (pv 1) (pa_cons (pe_lc (own := [("_law_end", 3)]) (g := gName 3) (tt := tYes) rfl scDocus.nd (pi_tup (pe_tup (pa_cons pe_int (pa_cons pe_int (pa_cons pe_dnewK (pa_cons (pe_disp (pps_cons pe_str pe_int pps_nil) (by rfl) (by rfl) (fun z => by cases z) (by decide)) pa_nil)))))) (blkOk_by (N := nDocus) (sc := defScope sDocus) (by decide +kernel)) (fun _ _ _ _ _ => pg_name (i := 3) scDocus.nd rfl (Or.inl rfl)) (fun _ _ _ _ _ => pts_nil) (fun _ _ _ _ _ => (pe_call gD hr rfl Ddo.m Ddo.F.kp Ddo.b .nil pass0 (pa_cons (pv 2) (pa_cons (pv 3) pa_nil))))) pa_nil)))))
    (pss_one (ps_ret (pv 1))))), ?_⟩
  refine ⟨(by show 0 ≤ sizeLine; decide), fun L hL => ⟨.ref a, rfl, a, rfl, ⟨_, .inl (.inl ((Ex.new hL) _ _ pl.at'))⟩, ?_⟩⟩
  refine for_list (K := K) (a := a) (xs := qs.map fun q => V.ref q.1) (fun i σ H3 => (∃ x2 x3, σ = [some (.ref a), some (.ref L), x2, x3]) ∧ Ex H H3 ∧ ∃ rs : List (V × D), H3 L = some (.lst (rs.map (·.1))) ∧ (∀ x ∈ rs, Dc (fun x => H x = none ∧ x ≠ L) gC H3 (n + 1) x.1 x.2) ∧ rs.length = 4 * i) ⟨⟨_, _, rfl⟩, Ex.new hL, [], upd_same, (fun x hx => nomatch hx), rfl⟩ (fun i σ H3 _ q => .inl (.inl (q.2.1 _ _ pl.at'))) ?_ ?_
  · rintro i y σ H3 hi ⟨⟨x2, x3, rfl⟩, e3, rs, h3, hd, hl⟩
    obtain ⟨q, hq, rfl⟩ : ∃ q, qs[i]? = some q ∧ y = .ref q.1 := by
      rw [List.getElem?_map] at hi
      obtain ⟨q, h1, h2⟩ := Option.map_eq_some_iff.mp hi
      exact ⟨q, h1, h2.symm⟩
    have hil : i < qs.length := (List.getElem?_eq_some_iff.mp hq).1
    have mq := List.mem_of_getElem? hq
    have g := gd q mq
    refine ⟨.ref L, rfl, .inl ⟨rfl, _, .inl (.inl h3)⟩, fun o1 ho1 => fun o2 ho2 => ⟨upd_same, [(Sum.inr "zz", .int 0)], rfl, (by show 1 ≤ 15; decide), (by show 4 ≤ sizeLine; decide), fun tp htp => ⟨tp, rfl, ⟨_, .inl (.inl upd_same)⟩, fun La hD => ?_⟩⟩⟩
    have x1 : Ex H3 (upd H3 o1 (.dK [])) := Ex.new ho1
    have f1 : H o1 = none ∧ o1 ≠ L := ⟨fresh_back e3 ho1, (ne_of_none h3 ho1).symm⟩
    have q1 : Dc (fun x => H x = none ∧ x ≠ L) gC (upd H3 o1 (.dK [])) 2 (.ref o1) (.ob fun _ => .nil) := Dc.ob (ms := []) (n := 1) f1 upd_same Mem.nil
    have h31 := x1 _ _ h3
    generalize (upd H3 o1 (.dK [])) = G1 at x1 q1 h31 ho2 htp hD ⊢
    have x2' : Ex G1 (upd (upd G1 o2 (.dK [])) o2 (.dK (mergeK [] [(Sum.inr "zz", .int 0)]))) := (Ex.new ho2).mut ho2 upd_same
    have q2 : Dc (fun x => H x = none ∧ x ≠ L) gC (upd (upd G1 o2 (.dK [])) o2 (.dK (mergeK [] [(Sum.inr "zz", .int 0)]))) 2 (.ref o2) (oneD "zz" (.sc (.int 0))) := dc_one (n := 1) (by decide +kernel) ⟨fresh_back (e3.trans x1) ho2, (ne_of_none h31 ho2).symm⟩ upd_same (Dc.sc (by decide +kernel))
    have h32 := x2' _ _ h31
    generalize (upd (upd G1 o2 (.dK [])) o2 (.dK (mergeK [] [(Sum.inr "zz", .int 0)]))) = G2 at x2' q2 h32 htp hD ⊢
    have x3' : Ex G2 (upd G2 tp (.tup [.int 77, .int 78, .ref o1, .ref o2])) := Ex.new htp
    have l3 : (upd G2 tp (.tup [.int 77, .int 78, .ref o1, .ref o2])) tp = some (.tup [.int 77, .int 78, .ref o1, .ref o2]) := upd_same
    have h33 := x3' _ _ h32
    generalize (upd G2 tp (.tup [.int 77, .int 78, .ref o1, .ref o2])) = G3 at x3' l3 h33 hD ⊢
    have e03 : Ex H G3 := e3.trans (x1.trans (x2'.trans x3'))
    have e33 : Ex H3 G3 := x1.trans (x2'.trans x3')
    have q1 := q1.ex (x2'.trans x3')
    have q2 := q2.ex x3'
    have tq := e03 _ _ (pl.tp q mq)
    have nLa : La ≠ L := (ne_of_none h33 hD).symm
    have ends : ∀ v ∈ ([.int 77, .int 78, .ref o1, .ref o2] : List V), ∃ d, Dc (fun x => H x = none ∧ x ≠ L ∧ G3 x ≠ none) gC G3 2 v d := fun v hv => by
      simp only [List.mem_cons, List.not_mem_nil, or_false] at hv
      rcases hv with rfl | rfl | rfl | rfl
      · exact ⟨_, Dc.sc (by decide +kernel)⟩
      · exact ⟨_, Dc.sc (by decide +kernel)⟩
      · exact ⟨_, q1.alloc.imp fun x hx => ⟨hx.1.1, hx.1.2, hx.2⟩⟩
      · exact ⟨_, q2.alloc.imp fun x hx => ⟨hx.1.1, hx.1.2, hx.2⟩⟩
    refine lc_tup (K := K) (a := tp) (xs := [.int 77, .int 78, .ref o1, .ref o2]) (fun c H7 => Ex G3 H7 ∧ ∃ ds : List (V × D), H7 La = some (.lst (ds.map (·.1))) ∧ (∀ x ∈ ds, Dc (fun x => (H x = none ∧ x ≠ L) ∧ x ≠ La) gC H7 (n + 1) x.1 x.2) ∧ ds.length = c) ⟨Ex.new hD, [], upd_same, (fun x hx => nomatch hx), rfl⟩ (fun c H7 _ z => .inl (.inl (z.1 _ _ l3))) (fun c y H7 hc z => ?_) fun H7 z => ?_
    · obtain ⟨e7, ds, h7, hds, hl7⟩ := z
      obtain ⟨d, hdy⟩ := ends y (List.mem_of_getElem? hc)
      have hc4 : c < 4 := (List.getElem?_eq_some_iff.mp hc).1
      refine ⟨rfl, t_yes ⟨.ref q.1, rfl, y, rfl, _, q.1, q.2, 2, y, d, rfl, e7 _ _ tq, g.1, hdy.ex e7, fun r H8 e8 hr8 => ?_⟩⟩
      have h8 := e8 _ _ h7
      have dr : Dc (fun x => (H x = none ∧ x ≠ L) ∧ x ≠ La) gC H8 (n + 1) r (nestD q.2 d) := (hr8.lift (by have := g.2; omega)).imp fun x hx => by
        rcases hx with ⟨y1, y2, y3⟩ | hx
        · exact ⟨⟨y1, y2⟩, fun z => y3 (by rw [z]; exact hD)⟩
        · exact ⟨⟨fresh_back (e03.trans e7) hx, (ne_of_none (e7 _ _ h33) hx).symm⟩, (ne_of_none h7 hx).symm⟩
      refine ⟨_, h8, (by rw [List.length_map, hl7]; exact Nat.lt_trans hc4 (by decide)), (e7.trans e8).mut hD h8, ds ++ [(r, nestD q.2 d)], by rw [upd_same, List.map_append]; rfl, fun x hx => ?_, by rw [List.length_append, hl7]; rfl⟩
      rcases List.mem_append.mp hx with hx | hx
      · exact ((hds x hx).ex e8).off fun z => z.2 rfl
      · rw [List.mem_singleton.mp hx]
        exact dr.off fun z => z.2 rfl
    · obtain ⟨e7, ds, h7, hds, hl7⟩ := z
      have h7L := e7 _ _ h33
      refine ⟨L, La, _, _, rfl, rfl, h7L, h7, ?_, ⟨_, _, rfl⟩, Ex.mut (e03.trans e7) hL h7L, rs ++ ds, by rw [upd_same, List.map_append], fun x hx => ?_, ?_⟩
      · rw [List.length_map, List.length_map, hl, hl7]
        exact Nat.le_trans (show 4 * i + 4 ≤ 8000008 by omega) (by decide)
      · rcases List.mem_append.mp hx with hx | hx
        · exact ((hd x hx).ex (e33.trans e7)).off fun z => z.2 rfl
        · exact ((hds x hx).imp fun x hx => hx.1).off fun z => z.2 rfl
      · rw [List.length_append, hl, hl7]
        show 4 * i + 4 = 4 * (i + 1)
        omega
  · rintro σ H3 ⟨⟨x2, x3, rfl⟩, e3, rs, h3, hd, hl⟩
    exact ⟨.ref L, rfl, kq L H3 rs e3 h3 fun x hx => (hd x hx).imp fun y hy => hy.1⟩
theorem ok_issame {n k : Nat} {f fdo fp fr : Addr} {fd ddo dp dr : FuncData} (hn : n ≤ 5) (T : Bi mg) (Dd : Df K mg "_law_is_same" sIsSame ["_law_row", "_law_other"] f fd) (Ddo : Df K mg "_law_documents" sDocus ["_law_paths_here"] fdo ddo) (Dp : Df K mg "_law_paths" sCPaths ["_law_row"] fp dp) (Dr : Df K mg "_law_run" sLRun ["_law_document_here", "_law_row"] fr dr)
    (gD : FnOk P w K mg base CX0 k fdo ddo ["_law_paths_here"] (spDocus n)) (gP : FnOk P w K mg base CX0 k fp dp ["_law_row"] (spCPaths n)) (gR : FnOk P w K mg base CX0 k fr dr ["_law_document_here", "_law_row"] (spCRun gC (n + 1))) : FnOk P w K mg base CX0 (k + 1) f fd ["_law_row", "_law_other"] (spIsSame n) := by
  refine Dd.F.ok scIsSame (fun vs H Q E h => ?_) (fun cdv A outer s H vs Q E hr h => ?_)
  · obtain ⟨_, _, a, b, _, _, rfl, _⟩ := h
    rfl
  obtain ⟨S1, S2, a, b, rs, ss, rfl, ha, hb, hrs, hss, l1, l2, heq, kq⟩ := h
  refine ⟨_, (pss_cons (ps_for PassesOwn.never rfl (pi_list (pe_call gD hr rfl Ddo.m Ddo.F.kp Ddo.b .nil pass0 (pa_cons (pe_call gP hr rfl Dp.m Dp.F.kp Dp.b .nil pass0 (pa_cons (pe_op op_cat (pv 0) (pv 1)) pa_nil)) pa_nil))) (pg_name (i := 2) scIsSame.nd rfl (Or.inl rfl)) (pss_one (ps_if (pt_cmpR (op_neD2 hr.units) (pe_call gR hr rfl Dr.m Dr.F.kp Dr.b .nil pass0 (pa_cons (pv 2) (pa_cons (pv 0) pa_nil))) (pe_call gR hr rfl Dr.m Dr.F.kp Dr.b .nil pass0 (pa_cons (pv 2) (pa_cons (pv 1) pa_nil))) (nomark _)) (pss_one (ps_ret pe_bl)) pss_nil)))
    (pss_one (ps_ret pe_bl))), ?_⟩
  refine ⟨.ref a, rfl, .ref b, rfl, a, b, _, _, rfl, rfl, ha, hb, ?_, fun c hc => ?_⟩
  · rw [List.length_map, List.length_map]
    exact Nat.le_trans (show _ ≤ 100 by omega) (by decide)
  have e1 : Ex H (upd H c (.lst (rs.map (·.1) ++ ss.map (·.1)))) := Ex.new hc
  refine ⟨(fun x => S1 x ∨ S2 x), c, rs ++ ss, rfl, by rw [upd_same, List.map_append], fun r hr' => ?_, by rw [List.length_append]; omega, hn, fun L H2 qs e2 pl gd ln => ?_⟩
  · rcases List.mem_append.mp hr' with hr' | hr'
    · exact ((hrs r hr').imp fun x hx => .inl hx).ex e1
    · exact ((hss r hr').imp fun x hx => .inr hx).ex e1
  refine ⟨L, qs, rfl, pl, gd, ln, fun M H3 ds e3 h3 hds => ?_⟩
  have e02 : Ex H H2 := e1.trans e2
  have e03 : Ex H H3 := e02.trans e3
  refine ⟨M, rfl, ⟨_, .inl (.inl h3)⟩, ?_⟩
  refine for_list (K := K) (a := M) (xs := ds.map (·.1)) (fun i σ H4 => (∃ x, σ = [some (.ref a), some (.ref b), x]) ∧ Ex H3 H4) ⟨⟨_, rfl⟩, Ex.refl _⟩ (fun i σ H4 _ q => .inl (.inl (q.2 _ _ h3))) ?_ ?_
  · rintro i y σ H4 hi ⟨⟨x, rfl⟩, e4⟩
    obtain ⟨q, hq, rfl⟩ : ∃ q, ds[i]? = some q ∧ y = q.1 := by
      rw [List.getElem?_map] at hi
      obtain ⟨q, h1, h2⟩ := Option.map_eq_some_iff.mp hi
      exact ⟨q, h1, h2.symm⟩
    have e04 := e03.trans e4
    have dq := (hds q (List.mem_of_getElem? hq)).ex e4
    have no : ∀ {S : Addr → Prop} x, Nw H2 x → (S x ∧ Nt H x) → False := fun x h1 h2 => by
      obtain ⟨o, ho, _⟩ := h2.2
      exact e02.ne x (by rw [ho]; exact fun z => nomatch z) h1
    refine ⟨q.1, rfl, .ref a, rfl, Nw H2, (fun x => S1 x ∧ Nt H x), q.1, q.2, a, rs, rfl, dq, e04 _ _ ha, fun r hr' => ((hrs r hr').nt.ex e04).lift (by omega), fun x h1 h2 => (no (S := S1) x h1 h2).elim, fun u H6 Su e6 hu => ?_⟩
    have e06 := e04.trans e6
    refine ⟨q.1, rfl, .ref b, rfl, Nw H2, (fun x => S2 x ∧ Nt H x), q.1, q.2, b, ss, rfl, dq.ex e6, e06 _ _ hb, fun r hr' => ((hss r hr').nt.ex e06).lift (by omega), fun x h1 h2 => (no (S := S2) x h1 h2).elim, fun u2 H7 Su2 e7 hu2 => ?_⟩
    refine ⟨_, _, gC, gC, n + 1, n + 1, _, _, by omega, hu.ex e7, hu2, _, rfl, ?_⟩
    rw [heq q.2, deq_iff.mpr rfl]
    exact iteF ⟨⟨_, rfl⟩, e4.trans (e6.trans e7)⟩
  · rintro σ H4 ⟨⟨x, rfl⟩, e4⟩
    exact kq H4 (e03.trans e4)
end
end TP

namespace TP
open PySem PySem.Spec PyProof.Rows L2
/-! ### what is spoilt -/
abbrev sLSpoil : Stmt := topS 32
def kSp : List Str := ["a", "b", "c", "keep", "drop", "a.b", "zz", "q"]
def GoodK (ms : List (Str × V)) : Prop := (ms.map (·.1)).Nodup ∧ ∀ k ∈ ms.map (·.1), k ∈ kSp
/-- what may be spoilt: it lies in T, its lists are no longer than L -/
def Tr (T : Addr → Prop) (L : Nat) (H : Hp) : Nat → V → Prop
  | 0, v => isSc v = true
  | n + 1, v => isSc v = true ∨ (∃ a xs, v = .ref a ∧ T a ∧ H a = some (.lst xs) ∧ xs.length ≤ L) ∨ ∃ a ms, v = .ref a ∧ T a ∧ H a = some (.dK (kvsOf ms)) ∧ GoodK ms ∧ ∀ k u, valV ms k = some u → Tr T L H n u
structure Stp (T : Addr → Prop) (c : Nat) (H H' : Hp) : Prop where
  out : ∀ b o, ¬ T b → H b = some o → H' b = some o
  al : ∀ b, T b → H b ≠ none → H' b ≠ none
  ls : ∀ a xs, T a → H a = some (.lst xs) → ∃ ys, H' a = some (.lst ys) ∧ ys.length ≤ xs.length + c
  dk : ∀ a ms, T a → H a = some (.dK (kvsOf ms)) → ∃ ms', H' a = some (.dK (kvsOf ms')) ∧ (GoodK ms → GoodK ms') ∧ (∀ k u, valV ms' k = some u → isSc u = true ∨ valV ms k = some u) ∧ ∀ k, valV ms' k = none → valV ms k = none
theorem Stp.refl {T c H} : Stp T c H H := ⟨fun _ _ _ h => h, fun _ _ h => h, fun a xs _ h => ⟨xs, h, by omega⟩, fun a ms _ h => ⟨ms, h, fun g => g, fun _ _ h => .inr h, fun _ h => h⟩⟩
theorem Stp.trans {T c1 c2 H H1 H2} (x : Stp T c1 H H1) (y : Stp T c2 H1 H2) : Stp T (c1 + c2) H H2 := by
  refine ⟨fun b o n h => y.out b o n (x.out b o n h), fun b t h => y.al b t (x.al b t h), fun a xs t h => ?_, fun a ms t h => ?_⟩
  · obtain ⟨ys, h1, l1⟩ := x.ls a xs t h
    obtain ⟨zs, h2, l2⟩ := y.ls a ys t h1
    exact ⟨zs, h2, by omega⟩
  · obtain ⟨m1, h1, g1, s1, n1⟩ := x.dk a ms t h
    obtain ⟨m2, h2, g2, s2, n2⟩ := y.dk a m1 t h1
    exact ⟨m2, h2, fun g => g2 (g1 g), fun k u hu => (s2 k u hu).elim .inl fun z => s1 k u z, fun k z => n1 k (n2 k z)⟩
theorem Stp.mono {T c c' H H'} (h : c ≤ c') (x : Stp T c H H') : Stp T c' H H' := ⟨x.out, x.al, fun a xs t z => let ⟨ys, h1, l1⟩ := x.ls a xs t z; ⟨ys, h1, by omega⟩, x.dk⟩
theorem Tr.of_sc {T L H v} (h : isSc v = true) : ∀ {n}, Tr T L H n v
  | 0 => h
  | _ + 1 => .inl h
theorem Tr.stp {T c H H'} (x : Stp T c H H') : ∀ {L n v}, Tr T L H n v → Tr T (L + c) H' n v
  | _, 0, _, h => h
  | L, n + 1, v, h => by
    rcases h with h | ⟨a, xs, e, t, r, l⟩ | ⟨a, ms, e, t, r, g, m⟩
    · exact .inl h
    · obtain ⟨ys, h1, l1⟩ := x.ls a xs t r
      exact .inr (.inl ⟨a, ys, e, t, h1, by omega⟩)
    · obtain ⟨m1, h1, g1, s1, _⟩ := x.dk a ms t r
      exact .inr (.inr ⟨a, m1, e, t, h1, g1 g, fun k u hu => (s1 k u hu).elim (fun z => Tr.of_sc z) fun z => (m k u z).stp x⟩)
theorem tr_of {T : Addr → Prop} {H : Hp} : ∀ {n v d}, Dc T gC H n v d → Tr T 2 H n v
  | 0, _, _, h => (show False from h).elim
  | n + 1, v, d, h => by
    rcases h with ⟨hv, _⟩ | ⟨a, xs, e, hs, r, hx, _⟩ | ⟨a, ms, f, e, hs, r, nd, ks, _, no, at'⟩
    · exact .inl (gC.sc _ hv)
    · exact .inr (.inl ⟨a, xs, e, hs, r, hx.1⟩)
    · exact .inr (.inr ⟨a, ms, e, hs, r, ⟨nd, fun k hk => by
        have := ks k hk
        simp only [gC, kSp, List.mem_cons, List.not_mem_nil, or_false] at this ⊢
        rcases this with z | z | z | z | z | z | z <;> simp [z]⟩, fun k u hu => tr_of (at' k u hu)⟩)
def cnt : Nat → Nat
  | 0 => 0
  | n + 1 => 1 + 8 * cnt n
section
variable [TabL] {P : Program} {w : World} {K : PySem.W.Frag} {mg : Str → Option Value} {base : Heap}
def spSpoil (n : Nat) : Sp := fun vs H Q _ => ∃ (T : Addr → Prop) (L : Nat) (v : V), vs = [v] ∧ (∀ a, T a → H a ≠ none) ∧ Tr T L H n v ∧ L + cnt n ≤ 10000000 ∧ ∀ H', Stp T (cnt n) H H' → Q .non H'
theorem scSpoil : FnScope ["_law_value", "_law_key"] ["_law_value"] (defScope sLSpoil) := ⟨rfl, rfl, rfl, by decide +kernel, rfl, by decide +kernel, by decide +kernel⟩
theorem ok_spoil {f : Addr} {fd : FuncData} (Dd : Df K mg "_law_spoil" sLSpoil ["_law_value"] f fd) (T' : Bi mg) : ∀ n, FnOk P w K mg base CX0 (n + 1) f fd ["_law_value"] (spSpoil n) := by
  intro n
  have ih : ∃ m, (n ≠ 0 → n = m + 1) ∧ FnOk P w K mg base CX0 n f fd ["_law_value"] (fun vs H Q E => n ≠ 0 ∧ spSpoil m vs H Q E) := by
    cases n with
    | zero => exact ⟨0, fun z => absurd rfl z, fn_zero fun vs H Q E z => z.1 rfl⟩
    | succ m => exact ⟨m, fun _ => rfl, (ok_spoil Dd T' m).imp fun vs H Q E z => z.2⟩
  obtain ⟨m', hm', ih⟩ := ih
  refine Dd.F.ok scSpoil (fun vs H Q E h => ?_) (fun cdv A outer s H vs Q E hr h => ?_)
  · obtain ⟨_, _, v, rfl, _⟩ := h
    rfl
  obtain ⟨T, L, v, rfl, al, ht, hL, k⟩ := h
  have hu := hu_of hr
  refine ⟨_, pss_one (ps_if (pt_val (pe_callB call_isi (by rfl) (T'.of "isinstance") (by decide +kernel) (pa_cons (pv 0) (pa_cons (pe_bltn (v := .ty "dict") (by rfl) (T'.of "dict") (by decide +kernel) rfl) pa_nil))))
      (pss_cons (ps_for PassesOwn.never rfl (pi_list (pe_callTy (call_listD rfl) (by rfl) (T'.of "list") (by decide +kernel) (pa_cons (pv 0) pa_nil))) (pg_name (i := 1) scSpoil.nd rfl (Or.inl rfl))
        (pss_one (ps_expr (pe_call ih hr rfl Dd.m Dd.F.kp Dd.b .nil pass0 (pa_cons (pe_dget hu (pv 0) (pv 1) (fun _ _ => rfl)) pa_nil)))))
      (pss_one (ps_dput hu (pv 0) pe_str pe_int rfl)))
      (pss_one (ps_if (pt_val (pe_callB call_isi (by rfl) (T'.of "isinstance") (by decide +kernel) (pa_cons (pv 0) (pa_cons (pe_bltn (v := .ty "list") (by rfl) (T'.of "list") (by decide +kernel) rfl) pa_nil))))
        (pss_one (ps_expr (pe_bm PySem.F.plainAttrs_list PySem.F.slot_list_append PySem.F.type_list_append mt_append (pv 0) (pa_cons pe_int pa_nil)))) pss_nil))), ?_⟩
  have sc_way : isSc v = true → ∃ t, TyX K H v t ∧ PySem.W.kitOne K t (.type "dict") = some false ∧ PySem.W.kitOne K t (.type "list") = some false := fun h => by
    obtain ⟨t, ht, ty⟩ := tyx_sc (K := K) (H := H) h
    refine ⟨_, ty, kit_ty ?_, kit_ty ?_⟩ <;> rcases ht with rfl | rfl | rfl <;> decide +kernel
  by_cases hsc : isSc v = true
  · obtain ⟨t, ty, k1, k2⟩ := sc_way hsc
    exact ⟨v, rfl, v, .ty "dict", t, _, _, rfl, .ty _, ty, k1, _, rfl, iteF ⟨v, rfl, v, .ty "list", t, _, _, rfl, .ty _, ty, k2, _, rfl, iteF (k H Stp.refl)⟩⟩
  cases n with
  | zero => exact absurd ht hsc
  | succ n =>
  have em := hm' (by omega)
  rcases ht with h | ⟨a, xs, rfl, ta, r, l⟩ | ⟨a, ms, rfl, ta, r, gd, mm⟩
  · exact absurd h hsc
  · refine ⟨_, rfl, .ref a, .ty "dict", _, _, _, rfl, .ty _, tyx_ls (.inl r), kit_ty (r := false) (by decide +kernel), _, rfl, iteF ⟨_, rfl, .ref a, .ty "list", _, _, _, rfl, .ty _, tyx_ls (.inl r), kit_ty (r := true) (by decide +kernel), _, rfl, iteT ?_⟩⟩
    refine ⟨_, rfl, .inl ⟨rfl, _, .inl (.inl r)⟩, a, _, _, rfl, rfl, r, ?_, ?_⟩
    · have : xs.length < 10000001 := by omega
      exact Nat.lt_of_lt_of_le this (by decide)
    · refine k _ ⟨fun b o nb e => ?_, fun b tb e => ?_, fun b ys tb e => ?_, fun b ms' tb e => ?_⟩
      · rw [upd_ne (fun z => nb (by rw [z]; exact ta))]
        exact e
      · by_cases z : b = a
        · rw [z, upd_same]; exact fun y => nomatch y
        · rw [upd_ne z]; exact e
      · by_cases z : b = a
        · subst z
          rw [r] at e
          injection e with e
          injection e with e
          subst e
          refine ⟨_, upd_same, ?_⟩
          rw [List.length_append]
          show xs.length + 1 ≤ xs.length + (1 + 8 * cnt n)
          omega
        · exact ⟨ys, by rw [upd_ne z]; exact e, by omega⟩
      · have z : b ≠ a := fun z => by rw [z, r] at e; cases e
        exact ⟨ms', by rw [upd_ne z]; exact e, fun g => g, fun _ _ h => .inr h, fun _ h => h⟩
  · refine ⟨_, rfl, .ref a, .ty "dict", _, _, _, rfl, .ty _, tyx_dk (.inl r), kit_ty (r := true) (by decide +kernel), _, rfl, iteT ?_⟩
    have hlen : ms.length ≤ 8 := by
      have := sub_len gd.1 gd.2
      rwa [List.length_map] at this
    have en : m' = n := by omega
    subst en
    refine ⟨_, rfl, a, kvsOf ms, rfl, .inl r, fun p hp => ⟨p, rfl, ⟨_, .inl (.inl upd_same)⟩, ?_⟩⟩
    rw [keys_inK]
    have npT : ¬ T p := fun z => al p z hp
    refine for_list (K := K) (a := p) (xs := ms.map fun q => V.str q.1) (fun i σ H3 => (∃ y, σ = [some (.ref a), y]) ∧ Stp T (i * cnt m') H H3 ∧ H3 p = some (.lst (ms.map fun q => V.str q.1)) ∧ ∀ b, T b → H3 b ≠ none) ?_ (fun i σ H3 _ q => .inl (.inl q.2.2.1)) ?_ ?_
    · refine ⟨⟨_, rfl⟩, ?_, upd_same, fun b tb => ?_⟩
      · have nb : ∀ b, T b → b ≠ p := fun b tb z => npT (by rw [← z]; exact tb)
        have e0 : Ex H (upd H p (.lst (ms.map fun q => V.str q.1))) := Ex.new hp
        exact ⟨fun b o _ e => by rw [upd_ne (ne_of_none e hp)]; exact e, fun b tb e => by rw [upd_ne (nb b tb)]; exact e, fun b ys tb e => ⟨ys, e0 b _ e, by omega⟩, fun b ms' tb e => ⟨ms', e0 b _ e, fun g => g, fun _ _ h => .inr h, fun _ h => h⟩⟩
      · rw [upd_ne (fun z => npT (by rw [← z]; exact tb))]
        exact al b tb
    · rintro i x σ H3 hi ⟨⟨y, rfl⟩, st, h3, al3⟩
      obtain ⟨⟨key, u⟩, hi', rfl⟩ : ∃ q : Str × V, ms[i]? = some q ∧ x = .str q.1 := by
        rw [List.getElem?_map] at hi
        obtain ⟨q, h1, h2⟩ := Option.map_eq_some_iff.mp hi
        exact ⟨q, h1, h2.symm⟩
      have hilt : i < ms.length := (List.getElem?_eq_some_iff.mp hi').1
      have hku : valV ms key = some u := valV_of_mem gd.1 (List.mem_of_getElem? hi')
      obtain ⟨m3, r3, g3, s3, n3⟩ := st.dk a ms ta r
      cases e3 : valV m3 key with
      | none =>
        have := n3 key e3
        rw [hku] at this
        cases this
      | some u3 =>
        have t3 : Tr T (L + i * cnt m') H3 m' u3 := (s3 key u3 e3).elim (fun z => Tr.of_sc z) fun z => (mm key u3 z).stp st
        have hb : L + i * cnt m' + cnt m' ≤ 10000000 := by
          have h1 : i * cnt m' ≤ 7 * cnt m' := Nat.mul_le_mul_right _ (by omega)
          have h2 : cnt (m' + 1) = 1 + 8 * cnt m' := rfl
          omega
        refine ⟨.ref a, rfl, .str key, rfl, a, u3, rfl, .inl ⟨_, Sum.inr key, .inl r3, rfl, by rw [valV_inK]; exact e3.symm⟩, by omega, T, L + i * cnt m', u3, rfl, al3, t3, hb, fun H4 st4 => ?_⟩
        refine ⟨⟨_, rfl⟩, ?_, st4.out p _ npT h3, fun b tb => st4.al b tb (al3 b tb)⟩
        rw [Nat.succ_mul]
        exact st.trans st4
    · rintro σ H3 ⟨⟨y, rfl⟩, st, h3, al3⟩
      obtain ⟨m3, r3, g3, s3, n3⟩ := st.dk a ms ta r
      have gd3 := g3 gd
      have hl3 : m3.length ≤ 8 := by
        have := sub_len gd3.1 gd3.2
        rwa [List.length_map] at this
      refine ⟨.ref a, rfl, a, _, rfl, DPut.k (k := Sum.inr ("q" : Str)) r3 ?_, k _ ?_⟩
      · rw [List.length_map]
        exact Nat.lt_of_le_of_lt hl3 (by decide)
      · have fin : Stp T 0 H3 (upd H3 a (.dK (putK (kvsOf m3) (Sum.inr ("q" : Str)) (.int 5)))) := by
          refine ⟨fun b o nb e => ?_, fun b tb e => ?_, fun b ys tb e => ?_, fun b ms' tb e => ?_⟩
          · rw [upd_ne (fun z => nb (by rw [z]; exact ta))]
            exact e
          · by_cases z : b = a
            · rw [z, upd_same]; exact fun y => nomatch y
            · rw [upd_ne z]; exact e
          · have z : b ≠ a := fun z => by rw [z, r3] at e; cases e
            exact ⟨ys, by rw [upd_ne z]; exact e, by omega⟩
          · by_cases z : b = a
            · subst z
              rw [r3] at e
              have e' : kvsOf m3 = kvsOf ms' := by injection e with e; injection e
              have vv : ∀ j, valV ms' j = valV m3 j := fun j => by rw [← valV_inK, ← valV_inK, e']
              refine ⟨putK ms' "q" (.int 5), by rw [upd_same, e', putK_inK], fun g => ⟨nodup_put _ _ g.1, fun j hj => ?_⟩, fun j u hu => ?_, fun j hj => ?_⟩
              · rcases (keys_put ms' "q" (.int 5) j).mp hj with z | z
                · rw [z]; decide +kernel
                · exact g.2 j z
              · rw [valV_put] at hu
                by_cases z : j = "q"
                · rw [if_pos z] at hu; cases hu; exact .inl rfl
                · rw [if_neg z] at hu; exact .inr hu
              · rw [valV_put] at hj
                by_cases z : j = "q"
                · rw [if_pos z] at hj; cases hj
                · rw [if_neg z] at hj; exact hj
            · exact ⟨ms', by rw [upd_ne z]; exact e, fun g => g, fun _ _ h => .inr h, fun _ h => h⟩
        refine (st.trans fin).mono ?_
        rw [List.length_map]
        have h1 : ms.length * cnt m' ≤ 8 * cnt m' := Nat.mul_le_mul_right _ hlen
        show ms.length * cnt m' + 0 ≤ 1 + 8 * cnt m'
        omega
end
end TP

namespace TP
open PySem PySem.Spec PyProof.Rows L2
abbrev sTurned : Stmt := topS 31
/-! ### _law_turned: a copy whose keys stand the other way round -/
theorem valV_rev {ms : List (Str × V)} (nd : (ms.map (·.1)).Nodup) (k : Str) : valV ms.reverse k = valV ms k := by
  have nd' : (ms.reverse.map (·.1)).Nodup := by rw [List.map_reverse]; exact (List.reverse_perm _).nodup_iff.mpr nd
  cases e : valV ms k with
  | some u => exact valV_of_mem nd' (List.mem_reverse.mpr (valV_mem e))
  | none =>
    cases e2 : valV ms.reverse k with
    | none => rfl
    | some u => rw [valV_of_mem nd (List.mem_reverse.mp (valV_mem e2))] at e; cases e
theorem Mem.rev {S G H n ms f} (h : Mem S G H n ms f) : Mem S G H n ms.reverse f :=
  ⟨by rw [List.map_reverse]; exact (List.reverse_perm _).nodup_iff.mpr h.nd, fun k hk => h.ks k (by rw [List.map_reverse] at hk; exact List.mem_reverse.mp hk), fun k hk => h.no k (by rw [valV_rev h.nd] at hk; exact hk), fun k u hu => h.at' k u (by rw [valV_rev h.nd] at hu; exact hu)⟩
abbrev nTurned : List Str := ["_law_patch", "_law_key"]
theorem scTurned : FnScope nTurned ["_law_patch"] (defScope sTurned) := ⟨rfl, rfl, rfl, by decide +kernel, rfl, by decide +kernel, by decide +kernel⟩
section
variable [TabL] {P : Program} {w : World} {K : PySem.W.Frag} {mg : Str → Option Value} {base : Heap}
theorem ok_turned {f : Addr} {fd : FuncData} (T : Bi mg) (Dd : Df K mg "_law_turned" sTurned ["_law_patch"] f fd) {G : Gen} (hG : G.KS.length ≤ 5000) : ∀ n, FnOk P w K mg base CX0 n f fd ["_law_patch"] (spCopied G n)
  | 0 => fn_zero fun vs H Q E ⟨_, _, _, _, h, _⟩ => h
  | n + 1 => by
    have ih := ok_turned T Dd hG n
    refine Dd.F.ok scTurned (fun vs H Q E h => ?_) (fun cdv A outer s H vs Q E hr h => ?_)
    · obtain ⟨S, v, d, rfl, _⟩ := h
      rfl
    obtain ⟨S, v, d, rfl, hv, k⟩ := h
    have hu := hu_of hr
    refine ⟨_, (pss_cons (ps_if (pt_val (pe_callB (id := "isinstance") (r := rIsi K) call_isi (by rfl) (T.of "isinstance") (by decide +kernel) (pa_cons (pv 0) (pa_cons (pe_bltn (v := .ty "dict") (by rfl) (T.of "dict") (by decide +kernel) rfl) pa_nil)))) (pss_one (ps_ret (pe_callTy (call_dictP rfl) (by rfl) (T.of "dict") (by decide +kernel) (pa_cons (pe_lc (own := [("_law_key", 1)]) (g := gName 1) (tt := tYes) rfl scTurned.nd (pi_list (pe_revL (pe_callTy (call_listD rfl) (by rfl) (T.of "list") (by decide +kernel) (pa_cons (pv 0) pa_nil)))) (blkOk_by (N := nTurned) (sc := defScope sTurned) (by decide +kernel)) (fun _ _ _ _ _ => pg_name (i := 1) scTurned.nd rfl (Or.inl rfl)) (fun _ _ _ _ _ => pts_nil) (fun _ _ _ _ _ => (pe_tup (pa_cons (pv 1) (pa_cons (pe_call ih hr rfl Dd.m Dd.F.kp Dd.b .nil pass0 (pa_cons (pe_dget hu (pv 0) (pv 1) (fun _ _ => rfl)) pa_nil)) pa_nil))))) pa_nil)))) pss_nil)
    (pss_one (ps_ret (pe_ifExp (pt_val (pe_callB (id := "isinstance") (r := rIsi K) call_isi (by rfl) (T.of "isinstance") (by decide +kernel) (pa_cons (pv 0) (pa_cons (pe_bltn (v := .ty "list") (by rfl) (T.of "list") (by decide +kernel) rfl) pa_nil)))) (pe_callTy call_list_of (by rfl) (T.of "list") (by decide +kernel) (pa_cons (pv 0) pa_nil)) (pv 0))))), ?_⟩
    obtain ⟨t1, ty1, kit1⟩ := isiD K hv
    obtain ⟨t2, ty2, kit2⟩ := isiL K hv
    refine ⟨v, rfl, v, .ty "dict", t1, _, _, rfl, .ty _, ty1, kit1, _, rfl, ?_⟩
    refine hv.cases (fun m e hs ed => ?_) (fun m a xs e ev hS r hx ed => ?_) (fun m a ms f e ev hS r M ed => ?_)
    · subst ed
      refine iteF ⟨v, rfl, v, .ty "list", t2, _, _, rfl, .ty _, ty2, kit2, _, rfl, iteF ⟨v, rfl, ?_⟩⟩
      exact k v H (Ex.refl H) (by cases e; exact Dc.sc hs)
    · subst ed; subst ev
      refine iteF ⟨_, rfl, .ref a, .ty "list", t2, _, _, rfl, .ty _, ty2, kit2, _, rfl, iteT ⟨_, rfl, a, xs, rfl, .inl (.inl (.inl r)), fun l hl => ?_⟩⟩
      exact k _ _ (Ex.new hl) (by cases e; exact Dc.ls hl upd_same hx)
    subst ed; subst ev; cases e
    have vr := fun k => valV_rev M.nd k
    have M := M.rev
    refine iteT ⟨_, rfl, a, kvsOf ms, rfl, .inl r, fun p hp => ⟨p, _, rfl, .inl (.inl upd_same), fun p2 hp2 => ?_⟩⟩
    rw [keys_inK, ← List.map_reverse] at *
    have e2 : Ex H (upd (upd H p (.lst (ms.map fun q => V.str q.1))) p2 (.lst (ms.reverse.map fun q => V.str q.1))) := (Ex.new hp).trans (Ex.new hp2)
    have l2 : (upd (upd H p (.lst (ms.map fun q => V.str q.1))) p2 (.lst (ms.reverse.map fun q => V.str q.1))) p2 = some (.lst (ms.reverse.map fun q => V.str q.1)) := upd_same
    generalize (upd (upd H p (.lst (ms.map fun q => V.str q.1))) p2 (.lst (ms.reverse.map fun q => V.str q.1))) = H1 at e2 l2 ⊢
    have r1 := e2 _ _ r
    obtain ⟨ks, hks⟩ : ∃ ks, ks = ms.reverse := ⟨_, rfl⟩
    rw [← hks] at M l2 vr
    have hml := M.len
    have M1 := M.ex e2
    refine ⟨p2, rfl, ⟨_, .inl (.inl l2)⟩, fun Da hD => ?_⟩
    refine lc_list (K := K) (a := p2) (xs := ks.map fun q => V.str q.1) (fun i H2 => Ex H1 H2 ∧ ∃ ps ms3, H2 Da = some (.lst (ps.map V.ref)) ∧ ps.length = i ∧ PairsAt H2 ps ms3 ∧ (∀ p ∈ ps, p ≠ Da) ∧ Mem (fun b => H1 b = none ∧ b ≠ Da) G H2 n ms3 (mix ks i f fun _ => .nil) ∧ ms3.map (·.1) = (ks.take i).map (·.1))
      ⟨Ex.new hD, [], [], upd_same, rfl, .nil, fun p hp => (nomatch hp), by rw [mix_zero]; exact Mem.nil, rfl⟩ (fun i H2 _ q => .inl (.inl (q.1 _ _ l2))) ?_ ?_
    · rintro i y H2 hi ⟨ex, ps, ms3, h2, hl, hps, hne, M2, hk⟩
      obtain ⟨⟨key, u⟩, hq, rfl⟩ : ∃ q : Str × V, ks[i]? = some q ∧ y = .str q.1 := by
        rw [List.getElem?_map] at hi
        obtain ⟨q, h1, h2⟩ := Option.map_eq_some_iff.mp hi
        exact ⟨q, h1, h2.symm⟩
      have hku : valV ks key = some u := valV_of_mem M.nd (List.mem_of_getElem? hq)
      have hku2 : valV ms key = some u := by rw [← vr]; exact hku
      refine ⟨rfl, t_yes ?_⟩
      refine ⟨.str key, rfl, .ref a, rfl, .str key, rfl, a, u, rfl, .inl ⟨_, Sum.inr key, .inl (ex a _ r1), rfl, by rw [valV_inK]; exact hku2.symm⟩, S, u, f key, rfl, (M1.at' key u hku).ex ex, fun z H5 e5 hz => ⟨(by show 2 ≤ sizeLine; decide), fun p hp => ?_⟩⟩
      have h5 := e5 Da _ h2
      have nz : Dc (fun b => H1 b = none ∧ b ≠ Da) G H5 n z (f key) := hz.imp fun b hb => ⟨fresh_back ex hb, (ne_of_none h2 hb).symm⟩
      have npD : p ≠ Da := (ne_of_none h5 hp).symm
      have new : valV ms3 key = none := valV_none_of (by rw [hk]; exact not_taken M.nd hq)
      have e6 : Ex H2 (upd H5 p (.tup [.str key, z])) := e5.trans (Ex.new hp)
      refine ⟨ps.map V.ref, by rw [upd_ne npD.symm]; exact h5, ?_, Ex.mut (ex.trans e6) hD (by rw [upd_ne npD.symm]; exact h5), ps ++ [p], ms3 ++ [(key, z)], ?_, ?_, ?_, ?_, ?_, ?_⟩
      · have := (List.getElem?_eq_some_iff.mp hq).1
        rw [List.length_map, hl]
        exact Nat.lt_of_le_of_lt (show i ≤ 5000 by omega) (by decide)
      · rw [upd_same, List.map_append]; rfl
      · rw [List.length_append, hl]; rfl
      · refine Paired.snoc (pairs_map hps fun q m hq hqm => ?_) ?_
        · rw [upd_ne (hne q hq)]
          exact e6 q _ hqm
        · show (upd _ Da _) p = _
          rw [upd_ne npD, upd_same]
      · intro q hq
        rcases List.mem_append.mp hq with hq | hq
        · exact hne q hq
        · rw [List.mem_singleton.mp hq]; exact npD
      · rw [← mix_succ hq, ← putK_new z new]
        exact (((M2.ex e5).put (M.ks key (List.mem_map.mpr ⟨_, List.mem_of_getElem? hq, rfl⟩)) nz).ex (Ex.new hp)).off fun z => z.2 rfl
      · rw [List.map_append, hk, List.take_add_one, hq]
        simp
    · rintro H2 ⟨ex, ps, ms3, h2, hl, hps, hne, M2, hk⟩
      refine ⟨Da, ps, kvsOf ms3, rfl, .inl (.inl h2), PairsAt.toK hps, fun Fa hF => ?_⟩
      rw [List.length_map, mix_all fun k hk => M.no k (valV_none_of hk)] at M2
      rw [show mergeK [] (kvsOf ms3) = kvsOf ms3 from merge_nodup ms3 [] (by simpa using M2.nd)]
      exact k _ _ (e2.trans (ex.trans (Ex.new hF))) (Dc.ob (fresh_back (e2.trans ex) hF) upd_same ((M2.imp fun b hb => fresh_back e2 hb.1).ex (Ex.new hF)))
end
end TP

namespace TP
open PySem PySem.Spec PyProof.Rows L2
abbrev sLatest : Stmt := topS 17
/-! ### latest -/
noncomputable def selL : List D → Nat → List D
  | _, 0 => []
  | [], _ + 1 => []
  | d :: ds, i + 1 => (if notInL d ds then [d] else []) ++ selL ds i
noncomputable def latestD (ds : List D) : List D := selL ds ds.length
theorem selL_zero : ∀ ds, selL ds 0 = []
  | [] => rfl
  | _ :: _ => rfl
theorem selL_succ : ∀ {ds : List D} {i : Nat} {d : D}, ds[i]? = some d → selL ds (i + 1) = selL ds i ++ if notInL d (ds.drop (i + 1)) then [d] else []
  | [], _, _, h => by simp at h
  | e :: ds, 0, d, h => by
    have h : e = d := by simpa using h
    subst h
    show (if notInL e ds then [e] else []) ++ selL ds 0 = [] ++ _
    rw [selL_zero, List.append_nil, List.nil_append]
    rfl
  | e :: ds, i + 1, d, h => by
    have h : ds[i]? = some d := by simpa using h
    show (if notInL e ds then [e] else []) ++ selL ds (i + 1) = ((if notInL e ds then [e] else []) ++ selL ds i) ++ _
    rw [selL_succ h, List.append_assoc]
    rfl
theorem selL_len : ∀ (ds : List D) (i : Nat), (selL ds i).length ≤ i
  | ds, 0 => by rw [selL_zero]; exact Nat.le_refl _
  | [], _ + 1 => Nat.zero_le _
  | d :: ds, i + 1 => by
    show ((if notInL d ds then [d] else []) ++ selL ds i).length ≤ i + 1
    have := selL_len ds i
    rw [List.length_append]
    split <;> simp <;> omega
theorem cut_after {α : Type} (xs : List α) (f : α → V) (i : Nat) (hi : i < xs.length) : cutV (xs.map f) (some ((i : Int) + 1)) none = (xs.drop (i + 1)).map f := by
  unfold cutV
  have e1 : HT.sIx (xs.map f).length 0 (some ((i : Int) + 1)) = i + 1 := by
    show (if ((i : Int) + 1) < 0 then (((i : Int) + 1) + ((xs.map f).length : Int)).toNat else min ((i : Int) + 1).toNat (xs.map f).length) = i + 1
    rw [if_neg (by omega), List.length_map]
    omega
  have e2 : HT.sIx (xs.map f).length (xs.map f).length none = (xs.map f).length := rfl
  rw [e1, e2, List.map_drop]
  exact List.take_of_length_le (by rw [List.length_drop]; exact Nat.le_refl _)
def spLatest [TabL] (n : Nat) : Sp := fun vs H Q _ => ∃ (S : Addr → Prop) (a : Addr) (rs : List (V × D × Nat)), vs = [.ref a] ∧ RowAt S gC H n a rs ∧ H a = some (.lst (rs.map (·.1))) ∧ n ≤ 30 ∧
  ∀ r H' (fs : List (V × D)), Ex H H' → H r = none → H' r = some (.lst (fs.map (·.1))) → (∀ x ∈ fs, Dc (fun b => H b = none ∧ b ≠ r) gC H' n x.1 x.2) → fs.map (·.2) = latestD (rs.map (·.2.1)) → Q (.ref r) H'
abbrev nLatest : List Str := ["row", "place", "patch"]
theorem scLatest : FnScope nLatest ["row"] (defScope sLatest) := ⟨rfl, rfl, rfl, by decide +kernel, rfl, by decide +kernel, by decide +kernel⟩
section
variable [TabL] {P : Program} {w : World} {K : PySem.W.Frag} {mg : Str → Option Value} {base : Heap}
set_option maxHeartbeats 0 in
theorem ok_latest {n k : Nat} {f fc fr : Addr} {fd dc dr : FuncData} (T : Bi mg) (hEn : mg "enumerate" = none) (Dd : Df K mg "latest" sLatest ["row"] f fd) (Dc' : Df K mg "copied" sCopied ["document"] fc dc) (Dr : Df K mg "check_row" sCheckRow ["row"] fr dr)
    (gC' : FnOk P w K mg base CX0 k fc dc ["document"] (spCopied gC n)) (gR : FnOk P w K mg base CX0 k fr dr ["row"] (spRow gC n)) : FnOk P w K mg base CX0 (k + 1) f fd ["row"] (spLatest n) := by
  refine Dd.F.ok scLatest (fun vs H Q E h => ?_) (fun cdv A outer s H vs Q E hr h => ?_)
  · obtain ⟨_, a, _, rfl, _⟩ := h
    rfl
  obtain ⟨S, a, rs, rfl, hrow, ha, hn, kq⟩ := h
  refine ⟨_, (pss_cons (ps_expr (pe_call gR hr rfl Dr.m Dr.F.kp Dr.b .nil pass0 (pa_cons (pv 0) pa_nil)))
    (pss_one (ps_ret (pe_lc (own := [("place", 1), ("patch", 2)]) (g := gTup K 2 (gCons (gName 1) (gCons (gName 2) gNil))) (tt := _) rfl scLatest.nd (pi_enum (by rfl) hEn (pa_cons (pv 0) pa_nil)) (blkOk_by (N := nLatest) (sc := defScope sLatest) (by decide +kernel)) (fun _ _ _ _ _ => pg_tup rfl (pgs_cons (pg_name (i := 1) scLatest.nd rfl (Or.inl rfl) (Or.inr rfl)) (pgs_cons (pg_name (i := 2) scLatest.nd rfl (Or.inl rfl) (Or.inr rfl)) pgs_nil))) (fun _ _ _ _ _ => pts_one (pt_cmpR (op_notInDL hr.units) (pv 2) (pe_slice (show SlR _ (rSlL K) from sl_list) (pv 0) (po_some (pe_op op_add (pv 1) pe_int)) po_none) (by rfl))) (fun _ _ _ _ _ => (pe_call gC' hr rfl Dc'.m Dc'.F.kp Dc'.b .nil pass0 (pa_cons (pv 2) pa_nil))))))), ?_⟩
  refine ⟨.ref a, rfl, S, a, rs.map fun r => (r.1, r.2.1, r.2.2), rfl, by simpa using hrow, fun H1 e1 => ⟨.ref a, rfl, a, _, rfl, .inl (.inl (e1 _ _ ha)), fun La hD => ?_⟩⟩
  have noL : H La = none := fresh_back e1 hD
  have ha1 := e1 _ _ ha
  have hml := hrow.len
  have x1 : Ex H (upd H1 La (.lst [])) := e1.trans (Ex.new hD)
  refine lc_it (walk_enum (K := K) (a := a) (xs := rs.map (·.1))) (fun i H2 => Ex H1 H2 ∧ ∃ fs : List (V × D), H2 La = some (.lst (fs.map (·.1))) ∧ (∀ x ∈ fs, Dc (fun b => H b = none ∧ b ≠ La) gC H2 n x.1 x.2) ∧ fs.map (·.2) = selL (rs.map (·.2.1)) i)
    ⟨Ex.new hD, [], upd_same, (fun x hx => nomatch hx), by rw [selL_zero]; rfl⟩ (fun i H2 _ q => .inl (.inl (q.1 _ _ ha1))) ?_ ?_
  · rintro i x H2 H3 hi ⟨e2, fs, h2, hfs, hsel⟩ ⟨Tp, x1', y1, rfl, hT, rfl, hx1, hy1⟩
    cases hx1
    have hy1 : (rs.map (·.1))[i]? = some y1 := hy1
    obtain ⟨r, hr', rfl⟩ : ∃ r, rs[i]? = some r ∧ y1 = r.1 := by
      rw [List.getElem?_map] at hy1
      obtain ⟨r, h1, h2⟩ := Option.map_eq_some_iff.mp hy1
      exact ⟨r, h1, h2.symm⟩
    have hil : i < rs.length := (List.getElem?_eq_some_iff.mp hr').1
    have hdi : (rs.map (·.2.1))[i]? = some r.2.1 := by rw [List.getElem?_map, hr']; rfl
    have e3 : Ex H1 (upd H2 Tp (.tup [.int (i : Nat), r.1])) := e2.trans (Ex.new hT)
    have h3 : (upd H2 Tp (.tup [.int (i : Nat), r.1])) La = some (.lst (fs.map (·.1))) := (Ex.new hT) _ _ h2
    have hfs3 := fun x hx => (hfs x hx).ex (Ex.new hT (o := .tup [.int (i : Nat), r.1]))
    refine ⟨Tp, _, rfl, .inl (.inl upd_same), rfl, ?_⟩
    generalize (upd H2 Tp (.tup [.int (i : Nat), r.1])) = H3 at e3 h3 hfs3 ⊢
    have dr := (hrow.dc r (List.mem_of_getElem? hr')).1
    obtain ⟨ss, hss⟩ : ∃ ss : List (V × D), ss = (rs.drop (i + 1)).map fun r => (r.1, r.2.1) := ⟨_, rfl⟩
    have ss1 : ss.map (·.1) = (rs.drop (i + 1)).map (·.1) := by rw [hss, List.map_map]; rfl
    have ss2 : ss.map (·.2) = (rs.map (·.2.1)).drop (i + 1) := by rw [hss, List.map_map, ← List.map_drop]; rfl
    have hfl : fs.length ≤ 5000 := by
      have := congrArg List.length hsel
      rw [List.length_map] at this
      have := selL_len (rs.map (·.2.1)) i
      omega
    refine ⟨_, _, rfl, _, _, rfl, rfl, rfl, r.1, rfl, .ref a, rfl, .int (i : Nat), rfl, (i : Nat), 1, rfl, rfl, _, rfl, a, _, rfl, .inl (.inl (e3 _ _ ha1)), fun p hp => ?_⟩
    have e4 : Ex H1 (upd H3 p (.lst (cutV (rs.map (·.1)) (some ((i : Int) + 1)) none))) := e3.trans (Ex.new hp)
    have l4 : (upd H3 p (.lst (cutV (rs.map (·.1)) (some ((i : Int) + 1)) none))) p = some (.lst (ss.map (·.1))) := by rw [upd_same, cut_after rs _ i hil, ss1]
    have h4 : (upd H3 p (.lst (cutV (rs.map (·.1)) (some ((i : Int) + 1)) none))) La = some (.lst (fs.map (·.1))) := (Ex.new hp) _ _ h3
    have hfs4 := fun x hx => (hfs3 x hx).ex (Ex.new hp (o := .lst (cutV (rs.map (·.1)) (some ((i : Int) + 1)) none)))
    generalize (upd H3 p (.lst (cutV (rs.map (·.1)) (some ((i : Int) + 1)) none))) = H4 at e4 l4 h4 hfs4 ⊢
    have e04 := e1.trans e4
    refine ⟨S, S, gC, gC, n, n, r.2.1, p, ss, rfl, by omega, dr.ex e04, ⟨l4, fun q hq => ?_⟩, _, rfl, ?_⟩
    · rw [hss] at hq
      obtain ⟨q', hq', rfl⟩ := List.mem_map.mp hq
      exact (hrow.dc q' (List.mem_of_mem_drop hq')).1.ex e04
    rw [ss2]
    by_cases c : notInL r.2.1 ((rs.map (·.2.1)).drop (i + 1)) = true
    · rw [c]
      refine iteT ⟨r.1, rfl, S, r.1, r.2.1, rfl, dr.ex e04, fun z H5 e5 hz => ?_⟩
      have h5 := e5 _ _ h4
      refine ⟨_, h5, ?_, Ex.mut (e4.trans e5) hD h5, fs ++ [(z, r.2.1)], by rw [upd_same, List.map_append]; rfl, fun x hx => ?_, ?_⟩
      · rw [List.length_map]
        exact Nat.lt_of_le_of_lt hfl (by decide)
      · rcases List.mem_append.mp hx with hx | hx
        · exact ((hfs4 x hx).ex e5).off fun z => z.2 rfl
        · rw [List.mem_singleton.mp hx]
          exact (hz.imp fun b hb => ⟨fresh_back e04 hb, (ne_of_none h4 hb).symm⟩).off fun z => z.2 rfl
      · rw [List.map_append, hsel, selL_succ hdi, c]
        rfl
    · have c' : notInL r.2.1 ((rs.map (·.2.1)).drop (i + 1)) = false := by
        cases h : notInL r.2.1 ((rs.map (·.2.1)).drop (i + 1)) with
        | true => exact absurd h c
        | false => rfl
      rw [c']
      refine iteF ⟨e4, fs, h4, hfs4, ?_⟩
      rw [hsel, selL_succ hdi, c']
      simp
  · rintro H2 ⟨e2, fs, h2, hfs, hsel⟩
    rw [List.length_map] at hsel
    refine kq La H2 fs (e1.trans e2) noL h2 hfs ?_
    rw [hsel]
    unfold latestD
    rw [List.length_map]
end
end TP

namespace TP
open PySem PySem.Spec PyProof.Rows L2
/-! ### latest of a tuple -/
theorem cut_lo {α : Type} (xs : List α) (f : α → V) (i : Nat) (hi : i < xs.length) : HT.sIx (xs.map f).length 0 (some ((i : Int) + 1)) = i + 1 := by
  show (if ((i : Int) + 1) < 0 then (((i : Int) + 1) + ((xs.map f).length : Int)).toNat else min ((i : Int) + 1).toNat (xs.map f).length) = i + 1
  rw [if_neg (by omega), List.length_map]
  omega
def spLatestT [TabL] (n : Nat) : Sp := fun vs H Q _ => ∃ (S : Addr → Prop) (a : Addr) (rs : List (V × D × Nat)), vs = [.ref a] ∧ RowAt S gC H n a rs ∧ H a = some (.tup (rs.map (·.1))) ∧ n ≤ 30 ∧
  ∀ r H' (fs : List (V × D)), Ex H H' → H r = none → H' r = some (.lst (fs.map (·.1))) → (∀ x ∈ fs, Dc (fun b => H b = none ∧ b ≠ r) gC H' n x.1 x.2) → fs.map (·.2) = latestD (rs.map (·.2.1)) → Q (.ref r) H'
section
variable [TabL] {P : Program} {w : World} {K : PySem.W.Frag} {mg : Str → Option Value} {base : Heap}
set_option maxHeartbeats 0 in
theorem ok_latestT {n k : Nat} {f fc fr : Addr} {fd dc dr : FuncData} (T : Bi mg) (hEn : mg "enumerate" = none) (Dd : Df K mg "latest" sLatest ["row"] f fd) (Dc' : Df K mg "copied" sCopied ["document"] fc dc) (Dr : Df K mg "check_row" sCheckRow ["row"] fr dr)
    (gC' : FnOk P w K mg base CX0 k fc dc ["document"] (spCopied gC n)) (gR : FnOk P w K mg base CX0 k fr dr ["row"] (spRow gC n)) : FnOk P w K mg base CX0 (k + 1) f fd ["row"] (spLatestT n) := by
  refine Dd.F.ok scLatest (fun vs H Q E h => ?_) (fun cdv A outer s H vs Q E hr h => ?_)
  · obtain ⟨_, a, _, rfl, _⟩ := h
    rfl
  obtain ⟨S, a, rs, rfl, hrow, ha, hn, kq⟩ := h
  refine ⟨_, (pss_cons (ps_expr (pe_call gR hr rfl Dr.m Dr.F.kp Dr.b .nil pass0 (pa_cons (pv 0) pa_nil)))
    (pss_one (ps_ret (pe_lc (own := [("place", 1), ("patch", 2)]) (g := gTup K 2 (gCons (gName 1) (gCons (gName 2) gNil))) (tt := _) rfl scLatest.nd (pi_enumT (by rfl) hEn (pa_cons (pv 0) pa_nil)) (blkOk_by (N := nLatest) (sc := defScope sLatest) (by decide +kernel)) (fun _ _ _ _ _ => pg_tup rfl (pgs_cons (pg_name (i := 1) scLatest.nd rfl (Or.inl rfl) (Or.inr rfl)) (pgs_cons (pg_name (i := 2) scLatest.nd rfl (Or.inl rfl) (Or.inr rfl)) pgs_nil))) (fun _ _ _ _ _ => pts_one (pt_cmpR (show OpR _ (compareOp .NotIn) (rNotInDT K) from op_notInDT hr.units) (pv 2) (pe_slice (show SlR _ (rSlT K) from sl_tup) (pv 0) (po_some (pe_op op_add (pv 1) pe_int)) po_none) (by rfl))) (fun _ _ _ _ _ => (pe_call gC' hr rfl Dc'.m Dc'.F.kp Dc'.b .nil pass0 (pa_cons (pv 2) pa_nil))))))), ?_⟩
  refine ⟨.ref a, rfl, S, a, rs.map fun r => (r.1, r.2.1, r.2.2), rfl, by simpa using hrow, fun H1 e1 => ⟨.ref a, rfl, a, _, rfl, .inl (.inl (e1 _ _ ha)), fun La hD => ?_⟩⟩
  have noL : H La = none := fresh_back e1 hD
  have ha1 := e1 _ _ ha
  have hml := hrow.len
  have x1 : Ex H (upd H1 La (.lst [])) := e1.trans (Ex.new hD)
  refine lc_it (walk_enumT (K := K) (a := a) (xs := rs.map (·.1))) (fun i H2 => Ex H1 H2 ∧ ∃ fs : List (V × D), H2 La = some (.lst (fs.map (·.1))) ∧ (∀ x ∈ fs, Dc (fun b => H b = none ∧ b ≠ La) gC H2 n x.1 x.2) ∧ fs.map (·.2) = selL (rs.map (·.2.1)) i)
    ⟨Ex.new hD, [], upd_same, (fun x hx => nomatch hx), by rw [selL_zero]; rfl⟩ (fun i H2 _ q => .inl (.inl (q.1 _ _ ha1))) ?_ ?_
  · rintro i x H2 H3 hi ⟨e2, fs, h2, hfs, hsel⟩ ⟨Tp, x1', y1, rfl, hT, rfl, hx1, hy1⟩
    cases hx1
    have hy1 : (rs.map (·.1))[i]? = some y1 := hy1
    obtain ⟨r, hr', rfl⟩ : ∃ r, rs[i]? = some r ∧ y1 = r.1 := by
      rw [List.getElem?_map] at hy1
      obtain ⟨r, h1, h2⟩ := Option.map_eq_some_iff.mp hy1
      exact ⟨r, h1, h2.symm⟩
    have hil : i < rs.length := (List.getElem?_eq_some_iff.mp hr').1
    have hdi : (rs.map (·.2.1))[i]? = some r.2.1 := by rw [List.getElem?_map, hr']; rfl
    have e3 : Ex H1 (upd H2 Tp (.tup [.int (i : Nat), r.1])) := e2.trans (Ex.new hT)
    have h3 : (upd H2 Tp (.tup [.int (i : Nat), r.1])) La = some (.lst (fs.map (·.1))) := (Ex.new hT) _ _ h2
    have hfs3 := fun x hx => (hfs x hx).ex (Ex.new hT (o := .tup [.int (i : Nat), r.1]))
    refine ⟨Tp, _, rfl, .inl (.inl upd_same), rfl, ?_⟩
    generalize (upd H2 Tp (.tup [.int (i : Nat), r.1])) = H3 at e3 h3 hfs3 ⊢
    have dr := (hrow.dc r (List.mem_of_getElem? hr')).1
    obtain ⟨ss, hss⟩ : ∃ ss : List (V × D), ss = (rs.drop (i + 1)).map fun r => (r.1, r.2.1) := ⟨_, rfl⟩
    have ss1 : ss.map (·.1) = (rs.drop (i + 1)).map (·.1) := by rw [hss, List.map_map]; rfl
    have ss2 : ss.map (·.2) = (rs.map (·.2.1)).drop (i + 1) := by rw [hss, List.map_map, ← List.map_drop]; rfl
    have hfl : fs.length ≤ 5000 := by
      have := congrArg List.length hsel
      rw [List.length_map] at this
      have := selL_len (rs.map (·.2.1)) i
      omega
    refine ⟨_, _, rfl, _, _, rfl, rfl, rfl, r.1, rfl, .ref a, rfl, .int (i : Nat), rfl, (i : Nat), 1, rfl, rfl, _, rfl, a, _, rfl, .inl (.inl (e3 _ _ ha1)), ?_, fun p hp => ?_⟩
    · intro z
      rw [cut_lo rs _ i hil] at z
      omega
    have e4 : Ex H1 (upd H3 p (.tup (cutV (rs.map (·.1)) (some ((i : Int) + 1)) none))) := e3.trans (Ex.new hp)
    have l4 : (upd H3 p (.tup (cutV (rs.map (·.1)) (some ((i : Int) + 1)) none))) p = some (.tup (ss.map (·.1))) := by rw [upd_same, cut_after rs _ i hil, ss1]
    have h4 : (upd H3 p (.tup (cutV (rs.map (·.1)) (some ((i : Int) + 1)) none))) La = some (.lst (fs.map (·.1))) := (Ex.new hp) _ _ h3
    have hfs4 := fun x hx => (hfs3 x hx).ex (Ex.new hp (o := .tup (cutV (rs.map (·.1)) (some ((i : Int) + 1)) none)))
    generalize (upd H3 p (.tup (cutV (rs.map (·.1)) (some ((i : Int) + 1)) none))) = H4 at e4 l4 h4 hfs4 ⊢
    have e04 := e1.trans e4
    refine ⟨S, S, gC, gC, n, n, r.2.1, p, ss, rfl, by omega, dr.ex e04, .inl (.inl l4), fun q hq => ?_, _, rfl, ?_⟩
    · rw [hss] at hq
      obtain ⟨q', hq', rfl⟩ := List.mem_map.mp hq
      exact (hrow.dc q' (List.mem_of_mem_drop hq')).1.ex e04
    rw [ss2]
    by_cases c : notInL r.2.1 ((rs.map (·.2.1)).drop (i + 1)) = true
    · rw [c]
      refine iteT ⟨r.1, rfl, S, r.1, r.2.1, rfl, dr.ex e04, fun z H5 e5 hz => ?_⟩
      have h5 := e5 _ _ h4
      refine ⟨_, h5, ?_, Ex.mut (e4.trans e5) hD h5, fs ++ [(z, r.2.1)], by rw [upd_same, List.map_append]; rfl, fun x hx => ?_, ?_⟩
      · rw [List.length_map]
        exact Nat.lt_of_le_of_lt hfl (by decide)
      · rcases List.mem_append.mp hx with hx | hx
        · exact ((hfs4 x hx).ex e5).off fun z => z.2 rfl
        · rw [List.mem_singleton.mp hx]
          exact (hz.imp fun b hb => ⟨fresh_back e04 hb, (ne_of_none h4 hb).symm⟩).off fun z => z.2 rfl
      · rw [List.map_append, hsel, selL_succ hdi, c]
        rfl
    · have c' : notInL r.2.1 ((rs.map (·.2.1)).drop (i + 1)) = false := by
        cases h : notInL r.2.1 ((rs.map (·.2.1)).drop (i + 1)) with
        | true => exact absurd h c
        | false => rfl
      rw [c']
      refine iteF ⟨e4, fs, h4, hfs4, ?_⟩
      rw [hsel, selL_succ hdi, c']
      simp
  · rintro H2 ⟨e2, fs, h2, hfs, hsel⟩
    rw [List.length_map] at hsel
    refine kq La H2 fs (e1.trans e2) noL h2 hfs ?_
    rw [hsel]
    unfold latestD
    rw [List.length_map]
end
end TP

namespace TP
open PySem PySem.Spec PyProof.Rows L2
/-! ### what comes again may be left out -/
theorem rowE_cons (d : D) (ds : List D) : rowE (d :: ds) = (rowE [d]).fol (rowE ds) := row_sum [d] ds
theorem again {d : D} {ds : List D} (h : d ∈ ds) : rowE (d :: ds) = rowE ds := by
  obtain ⟨xs, ys, rfl⟩ := List.append_of_mem h
  rw [rowE_cons, row_sum, rowE_cons d ys, ← fol_asc (Ef.fol (rowE [d]) (rowE ys)) (rowE [d]) (rowE xs), ← fol_asc (rowE ys) ((rowE [d]).fol (rowE xs)) (rowE [d]), fol_aba, fol_asc]
theorem latestD_cons (d : D) (ds : List D) : latestD (d :: ds) = (if notInL d ds then [d] else []) ++ latestD ds := rfl
theorem latest_row : ∀ ds : List D, rowE (latestD ds) = rowE ds
  | [] => rfl
  | d :: ds => by
    rw [latestD_cons]
    by_cases c : notInL d ds = true
    · rw [if_pos c, row_sum, latest_row ds, ← rowE_cons]
    · rw [if_neg c, List.nil_append, latest_row ds]
      refine (again ?_).symm
      unfold notInL at c
      have c : (ds.any fun e => deq e d) = true := by simpa using c
      obtain ⟨e, he, h⟩ := List.any_eq_true.mp c
      rw [← deq_iff.mp h]
      exact he
theorem latest_rowD (ds : List D) (d : D) : rowD d (latestD ds) = rowD d ds := by rw [← row_on, ← row_on, latest_row]
theorem latest_len (ds : List D) : (latestD ds).length ≤ ds.length := selL_len ds ds.length
end TP

namespace TP
open PySem PySem.Spec PyProof.Rows L2
/-! ### repr of a drawn document -/
def TL : Nat → Nat
  | 0 => 0
  | n + 1 => 64 + 7 * (TL n + 20)
theorem piled_app (t : Str) (ts : List Str) : piled (t :: ts) = t.length + 2 + piled ts := by
  simp [piled]
theorem listText_le (ts : List Str) : (listText ts).length ≤ 2 + piled ts := by
  unfold listText
  rw [strLen_append]
  cases ts with
  | nil =>
    show 1 + 1 ≤ 2 + piled []
    omega
  | cons t ts =>
    show (textFrom 1 (("[" : Str) ++ ("" : String) ++ t) ts).length + 1 ≤ _
    rw [textFrom_length_pos _ _ _ (by omega), piled_app, strLen_append, strLen_append]
    show 1 + 0 + t.length + piled ts + 1 ≤ _
    omega
theorem dictText_le (ts : List Str) : (dictText ts).length ≤ 2 + piled ts := by
  unfold dictText
  rw [strLen_append, strLen_append]
  by_cases h : ts = []
  · subst h
    show 1 + 0 + 1 ≤ _
    omega
  · have := join_length_add ts h
    show 1 + (Str.join ", " ts).length + 1 ≤ _
    omega
def scPd : V → PyData
  | .int i => .int i
  | .str x => .str x
  | _ => .none
theorem sc_pd {v : V} (H : Hp) (h : gC.C v = true) : Pd H v (scPd v) ∧ (scPd v).showable = true ∧ (scPd v).shown.length ≤ 16 ∧ (scPd v).depth = 0 := by
  have h : v ∈ cC := of_decide_eq_true h
  simp only [cC, List.mem_cons, List.not_mem_nil, or_false] at h
  rcases h with rfl | rfl | rfl | rfl | rfl | rfl | rfl | rfl | rfl | rfl | rfl | rfl | rfl | rfl
  all_goals first
    | exact ⟨.non, by decide +kernel, by decide +kernel, by simp [scPd, PyData.depth]⟩
    | exact ⟨.int _, by decide +kernel, by decide +kernel, by simp [scPd, PyData.depth]⟩
    | exact ⟨.str _, by decide +kernel, by decide +kernel, by simp [scPd, PyData.depth]⟩
theorem all_pd (H : Hp) : ∀ {xs : List V}, (∀ x ∈ xs, gC.C x = true) → PdAll H xs (xs.map scPd) ∧ PyData.showableAll (xs.map scPd) = true ∧ piled (PyData.shownAll (xs.map scPd)) ≤ 18 * xs.length ∧ PyData.depthAll (xs.map scPd) = 0
  | [], _ => ⟨.nil, by simp [PyData.showableAll], by simp [PyData.shownAll, piled], by simp [PyData.depthAll]⟩
  | x :: xs, h => by
    obtain ⟨a1, a2, a3, a4⟩ := sc_pd H (h x List.mem_cons_self)
    obtain ⟨b1, b2, b3, b4⟩ := all_pd H (xs := xs) fun y hy => h y (List.mem_cons_of_mem _ hy)
    refine ⟨.cons a1 b1, by simp [PyData.showableAll, a2, b2], ?_, by simp [PyData.depthAll, a4, b4]⟩
    simp only [List.map_cons, PyData.shownAll, piled_app, List.length_cons]
    omega
theorem mem_pd {H : Hp} {n t : Nat} (ht : ∀ k ∈ gC.KS, (reprText k).length ≤ 16) : ∀ {ms : List (Str × V)}, (∀ k ∈ ms.map (·.1), k ∈ gC.KS) → (∀ p ∈ ms, ∃ e, Pd H p.2 e ∧ e.showable = true ∧ e.shown.length ≤ t ∧ e.depth ≤ n) →
    ∃ ds, PdAll H (ms.map (·.2)) ds ∧ PyData.showableKv ((ms.map fun p => PyData.str p.1).zip ds) = true ∧ piled (PyData.shownKv ((ms.map fun p => PyData.str p.1).zip ds)) ≤ ms.length * (t + 20) ∧ PyData.depthKv ((ms.map fun p => PyData.str p.1).zip ds) ≤ n
  | [], _, _ => ⟨[], .nil, by simp [PyData.showableKv], by simp [PyData.shownKv, piled], by simp [PyData.depthKv]⟩
  | p :: ms, hk, h => by
    obtain ⟨e, a1, a2, a3, a4⟩ := h p List.mem_cons_self
    obtain ⟨ds, b1, b2, b3, b4⟩ := mem_pd ht (ms := ms) (fun k z => hk k (List.mem_cons_of_mem _ z)) fun q hq => h q (List.mem_cons_of_mem _ hq)
    have hl := ht p.1 (hk p.1 List.mem_cons_self)
    refine ⟨e :: ds, .cons a1 b1, ?_, ?_, ?_⟩
    · simp [PyData.showableKv, PyData.showable, a2, b2]
    · simp only [List.map_cons, List.zip_cons_cons, PyData.shownKv, piled_app, List.length_cons, strLen_append, PyData.shown]
      rw [Nat.succ_mul]
      show (reprText p.1).length + 2 + e.shown.length + 2 + _ ≤ _
      omega
    · simp only [List.map_cons, List.zip_cons_cons, PyData.depthKv, PyData.depth]
      omega
theorem pd_of {S : Addr → Prop} {H : Hp} (hS : ∀ x, S x → x ≠ sysModules) : ∀ {n : Nat} {v : V} {d : D}, Dc S gC H n v d → ∃ e, Pd H v e ∧ e.showable = true ∧ e.shown.length ≤ TL n ∧ e.depth ≤ n
  | 0, _, _, h => (show False from h).elim
  | n + 1, v, d, h => by
    rcases h with ⟨hv, _⟩ | ⟨a, xs, rfl, hs, r, hx, _⟩ | ⟨a, ms, f, rfl, hs, r, nd, ks, _, no, at'⟩
    · obtain ⟨a1, a2, a3, a4⟩ := sc_pd H hv
      exact ⟨_, a1, a2, by show _ ≤ 64 + 7 * (TL n + 20); omega, by omega⟩
    · obtain ⟨b1, b2, b3, b4⟩ := all_pd H hx.2
      have hl : xs.length ≤ 2 := hx.1
      refine ⟨.list (xs.map scPd), .lst (hS a hs) (.inl r) b1, by simpa [PyData.showable] using b2, ?_, by simp [PyData.depth, b4]⟩
      have := listText_le (PyData.shownAll (xs.map scPd))
      simp only [PyData.shown]
      show _ ≤ 64 + 7 * (TL n + 20)
      omega
    · obtain ⟨ds, b1, b2, b3, b4⟩ := mem_pd (H := H) (n := n) (t := TL n) (by decide +kernel) (ms := ms) ks fun p hp => pd_of hS (at' p.1 p.2 (valV_of_mem nd hp))
      have hl : ms.length ≤ 7 := by
        have := sub_len nd ks
        rwa [List.length_map] at this
      refine ⟨_, .dct (.inl r) b1, by simpa [PyData.showable] using b2, ?_, by simp only [PyData.depth]; omega⟩
      have := dictText_le (PyData.shownKv ((ms.map fun p => PyData.str p.1).zip ds))
      simp only [PyData.shown]
      show _ ≤ 64 + 7 * (TL n + 20)
      have h3 : ms.length * (TL n + 20) ≤ 7 * (TL n + 20) := Nat.mul_le_mul_right _ hl
      omega
theorem docs_pd {S : Addr → Prop} {H : Hp} (hS : ∀ x, S x → x ≠ sysModules) {n : Nat} : ∀ {rs : List (V × D)}, (∀ r ∈ rs, Dc S gC H n r.1 r.2) → ∃ ds, PdAll H (rs.map (·.1)) ds ∧ PyData.showableAll ds = true ∧ piled (PyData.shownAll ds) ≤ rs.length * (TL n + 2) ∧ PyData.depthAll ds ≤ n
  | [], _ => ⟨[], .nil, by simp [PyData.showableAll], by simp [PyData.shownAll, piled], by simp [PyData.depthAll]⟩
  | r :: rs, h => by
    obtain ⟨e, a1, a2, a3, a4⟩ := pd_of hS (h r List.mem_cons_self)
    obtain ⟨ds, b1, b2, b3, b4⟩ := docs_pd hS (rs := rs) fun q hq => h q (List.mem_cons_of_mem _ hq)
    refine ⟨e :: ds, .cons a1 b1, by simp [PyData.showableAll, a2, b2], ?_, by simp [PyData.depthAll]; omega⟩
    simp only [PyData.shownAll, piled_app, List.length_cons]
    rw [Nat.succ_mul]
    omega
/-- the text of a row -/
theorem row_pd {S : Addr → Prop} {H : Hp} (hS : ∀ x, S x → x ≠ sysModules) {a : Addr} {rs : List (V × D)} (na : a ≠ sysModules) (ha : H a = some (.lst (rs.map (·.1)))) (h : ∀ r ∈ rs, Dc S gC H 3 r.1 r.2) (hl : rs.length ≤ 12) :
    ∃ d, Pd H (.ref a) d ∧ d.showable = true ∧ d.shown.length ≤ sizeLine ∧ d.depth ≤ 40 := by
  obtain ⟨ds, b1, b2, b3, b4⟩ := docs_pd hS h
  refine ⟨.list ds, .lst na (.inl ha) b1, by simpa [PyData.showable] using b2, ?_, by simp only [PyData.depth]; omega⟩
  have := listText_le (PyData.shownAll ds)
  have t3 : TL 3 + 2 ≤ 12000 := by decide +kernel
  have h1 : rs.length * (TL 3 + 2) ≤ 12 * 12000 := Nat.mul_le_mul hl t3
  simp only [PyData.shown]
  exact Nat.le_trans (show _ ≤ 200000 by omega) (by decide)
end TP

namespace TP
open PySem PySem.Spec PyProof.Rows L2
abbrev sHolds : Stmt := topS 33
/-! ### _law_one_holds -/
def spHolds [TabL] : Sp := fun vs H Q _ => ∃ (S : Addr → Prop) (a : Addr) (rs : List (V × D)), vs = [.ref a] ∧ H a = some (.lst (rs.map (·.1))) ∧ (∀ r ∈ rs, Dc S gC H 3 r.1 r.2 ∧ PD r.2 13 ∧ DD r.2 8) ∧ rs.length ≤ 12 ∧ ∀ H', Ex H H' → Q (.bl true) H'
theorem ex_stp [TabL] {H Hf H' : Hp} {T : Addr → Prop} {c : Nat} (e : Ex H Hf) (hT : ∀ b, T b → H b = none) (hT2 : ∀ b, T b → (∃ xs, Hf b = some (.lst xs)) ∨ ∃ kvs, Hf b = some (.dK kvs)) (x : Stp T c Hf H') : Ex H H' := by
  have nT : ∀ b, H b ≠ none → ¬ T b := fun b h z => h (hT b z)
  refine ⟨fun b o h z => x.out b o (nT b (by rw [h]; exact fun y => nomatch y)) (e.go b o h z), fun b h => ?_, fun b q r t => ?_⟩
  · cases e2 : Hf b with
    | none => exact absurd e2 (e.ne b h)
    | some o => rw [x.out b o (nT b h) e2]; exact fun z => nomatch z
  · have hb : H b ≠ none := by
      obtain ⟨ps, h, _⟩ := t
      rw [h]
      exact fun z => nomatch z
    obtain ⟨ps, h1, h2, h3⟩ := e.tab b q r t
    refine ⟨ps, x.out b _ (nT b hb) h1, h2, fun pos cv hc => ?_⟩
    obtain ⟨c', e1, e2⟩ := h3 pos cv hc
    refine ⟨c', e1, x.out c' _ (fun z => ?_) e2⟩
    rcases hT2 c' z with ⟨xs, y⟩ | ⟨kvs, y⟩
    · rw [e2] at y; cases y
    · rw [e2] at y; cases y
def LD (H : Hp) (b : Addr) : Prop := (∃ xs, H b = some (.lst xs)) ∨ ∃ kvs, H b = some (.dK kvs)
theorem Dc.ld {S : Addr → Prop} {G : Gen} {H : Hp} : ∀ {n : Nat} {v : V} {d : D}, Dc S G H n v d → Dc (fun x => S x ∧ LD H x) G H n v d
  | 0, _, _, h => h
  | n + 1, v, d, h => by
    rcases h with ⟨a, b⟩ | ⟨a, xs, e, s, r, x, d⟩ | ⟨a, ms, f, e, s, r, nd, ks, d, no, at'⟩
    · exact .inl ⟨a, b⟩
    · exact .inr (.inl ⟨a, xs, e, ⟨s, .inl ⟨_, r⟩⟩, r, x, d⟩)
    · exact .inr (.inr ⟨a, ms, f, e, ⟨s, .inr ⟨_, r⟩⟩, r, nd, ks, d, no, fun k u hu => Dc.ld (at' k u hu)⟩)
theorem DsAt.ex [TabL] {S G H H' n a rs} (e : Ex H H') (h : DsAt S G H n a rs) : DsAt S G H' n a rs := ⟨e _ _ h.at', fun r hr => (h.dc r hr).ex e⟩
/-- a row as the program's checks want it -/
abbrev w13 (rs : List (V × D)) : List (V × D × Nat) := rs.map fun r => (r.1, r.2, 13)
theorem w13_1 (rs : List (V × D)) : (w13 rs).map (·.1) = rs.map (·.1) := by rw [List.map_map]; rfl
theorem w13_2 (rs : List (V × D)) : (w13 rs).map (·.2.1) = rs.map (·.2) := by rw [List.map_map]; rfl
theorem row_at13 {S : Addr → Prop} {H : Hp} {a : Addr} {rs : List (V × D)} (sq : H a = some (.lst (rs.map (·.1))) ∨ H a = some (.tup (rs.map (·.1)))) (b : ∀ q ∈ rs, Dc S gC H 3 q.1 q.2 ∧ PD q.2 13 ∧ DD q.2 8) (hl : rs.length ≤ 12) : RowAt S gC H 3 a (w13 rs) := by
  refine ⟨by rw [w13_1]; exact sq, fun r hr => ?_, ?_, by rw [List.length_map]; omega⟩
  · obtain ⟨q, hq, rfl⟩ := List.mem_map.mp hr
    obtain ⟨h1, h2, h3⟩ := b q hq
    exact ⟨h1, h2, h2.mono (by decide), h3⟩
  · rw [List.map_map, show ((fun r : V × D × Nat => r.2.2) ∘ fun r : V × D => (r.1, r.2, 13)) = fun _ => 13 from rfl, List.map_const', List.sum_replicate_nat]
    omega
abbrev nHolds : List Str := ["_law_row", "_law_before", "_law_expected", "_law_index", "_law_patch", "_law_found"]
theorem scHolds : FnScope nHolds ["_law_row"] (defScope sHolds) := ⟨rfl, rfl, rfl, by decide +kernel, rfl, by decide +kernel, by decide +kernel⟩
section
variable [TabL] {P : Program} {w : World} {K : PySem.W.Frag} {mg : Str → Option Value} {base : Heap}
set_option maxHeartbeats 0 in
theorem ok_holds {k : Nat} {f fl fs fp : Addr} {fd dl ds dp : FuncData} (T : Bi mg) (hEn : mg "enumerate" = none) (hSys : ∃ o, base.get? sysModules = some o) (Dd : Df K mg "_law_one_holds" sHolds ["_law_row"] f fd) (Dl : Df K mg "latest" sLatest ["row"] fl dl) (Ds : Df K mg "_law_is_same" sIsSame ["_law_row", "_law_other"] fs ds) (Dp : Df K mg "_law_spoil" sLSpoil ["_law_value"] fp dp)
    (gL : FnOk P w K mg base CX0 k fl dl ["row"] (spLatest 3)) (gT : FnOk P w K mg base CX0 k fl dl ["row"] (spLatestT 3)) (gS : FnOk P w K mg base CX0 k fs ds ["_law_row", "_law_other"] (spIsSame 3)) (gP : FnOk P w K mg base CX0 k fp dp ["_law_value"] (spSpoil 3)) : FnOkG P w K mg base CX0 (k + 1) f fd ["_law_row"] spHolds := by
  refine okG Dd.F scHolds (fun vs H Q E h => ?_) (fun cdv A outer s H vs Q E hg hr h => ?_)
  · obtain ⟨_, a, _, rfl, _⟩ := h
    rfl
  obtain ⟨S, a, rs, rfl, ha, hrs, hl, kq⟩ := h
  have hl' := hl
  refine ⟨_, (C8.pss_cut (ps_set (i := 1) scHolds.nd rfl (Or.inl rfl) (pe_callB (call_reprD hg hr.units) (by rfl) (T.of "repr") (by decide +kernel) (pa_cons (pe_sys hSys (pv 0)) pa_nil)))
    (C8.pss_cut (ps_setLc (i := 2) (own := [("_law_index", 3), ("_law_patch", 4)]) (g := gTup K 2 (gCons (gName 3) (gCons (gName 4) gNil))) (tt := _) rfl scHolds.nd rfl rfl (sw_true rfl rfl rfl (by decide +kernel)) (pi_enum (by rfl) hEn (pa_cons (pv 0) pa_nil)) (blkOk_by (N := nHolds) (sc := defScope sHolds) (by decide +kernel)) (fun _ _ _ _ _ => pg_tup rfl (pgs_cons (pg_name (i := 3) scHolds.nd rfl (Or.inl rfl) (Or.inr rfl)) (pgs_cons (pg_name (i := 4) scHolds.nd rfl (Or.inl rfl) (Or.inr rfl)) pgs_nil))) (fun _ _ _ _ _ => pts_one (pt_cmpR (op_notInDL hr.units) (pv 4) (pe_slice (show SlR _ (rSlL K) from sl_list) (pv 0) (po_some (pe_op op_add (pv 3) pe_int)) po_none) (by rfl))) (fun _ _ _ _ _ => (pv 4)))
    (C8.pss_cut (ps_set (i := 5) scHolds.nd rfl (Or.inl rfl) (pe_call gL hr rfl Dl.m Dl.F.kp Dl.b .nil pass0 (pa_cons (pv 0) pa_nil)))
    (C8.pss_cut (ps_if (PW.pt (pw_or (pt_not (pt_val (pe_callB (id := "isinstance") (r := rIsi K) call_isi (by rfl) (T.of "isinstance") (by decide +kernel) (pa_cons (pv 5) (pa_cons (pe_bltn (v := .ty "list") (by rfl) (T.of "list") (by decide +kernel) rfl) pa_nil))))) (pw_or (pt_cmpR (op_neDL hr.units) (pv 5) (pv 2) (nomark _)) (pw_or1 (pt_cmpR (op_neDL hr.units) (pe_call gT hr rfl Dl.m Dl.F.kp Dl.b .nil pass0 (pa_cons (pe_callTy call_tuple_of (by rfl) (T.of "tuple") (by decide +kernel) (pa_cons (pv 0) pa_nil)) pa_nil)) (pv 2) (nomark _)))))) (pss_one (ps_ret pe_bl)) pss_nil)
    (C8.pss_cut (ps_if (PW.pt (pw_or (pt_not (pt_val (pe_call gS hr rfl Ds.m Ds.F.kp Ds.b .nil pass0 (pa_cons (pv 0) (pa_cons (pv 5) pa_nil))))) (pw_or1 (pt_cmpR op_ne (pe_callB (call_reprD hg hr.units) (by rfl) (T.of "repr") (by decide +kernel) (pa_cons (pe_sys hSys (pv 0)) pa_nil)) (pv 1) (nomark _))))) (pss_one (ps_ret pe_bl)) pss_nil)
    (C8.pss_cut (ps_for PassesOwn.never rfl (pi_list (pv 5)) (pg_name (i := 4) scHolds.nd rfl (Or.inl rfl)) (pss_one (ps_expr (pe_call gP hr rfl Dp.m Dp.F.kp Dp.b .nil pass0 (pa_cons (pv 4) pa_nil)))))
    (C8.pss_cut (ps_expr (pe_bm0 PySem.F.plainAttrs_list PySem.F.slot_list_clear PySem.F.type_list_clear mt_clear (pv 5)))
    (pss_one (ps_ret (pe_and (pe_cmpR (op_eqDL hr.units) (pe_call gL hr rfl Dl.m Dl.F.kp Dl.b .nil pass0 (pa_cons (pv 0) pa_nil)) (pv 2) (nomark _)) (pe_one (pe_cmpR op_eq (pe_callB (call_reprD hg hr.units) (by rfl) (T.of "repr") (by decide +kernel) (pa_cons (pe_sys hSys (pv 0)) pa_nil)) (pv 1) (nomark _))))))))))))), ?_⟩
  have cx := hr.units
  -- its text
  refine ⟨fun σ' H' => ∃ d, σ' = [some (.ref a), some (.str d.shown), none, none, none, none] ∧ H' = H ∧ Pd H (.ref a) d ∧ d.showable = true ∧ d.shown.length ≤ sizeLine ∧ d.depth ≤ 40, ?_, ?_⟩
  · refine ⟨.ref a, rfl, fun nz => ?_⟩
    obtain ⟨d, p1, p2, p3, p4⟩ := row_pd (S := fun x => S x ∧ Nt H x) (fun x hx => let ⟨o, ho, _⟩ := hx.2; nz x o ho) (nz a _ ha) ha (fun r hr' => (hrs r hr').1.nt) hl
    exact ⟨.ref a, d, rfl, p1, p2, p3, p4, d, rfl, rfl, p1, p2, p3, p4⟩
  rintro _ H1 ⟨d, rfl, rfl, p1, p2, p3, p4⟩
  -- what is expected
  refine ⟨fun σ' H' => ∃ (E : Addr) (es : List (V × D)), σ' = [some (.ref a), some (.str d.shown), some (.ref E), none, none, none] ∧ Ex H1 H' ∧ DsAt S gC H' 3 E es ∧ es.map (·.2) = latestD (rs.map (·.2)), ?_, ?_⟩
  · refine ⟨.ref a, rfl, a, _, rfl, .inl (.inl ha), fun La hD => ?_⟩
    have hml : rs.length ≤ 5000 := by omega
    refine lc_it (walk_enum (K := K) (a := a) (xs := rs.map (·.1))) (fun i H2 => Ex H1 H2 ∧ ∃ fs : List (V × D), H2 La = some (.lst (fs.map (·.1))) ∧ (∀ x ∈ fs, Dc (fun b => S b ∧ b ≠ La) gC H2 3 x.1 x.2) ∧ fs.map (·.2) = selL (rs.map (·.2)) i)
      ⟨Ex.new hD, [], upd_same, (fun x hx => nomatch hx), by rw [selL_zero]; rfl⟩ (fun i H2 _ q => .inl (.inl (q.1 _ _ ha))) ?_ ?_
    · rintro i x H2 H3 hi ⟨e2, fs, h2, hfs, hsel⟩ ⟨Tp, x1', y1, rfl, hT, rfl, hx1, hy1⟩
      cases hx1
      have hy1 : (rs.map (·.1))[i]? = some y1 := hy1
      obtain ⟨r, hr', rfl⟩ : ∃ r, rs[i]? = some r ∧ y1 = r.1 := by
        rw [List.getElem?_map] at hy1
        obtain ⟨r, h1, h2⟩ := Option.map_eq_some_iff.mp hy1
        exact ⟨r, h1, h2.symm⟩
      have hil : i < rs.length := (List.getElem?_eq_some_iff.mp hr').1
      have hdi : (rs.map (·.2))[i]? = some r.2 := by rw [List.getElem?_map, hr']; rfl
      have e3 : Ex H1 (upd H2 Tp (.tup [.int (i : Nat), r.1])) := e2.trans (Ex.new hT)
      have h3 : (upd H2 Tp (.tup [.int (i : Nat), r.1])) La = some (.lst (fs.map (·.1))) := (Ex.new hT) _ _ h2
      have hfs3 := fun x hx => (hfs x hx).ex (Ex.new hT (o := .tup [.int (i : Nat), r.1]))
      refine ⟨Tp, _, rfl, .inl (.inl upd_same), rfl, ?_⟩
      generalize (upd H2 Tp (.tup [.int (i : Nat), r.1])) = H3 at e3 h3 hfs3 ⊢
      have dr := (hrs r (List.mem_of_getElem? hr')).1
      obtain ⟨ss, hss⟩ : ∃ ss : List (V × D), ss = rs.drop (i + 1) := ⟨_, rfl⟩
      have ss1 : ss.map (·.1) = (rs.drop (i + 1)).map (·.1) := by rw [hss]
      have ss2 : ss.map (·.2) = (rs.map (·.2)).drop (i + 1) := by rw [hss, List.map_drop]
      have hfl : fs.length ≤ 5000 := by
        have := congrArg List.length hsel
        rw [List.length_map] at this
        have := selL_len (rs.map (·.2)) i
        omega
      refine ⟨_, _, rfl, _, _, rfl, rfl, rfl, r.1, rfl, .ref a, rfl, .int (i : Nat), rfl, (i : Nat), 1, rfl, rfl, _, rfl, a, _, rfl, .inl (.inl (e3 _ _ ha)), fun p hp => ?_⟩
      have e4 : Ex H1 (upd H3 p (.lst (cutV (rs.map (·.1)) (some ((i : Int) + 1)) none))) := e3.trans (Ex.new hp)
      have l4 : (upd H3 p (.lst (cutV (rs.map (·.1)) (some ((i : Int) + 1)) none))) p = some (.lst (ss.map (·.1))) := by rw [upd_same, cut_after rs _ i hil, ss1]
      have h4 : (upd H3 p (.lst (cutV (rs.map (·.1)) (some ((i : Int) + 1)) none))) La = some (.lst (fs.map (·.1))) := (Ex.new hp) _ _ h3
      have hfs4 := fun x hx => (hfs3 x hx).ex (Ex.new hp (o := .lst (cutV (rs.map (·.1)) (some ((i : Int) + 1)) none)))
      generalize (upd H3 p (.lst (cutV (rs.map (·.1)) (some ((i : Int) + 1)) none))) = H4 at e4 l4 h4 hfs4 ⊢
      have e04 := e4
      refine ⟨S, S, gC, gC, 3, 3, r.2, p, ss, rfl, by decide, dr.ex e04, ⟨l4, fun q hq => ?_⟩, _, rfl, ?_⟩
      · rw [hss] at hq
        exact (hrs q (List.mem_of_mem_drop hq)).1.ex e04
      rw [ss2]
      by_cases c : notInL r.2 ((rs.map (·.2)).drop (i + 1)) = true
      · rw [c]
        refine iteT ⟨r.1, rfl, _, h4, ?_, Ex.mut e4 hD h4, fs ++ [(r.1, r.2)], by rw [upd_same, List.map_append]; rfl, fun x hx => ?_, ?_⟩
        · rw [List.length_map]
          exact Nat.lt_of_le_of_lt hfl (by decide)
        · rcases List.mem_append.mp hx with hx | hx
          · exact (hfs4 x hx).off fun z => z.2 rfl
          · rw [List.mem_singleton.mp hx]
            refine ((dr.alloc.imp (S' := fun b => S b ∧ b ≠ La) fun b hb => ⟨hb.1, fun z => hb.2 (by rw [z]; exact hD)⟩).ex e04).off fun z => z.2 rfl
        · rw [List.map_append, hsel, selL_succ hdi, c]
          rfl
      · have c' : notInL r.2 ((rs.map (·.2)).drop (i + 1)) = false := by
          cases h : notInL r.2 ((rs.map (·.2)).drop (i + 1)) with
          | true => exact absurd h c
          | false => rfl
        rw [c']
        refine iteF ⟨e4, fs, h4, hfs4, ?_⟩
        rw [hsel, selL_succ hdi, c']
        simp
    · rintro H2 ⟨e2, fs, h2, hfs, hsel⟩
      rw [List.length_map] at hsel
      refine ⟨La, fs, rfl, e2, ⟨h2, fun x hx => (hfs x hx).imp fun b hb => hb.1⟩, ?_⟩
      rw [hsel]
      unfold latestD
      rw [List.length_map]
  rintro _ H2 ⟨E', es, rfl, e2, hE, hes⟩
  have row2 : ∀ {H'}, Ex H1 H' → RowAt S gC H' 3 a (w13 rs) := fun e => (row_at13 (.inl ha) hrs hl).ex e
  -- what is found
  refine ⟨fun σ' H' => ∃ (F : Addr) (fs : List (V × D)), σ' = [some (.ref a), some (.str d.shown), some (.ref E'), none, none, some (.ref F)] ∧ Ex H2 H' ∧ H2 F = none ∧ H' F = some (.lst (fs.map (·.1))) ∧ (∀ x ∈ fs, Dc (fun b => H2 b = none ∧ b ≠ F) gC H' 3 x.1 x.2) ∧ fs.map (·.2) = latestD (rs.map (·.2)), ?_, ?_⟩
  · refine ⟨.ref a, rfl, S, a, w13 rs, rfl, row2 e2, by rw [w13_1]; exact e2 _ _ ha, by decide, fun F H' fs e n0 hF hfs hm => ⟨F, fs, rfl, e, n0, hF, hfs, by rw [hm, w13_2]⟩⟩
  rintro _ H3 ⟨F, fs, rfl, e3, nF, hF, hfs, hm⟩
  have e13 := e2.trans e3
  have fE : fs.map (·.2) = es.map (·.2) := by rw [hm, hes]
  have lfs : fs.length ≤ 12 := by
    have h1 := congrArg List.length hm
    have h2 := latest_len (rs.map (·.2))
    rw [List.length_map] at h1 h2
    omega
  refine ⟨fun σ' H' => σ' = [some (.ref a), some (.str d.shown), some (.ref E'), none, none, some (.ref F)] ∧ Ex H3 H', ?_, ?_⟩
  · refine ⟨.ref F, rfl, .ref F, .ty "list", _, _, _, rfl, .ty _, tyx_ls (.inl hF), kit_ty (r := true) (by decide +kernel), _, rfl, iteF ⟨.ref F, rfl, .ref E', rfl, _, S, gC, gC, 3, 3, F, E', fs, es, rfl, rfl, by decide, ⟨hF, hfs⟩, hE.ex e3, _, rfl, ?_⟩⟩
    rw [fE, deqL_iff.mpr rfl]
    refine iteF ⟨.ref a, rfl, a, _, rfl, .inl ⟨.inl (.inl (e13 _ _ ha)), fun l hl => ⟨S, l, w13 rs, rfl, (row_at13 (.inr upd_same) (fun q hq => ⟨(hrs q hq).1.ex (e13.trans (Ex.new hl)), (hrs q hq).2⟩) hl'), by rw [w13_1]; exact upd_same, by decide, fun F2 H' fs2 e n0 hF2 hfs2 hm2 => ?_⟩⟩⟩
    have e3' : Ex H3 H' := (Ex.new hl).trans e
    refine ⟨.ref E', rfl, _, S, gC, gC, 3, 3, F2, E', fs2, es, rfl, rfl, by decide, ⟨hF2, hfs2⟩, (hE.ex e3).ex e3', _, rfl, ?_⟩
    rw [hm2, w13_2, ← hes, deqL_iff.mpr rfl]
    exact iteF ⟨rfl, e3'⟩
  rintro _ H4 ⟨rfl, e4⟩
  refine ⟨fun σ' H' => σ' = [some (.ref a), some (.str d.shown), some (.ref E'), none, none, some (.ref F)] ∧ Ex H3 H', ?_, ?_⟩
  · have e14 := e13.trans e4
    refine ⟨.ref a, rfl, .ref F, rfl, S, _, a, F, rs, fs, rfl, e14 _ _ ha, e4 _ _ hF, fun r hr' => (hrs r hr').1.ex e14, fun x hx => (hfs x hx).ex e4, by omega, by omega, fun dd => by rw [hm, latest_rowD], fun H5 e5 => ⟨_, rfl, iteF ⟨.ref a, rfl, fun _ => ⟨.ref a, d, rfl, p1.ex (e14.trans e5), p2, p3, p4, .str d.shown, rfl, rfl, _, rfl, ?_⟩⟩⟩⟩
    rw [decide_eq_true (rfl : V.str d.shown = V.str d.shown)]
    exact iteF ⟨rfl, e4.trans e5⟩
  rintro _ H5 ⟨rfl, e5⟩
  -- what was found is spoilt
  have e25 : Ex H2 H5 := e3.trans e5
  have hF5 := e5 _ _ hF
  obtain ⟨Tt, hTt⟩ : ∃ Tt : Addr → Prop, Tt = fun b => (H2 b = none ∧ b ≠ F) ∧ LD H5 b := ⟨_, rfl⟩
  have nTF : ¬ Tt F := fun z => by rw [hTt] at z; exact z.1.2 rfl
  have al5 : ∀ b, Tt b → H5 b ≠ none := fun b z => by
    rw [hTt] at z
    rcases z.2 with ⟨_, y⟩ | ⟨_, y⟩ <;> (rw [y]; exact fun q => nomatch q)
  have c3 : cnt 3 = 73 := by decide
  refine ⟨fun σ' H' => (∃ x4, σ' = [some (.ref a), some (.str d.shown), some (.ref E'), none, x4, some (.ref F)]) ∧ Ex H2 H' ∧ H' F = some (.lst (fs.map (·.1))), ?_, ?_⟩
  · refine ⟨.ref F, rfl, F, rfl, ⟨_, .inl (.inl hF5)⟩, ?_⟩
    refine for_list (K := K) (a := F) (xs := fs.map (·.1)) (fun i σ H6 => (∃ x4, σ = [some (.ref a), some (.str d.shown), some (.ref E'), none, x4, some (.ref F)]) ∧ Stp Tt (i * cnt 3) H5 H6 ∧ H6 F = some (.lst (fs.map (·.1)))) ⟨⟨_, rfl⟩, Stp.refl.mono (Nat.zero_le _), hF5⟩ (fun i σ H6 _ q => .inl (.inl q.2.2)) ?_ ?_
    · rintro i y σ H6 hi ⟨⟨x4, rfl⟩, st, h6⟩
      obtain ⟨q, hq, rfl⟩ : ∃ q, fs[i]? = some q ∧ y = q.1 := by
        rw [List.getElem?_map] at hi
        obtain ⟨q, h1, h2⟩ := Option.map_eq_some_iff.mp hi
        exact ⟨q, h1, h2.symm⟩
      have hil : i < fs.length := (List.getElem?_eq_some_iff.mp hq).1
      have tr : Tr Tt 2 H5 3 q.1 := tr_of (by rw [hTt]; exact ((hfs q (List.mem_of_getElem? hq)).ex e5).ld)
      refine ⟨q.1, rfl, Tt, 2 + i * cnt 3, q.1, rfl, fun b tb => st.al b tb (al5 b tb), tr.stp st, by rw [c3]; omega, fun H7 st7 => ⟨⟨_, rfl⟩, ?_, st7.out F _ nTF h6⟩⟩
      rw [Nat.succ_mul]
      exact st.trans st7
    · rintro σ H6 ⟨⟨x4, rfl⟩, st, h6⟩
      exact ⟨⟨_, rfl⟩, ex_stp e25 (fun b z => by rw [hTt] at z; exact z.1.1) (fun b z => by rw [hTt] at z; exact z.2) st, h6⟩
  rintro _ H6 ⟨⟨x4, rfl⟩, e6, h6⟩
  refine ⟨fun σ' H' => σ' = [some (.ref a), some (.str d.shown), some (.ref E'), none, x4, some (.ref F)] ∧ Ex H2 H', ?_, ?_⟩
  · exact ⟨.ref F, rfl, .inl ⟨rfl, _, .inl (.inl h6)⟩, F, _, rfl, rfl, h6, rfl, Ex.mut e6 nF h6⟩
  rintro _ H7 ⟨rfl, e7⟩
  have e17 := e2.trans e7
  refine ⟨.ref a, rfl, S, a, w13 rs, rfl, row2 e17, by rw [w13_1]; exact e17 _ _ ha, by decide, fun F2 H' fs2 e n0 hF2 hfs2 hm2 => ?_⟩
  refine ⟨.ref E', rfl, _, S, gC, gC, 3, 3, F2, E', fs2, es, rfl, rfl, by decide, ⟨hF2, hfs2⟩, (hE.ex e7).ex e, ?_⟩
  rw [hm2, w13_2, ← hes, deqL_iff.mpr rfl]
  refine ⟨_, rfl, iteT ⟨.ref a, rfl, fun _ => ⟨.ref a, d, rfl, p1.ex (e17.trans e), p2, p3, p4, .str d.shown, rfl, rfl, ?_⟩⟩⟩
  rw [decide_eq_true (rfl : V.str d.shown = V.str d.shown)]
  exact kq H' (e17.trans e)
end
end TP

namespace TP
open PySem PySem.Spec PyProof.Rows L2
abbrev sLaw : Stmt := topS 34
/-! ### the law of patches that come again -/
/-- a list of patches -/
structure PlC (p : Addr) (H : Hp) (L : Addr) (ps : List (V × D)) : Prop where
  ne : L ≠ p
  at' : H L = some (.lst (ps.map (·.1)))
  dc : ∀ x ∈ ps, Dc (fun b => b ≠ p) gC H 3 x.1 x.2 ∧ PD x.2 13 ∧ DD x.2 8
theorem PlC.mv [TabL] {p H H' L ps} (m : Mv p H H') (h : PlC p H L ps) : PlC p H' L ps := ⟨h.ne, m.ex _ _ h.ne h.at', fun x hx => ⟨(h.dc x hx).1.mv m (fun z => z rfl), (h.dc x hx).2⟩⟩
/-- the same, away from one more list -/
structure PlR (p R : Addr) (H : Hp) (L : Addr) (ps : List (V × D)) : Prop where
  at' : H L = some (.lst (ps.map (·.1)))
  ne : L ≠ p
  nr : L ≠ R
  dc : ∀ x ∈ ps, Dc (fun b => b ≠ p ∧ b ≠ R) gC H 3 x.1 x.2 ∧ PD x.2 13 ∧ DD x.2 8
theorem PlR.mv [TabL] {p R H H' L ps} (m : Mv p H H') (h : PlR p R H L ps) : PlR p R H' L ps := ⟨m.ex _ _ h.ne h.at', h.ne, h.nr, fun x hx => ⟨(h.dc x hx).1.mv m (fun z => z.1 rfl), (h.dc x hx).2⟩⟩
theorem PlR.put {p R H L ps o} (h : PlR p R H L ps) : PlR p R (upd H R o) L ps := ⟨by rw [upd_ne h.nr]; exact h.at', h.ne, h.nr, fun x hx => ⟨(h.dc x hx).1.off fun z => z.2 rfl, (h.dc x hx).2⟩⟩
def spLaw (K : PySem.W.Frag) : Sp := fun vs H Q _ => ∃ (a : Addr) (ns : List Int), vs = [.ref a] ∧ ScrAt K H a (ns.map V.int) ∧ ns.length ≤ 63 ∧ ∀ H', Q (.bl true) H'
abbrev nLaw : List Str := ["_law_script", "_law_cell_here", "_law_rng_here", "_law_attempt", "_law_pool", "_law_index", "_law_row", "_law_patch"]
theorem scLaw : FnScope nLaw ["_law_script"] (defScope sLaw) := ⟨rfl, rfl, rfl, by decide +kernel, rfl, by decide +kernel, by decide +kernel⟩
section
variable [TabL] {P : Program} {w : World} {K : PySem.W.Frag} {mg : Str → Option Value} {base : Heap}
set_option maxHeartbeats 0 in
theorem ok_law {f f1 f2 f3 f4 f5 f6 f7 : Addr} {fd d1 d2 d3 d4 d5 d6 d7 : FuncData} (T : Bi mg) (Dl : Df K mg "law" sLaw ["_law_script"] f fd)
    (D1 : Df K mg "_law_cell" sCell ["_law_script", "_law_index"] f1 d1) (D2 : Df K mg "_law_rng" sRng ["_law_cell_here"] f2 d2) (D3 : Df K mg "_law_draw" sDraw ["_law_rng_here", "_law_limit"] f3 d3) (D4 : Df K mg "_law_pick" sPick ["_law_rng_here", "_law_items"] f4 d4)
    (D5 : Df K mg "_law_random_patch" sRPatch ["_law_rng_here", "_law_keys", "_law_depth"] f5 d5) (D6 : Df K mg "_law_turned" sTurned ["_law_patch"] f6 d6) (D7 : Df K mg "_law_one_holds" sHolds ["_law_row"] f7 d7)
    (g1 : FnOk P w K mg base CX0 30 f1 d1 ["_law_script", "_law_index"] (spCell K)) (g2 : FnOk P w K mg base CX0 30 f2 d2 ["_law_cell_here"] spState) (g3 : FnOk P w K mg base CX0 30 f3 d3 ["_law_rng_here", "_law_limit"] spDigit) (g4 : FnOk P w K mg base CX0 30 f4 d4 ["_law_rng_here", "_law_items"] spPick)
    (g5 : FnOk P w K mg base CX0 30 f5 d5 ["_law_rng_here", "_law_keys", "_law_depth"] (spRPatch 2)) (g6 : FnOk P w K mg base CX0 30 f6 d6 ["_law_patch"] (spCopied gC 3)) (g7 : FnOkG P w K mg base CX0 30 f7 d7 ["_law_row"] spHolds) : FnOkG P w K mg base CX0 31 f fd ["_law_script"] (spLaw K) := by
  refine okG Dl.F scLaw (fun vs H Q E h => ?_) (fun cdv A outer s0 H vs Q E hg hr h => ?_)
  · obtain ⟨a, ns, rfl, _⟩ := h
    rfl
  obtain ⟨a, ns, rfl, hS, hlen, k⟩ := h
  refine ⟨_, (pss_cons (ps_for PassesOwn.never rfl (pi_list (pe_op op_cat (pe_lst (pa_cons (pe_call g1 hr rfl D1.m D1.F.kp D1.b .nil pass0 (pa_cons (pv 0) (pa_cons pe_int pa_nil))) pa_nil)) (pe_slice sl_list (pv 0) (po_some pe_int) (po_some pe_int)))) (pg_name (i := 1) scLaw.nd rfl (Or.inl rfl)) (pss_cons (ps_set (i := 2) scLaw.nd rfl (Or.inr rfl) (pe_call g2 hr rfl D2.m D2.F.kp D2.b .nil pass0 (pa_cons (pv 1) pa_nil)))
      (pss_one (ps_for PassesOwn.never rfl (pi_range1 (by rfl) (T.of "range") (pa_cons pe_int pa_nil)) (pg_name (i := 3) scLaw.nd rfl (Or.inl rfl)) (C8.pss_cut (ps_setLc (i := 4) (own := [("_law_index", 5)]) (g := gName 5) (tt := tYes) rfl scLaw.nd rfl rfl (sw_true rfl rfl rfl (by decide +kernel)) (pi_range1 (by rfl) (T.of "range") (pa_cons pe_int pa_nil)) (blkOk_by (N := nLaw) (sc := defScope sLaw) (by decide +kernel)) (fun _ _ _ _ _ => pg_name (i := 5) scLaw.nd rfl (Or.inl rfl)) (fun _ _ _ _ _ => pts_nil) (fun _ _ _ _ _ => (pe_call g5 hr rfl D5.m D5.F.kp D5.b .nil pass0 (pa_cons (pv 2) (pa_cons (pe_lst (pa_cons pe_str (pa_cons pe_str pa_nil))) (pa_cons pe_int pa_nil))))))
        (C8.pss_cut (ps_set (i := 4) scLaw.nd rfl (Or.inl rfl) (pe_op op_cat (pv 4) (pe_lc (own := [("_law_index", 5)]) (g := gName 5) (tt := tYes) rfl scLaw.nd (pi_range1 (by rfl) (T.of "range") (pa_cons pe_int pa_nil)) (blkOk_by (N := nLaw) (sc := defScope sLaw) (by decide +kernel)) (fun _ _ _ _ _ => pg_name (i := 5) scLaw.nd rfl (Or.inl rfl)) (fun _ _ _ _ _ => pts_nil) (fun _ _ _ _ _ => (pe_call g4 hr rfl D4.m D4.F.kp D4.b .nil pass0 (pa_cons (pv 2) (pa_cons (pe_lst (pa_cons pe_int (pa_cons pe_str (pa_cons (pe_lst (pa_cons pe_int pa_nil)) (pa_cons (pe_lst (pa_cons pe_str pa_nil)) (pa_cons pe_non (pa_cons pe_dnewK (pa_cons (pe_disp (pps_cons pe_str pe_int pps_nil) (by rfl) (by rfl) (fun z => by cases z) (by decide)) (pa_cons (pe_disp (pps_cons pe_str pe_str pps_nil) (by rfl) (by rfl) (fun z => by cases z) (by decide)) pa_nil))))))))) pa_nil)))))))
        (C8.pss_cut (ps_set (i := 6) scLaw.nd rfl (Or.inl rfl) (pe_lst pa_nil))
        (C8.pss_cut (ps_for PassesOwn.never rfl (pi_range1 (by rfl) (T.of "range") (pa_cons (pe_call g3 hr rfl D3.m D3.F.kp D3.b .nil pass0 (pa_cons (pv 2) (pa_cons pe_int pa_nil))) pa_nil)) (pg_name (i := 5) scLaw.nd rfl (Or.inl rfl)) (pss_cons (ps_set (i := 7) scLaw.nd rfl (Or.inl rfl) (pe_call g4 hr rfl D4.m D4.F.kp D4.b .nil pass0 (pa_cons (pv 2) (pa_cons (pv 4) pa_nil))))
          (pss_one (ps_expr (pe_bm PySem.F.plainAttrs_list PySem.F.slot_list_append PySem.F.type_list_append mt_append (pv 6) (pa_cons (pe_ifExp (pt_cmpR op_eq (pe_call g3 hr rfl D3.m D3.F.kp D3.b .nil pass0 (pa_cons (pv 2) (pa_cons pe_int pa_nil))) pe_int (nomark _)) (pe_call g6 hr rfl D6.m D6.F.kp D6.b .nil pass0 (pa_cons (pv 7) pa_nil)) (pv 7)) pa_nil))))))
        (pss_one (ps_if (pt_not (pt_val (pe_callG (E := E0) g7 hg hr rfl D7.m D7.F.kp D7.b pass0 (pa_cons (pv 6) pa_nil)))) (pss_one (ps_ret pe_bl)) pss_nil))))))))))
    (pss_one (ps_ret pe_bl))), ?_⟩
  refine ⟨.ref a, rfl, a, ns, rfl, hS, fun z => ⟨(by show 1 ≤ sizeLine; decide), fun p0 h0 => ⟨.ref a, rfl, 1, rfl, 3, rfl, a, _, rfl, (hS.ex (Ex.new h0)).sqL, fun p1 h1 => ⟨p0, p1, _, _, rfl, rfl, (Ex.new h1) _ _ upd_same, upd_same, ?_, fun pL hL => ?_⟩⟩⟩⟩
  · have : (cutV (ns.map V.int) (some 1) (some 3)).length ≤ 63 := by
      unfold cutV
      rw [List.length_take, List.length_drop, List.length_map]
      omega
    exact Nat.le_trans (show 1 + _ ≤ 64 by omega) (by decide)
  have lL : (upd (upd (upd H p0 (.lst [.int z])) p1 (.lst (cutV (ns.map V.int) (some 1) (some 3)))) pL (.lst ([.int z] ++ cutV (ns.map V.int) (some 1) (some 3)))) pL = some (.lst ([.int z] ++ cutV (ns.map V.int) (some 1) (some 3))) := upd_same
  generalize (upd (upd (upd H p0 (.lst [.int z])) p1 (.lst (cutV (ns.map V.int) (some 1) (some 3)))) pL (.lst ([.int z] ++ cutV (ns.map V.int) (some 1) (some 3)))) = H1 at lL ⊢
  refine ⟨pL, rfl, ⟨_, .inl (.inl lL)⟩, ?_⟩
  refine for_list (K := K) (a := pL) (xs := [.int z] ++ cutV (ns.map V.int) (some 1) (some 3)) (fun i σ H3 => (∃ y1 y2 y3 y4 y5 y6 y7, σ = [some (.ref a), y1, y2, y3, y4, y5, y6, y7]) ∧ Ex H1 H3) ⟨⟨_, _, _, _, _, _, _, rfl⟩, Ex.refl _⟩ (fun i σ H3 _ q => .inl (.inl (q.2 pL _ lL))) ?_ ?_
  · rintro i x σ H3 hi ⟨⟨y1, y2, y3, y4, y5, y6, y7, rfl⟩, e13⟩
    obtain ⟨num, rfl⟩ : ∃ z, x = V.int z := by
      rcases List.mem_append.mp (List.mem_of_getElem? hi) with q | q
      · exact ⟨z, List.mem_singleton.mp q⟩
      · obtain ⟨z, _, e⟩ := List.mem_map.mp (mem_cutV q)
        exact ⟨z, e.symm⟩
    refine ⟨_, rfl, num, rfl, fun p H4 np e4 st4 _ => ?_⟩
    have np1 : H1 p = none := fresh_back e13 np
    have e14 := e13.trans e4
    refine ⟨3, rfl, by decide, by decide, ?_⟩
    refine for_range (lo := 0) (n := 3) (fun i σ H5 => (∃ y3 y4 y5 y6 y7, σ = [some (.ref a), some (.int num), some (.ref p), y3, y4, y5, y6, y7]) ∧ Mv p H4 H5) ⟨⟨_, _, _, _, _, rfl⟩, Mv.refl st4⟩ ?_ ?_
    · rintro i σ H5 hi ⟨⟨y3, y4, y5, y6, y7, rfl⟩, m5⟩
      have st5 := m5.st
      have off : ∀ {H6 : Hp} {La : Addr} {xs : List V} {ps : List (V × D)}, (∀ x ∈ ps, Dc (fun b => b ≠ p ∧ b ≠ La) gC H6 3 x.1 x.2 ∧ PD x.2 13 ∧ DD x.2 8) → ∀ x ∈ ps, Dc (fun b => b ≠ p ∧ b ≠ La) gC (upd H6 La (.lst xs)) 3 x.1 x.2 ∧ PD x.2 13 ∧ DD x.2 8 := fun h x hx => ⟨(h x hx).1.off fun z => z.2 rfl, (h x hx).2⟩
      refine ⟨fun σ' H' => ∃ (L : Addr) (ps : List (V × D)), (∃ y3 y5 y6 y7, σ' = [some (.ref a), some (.int num), some (.ref p), y3, some (.ref L), y5, y6, y7]) ∧ Mv p H5 H' ∧ PlC p H' L ps ∧ ps.length = 2, ?_, ?_⟩
      · refine ⟨2, rfl, by decide, by decide, fun La hD => ?_⟩
        have nLp : La ≠ p := fun z => st5.ne (by rw [← z]; exact hD)
        refine lc_range (lo := 0) (n := 2) (fun i H6 => Mv p H5 H6 ∧ ∃ ps : List (V × D), H6 La = some (.lst (ps.map (·.1))) ∧ (∀ x ∈ ps, Dc (fun b => b ≠ p ∧ b ≠ La) gC H6 3 x.1 x.2 ∧ PD x.2 13 ∧ DD x.2 8) ∧ ps.length = i) ⟨(Mv.refl st5).new hD, [], upd_same, (fun x hx => nomatch hx), rfl⟩ (fun i H6 hi q => ?_) fun H6 q => ?_
        · obtain ⟨m6, ps, h6, hps, hl⟩ := q
          refine ⟨rfl, t_yes ⟨.ref p, rfl, (by show 2 ≤ sizeLine; decide), fun pk hpk => ⟨p, pk, ["a", "b"], rfl, (m6.new hpk).st, ⟨fun z => m6.st.ne (by rw [← z]; exact hpk), upd_same, by decide +kernel, by decide⟩, fun v d H7 m7 dn => ?_⟩⟩⟩
          have m67 := (Mv.of_ex (Ex.new hpk (o := .lst [.str "a", .str "b"])) m6.st).trans m7
          have h7 := m67.ex La _ nLp h6
          have hps7 : ∀ x ∈ ps, Dc (fun b => b ≠ p ∧ b ≠ La) gC H7 3 x.1 x.2 ∧ PD x.2 13 ∧ DD x.2 8 := fun x hx => ⟨(hps x hx).1.mv m67 (fun z => z.1 rfl), (hps x hx).2⟩
          have nLn : ∀ b, Nw (upd H6 pk (.lst [.str "a", .str "b"])) b → b ≠ p ∧ b ≠ La := fun b hb => ⟨fun z => (m6.new hpk).st.ne (by rw [← z]; exact hb), fun z => by
            have : (upd H6 pk (.lst [.str "a", .str "b"])) La = some (.lst (ps.map (·.1))) := (Ex.new hpk) _ _ h6
            rw [← z, hb] at this
            cases this⟩
          refine ⟨_, h7, (by rw [List.length_map, hl]; exact Nat.lt_of_lt_of_le hi (by decide)), (m6.trans m67).mut st5.ne hD h7, ps ++ [(v, d)], by rw [upd_same, List.map_append]; rfl, off fun x hx => ?_, by rw [List.length_append, hl]; rfl⟩
          rcases List.mem_append.mp hx with hx | hx
          · exact hps7 x hx
          · rw [List.mem_singleton.mp hx]
            exact ⟨dn.dc.imp nLn, dn.pd.mono (by decide), dn.dd.mono (by decide)⟩
        · obtain ⟨m6, ps, h6, hps, hl⟩ := q
          exact ⟨La, ps, ⟨_, _, _, _, rfl⟩, m6, ⟨nLp, h6, fun x hx => ⟨(hps x hx).1.imp fun b hb => hb.1, (hps x hx).2⟩⟩, hl⟩
      rintro _ H6 ⟨L, ps, ⟨y3, y5, y6, y7, rfl⟩, m6, w6, l6⟩
      -- the rest of the pool
      have menu : ∀ {G0 : Hp} {Q : V → Hp → Prop}, Mv p H5 G0 → (∀ x d G', Mv p G0 G' → Dn (Nw G0) G' 2 2 1 x d → Q x G') → ∀ p1, G0 p1 = none → ∀ p2, upd G0 p1 (.lst [.int 1]) p2 = none → ∀ p3, upd (upd G0 p1 (.lst [.int 1])) p2 (.lst [.str "1"]) p3 = none → ∀ G3, G3 = upd (upd (upd G0 p1 (.lst [.int 1])) p2 (.lst [.str "1"])) p3 (.dK []) → ∀ p4, G3 p4 = none → ∀ G4, G4 = upd (upd G3 p4 (.dK [])) p4 (.dK (mergeK [] [(Sum.inr "a", .int 1)])) → ∀ p5, G4 p5 = none → ∀ G5, G5 = upd (upd G4 p5 (.dK [])) p5 (.dK (mergeK [] [(Sum.inr "a", .str "1")])) → ∀ p6, G5 p6 = none →
          spPick [.ref p, .ref p6] (upd G5 p6 (.lst [.int 1, .str "1", .ref p1, .ref p2, .non, .ref p3, .ref p4, .ref p5])) Q E0 := fun {G0 Q} m0 kq p1 h1 p2 h2 p3 h3 G3 e3 p4 h4 G4 e4' p5 h5 G5 e5 p6 h6 => by
        have x1 : Ex G0 (upd G0 p1 (.lst [.int 1])) := Ex.new h1
        have l1 : (upd G0 p1 (.lst [.int 1])) p1 = some (.lst [.int 1]) := upd_same
        generalize (upd G0 p1 (.lst [.int 1])) = G1 at *
        have x2 : Ex G1 (upd G1 p2 (.lst [.str "1"])) := Ex.new h2
        have l2 : (upd G1 p2 (.lst [.str "1"])) p2 = some (.lst [.str "1"]) := upd_same
        generalize (upd G1 p2 (.lst [.str "1"])) = G2 at *
        have x3 : Ex G2 G3 := by rw [e3]; exact Ex.new h3
        have l3 : Dc (fun b => b = p3) gC G3 2 (.ref p3) (.ob fun _ => .nil) := Dc.ob (ms := []) (n := 1) rfl (by rw [e3]; exact upd_same) Mem.nil
        have x4 : Ex G3 G4 := by rw [e4']; exact (Ex.new h4).mut h4 upd_same
        have l4 : Dc (fun b => b = p4) gC G4 2 (.ref p4) (oneD "a" (.sc (.int 1))) := dc_one (n := 1) (by decide +kernel) rfl (by rw [e4']; exact upd_same) (Dc.sc (by decide +kernel))
        have x5 : Ex G4 G5 := by rw [e5]; exact (Ex.new h5).mut h5 upd_same
        have l5 : Dc (fun b => b = p5) gC G5 2 (.ref p5) (oneD "a" (.sc (.str "1"))) := dc_one (n := 1) (by decide +kernel) rfl (by rw [e5]; exact upd_same) (Dc.sc (by decide +kernel))
        clear e3 e4' e5
        have x6 : Ex G5 (upd G5 p6 (.lst [.int 1, .str "1", .ref p1, .ref p2, .non, .ref p3, .ref p4, .ref p5])) := Ex.new h6
        have l6 : (upd G5 p6 (.lst [.int 1, .str "1", .ref p1, .ref p2, .non, .ref p3, .ref p4, .ref p5])) p6 = some (.lst [.int 1, .str "1", .ref p1, .ref p2, .non, .ref p3, .ref p4, .ref p5]) := upd_same
        generalize (upd G5 p6 (.lst [.int 1, .str "1", .ref p1, .ref p2, .non, .ref p3, .ref p4, .ref p5])) = G6 at *
        have x05 := x1.trans (x2.trans (x3.trans (x4.trans x5)))
        have x06 := x05.trans x6
        have n6 : p6 ≠ p := fun z => m0.st.ne (by rw [← z]; exact fresh_back x05 h6)
        have mm := m0.trans (Mv.of_ex x06 m0.st)
        have f : ∀ {q : Addr}, Nw G0 q → q ≠ p := fun {q} hq z => m0.st.ne (by rw [← z]; exact hq)
        have q2 : Nw G0 p2 := fresh_back x1 h2
        have q3 : Nw G0 p3 := fresh_back (x1.trans x2) h3
        have q4 : Nw G0 p4 := fresh_back (x1.trans (x2.trans x3)) h4
        have q5 : Nw G0 p5 := fresh_back (x1.trans (x2.trans (x3.trans x4))) h5
        refine ⟨p, p6, _, rfl, mm.st, n6, l6, (by show 0 < 8; decide), (by show 8 < 1000; decide), fun x hx G' m => ?_⟩
        have mG : Mv p G0 G' := (Mv.of_ex x06 m0.st).trans m
        have sc : ∀ v : V, gC.C v = true → Dn (Nw G0) G' 2 2 1 v (.sc v) := fun v hv => ⟨Dc.sc hv, (by show 1 ≤ 2; decide), trivial⟩
        have oc : ∀ (k : Str) (v : V), (fun j : Str => if j = "a" then D.sc v else D.nil) k = if k = "a" then D.sc v else D.nil := fun _ _ => rfl
        have pd1 : ∀ v, PD (oneD "a" (.sc v)) 2 := fun v => by
          refine ⟨["a"], fun _ => 1, fun k hk => ?_, fun k => ?_, (by decide)⟩
          · rw [oc] at hk
            by_cases c : k = "a"
            · rw [c]; exact List.mem_singleton.mpr rfl
            · rw [if_neg c] at hk; cases hk
          · rw [oc]
            split
            · exact Nat.le_refl _
            · exact trivial
        have dd1 : ∀ v, DD (oneD "a" (.sc v)) 1 := fun v => ⟨Nat.le_refl _, fun k => by
          rw [oc]
          split <;> exact trivial⟩
        simp only [List.mem_cons, List.not_mem_nil, or_false] at hx
        rcases hx with rfl | rfl | rfl | rfl | rfl | rfl | rfl | rfl
        · exact kq _ _ _ mG (sc _ (by decide +kernel))
        · exact kq _ _ _ mG (sc _ (by decide +kernel))
        · exact kq _ _ _ mG ⟨Dc.ls h1 (m.ex _ _ (f h1) ((x2.trans (x3.trans (x4.trans (x5.trans x6)))) _ _ l1)) (by decide +kernel), (by show 1 ≤ 2; decide), trivial⟩
        · exact kq _ _ _ mG ⟨Dc.ls q2 (m.ex _ _ (f q2) ((x3.trans (x4.trans (x5.trans x6))) _ _ l2)) (by decide +kernel), (by show 1 ≤ 2; decide), trivial⟩
        · exact kq _ _ _ mG (sc _ (by decide +kernel))
        · exact kq _ _ _ mG ⟨((l3.ex (x4.trans (x5.trans x6))).mv m fun z => f q3 z.symm).imp fun b hb => by rw [hb]; exact q3, ⟨[], fun _ => 0, (fun k hk => nomatch hk), (fun _ => trivial), (by decide)⟩, Nat.le_refl _, fun _ => trivial⟩
        · exact kq _ _ _ mG ⟨((l4.ex (x5.trans x6)).mv m fun z => f q4 z.symm).imp fun b hb => by rw [hb]; exact q4, pd1 _, dd1 _⟩
        · exact kq _ _ _ mG ⟨((l5.ex x6).mv m fun z => f q5 z.symm).imp fun b hb => by rw [hb]; exact q5, pd1 _, dd1 _⟩
      refine ⟨fun σ' H' => ∃ (L : Addr) (ps : List (V × D)), (∃ y3 y5 y6 y7, σ' = [some (.ref a), some (.int num), some (.ref p), y3, some (.ref L), y5, y6, y7]) ∧ Mv p H5 H' ∧ PlC p H' L ps ∧ ps.length = 5, ?_, ?_⟩
      · refine ⟨_, rfl, 3, rfl, by decide, by decide, fun La hD => ?_⟩
        have nLp : La ≠ p := fun z => m6.st.ne (by rw [← z]; exact hD)
        refine lc_range (lo := 0) (n := 3) (fun i H7 => Mv p H6 H7 ∧ ∃ qs : List (V × D), H7 La = some (.lst (qs.map (·.1))) ∧ (∀ x ∈ qs, Dc (fun b => b ≠ p ∧ b ≠ La) gC H7 3 x.1 x.2 ∧ PD x.2 13 ∧ DD x.2 8) ∧ qs.length = i) ⟨(Mv.refl m6.st).new hD, [], upd_same, (fun x hx => nomatch hx), rfl⟩ (fun i H7 hi q => ?_) fun H7 q => ?_
        · obtain ⟨m7, qs, h7, hqs, hl⟩ := q
          refine ⟨rfl, t_yes ⟨.ref p, rfl, (by show 1 ≤ sizeLine; decide), fun p1 h1 => ⟨(by show 1 ≤ sizeLine; decide), fun p2 h2 => fun p3 h3 p4 h4 => ⟨upd_same, [(Sum.inr "a", .int 1)], rfl, (by show 1 ≤ 15; decide), fun p5 h5 => ⟨upd_same, [(Sum.inr "a", .str "1")], rfl, (by show 1 ≤ 15; decide), (by show 8 ≤ sizeLine; decide), fun p6 h6 => menu (m6.trans m7) (fun x d G' mG dn => ?_) p1 h1 p2 h2 p3 h3 _ rfl p4 h4 _ rfl p5 h5 _ rfl p6 h6⟩⟩⟩⟩⟩
          have h8 := mG.ex La _ nLp h7
          refine ⟨_, h8, (by rw [List.length_map, hl]; exact Nat.lt_of_lt_of_le hi (by decide)), (m7.trans mG).mut m6.st.ne hD h8, qs ++ [(x, d)], by rw [upd_same, List.map_append]; rfl, off fun y hy => ?_, by rw [List.length_append, hl]; rfl⟩
          rcases List.mem_append.mp hy with hy | hy
          · exact ⟨(hqs y hy).1.mv mG (fun z => z.1 rfl), (hqs y hy).2⟩
          · rw [List.mem_singleton.mp hy]
            exact ⟨(dn.dc.lift (by decide)).imp fun b hb => ⟨fun z => m7.st.ne (by rw [← z]; exact hb), fun z => by rw [← z, hb] at h7; cases h7⟩, dn.pd.mono (by decide), dn.dd.mono (by decide)⟩
        · obtain ⟨m7, qs, h7, hqs, hl⟩ := q
          have wp := w6.mv m7
          refine ⟨L, La, _, _, rfl, rfl, wp.at', h7, ?_, fun c hc => ?_⟩
          · rw [List.length_map, List.length_map, l6, hl]
            decide
          have ec : Ex H7 (upd H7 c (.lst (ps.map (·.1) ++ qs.map (·.1)))) := Ex.new hc
          refine ⟨c, ps ++ qs, ⟨_, _, _, _, rfl⟩, (m6.trans m7).new hc, ⟨fun z => m7.st.ne (by rw [← z]; exact hc), by rw [upd_same, List.map_append], fun x hx => ?_⟩, by rw [List.length_append, l6, hl]⟩
          rcases List.mem_append.mp hx with hx | hx
          · exact ⟨(wp.dc x hx).1.ex ec, (wp.dc x hx).2⟩
          · exact ⟨((hqs x hx).1.imp fun b hb => hb.1).ex ec, (hqs x hx).2⟩
      rintro _ H7 ⟨L, ps, ⟨y3, y5, y6, y7, rfl⟩, m7, w7, l7⟩
      -- the row
      refine ⟨fun σ' H' => ∃ (R : Addr), (∃ y3 y5 y7, σ' = [some (.ref a), some (.int num), some (.ref p), y3, some (.ref L), y5, some (.ref R), y7]) ∧ Mv p H5 H' ∧ PlR p R H' L ps ∧ R ≠ p ∧ H5 R = none ∧ H' R = some (.lst []), ?_, ?_⟩
      · refine ⟨(by show 0 ≤ sizeLine; decide), fun R hR => ?_⟩
        have eR : Ex H7 (upd H7 R (.lst [])) := Ex.new hR
        exact ⟨R, ⟨_, _, _, rfl⟩, m7.new hR, ⟨(w7.mv (Mv.of_ex eR m7.st)).at', w7.ne, (fun z => by rw [← z, w7.at'] at hR; cases hR), fun x hx => ⟨(((w7.dc x hx).1.alloc.imp (S' := fun b => b ≠ p ∧ b ≠ R) fun b hb => ⟨hb.1, fun z => hb.2 (by rw [z]; exact hR)⟩)).ex eR, (w7.dc x hx).2⟩⟩, fun z => m7.st.ne (by rw [← z]; exact hR), m7.free st5.ne hR, upd_same⟩
      rintro _ H8 ⟨R, ⟨y3, y5, y7, rfl⟩, m8, w8, nRp, nR5, h8⟩
      have st8 := m8.st
      refine ⟨fun σ' H' => ∃ (rs : List (V × D)), (∃ y3 y5 y7, σ' = [some (.ref a), some (.int num), some (.ref p), y3, some (.ref L), y5, some (.ref R), y7]) ∧ Mv p H5 H' ∧ H' R = some (.lst (rs.map (·.1))) ∧ (∀ x ∈ rs, Dc (fun b => b ≠ p ∧ b ≠ R) gC H' 3 x.1 x.2 ∧ PD x.2 13 ∧ DD x.2 8) ∧ rs.length ≤ 12, ?_, ?_⟩
      · refine ⟨.ref p, rfl, p, 13, rfl, m8.st, by decide, by decide, fun d H9 d0 d1 m9 _ => ⟨d, rfl, by omega, by omega, ?_⟩⟩
        refine for_range (lo := 0) (n := d.toNat) (fun i σ H' => ∃ (rs : List (V × D)), (∃ y3 y5 y7, σ = [some (.ref a), some (.int num), some (.ref p), y3, some (.ref L), y5, some (.ref R), y7]) ∧ Mv p H5 H' ∧ PlR p R H' L ps ∧ H' R = some (.lst (rs.map (·.1))) ∧ (∀ x ∈ rs, Dc (fun b => b ≠ p ∧ b ≠ R) gC H' 3 x.1 x.2 ∧ PD x.2 13 ∧ DD x.2 8) ∧ rs.length = i) ⟨[], ⟨_, _, _, rfl⟩, m8.trans m9, w8.mv m9, m9.ex _ _ nRp h8, (fun x hx => nomatch hx), rfl⟩ ?_ ?_
        · rintro i σ G0 hi ⟨rs, ⟨y3, y5, y7, rfl⟩, n0, wL, g0, hrs, hl⟩
          refine ⟨.ref p, rfl, .ref L, rfl, p, L, _, rfl, n0.st, w8.ne, wL.at', (by rw [List.length_map, l7]; decide), (by rw [List.length_map, l7]; decide), fun x hx G1 n1 => ?_⟩
          obtain ⟨q, hq, rfl⟩ := List.mem_map.mp hx
          have g1 := n1.ex _ _ nRp g0
          obtain ⟨dq, pq⟩ := wL.dc q hq
          refine ⟨.ref R, rfl, .inl ⟨rfl, _, .inl (.inl g1)⟩, .ref p, rfl, p, 2, rfl, n1.st, by decide, by decide, fun w G2 _ _ n2 _ => ⟨rfl, _, rfl, ?_⟩⟩
          have dq2 := (dq.mv n1 (fun z => z.1 rfl)).mv n2 (fun z => z.1 rfl)
          have n02 := n0.trans (n1.trans n2)
          have hrs2 := fun x hx => And.intro (((hrs x hx).1.mv n1 (fun z => z.1 rfl)).mv n2 (fun z => z.1 rfl)) (hrs x hx).2
          have fin : ∀ v d G3, Mv p G2 G3 → Dc (fun b => b ≠ p ∧ b ≠ R) gC G3 3 v d → PD d 13 → DD d 8 → rAppend (.ref R) [v] G3 fun _ H' => ∃ (rs : List (V × D)), (∃ y3' y5' y7', [some (V.ref a), some (.int num), some (.ref p), y3, some (.ref L), some (.int (0 + (i : Int))), some (.ref R), some q.1] = [some (V.ref a), some (.int num), some (.ref p), y3', some (.ref L), y5', some (.ref R), y7']) ∧ Mv p H5 H' ∧ PlR p R H' L ps ∧ H' R = some (.lst (rs.map (·.1))) ∧ (∀ x ∈ rs, Dc (fun b => b ≠ p ∧ b ≠ R) gC H' 3 x.1 x.2 ∧ PD x.2 13 ∧ DD x.2 8) ∧ rs.length = i + 1 := fun v d G3 n3 dv pv' dv' => by
            have h3 := (n2.trans n3).ex _ _ nRp g1
            refine ⟨R, _, _, rfl, rfl, h3, ?_, rs ++ [(v, d)], ⟨_, _, _, rfl⟩, (n02.trans n3).mut st5.ne nR5 h3, (wL.mv (n1.trans (n2.trans n3))).put, by rw [upd_same, List.map_append]; rfl, fun x hx => ?_, by rw [List.length_append, hl]; rfl⟩
            · rw [List.length_map, hl]
              exact Nat.lt_of_lt_of_le (show i < 13 by omega) (by decide)
            · rcases List.mem_append.mp hx with hx | hx
              · exact ⟨((hrs2 x hx).1.mv n3 (fun z => z.1 rfl)).off fun z => z.2 rfl, (hrs2 x hx).2⟩
              · rw [List.mem_singleton.mp hx]
                exact ⟨dv.off fun z => z.2 rfl, pv', dv'⟩
          refine ite2 (fun c => ?_) fun c => ?_
          · refine ⟨_, rfl, _, q.1, q.2, rfl, dq2, fun r G3 e3 dr => ?_⟩
            exact fin r q.2 G3 (Mv.of_ex e3 n2.st) (dr.imp fun b hb => ⟨fun z => n2.st.ne (by rw [← z]; exact hb), fun z => by rw [← z] at g1; have := n2.ex _ _ (by rw [z]; exact nRp) g1; rw [hb] at this; cases this⟩) pq.1 pq.2
          · exact ⟨_, rfl, fin q.1 q.2 G2 (Mv.refl n2.st) dq2 pq.1 pq.2⟩
        · rintro σ G0 ⟨rs, ⟨y3, y5, y7, rfl⟩, n0, _, g0, hrs, hl⟩
          exact ⟨rs, ⟨_, _, _, rfl⟩, n0, g0, hrs, by omega⟩
      rintro _ H9 ⟨rs, ⟨y3, y5, y7, rfl⟩, m9, h9, hrs, hl⟩
      refine ⟨.ref R, rfl, _, R, rs, rfl, h9, hrs, hl, fun H' e' => ⟨_, rfl, iteF ⟨⟨_, _, _, _, _, rfl⟩, m5.trans (m9.trans (Mv.of_ex e' m9.st))⟩⟩⟩
    · rintro σ H5 ⟨⟨y3, y4, y5, y6, y7, rfl⟩, m5⟩
      exact ⟨⟨_, _, _, _, _, _, _, rfl⟩, mv_ex e14 np1 m5⟩
  · rintro σ H3 ⟨⟨y1, y2, y3, y4, y5, y6, y7, rfl⟩, e13⟩
    exact k H3
end
end TP

namespace TP
open PySem PySem.Spec PyProof.Rows L2
instance : TabL := ⟨fun _ _ => False, fun _ _ _ h _ => h.elim⟩
theorem all_mk {l : PySem.W.OpenLaw} {w : World} {K : PySem.W.Frag} {h : Heap} {mg : Str → Option Value} {fa f0 f1 f2 f3 f4 f5 f6 f7 f8 f9 f10 f11 f12 f13 f14 f15 f16 f17 f18 f19 f20 f21 f22 f23 f24 : Addr} (X : K.In h) (G : h.Ns mainGlobals mg) (hfa : mg "law" = some (.ref fa))
    {od0 an0 od1 an1 od2 an2 od3 an3 od4 an4 od5 an5 od6 an6 od7 an7 od8 an8 od9 an9 od10 an10 od11 an11 od12 an12 od13 an13 od14 an14 od15 an15 od16 an16 od17 an17 od18 an18 od19 an19 od20 an20 od21 an21 od22 an22 od23 an23 od24 an24 : Option Addr} {sl0 sl1 sl2 sl3 sl4 sl5 sl6 sl7 sl8 sl9 sl10 sl11 sl12 sl13 sl14 sl15 sl16 sl17 sl18 sl19 sl20 sl21 sl22 sl23 sl24 : Array (Option Value)} {oc0 kV0 dc0 pm0 cd0 ct0 oc1 kV1 dc1 pm1 cd1 ct1 oc2 kV2 dc2 pm2 cd2 ct2 oc3 kV3 dc3 pm3 cd3 ct3 oc4 kV4 dc4 pm4 cd4 ct4 oc5 kV5 dc5 pm5 cd5 ct5 oc6 kV6 dc6 pm6 cd6 ct6 oc7 kV7 dc7 pm7 cd7 ct7 oc8 kV8 dc8 pm8 cd8 ct8 oc9 kV9 dc9 pm9 cd9 ct9 oc10 kV10 dc10 pm10 cd10 ct10 oc11 kV11 dc11 pm11 cd11 ct11 oc12 kV12 dc12 pm12 cd12 ct12 oc13 kV13 dc13 pm13 cd13 ct13 oc14 kV14 dc14 pm14 cd14 ct14 oc15 kV15 dc15 pm15 cd15 ct15 oc16 kV16 dc16 pm16 cd16 ct16 oc17 kV17 dc17 pm17 cd17 ct17 oc18 kV18 dc18 pm18 cd18 ct18 oc19 kV19 dc19 pm19 cd19 ct19 oc20 kV20 dc20 pm20 cd20 ct20 oc21 kV21 dc21 pm21 cd21 ct21 oc22 kV22 dc22 pm22 cd22 ct22 oc23 kV23 dc23 pm23 cd23 ct23 oc24 kV24 dc24 pm24 cd24 ct24 : Value} {tk0 tk1 : Tok}
    (a0 : PySem.W.nsIn K mainGlobals "check" = some (some (.ref f0))) (l0 : K.lookup f0 = some ⟨oc0, od0, .func (PySem.W.fnOf "check" "check" (defArgs sCheck) (defBody sCheck) (defScope sCheck) .none kV0 dc0 pm0 an0 cd0 ct0), sl0⟩) (c0 : PySem.W.codeIn K cd0 "check" = true) (k0 : PySem.W.keepIn K (.ref f0) = true)
    (a1 : PySem.W.nsIn K mainGlobals "wrong_path" = some (some (.ref f1))) (l1 : K.lookup f1 = some ⟨oc1, od1, .func (PySem.W.fnOf "wrong_path" "wrong_path" (defArgs sWrong) (defBody sWrong) (defScope sWrong) .none kV1 dc1 pm1 an1 cd1 ct1), sl1⟩) (c1 : PySem.W.codeIn K cd1 "wrong_path" = true) (k1 : PySem.W.keepIn K (.ref f1) = true)
    (a2 : PySem.W.nsIn K mainGlobals "is_atom" = some (some (.ref f2))) (l2 : K.lookup f2 = some ⟨oc2, od2, .func (PySem.W.fnOf "is_atom" "is_atom" (defArgs sIsAtom) (defBody sIsAtom) (defScope sIsAtom) .none kV2 dc2 pm2 an2 cd2 ct2), sl2⟩) (c2 : PySem.W.codeIn K cd2 "is_atom" = true) (k2 : PySem.W.keepIn K (.ref f2) = true)
    (a3 : PySem.W.nsIn K mainGlobals "is_element" = some (some (.ref f3))) (l3 : K.lookup f3 = some ⟨oc3, od3, .func (PySem.W.fnOf "is_element" "is_element" (defArgs sIsElem) (defBody sIsElem) (defScope sIsElem) .none kV3 dc3 pm3 an3 cd3 ct3), sl3⟩) (c3 : PySem.W.codeIn K cd3 "is_element" = true) (k3 : PySem.W.keepIn K (.ref f3) = true)
    (a4 : PySem.W.nsIn K mainGlobals "depth" = some (some (.ref f4))) (l4 : K.lookup f4 = some ⟨oc4, od4, .func (PySem.W.fnOf "depth" "depth" (defArgs sDepth) (defBody sDepth) (defScope sDepth) .none kV4 dc4 pm4 an4 cd4 ct4), sl4⟩) (c4 : PySem.W.codeIn K cd4 "depth" = true) (k4 : PySem.W.keepIn K (.ref f4) = true)
    (a5 : PySem.W.nsIn K mainGlobals "parts" = some (some (.ref f5))) (l5 : K.lookup f5 = some ⟨oc5, od5, .func (PySem.W.fnOf "parts" "parts" (defArgs sParts) (defBody sParts) (defScope sParts) .none kV5 dc5 pm5 an5 cd5 ct5), sl5⟩) (c5 : PySem.W.codeIn K cd5 "parts" = true) (k5 : PySem.W.keepIn K (.ref f5) = true)
    (a6 : PySem.W.nsIn K mainGlobals "copied" = some (some (.ref f6))) (l6 : K.lookup f6 = some ⟨oc6, od6, .func (PySem.W.fnOf "copied" "copied" (defArgs sCopied) (defBody sCopied) (defScope sCopied) .none kV6 dc6 pm6 an6 cd6 ct6), sl6⟩) (c6 : PySem.W.codeIn K cd6 "copied" = true) (k6 : PySem.W.keepIn K (.ref f6) = true)
    (a7 : PySem.W.nsIn K mainGlobals "check_row" = some (some (.ref f7))) (l7 : K.lookup f7 = some ⟨oc7, od7, .func (PySem.W.fnOf "check_row" "check_row" (defArgs sCheckRow) (defBody sCheckRow) (defScope sCheckRow) .none kV7 dc7 pm7 an7 cd7 ct7), sl7⟩) (c7 : PySem.W.codeIn K cd7 "check_row" = true) (k7 : PySem.W.keepIn K (.ref f7) = true)
    (a8 : PySem.W.nsIn K mainGlobals "latest" = some (some (.ref f8))) (l8 : K.lookup f8 = some ⟨oc8, od8, .func (PySem.W.fnOf "latest" "latest" (defArgs sLatest) (defBody sLatest) (defScope sLatest) .none kV8 dc8 pm8 an8 cd8 ct8), sl8⟩) (c8 : PySem.W.codeIn K cd8 "latest" = true) (k8 : PySem.W.keepIn K (.ref f8) = true)
    (a9 : PySem.W.nsIn K mainGlobals "_law_cell" = some (some (.ref f9))) (l9 : K.lookup f9 = some ⟨oc9, od9, .func (PySem.W.fnOf "_law_cell" "_law_cell" (defArgs sCell) (defBody sCell) (defScope sCell) .none kV9 dc9 pm9 an9 cd9 ct9), sl9⟩) (c9 : PySem.W.codeIn K cd9 "_law_cell" = true) (k9 : PySem.W.keepIn K (.ref f9) = true)
    (a10 : PySem.W.nsIn K mainGlobals "_law_rng" = some (some (.ref f10))) (l10 : K.lookup f10 = some ⟨oc10, od10, .func (PySem.W.fnOf "_law_rng" "_law_rng" (defArgs sRng) (defBody sRng) (defScope sRng) .none kV10 dc10 pm10 an10 cd10 ct10), sl10⟩) (c10 : PySem.W.codeIn K cd10 "_law_rng" = true) (k10 : PySem.W.keepIn K (.ref f10) = true)
    (a11 : PySem.W.nsIn K mainGlobals "_law_draw" = some (some (.ref f11))) (l11 : K.lookup f11 = some ⟨oc11, od11, .func (PySem.W.fnOf "_law_draw" "_law_draw" (defArgs sDraw) (defBody sDraw) (defScope sDraw) .none kV11 dc11 pm11 an11 cd11 ct11), sl11⟩) (c11 : PySem.W.codeIn K cd11 "_law_draw" = true) (k11 : PySem.W.keepIn K (.ref f11) = true)
    (a12 : PySem.W.nsIn K mainGlobals "_law_pick" = some (some (.ref f12))) (l12 : K.lookup f12 = some ⟨oc12, od12, .func (PySem.W.fnOf "_law_pick" "_law_pick" (defArgs sPick) (defBody sPick) (defScope sPick) .none kV12 dc12 pm12 an12 cd12 ct12), sl12⟩) (c12 : PySem.W.codeIn K cd12 "_law_pick" = true) (k12 : PySem.W.keepIn K (.ref f12) = true)
    (a13 : PySem.W.nsIn K mainGlobals "_law_random_patch" = some (some (.ref f13))) (l13 : K.lookup f13 = some ⟨oc13, od13, .func (PySem.W.fnOf "_law_random_patch" "_law_random_patch" (defArgs sRPatch) (defBody sRPatch) (defScope sRPatch) .none kV13 dc13 pm13 an13 cd13 ct13), sl13⟩) (c13 : PySem.W.codeIn K cd13 "_law_random_patch" = true) (k13 : PySem.W.keepIn K (.ref f13) = true)
    (a14 : PySem.W.nsIn K mainGlobals "_law_after" = some (some (.ref f14))) (l14 : K.lookup f14 = some ⟨oc14, od14, .func (PySem.W.fnOf "_law_after" "_law_after" (defArgs sLAfter) (defBody sLAfter) (defScope sLAfter) .none kV14 dc14 pm14 an14 cd14 ct14), sl14⟩) (c14 : PySem.W.codeIn K cd14 "_law_after" = true) (k14 : PySem.W.keepIn K (.ref f14) = true)
    (a15 : PySem.W.nsIn K mainGlobals "_law_run" = some (some (.ref f15))) (l15 : K.lookup f15 = some ⟨oc15, od15, .func (PySem.W.fnOf "_law_run" "_law_run" (defArgs sLRun) (defBody sLRun) (defScope sLRun) .none kV15 dc15 pm15 an15 cd15 ct15), sl15⟩) (c15 : PySem.W.codeIn K cd15 "_law_run" = true) (k15 : PySem.W.keepIn K (.ref f15) = true)
    (a16 : PySem.W.nsIn K mainGlobals "_law_paths_in" = some (some (.ref f16))) (l16 : K.lookup f16 = some ⟨oc16, od16, .func (PySem.W.fnOf "_law_paths_in" "_law_paths_in" (defArgs sPathsIn) (defBody sPathsIn) (defScope sPathsIn) .none kV16 dc16 pm16 an16 cd16 ct16), sl16⟩) (c16 : PySem.W.codeIn K cd16 "_law_paths_in" = true) (k16 : PySem.W.keepIn K (.ref f16) = true)
    (a17 : PySem.W.nsIn K mainGlobals "_law_paths" = some (some (.ref f17))) (l17 : K.lookup f17 = some ⟨oc17, od17, .func (PySem.W.fnOf "_law_paths" "_law_paths" (defArgs sCPaths) (defBody sCPaths) (defScope sCPaths) .none kV17 dc17 pm17 an17 cd17 ct17), sl17⟩) (c17 : PySem.W.codeIn K cd17 "_law_paths" = true) (k17 : PySem.W.keepIn K (.ref f17) = true)
    (a18 : PySem.W.nsIn K mainGlobals "_law_document" = some (some (.ref f18))) (l18 : K.lookup f18 = some ⟨oc18, od18, .func (PySem.W.fnOf "_law_document" "_law_document" (defArgs sDocu) (defBody sDocu) (defScope sDocu) .none kV18 dc18 pm18 an18 cd18 ct18), sl18⟩) (c18 : PySem.W.codeIn K cd18 "_law_document" = true) (k18 : PySem.W.keepIn K (.ref f18) = true)
    (a19 : PySem.W.nsIn K mainGlobals "_law_documents" = some (some (.ref f19))) (l19 : K.lookup f19 = some ⟨oc19, od19, .func (PySem.W.fnOf "_law_documents" "_law_documents" (defArgs sDocus) (defBody sDocus) (defScope sDocus) .none kV19 dc19 pm19 an19 cd19 ct19), sl19⟩) (c19 : PySem.W.codeIn K cd19 "_law_documents" = true) (k19 : PySem.W.keepIn K (.ref f19) = true)
    (a20 : PySem.W.nsIn K mainGlobals "_law_is_same" = some (some (.ref f20))) (l20 : K.lookup f20 = some ⟨oc20, od20, .func (PySem.W.fnOf "_law_is_same" "_law_is_same" (defArgs sIsSame) (defBody sIsSame) (defScope sIsSame) .none kV20 dc20 pm20 an20 cd20 ct20), sl20⟩) (c20 : PySem.W.codeIn K cd20 "_law_is_same" = true) (k20 : PySem.W.keepIn K (.ref f20) = true)
    (a21 : PySem.W.nsIn K mainGlobals "_law_turned" = some (some (.ref f21))) (l21 : K.lookup f21 = some ⟨oc21, od21, .func (PySem.W.fnOf "_law_turned" "_law_turned" (defArgs sTurned) (defBody sTurned) (defScope sTurned) .none kV21 dc21 pm21 an21 cd21 ct21), sl21⟩) (c21 : PySem.W.codeIn K cd21 "_law_turned" = true) (k21 : PySem.W.keepIn K (.ref f21) = true)
    (a22 : PySem.W.nsIn K mainGlobals "_law_spoil" = some (some (.ref f22))) (l22 : K.lookup f22 = some ⟨oc22, od22, .func (PySem.W.fnOf "_law_spoil" "_law_spoil" (defArgs sLSpoil) (defBody sLSpoil) (defScope sLSpoil) .none kV22 dc22 pm22 an22 cd22 ct22), sl22⟩) (c22 : PySem.W.codeIn K cd22 "_law_spoil" = true) (k22 : PySem.W.keepIn K (.ref f22) = true)
    (a23 : PySem.W.nsIn K mainGlobals "_law_one_holds" = some (some (.ref f23))) (l23 : K.lookup f23 = some ⟨oc23, od23, .func (PySem.W.fnOf "_law_one_holds" "_law_one_holds" (defArgs sHolds) (defBody sHolds) (defScope sHolds) .none kV23 dc23 pm23 an23 cd23 ct23), sl23⟩) (c23 : PySem.W.codeIn K cd23 "_law_one_holds" = true) (k23 : PySem.W.keepIn K (.ref f23) = true)
    (a24 : PySem.W.nsIn K mainGlobals "law" = some (some (.ref f24))) (l24 : K.lookup f24 = some ⟨oc24, od24, .func (PySem.W.fnOf "law" "law" (defArgs sLaw) (defBody sLaw) (defScope sLaw) .none kV24 dc24 pm24 an24 cd24 ct24), sl24⟩) (c24 : PySem.W.codeIn K cd24 "law" = true) (k24 : PySem.W.keepIn K (.ref f24) = true)
    (q0 : PySem.W.nsIn K mainGlobals "MOST_DEPTH" = some (some (.int 8 tk0)))
    (q1 : PySem.W.nsIn K mainGlobals "MOST_PARTS" = some (some (.int 200 tk1)))
    (z0 : PySem.W.nsIn K mainGlobals "isinstance" = some none)
    (z1 : PySem.W.nsIn K mainGlobals "dict" = some none)
    (z2 : PySem.W.nsIn K mainGlobals "list" = some none)
    (z3 : PySem.W.nsIn K mainGlobals "int" = some none)
    (z4 : PySem.W.nsIn K mainGlobals "str" = some none)
    (z5 : PySem.W.nsIn K mainGlobals "bool" = some none)
    (z6 : PySem.W.nsIn K mainGlobals "sorted" = some none)
    (z7 : PySem.W.nsIn K mainGlobals "sum" = some none)
    (z8 : PySem.W.nsIn K mainGlobals "max" = some none)
    (z9 : PySem.W.nsIn K mainGlobals "all" = some none)
    (z10 : PySem.W.nsIn K mainGlobals "len" = some none)
    (z11 : PySem.W.nsIn K mainGlobals "range" = some none)
    (z12 : PySem.W.nsIn K mainGlobals "abs" = some none)
    (z13 : PySem.W.nsIn K mainGlobals "repr" = some none)
    (z14 : PySem.W.nsIn K mainGlobals "tuple" = some none)
    (z15 : PySem.W.nsIn K mainGlobals "enumerate" = some none)
    : ∃ fd : FuncData, (∀ (s : Shared) (v : Value), BindsTo s fd ⟨[v], []⟩ [("_law_script", v)]) ∧ ∀ base : Heap, K.In base → base.Ns mainGlobals mg → (∃ o, base.get? sysModules = some o) → FnOkG l.prog w K mg base CX0 31 fa fd ["_law_script"] (spLaw K) := by
  have e := hfa.symm.trans (PySem.W.mg_of X G a24)
  cases e
  have B : Bi mg := fun x hx => by
    simp only [List.mem_cons, List.not_mem_nil, or_false] at hx
    rcases hx with rfl | rfl | rfl | rfl | rfl | rfl | rfl | rfl | rfl | rfl | rfl | rfl | rfl | rfl | rfl
    · exact PySem.W.mg_none_of X G z0
    · exact PySem.W.mg_none_of X G z1
    · exact PySem.W.mg_none_of X G z2
    · exact PySem.W.mg_none_of X G z3
    · exact PySem.W.mg_none_of X G z4
    · exact PySem.W.mg_none_of X G z5
    · exact PySem.W.mg_none_of X G z6
    · exact PySem.W.mg_none_of X G z7
    · exact PySem.W.mg_none_of X G z8
    · exact PySem.W.mg_none_of X G z9
    · exact PySem.W.mg_none_of X G z10
    · exact PySem.W.mg_none_of X G z11
    · exact PySem.W.mg_none_of X G z12
    · exact PySem.W.mg_none_of X G z13
    · exact PySem.W.mg_none_of X G z14
  have h_enumerate : mg "enumerate" = none := PySem.W.mg_none_of X G z15
  have F0 := fun_mk (st := sCheck) l0 c0 k0
  have D0 : Df K mg "check" sCheck ["value"] _ _ := ⟨F0, PySem.W.mg_of X G a0, F0.binds (ps := ["value"]) fun _ _ _ _ _ _ us hl => match us, hl with | [_], _ => rfl⟩
  have F1 := fun_mk (st := sWrong) l1 c1 k1
  have D1 : Df K mg "wrong_path" sWrong ["value"] _ _ := ⟨F1, PySem.W.mg_of X G a1, F1.binds (ps := ["value"]) fun _ _ _ _ _ _ us hl => match us, hl with | [_], _ => rfl⟩
  have F2 := fun_mk (st := sIsAtom) l2 c2 k2
  have D2 : Df K mg "is_atom" sIsAtom ["value"] _ _ := ⟨F2, PySem.W.mg_of X G a2, F2.binds (ps := ["value"]) fun _ _ _ _ _ _ us hl => match us, hl with | [_], _ => rfl⟩
  have F3 := fun_mk (st := sIsElem) l3 c3 k3
  have D3 : Df K mg "is_element" sIsElem ["value"] _ _ := ⟨F3, PySem.W.mg_of X G a3, F3.binds (ps := ["value"]) fun _ _ _ _ _ _ us hl => match us, hl with | [_], _ => rfl⟩
  have F4 := fun_mk (st := sDepth) l4 c4 k4
  have D4 : Df K mg "depth" sDepth ["document"] _ _ := ⟨F4, PySem.W.mg_of X G a4, F4.binds (ps := ["document"]) fun _ _ _ _ _ _ us hl => match us, hl with | [_], _ => rfl⟩
  have F5 := fun_mk (st := sParts) l5 c5 k5
  have D5 : Df K mg "parts" sParts ["document"] _ _ := ⟨F5, PySem.W.mg_of X G a5, F5.binds (ps := ["document"]) fun _ _ _ _ _ _ us hl => match us, hl with | [_], _ => rfl⟩
  have F6 := fun_mk (st := sCopied) l6 c6 k6
  have D6 : Df K mg "copied" sCopied ["document"] _ _ := ⟨F6, PySem.W.mg_of X G a6, F6.binds (ps := ["document"]) fun _ _ _ _ _ _ us hl => match us, hl with | [_], _ => rfl⟩
  have F7 := fun_mk (st := sCheckRow) l7 c7 k7
  have D7 : Df K mg "check_row" sCheckRow ["row"] _ _ := ⟨F7, PySem.W.mg_of X G a7, F7.binds (ps := ["row"]) fun _ _ _ _ _ _ us hl => match us, hl with | [_], _ => rfl⟩
  have F8 := fun_mk (st := sLatest) l8 c8 k8
  have D8 : Df K mg "latest" sLatest ["row"] _ _ := ⟨F8, PySem.W.mg_of X G a8, F8.binds (ps := ["row"]) fun _ _ _ _ _ _ us hl => match us, hl with | [_], _ => rfl⟩
  have F9 := fun_mk (st := sCell) l9 c9 k9
  have D9 : Df K mg "_law_cell" sCell ["_law_script", "_law_index"] _ _ := ⟨F9, PySem.W.mg_of X G a9, F9.binds (ps := ["_law_script", "_law_index"]) fun _ _ _ _ _ _ us hl => match us, hl with | [_, _], _ => rfl⟩
  have F10 := fun_mk (st := sRng) l10 c10 k10
  have D10 : Df K mg "_law_rng" sRng ["_law_cell_here"] _ _ := ⟨F10, PySem.W.mg_of X G a10, F10.binds (ps := ["_law_cell_here"]) fun _ _ _ _ _ _ us hl => match us, hl with | [_], _ => rfl⟩
  have F11 := fun_mk (st := sDraw) l11 c11 k11
  have D11 : Df K mg "_law_draw" sDraw ["_law_rng_here", "_law_limit"] _ _ := ⟨F11, PySem.W.mg_of X G a11, F11.binds (ps := ["_law_rng_here", "_law_limit"]) fun _ _ _ _ _ _ us hl => match us, hl with | [_, _], _ => rfl⟩
  have F12 := fun_mk (st := sPick) l12 c12 k12
  have D12 : Df K mg "_law_pick" sPick ["_law_rng_here", "_law_items"] _ _ := ⟨F12, PySem.W.mg_of X G a12, F12.binds (ps := ["_law_rng_here", "_law_items"]) fun _ _ _ _ _ _ us hl => match us, hl with | [_, _], _ => rfl⟩
  have F13 := fun_mk (st := sRPatch) l13 c13 k13
  have D13 : Df K mg "_law_random_patch" sRPatch ["_law_rng_here", "_law_keys", "_law_depth"] _ _ := ⟨F13, PySem.W.mg_of X G a13, F13.binds (ps := ["_law_rng_here", "_law_keys", "_law_depth"]) fun _ _ _ _ _ _ us hl => match us, hl with | [_, _, _], _ => rfl⟩
  have F14 := fun_mk (st := sLAfter) l14 c14 k14
  have D14 : Df K mg "_law_after" sLAfter ["_law_document_here", "_law_patch"] _ _ := ⟨F14, PySem.W.mg_of X G a14, F14.binds (ps := ["_law_document_here", "_law_patch"]) fun _ _ _ _ _ _ us hl => match us, hl with | [_, _], _ => rfl⟩
  have F15 := fun_mk (st := sLRun) l15 c15 k15
  have D15 : Df K mg "_law_run" sLRun ["_law_document_here", "_law_row"] _ _ := ⟨F15, PySem.W.mg_of X G a15, F15.binds (ps := ["_law_document_here", "_law_row"]) fun _ _ _ _ _ _ us hl => match us, hl with | [_, _], _ => rfl⟩
  have F16 := fun_mk (st := sPathsIn) l16 c16 k16
  have D16 : Df K mg "_law_paths_in" sPathsIn ["_law_patch", "_law_path"] _ _ := ⟨F16, PySem.W.mg_of X G a16, F16.binds (ps := ["_law_patch", "_law_path"]) fun _ _ _ _ _ _ us hl => match us, hl with | [_, _], _ => rfl⟩
  have F17 := fun_mk (st := sCPaths) l17 c17 k17
  have D17 : Df K mg "_law_paths" sCPaths ["_law_row"] _ _ := ⟨F17, PySem.W.mg_of X G a17, F17.binds (ps := ["_law_row"]) fun _ _ _ _ _ _ us hl => match us, hl with | [_], _ => rfl⟩
  have F18 := fun_mk (st := sDocu) l18 c18 k18
  have D18 : Df K mg "_law_document" sDocu ["_law_path", "_law_end"] _ _ := ⟨F18, PySem.W.mg_of X G a18, F18.binds (ps := ["_law_path", "_law_end"]) fun _ _ _ _ _ _ us hl => match us, hl with | [_, _], _ => rfl⟩
  have F19 := fun_mk (st := sDocus) l19 c19 k19
  have D19 : Df K mg "_law_documents" sDocus ["_law_paths_here"] _ _ := ⟨F19, PySem.W.mg_of X G a19, F19.binds (ps := ["_law_paths_here"]) fun _ _ _ _ _ _ us hl => match us, hl with | [_], _ => rfl⟩
  have F20 := fun_mk (st := sIsSame) l20 c20 k20
  have D20 : Df K mg "_law_is_same" sIsSame ["_law_row", "_law_other"] _ _ := ⟨F20, PySem.W.mg_of X G a20, F20.binds (ps := ["_law_row", "_law_other"]) fun _ _ _ _ _ _ us hl => match us, hl with | [_, _], _ => rfl⟩
  have F21 := fun_mk (st := sTurned) l21 c21 k21
  have D21 : Df K mg "_law_turned" sTurned ["_law_patch"] _ _ := ⟨F21, PySem.W.mg_of X G a21, F21.binds (ps := ["_law_patch"]) fun _ _ _ _ _ _ us hl => match us, hl with | [_], _ => rfl⟩
  have F22 := fun_mk (st := sLSpoil) l22 c22 k22
  have D22 : Df K mg "_law_spoil" sLSpoil ["_law_value"] _ _ := ⟨F22, PySem.W.mg_of X G a22, F22.binds (ps := ["_law_value"]) fun _ _ _ _ _ _ us hl => match us, hl with | [_], _ => rfl⟩
  have F23 := fun_mk (st := sHolds) l23 c23 k23
  have D23 : Df K mg "_law_one_holds" sHolds ["_law_row"] _ _ := ⟨F23, PySem.W.mg_of X G a23, F23.binds (ps := ["_law_row"]) fun _ _ _ _ _ _ us hl => match us, hl with | [_], _ => rfl⟩
  have F24 := fun_mk (st := sLaw) l24 c24 k24
  have D24 : Df K mg "law" sLaw ["_law_script"] _ _ := ⟨F24, PySem.W.mg_of X G a24, F24.binds (ps := ["_law_script"]) fun _ _ _ _ _ _ us hl => match us, hl with | [_], _ => rfl⟩
  refine ⟨PySem.W.fnOf "law" "law" (defArgs sLaw) (defBody sLaw) (defScope sLaw) .none kV24 dc24 pm24 an24 cd24 ct24, fun s v => .of_eq rfl, fun base _ _ hSys => ?_⟩
  have R : Prog K mg _ _ _ _ _ _ _ _ _ _ _ _ _ _ := ⟨D0, D1, D2, D3, D4, D5, D6, ⟨_, PySem.W.mg_of X G q0⟩, ⟨_, PySem.W.mg_of X G q1⟩⟩
  have gRow := ok_row (P := l.prog) (w := w) (base := base) R B (G := gC) (by decide) (by decide) 3 D7
  have gCp := ok_copied (P := l.prog) (w := w) (base := base) D6 B (G := gC) (by decide) 3
  have gL := ok_latest (k := 7) B h_enumerate D8 D6 D7 (gCp.mono (by decide)) (gRow.mono (by decide))
  have gT := ok_latestT (k := 7) B h_enumerate D8 D6 D7 (gCp.mono (by decide)) (gRow.mono (by decide))
  have gDw := ok_cdraw (P := l.prog) (w := w) (base := base) B D11
  have gPk := ok_pick (P := l.prog) (w := w) (base := base) B D12 D11 gDw
  have gRP := ok_rpatch (P := l.prog) (w := w) (base := base) B D13 D11 D12 gDw gPk 2
  have gAf := ok_cafter (P := l.prog) (w := w) (base := base) D14 B (G := gC) (by decide) (by decide +kernel) 4
  have gRn := ok_crun (k := 10) D15 D14 (gAf.mono (by decide))
  have gPI := ok_pathsin (P := l.prog) (w := w) (base := base) B D16 3
  have gPs := ok_cpaths (n := 3) (k := 10) (by decide) B D17 D16 (gPI.mono (by decide))
  have gDo := ok_docu (P := l.prog) (w := w) (base := base) B D18
  have gDs := ok_docus (n := 3) (k := 10) (by decide) B D19 D18 (gDo.mono (by decide))
  have gIs := ok_issame (n := 3) (k := 12) (by decide) B D20 D19 D17 D15 (gDs.mono (by decide)) (gPs.mono (by decide)) (gRn.mono (by decide))
  have gTu := ok_turned (P := l.prog) (w := w) (base := base) B D21 (G := gC) (by decide) 3
  have gSp := ok_spoil (P := l.prog) (w := w) (base := base) D22 B 3
  have gOh := ok_holds (k := 29) B h_enumerate hSys D23 D8 D20 D22 (gL.mono (by decide)) (gT.mono (by decide)) (gIs.mono (by decide)) (gSp.mono (by decide))
  exact ok_law B D24 D9 D10 D11 D12 D13 D21 D23 ((ok_cell B D9).mono (by decide)) ((ok_rng B D10).mono (by decide)) (gDw.mono (by decide)) (gPk.mono (by decide)) (gRP.mono (by decide)) (gTu.mono (by decide)) gOh
end TP
open PySem PySem.W PyProof.Rows
set_option maxHeartbeats 0 in
theorem PySem.Challenge.cw_twopatches_k42_patches_that_come_again_holds : PySem.Challenge.rw_twopatches_k42_patches_that_come_again.Holds := by
  w_on; o_law; k_head; (case hw => w_witness2)
  k_fill
  refine TP.walk_GS (l := PySem.Challenge.rw_twopatches_k42_patches_that_come_again) (n := 63) (k := 31) (x := "_law_script") (sp := TP.spLaw) (by decide +kernel) rfl (by decide) rfl ⟨rfl, by decide, by decide⟩ (fun w h Y => PySem.W.kIn_of Y) ?F (fun K H a ns hl _ hS => ⟨a, ns, rfl, hS, hl, fun _ => rfl⟩)
  case F =>
    intro w mg fa h KX G hmg
    refine' TP.all_mk KX G hmg ?a0 ?l0 ?c0 ?k0 ?a1 ?l1 ?c1 ?k1 ?a2 ?l2 ?c2 ?k2 ?a3 ?l3 ?c3 ?k3 ?a4 ?l4 ?c4 ?k4 ?a5 ?l5 ?c5 ?k5 ?a6 ?l6 ?c6 ?k6 ?a7 ?l7 ?c7 ?k7 ?a8 ?l8 ?c8 ?k8 ?a9 ?l9 ?c9 ?k9 ?a10 ?l10 ?c10 ?k10 ?a11 ?l11 ?c11 ?k11 ?a12 ?l12 ?c12 ?k12 ?a13 ?l13 ?c13 ?k13 ?a14 ?l14 ?c14 ?k14 ?a15 ?l15 ?c15 ?k15 ?a16 ?l16 ?c16 ?k16 ?a17 ?l17 ?c17 ?k17 ?a18 ?l18 ?c18 ?k18 ?a19 ?l19 ?c19 ?k19 ?a20 ?l20 ?c20 ?k20 ?a21 ?l21 ?c21 ?k21 ?a22 ?l22 ?c22 ?k22 ?a23 ?l23 ?c23 ?k23 ?a24 ?l24 ?c24 ?k24 ?q0 ?q1 ?z0 ?z1 ?z2 ?z3 ?z4 ?z5 ?z6 ?z7 ?z8 ?z9 ?z10 ?z11 ?z12 ?z13 ?z14 ?z15
    (case a0 => k_is)
    (case l0 => k_is)
    (case c0 => k_is)
    (case k0 => k_is)
    (case a1 => k_is)
    (case l1 => k_is)
    (case c1 => k_is)
    (case k1 => k_is)
    (case a2 => k_is)
    (case l2 => k_is)
    (case c2 => k_is)
    (case k2 => k_is)
    (case a3 => k_is)
    (case l3 => k_is)
    (case c3 => k_is)
    (case k3 => k_is)
    (case a4 => k_is)
    (case l4 => k_is)
    (case c4 => k_is)
    (case k4 => k_is)
    (case a5 => k_is)
    (case l5 => k_is)
    (case c5 => k_is)
    (case k5 => k_is)
    (case a6 => k_is)
    (case l6 => k_is)
    (case c6 => k_is)
    (case k6 => k_is)
    (case a7 => k_is)
    (case l7 => k_is)
    (case c7 => k_is)
    (case k7 => k_is)
    (case a8 => k_is)
    (case l8 => k_is)
    (case c8 => k_is)
    (case k8 => k_is)
    (case a9 => k_is)
    (case l9 => k_is)
    (case c9 => k_is)
    (case k9 => k_is)
    (case a10 => k_is)
    (case l10 => k_is)
    (case c10 => k_is)
    (case k10 => k_is)
    (case a11 => k_is)
    (case l11 => k_is)
    (case c11 => k_is)
    (case k11 => k_is)
    (case a12 => k_is)
    (case l12 => k_is)
    (case c12 => k_is)
    (case k12 => k_is)
    (case a13 => k_is)
    (case l13 => k_is)
    (case c13 => k_is)
    (case k13 => k_is)
    (case a14 => k_is)
    (case l14 => k_is)
    (case c14 => k_is)
    (case k14 => k_is)
    (case a15 => k_is)
    (case l15 => k_is)
    (case c15 => k_is)
    (case k15 => k_is)
    (case a16 => k_is)
    (case l16 => k_is)
    (case c16 => k_is)
    (case k16 => k_is)
    (case a17 => k_is)
    (case l17 => k_is)
    (case c17 => k_is)
    (case k17 => k_is)
    (case a18 => k_is)
    (case l18 => k_is)
    (case c18 => k_is)
    (case k18 => k_is)
    (case a19 => k_is)
    (case l19 => k_is)
    (case c19 => k_is)
    (case k19 => k_is)
    (case a20 => k_is)
    (case l20 => k_is)
    (case c20 => k_is)
    (case k20 => k_is)
    (case a21 => k_is)
    (case l21 => k_is)
    (case c21 => k_is)
    (case k21 => k_is)
    (case a22 => k_is)
    (case l22 => k_is)
    (case c22 => k_is)
    (case k22 => k_is)
    (case a23 => k_is)
    (case l23 => k_is)
    (case c23 => k_is)
    (case k23 => k_is)
    (case a24 => k_is)
    (case l24 => k_is)
    (case c24 => k_is)
    (case k24 => k_is)
    (case q0 => k_is)
    (case q1 => k_is)
    (case z0 => k_is)
    (case z1 => k_is)
    (case z2 => k_is)
    (case z3 => k_is)
    (case z4 => k_is)
    (case z5 => k_is)
    (case z6 => k_is)
    (case z7 => k_is)
    (case z8 => k_is)
    (case z9 => k_is)
    (case z10 => k_is)
    (case z11 => k_is)
    (case z12 => k_is)
    (case z13 => k_is)
    (case z14 => k_is)
    (case z15 => k_is)
