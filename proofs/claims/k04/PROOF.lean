import PyProof.Rows.All
import Wide.All
import OpenK.AllK
import Wide.FinOn
import HandS.ForMost
import HandS.Evl
import HandS.IsInst
import HandS.DictComp
import HandS.DeepEq
import HandS.More
import HandS.Wide
import HandS.RaiseMore
import KE.DatumOrd
import HandS.SortKw
import PyProof.ReprRoads
import HandS.Style
import HandS.Codes
import PySem.Challenge.RW_twopatches_k04_patches_applied
set_option Elab.async false
set_option linter.all false
set_option maxRecDepth 100000
set_option maxHeartbeats 4000000
namespace TP
open PySem L2 Evl
/-! ### documents, as mathematics -/
inductive D where
  | nil
  | sc (v : V)
  | ls (xs : List V)
  | ob (f : Str → D)
def D.tgt : D → Str → D
  | .ob f => f
  | _ => fun _ => .nil
def D.isNil : D → Bool
  | .nil => true
  | _ => false
def D.isNon : D → Bool
  | .sc .non => true
  | _ => false
/-- the document after a patch -/
def D.app (d : D) : D → D
  | .ob g => .ob fun k => if (g k).isNil then d.tgt k else if (g k).isNon then .nil else D.app (d.tgt k) (g k)
  | p => p
theorem app_ob (d : D) (g : Str → D) : D.app d (.ob g) = .ob fun k => if (g k).isNil then d.tgt k else if (g k).isNon then .nil else D.app (d.tgt k) (g k) := rfl
def D.fup (f : Str → D) (k : Str) (e : D) : Str → D := fun j => if j = k then e else f j

/-- None, an int, a text -/
def isSc : V → Bool
  | .non => true
  | .int _ => true
  | .str _ => true
  | _ => false
abbrev inK (p : Str × V) : Key × V := (Sum.inr p.1, p.2)
abbrev kvsOf (ms : List (Str × V)) : List (Key × V) := ms.map inK

theorem valV_inK (ms : List (Str × V)) (k : Str) : valV (kvsOf ms) (Sum.inr k) = valV ms k := by
  induction ms with
  | nil => rfl
  | cons p r ih =>
    show valV (inK p :: kvsOf r) _ = _
    by_cases e : p.1 = k
    · rw [valV_pos (p := inK p) (show Sum.inr p.1 = Sum.inr k by rw [e]), valV_pos e]
    · rw [valV_neg (p := inK p) (fun z => e (Sum.inr.inj z)), valV_neg e, ih]
theorem putK_inK (ms : List (Str × V)) (k : Str) (v : V) : putK (kvsOf ms) (Sum.inr k) v = kvsOf (putK ms k v) := by
  unfold putK
  have e : ((kvsOf ms).any fun kv => decide (kv.1 = (Sum.inr k : Key))) = (ms.any fun kv => decide (kv.1 = k)) := by
    rw [List.any_map]
    congr 1
    funext p
    by_cases h : p.1 = k
    · simp [h]
    · have h2 : ¬ (Sum.inr p.1 : Key) = Sum.inr k := fun z => h (Sum.inr.inj z)
      simp [h]
  rw [e]
  split
  · show _ = List.map inK (List.map _ ms)
    rw [List.map_map, List.map_map]
    congr 1
    funext p
    by_cases h : p.1 = k
    · simp [h]
    · simp [h]
  · show _ = List.map inK (ms ++ [(k, v)])
    rw [List.map_append]
    rfl
theorem keys_inK (ms : List (Str × V)) : (kvsOf ms).map (fun kv => kV kv.1) = ms.map fun p => V.str p.1 := by
  rw [List.map_map]
  rfl
theorem keys_put (ms : List (Str × V)) (k : Str) (v : V) : ∀ j, j ∈ (putK ms k v).map (·.1) ↔ j = k ∨ j ∈ ms.map (·.1) := by
  intro j
  unfold putK
  split
  · rename_i h
    have e : (ms.map fun kv => if kv.1 = k then (kv.1, v) else kv).map (·.1) = ms.map (·.1) := by
      rw [List.map_map]
      congr 1
      funext p
      by_cases h : p.1 = k <;> simp [h]
    rw [e]
    constructor
    · exact Or.inr
    · rintro (h1 | h1)
      · subst h1
        rw [List.any_eq_true] at h
        obtain ⟨p, hp, hd⟩ := h
        exact List.mem_map.mpr ⟨p, hp, of_decide_eq_true hd⟩
      · exact h1
  · rw [List.map_append]
    simp [or_comm]
theorem nodup_put {ms : List (Str × V)} (k : Str) (v : V) (h : (ms.map (·.1)).Nodup) : ((putK ms k v).map (·.1)).Nodup := by
  unfold putK
  split
  · have e : (ms.map fun kv => if kv.1 = k then (kv.1, v) else kv).map (·.1) = ms.map (·.1) := by
      rw [List.map_map]
      congr 1
      funext p
      by_cases h : p.1 = k <;> simp [h]
    rw [e]
    exact h
  · rename_i hn
    rw [List.map_append, List.nodup_append]
    refine ⟨h, by simp, ?_⟩
    intro a ha b hb e
    simp at hb
    subst hb
    subst e
    apply hn
    obtain ⟨p, hp, hd⟩ := List.mem_map.mp ha
    exact List.any_eq_true.mpr ⟨p, hp, by simp [hd]⟩
theorem valV_mem {ms : List (Str × V)} {k : Str} {u : V} (h : valV ms k = some u) : (k, u) ∈ ms := by
  unfold valV at h
  obtain ⟨p, hp, e⟩ := Option.map_eq_some_iff.mp h
  have h1 := List.mem_of_find?_eq_some hp
  have h2 := List.find?_some hp
  have h3 : p.1 = k := of_decide_eq_true h2
  obtain ⟨a, b⟩ := p
  simp at e h3
  subst e
  subst h3
  exact h1
theorem valV_of_mem {ms : List (Str × V)} {k : Str} {u : V} (nd : (ms.map (·.1)).Nodup) (h : (k, u) ∈ ms) : valV ms k = some u := by
  induction ms with
  | nil => cases h
  | cons p r ih =>
    rw [List.map_cons, List.nodup_cons] at nd
    by_cases e : p.1 = k
    · rw [valV_pos e]
      rcases List.mem_cons.mp h with h | h
      · rw [← h]
      · exact absurd (List.mem_map.mpr ⟨(k, u), h, e.symm⟩) nd.1
    · rw [valV_neg e]
      rcases List.mem_cons.mp h with h | h
      · exact absurd (by rw [← h]) e
      · exact ih nd.2 h
theorem valV_none_of {ms : List (Str × V)} {k : Str} (h : k ∉ ms.map (·.1)) : valV ms k = none := by
  cases e : valV ms k with
  | none => rfl
  | some u => exact absurd (List.mem_map.mpr ⟨(k, u), valV_mem e, rfl⟩) h
theorem valV_some_of {ms : List (Str × V)} {k : Str} (h : k ∈ ms.map (·.1)) : ∃ u, valV ms k = some u := by
  cases e : valV ms k with
  | some u => exact ⟨u, rfl⟩
  | none =>
    obtain ⟨p, hp, e2⟩ := List.mem_map.mp h
    have := valV_any k ms
    rw [e] at this
    simp at this
    exact absurd e2 (this _ _ hp)
theorem sub_len : ∀ {xs ys : List Str}, xs.Nodup → (∀ x ∈ xs, x ∈ ys) → xs.length ≤ ys.length
  | [], _, _, _ => Nat.zero_le _
  | x :: xs, ys, nd, h => by
    rw [List.nodup_cons] at nd
    have hx := h x List.mem_cons_self
    have h2 : ∀ z ∈ xs, z ∈ ys.erase x := fun z hz => (List.mem_erase_of_ne (fun e => nd.1 (by rw [← e]; exact hz))).mpr (h z (List.mem_cons_of_mem _ hz))
    have h3 := sub_len nd.2 h2
    have h4 := List.length_erase_of_mem hx
    have h5 : 0 < ys.length := List.length_pos_of_mem hx
    rw [List.length_cons]
    omega

/-! ### documents in the heap -/
/-- what may stand in a document: its keys, its scalars, how long its lists are -/
structure Gen where
  KS : List Str
  C : V → Bool
  L : Nat
  sc : ∀ v, C v = true → isSc v = true
/-- S: where its objects lie; G: the keys that may stand in it; n: levels -/
def Dc (S : Addr → Prop) (G : Gen) (H : Hp) : Nat → V → D → Prop
  | 0, _, _ => False
  | n + 1, v, d => (G.C v = true ∧ d = .sc v) ∨ (∃ a xs, v = .ref a ∧ S a ∧ H a = some (.lst xs) ∧ (xs.length ≤ G.L ∧ ∀ x ∈ xs, G.C x = true) ∧ d = .ls xs) ∨
    ∃ a ms f, v = .ref a ∧ S a ∧ H a = some (.dK (kvsOf ms)) ∧ (ms.map (·.1)).Nodup ∧ (∀ k ∈ ms.map (·.1), k ∈ G.KS) ∧ d = .ob f ∧ (∀ k, valV ms k = none → f k = .nil) ∧ ∀ k u, valV ms k = some u → Dc S G H n u (f k)
/-- the members ms stand for f -/
structure Mem (S : Addr → Prop) (G : Gen) (H : Hp) (n : Nat) (ms : List (Str × V)) (f : Str → D) : Prop where
  nd : (ms.map (·.1)).Nodup
  ks : ∀ k ∈ ms.map (·.1), k ∈ G.KS
  no : ∀ k, valV ms k = none → f k = .nil
  at' : ∀ k u, valV ms k = some u → Dc S G H n u (f k)
theorem Dc.sc {S G H n v} (h : G.C v = true) : Dc S G H (n + 1) v (.sc v) := .inl ⟨h, rfl⟩
theorem Dc.ls {S : Addr → Prop} {G H n a xs} (hS : S a) (h : H a = some (.lst xs)) (hx : xs.length ≤ G.L ∧ ∀ x ∈ xs, G.C x = true) : Dc S G H (n + 1) (.ref a) (.ls xs) := .inr (.inl ⟨a, xs, rfl, hS, h, hx, rfl⟩)
theorem Dc.ob {S : Addr → Prop} {G H n a ms f} (hS : S a) (h : H a = some (.dK (kvsOf ms))) (m : Mem S G H n ms f) : Dc S G H (n + 1) (.ref a) (.ob f) :=
  .inr (.inr ⟨a, ms, f, rfl, hS, h, m.nd, m.ks, rfl, m.no, m.at'⟩)
/-- the three ways -/
theorem Dc.cases {S G H n v d} {P : Prop} (h : Dc S G H n v d) (h1 : ∀ m, n = m + 1 → G.C v = true → d = .sc v → P)
    (h2 : ∀ m a xs, n = m + 1 → v = .ref a → S a → H a = some (.lst xs) → (xs.length ≤ G.L ∧ ∀ x ∈ xs, G.C x = true) → d = .ls xs → P)
    (h3 : ∀ m a ms f, n = m + 1 → v = .ref a → S a → H a = some (.dK (kvsOf ms)) → Mem S G H m ms f → d = .ob f → P) : P := by
  cases n with
  | zero => exact (show False from h).elim
  | succ m =>
    rcases h with ⟨a, b⟩ | ⟨a, xs, e, s, r, x, d⟩ | ⟨a, ms, f, e, s, r, nd, ks, d, no, at'⟩
    · exact h1 m rfl a b
    · exact h2 m a xs rfl e s r x d
    · exact h3 m a ms f rfl e s r ⟨nd, ks, no, at'⟩ d
theorem Dc.mono {S S' : Addr → Prop} {G : Gen} {H H' : Hp} (hS : ∀ a, S a → S' a) (hH : ∀ a u, S a → H a = some u → H' a = some u) : ∀ {n m v d}, n ≤ m → Dc S G H n v d → Dc S' G H' m v d
  | 0, _, _, _, _, h => (show False from h).elim
  | n + 1, 0, _, _, hl, _ => absurd hl (by omega)
  | n + 1, m + 1, v, d, hl, h => by
    rcases h with ⟨a, b⟩ | ⟨a, xs, e, s, r, x, d⟩ | ⟨a, ms, f, e, s, r, nd, ks, d, no, at'⟩
    · exact .inl ⟨a, b⟩
    · exact .inr (.inl ⟨a, xs, e, hS a s, hH a _ s r, x, d⟩)
    · exact .inr (.inr ⟨a, ms, f, e, hS a s, hH a _ s r, nd, ks, d, no, fun k u hu => Dc.mono hS hH (by omega) (at' k u hu)⟩)
theorem Dc.ex {S G H H' n v d} (e : Ex H H') (h : Dc S G H n v d) : Dc S G H' n v d := Dc.mono (fun _ s => s) (fun a u _ r => e a u r) (Nat.le_refl _) h
theorem Dc.lift {S G H n m v d} (hl : n ≤ m) (h : Dc S G H n v d) : Dc S G H m v d := Dc.mono (fun _ s => s) (fun _ _ _ r => r) hl h
theorem Dc.imp {S S' : Addr → Prop} {G H n v d} (hS : ∀ a, S a → S' a) (h : Dc S G H n v d) : Dc S' G H n v d := Dc.mono hS (fun _ _ _ r => r) (Nat.le_refl _) h
theorem Mem.mono {S S' : Addr → Prop} {G : Gen} {H H' : Hp} {n m ms f} (hS : ∀ a, S a → S' a) (hH : ∀ a u, S a → H a = some u → H' a = some u) (hl : n ≤ m) (h : Mem S G H n ms f) : Mem S' G H' m ms f :=
  ⟨h.nd, h.ks, h.no, fun k u z => Dc.mono hS hH hl (h.at' k u z)⟩
theorem Mem.ex {S G H H' n ms f} (e : Ex H H') (h : Mem S G H n ms f) : Mem S G H' n ms f := ⟨h.nd, h.ks, h.no, fun k u z => (h.at' k u z).ex e⟩
theorem Mem.imp {S S' : Addr → Prop} {G H n ms f} (hS : ∀ a, S a → S' a) (h : Mem S G H n ms f) : Mem S' G H n ms f := ⟨h.nd, h.ks, h.no, fun k u z => (h.at' k u z).imp hS⟩
theorem Mem.lift {S G H n m ms f} (hl : n ≤ m) (h : Mem S G H n ms f) : Mem S G H m ms f := ⟨h.nd, h.ks, h.no, fun k u z => (h.at' k u z).lift hl⟩
theorem Mem.nil {S G H n} : Mem S G H n [] (fun _ => .nil) := ⟨by simp, fun k z => (nomatch z), fun _ _ => rfl, fun k u z => nomatch z⟩
theorem Mem.len {S G H n ms f} (h : Mem S G H n ms f) : ms.length ≤ G.KS.length := by
  have := sub_len h.nd h.ks
  rwa [List.length_map] at this
theorem Mem.put {S G H n ms f k v e} (h : Mem S G H n ms f) (hk : k ∈ G.KS) (hv : Dc S G H n v e) : Mem S G H n (putK ms k v) (D.fup f k e) := by
  refine ⟨nodup_put k v h.nd, fun j hj => ?_, fun j hj => ?_, fun j u hu => ?_⟩
  · rcases (keys_put ms k v j).mp hj with z | z
    · rw [z]; exact hk
    · exact h.ks j z
  · rw [valV_put] at hj
    unfold D.fup
    by_cases z : j = k
    · rw [if_pos z] at hj; cases hj
    · rw [if_neg z] at hj ⊢
      exact h.no j hj
  · rw [valV_put] at hu
    unfold D.fup
    by_cases z : j = k
    · rw [if_pos z] at hu ⊢
      cases hu
      exact hv
    · rw [if_neg z] at hu ⊢
      exact h.at' j u hu
theorem Dc.ne_nil {S G H n v d} (h : Dc S G H n v d) : d.isNil = false := by
  refine h.cases (fun m _ _ e => ?_) (fun m a xs _ _ _ _ _ e => ?_) (fun m a ms f _ _ _ _ _ e => ?_) <;> subst e <;> rfl
theorem Dc.non {S G H n v d} (h : Dc S G H n v d) : d.isNon = decide (v = .non) := by
  refine h.cases (fun m _ hs e => ?_) (fun m a xs _ ev _ _ _ e => ?_) (fun m a ms f _ ev _ _ _ e => ?_)
  · subst e
    cases v <;> first | rfl | simp [D.isNon]
  · subst e; subst ev
    simp [D.isNon]
  · subst e; subst ev
    simp [D.isNon]
/-- an object of another depth than a's is not in the way of what is read: a may be changed -/
theorem Dc.away {S G H a o} : ∀ {n v d}, Dc S G H n v d → (∀ m e, m ≤ n → ¬ Dc S G H m (.ref a) e) → Dc S G (upd H a o) n v d
  | 0, _, _, h, _ => (show False from h).elim
  | n + 1, v, d, h, hn => by
    have ne : ∀ b, v = .ref b → b ≠ a := fun b e z => hn (n + 1) d (Nat.le_refl _) (by rw [← z, ← e]; exact h)
    have rd : ∀ b u, b ≠ a → H b = some u → (upd H a o) b = some u := fun b u z r => by
      rw [upd_ne z]
      exact r
    rcases h with ⟨x, y⟩ | ⟨b, xs, e, s, r, x, d⟩ | ⟨b, ms, f, e, s, r, nd, ks, d, no, at'⟩
    · exact .inl ⟨x, y⟩
    · exact .inr (.inl ⟨b, xs, e, s, rd b _ (ne b e) r, x, d⟩)
    · exact .inr (.inr ⟨b, ms, f, e, s, rd b _ (ne b e) r, nd, ks, d, no, fun k u hu => Dc.away (at' k u hu) fun m e' hm => hn m e' (by omega)⟩)
/-- the same values stand for the same document -/
theorem Dc.det {S S' G G' H} : ∀ {n m v d e}, Dc S G H n v d → Dc S' G' H m v e → d = e
  | 0, _, _, _, _, h, _ => (show False from h).elim
  | _ + 1, 0, _, _, _, _, h => (show False from h).elim
  | n + 1, m + 1, v, d, e, h, h' => by
    have same : ∀ {a : Addr} {u w : HO}, H a = some u → H a = some w → u = w := fun {a u w} r r' => Option.some.inj (r.symm.trans r')
    rcases h with ⟨x, y⟩ | ⟨b, xs, eb, s, r, x, dd⟩ | ⟨b, ms, f, eb, s, r, nd, ks, dd, no, at'⟩
    · rcases h' with ⟨x', y'⟩ | ⟨b', xs', e', s', r', x', d'⟩ | ⟨b', ms', f', e', s', r', nd', ks', d', no', at''⟩
      · rw [y, y']
      · subst e'; exact nomatch G.sc _ x
      · subst e'; exact nomatch G.sc _ x
    · subst eb
      rcases h' with ⟨x', y'⟩ | ⟨b', xs', e', s', r', x', d'⟩ | ⟨b', ms', f', e', s', r', nd', ks', d', no', at''⟩
      · exact nomatch G'.sc _ x'
      · cases e'
        have z := same r r'
        injection z with z
        rw [dd, d', z]
      · cases e'
        have z := same r r'
        cases z
    · subst eb
      rcases h' with ⟨x', y'⟩ | ⟨b', xs', e', s', r', x', d'⟩ | ⟨b', ms', f', e', s', r', nd', ks', d', no', at''⟩
      · exact nomatch G'.sc _ x'
      · cases e'
        have z := same r r'
        cases z
      · cases e'
        have z := same r r'
        injection z with z
        rw [dd, d']
        congr 1
        funext k
        have ez : valV ms k = valV ms' k := by rw [← valV_inK ms, ← valV_inK ms', z]
        cases hv : valV ms k with
        | none => rw [no k hv, no' k (by rw [← ez]; exact hv)]
        | some u => exact Dc.det (at' k u hv) (at'' k u (by rw [← ez]; exact hv))
/-- the least level at which a value stands for a document -/
theorem Dc.low {S G H v} : ∀ {n d}, Dc S G H n v d → ∃ m, m ≤ n ∧ Dc S G H m v d ∧ ∀ k e, k < m → ¬ Dc S G H k v e
  | 0, _, h => (show False from h).elim
  | n + 1, d, h => by
    by_cases c : ∃ k e, k < n + 1 ∧ Dc S G H k v e
    · obtain ⟨k, e, hk, he⟩ := c
      have := Dc.det h he
      subst this
      obtain ⟨m, h1, h2, h3⟩ := Dc.low (he.lift (by omega : k ≤ n))
      exact ⟨m, by omega, h2, h3⟩
    · exact ⟨n + 1, Nat.le_refl _, h, fun k e hk he => c ⟨k, e, hk, he⟩⟩
/-- the dict at a locked: its members as they stood -/
theorem Mem.lock {S G H n a ms f o} (ha : H a = some (.dK (kvsOf ms))) (hS : S a) (h : Mem S G H n ms f) : Mem S G (upd H a o) n ms f := by
  obtain ⟨m, hm, h2, h3⟩ := (Dc.ob (n := n) hS ha h).low
  refine h2.cases (fun k _ _ e => by cases e) (fun k b xs _ eb _ _ _ e => by cases e) (fun k b ms' f' ek eb _ r' M e => ?_)
  cases eb
  rw [ha] at r'
  have z : kvsOf ms' = kvsOf ms := by injection r' with r'; injection r' with r'; exact r'.symm
  have zz : ∀ j, valV ms' j = valV ms j := fun j => by rw [← valV_inK, ← valV_inK, z]
  injection e with e
  subst e
  exact ⟨h.nd, h.ks, h.no, fun j u hu => ((M.at' j u (by rw [zz]; exact hu)).away fun i e hi he => h3 i e (by omega) he).lift (by omega)⟩
/-- changes elsewhere -/
theorem Dc.off {S G H n v d a o} (h : Dc S G H n v d) (hS : ¬ S a) : Dc S G (upd H a o) n v d := Dc.mono (fun _ z => z) (fun b u s r => by rw [upd_ne (fun z => hS (by rw [← z]; exact s))]; exact r) (Nat.le_refl _) h
theorem Mem.off {S G H n ms f a o} (h : Mem S G H n ms f) (hS : ¬ S a) : Mem S G (upd H a o) n ms f := ⟨h.nd, h.ks, h.no, fun k u z => (h.at' k u z).off hS⟩
theorem ex_unlock {H H2 : Hp} {a : Addr} {f u : HO} (hu : H a = some u) (e : Ex (upd H a f) H2) : Ex H (upd H2 a u) := fun b o hb => by
  by_cases z : b = a
  · subst z
    rw [hu] at hb
    rw [upd_same]
    exact hb
  · rw [upd_ne z]
    exact e b o (by rw [upd_ne z]; exact hb)
theorem take_keys {ms : List (Str × V)} {i : Nat} {k : Str} {u : V} (h : ms[i]? = some (k, u)) (j : Str) : (j ∈ (ms.take (i + 1)).map (·.1)) ↔ (j ∈ (ms.take i).map (·.1) ∨ j = k) := by
  rw [List.take_add_one, h]
  simp
/-- f at the first i keys, g at the others -/
def mix (ms : List (Str × V)) (i : Nat) (f g : Str → D) : Str → D := fun k => if k ∈ (ms.take i).map (·.1) then f k else g k
theorem mix_zero {ms : List (Str × V)} {f g : Str → D} : mix ms 0 f g = g := by
  funext k
  simp [mix]
theorem mix_succ {ms : List (Str × V)} {i : Nat} {k : Str} {u : V} {f g : Str → D} (h : ms[i]? = some (k, u)) : D.fup (mix ms i f g) k (f k) = mix ms (i + 1) f g := by
  funext j
  unfold D.fup mix
  simp only [take_keys h]
  by_cases z : j = k
  · simp [z]
  · simp [z]
theorem mix_all {ms : List (Str × V)} {f g : Str → D} (h : ∀ k, k ∉ ms.map (·.1) → f k = g k) : mix ms ms.length f g = f := by
  funext j
  unfold mix
  rw [List.take_length]
  by_cases c : j ∈ ms.map (·.1)
  · rw [if_pos c]
  · rw [if_neg c, h j c]
theorem mix_new {ms : List (Str × V)} {i : Nat} {k : Str} {u : V} {f g : Str → D} (nd : (ms.map (·.1)).Nodup) (h : ms[i]? = some (k, u)) : mix ms i f g k = g k := by
  unfold mix
  rw [if_neg]
  intro hk
  have hi : i < ms.length := (List.getElem?_eq_some_iff.mp h).1
  obtain ⟨p, hp, e⟩ := List.mem_map.mp hk
  obtain ⟨j, hj, ej⟩ := List.getElem_of_mem hp
  rw [List.length_take] at hj
  have e2 : (ms.map (·.1))[j]? = some k := by
    rw [List.getElem?_map, List.getElem?_eq_getElem (by omega)]
    rw [List.getElem_take] at ej
    rw [ej, ← e]
    rfl
  have e3 : (ms.map (·.1))[i]? = some k := by
    rw [List.getElem?_map, h]
    rfl
  have := (List.getElem?_inj (by rw [List.length_map]; omega) nd).mp (e2.trans e3.symm)
  omega
theorem Dc.alloc {S G H} : ∀ {n v d}, Dc S G H n v d → Dc (fun x => S x ∧ H x ≠ none) G H n v d
  | 0, _, _, h => h
  | n + 1, v, d, h => by
    have al : ∀ {a : Addr} {o : HO}, H a = some o → H a ≠ none := fun r z => by rw [z] at r; cases r
    rcases h with ⟨x, y⟩ | ⟨b, xs, e, s, r, x, d⟩ | ⟨b, ms, f, e, s, r, nd, ks, d, no, at'⟩
    · exact .inl ⟨x, y⟩
    · exact .inr (.inl ⟨b, xs, e, ⟨s, al r⟩, r, x, d⟩)
    · exact .inr (.inr ⟨b, ms, f, e, ⟨s, al r⟩, r, nd, ks, d, no, fun k u hu => Dc.alloc (at' k u hu)⟩)
theorem Mem.alloc {S G H n ms f} (h : Mem S G H n ms f) : Mem (fun x => S x ∧ H x ≠ none) G H n ms f := ⟨h.nd, h.ks, h.no, fun k u hu => (h.at' k u hu).alloc⟩
theorem app_tgt {d e : D} (h : d.tgt = e.tgt) (p : D) : D.app d p = D.app e p := by
  cases p with
  | ob g =>
    rw [app_ob, app_ob, h]
  | _ => rfl
theorem mix_skip {ms : List (Str × V)} {i : Nat} {k : Str} {u : V} {f g : Str → D} (h : ms[i]? = some (k, u)) (e : f k = g k) : mix ms i f g = mix ms (i + 1) f g := by
  funext j
  unfold mix
  simp only [take_keys h]
  by_cases z : j = k
  · subst z
    simp [e]
  · simp [z]
theorem Ex.both {H H' : Hp} {a : Addr} {o : HO} (e : Evl.Ex H H') : Evl.Ex (upd H a o) (upd H' a o) := fun b u h => by
  by_cases z : b = a
  · subst z
    rw [upd_same] at h ⊢
    exact h
  · rw [upd_ne z] at h ⊢
    exact e b u h
/-- at most p parts -/
def PD : D → Nat → Prop
  | .nil, _ => True
  | .sc _, p => 1 ≤ p
  | .ls _, p => 1 ≤ p
  | .ob f, p => ∃ (ks : List Str) (q : Str → Nat), (∀ k, (f k).isNil = false → k ∈ ks) ∧ (∀ k, PD (f k) (q k)) ∧ 1 + (ks.map q).sum ≤ p
theorem PD.mono : ∀ {d : D} {p q : Nat}, p ≤ q → PD d p → PD d q
  | .nil, _, _, _, _ => trivial
  | .sc _, _, _, h, z => Nat.le_trans z h
  | .ls _, _, _, h, z => Nat.le_trans z h
  | .ob _, _, _, h, ⟨ks, q, a, b, c⟩ => ⟨ks, q, a, b, Nat.le_trans c h⟩
theorem sum_sub (q : Str → Nat) : ∀ {xs ys : List Str}, xs.Nodup → (∀ x ∈ xs, x ∈ ys) → (xs.map q).sum ≤ (ys.map q).sum
  | [], _, _, _ => Nat.zero_le _
  | x :: xs, ys, nd, h => by
    rw [List.nodup_cons] at nd
    have hx := h x List.mem_cons_self
    have h2 : ∀ z ∈ xs, z ∈ ys.erase x := fun z hz => (List.mem_erase_of_ne (fun e => nd.1 (by rw [← e]; exact hz))).mpr (h z (List.mem_cons_of_mem _ hz))
    have h3 := sum_sub q nd.2 h2
    have h4 : (ys.map q).sum = q x + ((ys.erase x).map q).sum := by
      have := (List.perm_cons_erase hx).map q
      rw [this.sum_nat]
      simp
    rw [List.map_cons, List.sum_cons]
    omega
/-- objects nested at most p deep -/
def DD : D → Nat → Prop
  | .ob f, p => 1 ≤ p ∧ ∀ k, DD (f k) (p - 1)
  | _, _ => True
theorem DD.mono : ∀ {d : D} {p q : Nat}, p ≤ q → DD d p → DD d q
  | .nil, _, _, _, _ => trivial
  | .sc _, _, _, _, _ => trivial
  | .ls _, _, _, _, _ => trivial
  | .ob _, _, _, h, ⟨a, b⟩ => ⟨Nat.le_trans a h, fun k => DD.mono (by omega) (b k)⟩
theorem Dc.avoid {S G H a} : ∀ {n v d}, Dc S G H n v d → (∀ m e, m ≤ n → ¬ Dc S G H m (.ref a) e) → Dc (fun x => S x ∧ x ≠ a) G H n v d
  | 0, _, _, h, _ => h
  | n + 1, v, d, h, hn => by
    have ne : ∀ b, v = .ref b → b ≠ a := fun b e z => hn (n + 1) d (Nat.le_refl _) (by rw [← z, ← e]; exact h)
    rcases h with ⟨x, y⟩ | ⟨b, xs, e, s, r, x, d⟩ | ⟨b, ms, f, e, s, r, nd, ks, d, no, at'⟩
    · exact .inl ⟨x, y⟩
    · exact .inr (.inl ⟨b, xs, e, ⟨s, ne b e⟩, r, x, d⟩)
    · exact .inr (.inr ⟨b, ms, f, e, ⟨s, ne b e⟩, r, nd, ks, d, no, fun k u hu => Dc.avoid (at' k u hu) fun m e' hm => hn m e' (by omega)⟩)
theorem Mem.avoid {S G H n a ms f} (ha : H a = some (.dK (kvsOf ms))) (hS : S a) (h : Mem S G H n ms f) : Mem (fun x => S x ∧ x ≠ a) G H n ms f := by
  obtain ⟨m, hm, h2, h3⟩ := (Dc.ob (n := n) hS ha h).low
  refine h2.cases (fun k _ _ e => by cases e) (fun k b xs _ eb _ _ _ e => by cases e) (fun k b ms' f' ek eb _ r' M e => ?_)
  cases eb
  rw [ha] at r'
  have z : kvsOf ms' = kvsOf ms := by injection r' with r'; injection r' with r'; exact r'.symm
  have zz : ∀ j, valV ms' j = valV ms j := fun j => by rw [← valV_inK, ← valV_inK, z]
  injection e with e
  subst e
  exact ⟨h.nd, h.ks, h.no, fun j u hu => ((M.at' j u (by rw [zz]; exact hu)).avoid fun i e hi he => h3 i e (by omega) he).lift (by omega)⟩
theorem not_taken {ms : List (Str × V)} {i : Nat} {k : Str} {u : V} (nd : (ms.map (·.1)).Nodup) (h : ms[i]? = some (k, u)) : k ∉ (ms.take i).map (·.1) := by
  intro hk
  have hi : i < ms.length := (List.getElem?_eq_some_iff.mp h).1
  obtain ⟨p, hp, e⟩ := List.mem_map.mp hk
  obtain ⟨j, hj, ej⟩ := List.getElem_of_mem hp
  rw [List.length_take] at hj
  have e2 : (ms.map (·.1))[j]? = some k := by
    rw [List.getElem?_map, List.getElem?_eq_getElem (by omega)]
    rw [List.getElem_take] at ej
    rw [ej, ← e]
    rfl
  have e3 : (ms.map (·.1))[i]? = some k := by
    rw [List.getElem?_map, h]
    rfl
  have := (List.getElem?_inj (by rw [List.length_map]; omega) nd).mp (e2.trans e3.symm)
  omega
theorem merge_nodup : ∀ (ms pre : List (Str × V)), ((pre ++ ms).map (·.1)).Nodup → mergeK (kvsOf pre) (kvsOf ms) = kvsOf (pre ++ ms)
  | [], pre, _ => by simp [mergeK]
  | p :: ms, pre, h => by
    have h1 : valV pre p.1 = none := valV_none_of fun z => by
      rw [List.map_append, List.nodup_append] at h
      exact h.2.2 _ z _ (by simp) rfl
    have h2 : putK (kvsOf pre) (Sum.inr p.1) p.2 = kvsOf (pre ++ [p]) := by
      rw [putK_inK, putK_new _ h1]
    have h3 := merge_nodup ms (pre ++ [p]) (by simpa using h)
    show mergeK (putK (kvsOf pre) (Sum.inr p.1) p.2) (kvsOf ms) = _
    rw [h2, h3]
    simp
theorem Mem.drop {S G H n ms f} (h : Mem S G H n ms f) (k : Str) : Mem S G H n (ms.filter fun p => decide (p.1 ≠ k)) (D.fup f k .nil) := by
  have sub : ∀ {j : Str} {u : V}, valV (ms.filter fun p => decide (p.1 ≠ k)) j = some u → valV ms j = some u ∧ j ≠ k := fun {j u} z => by
    have hm := valV_mem z
    rw [List.mem_filter] at hm
    exact ⟨valV_of_mem h.nd hm.1, of_decide_eq_true hm.2⟩
  refine ⟨h.nd.sublist (List.filter_sublist.map _), fun j hj => ?_, fun j hj => ?_, fun j u hu => ?_⟩
  · obtain ⟨p, hp, e⟩ := List.mem_map.mp hj
    exact h.ks j (List.mem_map.mpr ⟨p, (List.mem_filter.mp hp).1, e⟩)
  · unfold D.fup
    by_cases z : j = k
    · rw [if_pos z]
    · rw [if_neg z]
      cases e : valV ms j with
      | none => exact h.no j e
      | some u =>
        have : j ∈ (ms.filter fun p => decide (p.1 ≠ k)).map (·.1) := List.mem_map.mpr ⟨(j, u), List.mem_filter.mpr ⟨valV_mem e, decide_eq_true z⟩, rfl⟩
        obtain ⟨w, hw⟩ := valV_some_of this
        rw [hj] at hw
        cases hw
  · obtain ⟨h1, h2⟩ := sub hu
    unfold D.fup
    rw [if_neg h2]
    exact h.at' j u h1
end TP

namespace TP
open PySem PySem.Spec PyProof.Rows L2 Evl
/-! ### defs that are only called where no repr is under way -/
structure FnOkG (P : Program) (w : World) (K : PySem.W.Frag) (mg : Str → Option Value) (base : Heap) (CX : CXT) (k : Nat) (f : Addr) (fd : FuncData) (ps : List Str) (sp : Sp) : Prop where
  len : ∀ vs H Q E, sp vs H Q E → vs.length = ps.length
  run : ∀ (A : Around) (outer : List Env) (s : Shared) (H : Hp) (args : Args) (us : List Value) (vs : List V) (Q : VK) (E : XK), A.guards = some [] → Room k A → Env0 P w K mg base A outer s H →
    BindsTo s fd args (ps.zip us) → Vals vs us → sp vs H Q E → codeAny (model P w) A (.call (.ref f) args) (CR CX outer P w H s Q E) s
section
variable {P : Program} {w : World} {K : PySem.W.Frag} {mg : Str → Option Value} {base : Heap} {CX : CXT}
theorem okG {x qual : Str} {st : Stmt} {f : Addr} {fd : FuncData} {N ps : List Str} {k : Nat} {sp : Sp} (F : Fun K x qual st f fd) (S : FnScope N ps (defScope st)) (len : ∀ vs H Q E, sp vs H Q E → vs.length = ps.length)
    (body : ∀ (cdv : Value) (A : Around) (outer : List Env) (s : Shared) (H : Hp) (vs : List V) (Q : VK) (E : XK), A.guards = some [] → Room k (A.deeper (envOfC qual (defScope st) s.heap.objs.size f cdv)) → sp vs H Q E →
      ∃ t, PSs (cxOf CX P w K mg base N qual (defScope st) f cdv A outer s H E).nox (defBody st) t ∧ t { nx := fun _ H' => Q .non H', rt := Q } (start N vs) H) : FnOkG P w K mg base CX (k + 1) f fd ps sp := by
  obtain ⟨oc, od, kV, doc, pm, an, cdv, ct, osl, rfl, lk, hcd⟩ := F.ex
  refine ⟨len, fun A outer s H args us vs Q E hg room e0 hb rel want => ?_⟩
  have hl := len _ _ _ _ want
  have kin : K.In s.heap := e0.mod.kin.keeps fun b o e => (e0.bs b o e).1
  have nol : s.heap.NoLimit := e0.mod.nolimit.keeps fun b o e => (e0.bs b o e).1
  refine codeAny_call_function room.depth (kin _ _ lk) rfl S.co S.gen rfl (PySem.W.codeRec_of kin hcd) (hb _ _ _ _ ?_)
  refine wpAny_newFunctionEnv_cells S.kind (fun ⟨n, v⟩ hy => (S.par n (List.of_mem_zip hy).1).imp id fun q => ⟨q, PySem.W.cellsFrom_some _ _ _ (.inl q)⟩) fun env he s1 x => ?_
  subst he
  refine ⟨nol.keeps x.toInCall.keep, codeAny_func ?_⟩
  obtain ⟨t, ht, hq⟩ := body cdv A outer s H vs Q E hg (room.deeper _) want
  refine wpAny_mono (ht.nox.run [] s1 (start N vs) H _ (inv_start S room.hd e0 hl rel x) hq) (fun fl s' h => ?_) fun _ _ h => h
  cases fl with
  | ret u => exact let ⟨v, _, H', J, rv, q⟩ := h; ⟨v, H', J.os, J.bare, J.base, J.hok, rv, q⟩
  | next => exact let ⟨_, H', J, q⟩ := h; ⟨V.non, H', J.os, J.bare, J.base, J.hok, rfl, q⟩
  | brk => exact let ⟨_, _, _, q⟩ := h; False.elim q
  | cont => exact let ⟨_, _, _, q⟩ := h; False.elim q
/-- a call of such a def -/
theorem pe_callG {X : Cx} {k : Nat} {f : Addr} {fd : FuncData} {ps : List Str} {sp : Sp} {E : XK} {x : Str} {p pos : Pos} {e : Expr} {es : List Expr} {t : TA} (F : FnOkG X.prog X.w X.K X.mg X.base CX k f fd ps sp) (hgd : X.A.guards = some []) (hr : Room k X.A) (hg : Gl X x)
    (hm : X.mg x = some (.ref f)) (hk : PySem.W.keepIn X.K (.ref f) = true) (hb : Binds X.K fd ps []) (hx : Passes CX X E) (ha : PA X (e :: es) t) (hdb : (x == ("__debug__" : Str)) = false := by decide)
    (he : starEach (e :: es) X.env = (false, eval e X.env) :: starEach es X.env := by rfl) (hpl : (backTo pos (starEach es X.env)).any (·.1) = false := by rfl) :
    PE X (.Call (.Name x p) (e :: es) [] pos) (tCall sp [] E t) := by
  refine ⟨fun pins s σ H Q I h => ?_⟩
  refine wpAny_Call_Name_kw (ld_glob I hg hm ?_ hdb)
  refine PySem.W.callWith_K (h₀ := X.base) I.ok.mod.kin hk (thn (ha.run pos pins s σ H _ I h) fun us s1 ⟨vs, H1, I1, r1, q1⟩ => ⟨I1.kIn, ?_⟩) he hpl
  have q1 : sp (vs ++ []) H1 Q E := q1
  rw [List.append_nil] at q1
  have hl : (us ++ []).length = ps.length := by rw [List.append_nil, ← Paired.length r1]; exact F.len _ _ _ _ q1
  have bt := hb s1 us I1.kIn hl
  rw [List.append_nil] at bt
  refine wpAny_call (codeAny_mono (F.run X.A X.stack s1 H1 ⟨us, []⟩ us vs Q E hgd hr I1.env0 bt r1 q1) fun r s' h' => ?_)
  cases r with
  | error er => exact hx pins σ _ _ er s' I1 h'
  | ok fl =>
    cases fl with
    | ret u => exact I1.after h'
    | next => exact False.elim h'
    | brk => exact False.elim h'
    | cont => exact False.elim h'
/-- the script's list as it stands at the entry -/
def ScrAt (K : PySem.W.Frag) (H : Hp) (a : Addr) (xs : List V) : Prop := ∃ its : List Value, Vals xs its ∧ xs.length ≤ 1000 ∧
  (K.lookup a = some { cls := .type "list", data := .seq its.toArray } ∨ H a = some (.frz { cls := .type "list", data := .seq its.toArray } (.lst xs)))
theorem ScrAt.ex {K H H' a xs} (e : Ex H H') (h : ScrAt K H a xs) : ScrAt K H' a xs := let ⟨i, r, l, z⟩ := h; ⟨i, r, l, z.imp id (e a _)⟩
/-- the head's end, for a law whose own def asks that no repr is under way -/
theorem walk_G {l : PySem.W.OpenLaw} {n k : Nat} {q : Program} {loose : List Str} {XP : (Str → Option Value) → Heap → Prop} {YP : World → Heap → Prop} {d : DefRec} {K : Params → PySem.W.Frag} {sp : PySem.W.Frag → Sp} {x : Str}
    (hn : l.most = some n) (hn2 : n ≤ 1000) (hdf : d.params.defaults = []) (hr : Room k callerA) (hY : ∀ (w : World) (h : Heap), YP w h → (K w.params).In h)
    (F : ∀ (w : World) (mg : Str → Option Value) (fa : Addr) (h : Heap), (K w.params).In h → h.Ns mainGlobals mg → mg d.name = some (.ref fa) →
      ∃ fd : FuncData, (∀ (s : Shared) (u : Value), BindsTo s fd ⟨[u], []⟩ [(x, u)]) ∧
        ∀ base : Heap, (K w.params).In base → base.Ns mainGlobals mg → FnOkG l.prog w (K w.params) mg base CX0 k fa fd [x] (sp (K w.params)))
    (hsp : ∀ (K : PySem.W.Frag) (H : Hp) (a : Addr) (ns : List Int), ns.length ≤ n → Only H → ScrAt K H a (ns.map V.int) → sp K [.ref a] H (fun v _ => v = .bl true) fun _ _ _ => False) :
    PySem.W.WalkO q loose XP YP l.row.toRowW d [] (fun f vs => PySem.call f vs) := by
  refine Att.attach_call hn hdf fun w s₀ s₁ mg mb fa o pm cd doc a vs ns G Y ho hd hcd hmg hobj hints hlen hg => ?_
  have KX := hY w _ Y
  obtain ⟨fd, hbind, hF⟩ := F w mg fa _ KX G.T.g hmg
  have hl1 : (ns.map V.int).length ≤ 1000 := by rw [List.length_map]; exact Nat.le_trans hlen hn2
  have hl : ns.length ≤ sizeLine := Nat.le_trans (Nat.le_trans hlen hn2) (by decide)
  have rel := vals_ints hints
  -- what may be tracked at the entry: the script's list, if the module does not own it
  have main : ∀ H : Hp, Only H → ScrAt (K w.params) H a (ns.map V.int) → HOk l.prog w H s₁.heap → (∀ b, H b ≠ none → b = a ∧ (K w.params).lookup a = none) →
      codeAny (model l.prog w) callerA (.call (.ref fa) ⟨[.ref a], []⟩) (fun r s' => r = .ok (.ret (.bool true)) ∧ OldK s₁.heap s'.heap ∧ s'.os = s₁.os ∧ AllBare s'.gens) s₁ := fun H hO hS hok only => by
    have free : ∀ {b : Addr} {ob : Obj}, s₁.heap.get? b = some ob → (b = a → ∃ es ep, ob.data = .dict es ep) → H b = none := fun {b ob} e z => by
      cases hb : H b with
      | none => rfl
      | some u =>
        have eb := (only b (by rw [hb]; exact fun y => nomatch y)).1
        obtain ⟨es, ep, dz⟩ := z eb
        rw [eb, hobj] at e
        cases e
        exact nomatch dz
    have ns' : ∀ {b : Addr} {m : Str → Option Value}, s₁.heap.Ns b m → (hidT s₁.heap H).Ns b m := fun {b m} h => by
      obtain ⟨ob, es, ep, e1, e2, e3⟩ := h
      exact ⟨ob, es, ep, hidT_get e1 (free e1 fun _ => ⟨es, ep, e2⟩), e2, e3⟩
    have kin : (K w.params).In (hidT s₁.heap H) := fun b ob e => hidT_get (KX b ob e) (by
      cases hb : H b with
      | none => rfl
      | some u =>
        obtain ⟨eb, e0⟩ := only b (by rw [hb]; exact fun y => nomatch y)
        rw [eb, e0] at e
        cases e)
    have env : Env0 l.prog w (K w.params) mg (hidT s₁.heap H) callerA [] s₁ H :=
      ⟨rfl, ⟨kin, ns' G.T.g, ⟨mb, ns' G.T.b, G.T.builtins⟩, G.T.nolimit.imp fun _ h => ⟨ns' h.1, h.2⟩⟩, fun _ _ e => of_hidT e, Nat.le_of_eq (hidT_size _ _), trivial, fun _ hb => absurd hb (by simp [frs]), hok, .of_eq hg⟩
    refine codeAny_mono ((hF _ kin (ns' G.T.g)).run callerA [] s₁ H ⟨[.ref a], []⟩ [.ref a] [.ref a] _ _ rfl hr env (hbind s₁ (.ref a)) (.cons rfl .nil) (hsp _ H a ns hlen hO hS)) fun r s' h => ?_
    match r, h with
    | .ok (.ret u), h =>
      obtain ⟨v, H', os, bare, un, hok', rv, qv⟩ := h
      have qv : v = .bl true := qv
      subst qv
      obtain rfl : u = Value.bool true := rv
      refine ⟨rfl, OldK.of_keep fun b ob e => ?_, os, bare⟩
      rcases hO b with z | ⟨ob', xs, z⟩
      · exact un.keep b ob e z (by simp [frs]) (by simp)
      · have h1 := (hok b _ z).1
        have h2 := (hok' b _ (un.frzs b ob' _ z)).1
        rw [e] at h1
        cases h1
        exact h2
    | .error _, h => exact h.elim
    | .ok .next, h => exact h.elim
    | .ok .brk, h => exact h.elim
    | .ok .cont, h => exact h.elim
  have lenV := hints.length
  cases hk : (K w.params).lookup a with
  | some ob =>
    have e := KX a ob hk
    rw [hobj] at e
    cases e
    exact main (fun _ => none) (fun _ => .inl rfl) ⟨vs, rel, hl1, .inl hk⟩ (fun _ _ z => nomatch z) fun _ z => absurd rfl z
  | none =>
    have one : ∀ {b : Addr} {u : HO}, (if b = a then some (HO.frz { cls := .type "list", data := .seq vs.toArray } (.lst (ns.map V.int))) else none) = some u → b = a ∧ u = .frz { cls := .type "list", data := .seq vs.toArray } (.lst (ns.map V.int)) := fun {b u} z => by
      by_cases hb : b = a
      · rw [if_pos hb] at z
        exact ⟨hb, (Option.some.inj z).symm⟩
      · rw [if_neg hb] at z
        cases z
    refine main (fun b => if b = a then some (.frz { cls := .type "list", data := .seq vs.toArray } (.lst (ns.map V.int))) else none) (fun b => ?_) ⟨vs, rel, hl1, .inr (if_pos rfl)⟩ (fun b u z => ?_) fun b z => ?_
    · by_cases hb : b = a
      · exact .inr ⟨_, _, if_pos hb⟩
      · exact .inl (if_neg hb)
    · obtain ⟨rfl, rfl⟩ := one z
      exact ⟨hobj, by rw [List.length_map]; exact hl, vs, _, rel, hobj⟩
    · obtain ⟨u, hu⟩ := Option.ne_none_iff_exists'.mp z
      exact ⟨(one hu).1, hk⟩
end
end TP

namespace TP
open PySem PySem.Spec PyProof.Rows L2 Evl
/-! ### new lists away from one address -/
section
variable {X : Cx} {es : List Expr} {t : TA} {pos : Pos}
def tLstS (t : TA) : TE := fun σ H Q => t σ H fun xs H1 => xs.length ≤ sizeLine ∧ ∀ p, H1 p = none → p ≠ sysModules → Q (.ref p) (upd H1 p (.lst xs))
theorem pe_lstS (h : PA X es t) : PE X (.List es pos) (tLstS t) := by
  refine ⟨fun pins s σ H Q I hq => wpAny_List_spliced (thn (h.run pos pins s σ H _ I hq) fun us s1 ⟨xs, H1, I1, r, z, q⟩ => ⟨by rw [← r.length]; exact z, ?_⟩)⟩
  exact ⟨.ref s1.heap.objs.size, upd H1 s1.heap.objs.size (.lst xs), I1.laid (t' := s1.toks) (fun b u e => Heap.get?_push_of_some _ e) (Nat.le_refl _) ⟨z, us, 0, r, Heap.get?_push_size _ rfl⟩, rfl, q _ (I1.hok.fresh (Nat.le_refl _)) (Nat.ne_of_gt I1.big)⟩
end
/-! ### data, dicts among it, as the heap holds it -/
mutual
inductive Pd (H : Hp) : V → PyData → Prop
  | non : Pd H .non .none
  | int (i : Int) : Pd H (.int i) (.int i)
  | str (x : Str) : Pd H (.str x) (.str x)
  | lst {a : Addr} {xs : List V} {ds : List PyData} : a ≠ sysModules → Rd H a (.lst xs) → PdAll H xs ds → Pd H (.ref a) (.list ds)
  | tup {a : Addr} {xs : List V} {ds : List PyData} : Rd H a (.tup xs) → PdAll H xs ds → Pd H (.ref a) (.tuple ds)
  | dct {a : Addr} {ms : List (Str × V)} {ds : List PyData} : Rd H a (.dK (kvsOf ms)) → PdAll H (ms.map (·.2)) ds → Pd H (.ref a) (.dict ((ms.map fun p => PyData.str p.1).zip ds))
inductive PdAll (H : Hp) : List V → List PyData → Prop
  | nil : PdAll H [] []
  | cons {v : V} {vs : List V} {d : PyData} {ds : List PyData} : Pd H v d → PdAll H vs ds → PdAll H (v :: vs) (d :: ds)
end
theorem PdAll.length {H : Hp} : ∀ {vs : List V} {ds : List PyData}, PdAll H vs ds → vs.length = ds.length
  | _, _, .nil => rfl
  | _, _, .cons _ h => congrArg Nat.succ h.length
mutual
theorem Pd.ex {H H' : Hp} (e : Ex H H') : ∀ {v : V} {d : PyData}, Pd H v d → Pd H' v d
  | _, _, .non => .non
  | _, _, .int i => .int i
  | _, _, .str x => .str x
  | _, _, .lst n r h => .lst n (ex_rd e r) (PdAll.ex e h)
  | _, _, .tup r h => .tup (ex_rd e r) (PdAll.ex e h)
  | _, _, .dct r h => .dct (ex_rd e r) (PdAll.ex e h)
theorem PdAll.ex {H H' : Hp} (e : Ex H H') : ∀ {vs : List V} {ds : List PyData}, PdAll H vs ds → PdAll H' vs ds
  | _, _, .nil => .nil
  | _, _, .cons h k => .cons (Pd.ex e h) (PdAll.ex e k)
end
theorem reads_keys {P : Program} {w : World} {h : Heap} : ∀ {es : List DictEntry} {ms : List (Str × V)} {vs : List (Key × Value)}, Pairs (mixKind P w) es vs → KV (kvsOf ms) vs →
    ReadsAll h (es.map (·.key)) (ms.map fun p => PyData.str p.1) [] ∧ Vals (ms.map (·.2)) (es.map (·.val))
  | _, [], _, p, k => by
    cases k
    cases p
    exact ⟨.nil, .nil⟩
  | _, m :: ms, _, p, k => by
    cases k with
    | @cons _ q _ qs hk ht =>
      cases p with
      | @cons e _ es _ h1 h2 h3 =>
        obtain ⟨r1, r2⟩ := reads_keys (h := h) h3 ht
        obtain ⟨e1, e2⟩ := hk
        have h1' : keyIs (Sum.inr m.1) e.key = true := by rw [← e1] at h1; exact h1
        rcases keyIs_shape h1' with ⟨i, t, z, _⟩ | ⟨x, t, z, ek⟩
        · cases z
        · have z' : m.1 = x := Sum.inr.inj z
          refine ⟨?_, .cons (by show L2.RelV m.2 e.val; rw [h2]; exact e2) r2⟩
          show ReadsAll h (e.key :: _) (PyData.str m.1 :: _) ([] ++ [])
          rw [ek, z']
          exact .cons (.str _ _) r1
mutual
theorem Pd.reads {X : Cx} {pins : List (Addr × Obj)} {σ : L2.St} {H : Hp} {s : Shared} (I : Inv X pins σ H s) : ∀ {v : V} {d : PyData} {u : Value}, Pd H v d → RelV v u → ∃ as, Reads s.heap u d as ∧ sysModules ∉ as
  | _, _, _, .non, r => by cases (show _ = Value.none from r); exact ⟨_, .none, by simp⟩
  | _, _, _, .int i, r => by obtain ⟨t, e⟩ := (show ∃ t, _ = Value.int i t from r); cases e; exact ⟨_, .int i t, by simp⟩
  | _, _, _, .str x, r => by obtain ⟨t, e⟩ := (show ∃ t, _ = Value.str x t from r); cases e; exact ⟨_, .str x t, by simp⟩
  | _, _, _, @Pd.lst _ a xs ds n rd h, r => by
    cases (show _ = Value.ref a from r)
    obtain ⟨_, its, m, rv, e⟩ := (show ObjOk X.prog X.w H s.heap a (.lst xs) from rd.ok I.hok)
    obtain ⟨as, q, ns⟩ := PdAll.reads I h rv
    exact ⟨_, Reads.list (vs := its.toArray) e rfl rfl (by simpa using q), by simp [ns, n.symm]⟩
  | _, _, _, @Pd.tup _ a xs ds rd h, r => by
    cases (show _ = Value.ref a from r)
    obtain ⟨_, its, rv, o, e1, e2, m, e3⟩ := (show ObjOk X.prog X.w H s.heap a (.tup xs) from rd.ok I.hok)
    obtain ⟨as, q, ns⟩ := PdAll.reads I h rv
    exact ⟨_, Reads.tuple (vs := its.toArray) e1 e2 e3 (by simpa using q), ns⟩
  | _, _, _, @Pd.dct _ a ms ds rd h, r => by
    cases (show _ = Value.ref a from r)
    obtain ⟨_, hs, vs, kv, o, es, ep, e1, e2, e3, _, pr, _⟩ := (show ObjOk X.prog X.w H s.heap a (.dK (kvsOf ms)) from rd.ok I.hok)
    obtain ⟨r1, rv⟩ := reads_keys (h := s.heap) pr kv
    obtain ⟨as, q, ns⟩ := PdAll.reads I h rv
    have hl := h.length
    have k1 : ((ms.map fun p => PyData.str p.1).zip ds).map (·.1) = ms.map fun p => PyData.str p.1 := by
      rw [List.map_fst_zip]
      rw [List.length_map] at hl
      rw [List.length_map]; omega
    have k2 : ((ms.map fun p => PyData.str p.1).zip ds).map (·.2) = ds := by
      rw [List.map_snd_zip]
      rw [List.length_map] at hl
      rw [List.length_map]; omega
    have hne : sysModules ≠ a := fun z => by rw [← z] at hs; simp at hs
    exact ⟨_, Reads.dict (as := []) (bs := as) e1 e2.1 e3 (by rw [k1]; exact r1) (by rw [k2]; exact q), by simp [ns, hne]⟩
theorem PdAll.reads {X : Cx} {pins : List (Addr × Obj)} {σ : L2.St} {H : Hp} {s : Shared} (I : Inv X pins σ H s) : ∀ {vs : List V} {ds : List PyData} {us : List Value}, PdAll H vs ds → Vals vs us → ∃ as, ReadsAll s.heap us ds as ∧ sysModules ∉ as
  | _, _, _, .nil, r => by cases r; exact ⟨_, .nil, by simp⟩
  | _, _, _, .cons h k, r => by
    cases r with
    | cons r1 r2 =>
      obtain ⟨as, q1, n1⟩ := Pd.reads I h r1
      obtain ⟨bs, q2, n2⟩ := PdAll.reads I k r2
      exact ⟨_, .cons q1 q2, by simp [n1, n2]⟩
end
/-- repr(x) -/
def rRepr : List V → Hp → VK → Prop := fun xs H Q => ∃ x d, xs = [x] ∧ Pd H x d ∧ d.showable = true ∧ d.shown.length ≤ sizeLine ∧ d.depth ≤ 40 ∧ Q (.str d.shown) H
section
variable {X : Cx}
theorem call_reprD (hg : X.A.guards = some []) (hu : X.A.units + 64 < cLine) : CallR X (.builtin "repr") rRepr := by
  intro pins s σ H xs us Q I r h
  obtain ⟨x, d, rfl, hp, hs, hz, hd, q⟩ := h
  obtain ⟨u, rfl, r1⟩ := vals1 r
  obtain ⟨as, rd, ns⟩ := hp.reads I r1
  cases hp with
  | non =>
    cases (show _ = Value.none from r1)
    exact PySem.P.repr_of_none ⟨.str _, H, I.tok _, ⟨_, rfl⟩, by simpa only [PyData.shown] using q⟩
  | int i =>
    obtain ⟨t, e⟩ := (show ∃ t, _ = Value.int i t from r1)
    cases e
    exact PySem.P.repr_of_int (by simpa [PyData.showable] using hs) ⟨.str _, H, I.tok _, ⟨_, rfl⟩, by simpa only [PyData.shown] using q⟩
  | str y =>
    obtain ⟨t, e⟩ := (show ∃ t, _ = Value.str y t from r1)
    cases e
    exact PySem.P.repr_of_str ⟨.str _, H, I.tok _, ⟨_, rfl⟩, by simpa only [PyData.shown] using q⟩ (by simpa only [PyData.shown] using hz)
  | lst n rdd al =>
    cases (show _ = Value.ref _ from r1)
    exact repr_of_reads' rd hs (fun _ => ns) hg (by omega) (fun _ _ e => e) (fun h' u tk hk => ⟨.str _, H, I.kept (t' := tk) hk, ⟨_, rfl⟩, q⟩) hz
  | tup rdd al =>
    cases (show _ = Value.ref _ from r1)
    exact repr_of_reads' rd hs (fun _ => ns) hg (by omega) (fun _ _ e => e) (fun h' u tk hk => ⟨.str _, H, I.kept (t' := tk) hk, ⟨_, rfl⟩, q⟩) hz
  | dct rdd al =>
    cases (show _ = Value.ref _ from r1)
    exact repr_of_reads' rd hs (fun _ => ns) hg (by omega) (fun _ _ e => e) (fun h' u tk hk => ⟨.str _, H, I.kept (t' := tk) hk, ⟨_, rfl⟩, q⟩) hz
end
/-! ### documents compared -/
theorem flat_sc {v : V} (z : isSc v = true) : flatB v = true := by cases v <;> first | rfl | cases z
theorem scal_sc {v : V} (z : isSc v = true) : scal v v = true := by cases v <;> first | rfl | cases z
theorem ob_keys {S S' : Addr → Prop} {G G' : Gen} {H : Hp} {n m : Nat} {ms ms' : List (Str × V)} {f : Str → D} (h : Mem S G H n ms f) (h' : Mem S' G' H m ms' f) : ms.length = ms'.length ∧ ∀ p ∈ kvsOf ms, ∃ u, valV (kvsOf ms') p.1 = some u ∧ ∃ d, Dc S G H n p.2 d ∧ Dc S' G' H m u d := by
  have look : ∀ k ∈ ms.map (·.1), ∃ u w, valV ms k = some u ∧ valV ms' k = some w := fun k hk => by
    obtain ⟨u, hu⟩ := valV_some_of hk
    cases hv : valV ms' k with
    | some w => exact ⟨u, w, hu, rfl⟩
    | none =>
      have z := (h.at' k u hu).ne_nil
      rw [h'.no k hv] at z
      cases z
  have look' : ∀ k ∈ ms'.map (·.1), k ∈ ms.map (·.1) := fun k hk => by
    obtain ⟨u, hu⟩ := valV_some_of hk
    cases hv : valV ms k with
    | some w => exact List.mem_map.mpr ⟨_, valV_mem hv, rfl⟩
    | none =>
      have z := (h'.at' k u hu).ne_nil
      rw [h.no k hv] at z
      cases z
  have l1 := sub_len h.nd fun k hk => by
    obtain ⟨_, w, _, hw⟩ := look k hk
    exact (List.mem_map.mpr ⟨_, valV_mem hw, rfl⟩ : k ∈ ms'.map (·.1))
  have l2 := sub_len h'.nd look'
  rw [List.length_map, List.length_map] at l1 l2
  refine ⟨by omega, fun p hp => ?_⟩
  obtain ⟨⟨k, u⟩, hq, e⟩ := List.mem_map.mp hp
  subst e
  obtain ⟨u', w, hu, hw⟩ := look k (List.mem_map.mpr ⟨_, hq, rfl⟩)
  rw [valV_of_mem h.nd hq] at hu
  cases hu
  exact ⟨w, by rw [valV_inK]; exact hw, _, h.at' k u (valV_of_mem h.nd hq), h'.at' k w hw⟩
theorem items_at {C : V → Bool} (sc : ∀ v, C v = true → isSc v = true) {A : Around} {s : Shared} : ∀ {zs : List V} {us ws : List Value}, (∀ z ∈ zs, C z = true) → Vals zs us → Vals zs ws → ∀ j (h1 : j < us.length) (h2 : j < ws.length), SeqAt.EqAt A s us[j] ws[j] true
  | [], _, _, _, r, _, j, h1, _ => by cases r; exact absurd h1 (Nat.not_lt_zero j)
  | z :: zs, _, _, hz, .cons r rs, .cons r' rs', 0, _, _ => eqAt_same r r' (flat_sc (sc z (hz z List.mem_cons_self)))
  | z :: zs, _, _, hz, .cons r rs, .cons r' rs', j + 1, h1, h2 => items_at sc (fun w hw => hz w (List.mem_cons_of_mem _ hw)) rs rs' j (Nat.lt_of_succ_lt_succ h1) (Nat.lt_of_succ_lt_succ h2)
section
variable {X : Cx} {pins : List (Addr × Obj)} {σ : L2.St} {H : Hp} {s : Shared}
theorem items_same (I : Inv X pins σ H s) {C : V → Bool} (sc : ∀ v, C v = true → isSc v = true) {A : Around} : ∀ {zs : List V} {us ws : List Value}, (∀ z ∈ zs, C z = true) → Vals zs us → Vals zs ws → ∀ j (h1 : j < us.length) (h2 : j < ws.length), SeqAt.EqP X.prog X.w A s us[j] ws[j] true
  | [], _, _, _, r, _, j, h1, _ => by cases r; exact absurd h1 (Nat.not_lt_zero j)
  | z :: zs, _, _, hz, .cons r rs, .cons r' rs', 0, _, _ => (eqAt_same r r' (flat_sc (sc z (hz z List.mem_cons_self)))).eqP
  | z :: zs, _, _, hz, .cons r rs, .cons r' rs', j + 1, h1, h2 => items_same I sc (fun w hw => hz w (List.mem_cons_of_mem _ hw)) rs rs' j (Nat.lt_of_succ_lt_succ h1) (Nat.lt_of_succ_lt_succ h2)
/-- two objects that stand for one document -/
theorem docs_rc (I : Inv X pins σ H s) {S S' : Addr → Prop} {G G' : Gen} {n m : Nat} {a b : Addr} {d : D} (ih : ∀ (A : Around) (x y : V) (e : D) (v u : Value), A.units + n < cLine → Dc S G H n x e → Dc S' G' H m y e → RelV x v → RelV y u → SeqAt.EqP X.prog X.w A s v u true)
    {A : Around} (hu : A.units + (n + 1) < cLine) (h : Dc S G H (n + 1) (.ref a) d) (h' : Dc S' G' H (m + 1) (.ref b) d) (E Q : Value → Shared → Prop) (q : Q (.bool true) s) : wpAny (model X.prog X.w) A (richCompare .Eq (.ref a) (.ref b)) Q E s := by
  rcases h with ⟨hx, rfl⟩ | ⟨a', xs, e1, s1, r, hx, rfl⟩ | ⟨a', ms, f, e1, s1, r, nd, ks, rfl, no, at'⟩
  · exact nomatch G.sc _ hx
  · cases e1
    rcases h' with ⟨hy, e⟩ | ⟨b', ys, e2, s', r', hy, e⟩ | ⟨b', ms', f', e2, s', r', nd', ks', e, no', at''⟩
    · cases e
    · cases e2
      injection e with e
      subst e
      obtain ⟨us, r1, p1, _⟩ := I.list (.inl (.inl r))
      obtain ⟨ws, r2, p2, _⟩ := I.list (.inl (.inl r'))
      refine SeqAt.rcP_lists (e := fun _ => true) p1.isList p2.isList (by rw [List.size_toArray, List.size_toArray, ← r1.length, ← r2.length]) (by omega) (fun j h1 h2 => ?_) E Q ?_
      · simpa using items_same I G.sc (A := A.in1) hx.2 r1 r2 j (by simpa using h1) (by simpa using h2)
      · rw [show ((List.range us.toArray.size).all fun _ => true) = true from List.all_eq_true.mpr fun _ _ => rfl]
        exact q
    · cases e
  · cases e1
    rcases h' with ⟨hy, e⟩ | ⟨b', ys, e2, s', r', hy, e⟩ | ⟨b', ms', f', e2, s', r', nd', ks', e, no', at''⟩
    · cases e
    · cases e
    · cases e2
      injection e with e
      subst e
      obtain ⟨_, ya, va, ra, da⟩ := dk_rd I.hok (.inl r)
      obtain ⟨_, yb, vb, rb, db⟩ := dk_rd I.hok (.inl r')
      obtain ⟨hl, hp⟩ := ob_keys (Mem.mk nd ks no at') (Mem.mk nd' ks' no' at'')
      refine PySem.W.rcP_dicts (knd := mixKind X.prog X.w) (r := true) ya yb da db (by omega) (fun _ => hits_run (F := fun x y => ∃ e, Dc S G H n x e ∧ Dc S' G' H m y e) (fun x y v u z rx ry => ?_) rb ra hp) E Q ?_
      · obtain ⟨e, z1, z2⟩ := z
        exact ih _ _ _ _ _ _ (show A.units + 1 + n < cLine by omega) z1 z2 rx ry
      · have e : va.length = vb.length := by rw [← ra.length, ← rb.length, List.length_map, List.length_map]; exact hl
        rw [show (va.length == vb.length && true) = true from by rw [e]; simp]
        exact q
theorem docs_eq (I : Inv X pins σ H s) {S S' : Addr → Prop} {G G' : Gen} : ∀ (n m : Nat) (A : Around) (x y : V) (d : D) (v u : Value), A.units + n < cLine → Dc S G H n x d → Dc S' G' H m y d → RelV x v → RelV y u → SeqAt.EqP X.prog X.w A s v u true
  | 0, _, _, _, _, _, _, _, _, h, _, _, _ => (show False from h).elim
  | _ + 1, 0, _, _, _, _, _, _, _, _, h, _, _ => (show False from h).elim
  | n + 1, m + 1, A, x, y, d, v, u, hu, h, h', rx, ry => by
    by_cases hs : ∃ z, d = .sc z
    · obtain ⟨z, rfl⟩ := hs
      have hx : G.C x = true ∧ x = z := by
        rcases h with ⟨hx, e⟩ | ⟨a, xs, _, _, _, _, e⟩ | ⟨a, ms, f, _, _, _, _, _, e, _⟩
        · injection e with e; exact ⟨hx, e.symm⟩
        · cases e
        · cases e
      have hy : y = z := by
        rcases h' with ⟨_, e⟩ | ⟨a, xs, _, _, _, _, e⟩ | ⟨a, ms, f, _, _, _, _, _, e, _⟩
        · injection e with e; exact e.symm
        · cases e
        · cases e
      rw [hy, ← hx.2] at ry
      exact (eqAt_same rx ry (flat_sc (G.sc _ hx.1))).eqP
    · have ref : ∀ {S : Addr → Prop} {G : Gen} {k : Nat} {x : V}, Dc S G H k x d → ∃ a, x = .ref a := fun {S G k x} z => by
        refine z.cases (fun _ _ _ e => absurd ⟨_, e⟩ hs) (fun _ a _ _ e _ _ _ _ => ⟨a, e⟩) (fun _ a _ _ _ e _ _ _ _ => ⟨a, e⟩)
      obtain ⟨a, rfl⟩ := ref h
      obtain ⟨b, rfl⟩ := ref h'
      cases (show v = Value.ref a from rx)
      cases (show u = Value.ref b from ry)
      by_cases e : a = b
      · subst e
        exact (SeqAt.EqAt.same _).eqP
      · exact SeqAt.eqP_refs e (docs_rc I (fun A x y e v u hu => docs_eq I n m A x y e v u hu) hu h h')
/-- != of two documents that are equal -/
def rNeDoc : R2 := fun x y H Q => ∃ (S S' : Addr → Prop) (G G' : Gen) (n m : Nat) (d : D), n ≤ 40 ∧ Dc S G H n x d ∧ Dc S' G' H m y d ∧ Q (.bl false) H
theorem op_neDoc (hu : X.A.units + 64 < cLine) : OpR X (compareOp .NotEq) rNeDoc := by
  intro pins s σ H x y v u Q I rx ry h
  obtain ⟨S, S', G, G', n, m, d, hn, h, h', q⟩ := h
  cases n with
  | zero => exact (show False from h).elim
  | succ n =>
  cases m with
  | zero => exact (show False from h').elim
  | succ m =>
    rcases id h with ⟨hx, rfl⟩ | ⟨a, xs, rfl, s1, r, hx, rfl⟩ | ⟨a, ms, f, rfl, s1, r, nd, ks, rfl, no, at'⟩
    · rcases h' with ⟨hy, e⟩ | ⟨b, ys, rfl, s', r', hy, e⟩ | ⟨b, ms', f', rfl, s', r', nd', ks', e, no', at''⟩
      · injection e with e
        subst e
        exact op_ne pins s σ H x x v u Q I rx ry ⟨scal_sc (G.sc _ hx), by simpa using q⟩
      · cases e
      · cases e
    · rcases h' with ⟨hy, e⟩ | ⟨b, ys, rfl, s', r', hy, e⟩ | ⟨b, ms', f', rfl, s', r', nd', ks', e, no', at''⟩
      · cases e
      · injection e with e
        subst e
        cases (show v = Value.ref a from rx)
        cases (show u = Value.ref b from ry)
        obtain ⟨us, r1, p1, _⟩ := I.list (.inl (.inl r))
        obtain ⟨ws, r2, p2, _⟩ := I.list (.inl (.inl r'))
        refine SeqAt.RcNeAt.lists (e := fun _ => true) p1.isList p2.isList (by rw [List.size_toArray, List.size_toArray, ← r1.length, ← r2.length]) (by omega) (fun j h1 h2 => ?_) _ _ _ _ ?_
        · simpa using items_at G.sc (A := X.A.in1) (s := s) hx.2 r1 r2 j (by simpa using h1) (by simpa using h2)
        · rw [show ((List.range us.toArray.size).all fun _ => true) = true from List.all_eq_true.mpr fun _ _ => rfl]
          exact ⟨.bl false, H, I, rfl, q⟩
      · cases e
    · rcases h' with ⟨hy, e⟩ | ⟨b, ys, rfl, s', r', hy, e⟩ | ⟨b, ms', f', rfl, s', r', nd', ks', e, no', at''⟩
      · cases e
      · cases e
      · injection e with e
        subst e
        cases (show v = Value.ref a from rx)
        cases (show u = Value.ref b from ry)
        obtain ⟨_, ya, va, ra, da⟩ := dk_rd I.hok (.inl r)
        obtain ⟨_, yb, vb, rb, db⟩ := dk_rd I.hok (.inl r')
        obtain ⟨hl, hp⟩ := ob_keys (Mem.mk nd ks no at') (Mem.mk nd' ks' no' at'')
        have e : va.length = vb.length := by rw [← ra.length, ← rb.length, List.length_map, List.length_map]; exact hl
        refine wpAny_richCompare_same_room (op := .NotEq) da.typeIs db.typeIs PySem.F.slot_dict_ne (wpAny_call_entry PySem.F.slot_dict_ne da.typeIs PySem.F.entry_dict_ne ?_ (PySem.F.args_dict_ne_2 _ _)) (by omega)
        refine wpAny_bind ?_
        unfold Builtin.Dict.dictSlotArgs
        refine wpAny_bind (wpAny_notOrdered_dict da.typeIs (wpAny_pure (wpAny_bind (wpAny_isInstance (T := "dict") db.typeIs PySem.F.sub_dict_dict ?_))))
        simp only [Bool.not_true, Bool.false_eq_true, if_false]
        refine wpAny_bind (wpAny_pure (wpAny_bind (wpAny_pure (wpAny_bind (PySem.W.samePairsP (r := true) ya yb da db (fun _ => hits_run (F := fun x y => ∃ e, Dc S G H n x e ∧ Dc S' G' H m y e) (fun x y v u z rx ry => ?_) rb ra hp) ?_)))))
        · obtain ⟨e, z1, z2⟩ := z
          exact docs_eq I n m _ _ _ _ _ _ (show X.A.units + 1 + n < cLine by omega) z1 z2 rx ry
        · refine wpAny_pure ⟨_, rfl, (fun x => nomatch x), ?_⟩
          exact ⟨.bl false, H, I, by rw [e]; simp [L2.RelV], q⟩
end
/-! ### max(xs, default=d) of whole numbers -/
section
variable {X : Cx}
def rMaxDef (K : PySem.W.Frag) : List V → List V → Hp → VK → Prop := fun vs zs H Q => ∃ (a : Addr) (ns : List Int) (d : Int), vs = [V.ref a] ∧ zs = [.int d] ∧ SqL K H a (ns.map V.int) ∧
  (ns = [] → Q (.int d) H) ∧ ∀ z ∈ ns, (∀ y ∈ ns, y ≤ z) → Q (.int z) H
theorem int_holds {h : Heap} : ∀ {ns : List Int} {us : List Value}, Vals (ns.map V.int) us → PySem.W.HoldAll h us ns
  | [], _, r => by cases r; exact .nil
  | n :: ns, _, r => by
    cases r with
    | cons r rs =>
      obtain ⟨t, e⟩ := (show ∃ t, _ = Value.int n t from r)
      subst e
      exact .cons ⟨_, .int n t⟩ (int_holds rs)
theorem maxOf_spec : ∀ (ns : List Int) (n : Int), PySem.W.maxOf n ns ∈ n :: ns ∧ ∀ y ∈ n :: ns, y ≤ PySem.W.maxOf n ns
  | [], n => ⟨List.mem_cons_self, fun y hy => by rw [List.mem_singleton.mp hy]; exact Int.le_refl _⟩
  | m :: ns, n => by
    show (PySem.W.maxOf (if PySem.W.DatumOrd.lt n m = true then m else n) ns) ∈ _ ∧ ∀ y ∈ _, y ≤ PySem.W.maxOf (if PySem.W.DatumOrd.lt n m = true then m else n) ns
    have e : (PySem.W.DatumOrd.lt n m = true) ↔ n < m := by
      show decide (n < m) = true ↔ n < m
      exact decide_eq_true_iff
    obtain ⟨h1, h2⟩ := maxOf_spec ns (if PySem.W.DatumOrd.lt n m = true then m else n)
    by_cases c : PySem.W.DatumOrd.lt n m = true
    · rw [if_pos c] at h1 h2 ⊢
      refine ⟨List.mem_cons_of_mem _ h1, fun y hy => ?_⟩
      rcases List.mem_cons.mp hy with rfl | hy
      · exact Int.le_trans (Int.le_of_lt (e.mp c)) (h2 m List.mem_cons_self)
      · exact h2 y hy
    · rw [if_neg c] at h1 h2 ⊢
      refine ⟨(List.mem_cons.mp h1).elim (fun z => by rw [z]; exact List.mem_cons_self) fun z => List.mem_cons_of_mem _ (List.mem_cons_of_mem _ z), fun y hy => ?_⟩
      rcases List.mem_cons.mp hy with rfl | hy
      · exact h2 _ List.mem_cons_self
      · rcases List.mem_cons.mp hy with rfl | hy
        · have := h2 n List.mem_cons_self
          have c' : ¬ n < y := fun z => c (e.mpr z)
          omega
        · exact h2 y (List.mem_cons_of_mem _ hy)
theorem cr_maxDef (hu : X.A.units + 64 < cLine) (hh : X.A.handled = none) : CallRK X (.builtin "max") [Str.ofString "default"] (rMaxDef X.K) := by
  intro pins s σ H vs zs us ws Q I r rz h
  obtain ⟨a, ns, d, rfl, rfl, hs, h0, hq⟩ := h
  obtain rfl := Vals.ref1 r
  obtain ⟨w1, rfl, t, rfl⟩ := vals1 rz
  obtain ⟨its, rv, hl, hz⟩ := I.list hs
  refine PySem.W.max_list_datum_default (xs := ns) hh hl.isList (by simpa using int_holds rv) (show X.A.units + 1 + 0 < cLine by omega) (fun e h' tk hk => ⟨.int d, H, I.kept (t' := tk) hk, ⟨t, rfl⟩, h0 e⟩) fun y ys i v h' tk e hi hv hk => ?_
  obtain ⟨as, rd⟩ := hv
  obtain ⟨m1, m2⟩ := maxOf_spec ys y
  refine ⟨.int (PySem.W.maxOf y ys), H, I.kept (t' := tk) hk, ?_, hq _ (by rw [e]; exact m1) (by rw [e]; exact m2)⟩
  cases rd with
  | int i t => exact ⟨t, rfl⟩
end
/-! ### the script -/
def rCatScr (K : PySem.W.Frag) : R2 := fun x y H Q => ∃ l b xs zs, x = .ref l ∧ y = .ref b ∧ ScrAt K H l xs ∧ H b = some (.lst zs) ∧ zs.length ≤ 1000 ∧ ∀ p, H p = none → Q (.ref p) (upd H p (.lst (xs ++ zs)))
theorem op_catScr {X : Cx} : OpR X (binaryOp .Add) (rCatScr X.K) := by
  intro pins s σ H x y v u Q I rx ry h
  obtain ⟨l, b, xs, zs, rfl, rfl, ⟨its, r, lx, hH⟩, hB, lz, q⟩ := h
  cases (show v = Value.ref l from rx)
  cases (show u = Value.ref b from ry)
  obtain ⟨z2, its2, n2, r2, hl2, e2⟩ := I.lstM hB
  have e : s.heap.get? l = some { cls := .type "list", data := .seq its.toArray } := by
    rcases hH with hH | hH
    · exact I.kIn l _ hH
    · exact (I.hok l _ hH).1
  have hz : xs.length + zs.length ≤ sizeLine := Nat.le_trans (show _ ≤ 2000 by omega) (by decide)
  have l1 := r.length
  refine PySem.P.add_list e e2 ?_ (by rw [List.size_toArray, List.size_toArray]; omega)
  rw [show its.toArray ++ its2.toArray = (its ++ its2).toArray by simp]
  exact ⟨.ref _, _, I.lnew (t' := s.toks) (r.append r2) (by rw [List.length_append]; omega), rfl, q _ I.fresh⟩
/-! ### walks over a locked dict with text keys -/
section
variable {d D : Addr} {o : Obj} {ms : List (Str × V)} {g : TG} {tt : TT} {te tk tv : TE} {vs : List Nat} {σ : L2.St} {H1 : Hp} {Qd : Hp → Prop}
theorem keyAt {i : Nat} {k : Key} {v : V} (h : (kvsOf ms)[i]? = some (k, v)) : ∃ x, ms[i]? = some (x, v) ∧ k = Sum.inr x := by
  rw [List.getElem?_map] at h
  cases e : ms[i]? with
  | none => rw [e] at h; cases h
  | some p =>
    rw [e] at h
    obtain ⟨x, w⟩ := p
    cases h
    exact ⟨x, rfl, rfl⟩
theorem dc_keys (Pv : Nat → Hp → Prop) (h0 : Pv 0 (upd H1 D (.dK []))) (hl : ∀ i H, i ≤ ms.length → Pv i H → H d = some (.frz o (.dK (kvsOf ms))))
    (hs : ∀ i k u H, ms[i]? = some (k, u) → Pv i H → g (.str k) (wipe σ vs) H fun σ2 H2 => wipe σ2 vs = wipe σ vs ∧ tt σ2 H2 fun b H3 =>
      if b = true then tk σ2 H3 fun y H4 => tv σ2 H4 fun z H5 => ∃ kvs k, y = kV k ∧ H5 D = some (.dK kvs) ∧ kvs.length < sizeLine ∧ Pv (i + 1) (upd H5 D (.dK (putK kvs k z))) else Pv (i + 1) H3)
    (hd : ∀ H, Pv ms.length H → Qd H) :
    ∃ W : Nat → Nat → Hp → Prop, (∃ m, W 0 m (upd H1 D (.dK []))) ∧ ∀ i m H, W i m H →
      ((Itk d o (kvsOf ms)).stop i H ∧ Qd H) ∨ ((Itk d o (kvsOf ms)).go i H ∧ ∃ Nx : Hp → Prop, (∀ H', Nx H' → ∃ m', m' < m ∧ W (i + 1) m' H') ∧ ∀ x H', (Itk d o (kvsOf ms)).yld i H x H' → g x (wipe σ vs) H' fun σ2 H2 => wipe σ2 vs = wipe σ vs ∧ tt σ2 H2 fun b H3 =>
        if b = true then tk σ2 H3 fun y H4 => tv σ2 H4 fun z H5 => ∃ kvs k, y = kV k ∧ H5 D = some (.dK kvs) ∧ kvs.length < sizeLine ∧ Nx (upd H5 D (.dK (putK kvs k z))) else Nx H3) := by
  refine ⟨fun i m H => m + i = ms.length ∧ Pv i H, ⟨ms.length, rfl, h0⟩, ?_⟩
  rintro i m H ⟨e, p⟩
  have q := hl i H (by omega) p
  have len : (kvsOf ms).length = ms.length := List.length_map ..
  cases m with
  | zero =>
    have e' : i = ms.length := by omega
    subst e'
    exact .inl ⟨⟨q, by omega⟩, hd H p⟩
  | succ m =>
    refine .inr ⟨⟨q, by omega⟩, Pv (i + 1), fun H' p' => ⟨m, by omega, by omega, p'⟩, fun x H' y => ?_⟩
    obtain ⟨rfl, k, v, h1, rfl⟩ := y
    obtain ⟨z, h2, rfl⟩ := keyAt h1
    exact hs i z v _ h2 p
theorem lc_keys (Pv : Nat → Hp → Prop) (h0 : Pv 0 (upd H1 D (.lst []))) (hl : ∀ i H, i ≤ ms.length → Pv i H → H d = some (.frz o (.dK (kvsOf ms))))
    (hs : ∀ i k u H, ms[i]? = some (k, u) → Pv i H → g (.str k) (wipe σ vs) H fun σ2 H2 => wipe σ2 vs = wipe σ vs ∧ tt σ2 H2 fun b H3 =>
      if b = true then te σ2 H3 fun y H4 => ∃ acc, H4 D = some (.lst acc) ∧ acc.length < sizeLine ∧ Pv (i + 1) (upd H4 D (.lst (acc ++ [y]))) else Pv (i + 1) H3)
    (hd : ∀ H, Pv ms.length H → Qd H) :
    ∃ W : Nat → Nat → Hp → Prop, (∃ m, W 0 m (upd H1 D (.lst []))) ∧ ∀ i m H, W i m H →
      ((Itk d o (kvsOf ms)).stop i H ∧ Qd H) ∨ ((Itk d o (kvsOf ms)).go i H ∧ ∃ Nx : Hp → Prop, (∀ H', Nx H' → ∃ m', m' < m ∧ W (i + 1) m' H') ∧ ∀ x H', (Itk d o (kvsOf ms)).yld i H x H' → g x (wipe σ vs) H' fun σ2 H2 => wipe σ2 vs = wipe σ vs ∧ tt σ2 H2 fun b H3 =>
        if b = true then te σ2 H3 fun y H4 => ∃ acc, H4 D = some (.lst acc) ∧ acc.length < sizeLine ∧ Nx (upd H4 D (.lst (acc ++ [y]))) else Nx H3) := by
  refine ⟨fun i m H => m + i = ms.length ∧ Pv i H, ⟨ms.length, rfl, h0⟩, ?_⟩
  rintro i m H ⟨e, p⟩
  have q := hl i H (by omega) p
  have len : (kvsOf ms).length = ms.length := List.length_map ..
  cases m with
  | zero =>
    have e' : i = ms.length := by omega
    subst e'
    exact .inl ⟨⟨q, by omega⟩, hd H p⟩
  | succ m =>
    refine .inr ⟨⟨q, by omega⟩, Pv (i + 1), fun H' p' => ⟨m, by omega, by omega, p'⟩, fun x H' y => ?_⟩
    obtain ⟨rfl, k, v, h1, rfl⟩ := y
    obtain ⟨z, h2, rfl⟩ := keyAt h1
    exact hs i z v _ h2 p
theorem for_keys {tb : TS} {E : Ends} {H : Hp} (Pv : Nat → L2.St → Hp → Prop) (h0 : Pv 0 σ H) (hl : ∀ i σ H, i ≤ ms.length → Pv i σ H → H d = some (.frz o (.dK (kvsOf ms))))
    (hs : ∀ i k u σ H, ms[i]? = some (k, u) → Pv i σ H → g (.str k) σ H fun σ2 H2 => tb { E with nx := Pv (i + 1), ct := Pv (i + 1), bk := E.nx } σ2 H2) (hd : ∀ σ H, Pv ms.length σ H → E.nx σ H) :
    ∃ W : Nat → Nat → L2.St → Hp → Prop, (∃ m, W 0 m σ H) ∧ ∀ i m σ H, W i m σ H →
      ((Itk d o (kvsOf ms)).stop i H ∧ E.nx σ H) ∨ ((Itk d o (kvsOf ms)).go i H ∧ ∃ N : L2.St → Hp → Prop, (∀ σ' H', N σ' H' → ∃ m', m' < m ∧ W (i + 1) m' σ' H') ∧ ∀ x H', (Itk d o (kvsOf ms)).yld i H x H' → g x σ H' fun σ2 H2 => tb { E with nx := N, ct := N, bk := E.nx } σ2 H2) := by
  refine ⟨fun i m σ H => m + i = ms.length ∧ Pv i σ H, ⟨ms.length, rfl, h0⟩, ?_⟩
  rintro i m σ H ⟨e, p⟩
  have q := hl i σ H (by omega) p
  have len : (kvsOf ms).length = ms.length := List.length_map ..
  cases m with
  | zero =>
    have e' : i = ms.length := by omega
    subst e'
    exact .inl ⟨⟨q, by omega⟩, hd σ H p⟩
  | succ m =>
    refine .inr ⟨⟨q, by omega⟩, Pv (i + 1), fun σ' H' p' => ⟨m, by omega, by omega, p'⟩, fun x H' y => ?_⟩
    obtain ⟨rfl, k, v, h1, rfl⟩ := y
    obtain ⟨z, h2, rfl⟩ := keyAt h1
    exact hs i z v σ _ h2 p
end
/-! ### name = {k: v for ..} on one line -/
section
variable {X : Cx}
theorem sw_dc {kx vx : Expr} {gs : List Comprehension} {scope : Scope} {pos py : Pos} {y : Str} {l : Nat} {env : Env} (hk : env.scope.kind = .function) (hy : env.scope.names.lookup y = some .local) (hl : (py.line == pos.line) = true)
    (ha : (scope.names.any fun (n, k) => n == y && (k == .local || k == .cell)) = false) : swapsWith (.DictComp kx vx gs scope pos) (some (.Name y py)) l env = pure true := by
  have k1 : env.kindOf y = some .local := hy
  have k2 : env.blockKind = .function := by
    unfold Env.blockKind
    rw [hk]
    rfl
  unfold swapsWith
  simp only [k2, k1, ha, Expr.pos, hl]
  rfl
theorem ps_setDc {i : Nat} {y : Str} {py : Pos} {kx vx tg iter : Expr} {ifs : List Expr} {scope : Scope} {own : List (Str × Nat)} {pos spos : Pos} {wi : TI} {g : TG} {tt : TT} {tk tv : TE} (hc : X.calm = true) (hN : X.N.Nodup) (hy : X.N[i]? = some y) (hyl : X.env.scope.names.lookup y = some .local)
    (hsw : swapsWith (.DictComp kx vx [⟨tg, iter, ifs, 0⟩] scope pos) (some (.Name y py)) spos.line X.env = pure true) (hi : PI X tg iter wi) (ok : BlkOk X.N X.env.scope scope own)
    (hg : ∀ (s : Shared) (H : Hp) (C : Addr) (cl : List (Str × Addr)) (fp : List Addr), PG (X.blk s H scope (compEnvC scope cl C X.env) fp) tg g)
    (ht : ∀ (s : Shared) (H : Hp) (C : Addr) (cl : List (Str × Addr)) (fp : List Addr), PTs (X.blk s H scope (compEnvC scope cl C X.env) fp) ifs tt)
    (hk : ∀ (s : Shared) (H : Hp) (C : Addr) (cl : List (Str × Addr)) (fp : List Addr), PE (X.blk s H scope (compEnvC scope cl C X.env) fp) kx tk)
    (he : ∀ (s : Shared) (H : Hp) (C : Addr) (cl : List (Str × Addr)) (fp : List Addr), PE (X.blk s H scope (compEnvC scope cl C X.env) fp) vx tv) (hs : ∀ x, foldedSetIterable iter X.env x = pure x := by intro _; rfl) :
    PS X (.Assign [.Name y py] (.DictComp kx vx [⟨tg, iter, ifs, 0⟩] scope pos) spos) (tAsg (tDc wi g tt tk tv (own.map (·.2))) (gName i)) := by
  refine ⟨fun pins s σ H E I h => ?_⟩
  rw [exec_Assign_Name_used _ _ _ _ hsw]
  refine wpAny_bind (wpAny_standAt (wpAny_bind ?_))
  refine wpAny_bind (thn (dc_core (use := some (assign (.Name y py) X.env)) (Qf := fun _ s' => SP X pins E .next s') hc hN I hi ok hg ht hk he hs (show tDc wi g tt tk tv (own.map (·.2)) σ H (fun x H1 => gName i x σ H1 E.nx) from h) fun L C s' m H' I' q hn f => ?_) fun _ s' hq => wpAny_pure (wpAny_pure hq))
  refine wpAny_assign_Name (store_ok2 (v := V.ref L) I' hN hy (.inl hyl) rfl (fun s2 I2 ⟨a, sb, ha⟩ => ?_) (.inr hyl))
  obtain ⟨f0, f1, f2, f3, f4, f5⟩ := f
  have ne : C ≠ a := ha.elim (fun z => by rw [z]; exact f1) fun z e => f4 y a z e.symm
  exact ⟨m, hn.sameBut sb ne, fun h3 sb3 => ⟨_, H', I2.turned (t' := s2.toks) (fun b o hb e => (sb3.2 b hb).trans e) f0 f1 f3 f4 f5, q⟩⟩
end
/-! ### isinstance of what stands for a document -/
theorem tyx_dk {K : PySem.W.Frag} {H : Hp} {a : Addr} {kvs : List (Key × V)} (r : Rd H a (.dK kvs)) : TyX K H (.ref a) (.type "dict") := by
  rcases r with r | ⟨o, r⟩
  · exact .base (.dK r)
  · exact .fDict r
theorem tyx_ls {K : PySem.W.Frag} {H : Hp} {a : Addr} {xs : List V} (r : Rd H a (.lst xs)) : TyX K H (.ref a) (.type "list") := by
  rcases r with r | ⟨o, r⟩
  · exact .base (.lst r)
  · exact .base (.frz r)
theorem tyx_sc {K : PySem.W.Frag} {H : Hp} {v : V} (h : isSc v = true) : ∃ t, (t = "NoneType" ∨ t = "int" ∨ t = "str") ∧ TyX K H v (.type t) := by
  cases v <;> first | cases h | skip
  · exact ⟨_, .inl rfl, .base .non⟩
  · exact ⟨_, .inr (.inl rfl), .base (.int _)⟩
  · exact ⟨_, .inr (.inr rfl), .base (.str _)⟩
def D.isOb : D → Bool
  | .ob _ => true
  | _ => false
def D.isLs : D → Bool
  | .ls _ => true
  | _ => false
theorem isiD {S : Addr → Prop} {G : Gen} {H : Hp} {n : Nat} {v : V} {d : D} (K : PySem.W.Frag) (h : Dc S G H n v d) : ∃ t, TyX K H v t ∧ PySem.W.kitOne K t (.type "dict") = some d.isOb := by
  refine h.cases (fun m _ hs e => ?_) (fun m a xs _ e _ r _ e' => ?_) (fun m a ms f _ e _ r _ e' => ?_)
  · subst e
    obtain ⟨t, ht, ty⟩ := tyx_sc (K := K) (H := H) (G.sc _ hs)
    refine ⟨_, ty, kit_ty (r := false) ?_⟩
    rcases ht with rfl | rfl | rfl <;> decide +kernel
  · subst e; subst e'
    exact ⟨_, tyx_ls (.inl r), kit_ty (r := false) (by decide +kernel)⟩
  · subst e; subst e'
    exact ⟨_, tyx_dk (.inl r), kit_ty (r := true) (by decide +kernel)⟩
theorem isiL {S : Addr → Prop} {G : Gen} {H : Hp} {n : Nat} {v : V} {d : D} (K : PySem.W.Frag) (h : Dc S G H n v d) : ∃ t, TyX K H v t ∧ PySem.W.kitOne K t (.type "list") = some d.isLs := by
  refine h.cases (fun m _ hs e => ?_) (fun m a xs _ e _ r _ e' => ?_) (fun m a ms f _ e _ r _ e' => ?_)
  · subst e
    obtain ⟨t, ht, ty⟩ := tyx_sc (K := K) (H := H) (G.sc _ hs)
    refine ⟨_, ty, kit_ty (r := false) ?_⟩
    rcases ht with rfl | rfl | rfl <;> decide +kernel
  · subst e; subst e'
    exact ⟨_, tyx_ls (.inl r), kit_ty (r := true) (by decide +kernel)⟩
  · subst e; subst e'
    exact ⟨_, tyx_dk (.inl r), kit_ty (r := false) (by decide +kernel)⟩
theorem t_yes {σ : L2.St} {H : Hp} {A B : Hp → Prop} (h : A H) : tYes σ H (fun b H3 => if b = true then A H3 else B H3) := by
  show (if true = true then A H else B H)
  rw [if_pos rfl]
  exact h
/-- d if isinstance(d, dict) else {} -/
theorem t_dictor {K : PySem.W.Frag} {S : Addr → Prop} {G : Gen} {H : Hp} {n : Nat} {v : V} {d : D} {i : Nat} {σ : L2.St} {Q : VK} (hσ : σ[i]? = some (some v)) (hv : Dc S G H (n + 1) v d)
    (h : ∀ a1 ms1 St H1, Ex H H1 → H1 a1 = some (.dK (kvsOf ms1)) → St a1 → Mem St G H1 n ms1 d.tgt → (∀ x, St x → (S x ∧ H x ≠ none) ∨ H x = none) → (∀ x, St x → H1 x ≠ none) → Q (.ref a1) H1) :
    tIf (tB (tCB (rIsi K) (tCons (tVar i) (tCons (tC (.ty "dict")) tNil)))) (tVar i) tDNewK σ H Q := by
  obtain ⟨t1, ty1, kit1⟩ := isiD K hv
  refine ⟨v, hσ, v, .ty "dict", t1, _, _, rfl, .ty _, ty1, kit1, _, rfl, ?_⟩
  have none_way : d.isOb = false → d.tgt = (fun _ => .nil) → (if d.isOb = true then tVar i σ H Q else tDNewK σ H Q) := fun e e2 => by
    rw [e]
    refine iteF fun p hp => ?_
    exact h p [] (fun x => x = p) _ (Ex.new hp) upd_same rfl (by rw [e2]; exact Mem.nil) (fun x hx => .inr (by rw [hx]; exact hp)) fun x hx => by rw [hx, upd_same]; exact fun z => nomatch z
  refine hv.cases (fun m _ _ e => ?_) (fun m a xs _ _ _ _ _ e => ?_) (fun m a ms f em ev hS r M e => ?_)
  · exact none_way (by rw [e]; rfl) (by rw [e]; rfl)
  · exact none_way (by rw [e]; rfl) (by rw [e]; rfl)
  · subst e; subst ev; cases em
    refine iteT ⟨_, hσ, ?_⟩
    exact h a ms (fun x => S x ∧ H x ≠ none) H (Ex.refl H) r ⟨hS, by rw [r]; exact fun z => nomatch z⟩ ⟨M.nd, M.ks, M.no, fun k u hu => (M.at' k u hu).alloc⟩ (fun x hx => .inl hx) fun x hx => hx.2
theorem ifT {c : Bool} {A B : Prop} (hc : c = true) (h : A) : if c = true then A else B := by
  rw [if_pos hc]
  exact h
theorem ifF {c : Bool} {A B : Prop} (hc : c = false) (h : B) : if c = true then A else B := by
  rw [hc, if_neg Bool.false_ne_true]
  exact h
/-- what every heap knows of its dicts -/
def tKnow (t : TE) : TE := fun σ H Q => t σ H fun v H' => (∀ a kvs, H' a = some (.dK kvs) → a ≠ sysModules) → Q v H'
theorem pe_know {X : Cx} {e : Expr} {t : TE} (h : PE X e t) : PE X e (tKnow t) := by
  refine ⟨fun pins s σ H Q I hw => thn (h.run pins s σ H _ I hw) fun u s1 ⟨v, H', I', rv, q⟩ => ⟨v, H', I', rv, q fun a kvs e z => ?_⟩⟩
  obtain ⟨_, z', _⟩ := (show ObjOk X.prog X.w H' s1.heap a (.dK kvs) from I'.hok a _ e)
  rw [z] at z'
  simp at z'
theorem pairs_map {α β : Type} {F G : α → β → Prop} : ∀ {xs : List α} {ys : List β}, Paired F xs ys → (∀ a b, a ∈ xs → F a b → G a b) → Paired G xs ys
  | _, _, .nil, _ => .nil
  | _, _, .cons h t, f => .cons (f _ _ List.mem_cons_self h) (pairs_map t fun a b ha => f a b (List.mem_cons_of_mem _ ha))
theorem pairs_at {α β : Type} {F : α → β → Prop} {x : α} : ∀ {xs : List α} {ys : List β}, Paired F xs ys → x ∈ xs → ∃ y, F x y
  | _, _, .nil, h => nomatch h
  | _, _, .cons h t, hx => (List.mem_cons.mp hx).elim (fun e => ⟨_, by rw [e]; exact h⟩) fun hx => pairs_at t hx
end TP

namespace TP
open PySem PySem.Spec PyProof.Rows L2 Evl
def topS (i : Nat) : Stmt := PySem.Challenge.pw_twopatches_k04_patches_applied.main.body.getD i (.Pass ⟨0, 0, 0, 0⟩)
abbrev sPatched : Stmt := topS 10
abbrev sCopied : Stmt := topS 11
/-- a def of the text, as the top has left it -/
structure Df (K : PySem.W.Frag) (mg : Str → Option Value) (x : Str) (st : Stmt) (ps : List Str) (f : Addr) (fd : FuncData) : Prop where
  F : Fun K x x st f fd
  m : mg x = some (.ref f)
  b : Binds K fd ps []
/-- the built-in names are the built-in things -/
def Bi (mg : Str → Option Value) : Prop := ∀ x ∈ (["isinstance", "dict", "list", "int", "str", "bool", "sorted", "sum", "max", "all", "len", "range", "abs", "repr", "tuple"] : List Str), mg x = none
theorem Bi.of {mg : Str → Option Value} (h : Bi mg) (x : Str) (hx : x ∈ (["isinstance", "dict", "list", "int", "str", "bool", "sorted", "sum", "max", "all", "len", "range", "abs", "repr", "tuple"] : List Str) := by decide +kernel) : mg x = none := h x hx
/-- new since H -/
abbrev Nw (H : Hp) : Addr → Prop := fun a => H a = none
theorem Nw.ex {H H' : Hp} (e : Ex H H') {a : Addr} (h : Nw H' a) : Nw H a := fresh_back e h
section
variable {P : Program} {w : World} {K : PySem.W.Frag} {mg : Str → Option Value} {base : Heap}
theorem fn_zero {k : Nat} {f : Addr} {fd : FuncData} {ps : List Str} {sp : Sp} (h : ∀ vs H Q E, ¬ sp vs H Q E) : FnOk P w K mg base CX0 k f fd ps sp :=
  ⟨fun vs H Q E z => (h _ _ _ _ z).elim, fun _ _ _ _ _ _ _ _ _ _ _ _ _ z => (h _ _ _ _ z).elim⟩
/-! ### copied -/
def spCopied (G : Gen) (n : Nat) : Sp := fun vs H Q _ => ∃ (S : Addr → Prop) (v : V) (d : D), vs = [v] ∧ Dc S G H n v d ∧ ∀ r H', Ex H H' → Dc (Nw H) G H' n r d → Q r H'
theorem scCopied : FnScope ["document", "key"] ["document"] (defScope sCopied) := ⟨rfl, rfl, rfl, by decide +kernel, rfl, by decide +kernel, by decide +kernel⟩
theorem sizeK {G : Gen} (h : G.KS.length ≤ 5000) {S H n ms f} (m : Mem S G H n ms f) : (kvsOf ms).length < sizeLine := by
  have := m.len
  rw [List.length_map]
  exact Nat.lt_of_le_of_lt (show _ ≤ 5000 by omega) (by decide)
theorem ok_copied {f : Addr} {fd : FuncData} (Dd : Df K mg "copied" sCopied ["document"] f fd) (T : Bi mg) {G : Gen} (hG : G.KS.length ≤ 5000) : ∀ n, FnOk P w K mg base CX0 n f fd ["document"] (spCopied G n)
  | 0 => fn_zero fun vs H Q E ⟨_, _, _, _, h, _⟩ => h
  | n + 1 => by
    have ih := ok_copied Dd T hG n
    refine Dd.F.ok scCopied (fun vs H Q E h => ?_) (fun cdv A outer s H vs Q E hr h => ?_)
    · obtain ⟨_, v, d, rfl, _⟩ := h
      rfl
    obtain ⟨S, v, d, rfl, hv, k⟩ := h
    have hu := hu_of hr
    refine ⟨_, pss_cons (ps_if (pt_val (pe_callB call_isi (by rfl) (T.of "isinstance") (by decide +kernel) (pa_cons (pv 0) (pa_cons (pe_bltn (v := .ty "dict") (by rfl) (T.of "dict") (by decide +kernel) rfl) pa_nil))))
        (pss_one (ps_ret (pe_lock (pe_dc (own := [("key", 1)]) (g := gName 1) (tt := tYes) rfl scCopied.nd (pi_keys (pv 0)) (blkOk_by (N := ["document", "key"]) (sc := defScope sCopied) (by decide +kernel)) (fun _ _ _ _ _ => pg_name (i := 1) scCopied.nd rfl (Or.inl rfl)) (fun _ _ _ _ _ => pts_nil)
          (fun _ _ _ _ _ => pv 1) (fun _ _ _ _ _ => pe_call ih hr rfl Dd.m Dd.F.kp Dd.b .nil pass0 (pa_cons (pe_dget hu (pv 0) (pv 1) (fun _ _ => rfl)) pa_nil)))))) pss_nil)
      (pss_cons (ps_if (pt_val (pe_callB call_isi (by rfl) (T.of "isinstance") (by decide +kernel) (pa_cons (pv 0) (pa_cons (pe_bltn (v := .ty "list") (by rfl) (T.of "list") (by decide +kernel) rfl) pa_nil))))
        (pss_one (ps_ret (pe_callTy call_list_of (by rfl) (T.of "list") (by decide +kernel) (pa_cons (pv 0) pa_nil)))) pss_nil)
      (pss_one (ps_ret (pv 0)))), ?_⟩
    obtain ⟨t1, ty1, kit1⟩ := isiD K hv
    obtain ⟨t2, ty2, kit2⟩ := isiL K hv
    refine ⟨v, rfl, v, .ty "dict", t1, _, _, rfl, .ty _, ty1, kit1, _, rfl, ?_⟩
    refine hv.cases (fun m e hs ed => ?_) (fun m a xs e ev hS r hx ed => ?_) (fun m a ms f e ev hS r M ed => ?_)
    · subst ed
      refine iteF ⟨v, rfl, v, .ty "list", t2, _, _, rfl, .ty _, ty2, kit2, _, rfl, iteF ⟨v, rfl, ?_⟩⟩
      exact k v H (Ex.refl H) (by cases e; exact Dc.sc hs)
    · subst ed; subst ev
      refine iteF ⟨_, rfl, .ref a, .ty "list", t2, _, _, rfl, .ty _, ty2, kit2, _, rfl, iteT ⟨_, rfl, a, xs, rfl, .inl (.inl (.inl r)), fun l hl => ?_⟩⟩
      exact k _ _ (Ex.new hl) (by cases e; exact Dc.ls hl upd_same hx)
    · subst ed; subst ev
      cases e
      refine iteT ⟨a, _, r, trivial, fun od => ?_⟩
      have M' := M.lock r hS (o := .frz od (.dK (kvsOf ms)))
      refine ⟨_, rfl, a, od, rfl, .inl ⟨_, upd_same, fun Da hD => ?_⟩⟩
      have hDa : Da ≠ a := fun z => by rw [z, upd_same] at hD; cases hD
      have hDH : H Da = none := by rw [upd_ne hDa] at hD; exact hD
      refine dc_keys (o := od) (d := a) (ms := ms) (fun i H2 => Ex (upd H a (.frz od (.dK (kvsOf ms)))) H2 ∧ ∃ ms2 f2, H2 Da = some (.dK (kvsOf ms2)) ∧ Mem (fun b => H b = none ∧ b ≠ Da) G H2 n ms2 f2 ∧ f2 = mix ms i f (fun _ => .nil)) ?_ ?_ ?_ ?_
      · exact ⟨Ex.new hD, [], fun _ => .nil, upd_same, Mem.nil, mix_zero.symm⟩
      · exact fun i H2 _ p => p.1 a _ upd_same
      · intro i key u H2 hi p
        obtain ⟨ex, ms2, f2, h2, M2, hf⟩ := p
        have hku : valV ms key = some u := valV_of_mem M.nd (List.mem_of_getElem? hi)
        refine ⟨rfl, ?_⟩
        refine t_yes ?_
        refine ⟨.str key, rfl, .ref a, rfl, .str key, rfl, a, u, rfl, .inl ⟨_, Sum.inr key, .inr ⟨od, ex a _ upd_same⟩, rfl, by rw [valV_inK]; exact hku.symm⟩, ?_⟩
        refine ⟨S, u, f key, rfl, (M'.at' key u hku).ex ex, fun z H5 ex5 hz => ?_⟩
        have h5 := ex5 Da _ h2
        have M5 := M2.ex ex5
        have nz : Dc (fun b => H b = none ∧ b ≠ Da) G H5 n z (f key) := hz.imp fun b hb => by
          have q := fresh_back ex hb
          by_cases zz : b = a
          · rw [zz, upd_same] at q; cases q
          · rw [upd_ne zz] at q
            exact ⟨q, (ne_of_none h2 hb).symm⟩
        refine ⟨kvsOf ms2, Sum.inr key, rfl, h5, sizeK hG M5, ?_, putK ms2 key z, D.fup f2 key (f key), by rw [upd_same, putK_inK], ?_, ?_⟩
        · exact Ex.mut (ex.trans ex5) hD
        · exact (M5.put (M.ks key (List.mem_map.mpr ⟨_, List.mem_of_getElem? hi, rfl⟩)) nz).off fun z => z.2 rfl
        · rw [hf]; exact mix_succ hi
      · intro H2 p
        obtain ⟨ex, ms2, f2, h2, M2, hf⟩ := p
        refine ⟨ex a _ upd_same, ?_⟩
        refine k _ _ (ex_unlock r ex) (Dc.ob hDH (by rw [upd_ne hDa]; exact h2) ?_)
        have e : f2 = f := by
          rw [hf]
          exact mix_all fun k hk => M.no k (valV_none_of hk)
        rw [← e]
        exact (M2.imp fun b hb => hb.1).off (fun z => by rw [show H a = none from z] at r; cases r)
/-! ### patched -/
def spPatched (G : Gen) (n : Nat) : Sp := fun vs H Q _ => ∃ (S1 S2 : Addr → Prop) (v1 v2 : V) (d p : D), vs = [v1, v2] ∧ Dc S1 G H n v1 d ∧ Dc S2 G H n v2 p ∧ (∀ x, S1 x → S2 x → False) ∧ ∀ r H', Ex H H' → Dc (Nw H) G H' n r (d.app p) → Q r H'
abbrev nPatched : List Str := ["document", "patch", "target", "after", "key"]
theorem scPatched : FnScope nPatched ["document", "patch"] (defScope sPatched) := ⟨rfl, rfl, rfl, by decide +kernel, rfl, by decide +kernel, by decide +kernel⟩
theorem ok_patched {f fc : Addr} {fd fdc : FuncData} (Dd : Df K mg "patched" sPatched ["document", "patch"] f fd) (Dc' : Df K mg "copied" sCopied ["document"] fc fdc) (T : Bi mg) {G : Gen} (hG : G.KS.length ≤ 5000) (hN : G.C .non = true) : ∀ n, FnOk P w K mg base CX0 (n + 1) f fd ["document", "patch"] (spPatched G n)
  | 0 => fn_zero fun vs H Q E ⟨_, _, _, _, _, _, _, h, _⟩ => h
  | n + 1 => by
    have ih := ok_patched Dd Dc' T hG hN n
    have gc : FnOk P w K mg base CX0 (n + 1) fc fdc ["document"] (spCopied G (n + 1)) := ok_copied Dc' T hG (n + 1)
    have gc0 : FnOk P w K mg base CX0 (n + 1) fc fdc ["document"] (spCopied G n) := (ok_copied Dc' T hG n).mono (Nat.le_succ n)
    refine Dd.F.ok scPatched (fun vs H Q E h => ?_) (fun cdv A outer s H vs Q E hr h => ?_)
    · obtain ⟨_, _, v1, v2, d, p, rfl, _⟩ := h
      rfl
    obtain ⟨S1, S2, v1, v2, d, p, rfl, h1, h2, dis, k⟩ := h
    have hu := hu_of hr
    refine ⟨_, pss_cons (ps_if (pt_not (pt_val (pe_callB call_isi (by rfl) (T.of "isinstance") (by decide +kernel) (pa_cons (pv 1) (pa_cons (pe_bltn (v := .ty "dict") (by rfl) (T.of "dict") (by decide +kernel) rfl) pa_nil)))))
        (pss_one (ps_ret (pe_call gc hr rfl Dc'.m Dc'.F.kp Dc'.b .nil pass0 (pa_cons (pv 1) pa_nil)))) pss_nil)
      (pss_cons (ps_set (i := 2) scPatched.nd rfl (Or.inr rfl) (pe_ifExp (pt_val (pe_callB call_isi (by rfl) (T.of "isinstance") (by decide +kernel) (pa_cons (pv 0) (pa_cons (pe_bltn (v := .ty "dict") (by rfl) (T.of "dict") (by decide +kernel) rfl) pa_nil)))) (pv 0) pe_dnewK))
      (pss_cons (ps_lock (ps_setDc (i := 3) (own := [("key", 4)]) (g := gName 4) rfl scPatched.nd rfl rfl (sw_dc rfl rfl rfl (by decide +kernel)) (pi_keys (pv 2)) (blkOk_by (N := nPatched) (sc := defScope sPatched) (by decide +kernel)) (fun _ _ _ _ _ => pg_name (i := 4) scPatched.nd rfl (Or.inl rfl))
          (fun _ _ _ _ _ => pts_one (pt_cmp (pc_dnotin hu (pv 4) (pv 1)))) (fun _ _ _ _ _ => pv 4) (fun _ _ _ _ _ => pe_call gc0 hr rfl Dc'.m Dc'.F.kp Dc'.b .nil pass0 (pa_cons (pe_dget hu (pv 2) (pv 4) (fun _ _ => rfl)) pa_nil))))
      (pss_cons (ps_lock (ps_for PassesOwn.never rfl (pi_keys (pv 1)) (pg_name (i := 4) scPatched.nd rfl (Or.inl rfl))
          (pss_one (ps_if (pt_cmpR op_notN (pe_dget hu (pv 1) (pv 4) (fun _ _ => rfl)) pe_non (nomark _))
            (pss_one (ps_dput hu (pv 3) (pv 4) (pe_call ih hr rfl Dd.m Dd.F.kp Dd.b .nil pass0 (pa_cons (pe_dget1 hu (pv 2) (pv 4) ⟨rfl, rfl, rfl, rfl⟩) (pa_cons (pe_dget hu (pv 1) (pv 4) (fun _ _ => rfl)) pa_nil))) rfl)) pss_nil))))
      (pss_one (ps_ret (pv 3)))))), ?_⟩
    obtain ⟨t1, ty1, kit1⟩ := isiD K h2
    refine ⟨v2, rfl, v2, .ty "dict", t1, _, _, rfl, .ty _, ty1, kit1, _, rfl, ?_⟩
    have atom_way : p.isOb = false → (∀ e, D.app e p = p) → tCall (spCopied G (n + 1)) [] E0 (tCons (tVar 1) tNil) (start nPatched [v1, v2]) H Q := fun _ e2 =>
      ⟨v2, rfl, S2, v2, p, rfl, h2, fun r H' ex hr' => k r H' ex (by rw [e2]; exact hr')⟩
    refine h2.cases (fun m _ _ e => ?_) (fun m a xs _ _ _ _ _ e => ?_) (fun m a2 ms2 g em ev hS2 r2 M2 e => ?_)
    · subst e
      exact iteT (atom_way rfl fun _ => rfl)
    · subst e
      exact iteT (atom_way rfl fun _ => rfl)
    subst e; subst ev; cases em
    refine iteF ?_
    refine t_dictor (n := n) rfl h1 fun a1 ms1 St H1 ex1 r1 hSt M1 from1 al1 => ?_
    have M2a := M2.alloc
    have dis2 : ∀ x, St x → S2 x → H x ≠ none → False := fun x hx h2 ha => by
      rcases from1 x hx with z | z
      · exact dis x z.1 h2
      · exact ha z
    have a12 : a2 ≠ a1 := fun z => dis2 a2 (by rw [z]; exact hSt) hS2 (by rw [r2]; exact fun y => nomatch y)
    have r2' : H1 a2 = some (.dK (kvsOf ms2)) := ex1 a2 _ r2
    refine ⟨a1, _, r1, trivial, fun od => ?_⟩
    have M1' := M1.lock r1 hSt (o := .frz od (.dK (kvsOf ms1)))
    refine ⟨_, rfl, a1, od, rfl, .inl ⟨_, upd_same, fun Da hD => ?_⟩⟩
    have hDa : Da ≠ a1 := fun z => by rw [z, upd_same] at hD; cases hD
    have hDH : H1 Da = none := by rw [upd_ne hDa] at hD; exact hD
    have hD2 : Da ≠ a2 := (ne_of_none r2' hDH).symm
    refine dc_keys (o := od) (d := a1) (ms := ms1) (fun i H2 => Ex (upd H1 a1 (.frz od (.dK (kvsOf ms1)))) H2 ∧ ∃ ms3 f3, H2 Da = some (.dK (kvsOf ms3)) ∧ Mem (fun b => H1 b = none ∧ b ≠ Da) G H2 n ms3 f3 ∧
      f3 = mix ms1 i (fun k => if k ∈ ms2.map (·.1) then .nil else d.tgt k) (fun _ => .nil)) ?_ ?_ ?_ ?_
    · exact ⟨Ex.new hD, [], fun _ => .nil, upd_same, Mem.nil, mix_zero.symm⟩
    · exact fun i H2 _ q => q.1 a1 _ upd_same
    · intro i key u H2 hi q
      obtain ⟨ex, ms3, f3, h3, M3, hf⟩ := q
      have hku : valV ms1 key = some u := valV_of_mem M1.nd (List.mem_of_getElem? hi)
      have h2a : H2 a2 = some (.dK (kvsOf ms2)) := ex a2 _ (by rw [upd_ne a12]; exact r2')
      refine ⟨rfl, .str key, rfl, .ref a2, rfl, a2, valV ms2 key, rfl, .inl ⟨_, Sum.inr key, .inl h2a, rfl, (valV_inK ms2 key).symm⟩, _, rfl, ?_⟩
      cases e : valV ms2 key with
      | some w =>
        refine iteF ⟨ex, ms3, f3, h3, M3, hf.trans (mix_skip hi ?_)⟩
        exact if_pos (List.mem_map.mpr ⟨_, valV_mem e, rfl⟩)
      | none =>
        have nk : key ∉ ms2.map (·.1) := fun z => by
          obtain ⟨w, hw⟩ := valV_some_of z
          rw [e] at hw
          cases hw
        refine iteT ⟨.str key, rfl, .ref a1, rfl, .str key, rfl, a1, u, rfl, .inl ⟨_, Sum.inr key, .inr ⟨od, ex a1 _ upd_same⟩, rfl, by rw [valV_inK]; exact hku.symm⟩, ?_⟩
        refine ⟨St, u, d.tgt key, rfl, (M1'.at' key u hku).ex ex, fun z H5 ex5 hz => ?_⟩
        have h5 := ex5 Da _ h3
        have M5 := M3.ex ex5
        have nz : Dc (fun b => H1 b = none ∧ b ≠ Da) G H5 n z (d.tgt key) := hz.imp fun b hb => by
          have q := fresh_back ex hb
          by_cases zz : b = a1
          · rw [zz, upd_same] at q; cases q
          · rw [upd_ne zz] at q
            exact ⟨q, (ne_of_none h3 hb).symm⟩
        refine ⟨kvsOf ms3, Sum.inr key, rfl, h5, sizeK hG M5, ?_, putK ms3 key z, D.fup f3 key (d.tgt key), by rw [upd_same, putK_inK], ?_, ?_⟩
        · exact Ex.mut (ex.trans ex5) hD
        · exact (M5.put (M1.ks key (List.mem_map.mpr ⟨_, List.mem_of_getElem? hi, rfl⟩)) nz).off fun z => z.2 rfl
        · have z := mix_succ (f := fun k => if k ∈ ms2.map (·.1) then .nil else d.tgt k) (g := fun _ => .nil) hi
          rw [if_neg nk] at z
          rw [hf]
          exact z
    intro H2 q
    obtain ⟨ex, ms3, f3, h3, M3, hf⟩ := q
    refine ⟨ex a1 _ upd_same, ?_⟩
    have hA : f3 = fun k => if k ∈ ms2.map (·.1) then .nil else d.tgt k := by
      rw [hf]
      refine mix_all fun k hk => ?_
      show (if k ∈ ms2.map (·.1) then D.nil else d.tgt k) = .nil
      rw [M1.no k (valV_none_of hk)]
      exact ite_self _
    clear hf
    subst hA
    have exA : Ex H1 (upd H2 a1 (.dK (kvsOf ms1))) := ex_unlock r1 ex
    have h3' : (upd H2 a1 (.dK (kvsOf ms1))) Da = some (.dK (kvsOf ms3)) := by rw [upd_ne hDa]; exact h3
    have M3' : Mem (fun b => H1 b = none ∧ b ≠ Da) G (upd H2 a1 (.dK (kvsOf ms1))) n ms3 _ := M3.off fun z => by rw [z.1] at r1; cases r1
    generalize upd H2 a1 (.dK (kvsOf ms1)) = H3 at exA h3' M3'
    refine ⟨a2, _, exA a2 _ r2', trivial, fun od2 => ?_⟩
    have N1 : Mem St G (upd H1 a2 (.frz od2 (.dK (kvsOf ms2)))) n ms1 d.tgt := M1.off fun z => dis2 a2 z hS2 (by rw [r2]; exact fun y => nomatch y)
    have N2 : Mem (fun x => S2 x ∧ H x ≠ none) G (upd H1 a2 (.frz od2 (.dK (kvsOf ms2)))) n ms2 g := (M2a.ex ex1).lock r2' ⟨hS2, by rw [r2]; exact fun y => nomatch y⟩
    refine ⟨_, rfl, a2, od2, rfl, .inl ⟨_, upd_same, ?_⟩⟩
    refine for_keys (o := od2) (d := a2) (ms := ms2) (fun i σ H5 => (∃ v4, σ = [some v1, some (.ref a2), some (.ref a1), some (.ref Da), v4]) ∧ Ex (upd H1 a2 (.frz od2 (.dK (kvsOf ms2)))) H5 ∧ ∃ ms5 f5, H5 Da = some (.dK (kvsOf ms5)) ∧ Mem (fun b => H1 b = none ∧ b ≠ Da) G H5 n ms5 f5 ∧
      f5 = mix ms2 i (fun k => if (g k).isNil then d.tgt k else if (g k).isNon then .nil else D.app (d.tgt k) (g k)) (fun k => if k ∈ ms2.map (·.1) then .nil else d.tgt k)) ?_ ?_ ?_ ?_
    · refine ⟨⟨_, rfl⟩, TP.Ex.both exA, ms3, _, by rw [upd_ne hD2]; exact h3', M3'.off (fun z => by rw [z.1] at r2'; cases r2'), mix_zero.symm⟩
    · exact fun i σ H5 _ q => q.2.1 a2 _ upd_same
    · rintro i key u σ H5 hi ⟨⟨v4, rfl⟩, ex, ms5, f5, h5, M5, hf⟩
      have hku : valV ms2 key = some u := valV_of_mem M2.nd (List.mem_of_getElem? hi)
      have hk : key ∈ ms2.map (·.1) := List.mem_map.mpr ⟨_, List.mem_of_getElem? hi, rfl⟩
      have hu2 := (N2.at' key u hku).ex ex
      have l2 : Rd H5 a2 (.dK (kvsOf ms2)) := .inr ⟨od2, ex a2 _ upd_same⟩
      have l1 : Rd H5 a1 (.dK (kvsOf ms1)) := .inl (ex a1 _ (by rw [upd_ne a12.symm]; exact r1))
      refine ⟨.ref a2, rfl, .str key, rfl, a2, u, rfl, .inl ⟨_, Sum.inr key, l2, rfl, by rw [valV_inK]; exact hku.symm⟩, rfl, _, rfl, ?_⟩
      have nn := hu2.ne_nil
      have nd := hu2.non
      by_cases c : u = .non
      · subst c
        refine iteF ⟨⟨_, rfl⟩, ex, ms5, f5, h5, M5, hf.trans (mix_skip hi ?_)⟩
        rw [if_pos hk, nn, nd]
        rfl
      · refine ifT (by simp [c]) ?_
        refine ⟨.ref a1, rfl, a1, rfl, .inl ⟨_, l1⟩, .str key, rfl, valV ms1 key, .inl ⟨_, Sum.inr key, l1, rfl, (valV_inK ms1 key).symm⟩, .ref a2, rfl, .str key, rfl, a2, u, rfl, .inl ⟨_, Sum.inr key, l2, rfl, by rw [valV_inK]; exact hku.symm⟩, ?_⟩
        have dt : ∃ e, Dc St G H5 n ((valV ms1 key).getD .non) e ∧ e.tgt = (d.tgt key).tgt := by
          cases e : valV ms1 key with
          | some t => exact ⟨_, (N1.at' key t e).ex ex, rfl⟩
          | none =>
            cases n with
            | zero => exact (show False from hu2).elim
            | succ m => exact ⟨.sc .non, Dc.sc hN, by rw [M1.no key e]; rfl⟩
        obtain ⟨e, he, het⟩ := dt
        refine ⟨St, _, _, u, e, g key, rfl, he, hu2, (fun x hx hx2 => dis2 x hx hx2.1 hx2.2), fun z H6 ex6 hz => ?_⟩
        have h6 := ex6 Da _ h5
        have M6 := M5.ex ex6
        have nz : Dc (fun b => H1 b = none ∧ b ≠ Da) G H6 n z (D.app (d.tgt key) (g key)) := by
          rw [← app_tgt het]
          refine hz.imp fun b hb => ?_
          have q := fresh_back ex hb
          by_cases zz : b = a2
          · rw [zz, upd_same] at q; cases q
          · rw [upd_ne zz] at q
            exact ⟨q, (ne_of_none h5 hb).symm⟩
        refine ⟨.ref Da, rfl, .str key, rfl, Da, _, rfl, DPut.k (k := Sum.inr key) h6 (sizeK hG M6), ⟨_, rfl⟩, ?_, putK ms5 key z, D.fup f5 key (D.app (d.tgt key) (g key)), by rw [upd_same, putK_inK], ?_, ?_⟩
        · exact Ex.mut (ex.trans ex6) (by rw [upd_ne hD2]; exact hDH)
        · exact (M6.put (M2.ks key hk) nz).off fun z => z.2 rfl
        · have z := mix_succ (f := fun k => if (g k).isNil then d.tgt k else if (g k).isNon then .nil else D.app (d.tgt k) (g k)) (g := fun k => if k ∈ ms2.map (·.1) then .nil else d.tgt k) hi
          simp only [nn, nd, c, decide_false, Bool.false_eq_true, if_false] at z
          rw [hf]
          exact z
    · rintro σ H5 ⟨⟨v4, rfl⟩, ex, ms5, f5, h5, M5, hf⟩
      refine ⟨ex a2 _ upd_same, .ref Da, rfl, ?_⟩
      refine k _ _ (ex1.trans (ex_unlock r2' ex)) ?_
      have e : f5 = fun k => if (g k).isNil then d.tgt k else if (g k).isNon then .nil else D.app (d.tgt k) (g k) := by
        rw [hf]
        refine mix_all fun k hk => ?_
        rw [if_neg hk, M2.no k (valV_none_of hk)]
        rfl
      rw [app_ob, ← e]
      exact Dc.ob (fresh_back ex1 hDH) (by rw [upd_ne hD2]; exact h5) ((M5.imp fun b hb => fresh_back ex1 hb.1).off fun z => by rw [show H a2 = none from z] at r2; cases r2)
end
end TP

namespace TP
open PySem PySem.Spec PyProof.Rows L2 Evl
abbrev sCheck : Stmt := topS 8
abbrev sApplied : Stmt := topS 9
abbrev sDepth : Stmt := topS 12
abbrev sParts : Stmt := topS 13
abbrev sWrong : Stmt := topS 14
abbrev sIsAtom : Stmt := topS 15
abbrev sIsElem : Stmt := topS 16
section
variable {P : Program} {w : World} {K : PySem.W.Frag} {mg : Str → Option Value} {base : Heap}
/-! ### is_element -/
def spElem : Sp := fun vs H Q _ => ∃ v, vs = [v] ∧ isSc v = true ∧ ∀ H', Ex H H' → Q (.bl true) H'
theorem scElem : FnScope ["value"] ["value"] (defScope sIsElem) := ⟨rfl, rfl, rfl, by decide +kernel, rfl, by decide +kernel, by decide +kernel⟩
theorem ok_elem {f : Addr} {fd : FuncData} (Dd : Df K mg "is_element" sIsElem ["value"] f fd) (T : Bi mg) : FnOk P w K mg base CX0 1 f fd ["value"] spElem := by
  refine Dd.F.ok scElem (fun vs H Q E h => ?_) (fun cdv A outer s H vs Q E hr h => ?_)
  · obtain ⟨v, rfl, _⟩ := h
    rfl
  obtain ⟨v, rfl, hv, k⟩ := h
  refine ⟨_, pss_one (ps_ret (pe_or (pe_cmpR op_isN (pv 0) pe_non (nomark _)) (pe_one (pe_and (pe_callB call_isiT (by rfl) (T.of "isinstance") (by decide +kernel) (pa_cons (pv 0) (pa_cons (pe_tup (pa_cons (pe_bltn (v := .ty "int") (by rfl) (T.of "int") (by decide +kernel) rfl) (pa_cons (pe_bltn (v := .ty "str") (by rfl) (T.of "str") (by decide +kernel) rfl) pa_nil))) pa_nil)))
    (pe_one (pe_not (pe_callB call_isi (by rfl) (T.of "isinstance") (by decide +kernel) (pa_cons (pv 0) (pa_cons (pe_bltn (v := .ty "bool") (by rfl) (T.of "bool") (by decide +kernel) rfl) pa_nil))))))))), ?_⟩
  refine ⟨v, rfl, rfl, _, rfl, ?_⟩
  have way : ∀ t : String, (∀ H', TyX K H' v (.type t)) → v ≠ .non → PySem.W.kitAny K (.type t) [.type "int", .type "str"] = some true → PySem.W.kitOne K (.type t) (.type "bool") = some false →
      tAndV (tCB (rIsiT K) (tCons (tVar 0) (tCons (tTup (tCons (tC (.ty "int")) (tCons (tC (.ty "str")) tNil))) tNil))) (tNotV (tCB (rIsi K) (tCons (tVar 0) (tCons (tC (.ty "bool")) tNil)))) (start ["value"] [v]) H Q := fun t ty _ ka kb =>
    ⟨v, rfl, (by show 2 ≤ sizeLine; decide), fun p hp => ⟨v, p, [.ty "int", .ty "str"], _, _, _, rfl, upd_same, .cons (.ty _) (.cons (.ty _) .nil), ty _, ka, _, rfl, iteT ⟨v, rfl, v, .ty "bool", _, _, _, rfl, .ty _, ty _, kb, _, rfl, k _ (Ex.new hp)⟩⟩⟩
  cases v <;> first | cases hv | skip
  · exact iteT (k H (Ex.refl H))
  · exact ifF rfl (way "int" (fun _ => .base (.int _)) (fun z => nomatch z) (kitAny_cons (b := true) (kit_ty (by decide +kernel)) (fun z => nomatch z) fun _ => rfl) (kit_ty (r := false) (by decide +kernel)))
  · exact ifF rfl (way "str" (fun _ => .base (.str _)) (fun z => nomatch z) (kitAny_cons (b := false) (kit_ty (by decide +kernel)) (fun _ => kitAny_cons (b := true) (kit_ty (by decide +kernel)) (fun z => nomatch z) fun _ => rfl) fun z => nomatch z) (kit_ty (r := false) (by decide +kernel)))
/-! ### is_atom -/
def spAtom (G : Gen) : Sp := fun vs H Q _ => ∃ (S : Addr → Prop) (n : Nat) (v : V) (d : D), vs = [v] ∧ Dc S G H n v d ∧ d.isOb = false ∧ ∀ H', Ex H H' → Q (.bl true) H'
theorem scAtom : FnScope ["value", "element"] ["value"] (defScope sIsAtom) := ⟨rfl, rfl, rfl, by decide +kernel, rfl, by decide +kernel, by decide +kernel⟩
theorem ok_atom {f fe : Addr} {fd fde : FuncData} (Dd : Df K mg "is_atom" sIsAtom ["value"] f fd) (De : Df K mg "is_element" sIsElem ["value"] fe fde) (T : Bi mg) {G : Gen} (hL : G.L ≤ 5000) : FnOk P w K mg base CX0 2 f fd ["value"] (spAtom G) := by
  have ge : FnOk P w K mg base CX0 1 fe fde ["value"] spElem := ok_elem De T
  refine Dd.F.ok scAtom (fun vs H Q E h => ?_) (fun cdv A outer s H vs Q E hr h => ?_)
  · obtain ⟨_, _, v, _, rfl, _⟩ := h
    rfl
  obtain ⟨S, n, v, d, rfl, hv, ho, k⟩ := h
  refine ⟨_, pss_cons (ps_if (pt_val (pe_callB call_isi (by rfl) (T.of "isinstance") (by decide +kernel) (pa_cons (pv 0) (pa_cons (pe_bltn (v := .ty "list") (by rfl) (T.of "list") (by decide +kernel) rfl) pa_nil))))
      (pss_one (ps_ret (pe_callB (cr_all rfl) (by rfl) (T.of "all") (by decide +kernel) (pa_cons (pe_lc (own := [("element", 1)]) (g := gName 1) (tt := tYes) rfl scAtom.nd (pi_list (pv 0)) (blkOk_by (N := ["value", "element"]) (sc := defScope sIsAtom) (by decide +kernel))
        (fun _ _ _ _ _ => pg_name (i := 1) scAtom.nd rfl (Or.inl rfl)) (fun _ _ _ _ _ => pts_nil) (fun _ _ _ _ _ => pe_call ge hr rfl De.m De.F.kp De.b .nil pass0 (pa_cons (pv 1) pa_nil))) pa_nil)))) pss_nil)
    (pss_one (ps_ret (pe_call ge hr rfl De.m De.F.kp De.b .nil pass0 (pa_cons (pv 0) pa_nil)))), ?_⟩
  obtain ⟨t1, ty1, kit1⟩ := isiL K hv
  refine ⟨v, rfl, v, .ty "list", t1, _, _, rfl, .ty _, ty1, kit1, _, rfl, ?_⟩
  refine hv.cases (fun m _ hs e => ?_) (fun m a xs _ ev hS r hx e => ?_) (fun m a ms g _ _ _ _ _ e => ?_)
  · subst e
    exact iteF ⟨v, rfl, v, rfl, G.sc _ hs, fun H' ex => k H' ex⟩
  · subst e; subst ev
    refine iteT ⟨_, rfl, a, rfl, ⟨_, .inl (.inl r)⟩, fun Da hD => ?_⟩
    refine lc_list (K := K) (a := a) (xs := xs) (fun i H2 => Ex H H2 ∧ H2 Da = some (.lst (List.replicate i (.bl true)))) ⟨Ex.new hD, upd_same⟩ (fun i H2 _ q => .inl (.inl (q.1 a _ r))) ?_ ?_
    · intro i x H2 hi q
      refine ⟨rfl, t_yes ?_⟩
      refine ⟨x, rfl, x, rfl, G.sc _ (hx.2 x (List.mem_of_getElem? hi)), fun H5 ex5 => ⟨_, ex5 Da _ q.2, ?_, Ex.mut (q.1.trans ex5) hD, ?_⟩⟩
      · have := (List.getElem?_eq_some_iff.mp hi).1
        rw [List.length_replicate]
        exact Nat.lt_of_le_of_lt (show i ≤ 5000 by omega) (by decide)
      · rw [upd_same, List.replicate_succ']
    · intro H2 q
      refine ⟨Da, List.replicate xs.length true, rfl, .inl (.inl (by rw [q.2, List.map_replicate])), ?_⟩
      rw [show (List.replicate xs.length true).all id = true by simp]
      exact k H2 q.1
  · subst e
    cases ho
/-! ### wrong_path -/
def spWrong (G : Gen) (n : Nat) : Sp := fun vs H Q _ => ∃ (S : Addr → Prop) (v : V) (d : D), vs = [v] ∧ Dc S G H n v d ∧ ∀ H', Ex H H' → Q .non H'
abbrev nWrong : List Str := ["value", "key", "path"]
theorem scWrong : FnScope nWrong ["value"] (defScope sWrong) := ⟨rfl, rfl, rfl, by decide +kernel, rfl, by decide +kernel, by decide +kernel⟩
theorem ok_wrong {f fa fe : Addr} {fd fda fde : FuncData} (Dd : Df K mg "wrong_path" sWrong ["value"] f fd) (Da' : Df K mg "is_atom" sIsAtom ["value"] fa fda) (De : Df K mg "is_element" sIsElem ["value"] fe fde) (T : Bi mg) {G : Gen} (hL : G.L ≤ 5000) (hG : G.KS.length < 64) :
    ∀ n, FnOk P w K mg base CX0 (n + 2) f fd ["value"] (spWrong G n)
  | 0 => fn_zero fun vs H Q E ⟨_, _, _, _, h, _⟩ => h
  | n + 1 => by
    have ih := ok_wrong Dd Da' De T hL hG n
    have ga : FnOk P w K mg base CX0 (n + 2) fa fda ["value"] (spAtom G) := (ok_atom Da' De T hL).mono (by omega)
    refine Dd.F.ok scWrong (fun vs H Q E h => ?_) (fun cdv A outer s H vs Q E hr h => ?_)
    · obtain ⟨_, v, _, rfl, _⟩ := h
      rfl
    obtain ⟨S, v, d, rfl, hv, k⟩ := h
    have hu := hu_of hr
    refine ⟨_, pss_cons (ps_if (pt_not (pt_val (pe_callB call_isi (by rfl) (T.of "isinstance") (by decide +kernel) (pa_cons (pv 0) (pa_cons (pe_bltn (v := .ty "dict") (by rfl) (T.of "dict") (by decide +kernel) rfl) pa_nil)))))
        (pss_one (ps_ret (pe_ifExp (pt_val (pe_call ga hr rfl Da'.m Da'.F.kp Da'.b .nil pass0 (pa_cons (pv 0) pa_nil))) pe_non (pe_tup pa_nil)))) pss_nil)
      (pss_cons (ps_if (pt_not (pt_val (pe_callB (cr_all rfl) (by rfl) (T.of "all") (by decide +kernel) (pa_cons (pe_lock (pe_lc (own := [("key", 1)]) (g := gName 1) (tt := tYes) rfl scWrong.nd (pi_keys (pv 0)) (blkOk_by (N := nWrong) (sc := defScope sWrong) (by decide +kernel))
          (fun _ _ _ _ _ => pg_name (i := 1) scWrong.nd rfl (Or.inl rfl)) (fun _ _ _ _ _ => pts_nil) (fun _ _ _ _ _ => pe_callB (id := "isinstance") (r := rIsi K) call_isi (by rfl) (T.of "isinstance") (by decide +kernel) (pa_cons (pv 1) (pa_cons (pe_bltn (v := .ty "str") (by rfl) (T.of "str") (by decide +kernel) rfl) pa_nil))))) pa_nil))))
          (pss_one ps_never) pss_nil)
      (pss_cons (ps_for PassesOwn.never rfl (pi_list (pe_callB (call_sortedD rfl) (by rfl) (T.of "sorted") (by decide +kernel) (pa_cons (pv 0) pa_nil))) (pg_name (i := 1) scWrong.nd rfl (Or.inl rfl))
        (pss_cons (ps_set (i := 2) scWrong.nd rfl (Or.inl rfl) (pe_call ih hr rfl Dd.m Dd.F.kp Dd.b .nil pass0 (pa_cons (pe_dget hu (pv 0) (pv 1) (fun _ _ => rfl)) pa_nil)))
        (pss_one (ps_if (pt_cmpR op_notN (pv 2) pe_non (nomark _)) (pss_one ps_never) pss_nil))))
      (pss_one (ps_ret pe_non)))), ?_⟩
    obtain ⟨t1, ty1, kit1⟩ := isiD K hv
    refine ⟨v, rfl, v, .ty "dict", t1, _, _, rfl, .ty _, ty1, kit1, _, rfl, ?_⟩
    refine hv.cases (fun m _ hs e => ?_) (fun m a xs _ ev hS r hx e => ?_) (fun m a ms g em ev hS r M e => ?_)
    · subst e
      exact iteT ⟨v, rfl, S, _, v, _, rfl, hv, rfl, fun H' ex => ⟨_, rfl, iteT (k H' ex)⟩⟩
    · subst e
      exact iteT ⟨v, rfl, S, _, v, _, rfl, hv, rfl, fun H' ex => ⟨_, rfl, iteT (k H' ex)⟩⟩
    subst e; subst ev; cases em
    refine iteF ⟨a, _, r, trivial, fun od => ⟨_, rfl, a, od, rfl, .inl ⟨_, upd_same, fun Da hD => ?_⟩⟩⟩
    have hDa : Da ≠ a := fun z => by rw [z, upd_same] at hD; cases hD
    have hml := M.len
    refine lc_keys (o := od) (d := a) (ms := ms) (fun i H2 => Ex (upd H a (.frz od (.dK (kvsOf ms)))) H2 ∧ H2 Da = some (.lst (List.replicate i (.bl true)))) ⟨Ex.new hD, upd_same⟩ (fun i H2 _ q => q.1 a _ upd_same) ?_ ?_
    · intro i key u H2 hi q
      refine ⟨rfl, t_yes ?_⟩
      refine ⟨.str key, rfl, .str key, .ty "str", _, _, _, rfl, .ty _, .base (.str key), kit_ty (r := true) (by decide +kernel), _, q.2, ?_, Ex.mut q.1 hD, ?_⟩
      · have := (List.getElem?_eq_some_iff.mp hi).1
        rw [List.length_replicate]
        exact Nat.lt_of_le_of_lt (show i ≤ 5000 by omega) (by decide)
      · rw [upd_same, List.replicate_succ']
    intro H2 q
    refine ⟨q.1 a _ upd_same, ?_⟩
    refine ⟨Da, List.replicate ms.length true, rfl, .inl (.inl (by rw [upd_ne hDa, q.2, List.map_replicate])), ?_⟩
    have ex : Ex H (upd H2 a (.dK (kvsOf ms))) := ex_unlock r q.1
    generalize upd H2 a (.dK (kvsOf ms)) = H3 at ex
    rw [show (List.replicate ms.length true).all id = true by simp]
    refine ⟨_, rfl, iteF ?_⟩
    refine ⟨_, rfl, a, kvsOf ms, ms.map (·.1), rfl, .inl (ex a _ r), by rw [List.map_map, List.map_map]; rfl, by rw [List.length_map]; omega, fun ys p hp _ nw => ?_⟩
    refine ⟨p, rfl, ⟨_, .inl (.inl upd_same)⟩, for_list (K := K) (a := p) (xs := ys.map V.str) (fun i σ H4 => (∃ x y, σ = [some (.ref a), x, y]) ∧ Ex H H4 ∧ H4 p = some (.lst (ys.map V.str))) ⟨⟨_, _, rfl⟩, ex.trans (Ex.new nw), upd_same⟩ (fun i σ H4 _ q => .inl (.inl q.2.2)) ?_ ?_⟩
    · rintro i x σ H4 hi ⟨⟨x1, y1, rfl⟩, e4, hp4⟩
      obtain ⟨key, hk, rfl⟩ : ∃ key, key ∈ ys ∧ x = .str key := by
        obtain ⟨key, h1, h2⟩ := List.mem_map.mp (List.mem_of_getElem? hi)
        exact ⟨key, h1, h2.symm⟩
      obtain ⟨u, hku⟩ := valV_some_of ((hp.mem_iff).mp hk)
      refine ⟨.ref a, rfl, .str key, rfl, a, u, rfl, .inl ⟨_, Sum.inr key, .inl (e4 a _ r), rfl, by rw [valV_inK]; exact hku.symm⟩, S, u, g key, rfl, (M.at' key u hku).ex e4, fun H5 e5 => ?_⟩
      exact ⟨_, rfl, rfl, _, rfl, iteF ⟨⟨_, _, rfl⟩, e4.trans e5, e5 p _ hp4⟩⟩
    · rintro σ H4 ⟨_, e4, _⟩
      exact k H4 e4
end
end TP

namespace TP
open PySem PySem.Spec PyProof.Rows L2 Evl
section
variable {P : Program} {w : World} {K : PySem.W.Frag} {mg : Str → Option Value} {base : Heap}
/-! ### depth -/
def spDepth (G : Gen) (n : Nat) : Sp := fun vs H Q _ => ∃ (S : Addr → Prop) (v : V) (d : D) (b : Nat), vs = [v] ∧ Dc S G H n v d ∧ DD d b ∧ ∀ (j : Int) H', Ex H H' → 0 ≤ j → j ≤ b → Q (.int j) H'
theorem scDepth : FnScope ["document", "key"] ["document"] (defScope sDepth) := ⟨rfl, rfl, rfl, by decide +kernel, rfl, by decide +kernel, by decide +kernel⟩
theorem ok_depth {f : Addr} {fd : FuncData} (Dd : Df K mg "depth" sDepth ["document"] f fd) (T : Bi mg) {G : Gen} (hG : G.KS.length ≤ 5000) : ∀ n, FnOk P w K mg base CX0 n f fd ["document"] (spDepth G n)
  | 0 => fn_zero fun vs H Q E ⟨_, _, _, _, _, h, _⟩ => h
  | n + 1 => by
    have ih := ok_depth Dd T hG n
    refine Dd.F.ok scDepth (fun vs H Q E h => ?_) (fun cdv A outer s H vs Q E hr h => ?_)
    · obtain ⟨_, v, d, _, rfl, _⟩ := h
      rfl
    obtain ⟨S, v, d, b, rfl, hv, hd, k⟩ := h
    have hu := hu_of hr
    refine ⟨_, pss_cons (ps_if (pt_not (pt_val (pe_callB call_isi (by rfl) (T.of "isinstance") (by decide +kernel) (pa_cons (pv 0) (pa_cons (pe_bltn (v := .ty "dict") (by rfl) (T.of "dict") (by decide +kernel) rfl) pa_nil)))))
        (pss_one (ps_ret pe_int)) pss_nil)
      (pss_one (ps_ret (pe_op op_add pe_int (pe_callBK (cr_maxDef hr.units hr.hd) (by rfl) (T.of "max") (by decide +kernel) (pa_cons (pe_lock (pe_lc (own := [("key", 1)]) (g := gName 1) (tt := tYes) rfl scDepth.nd (pi_keys (pv 0)) (blkOk_by (N := ["document", "key"]) (sc := defScope sDepth) (by decide +kernel))
          (fun _ _ _ _ _ => pg_name (i := 1) scDepth.nd rfl (Or.inl rfl)) (fun _ _ _ _ _ => pts_nil) (fun _ _ _ _ _ => pe_call ih hr rfl Dd.m Dd.F.kp Dd.b .nil pass0 (pa_cons (pe_dget hu (pv 0) (pv 1) (fun _ _ => rfl)) pa_nil)))) pa_nil) (pk_cons pe_int pk_nil))))), ?_⟩
    obtain ⟨t1, ty1, kit1⟩ := isiD K hv
    refine ⟨v, rfl, v, .ty "dict", t1, _, _, rfl, .ty _, ty1, kit1, _, rfl, ?_⟩
    refine hv.cases (fun m _ hs e => ?_) (fun m a xs _ ev hS r hx e => ?_) (fun m a ms g em ev hS r M e => ?_)
    · subst e
      exact iteT (k 0 H (Ex.refl H) (Int.le_refl _) (by omega))
    · subst e
      exact iteT (k 0 H (Ex.refl H) (Int.le_refl _) (by omega))
    subst e; subst ev; cases em
    refine iteF ⟨a, _, r, trivial, fun od => ⟨_, rfl, a, od, rfl, .inl ⟨_, upd_same, fun Da hD => ?_⟩⟩⟩
    have hDa : Da ≠ a := fun z => by rw [z, upd_same] at hD; cases hD
    have hml := M.len
    have M' := M.lock r hS (o := .frz od (.dK (kvsOf ms)))
    refine lc_keys (o := od) (d := a) (ms := ms) (fun i H2 => Ex (upd H a (.frz od (.dK (kvsOf ms)))) H2 ∧ ∃ ns : List Int, H2 Da = some (.lst (ns.map V.int)) ∧ ns.length = i ∧ ∀ x ∈ ns, 0 ≤ x ∧ x ≤ ((b - 1 : Nat) : Int)) ⟨Ex.new hD, [], upd_same, rfl, fun x hx => nomatch hx⟩ (fun i H2 _ q => q.1 a _ upd_same) ?_ ?_
    · rintro i key u H2 hi ⟨ex, ns, h2, hl, hb⟩
      have hku : valV ms key = some u := valV_of_mem M.nd (List.mem_of_getElem? hi)
      refine ⟨rfl, t_yes ?_⟩
      refine ⟨.ref a, rfl, .str key, rfl, a, u, rfl, .inl ⟨_, Sum.inr key, .inr ⟨od, ex a _ upd_same⟩, rfl, by rw [valV_inK]; exact hku.symm⟩, S, u, g key, b - 1, rfl, (M'.at' key u hku).ex ex, hd.2 key, fun j H5 e5 j0 j1 => ?_⟩
      refine ⟨_, e5 Da _ h2, ?_, Ex.mut (ex.trans e5) hD, ns ++ [j], ?_, ?_, ?_⟩
      · have := (List.getElem?_eq_some_iff.mp hi).1
        rw [List.length_map, hl]
        exact Nat.lt_of_le_of_lt (show i ≤ 5000 by omega) (by decide)
      · rw [upd_same, List.map_append]; rfl
      · rw [List.length_append, hl]; rfl
      · intro x hx
        rcases List.mem_append.mp hx with hx | hx
        · exact hb x hx
        · rw [List.mem_singleton.mp hx]; exact ⟨j0, j1⟩
    rintro H2 ⟨ex, ns, h2, hl, hb⟩
    refine ⟨ex a _ upd_same, ?_⟩
    have ex' : Ex H (upd H2 a (.dK (kvsOf ms))) := ex_unlock r ex
    have hd1 := hd.1
    refine ⟨Da, ns, 0, rfl, rfl, .inl (.inl (by rw [upd_ne hDa]; exact h2)), fun _ => ?_, fun z hz _ => ?_⟩
    · exact ⟨_, _, rfl, rfl, k _ _ ex' (by omega) (by omega)⟩
    · have := hb z hz
      exact ⟨_, _, rfl, rfl, k _ _ ex' (by omega) (by omega)⟩
/-! ### parts -/
def spParts (G : Gen) (n : Nat) : Sp := fun vs H Q _ => ∃ (S : Addr → Prop) (v : V) (d : D) (p : Nat), vs = [v] ∧ Dc S G H n v d ∧ PD d p ∧ ∀ (j : Int) H', Ex H H' → 1 ≤ j → j ≤ p → Q (.int j) H'
theorem scParts : FnScope ["document", "key"] ["document"] (defScope sParts) := ⟨rfl, rfl, rfl, by decide +kernel, rfl, by decide +kernel, by decide +kernel⟩
theorem ok_parts {f : Addr} {fd : FuncData} (Dd : Df K mg "parts" sParts ["document"] f fd) (T : Bi mg) {G : Gen} (hG : G.KS.length ≤ 5000) : ∀ n, FnOk P w K mg base CX0 n f fd ["document"] (spParts G n)
  | 0 => fn_zero fun vs H Q E ⟨_, _, _, _, _, h, _⟩ => h
  | n + 1 => by
    have ih := ok_parts Dd T hG n
    refine Dd.F.ok scParts (fun vs H Q E h => ?_) (fun cdv A outer s H vs Q E hr h => ?_)
    · obtain ⟨_, v, d, _, rfl, _⟩ := h
      rfl
    obtain ⟨S, v, d, p, rfl, hv, hp, k⟩ := h
    have hu := hu_of hr
    refine ⟨_, pss_cons (ps_if (pt_not (pt_val (pe_callB call_isi (by rfl) (T.of "isinstance") (by decide +kernel) (pa_cons (pv 0) (pa_cons (pe_bltn (v := .ty "dict") (by rfl) (T.of "dict") (by decide +kernel) rfl) pa_nil)))))
        (pss_one (ps_ret pe_int)) pss_nil)
      (pss_one (ps_ret (pe_op op_add pe_int (pe_callB (cr_sum rfl) (by rfl) (T.of "sum") (by decide +kernel) (pa_cons (pe_lock (pe_lc (own := [("key", 1)]) (g := gName 1) (tt := tYes) rfl scParts.nd (pi_keys (pv 0)) (blkOk_by (N := ["document", "key"]) (sc := defScope sParts) (by decide +kernel))
          (fun _ _ _ _ _ => pg_name (i := 1) scParts.nd rfl (Or.inl rfl)) (fun _ _ _ _ _ => pts_nil) (fun _ _ _ _ _ => pe_call ih hr rfl Dd.m Dd.F.kp Dd.b .nil pass0 (pa_cons (pe_dget hu (pv 0) (pv 1) (fun _ _ => rfl)) pa_nil)))) pa_nil))))), ?_⟩
    obtain ⟨t1, ty1, kit1⟩ := isiD K hv
    refine ⟨v, rfl, v, .ty "dict", t1, _, _, rfl, .ty _, ty1, kit1, _, rfl, ?_⟩
    refine hv.cases (fun m _ hs e => ?_) (fun m a xs _ ev hS r hx e => ?_) (fun m a ms g em ev hS r M e => ?_)
    · subst e
      have hp : 1 ≤ p := hp
      exact iteT (k 1 H (Ex.refl H) (Int.le_refl _) (by omega))
    · subst e
      have hp : 1 ≤ p := hp
      exact iteT (k 1 H (Ex.refl H) (Int.le_refl _) (by omega))
    subst e; subst ev; cases em
    obtain ⟨ks, q, hks, hq, hsum⟩ := hp
    refine iteF ⟨a, _, r, trivial, fun od => ⟨_, rfl, a, od, rfl, .inl ⟨_, upd_same, fun Da hD => ?_⟩⟩⟩
    have hDa : Da ≠ a := fun z => by rw [z, upd_same] at hD; cases hD
    have hml := M.len
    have M' := M.lock r hS (o := .frz od (.dK (kvsOf ms)))
    refine lc_keys (o := od) (d := a) (ms := ms) (fun i H2 => Ex (upd H a (.frz od (.dK (kvsOf ms)))) H2 ∧ ∃ ns : List Int, H2 Da = some (.lst (ns.map V.int)) ∧ ns.length = i ∧ 0 ≤ ns.sum ∧ ns.sum ≤ ((((ms.take i).map (·.1)).map q).sum : Nat)) ⟨Ex.new hD, [], upd_same, rfl, by simp, by simp⟩ (fun i H2 _ q => q.1 a _ upd_same) ?_ ?_
    · rintro i key u H2 hi ⟨ex, ns, h2, hl, hb0, hb1⟩
      have hku : valV ms key = some u := valV_of_mem M.nd (List.mem_of_getElem? hi)
      refine ⟨rfl, t_yes ?_⟩
      refine ⟨.ref a, rfl, .str key, rfl, a, u, rfl, .inl ⟨_, Sum.inr key, .inr ⟨od, ex a _ upd_same⟩, rfl, by rw [valV_inK]; exact hku.symm⟩, S, u, g key, q key, rfl, (M'.at' key u hku).ex ex, hq key, fun j H5 e5 j0 j1 => ?_⟩
      refine ⟨_, e5 Da _ h2, ?_, Ex.mut (ex.trans e5) hD, ns ++ [j], ?_, ?_, ?_, ?_⟩
      · have := (List.getElem?_eq_some_iff.mp hi).1
        rw [List.length_map, hl]
        exact Nat.lt_of_le_of_lt (show i ≤ 5000 by omega) (by decide)
      · rw [upd_same, List.map_append]; rfl
      · rw [List.length_append, hl]; rfl
      · rw [List.sum_append]; simp; omega
      · rw [List.sum_append, List.take_add_one, hi]
        simp
        simp at hb1
        omega
    rintro H2 ⟨ex, ns, h2, hl, hb0, hb1⟩
    refine ⟨ex a _ upd_same, ?_⟩
    have ex' : Ex H (upd H2 a (.dK (kvsOf ms))) := ex_unlock r ex
    refine ⟨Da, ns, rfl, .inl (.inl (by rw [upd_ne hDa]; exact h2)), _, _, rfl, rfl, k _ _ ex' (by omega) ?_⟩
    rw [List.take_length] at hb1
    have := sum_sub q M.nd (ys := ks) fun x hx => by
      obtain ⟨u, hu⟩ := valV_some_of hx
      exact hks x (M.at' x u hu).ne_nil
    omega
/-! ### check -/
def spCheck (G : Gen) (n : Nat) : Sp := fun vs H Q _ => ∃ (S : Addr → Prop) (v : V) (d : D), vs = [v] ∧ Dc S G H n v d ∧ PD d 200 ∧ DD d 8 ∧ ∀ H', Ex H H' → Q .non H'
theorem scCheck : FnScope ["value", "path"] ["value"] (defScope sCheck) := ⟨rfl, rfl, rfl, by decide +kernel, rfl, by decide +kernel, by decide +kernel⟩
/-- what the program's own defs are -/
structure Prog (K : PySem.W.Frag) (mg : Str → Option Value) (aCheck aWrong aAtom aElem aDepth aParts aCopied aPatched : Addr) (fCheck fWrong fAtom fElem fDepth fParts fCopied fPatched : FuncData) : Prop where
  check : Df K mg "check" sCheck ["value"] aCheck fCheck
  wrong : Df K mg "wrong_path" sWrong ["value"] aWrong fWrong
  atom : Df K mg "is_atom" sIsAtom ["value"] aAtom fAtom
  elem : Df K mg "is_element" sIsElem ["value"] aElem fElem
  depth : Df K mg "depth" sDepth ["document"] aDepth fDepth
  parts : Df K mg "parts" sParts ["document"] aParts fParts
  copied : Df K mg "copied" sCopied ["document"] aCopied fCopied
  patched : Df K mg "patched" sPatched ["document", "patch"] aPatched fPatched
  md : ∃ t, mg "MOST_DEPTH" = some (.int 8 t)
  mp : ∃ t, mg "MOST_PARTS" = some (.int 200 t)
variable {aCheck aWrong aAtom aElem aDepth aParts aCopied aPatched : Addr} {fCheck fWrong fAtom fElem fDepth fParts fCopied fPatched : FuncData}
theorem ok_check (R : Prog K mg aCheck aWrong aAtom aElem aDepth aParts aCopied aPatched fCheck fWrong fAtom fElem fDepth fParts fCopied fPatched) (T : Bi mg) {G : Gen} (hL : G.L ≤ 5000) (hG : G.KS.length < 64) (n : Nat) : FnOk P w K mg base CX0 (n + 3) aCheck fCheck ["value"] (spCheck G n) := by
  have gw : FnOk P w K mg base CX0 (n + 2) aWrong fWrong ["value"] (spWrong G n) := ok_wrong R.wrong R.atom R.elem T hL hG n
  have gd : FnOk P w K mg base CX0 (n + 2) aDepth fDepth ["document"] (spDepth G n) := (ok_depth R.depth T (by omega) n).mono (by omega)
  have gp : FnOk P w K mg base CX0 (n + 2) aParts fParts ["document"] (spParts G n) := (ok_parts R.parts T (by omega) n).mono (by omega)
  obtain ⟨t1, md⟩ := R.md
  obtain ⟨t2, mp⟩ := R.mp
  refine R.check.F.ok scCheck (fun vs H Q E h => ?_) (fun cdv A outer s H vs Q E hr h => ?_)
  · obtain ⟨_, v, d, rfl, _⟩ := h
    rfl
  obtain ⟨S, v, d, rfl, hv, hp, hn, k⟩ := h
  refine ⟨_, pss_cons (ps_set (i := 1) scCheck.nd rfl (Or.inl rfl) (pe_call gw hr rfl R.wrong.m R.wrong.F.kp R.wrong.b .nil pass0 (pa_cons (pv 0) pa_nil)))
    (pss_cons (ps_if (pt_cmpR op_notN (pv 1) pe_non (nomark _)) (pss_one ps_never) pss_nil)
    (pss_cons (ps_if (pt_cmpR op_gt (pe_call gd hr rfl R.depth.m R.depth.F.kp R.depth.b .nil pass0 (pa_cons (pv 0) pa_nil)) (pe_glob (v := .int 8) rfl md ⟨t1, rfl⟩) (nomark _)) (pss_one ps_never) pss_nil)
    (pss_one (ps_if (pt_cmpR op_gt (pe_call gp hr rfl R.parts.m R.parts.F.kp R.parts.b .nil pass0 (pa_cons (pv 0) pa_nil)) (pe_glob (v := .int 200) rfl mp ⟨t2, rfl⟩) (nomark _)) (pss_one ps_never) pss_nil)))), ?_⟩
  refine ⟨v, rfl, S, v, d, rfl, hv, fun H1 e1 => ⟨_, rfl, rfl, _, rfl, iteF ?_⟩⟩
  refine ⟨v, rfl, S, v, d, 8, rfl, hv.ex e1, hn, fun j H2 e2 j0 j1 => ⟨_, _, rfl, rfl, _, rfl, ifF (decide_eq_false (by omega)) ?_⟩⟩
  refine ⟨v, rfl, S, v, d, 200, rfl, (hv.ex e1).ex e2, hp, fun i H3 e3 i0 i1 => ⟨_, _, rfl, rfl, _, rfl, ifF (decide_eq_false (by omega)) ?_⟩⟩
  exact k H3 ((e1.trans e2).trans e3)
/-! ### applied -/
def spApplied (G : Gen) (n : Nat) : Sp := fun vs H Q _ => ∃ (S1 S2 : Addr → Prop) (v1 v2 : V) (d p : D), vs = [v1, v2] ∧ Dc S1 G H n v1 d ∧ Dc S2 G H n v2 p ∧ (∀ x, S1 x → S2 x → False) ∧ PD d 200 ∧ PD p 200 ∧ DD d 8 ∧ DD p 8 ∧ ∀ r H', Ex H H' → Dc (Nw H) G H' n r (d.app p) → Q r H'
theorem scApplied : FnScope ["document", "patch"] ["document", "patch"] (defScope sApplied) := ⟨rfl, rfl, rfl, by decide +kernel, rfl, by decide +kernel, by decide +kernel⟩
theorem ok_applied (R : Prog K mg aCheck aWrong aAtom aElem aDepth aParts aCopied aPatched fCheck fWrong fAtom fElem fDepth fParts fCopied fPatched) (T : Bi mg) {G : Gen} (hL : G.L ≤ 5000) (hG : G.KS.length < 64) (hN : G.C .non = true) {f : Addr} {fd : FuncData} (Dd : Df K mg "applied" sApplied ["document", "patch"] f fd) (n : Nat) :
    FnOk P w K mg base CX0 (n + 4) f fd ["document", "patch"] (spApplied G n) := by
  have gc : FnOk P w K mg base CX0 (n + 3) aCheck fCheck ["value"] (spCheck G n) := ok_check R T hL hG n
  have gp : FnOk P w K mg base CX0 (n + 3) aPatched fPatched ["document", "patch"] (spPatched G n) := (ok_patched R.patched R.copied T (by omega) hN n).mono (by omega)
  refine Dd.F.ok scApplied (fun vs H Q E h => ?_) (fun cdv A outer s H vs Q E hr h => ?_)
  · obtain ⟨_, _, v1, v2, _, _, rfl, _⟩ := h
    rfl
  obtain ⟨S1, S2, v1, v2, d, p, rfl, h1, h2, dis, p1, p2, n1, n2, k⟩ := h
  refine ⟨_, pss_cons (ps_expr (pe_call gc hr rfl R.check.m R.check.F.kp R.check.b .nil pass0 (pa_cons (pv 0) pa_nil)))
    (pss_cons (ps_expr (pe_call gc hr rfl R.check.m R.check.F.kp R.check.b .nil pass0 (pa_cons (pv 1) pa_nil)))
    (pss_one (ps_ret (pe_call gp hr rfl R.patched.m R.patched.F.kp R.patched.b .nil pass0 (pa_cons (pv 0) (pa_cons (pv 1) pa_nil)))))), ?_⟩
  refine ⟨v1, rfl, S1, v1, d, rfl, h1, p1, n1, fun H1 e1 => ?_⟩
  refine ⟨v2, rfl, S2, v2, p, rfl, h2.ex e1, p2, n2, fun H2 e2 => ?_⟩
  refine ⟨v1, rfl, v2, rfl, S1, S2, v1, v2, d, p, rfl, h1.ex (e1.trans e2), h2.ex (e1.trans e2), dis, fun r H' e3 hr' => ?_⟩
  exact k r H' ((e1.trans e2).trans e3) (hr'.imp fun b hb => fresh_back (e1.trans e2) hb)
end
end TP

namespace TP
open PySem PySem.Spec PyProof.Rows L2 Evl
abbrev sState : Stmt := topS 19
abbrev sDigit : Stmt := topS 20
abbrev sAtom' : Stmt := topS 21
abbrev sPatch : Stmt := topS 22
/-! ### what the law draws -/
def c4 : List V := [.non, .int 0, .int 1, .int 2, .int (-7), .int 5, .str "a", .str "b", .str ""]
def g4 : Gen where
  KS := ["a", "b", "c"]
  C := fun v => decide (v ∈ c4)
  L := 2
  sc := fun v h => by
    have h := of_decide_eq_true h
    simp only [c4, List.mem_cons, List.not_mem_nil, or_false] at h
    rcases h with rfl | rfl | rfl | rfl | rfl | rfl | rfl | rfl | rfl <;> rfl
/-- the state that draws go through -/
def StAt (H : Hp) (a : Addr) : Prop := ∃ x y z : Int, H a = some (.lst [.int x, .int y, .int z]) ∧ 0 ≤ x ∧ 0 ≤ y ∧ y < 2147483640 ∧ 0 ≤ z
/-- only the state at a has moved -/
structure Mv (a : Addr) (H H' : Hp) : Prop where
  st : StAt H' a
  ex : ∀ b o, b ≠ a → H b = some o → H' b = some o
theorem Mv.trans {a H H1 H2} (x : Mv a H H1) (y : Mv a H1 H2) : Mv a H H2 := ⟨y.st, fun b o n h => y.ex b o n (x.ex b o n h)⟩
theorem Mv.refl {a H} (h : StAt H a) : Mv a H H := ⟨h, fun _ _ _ z => z⟩
theorem Mv.new {a H H1 p o} (x : Mv a H H1) (hp : H1 p = none) : Mv a H (upd H1 p o) := by
  obtain ⟨u, y, z, h, r⟩ := x.st
  exact ⟨⟨u, y, z, by rw [upd_ne (ne_of_none h hp)]; exact h, r⟩, fun b o n e => by rw [upd_ne (ne_of_none (x.ex b o n e) hp)]; exact x.ex b o n e⟩
theorem Mv.free {a H H1 p} (x : Mv a H H1) (ha : H a ≠ none) (hp : H1 p = none) : H p = none := by
  cases e : H p with
  | none => rfl
  | some o =>
    by_cases z : p = a
    · subst z
      obtain ⟨u, y, w, h, _⟩ := x.st
      rw [h] at hp
      cases hp
    · rw [x.ex p o z e] at hp
      cases hp
theorem StAt.ne {H a} (h : StAt H a) : H a ≠ none := by
  obtain ⟨u, y, w, h, _⟩ := h
  rw [h]
  exact fun z => nomatch z
theorem Dc.mv {S G H H' n v d a} (x : Mv a H H') (hS : ¬ S a) (h : Dc S G H n v d) : Dc S G H' n v d := Dc.mono (fun _ z => z) (fun b u s r => x.ex b u (fun z => hS (by rw [← z]; exact s)) r) (Nat.le_refl _) h
theorem Mem.mv {S G H H' n ms f a} (x : Mv a H H') (hS : ¬ S a) (h : Mem S G H n ms f) : Mem S G H' n ms f := ⟨h.nd, h.ks, h.no, fun k u z => (h.at' k u z).mv x hS⟩
/-- new since H, and away from one address -/
abbrev Sl (H : Hp) : Addr → Prop := fun x => H x = none ∧ x ≠ sysModules
section
variable {P : Program} {w : World} {K : PySem.W.Frag} {mg : Str → Option Value} {base : Heap}
/-! ### _law_state -/
def spState : Sp := fun vs H Q _ => ∃ n : Int, vs = [.int n] ∧ ∀ p H', H p = none → Ex H H' → StAt H' p → (∀ b, b ≠ p → H b = none → H' b = none) → Q (.ref p) H'
theorem scState : FnScope ["_law_source"] ["_law_source"] (defScope sState) := ⟨rfl, rfl, rfl, by decide +kernel, rfl, by decide +kernel, by decide +kernel⟩
theorem ok_state {f : Addr} {fd : FuncData} (Dd : Df K mg "_law_state" sState ["_law_source"] f fd) (T : Bi mg) : FnOk P w K mg base CX0 1 f fd ["_law_source"] spState := by
  refine Dd.F.ok scState (fun vs H Q E h => ?_) (fun cdv A outer s H vs Q E hr h => ?_)
  · obtain ⟨n, rfl, _⟩ := h
    rfl
  obtain ⟨n, rfl, k⟩ := h
  refine ⟨_, pss_cons (ps_set (i := 0) scState.nd rfl (Or.inl rfl) (pe_callB call_abs (by rfl) (T.of "abs") (by decide +kernel) (pa_cons (pv 0) pa_nil)))
    (pss_one (ps_ret (pe_lst (pa_cons (pe_op op_mul (pv 0) (pe_callTy call_int1 (by rfl) (T.of "int") (by decide +kernel) (pa_cons (pe_cmpR op_ge (pv 0) (pe_op op_pow pe_int pe_int) (nomark _)) pa_nil)))
      (pa_cons (pe_op op_add (pe_op op_mod (pv 0) pe_int) pe_int) (pa_cons (pe_op op_mod (pv 0) pe_int) pa_nil)))))), ?_⟩
  refine ⟨_, rfl, n, rfl, ?_⟩
  have h0 : 0 ≤ (if n < 0 then -n else n) := by split <;> omega
  generalize (if n < 0 then -n else n) = m at h0
  refine ⟨_, rfl, _, rfl, _, _, rfl, rfl, ⟨by decide, by decide, by decide⟩, _, _, rfl, rfl, .inr ⟨_, rfl, _, _, rfl, rfl, .inr ?_, ?_⟩⟩
  · split <;> decide
  refine ⟨_, rfl, _, _, rfl, rfl, (by show (0 : Int) < 2147483629; decide), _, _, rfl, rfl, _, rfl, _, _, rfl, rfl, (by show (0 : Int) < 2147483587; decide), (by show 3 ≤ sizeLine; decide), fun p hp => ?_⟩
  refine k p _ hp (Ex.new hp) ⟨_, _, _, upd_same, ?_, ?_, ?_, ?_⟩ fun b nb hb => by rw [upd_ne nb]; exact hb
  · split
    · omega
    · omega
  · have := Int.emod_nonneg m (show (2147483629 : Int) ≠ 0 by decide)
    omega
  · have := Int.emod_lt_of_pos m (show (0 : Int) < 2147483629 by decide)
    omega
  · exact Int.emod_nonneg m (by decide)
/-! ### _law_digit -/
def spDigit : Sp := fun vs H Q _ => ∃ (a : Addr) (b : Int), vs = [.ref a, .int b] ∧ StAt H a ∧ 0 < b ∧ b < 1000 ∧ ∀ (d : Int) H', 0 ≤ d → d < b → Mv a H H' → (∀ c, c ≠ a → H' c = H c) → Q (.int d) H'
abbrev nDigit : List Str := ["_law_state_here", "_law_base", "_law_found", "_law_mixed"]
theorem scDigit : FnScope nDigit ["_law_state_here", "_law_base"] (defScope sDigit) := ⟨rfl, rfl, rfl, by decide +kernel, rfl, by decide +kernel, by decide +kernel⟩
theorem ok_digit {f : Addr} {fd : FuncData} (Dd : Df K mg "_law_digit" sDigit ["_law_state_here", "_law_base"] f fd) : FnOk P w K mg base CX0 1 f fd ["_law_state_here", "_law_base"] spDigit := by
  refine Dd.F.ok scDigit (fun vs H Q E h => ?_) (fun cdv A outer s H vs Q E hr h => ?_)
  · obtain ⟨a, b, rfl, _⟩ := h
    rfl
  obtain ⟨a, b, rfl, ⟨x, y, z, ha, x0, y0, y1, z0⟩, b0, b1, k⟩ := h
  refine ⟨_, pss_cons (ps_if (pt_cmpR op_gt (pe_ix ix_list (pv 0) pe_int (fun _ _ => rfl)) pe_int (nomark _))
      (pss_cons (ps_set (i := 2) scDigit.nd rfl (Or.inl rfl) (pe_op op_mod (pe_ix ix_list (pv 0) pe_int (fun _ _ => rfl)) (pv 1)))
      (pss_cons (ps_asg (pe_op op_fdiv (pe_ix ix_list (pv 0) pe_int (fun _ _ => rfl)) (pv 1)) (pg_sub (pv 0) pe_int set_list))
      (pss_one (ps_ret (pv 2))))) pss_nil)
    (pss_cons (ps_set (i := 3) scDigit.nd rfl (Or.inl rfl) (pe_op op_mul (pe_ix ix_list (pv 0) pe_int (fun _ _ => rfl)) (pe_op op_add (pe_op op_fdiv (pe_ix ix_list (pv 0) pe_int (fun _ _ => rfl)) pe_int) pe_int)))
    (pss_cons (ps_asg (pe_op op_add (pe_op op_mod (pe_op op_add (pv 3) (pe_ix ix_list (pv 0) pe_int (fun _ _ => rfl))) pe_int) pe_int) (pg_sub (pv 0) pe_int set_list))
    (pss_one (ps_ret (pe_op op_mod (pe_op op_fdiv (pe_ix ix_list (pv 0) pe_int (fun _ _ => rfl)) pe_int) (pv 1)))))), ?_⟩
  have L : SqL K H a [.int x, .int y, .int z] := .inl (.inl ha)
  refine ⟨.ref a, rfl, a, _, 0, _, rfl, rfl, L, atI_nat (j := 0) rfl, _, _, rfl, rfl, _, rfl, ?_⟩
  refine ite2 (fun c => ?_) fun c => ?_
  · have c : 0 < x := of_decide_eq_true c
    refine ⟨.ref a, rfl, a, _, 0, _, rfl, rfl, L, atI_nat (j := 0) rfl, _, rfl, _, _, rfl, rfl, b0, ?_⟩
    refine ⟨.ref a, rfl, a, _, 0, _, rfl, rfl, L, atI_nat (j := 0) rfl, _, rfl, _, _, rfl, rfl, ⟨b0, by omega⟩, .ref a, rfl, a, _, 0, 0, rfl, rfl, ha, rfl, ?_⟩
    refine ⟨_, rfl, ?_⟩
    refine k _ _ (Int.emod_nonneg x (by omega)) (Int.emod_lt_of_pos x b0) ⟨⟨x / b, y, z, upd_same, Int.ediv_nonneg x0 (by omega), y0, y1, z0⟩, fun c o n e => by rw [upd_ne n]; exact e⟩ fun c n => upd_ne n
  · refine ⟨.ref a, rfl, a, _, 1, _, rfl, rfl, L, atI_nat (j := 1) rfl, .ref a, rfl, a, _, 1, _, rfl, rfl, L, atI_nat (j := 1) rfl, _, _, rfl, rfl, ⟨by decide, by decide⟩, _, _, rfl, rfl, _, _, rfl, rfl, .inl ⟨by omega, by omega⟩, ?_⟩
    refine ⟨_, rfl, .ref a, rfl, a, _, 2, _, rfl, rfl, L, atI_nat (j := 2) rfl, _, _, rfl, rfl, _, _, rfl, rfl, (by show (0 : Int) < 2147483629; decide), _, _, rfl, rfl, .ref a, rfl, a, _, 1, 1, rfl, rfl, ha, rfl, ?_⟩
    generalize y * (y / 1009 + 69621) + z = m
    have h0 := Int.emod_nonneg m (show (2147483629 : Int) ≠ 0 by decide)
    have h1 := Int.emod_lt_of_pos m (show (0 : Int) < 2147483629 by decide)
    refine ⟨.ref a, rfl, a, _, 1, _, rfl, rfl, .inl (.inl upd_same), atI_nat (j := 1) rfl, _, _, rfl, rfl, ⟨by decide, by decide⟩, _, rfl, _, _, rfl, rfl, b0, ?_⟩
    exact k _ _ (Int.emod_nonneg _ (by omega)) (Int.emod_lt_of_pos _ b0) ⟨⟨x, _, z, upd_same, x0, by omega, by omega, z0⟩, fun c o n e => by rw [upd_ne n]; exact e⟩ fun c n => upd_ne n
end
end TP

namespace TP
open PySem PySem.Spec PyProof.Rows L2 Evl
section
variable {P : Program} {w : World} {K : PySem.W.Frag} {mg : Str → Option Value} {base : Heap}
/-- a drawn document: its levels n, at most p parts, at most q deep -/
structure Dn (S : Addr → Prop) (H : Hp) (n p q : Nat) (v : V) (d : D) : Prop where
  dc : Dc S g4 H n v d
  pd : PD d p
  dd : DD d q
theorem Dn.imp {S S' : Addr → Prop} {H n p q v d} (h : Dn S H n p q v d) (z : ∀ x, S x → S' x) : Dn S' H n p q v d := ⟨h.dc.imp z, h.pd, h.dd⟩
theorem Dn.mv {S a H H' n p q v d} (x : Mv a H H') (hS : ¬ S a) (h : Dn S H n p q v d) : Dn S H' n p q v d := ⟨h.dc.mv x hS, h.pd, h.dd⟩
/-! ### _law_atom -/
def spAtm : Sp := fun vs H Q _ => ∃ a : Addr, vs = [.ref a] ∧ StAt H a ∧ ∀ v d H', Mv a H H' → Dn (Sl H) H' 1 1 0 v d → Q v H'
theorem scAtm : FnScope ["_law_s"] ["_law_s"] (defScope sAtom') := ⟨rfl, rfl, rfl, by decide +kernel, rfl, by decide +kernel, by decide +kernel⟩
theorem ok_atm {f fg : Addr} {fd fdg : FuncData} (Dd : Df K mg "_law_atom" sAtom' ["_law_s"] f fd) (Dg : Df K mg "_law_digit" sDigit ["_law_state_here", "_law_base"] fg fdg) : FnOk P w K mg base CX0 2 f fd ["_law_s"] spAtm := by
  have gg : FnOk P w K mg base CX0 1 fg fdg ["_law_state_here", "_law_base"] spDigit := ok_digit Dg
  refine Dd.F.ok scAtm (fun vs H Q E h => ?_) (fun cdv A outer s H vs Q E hr h => ?_)
  · obtain ⟨n, rfl, _⟩ := h
    rfl
  obtain ⟨a, rfl, sa, k⟩ := h
  refine ⟨_, pss_one (ps_ret (pe_ix ix_list (pe_lst (pa_cons pe_int (pa_cons pe_int (pa_cons pe_int (pa_cons (pe_un un_neg pe_int) (pa_cons pe_str (pa_cons pe_str (pa_cons pe_str (pa_cons (pe_lstS pa_nil) (pa_cons (pe_lstS (pa_cons pe_int (pa_cons pe_str pa_nil))) (pa_cons (pe_lstS (pa_cons pe_non (pa_cons pe_int pa_nil))) pa_nil)))))))))))
    (pe_call gg hr rfl Dg.m Dg.F.kp Dg.b .nil pass0 (pa_cons (pv 0) (pa_cons pe_int pa_nil))) (fun _ _ => rfl))), ?_⟩
  refine ⟨_, rfl, (by show 0 ≤ sizeLine; decide), fun p1 h1 n1 => ⟨(by show 2 ≤ sizeLine; decide), fun p2 h2 n2 => ⟨(by show 2 ≤ sizeLine; decide), fun p3 h3 n3 => ⟨(by show 10 ≤ sizeLine; decide), fun p4 h4 => ?_⟩⟩⟩⟩
  have m1 : Mv a H _ := (Mv.refl sa).new (o := .lst []) h1
  have m2 := m1.new (o := .lst [.int 1, .str "a"]) h2
  have m3 := m2.new (o := .lst [.non, .int 1]) h3
  have m4 := m3.new (o := .lst [.int 0, .int 1, .int 2, .int (-7), .str "a", .str "b", .str "", .ref p1, .ref p2, .ref p3]) h4
  refine ⟨.ref a, rfl, a, 10, rfl, m4.st, by decide, by decide, fun j H' j0 j1 mv same => ?_⟩
  have f1 : H p1 = none := h1
  have f2 : H p2 = none := m1.free sa.ne h2
  have f3 : H p3 = none := m2.free sa.ne h3
  have m := m4.trans mv
  have ne : ∀ {p : Addr}, H p = none → p ≠ a := fun {p} hp z => sa.ne (by rw [← z]; exact hp)
  have e32 : p3 ≠ p2 := fun z => by rw [z, upd_same] at h3; cases h3
  have e31 : p3 ≠ p1 := fun z => by rw [z, upd_ne (fun y => by rw [y] at h2; rw [upd_same] at h2; cases h2), upd_same] at h3; cases h3
  have e21 : p2 ≠ p1 := fun z => by rw [z, upd_same] at h2; cases h2
  have l1 : H' p1 = some (.lst []) := mv.ex p1 _ (ne f1) (by
    rw [upd_ne (fun y => by rw [← y, upd_ne e31.symm, upd_ne e21.symm, upd_same] at h4; cases h4), upd_ne e31.symm, upd_ne e21.symm, upd_same])
  have l2 : H' p2 = some (.lst [.int 1, .str "a"]) := mv.ex p2 _ (ne f2) (by
    rw [upd_ne (fun y => by rw [← y, upd_ne e32.symm, upd_same] at h4; cases h4), upd_ne e32.symm, upd_same])
  have l3 : H' p3 = some (.lst [.non, .int 1]) := mv.ex p3 _ (ne f3) (by
    rw [upd_ne (fun y => by rw [← y, upd_same] at h4; cases h4), upd_same])
  have sc : ∀ v : V, g4.C v = true → Dn (Sl H) H' 1 1 0 v (.sc v) := fun v hv => ⟨Dc.sc hv, Nat.le_refl _, trivial⟩
  have ls : ∀ (p : Addr) (xs : List V), H p = none → p ≠ sysModules → H' p = some (.lst xs) → (xs.length ≤ 2 ∧ ∀ x ∈ xs, g4.C x = true) → Dn (Sl H) H' 1 1 0 (.ref p) (.ls xs) := fun p xs hp np hl hx => ⟨Dc.ls ⟨hp, np⟩ hl hx, Nat.le_refl _, trivial⟩
  have L4 : SqL K H' p4 [.int 0, .int 1, .int 2, .int (-7), .str "a", .str "b", .str "", .ref p1, .ref p2, .ref p3] := .inl (.inl (by rw [same p4 (fun z => (m3.st.ne (by rw [← z]; exact h4))), upd_same]))
  have hj : j = 0 ∨ j = 1 ∨ j = 2 ∨ j = 3 ∨ j = 4 ∨ j = 5 ∨ j = 6 ∨ j = 7 ∨ j = 8 ∨ j = 9 := by omega
  rcases hj with rfl | rfl | rfl | rfl | rfl | rfl | rfl | rfl | rfl | rfl
  · exact ⟨p4, _, 0, _, rfl, rfl, L4, atI_nat (j := 0) rfl, k _ _ _ m (sc _ (by decide +kernel))⟩
  · exact ⟨p4, _, 1, _, rfl, rfl, L4, atI_nat (j := 1) rfl, k _ _ _ m (sc _ (by decide +kernel))⟩
  · exact ⟨p4, _, 2, _, rfl, rfl, L4, atI_nat (j := 2) rfl, k _ _ _ m (sc _ (by decide +kernel))⟩
  · exact ⟨p4, _, 3, _, rfl, rfl, L4, atI_nat (j := 3) rfl, k _ _ _ m (sc _ (by decide +kernel))⟩
  · exact ⟨p4, _, 4, _, rfl, rfl, L4, atI_nat (j := 4) rfl, k _ _ _ m (sc _ (by decide +kernel))⟩
  · exact ⟨p4, _, 5, _, rfl, rfl, L4, atI_nat (j := 5) rfl, k _ _ _ m (sc _ (by decide +kernel))⟩
  · exact ⟨p4, _, 6, _, rfl, rfl, L4, atI_nat (j := 6) rfl, k _ _ _ m (sc _ (by decide +kernel))⟩
  · exact ⟨p4, _, 7, _, rfl, rfl, L4, atI_nat (j := 7) rfl, k _ _ _ m (ls p1 _ f1 n1 l1 (by decide +kernel))⟩
  · exact ⟨p4, _, 8, _, rfl, rfl, L4, atI_nat (j := 8) rfl, k _ _ _ m (ls p2 _ f2 n2 l2 (by decide +kernel))⟩
  · exact ⟨p4, _, 9, _, rfl, rfl, L4, atI_nat (j := 9) rfl, k _ _ _ m (ls p3 _ f3 n3 l3 (by decide +kernel))⟩
/-! ### _law_patch -/
/-- the most parts of a drawn document so deep -/
def pB : Nat → Nat
  | 0 => 1
  | n + 1 => 1 + 3 * pB n
def spDraw (n : Nat) : Sp := fun vs H Q _ => ∃ a : Addr, vs = [.ref a, .int n] ∧ StAt H a ∧ ∀ v d H', Mv a H H' → Dn (Sl H) H' (n + 1) (pB n) n v d → Q v H'
abbrev nDraw : List Str := ["_law_s", "_law_deep_here", "_law_way", "_law_found", "_law_turn"]
theorem scDraw : FnScope nDraw ["_law_s", "_law_deep_here"] (defScope sPatch) := ⟨rfl, rfl, rfl, by decide +kernel, rfl, by decide +kernel, by decide +kernel⟩
theorem pB_pos : ∀ n, 1 ≤ pB n
  | 0 => Nat.le_refl _
  | n + 1 => by show 1 ≤ 1 + 3 * pB n; omega
theorem ok_draw {f fg fa : Addr} {fd fdg fda : FuncData} (Dd : Df K mg "_law_patch" sPatch ["_law_s", "_law_deep_here"] f fd) (Dg : Df K mg "_law_digit" sDigit ["_law_state_here", "_law_base"] fg fdg) (Da' : Df K mg "_law_atom" sAtom' ["_law_s"] fa fda) (T : Bi mg) :
    ∀ n, FnOk P w K mg base CX0 (n + 3) f fd ["_law_s", "_law_deep_here"] (spDraw n) := by
  intro n
  have gg : FnOk P w K mg base CX0 (n + 2) fg fdg ["_law_state_here", "_law_base"] spDigit := (ok_digit Dg).mono (by omega)
  have ga : FnOk P w K mg base CX0 (n + 2) fa fda ["_law_s"] spAtm := (ok_atm Da' Dg).mono (by omega)
  have ih : ∃ m, (n ≠ 0 → n = m + 1) ∧ FnOk P w K mg base CX0 (n + 2) f fd ["_law_s", "_law_deep_here"] (fun vs H Q E => n ≠ 0 ∧ spDraw m vs H Q E) := by
    cases n with
    | zero => exact ⟨0, fun z => absurd rfl z, fn_zero fun vs H Q E z => z.1 rfl⟩
    | succ m => exact ⟨m, fun _ => rfl, (ok_draw Dd Dg Da' T m).imp fun vs H Q E z => z.2⟩
  obtain ⟨m', hm', ih⟩ := ih
  refine Dd.F.ok scDraw (fun vs H Q E h => ?_) (fun cdv A outer s H vs Q E hr h => ?_)
  · obtain ⟨a, rfl, _⟩ := h
    rfl
  obtain ⟨a, rfl, sa, k⟩ := h
  have hu := hu_of hr
  refine ⟨_, pss_cons (ps_set (i := 2) scDraw.nd rfl (Or.inl rfl) (pe_call gg hr rfl Dg.m Dg.F.kp Dg.b .nil pass0 (pa_cons (pv 0) (pa_cons pe_int pa_nil))))
    (pss_cons (ps_if (pt_cmpR op_eq (pv 2) pe_int (nomark _)) (pss_one (ps_ret pe_non)) pss_nil)
    (pss_cons (ps_if (PW.pt (pw_or (pt_cmpR op_eq (pv 2) pe_int (nomark _)) (pw_or1 (pt_cmpR op_eq (pv 1) pe_int (nomark _))))) (pss_one (ps_ret (pe_call ga hr rfl Da'.m Da'.F.kp Da'.b .nil pass0 (pa_cons (pv 0) pa_nil)))) pss_nil)
    (pss_cons (ps_set (i := 3) scDraw.nd rfl (Or.inl rfl) pe_dnewK)
    (pss_cons (ps_for PassesOwn.never rfl (pi_range1 (by rfl) (T.of "range") (pa_cons (pe_call gg hr rfl Dg.m Dg.F.kp Dg.b .nil pass0 (pa_cons (pv 0) (pa_cons pe_int pa_nil))) pa_nil)) (pg_name (i := 4) scDraw.nd rfl (Or.inl rfl))
      (pss_one (ps_dput hu (pv 3) (pe_ix ix_list (pe_lst (pa_cons pe_str (pa_cons pe_str (pa_cons pe_str pa_nil)))) (pe_call gg hr rfl Dg.m Dg.F.kp Dg.b .nil pass0 (pa_cons (pv 0) (pa_cons pe_int pa_nil))) (fun _ _ => rfl))
        (pe_call ih hr rfl Dd.m Dd.F.kp Dd.b .nil pass0 (pa_cons (pv 0) (pa_cons (pe_op op_sub (pv 1) pe_int) pa_nil))) rfl)))
    (pss_one (ps_ret (pe_know (pv 3)))))))), ?_⟩
  refine ⟨.ref a, rfl, a, 5, rfl, sa, by decide, by decide, fun w0 H1 _ _ m1 _ => ?_⟩
  refine ⟨_, rfl, rfl, _, rfl, ite2 (fun c => ?_) fun c => ?_⟩
  · exact k .non (.sc .non) H1 m1 ⟨Dc.sc (by decide +kernel), pB_pos n, trivial⟩
  refine ⟨_, rfl, rfl, _, rfl, ?_⟩
  have atom_way : tCall spAtm [] E0 (tCons (tVar 0) tNil) [some (.ref a), some (.int n), some (.int w0), none, none] H1 Q :=
    ⟨.ref a, rfl, a, rfl, m1.st, fun v d H2 m2 dn => k v d H2 (m1.trans m2) ⟨(dn.dc.lift (by omega)).imp fun x hx => ⟨m1.free sa.ne hx.1, hx.2⟩, dn.pd.mono (pB_pos n), dn.dd.mono (Nat.zero_le n)⟩⟩
  refine ite2 (fun c1 => iteT atom_way) fun c1 => ?_
  refine ⟨_, rfl, rfl, _, rfl, ite2 (fun c2 => atom_way) fun c2 => ?_⟩
  -- an object
  have hn : n ≠ 0 := fun z => c2 (by rw [z]; rfl)
  have em := hm' hn
  subst em
  intro Fa hF
  have hFH : H Fa = none := m1.free sa.ne hF
  have mF : Mv a H (upd H1 Fa (.dK [])) := m1.new hF
  refine ⟨.ref a, rfl, a, 3, rfl, mF.st, by decide, by decide, fun t H2 t0 t1 m2 same2 => ⟨t, rfl, by omega, by omega, ?_⟩⟩
  have nFa : Fa ≠ a := fun z => m1.st.ne (by rw [← z]; exact hF)
  refine for_range (lo := 0) (n := t.toNat) (fun i σ H3 => (∃ x, σ = [some (.ref a), some (.int ((m' + 1 : Nat) : Int)), some (.int w0), some (.ref Fa), x]) ∧ Mv a H H3 ∧ ∃ ms f, H3 Fa = some (.dK (kvsOf ms)) ∧ Mem (fun x => Sl H x ∧ x ≠ Fa) g4 H3 (m' + 1) ms f ∧ (∀ k, PD (f k) (pB m')) ∧ ∀ k, DD (f k) m') ?_ ?_ ?_
  · refine ⟨⟨_, rfl⟩, mF.trans m2, [], fun _ => .nil, ?_, Mem.nil, fun _ => trivial, fun _ => trivial⟩
    rw [same2 Fa nFa, upd_same]
    rfl
  · rintro i σ H3 hi ⟨⟨x, rfl⟩, m3, ms, f, h3, M3, hp, hd⟩
    refine ⟨.ref a, rfl, _, rfl, _, _, rfl, rfl, hn, a, by show [V.ref a, V.int (((m' + 1 : Nat) : Int) - 1)] = _; rw [show ((m' + 1 : Nat) : Int) - 1 = (m' : Int) by omega], m3.st, fun v d H4 m4 dn => ?_⟩
    have hS3 : ¬ (Sl H a ∧ a ≠ Fa) := fun z => sa.ne z.1.1
    have h4 := m4.ex Fa _ nFa h3
    have M4 := M3.mv m4 hS3
    have dv : Dc (fun x => Sl H x ∧ x ≠ Fa) g4 H4 (m' + 1) v d := dn.dc.imp fun x hx => ⟨⟨m3.free sa.ne hx.1, hx.2⟩, (ne_of_none h3 hx.1).symm⟩
    refine ⟨.ref Fa, rfl, (by show 3 ≤ sizeLine; decide), fun p hp' => ?_⟩
    have nFp : Fa ≠ p := ne_of_none h4 hp'
    have m5 := (m3.trans m4).new (o := .lst [.str "a", .str "b", .str "c"]) hp'
    have hp5 : H p = none := (m3.trans m4).free sa.ne hp'
    refine ⟨.ref a, rfl, a, 3, rfl, m5.st, by decide, by decide, fun j H6 j0 j1 m6 same6 => ?_⟩
    have npa : p ≠ a := fun z => sa.ne (by rw [← z]; exact hp5)
    have l6 : SqL K H6 p [.str "a", .str "b", .str "c"] := .inl (.inl (by rw [same6 p npa, upd_same]))
    have h6 : H6 Fa = some (.dK (kvsOf ms)) := by rw [same6 Fa nFa, upd_ne nFp]; exact h4
    have M6 : Mem (fun x => Sl H x ∧ x ≠ Fa) g4 H6 (m' + 1) ms f := (M4.ex (Ex.new hp')).mv m6 hS3
    have dv6 : Dc (fun x => Sl H x ∧ x ≠ Fa) g4 H6 (m' + 1) v d := (dv.ex (Ex.new hp')).mv m6 hS3
    have hj : j = 0 ∨ j = 1 ∨ j = 2 := by omega
    have sel : ∃ key : Str, key ∈ g4.KS ∧ atI [V.str "a", .str "b", .str "c"] j = some (.str key) := by
      rcases hj with rfl | rfl | rfl
      · exact ⟨"a", by decide +kernel, atI_nat (j := 0) rfl⟩
      · exact ⟨"b", by decide +kernel, atI_nat (j := 1) rfl⟩
      · exact ⟨"c", by decide +kernel, atI_nat (j := 2) rfl⟩
    obtain ⟨key, hk, at'⟩ := sel
    refine ⟨p, _, j, _, rfl, rfl, l6, at', Fa, _, rfl, DPut.k (k := Sum.inr key) h6 (sizeK (by decide) M6), ⟨_, rfl⟩, ⟨?_, ?_⟩, putK ms key v, D.fup f key d, by rw [upd_same, putK_inK], (M6.put hk dv6).off (fun z => z.2 rfl), ?_, ?_⟩
    · obtain ⟨x, y, z, hx, r⟩ := m6.st
      exact ⟨x, y, z, by rw [upd_ne nFa.symm]; exact hx, r⟩
    · intro b o nb e
      rw [upd_ne (ne_of_none e hFH)]
      exact (m5.trans m6).ex b o nb e
    · intro q
      unfold D.fup
      split
      · exact dn.pd
      · exact hp q
    · intro q
      unfold D.fup
      split
      · exact dn.dd
      · exact hd q
  · rintro σ H3 ⟨⟨x, rfl⟩, m3, ms, f, h3, M3, hp, hd⟩
    refine ⟨_, rfl, fun know => k (.ref Fa) (.ob f) H3 m3 ⟨Dc.ob ⟨hFH, know Fa _ h3⟩ h3 (M3.imp fun x hx => hx.1), ?_, ?_⟩⟩
    · refine ⟨["a", "b", "c"], fun _ => pB m', fun k hk => ?_, hp, ?_⟩
      · cases e : valV ms k with
        | none => rw [M3.no k e] at hk; cases hk
        | some u => exact M3.ks k (List.mem_map.mpr ⟨_, valV_mem e, rfl⟩)
      · show 1 + ([pB m', pB m', pB m'].sum) ≤ 1 + 3 * pB m'
        simp
        omega
    · exact ⟨by omega, fun k => hd k⟩
end
end TP

namespace TP
open PySem PySem.Spec PyProof.Rows L2 Evl
abbrev sLCopied : Stmt := topS 23
abbrev sLAfter : Stmt := topS 24
abbrev sLTurned : Stmt := topS 26
/-- ps: new pairs (key, value), one for each member -/
abbrev PairsAt (H : Hp) : List Addr → List (Str × V) → Prop := Paired fun p m => H p = some (.tup [.str m.1, m.2])
theorem PairsAt.ex {H H' ps ms} (e : Ex H H') (h : PairsAt H ps ms) : PairsAt H' ps ms := Paired.mapP h fun p m z => e p _ z
theorem PairsAt.toK {K : PySem.W.Frag} {H : Hp} {ps : List Addr} {ms : List (Str × V)} (h : PairsAt H ps ms) : Paired (fun p (kv : Key × V) => SqT K H p [kV kv.1, kv.2]) ps (kvsOf ms) := by
  induction h with
  | nil => exact .nil
  | cons a _ ih => exact .cons (.inl (.inl a)) ih
/-- one more pair -/
theorem PairsAt.more {H H' : Hp} {ps ms p m} (h : PairsAt H ps ms) (e : Ex H H') (hp : H' p = some (.tup [.str m.1, m.2])) : PairsAt H' (ps ++ [p]) (ms ++ [m]) := Paired.snoc (h.ex e) hp
section
variable {P : Program} {w : World} {K : PySem.W.Frag} {mg : Str → Option Value} {base : Heap}
theorem scLCopied : FnScope ["_law_value", "_law_key"] ["_law_value"] (defScope sLCopied) := ⟨rfl, rfl, rfl, by decide +kernel, rfl, by decide +kernel, by decide +kernel⟩
theorem ok_lcopied {f : Addr} {fd : FuncData} (Dd : Df K mg "_law_copied" sLCopied ["_law_value"] f fd) (T : Bi mg) {G : Gen} (hG : G.KS.length ≤ 5000) : ∀ n, FnOk P w K mg base CX0 n f fd ["_law_value"] (spCopied G n)
  | 0 => fn_zero fun vs H Q E ⟨_, _, _, _, h, _⟩ => h
  | n + 1 => by
    have ih := ok_lcopied Dd T hG n
    refine Dd.F.ok scLCopied (fun vs H Q E h => ?_) (fun cdv A outer s H vs Q E hr h => ?_)
    · obtain ⟨_, v, d, rfl, _⟩ := h
      rfl
    obtain ⟨S, v, d, rfl, hv, k⟩ := h
    have hu := hu_of hr
    refine ⟨_, pss_cons (ps_if (pt_val (pe_callB call_isi (by rfl) (T.of "isinstance") (by decide +kernel) (pa_cons (pv 0) (pa_cons (pe_bltn (v := .ty "dict") (by rfl) (T.of "dict") (by decide +kernel) rfl) pa_nil))))
        (pss_one (ps_ret (pe_callTy (call_dictP rfl) (by rfl) (T.of "dict") (by decide +kernel) (pa_cons (pe_lock (pe_lc (own := [("_law_key", 1)]) (g := gName 1) (tt := tYes) rfl scLCopied.nd (pi_keys (pv 0)) (blkOk_by (N := ["_law_value", "_law_key"]) (sc := defScope sLCopied) (by decide +kernel))
          (fun _ _ _ _ _ => pg_name (i := 1) scLCopied.nd rfl (Or.inl rfl)) (fun _ _ _ _ _ => pts_nil)
          (fun _ _ _ _ _ => pe_tup (pa_cons (pv 1) (pa_cons (pe_call ih hr rfl Dd.m Dd.F.kp Dd.b .nil pass0 (pa_cons (pe_dget hu (pv 0) (pv 1) (fun _ _ => rfl)) pa_nil)) pa_nil))))) pa_nil)))) pss_nil)
      (pss_one (ps_ret (pe_ifExp (pt_val (pe_callB call_isi (by rfl) (T.of "isinstance") (by decide +kernel) (pa_cons (pv 0) (pa_cons (pe_bltn (v := .ty "list") (by rfl) (T.of "list") (by decide +kernel) rfl) pa_nil))))
        (pe_callTy call_list_of (by rfl) (T.of "list") (by decide +kernel) (pa_cons (pv 0) pa_nil)) (pv 0)))), ?_⟩
    obtain ⟨t1, ty1, kit1⟩ := isiD K hv
    obtain ⟨t2, ty2, kit2⟩ := isiL K hv
    refine ⟨v, rfl, v, .ty "dict", t1, _, _, rfl, .ty _, ty1, kit1, _, rfl, ?_⟩
    refine hv.cases (fun m e hs ed => ?_) (fun m a xs e ev hS r hx ed => ?_) (fun m a ms f e ev hS r M ed => ?_)
    · subst ed
      refine iteF ⟨v, rfl, v, .ty "list", t2, _, _, rfl, .ty _, ty2, kit2, _, rfl, iteF ⟨v, rfl, ?_⟩⟩
      exact k v H (Ex.refl H) (by cases e; exact Dc.sc hs)
    · subst ed; subst ev
      refine iteF ⟨_, rfl, .ref a, .ty "list", t2, _, _, rfl, .ty _, ty2, kit2, _, rfl, iteT ⟨_, rfl, a, xs, rfl, .inl (.inl (.inl r)), fun l hl => ?_⟩⟩
      exact k _ _ (Ex.new hl) (by cases e; exact Dc.ls hl upd_same hx)
    subst ed; subst ev; cases e
    refine iteT ⟨a, _, r, trivial, fun od => ⟨_, rfl, a, od, rfl, .inl ⟨_, upd_same, fun Da hD => ?_⟩⟩⟩
    have M' := M.lock r hS (o := .frz od (.dK (kvsOf ms)))
    have hDa : Da ≠ a := fun z => by rw [z, upd_same] at hD; cases hD
    have hDH : H Da = none := by rw [upd_ne hDa] at hD; exact hD
    have hml := M.len
    refine lc_keys (o := od) (d := a) (ms := ms) (fun i H2 => Ex (upd H a (.frz od (.dK (kvsOf ms)))) H2 ∧ ∃ ps ms3, H2 Da = some (.lst (ps.map V.ref)) ∧ ps.length = i ∧ PairsAt H2 ps ms3 ∧ (∀ p ∈ ps, p ≠ Da) ∧ Mem (fun b => H b = none ∧ b ≠ Da) G H2 n ms3 (mix ms i f fun _ => .nil) ∧ ms3.map (·.1) = (ms.take i).map (·.1)) ?_ ?_ ?_ ?_
    · exact ⟨Ex.new hD, [], [], upd_same, rfl, .nil, fun p hp => (nomatch hp), by rw [mix_zero]; exact Mem.nil, rfl⟩
    · exact fun i H2 _ q => q.1 a _ upd_same
    · rintro i key u H2 hi ⟨ex, ps, ms3, h2, hl, hps, hne, M2, hk⟩
      have hku : valV ms key = some u := valV_of_mem M.nd (List.mem_of_getElem? hi)
      refine ⟨rfl, t_yes ?_⟩
      refine ⟨.str key, rfl, .ref a, rfl, .str key, rfl, a, u, rfl, .inl ⟨_, Sum.inr key, .inr ⟨od, ex a _ upd_same⟩, rfl, by rw [valV_inK]; exact hku.symm⟩, S, u, f key, rfl, (M'.at' key u hku).ex ex, fun z H5 e5 hz => ⟨(by show 2 ≤ sizeLine; decide), fun p hp => ?_⟩⟩
      have h5 := e5 Da _ h2
      have nz : Dc (fun b => H b = none ∧ b ≠ Da) G H5 n z (f key) := hz.imp fun b hb => by
        have q := fresh_back ex hb
        by_cases zz : b = a
        · rw [zz, upd_same] at q; cases q
        · rw [upd_ne zz] at q
          exact ⟨q, (ne_of_none h2 hb).symm⟩
      have npD : p ≠ Da := (ne_of_none h5 hp).symm
      have new : valV ms3 key = none := valV_none_of (by rw [hk]; exact not_taken M.nd hi)
      have e6 : Ex H2 (upd H5 p (.tup [.str key, z])) := e5.trans (Ex.new hp)
      refine ⟨ps.map V.ref, by rw [upd_ne npD.symm]; exact h5, ?_, Ex.mut (ex.trans e6) hD, ps ++ [p], ms3 ++ [(key, z)], ?_, ?_, ?_, ?_, ?_, ?_⟩
      · have := (List.getElem?_eq_some_iff.mp hi).1
        rw [List.length_map, hl]
        exact Nat.lt_of_le_of_lt (show i ≤ 5000 by omega) (by decide)
      · rw [upd_same, List.map_append]; rfl
      · rw [List.length_append, hl]; rfl
      · refine Paired.snoc (pairs_map hps fun q m hq hqm => ?_) ?_
        · rw [upd_ne (hne q hq)]
          exact e6 q _ hqm
        · show (upd _ Da _) p = _
          rw [upd_ne npD, upd_same]
      · intro q hq
        rcases List.mem_append.mp hq with hq | hq
        · exact hne q hq
        · rw [List.mem_singleton.mp hq]; exact npD
      · rw [← mix_succ hi, ← putK_new z new]
        exact (((M2.ex e5).put (M.ks key (List.mem_map.mpr ⟨_, List.mem_of_getElem? hi, rfl⟩)) nz).ex (Ex.new hp)).off fun z => z.2 rfl
      · rw [List.map_append, hk, List.take_add_one, hi]
        simp
    rintro H2 ⟨ex, ps, ms3, h2, hl, hps, hne, M2, hk⟩
    refine ⟨ex a _ upd_same, ?_⟩
    have ex' : Ex H (upd H2 a (.dK (kvsOf ms))) := ex_unlock r ex
    have nps : ∀ p ∈ ps, p ≠ a := fun p hp z => by
      obtain ⟨m, hm⟩ := pairs_at hps hp
      rw [z, ex a _ upd_same] at hm
      cases hm
    refine ⟨Da, ps, kvsOf ms3, rfl, .inl (.inl (by rw [upd_ne hDa]; exact h2)), PairsAt.toK (pairs_map hps fun p m hp hpm => by rw [upd_ne (nps p hp)]; exact hpm), fun Fa hF => ?_⟩
    rw [mix_all fun k hk => M.no k (valV_none_of hk)] at M2
    have M3 := M2.off (a := a) (o := .dK (kvsOf ms)) (fun z => by rw [z.1] at r; cases r)
    rw [show mergeK [] (kvsOf ms3) = kvsOf ms3 from merge_nodup ms3 [] (by simpa using M2.nd)]
    exact k _ _ (ex'.trans (Ex.new hF)) (Dc.ob (fresh_back ex' hF) upd_same ((M3.imp fun b hb => hb.1).ex (Ex.new hF)))
end
end TP

namespace TP
open PySem PySem.Spec PyProof.Rows L2 Evl
section
variable {P : Program} {w : World} {K : PySem.W.Frag} {mg : Str → Option Value} {base : Heap}
/-- a copy of d if isinstance(d, dict) else {} -/
theorem t_dictcopy {K : PySem.W.Frag} {S : Addr → Prop} {G : Gen} {H : Hp} {n : Nat} {v : V} {d : D} {i : Nat} {σ : L2.St} {Q : VK} (hσ : σ[i]? = some (some v)) (hv : Dc S G H (n + 1) v d)
    (h : ∀ a1 ms1 H1, Ex H H1 → H1 a1 = some (.dK (kvsOf ms1)) → H a1 = none → Mem (fun b => H b = none ∧ b ≠ a1) G H1 n ms1 d.tgt → Q (.ref a1) H1) :
    tIf (tB (tCB (rIsi K) (tCons (tVar i) (tCons (tC (.ty "dict")) tNil)))) (tCall (spCopied G (n + 1)) [] E0 (tCons (tVar i) tNil)) tDNewK σ H Q := by
  obtain ⟨t1, ty1, kit1⟩ := isiD K hv
  refine ⟨v, hσ, v, .ty "dict", t1, _, _, rfl, .ty _, ty1, kit1, _, rfl, ?_⟩
  have none_way : d.isOb = false → d.tgt = (fun _ => .nil) → (if d.isOb = true then tCall (spCopied G (n + 1)) [] E0 (tCons (tVar i) tNil) σ H Q else tDNewK σ H Q) := fun e e2 => by
    rw [e]
    exact iteF fun p hp => h p [] _ (Ex.new hp) upd_same hp (by rw [e2]; exact Mem.nil)
  refine hv.cases (fun m _ _ e => ?_) (fun m a xs _ _ _ _ _ e => ?_) (fun m a ms f em ev hS r M e => ?_)
  · exact none_way (by rw [e]; rfl) (by rw [e]; rfl)
  · exact none_way (by rw [e]; rfl) (by rw [e]; rfl)
  · subst e
    refine iteT ⟨v, hσ, S, v, _, rfl, hv, fun z H' ex hz => ?_⟩
    refine hz.cases (fun _ _ _ e => nomatch e) (fun _ _ _ _ _ _ _ _ e => nomatch e) (fun m2 a1 ms1 f1 em1 e1 s1 r1 M1 e2 => ?_)
    cases em1; subst e1
    injection e2 with e2
    subst e2
    exact h a1 ms1 H' ex r1 s1 (M1.avoid r1 s1)
abbrev nLAfter : List Str := ["_law_document", "_law_patch_here", "_law_found", "_law_key", "_law_other"]
theorem scLAfter : FnScope nLAfter ["_law_document", "_law_patch_here"] (defScope sLAfter) := ⟨rfl, rfl, rfl, by decide +kernel, rfl, by decide +kernel, by decide +kernel⟩
theorem ok_lafter {f fc : Addr} {fd fdc : FuncData} (Dd : Df K mg "_law_after" sLAfter ["_law_document", "_law_patch_here"] f fd) (Dc' : Df K mg "_law_copied" sLCopied ["_law_value"] fc fdc) (T : Bi mg) {G : Gen} (hG : G.KS.length ≤ 5000) (hN : G.C .non = true) :
    ∀ n, FnOk P w K mg base CX0 (n + 1) f fd ["_law_document", "_law_patch_here"] (spPatched G n)
  | 0 => fn_zero fun vs H Q E ⟨_, _, _, _, _, _, _, h, _⟩ => h
  | n + 1 => by
    have ih := ok_lafter Dd Dc' T hG hN n
    have gc : FnOk P w K mg base CX0 (n + 1) fc fdc ["_law_value"] (spCopied G (n + 1)) := ok_lcopied Dc' T hG (n + 1)
    refine Dd.F.ok scLAfter (fun vs H Q E h => ?_) (fun cdv A outer s H vs Q E hr h => ?_)
    · obtain ⟨_, _, v1, v2, d, p, rfl, _⟩ := h
      rfl
    obtain ⟨S1, S2, v1, v2, d, p, rfl, h1, h2, dis, k⟩ := h
    have hu := hu_of hr
    refine ⟨_, pss_cons (ps_if (pt_not (pt_val (pe_callB call_isi (by rfl) (T.of "isinstance") (by decide +kernel) (pa_cons (pv 1) (pa_cons (pe_bltn (v := .ty "dict") (by rfl) (T.of "dict") (by decide +kernel) rfl) pa_nil)))))
        (pss_one (ps_ret (pe_call gc hr rfl Dc'.m Dc'.F.kp Dc'.b .nil pass0 (pa_cons (pv 1) pa_nil)))) pss_nil)
      (pss_cons (ps_set (i := 2) scLAfter.nd rfl (Or.inr rfl) (pe_ifExp (pt_val (pe_callB call_isi (by rfl) (T.of "isinstance") (by decide +kernel) (pa_cons (pv 0) (pa_cons (pe_bltn (v := .ty "dict") (by rfl) (T.of "dict") (by decide +kernel) rfl) pa_nil))))
        (pe_call gc hr rfl Dc'.m Dc'.F.kp Dc'.b .nil pass0 (pa_cons (pv 0) pa_nil)) pe_dnewK))
      (pss_cons (ps_lock (ps_for PassesOwn.never rfl (pi_keys (pv 1)) (pg_name (i := 3) scLAfter.nd rfl (Or.inr rfl))
          (pss_one (ps_if (pt_cmpR op_notN (pe_dget hu (pv 1) (pv 3) (fun _ _ => rfl)) pe_non (nomark _))
            (pss_one (ps_dput hu (pv 2) (pv 3) (pe_call ih hr rfl Dd.m Dd.F.kp Dd.b .nil pass0 (pa_cons (pe_dget1 hu (pv 2) (pv 3) ⟨rfl, rfl, rfl, rfl⟩) (pa_cons (pe_dget hu (pv 1) (pv 3) (fun _ _ => rfl)) pa_nil))) rfl))
            (pss_one (ps_if (pt_cmp (pc_din hu (pv 3) (pv 2)))
              (pss_one (ps_set (i := 2) scLAfter.nd rfl (Or.inr rfl) (pe_callTy (call_dictP rfl) (by rfl) (T.of "dict") (by decide +kernel) (pa_cons (pe_lock (pe_lc (own := [("_law_other", 4)]) (g := gName 4) rfl scLAfter.nd (pi_keys (pv 2)) (blkOk_by (N := nLAfter) (sc := defScope sLAfter) (by decide +kernel))
                (fun _ _ _ _ _ => pg_name (i := 4) scLAfter.nd rfl (Or.inl rfl)) (fun _ _ _ _ _ => pts_one (pt_cmpR op_ne (pv 4) (pv 3) (nomark _)))
                (fun _ _ _ _ _ => pe_tup (pa_cons (pv 4) (pa_cons (pe_dget hu (pv 2) (pv 4) (fun _ _ => rfl)) pa_nil))))) pa_nil)))) pss_nil))))))
      (pss_one (ps_ret (pv 2))))), ?_⟩
    obtain ⟨t1, ty1, kit1⟩ := isiD K h2
    refine ⟨v2, rfl, v2, .ty "dict", t1, _, _, rfl, .ty _, ty1, kit1, _, rfl, ?_⟩
    have atom_way : p.isOb = false → (∀ e, D.app e p = p) → tCall (spCopied G (n + 1)) [] E0 (tCons (tVar 1) tNil) (start nLAfter [v1, v2]) H Q := fun _ e2 =>
      ⟨v2, rfl, S2, v2, p, rfl, h2, fun r H' ex hr' => k r H' ex (by rw [e2]; exact hr')⟩
    refine h2.cases (fun m _ _ e => ?_) (fun m a xs _ _ _ _ _ e => ?_) (fun m a2 ms2 g em ev hS2 r2 M2 e => ?_)
    · subst e
      exact iteT (atom_way rfl fun _ => rfl)
    · subst e
      exact iteT (atom_way rfl fun _ => rfl)
    subst e; subst ev; cases em
    refine iteF ?_
    refine t_dictcopy (n := n) rfl h1 fun a1 ms1 H1 ex1 r1 n1 M1 => ?_
    have M2a := M2.alloc
    have na12 : a2 ≠ a1 := ne_of_none r2 n1
    have hS2' : (fun x => S2 x ∧ H x ≠ none) a2 := ⟨hS2, by rw [r2]; exact fun y => nomatch y⟩
    refine ⟨a2, _, ex1 a2 _ r2, trivial, fun od2 => ?_⟩
    have N2 : Mem (fun x => S2 x ∧ H x ≠ none) G (upd H a2 (.frz od2 (.dK (kvsOf ms2)))) n ms2 g := M2a.lock r2 hS2'
    refine ⟨_, rfl, a2, od2, rfl, .inl ⟨_, upd_same, ?_⟩⟩
    refine for_keys (o := od2) (d := a2) (ms := ms2) (fun i σ H5 => ∃ Fa ms5 f5, (∃ v3 v4, σ = [some v1, some (.ref a2), some (.ref Fa), v3, v4]) ∧ H Fa = none ∧ Ex (upd H a2 (.frz od2 (.dK (kvsOf ms2)))) H5 ∧ H5 Fa = some (.dK (kvsOf ms5)) ∧ Mem (fun b => H b = none ∧ b ≠ Fa) G H5 n ms5 f5 ∧
      f5 = mix ms2 i (fun k => if (g k).isNil then d.tgt k else if (g k).isNon then .nil else D.app (d.tgt k) (g k)) d.tgt) ?_ ?_ ?_ ?_
    · exact ⟨a1, ms1, _, ⟨_, _, rfl⟩, n1, TP.Ex.both ex1, by rw [upd_ne na12.symm]; exact r1, M1.off (fun z => by rw [z.1] at r2; cases r2), mix_zero.symm⟩
    · exact fun i σ H5 _ ⟨_, _, _, _, _, ex, _⟩ => ex a2 _ upd_same
    · rintro i key u σ H5 hi ⟨Fa, ms5, f5, ⟨v3, v4, rfl⟩, nF, ex, h5, M5, hf⟩
      have hku : valV ms2 key = some u := valV_of_mem M2.nd (List.mem_of_getElem? hi)
      have hk : key ∈ ms2.map (·.1) := List.mem_map.mpr ⟨_, List.mem_of_getElem? hi, rfl⟩
      have hu2 := (N2.at' key u hku).ex ex
      have l2 : Rd H5 a2 (.dK (kvsOf ms2)) := .inr ⟨od2, ex a2 _ upd_same⟩
      have l5 : Rd H5 Fa (.dK (kvsOf ms5)) := .inl h5
      have nFl : (upd H a2 (.frz od2 (.dK (kvsOf ms2)))) Fa = none := by rw [upd_ne (ne_of_none r2 nF).symm]; exact nF
      have fk : f5 key = d.tgt key := by rw [hf]; exact mix_new M2.nd hi
      refine ⟨.ref a2, rfl, .str key, rfl, a2, u, rfl, .inl ⟨_, Sum.inr key, l2, rfl, by rw [valV_inK]; exact hku.symm⟩, rfl, _, rfl, ?_⟩
      have nn := hu2.ne_nil
      have nd := hu2.non
      by_cases c : u = .non
      · subst c
        refine iteF ?_
        have ak : (if (g key).isNil = true then d.tgt key else if (g key).isNon = true then D.nil else D.app (d.tgt key) (g key)) = D.nil := by
          rw [nn, nd]
          rfl
        refine ⟨.str key, rfl, .ref Fa, rfl, Fa, valV ms5 key, rfl, .inl ⟨_, Sum.inr key, l5, rfl, (valV_inK ms5 key).symm⟩, _, rfl, ?_⟩
        cases e : valV ms5 key with
        | none =>
          refine iteF ⟨Fa, ms5, f5, ⟨_, _, rfl⟩, nF, ex, h5, M5, hf.trans (mix_skip hi ?_)⟩
          rw [ak, ← fk, M5.no key e]
        | some t5 =>
          refine iteT ⟨Fa, _, h5, trivial, fun od5 => ⟨_, rfl, Fa, od5, rfl, .inl ⟨_, upd_same, fun Db hD => ?_⟩⟩⟩
          have hDF : Db ≠ Fa := fun z => by rw [z, upd_same] at hD; cases hD
          have hD5 : H5 Db = none := by rw [upd_ne hDF] at hD; exact hD
          have hml := M5.len
          refine lc_keys (o := od5) (d := Fa) (ms := ms5) (fun j H6 => Ex (upd H5 Fa (.frz od5 (.dK (kvsOf ms5)))) H6 ∧ ∃ ps, H6 Db = some (.lst (ps.map V.ref)) ∧ ps.length ≤ j ∧ PairsAt H6 ps ((ms5.take j).filter fun p => decide (p.1 ≠ key)) ∧ ∀ p ∈ ps, p ≠ Db ∧ p ≠ Fa) ?_ ?_ ?_ ?_
          · exact ⟨Ex.new hD, [], upd_same, Nat.le_refl _, .nil, fun p hp => nomatch hp⟩
          · exact fun i H2 _ q => q.1 Fa _ upd_same
          · rintro j ok u6 H6 hj ⟨e6, ps, h6, hl, hps, hne⟩
            have hok : valV ms5 ok = some u6 := valV_of_mem M5.nd (List.mem_of_getElem? hj)
            refine ⟨rfl, .str ok, rfl, .str key, rfl, rfl, _, rfl, ?_⟩
            by_cases c : ok = key
            · subst c
              refine ifF (by simp) ⟨e6, ps, h6, by omega, ?_, hne⟩
              rw [List.take_add_one, hj, Option.toList_some, List.filter_append]
              simpa using hps
            · have c' : ¬ V.str ok = V.str key := fun z => c (by injection z)
              refine ifT (by simp [c']) ⟨.str ok, rfl, .ref Fa, rfl, .str ok, rfl, Fa, u6, rfl, .inl ⟨_, Sum.inr ok, .inr ⟨od5, e6 Fa _ upd_same⟩, rfl, by rw [valV_inK]; exact hok.symm⟩, (by show 2 ≤ sizeLine; decide), fun p hp => ?_⟩
              have npD : p ≠ Db := (ne_of_none h6 hp).symm
              have npF : p ≠ Fa := (ne_of_none (e6 Fa _ upd_same) hp).symm
              refine ⟨ps.map V.ref, by rw [upd_ne npD.symm]; exact h6, ?_, Ex.mut (e6.trans (Ex.new hp)) hD, ps ++ [p], ?_, ?_, ?_, ?_⟩
              · have := (List.getElem?_eq_some_iff.mp hj).1
                rw [List.length_map]
                exact Nat.lt_of_le_of_lt (show _ ≤ 5000 by omega) (by decide)
              · rw [upd_same, List.map_append]; rfl
              · rw [List.length_append]; show ps.length + 1 ≤ j + 1; omega
              · rw [List.take_add_one, hj, Option.toList_some, List.filter_append]
                rw [show List.filter (fun p => decide (p.1 ≠ key)) [(ok, u6)] = [(ok, u6)] by simp [c]]
                refine Paired.snoc (pairs_map hps fun q m hq hqm => ?_) ?_
                · rw [upd_ne (hne q hq).1]
                  exact Ex.new hp q _ hqm
                · show (upd _ Db _) p = _
                  rw [upd_ne npD, upd_same]
              · intro q hq
                rcases List.mem_append.mp hq with hq | hq
                · exact hne q hq
                · rw [List.mem_singleton.mp hq]; exact ⟨npD, npF⟩
          rintro H6 ⟨e6, ps, h6, hl, hps, hne⟩
          refine ⟨e6 Fa _ upd_same, ?_⟩
          have ex' : Ex H5 (upd H6 Fa (.dK (kvsOf ms5))) := ex_unlock h5 e6
          rw [List.take_length] at hps
          have MF := M5.drop key
          refine ⟨Db, ps, kvsOf (ms5.filter fun p => decide (p.1 ≠ key)), rfl, .inl (.inl (by rw [upd_ne hDF]; exact h6)), PairsAt.toK (pairs_map hps fun p m hp hpm => by rw [upd_ne (hne p hp).2]; exact hpm), fun Fb hF => ?_⟩
          rw [show mergeK [] (kvsOf (ms5.filter fun p => decide (p.1 ≠ key))) = kvsOf (ms5.filter fun p => decide (p.1 ≠ key)) from merge_nodup _ [] (by simpa using MF.nd)]
          have nFb5 : H5 Fb = none := fresh_back ex' hF
          have nFb : H Fb = none := by
            have q := fresh_back ex nFb5
            by_cases zz : Fb = a2
            · rw [zz, upd_same] at q; cases q
            · rwa [upd_ne zz] at q
          refine ⟨Fb, _, _, ⟨_, _, rfl⟩, nFb, (ex.trans ex').trans (Ex.new hF), upd_same, ((MF.alloc.ex ex').ex (Ex.new hF)).imp fun b hb => ⟨hb.1.1, fun z => hb.2 (by rw [z]; exact nFb5)⟩, ?_⟩
          rw [hf, ← mix_succ hi, ak]
      · refine ifT (by simp [c]) ?_
        refine ⟨.ref Fa, rfl, Fa, rfl, .inl ⟨_, l5⟩, .str key, rfl, valV ms5 key, .inl ⟨_, Sum.inr key, l5, rfl, (valV_inK ms5 key).symm⟩, .ref a2, rfl, .str key, rfl, a2, u, rfl, .inl ⟨_, Sum.inr key, l2, rfl, by rw [valV_inK]; exact hku.symm⟩, ?_⟩
        have dt : ∃ e, Dc (fun b => H b = none ∧ b ≠ Fa) G H5 n ((valV ms5 key).getD .non) e ∧ e.tgt = (d.tgt key).tgt := by
          rw [← fk]
          cases e : valV ms5 key with
          | some t => exact ⟨_, M5.at' key t e, rfl⟩
          | none =>
            cases n with
            | zero => exact (show False from hu2).elim
            | succ m => exact ⟨.sc .non, Dc.sc hN, by rw [M5.no key e]; rfl⟩
        obtain ⟨e, he, het⟩ := dt
        refine ⟨_, _, _, u, e, g key, rfl, he, hu2, (fun x hx hx2 => hx2.2 hx.1), fun z H6 ex6 hz => ?_⟩
        have h6 := ex6 Fa _ h5
        have M6 := M5.ex ex6
        have nz : Dc (fun b => H b = none ∧ b ≠ Fa) G H6 n z (D.app (d.tgt key) (g key)) := by
          rw [← app_tgt het]
          refine hz.imp fun b hb => ?_
          have q := fresh_back ex hb
          by_cases zz : b = a2
          · rw [zz, upd_same] at q; cases q
          · rw [upd_ne zz] at q
            exact ⟨q, (ne_of_none h5 hb).symm⟩
        refine ⟨.ref Fa, rfl, .str key, rfl, Fa, _, rfl, DPut.k (k := Sum.inr key) h6 (sizeK hG M6), Fa, putK ms5 key z, D.fup f5 key (D.app (d.tgt key) (g key)), ⟨_, _, rfl⟩, nF, Ex.mut (ex.trans ex6) nFl, by rw [upd_same, putK_inK], ?_, ?_⟩
        · exact (M6.put (M2.ks key hk) nz).off fun z => z.2 rfl
        · have z := mix_succ (f := fun k => if (g k).isNil then d.tgt k else if (g k).isNon then .nil else D.app (d.tgt k) (g k)) (g := d.tgt) hi
          simp only [nn, nd, c, decide_false, Bool.false_eq_true, if_false] at z
          rw [hf]
          exact z
    · rintro σ H5 ⟨Fa, ms5, f5, ⟨v3, v4, rfl⟩, nF, ex, h5, M5, hf⟩
      refine ⟨ex a2 _ upd_same, .ref Fa, rfl, ?_⟩
      refine k _ _ (ex_unlock r2 ex) ?_
      have e : f5 = fun k => if (g k).isNil then d.tgt k else if (g k).isNon then .nil else D.app (d.tgt k) (g k) := by
        rw [hf]
        refine mix_all fun k hk => ?_
        rw [M2.no k (valV_none_of hk)]
        rfl
      rw [app_ob, ← e]
      exact Dc.ob nF (by rw [upd_ne (ne_of_none r2 nF).symm]; exact h5) ((M5.imp fun b hb => hb.1).off fun z => by rw [show H a2 = none from z] at r2; cases r2)
/-! ### _law_turned -/
def spTurned (G : Gen) (n : Nat) : Sp := fun vs H Q _ => ∃ (S : Addr → Prop) (v : V) (d : D), vs = [v] ∧ Dc S G H n v d ∧ ∀ r H', Ex H H' → Dc (fun x => S x ∨ H x = none) G H' n r d → Q r H'
theorem scLTurned : FnScope ["_law_value", "_law_key"] ["_law_value"] (defScope sLTurned) := ⟨rfl, rfl, rfl, by decide +kernel, rfl, by decide +kernel, by decide +kernel⟩
theorem ok_turned {f : Addr} {fd : FuncData} (Dd : Df K mg "_law_turned" sLTurned ["_law_value"] f fd) (T : Bi mg) {G : Gen} (hG : G.KS.length ≤ 5000) : ∀ n, FnOk P w K mg base CX0 n f fd ["_law_value"] (spTurned G n)
  | 0 => fn_zero fun vs H Q E ⟨_, _, _, _, h, _⟩ => h
  | n + 1 => by
    have ih := ok_turned Dd T hG n
    refine Dd.F.ok scLTurned (fun vs H Q E h => ?_) (fun cdv A outer s H vs Q E hr h => ?_)
    · obtain ⟨_, v, d, rfl, _⟩ := h
      rfl
    obtain ⟨S, v, d, rfl, hv, k⟩ := h
    have hu := hu_of hr
    refine ⟨_, pss_cons (ps_if (pt_val (pe_callB call_isi (by rfl) (T.of "isinstance") (by decide +kernel) (pa_cons (pv 0) (pa_cons (pe_bltn (v := .ty "dict") (by rfl) (T.of "dict") (by decide +kernel) rfl) pa_nil))))
        (pss_one (ps_ret (pe_callTy (call_dictP rfl) (by rfl) (T.of "dict") (by decide +kernel) (pa_cons (pe_lc (own := [("_law_key", 1)]) (g := gName 1) (tt := tYes) rfl scLTurned.nd (pi_list (pe_revL (pe_callTy (call_listD rfl) (by rfl) (T.of "list") (by decide +kernel) (pa_cons (pv 0) pa_nil)))) (blkOk_by (N := ["_law_value", "_law_key"]) (sc := defScope sLTurned) (by decide +kernel))
          (fun _ _ _ _ _ => pg_name (i := 1) scLTurned.nd rfl (Or.inl rfl)) (fun _ _ _ _ _ => pts_nil)
          (fun _ _ _ _ _ => pe_tup (pa_cons (pv 1) (pa_cons (pe_call ih hr rfl Dd.m Dd.F.kp Dd.b .nil pass0 (pa_cons (pe_dget hu (pv 0) (pv 1) (fun _ _ => rfl)) pa_nil)) pa_nil)))) pa_nil)))) pss_nil)
      (pss_one (ps_ret (pv 0))), ?_⟩
    obtain ⟨t1, ty1, kit1⟩ := isiD K hv
    refine ⟨v, rfl, v, .ty "dict", t1, _, _, rfl, .ty _, ty1, kit1, _, rfl, ?_⟩
    refine hv.cases (fun m e hs ed => ?_) (fun m a xs e ev hS r hx ed => ?_) (fun m a ms f e ev hS r M ed => ?_)
    · subst ed
      exact iteF ⟨v, rfl, k v H (Ex.refl H) (hv.imp fun x hx => .inl hx)⟩
    · subst ed; subst ev
      exact iteF ⟨_, rfl, k _ H (Ex.refl H) (hv.imp fun x hx => .inl hx)⟩
    subst ed; subst ev; cases e
    refine iteT ⟨_, rfl, a, kvsOf ms, rfl, .inl r, fun L hL => ⟨L, _, rfl, .inl (.inl upd_same), fun R hR => ⟨R, rfl, ⟨_, .inl (.inl upd_same)⟩, fun Da hD => ?_⟩⟩⟩
    rw [keys_inK]
    have exL : Ex H (upd (upd H L (.lst (ms.map fun p => V.str p.1))) R (.lst (ms.map fun p => V.str p.1).reverse)) := (Ex.new hL).trans (by rw [keys_inK] at hR; exact Ex.new hR)
    have e1 : (ms.map fun p => V.str p.1).reverse = (ms.reverse.map fun p => V.str p.1) := List.map_reverse.symm
    rw [keys_inK] at hD
    rw [e1] at hD exL ⊢
    have nd : (ms.reverse.map (·.1)).Nodup := by rw [List.map_reverse]; exact ((List.reverse_perm _).nodup_iff).mpr M.nd
    have hml := M.len
    generalize hH1 : upd (upd H L (.lst (ms.map fun p => V.str p.1))) R (.lst (ms.reverse.map fun p => V.str p.1)) = H1 at hD exL
    have lR : H1 R = some (.lst (ms.reverse.map fun p => V.str p.1)) := by rw [← hH1, upd_same]
    have hDH : H Da = none := fresh_back exL hD
    refine lc_list (K := K) (a := R) (xs := ms.reverse.map fun p => V.str p.1) (fun i H2 => Ex H1 H2 ∧ ∃ ps ms3, H2 Da = some (.lst (ps.map V.ref)) ∧ ps.length = i ∧ PairsAt H2 ps ms3 ∧ (∀ p ∈ ps, p ≠ Da) ∧ Mem (fun b => (S b ∧ H b ≠ none) ∨ (H b = none ∧ b ≠ Da)) G H2 n ms3 (mix ms.reverse i f fun _ => .nil) ∧ ms3.map (·.1) = (ms.reverse.take i).map (·.1)) ?_ ?_ ?_ ?_
    · exact ⟨Ex.new hD, [], [], upd_same, rfl, .nil, fun p hp => (nomatch hp), by rw [mix_zero]; exact Mem.nil, rfl⟩
    · exact fun i H2 _ q => .inl (.inl (q.1 R _ lR))
    · rintro i x H2 hi ⟨ex, ps, ms3, h2, hl, hps, hne, M2, hk⟩
      obtain ⟨⟨key, u⟩, hi', rfl⟩ : ∃ p : Str × V, ms.reverse[i]? = some p ∧ x = .str p.1 := by
        rw [List.getElem?_map] at hi
        obtain ⟨p, h1, h2⟩ := Option.map_eq_some_iff.mp hi
        exact ⟨p, h1, h2.symm⟩
      have hku : valV ms key = some u := valV_of_mem M.nd (List.mem_reverse.mp (List.mem_of_getElem? hi'))
      have exH2 : Ex H H2 := exL.trans ex
      refine ⟨rfl, t_yes ?_⟩
      refine ⟨.str key, rfl, .ref a, rfl, .str key, rfl, a, u, rfl, .inl ⟨_, Sum.inr key, .inl (exH2 a _ r), rfl, by rw [valV_inK]; exact hku.symm⟩, (fun b => S b ∧ H b ≠ none), u, f key, rfl, ((M.at' key u hku).alloc).ex exH2, fun z H5 e5 hz => ⟨(by show 2 ≤ sizeLine; decide), fun p hp => ?_⟩⟩
      have h5 := e5 Da _ h2
      have nz : Dc (fun b => (S b ∧ H b ≠ none) ∨ (H b = none ∧ b ≠ Da)) G H5 n z (f key) := hz.imp fun b hb => hb.imp id fun q => ⟨fresh_back exH2 q, (ne_of_none h2 q).symm⟩
      have npD : p ≠ Da := (ne_of_none h5 hp).symm
      have new : valV ms3 key = none := valV_none_of (by rw [hk]; exact not_taken nd hi')
      have e6 : Ex H2 (upd H5 p (.tup [.str key, z])) := e5.trans (Ex.new hp)
      refine ⟨ps.map V.ref, by rw [upd_ne npD.symm]; exact h5, ?_, Ex.mut (ex.trans e6) hD, ps ++ [p], ms3 ++ [(key, z)], ?_, ?_, ?_, ?_, ?_, ?_⟩
      · have := (List.getElem?_eq_some_iff.mp hi').1
        rw [List.length_reverse] at this
        rw [List.length_map, hl]
        exact Nat.lt_of_le_of_lt (show i ≤ 5000 by omega) (by decide)
      · rw [upd_same, List.map_append]; rfl
      · rw [List.length_append, hl]; rfl
      · refine Paired.snoc (pairs_map hps fun q m hq hqm => ?_) ?_
        · rw [upd_ne (hne q hq)]
          exact e6 q _ hqm
        · show (upd _ Da _) p = _
          rw [upd_ne npD, upd_same]
      · intro q hq
        rcases List.mem_append.mp hq with hq | hq
        · exact hne q hq
        · rw [List.mem_singleton.mp hq]; exact npD
      · rw [← mix_succ hi', ← putK_new z new]
        exact (((M2.ex e5).put (M.ks key (List.mem_map.mpr ⟨_, valV_mem hku, rfl⟩)) nz).ex (Ex.new hp)).off fun z => z.elim (fun y => y.2 hDH) fun y => y.2 rfl
      · rw [List.map_append, hk, List.take_add_one, hi']
        simp
    rintro H2 ⟨ex, ps, ms3, h2, hl, hps, hne, M2, hk⟩
    refine ⟨Da, ps, kvsOf ms3, rfl, .inl (.inl h2), PairsAt.toK hps, fun Fa hF => ?_⟩
    rw [List.length_map] at M2
    rw [mix_all fun k hk => M.no k (valV_none_of (by rwa [List.map_reverse, List.mem_reverse] at hk))] at M2
    rw [show mergeK [] (kvsOf ms3) = kvsOf ms3 from merge_nodup ms3 [] (by simpa using M2.nd)]
    exact k _ _ ((exL.trans ex).trans (Ex.new hF)) (Dc.ob (.inr (fresh_back (exL.trans ex) hF)) upd_same ((M2.imp fun b hb => hb.imp (fun y => y.1) fun y => y.1).ex (Ex.new hF)))
end
end TP

namespace TP
open PySem PySem.Spec PyProof.Rows L2 Evl
abbrev sLDeep : Stmt := topS 25
abbrev sLSpoil : Stmt := topS 27
/-! ### repr of a drawn document -/
def TL : Nat → Nat
  | 0 => 0
  | n + 1 => 64 + 3 * (TL n + 20)
theorem piled_app (t : Str) (ts : List Str) : piled (t :: ts) = t.length + 2 + piled ts := by
  simp [piled]
theorem listText_le (ts : List Str) : (listText ts).length ≤ 2 + piled ts := by
  unfold listText
  rw [strLen_append]
  cases ts with
  | nil =>
    show 1 + 1 ≤ 2 + piled []
    omega
  | cons t ts =>
    show (textFrom 1 (("[" : Str) ++ ("" : String) ++ t) ts).length + 1 ≤ _
    rw [textFrom_length_pos _ _ _ (by omega), piled_app, strLen_append, strLen_append]
    show 1 + 0 + t.length + piled ts + 1 ≤ _
    omega
theorem dictText_le (ts : List Str) : (dictText ts).length ≤ 2 + piled ts := by
  unfold dictText
  rw [strLen_append, strLen_append]
  by_cases h : ts = []
  · subst h
    show 1 + 0 + 1 ≤ _
    omega
  · have := join_length_add ts h
    show 1 + (Str.join ", " ts).length + 1 ≤ _
    omega
theorem c4_cases {v : V} (h : g4.C v = true) : v = .non ∨ v = .int 0 ∨ v = .int 1 ∨ v = .int 2 ∨ v = .int (-7) ∨ v = .int 5 ∨ v = .str "a" ∨ v = .str "b" ∨ v = .str "" := by
  have h := of_decide_eq_true h
  simpa only [c4, List.mem_cons, List.not_mem_nil, or_false] using h
def scPd : V → PyData
  | .int i => .int i
  | .str x => .str x
  | _ => .none
theorem sc_pd {v : V} (H : Hp) (h : g4.C v = true) : Pd H v (scPd v) ∧ (scPd v).showable = true ∧ (scPd v).shown.length ≤ 16 ∧ (scPd v).depth = 0 := by
  rcases c4_cases h with rfl | rfl | rfl | rfl | rfl | rfl | rfl | rfl | rfl
  · exact ⟨.non, by decide +kernel, by decide +kernel, by simp [scPd, PyData.depth]⟩
  · exact ⟨.int _, by decide +kernel, by decide +kernel, by simp [scPd, PyData.depth]⟩
  · exact ⟨.int _, by decide +kernel, by decide +kernel, by simp [scPd, PyData.depth]⟩
  · exact ⟨.int _, by decide +kernel, by decide +kernel, by simp [scPd, PyData.depth]⟩
  · exact ⟨.int _, by decide +kernel, by decide +kernel, by simp [scPd, PyData.depth]⟩
  · exact ⟨.int _, by decide +kernel, by decide +kernel, by simp [scPd, PyData.depth]⟩
  · exact ⟨.str _, by decide +kernel, by decide +kernel, by simp [scPd, PyData.depth]⟩
  · exact ⟨.str _, by decide +kernel, by decide +kernel, by simp [scPd, PyData.depth]⟩
  · exact ⟨.str _, by decide +kernel, by decide +kernel, by simp [scPd, PyData.depth]⟩
theorem all_pd (H : Hp) : ∀ {xs : List V}, (∀ x ∈ xs, g4.C x = true) → PdAll H xs (xs.map scPd) ∧ PyData.showableAll (xs.map scPd) = true ∧ piled (PyData.shownAll (xs.map scPd)) ≤ 18 * xs.length ∧ PyData.depthAll (xs.map scPd) = 0
  | [], _ => ⟨.nil, by simp [PyData.showableAll], by simp [PyData.shownAll, piled], by simp [PyData.depthAll]⟩
  | x :: xs, h => by
    obtain ⟨a1, a2, a3, a4⟩ := sc_pd H (h x List.mem_cons_self)
    obtain ⟨b1, b2, b3, b4⟩ := all_pd H (xs := xs) fun y hy => h y (List.mem_cons_of_mem _ hy)
    refine ⟨.cons a1 b1, by simp [PyData.showableAll, a2, b2], ?_, by simp [PyData.depthAll, a4, b4]⟩
    simp only [List.map_cons, PyData.shownAll, piled_app, List.length_cons]
    omega
theorem mem_pd {H : Hp} {n t : Nat} (ht : ∀ k ∈ g4.KS, (reprText k).length ≤ 16) : ∀ {ms : List (Str × V)}, (∀ k ∈ ms.map (·.1), k ∈ g4.KS) → (∀ p ∈ ms, ∃ e, Pd H p.2 e ∧ e.showable = true ∧ e.shown.length ≤ t ∧ e.depth ≤ n) →
    ∃ ds, PdAll H (ms.map (·.2)) ds ∧ PyData.showableKv ((ms.map fun p => PyData.str p.1).zip ds) = true ∧ piled (PyData.shownKv ((ms.map fun p => PyData.str p.1).zip ds)) ≤ ms.length * (t + 20) ∧ PyData.depthKv ((ms.map fun p => PyData.str p.1).zip ds) ≤ n
  | [], _, _ => ⟨[], .nil, by simp [PyData.showableKv], by simp [PyData.shownKv, piled], by simp [PyData.depthKv]⟩
  | p :: ms, hk, h => by
    obtain ⟨e, a1, a2, a3, a4⟩ := h p List.mem_cons_self
    obtain ⟨ds, b1, b2, b3, b4⟩ := mem_pd ht (ms := ms) (fun k z => hk k (List.mem_cons_of_mem _ z)) fun q hq => h q (List.mem_cons_of_mem _ hq)
    have hl := ht p.1 (hk p.1 List.mem_cons_self)
    refine ⟨e :: ds, .cons a1 b1, ?_, ?_, ?_⟩
    · simp [PyData.showableKv, PyData.showable, a2, b2]
    · simp only [List.map_cons, List.zip_cons_cons, PyData.shownKv, piled_app, List.length_cons, strLen_append, PyData.shown]
      rw [Nat.succ_mul]
      show (reprText p.1).length + 2 + e.shown.length + 2 + _ ≤ _
      omega
    · simp only [List.map_cons, List.zip_cons_cons, PyData.depthKv, PyData.depth]
      omega
theorem pd_of {S : Addr → Prop} {H : Hp} (hS : ∀ x, S x → x ≠ sysModules) : ∀ {n : Nat} {v : V} {d : D}, Dc S g4 H n v d → ∃ e, Pd H v e ∧ e.showable = true ∧ e.shown.length ≤ TL n ∧ e.depth ≤ n
  | 0, _, _, h => (show False from h).elim
  | n + 1, v, d, h => by
    rcases h with ⟨hv, _⟩ | ⟨a, xs, rfl, hs, r, hx, _⟩ | ⟨a, ms, f, rfl, hs, r, nd, ks, _, no, at'⟩
    · obtain ⟨a1, a2, a3, a4⟩ := sc_pd H hv
      exact ⟨_, a1, a2, by show _ ≤ 64 + 3 * (TL n + 20); omega, by omega⟩
    · obtain ⟨b1, b2, b3, b4⟩ := all_pd H hx.2
      have hl : xs.length ≤ 2 := hx.1
      refine ⟨.list (xs.map scPd), .lst (hS a hs) (.inl r) b1, by simpa [PyData.showable] using b2, ?_, by simp [PyData.depth, b4]⟩
      have := listText_le (PyData.shownAll (xs.map scPd))
      simp only [PyData.shown]
      show _ ≤ 64 + 3 * (TL n + 20)
      omega
    · obtain ⟨ds, b1, b2, b3, b4⟩ := mem_pd (H := H) (n := n) (t := TL n) (by decide +kernel) (ms := ms) ks fun p hp => pd_of hS (at' p.1 p.2 (valV_of_mem nd hp))
      have hl : ms.length ≤ 3 := by
        have := sub_len nd ks
        rwa [List.length_map] at this
      refine ⟨_, .dct (.inl r) b1, by simpa [PyData.showable] using b2, ?_, by simp only [PyData.depth]; omega⟩
      have := dictText_le (PyData.shownKv ((ms.map fun p => PyData.str p.1).zip ds))
      simp only [PyData.shown]
      show _ ≤ 64 + 3 * (TL n + 20)
      have h3 : ms.length * (TL n + 20) ≤ 3 * (TL n + 20) := Nat.mul_le_mul_right _ hl
      omega
theorem TL9 : TL 9 ≤ sizeLine := by decide +kernel
theorem TL_mono : ∀ {n m : Nat}, n ≤ m → TL n ≤ TL m
  | 0, _, _ => Nat.zero_le _
  | n + 1, 0, h => absurd h (by omega)
  | n + 1, m + 1, h => by
    have := TL_mono (show n ≤ m by omega)
    show 64 + 3 * (TL n + 20) ≤ 64 + 3 * (TL m + 20)
    omega
/-- a pair of texts compared with one that holds the same -/
def rNeTup (K : PySem.W.Frag) : R2 := fun x y H Q => ∃ p q xs, x = .ref p ∧ y = .ref q ∧ SqT K H p xs ∧ SqT K H q xs ∧ (∀ z ∈ xs, isSc z = true) ∧ Q (.bl false) H
theorem op_neTup {X : Cx} (hu : X.A.units + 64 < cLine) : OpR X (compareOp .NotEq) (rNeTup X.K) := by
  intro pins s σ H x y v u Q I rx ry h
  obtain ⟨p, q, xs, rfl, rfl, hp, hq, hx, qq⟩ := h
  cases (show v = Value.ref p from rx)
  cases (show u = Value.ref q from ry)
  obtain ⟨us, r1, p1, _⟩ := I.tuple hp
  obtain ⟨ws, r2, p2, _⟩ := I.tuple hq
  have e : us.toArray.size = ws.toArray.size := by rw [List.size_toArray, List.size_toArray, ← r1.length, ← r2.length]
  refine SeqAt.RcNeAt.tuples (e := fun _ => true) p1 p2 (by omega) (fun j h1 h2 => ?_) _ _ _ _ ?_
  · simpa using items_at (C := isSc) (fun _ z => z) (A := X.A.in1) (s := s) hx r1 r2 j (by simpa using h1) (by simpa using h2)
  · rw [show ((List.range (min us.toArray.size ws.toArray.size)).all fun _ => true) = true from List.all_eq_true.mpr fun _ _ => rfl, e]
    exact ⟨.bl false, H, I, by simp [L2.RelV], qq⟩
section
variable {P : Program} {w : World} {K : PySem.W.Frag} {mg : Str → Option Value} {base : Heap}
/-! ### _law_deep -/
def spDeep : Sp := fun vs H Q _ => ∃ (a : Addr) (S : Addr → Prop) (v0 : V) (d0 : D), vs = [.ref a, v0] ∧ StAt H a ∧ ¬ S a ∧ Dn S H 1 1 0 v0 d0 ∧ ∀ v d H', Mv a H H' → Dn (fun x => S x ∨ Sl H x) H' 9 17 8 v d → Q v H'
abbrev nDeep : List Str := ["_law_s", "_law_inner", "_law_found", "_law_turn", "_law_more"]
theorem scDeep : FnScope nDeep ["_law_s", "_law_inner"] (defScope sLDeep) := ⟨rfl, rfl, rfl, by decide +kernel, rfl, by decide +kernel, by decide +kernel⟩
theorem pd_one {key : Str} {d dc : D} {p : Nat} (hk : key ≠ "c") (h1 : PD d p) (h2 : PD dc 1) : PD (.ob (D.fup (D.fup (fun _ => .nil) key d) "c" dc)) (p + 2) := by
  refine ⟨[key, "c"], fun k => if k = key then p else 1, fun k hk' => ?_, fun k => ?_, ?_⟩
  · unfold D.fup at hk'
    by_cases a : k = "c"
    · simp [a]
    · rw [if_neg a] at hk'
      by_cases b : k = key
      · simp [b]
      · rw [if_neg b] at hk'
        cases hk'
  · unfold D.fup
    by_cases a : k = "c"
    · subst a
      rw [if_pos rfl]
      show PD dc (if ("c" : Str) = key then p else 1)
      rw [if_neg hk.symm]
      exact h2
    · rw [if_neg a]
      by_cases b : k = key
      · rw [if_pos b]
        show PD d (if k = key then p else 1)
        rw [if_pos b]; exact h1
      · rw [if_neg b]; trivial
  · simp [hk.symm]
    omega
theorem pd_only {key : Str} {d : D} {p : Nat} (h1 : PD d p) : PD (.ob (D.fup (fun _ => .nil) key d)) (p + 2) := by
  refine ⟨[key], fun _ => p, fun k hk' => ?_, fun k => ?_, ?_⟩
  · unfold D.fup at hk'
    by_cases b : k = key
    · simp [b]
    · rw [if_neg b] at hk'
      cases hk'
  · unfold D.fup
    by_cases b : k = key
    · rw [if_pos b]; exact h1
    · rw [if_neg b]; trivial
  · simp
    omega
theorem ok_deep {f fg fa : Addr} {fd fdg fda : FuncData} (Dd : Df K mg "_law_deep" sLDeep ["_law_s", "_law_inner"] f fd) (Dg : Df K mg "_law_digit" sDigit ["_law_state_here", "_law_base"] fg fdg) (Da' : Df K mg "_law_atom" sAtom' ["_law_s"] fa fda) (T : Bi mg) : FnOk P w K mg base CX0 3 f fd ["_law_s", "_law_inner"] spDeep := by
  have gg : FnOk P w K mg base CX0 2 fg fdg ["_law_state_here", "_law_base"] spDigit := (ok_digit Dg).mono (by omega)
  have ga : FnOk P w K mg base CX0 2 fa fda ["_law_s"] spAtm := ok_atm Da' Dg
  refine Dd.F.ok scDeep (fun vs H Q E h => ?_) (fun cdv A outer s H vs Q E hr h => ?_)
  · obtain ⟨a, _, v0, _, rfl, _⟩ := h
    rfl
  obtain ⟨a, S, v0, d0, rfl, sa, nS, dn0, k⟩ := h
  have hu := hu_of hr
  refine ⟨_, pss_cons (ps_set (i := 2) scDeep.nd rfl (Or.inl rfl) (pv 1))
    (pss_cons (ps_for PassesOwn.never rfl (pi_range1 (by rfl) (T.of "range") (pa_cons pe_int pa_nil)) (pg_name (i := 3) scDeep.nd rfl (Or.inl rfl))
      (pss_cons (ps_set (i := 4) scDeep.nd rfl (Or.inl rfl) (pe_disp (pps_cons (pe_ix ix_list (pe_lst (pa_cons pe_str (pa_cons pe_str pa_nil))) (pe_call gg hr rfl Dg.m Dg.F.kp Dg.b .nil pass0 (pa_cons (pv 0) (pa_cons pe_int pa_nil))) (fun _ _ => rfl)) (pv 2) pps_nil) (by rfl) (by rfl) (fun z => by cases z) (by decide)))
      (pss_cons (ps_if (pt_cmpR op_eq (pe_call gg hr rfl Dg.m Dg.F.kp Dg.b .nil pass0 (pa_cons (pv 0) (pa_cons pe_int pa_nil))) pe_int (nomark _))
        (pss_one (ps_dput hu (pv 4) pe_str (pe_call ga hr rfl Da'.m Da'.F.kp Da'.b .nil pass0 (pa_cons (pv 0) pa_nil)) rfl)) pss_nil)
      (pss_one (ps_set (i := 2) scDeep.nd rfl (Or.inl rfl) (pe_know (pv 4)))))))
    (pss_one (ps_ret (pv 2)))), ?_⟩
  refine ⟨_, rfl, 8, rfl, by decide, by decide, ?_⟩
  refine for_range (lo := 0) (n := 8) (fun i σ H3 => ∃ v d, (∃ x y, σ = [some (.ref a), some v0, some v, x, y]) ∧ Mv a H H3 ∧ Dn (fun x => S x ∨ Sl H x) H3 (i + 1) (1 + 2 * i) i v d) ?_ ?_ ?_
  · exact ⟨v0, d0, ⟨_, _, rfl⟩, Mv.refl sa, dn0.imp fun x hx => .inl hx⟩
  · rintro i σ H3 hi ⟨v, d, ⟨x, y, rfl⟩, m3, dn⟩
    have nS' : ¬ (fun x => S x ∨ Sl H x) a := fun z => z.elim nS fun y => sa.ne y.1
    intro p hp
    have hpH : H p = none := m3.free sa.ne hp
    have npa : p ≠ a := fun z => sa.ne (by rw [← z]; exact hpH)
    have m4 := m3.new (o := .dK []) hp
    refine ⟨(by show 2 ≤ sizeLine; decide), fun q hq => ?_⟩
    have hqH : H q = none := m4.free sa.ne hq
    have nqa : q ≠ a := fun z => sa.ne (by rw [← z]; exact hqH)
    have nqp : q ≠ p := fun z => by rw [z, upd_same] at hq; cases hq
    have m5 := m4.new (o := .lst [.str "a", .str "b"]) hq
    refine ⟨.ref a, rfl, a, 2, rfl, m5.st, by decide, by decide, fun j H6 j0 j1 m6 same6 => ?_⟩
    have l6 : SqL K H6 q [.str "a", .str "b"] := .inl (.inl (by rw [same6 q nqa, upd_same]))
    have hj : j = 0 ∨ j = 1 := by omega
    have sel : ∃ key : Str, key ∈ g4.KS ∧ key ≠ "c" ∧ atI [V.str "a", .str "b"] j = some (.str key) := by
      rcases hj with rfl | rfl
      · exact ⟨"a", by decide +kernel, by decide +kernel, atI_nat (j := 0) rfl⟩
      · exact ⟨"b", by decide +kernel, by decide +kernel, atI_nat (j := 1) rfl⟩
    obtain ⟨key, hk, hc, at'⟩ := sel
    have h6 : H6 p = some (.dK []) := by rw [same6 p npa, upd_ne nqp.symm, upd_same]
    refine ⟨q, _, j, _, rfl, rfl, l6, at', v, rfl, h6, [(Sum.inr key, v)], rfl, (by show 1 ≤ 15; decide), ?_⟩
    have dv6 : Dn (fun x => (S x ∨ Sl H x) ∧ x ≠ p) H6 (i + 1) (1 + 2 * i) i v d := by
      have e3 : ∀ x, (fun x => (S x ∨ Sl H x) ∧ H3 x ≠ none) x → (fun x => (S x ∨ Sl H x) ∧ x ≠ p) x := fun x hx => ⟨hx.1, fun z => hx.2 (by rw [z]; exact hp)⟩
      refine ⟨?_, dn.pd, dn.dd⟩
      have := (dn.dc.alloc.imp e3)
      exact ((this.ex (Ex.new hp)).ex (Ex.new hq)).mv m6 fun z => nS' z.1
    have m7 : Mv a H (upd H6 p (.dK (mergeK [] [(Sum.inr key, v)]))) := by
      have m := m5.trans m6
      obtain ⟨x1, y1, z1, hx, r⟩ := m.st
      exact ⟨⟨x1, y1, z1, by rw [upd_ne npa.symm]; exact hx, r⟩, fun b o nb e => by rw [upd_ne (ne_of_none e hpH)]; exact m.ex b o nb e⟩
    have r7 : (upd H6 p (.dK (mergeK [] [(Sum.inr key, v)]))) p = some (.dK (kvsOf [(key, v)])) := upd_same
    have M7 : Mem (fun x => (S x ∨ Sl H x) ∧ x ≠ p) g4 (upd H6 p (.dK (mergeK [] [(Sum.inr key, v)]))) (i + 1) [(key, v)] (D.fup (fun _ => .nil) key d) := by
      have := (Mem.nil (S := fun x => (S x ∨ Sl H x) ∧ x ≠ p) (G := g4) (H := H6) (n := i + 1)).put hk dv6.dc
      exact this.off fun z => z.2 rfl
    generalize upd H6 p (.dK (mergeK [] [(Sum.inr key, v)])) = H7 at m7 r7 M7
    refine ⟨.ref a, rfl, a, 3, rfl, m7.st, by decide, by decide, fun j2 H8 j20 j21 m8 same8 => ?_⟩
    have r8 : H8 p = some (.dK (kvsOf [(key, v)])) := by rw [same8 p npa]; exact r7
    have M8 := M7.mv m8 fun z => nS' z.1
    refine ⟨rfl, _, rfl, ite2 (fun c => ?_) fun c => ?_⟩
    · refine ⟨.ref a, rfl, a, rfl, m8.st, fun va da H9 m9 dna => ?_⟩
      have r9 := m9.ex p _ npa r8
      have M9 := M8.mv m9 fun z => nS' z.1
      have mm := (m7.trans m8).trans m9
      have dva : Dc (fun x => (S x ∨ Sl H x) ∧ x ≠ p) g4 H9 (i + 1) va da := (dna.dc.imp fun x hx => ⟨.inr ⟨(m7.trans m8).free sa.ne hx.1, hx.2⟩, (ne_of_none r8 hx.1).symm⟩).lift (by omega)
      refine ⟨.ref p, rfl, p, _, rfl, DPut.k (k := Sum.inr ("c" : Str)) r9 (sizeK (by decide) M9), ?_⟩
      refine ⟨.ref p, rfl, fun know => ⟨.ref p, .ob (D.fup (D.fup (fun _ => .nil) key d) "c" da), ⟨_, _, rfl⟩, ?_, ⟨Dc.ob (.inr ⟨hpH, know p _ upd_same⟩) (by rw [upd_same, putK_inK]) (((M9.put (by decide +kernel) dva).off fun z => z.2 rfl).imp fun x hx => hx.1), ?_, ?_⟩⟩⟩
      · obtain ⟨x1, y1, z1, hx, r⟩ := mm.st
        exact ⟨⟨x1, y1, z1, by rw [upd_ne npa.symm]; exact hx, r⟩, fun b o nb e => by rw [upd_ne (ne_of_none e hpH)]; exact mm.ex b o nb e⟩
      · have := pd_one hc dn.pd dna.pd
        exact this.mono (by omega)
      · refine ⟨by omega, fun k => ?_⟩
        unfold D.fup
        split
        · exact dna.dd.mono (Nat.zero_le _)
        · split
          · exact dn.dd
          · trivial
    · refine ⟨.ref p, rfl, fun know => ⟨.ref p, .ob (D.fup (fun _ => .nil) key d), ⟨_, _, rfl⟩, m7.trans m8, ⟨Dc.ob (.inr ⟨hpH, know p _ r8⟩) r8 (M8.imp fun x hx => hx.1), ?_, ?_⟩⟩⟩
      · have := pd_only (key := key) dn.pd
        exact this.mono (by omega)
      · refine ⟨by omega, fun k => ?_⟩
        unfold D.fup
        split
        · exact dn.dd
        · trivial
  · rintro σ H3 ⟨v, d, ⟨x, y, rfl⟩, m3, dn⟩
    exact ⟨v, rfl, k v d H3 m3 dn⟩
end
end TP

namespace TP
open PySem PySem.Spec PyProof.Rows L2 Evl
/-! ### what is spoilt -/
def kSp : List Str := ["a", "b", "c", "spoilt"]
def GoodK (ms : List (Str × V)) : Prop := (ms.map (·.1)).Nodup ∧ ∀ k ∈ ms.map (·.1), k ∈ kSp
/-- what may be spoilt: it lies in T, its lists are no longer than L -/
def Tr (T : Addr → Prop) (L : Nat) (H : Hp) : Nat → V → Prop
  | 0, v => isSc v = true
  | n + 1, v => isSc v = true ∨ (∃ a xs, v = .ref a ∧ T a ∧ H a = some (.lst xs) ∧ xs.length ≤ L) ∨ ∃ a ms, v = .ref a ∧ T a ∧ H a = some (.dK (kvsOf ms)) ∧ GoodK ms ∧ ∀ k u, valV ms k = some u → Tr T L H n u
structure Stp (T : Addr → Prop) (c : Nat) (H H' : Hp) : Prop where
  out : ∀ b o, ¬ T b → H b = some o → H' b = some o
  al : ∀ b, T b → H b ≠ none → H' b ≠ none
  ls : ∀ a xs, T a → H a = some (.lst xs) → ∃ ys, H' a = some (.lst ys) ∧ ys.length ≤ xs.length + c
  dk : ∀ a ms, T a → H a = some (.dK (kvsOf ms)) → ∃ ms', H' a = some (.dK (kvsOf ms')) ∧ (GoodK ms → GoodK ms') ∧ (∀ k u, valV ms' k = some u → isSc u = true ∨ valV ms k = some u) ∧ ∀ k, valV ms' k = none → valV ms k = none
theorem Stp.refl {T c H} : Stp T c H H := ⟨fun _ _ _ h => h, fun _ _ h => h, fun a xs _ h => ⟨xs, h, by omega⟩, fun a ms _ h => ⟨ms, h, fun g => g, fun _ _ h => .inr h, fun _ h => h⟩⟩
theorem Stp.trans {T c1 c2 H H1 H2} (x : Stp T c1 H H1) (y : Stp T c2 H1 H2) : Stp T (c1 + c2) H H2 := by
  refine ⟨fun b o n h => y.out b o n (x.out b o n h), fun b t h => y.al b t (x.al b t h), fun a xs t h => ?_, fun a ms t h => ?_⟩
  · obtain ⟨ys, h1, l1⟩ := x.ls a xs t h
    obtain ⟨zs, h2, l2⟩ := y.ls a ys t h1
    exact ⟨zs, h2, by omega⟩
  · obtain ⟨m1, h1, g1, s1, n1⟩ := x.dk a ms t h
    obtain ⟨m2, h2, g2, s2, n2⟩ := y.dk a m1 t h1
    exact ⟨m2, h2, fun g => g2 (g1 g), fun k u hu => (s2 k u hu).elim .inl fun z => s1 k u z, fun k z => n1 k (n2 k z)⟩
theorem Stp.mono {T c c' H H'} (h : c ≤ c') (x : Stp T c H H') : Stp T c' H H' := ⟨x.out, x.al, fun a xs t z => let ⟨ys, h1, l1⟩ := x.ls a xs t z; ⟨ys, h1, by omega⟩, x.dk⟩
theorem Tr.of_sc {T L H v} (h : isSc v = true) : ∀ {n}, Tr T L H n v
  | 0 => h
  | _ + 1 => .inl h
theorem Tr.stp {T c H H'} (x : Stp T c H H') : ∀ {L n v}, Tr T L H n v → Tr T (L + c) H' n v
  | _, 0, _, h => h
  | L, n + 1, v, h => by
    rcases h with h | ⟨a, xs, e, t, r, l⟩ | ⟨a, ms, e, t, r, g, m⟩
    · exact .inl h
    · obtain ⟨ys, h1, l1⟩ := x.ls a xs t r
      exact .inr (.inl ⟨a, ys, e, t, h1, by omega⟩)
    · obtain ⟨m1, h1, g1, s1, _⟩ := x.dk a ms t r
      exact .inr (.inr ⟨a, m1, e, t, h1, g1 g, fun k u hu => (s1 k u hu).elim (fun z => Tr.of_sc z) fun z => (m k u z).stp x⟩)
theorem tr_of {T : Addr → Prop} {H : Hp} : ∀ {n v d}, Dc T g4 H n v d → Tr T 2 H n v
  | 0, _, _, h => (show False from h).elim
  | n + 1, v, d, h => by
    rcases h with ⟨hv, _⟩ | ⟨a, xs, e, hs, r, hx, _⟩ | ⟨a, ms, f, e, hs, r, nd, ks, _, no, at'⟩
    · exact .inl (g4.sc _ hv)
    · exact .inr (.inl ⟨a, xs, e, hs, r, hx.1⟩)
    · exact .inr (.inr ⟨a, ms, e, hs, r, ⟨nd, fun k hk => by
        have := ks k hk
        simp only [g4, kSp, List.mem_cons, List.not_mem_nil, or_false] at this ⊢
        rcases this with z | z | z <;> simp [z]⟩, fun k u hu => tr_of (at' k u hu)⟩)
def cnt : Nat → Nat
  | 0 => 0
  | n + 1 => 1 + 4 * cnt n
section
variable {P : Program} {w : World} {K : PySem.W.Frag} {mg : Str → Option Value} {base : Heap}
def spSpoil (n : Nat) : Sp := fun vs H Q _ => ∃ (T : Addr → Prop) (L : Nat) (v : V), vs = [v] ∧ (∀ a, T a → H a ≠ none) ∧ Tr T L H n v ∧ L + cnt n ≤ 10000000 ∧ ∀ H', Stp T (cnt n) H H' → Q .non H'
theorem scSpoil : FnScope ["_law_value", "_law_key"] ["_law_value"] (defScope sLSpoil) := ⟨rfl, rfl, rfl, by decide +kernel, rfl, by decide +kernel, by decide +kernel⟩
theorem ok_spoil {f : Addr} {fd : FuncData} (Dd : Df K mg "_law_spoil" sLSpoil ["_law_value"] f fd) (T' : Bi mg) : ∀ n, FnOk P w K mg base CX0 (n + 1) f fd ["_law_value"] (spSpoil n) := by
  intro n
  have ih : ∃ m, (n ≠ 0 → n = m + 1) ∧ FnOk P w K mg base CX0 n f fd ["_law_value"] (fun vs H Q E => n ≠ 0 ∧ spSpoil m vs H Q E) := by
    cases n with
    | zero => exact ⟨0, fun z => absurd rfl z, fn_zero fun vs H Q E z => z.1 rfl⟩
    | succ m => exact ⟨m, fun _ => rfl, (ok_spoil Dd T' m).imp fun vs H Q E z => z.2⟩
  obtain ⟨m', hm', ih⟩ := ih
  refine Dd.F.ok scSpoil (fun vs H Q E h => ?_) (fun cdv A outer s H vs Q E hr h => ?_)
  · obtain ⟨_, _, v, rfl, _⟩ := h
    rfl
  obtain ⟨T, L, v, rfl, al, ht, hL, k⟩ := h
  have hu := hu_of hr
  refine ⟨_, pss_one (ps_if (pt_val (pe_callB call_isi (by rfl) (T'.of "isinstance") (by decide +kernel) (pa_cons (pv 0) (pa_cons (pe_bltn (v := .ty "dict") (by rfl) (T'.of "dict") (by decide +kernel) rfl) pa_nil))))
      (pss_cons (ps_for PassesOwn.never rfl (pi_list (pe_callTy (call_listD rfl) (by rfl) (T'.of "list") (by decide +kernel) (pa_cons (pv 0) pa_nil))) (pg_name (i := 1) scSpoil.nd rfl (Or.inl rfl))
        (pss_one (ps_expr (pe_call ih hr rfl Dd.m Dd.F.kp Dd.b .nil pass0 (pa_cons (pe_dget hu (pv 0) (pv 1) (fun _ _ => rfl)) pa_nil)))))
      (pss_one (ps_dput hu (pv 0) pe_str pe_int rfl)))
      (pss_one (ps_if (pt_val (pe_callB call_isi (by rfl) (T'.of "isinstance") (by decide +kernel) (pa_cons (pv 0) (pa_cons (pe_bltn (v := .ty "list") (by rfl) (T'.of "list") (by decide +kernel) rfl) pa_nil))))
        (pss_one (ps_expr (pe_bm PySem.F.plainAttrs_list PySem.F.slot_list_append PySem.F.type_list_append mt_append (pv 0) (pa_cons pe_str pa_nil)))) pss_nil))), ?_⟩
  have sc_way : isSc v = true → ∃ t, TyX K H v t ∧ PySem.W.kitOne K t (.type "dict") = some false ∧ PySem.W.kitOne K t (.type "list") = some false := fun h => by
    obtain ⟨t, ht, ty⟩ := tyx_sc (K := K) (H := H) h
    refine ⟨_, ty, kit_ty ?_, kit_ty ?_⟩ <;> rcases ht with rfl | rfl | rfl <;> decide +kernel
  by_cases hsc : isSc v = true
  · obtain ⟨t, ty, k1, k2⟩ := sc_way hsc
    exact ⟨v, rfl, v, .ty "dict", t, _, _, rfl, .ty _, ty, k1, _, rfl, iteF ⟨v, rfl, v, .ty "list", t, _, _, rfl, .ty _, ty, k2, _, rfl, iteF (k H Stp.refl)⟩⟩
  cases n with
  | zero => exact absurd ht hsc
  | succ n =>
  have em := hm' (by omega)
  rcases ht with h | ⟨a, xs, rfl, ta, r, l⟩ | ⟨a, ms, rfl, ta, r, gd, mm⟩
  · exact absurd h hsc
  · refine ⟨_, rfl, .ref a, .ty "dict", _, _, _, rfl, .ty _, tyx_ls (.inl r), kit_ty (r := false) (by decide +kernel), _, rfl, iteF ⟨_, rfl, .ref a, .ty "list", _, _, _, rfl, .ty _, tyx_ls (.inl r), kit_ty (r := true) (by decide +kernel), _, rfl, iteT ?_⟩⟩
    refine ⟨_, rfl, .inl ⟨rfl, _, .inl (.inl r)⟩, a, _, _, rfl, rfl, r, ?_, ?_⟩
    · have : xs.length < 10000001 := by omega
      exact Nat.lt_of_lt_of_le this (by decide)
    · refine k _ ⟨fun b o nb e => ?_, fun b tb e => ?_, fun b ys tb e => ?_, fun b ms' tb e => ?_⟩
      · rw [upd_ne (fun z => nb (by rw [z]; exact ta))]
        exact e
      · by_cases z : b = a
        · rw [z, upd_same]; exact fun y => nomatch y
        · rw [upd_ne z]; exact e
      · by_cases z : b = a
        · subst z
          rw [r] at e
          injection e with e
          injection e with e
          subst e
          refine ⟨_, upd_same, ?_⟩
          rw [List.length_append]
          show xs.length + 1 ≤ xs.length + (1 + 4 * cnt n)
          omega
        · exact ⟨ys, by rw [upd_ne z]; exact e, by omega⟩
      · have z : b ≠ a := fun z => by rw [z, r] at e; cases e
        exact ⟨ms', by rw [upd_ne z]; exact e, fun g => g, fun _ _ h => .inr h, fun _ h => h⟩
  · refine ⟨_, rfl, .ref a, .ty "dict", _, _, _, rfl, .ty _, tyx_dk (.inl r), kit_ty (r := true) (by decide +kernel), _, rfl, iteT ?_⟩
    have hlen : ms.length ≤ 4 := by
      have := sub_len gd.1 gd.2
      rwa [List.length_map] at this
    have en : m' = n := by omega
    subst en
    refine ⟨_, rfl, a, kvsOf ms, rfl, .inl r, fun p hp => ⟨p, rfl, ⟨_, .inl (.inl upd_same)⟩, ?_⟩⟩
    rw [keys_inK]
    have npT : ¬ T p := fun z => al p z hp
    refine for_list (K := K) (a := p) (xs := ms.map fun q => V.str q.1) (fun i σ H3 => (∃ y, σ = [some (.ref a), y]) ∧ Stp T (i * cnt m') H H3 ∧ H3 p = some (.lst (ms.map fun q => V.str q.1)) ∧ ∀ b, T b → H3 b ≠ none) ?_ (fun i σ H3 _ q => .inl (.inl q.2.2.1)) ?_ ?_
    · refine ⟨⟨_, rfl⟩, ?_, upd_same, fun b tb => ?_⟩
      · have nb : ∀ b, T b → b ≠ p := fun b tb z => npT (by rw [← z]; exact tb)
        have e0 : Ex H (upd H p (.lst (ms.map fun q => V.str q.1))) := Ex.new hp
        exact ⟨fun b o _ e => e0 b o e, fun b tb e => by rw [upd_ne (nb b tb)]; exact e, fun b ys tb e => ⟨ys, e0 b _ e, by omega⟩, fun b ms' tb e => ⟨ms', e0 b _ e, fun g => g, fun _ _ h => .inr h, fun _ h => h⟩⟩
      · rw [upd_ne (fun z => npT (by rw [← z]; exact tb))]
        exact al b tb
    · rintro i x σ H3 hi ⟨⟨y, rfl⟩, st, h3, al3⟩
      obtain ⟨⟨key, u⟩, hi', rfl⟩ : ∃ q : Str × V, ms[i]? = some q ∧ x = .str q.1 := by
        rw [List.getElem?_map] at hi
        obtain ⟨q, h1, h2⟩ := Option.map_eq_some_iff.mp hi
        exact ⟨q, h1, h2.symm⟩
      have hilt : i < ms.length := (List.getElem?_eq_some_iff.mp hi').1
      have hku : valV ms key = some u := valV_of_mem gd.1 (List.mem_of_getElem? hi')
      obtain ⟨m3, r3, g3, s3, n3⟩ := st.dk a ms ta r
      cases e3 : valV m3 key with
      | none =>
        have := n3 key e3
        rw [hku] at this
        cases this
      | some u3 =>
        have t3 : Tr T (L + i * cnt m') H3 m' u3 := (s3 key u3 e3).elim (fun z => Tr.of_sc z) fun z => (mm key u3 z).stp st
        have hb : L + i * cnt m' + cnt m' ≤ 10000000 := by
          have h1 : i * cnt m' ≤ 3 * cnt m' := Nat.mul_le_mul_right _ (by omega)
          have h2 : cnt (m' + 1) = 1 + 4 * cnt m' := rfl
          omega
        refine ⟨.ref a, rfl, .str key, rfl, a, u3, rfl, .inl ⟨_, Sum.inr key, .inl r3, rfl, by rw [valV_inK]; exact e3.symm⟩, by omega, T, L + i * cnt m', u3, rfl, al3, t3, hb, fun H4 st4 => ?_⟩
        refine ⟨⟨_, rfl⟩, ?_, st4.out p _ npT h3, fun b tb => st4.al b tb (al3 b tb)⟩
        rw [Nat.succ_mul]
        exact st.trans st4
    · rintro σ H3 ⟨⟨y, rfl⟩, st, h3, al3⟩
      obtain ⟨m3, r3, g3, s3, n3⟩ := st.dk a ms ta r
      have gd3 := g3 gd
      have hl3 : m3.length ≤ 4 := by
        have := sub_len gd3.1 gd3.2
        rwa [List.length_map] at this
      refine ⟨.ref a, rfl, a, _, rfl, DPut.k (k := Sum.inr ("spoilt" : Str)) r3 ?_, k _ ?_⟩
      · rw [List.length_map]
        exact Nat.lt_of_le_of_lt hl3 (by decide)
      · have fin : Stp T 0 H3 (upd H3 a (.dK (putK (kvsOf m3) (Sum.inr ("spoilt" : Str)) (.int 1)))) := by
          refine ⟨fun b o nb e => ?_, fun b tb e => ?_, fun b ys tb e => ?_, fun b ms' tb e => ?_⟩
          · rw [upd_ne (fun z => nb (by rw [z]; exact ta))]
            exact e
          · by_cases z : b = a
            · rw [z, upd_same]; exact fun y => nomatch y
            · rw [upd_ne z]; exact e
          · have z : b ≠ a := fun z => by rw [z, r3] at e; cases e
            exact ⟨ys, by rw [upd_ne z]; exact e, by omega⟩
          · by_cases z : b = a
            · subst z
              rw [r3] at e
              have e' : kvsOf m3 = kvsOf ms' := by injection e with e; injection e
              have vv : ∀ j, valV ms' j = valV m3 j := fun j => by rw [← valV_inK, ← valV_inK, e']
              refine ⟨putK ms' "spoilt" (.int 1), by rw [upd_same, e', putK_inK], fun g => ⟨nodup_put _ _ g.1, fun j hj => ?_⟩, fun j u hu => ?_, fun j hj => ?_⟩
              · rcases (keys_put ms' "spoilt" (.int 1) j).mp hj with z | z
                · rw [z]; decide +kernel
                · exact g.2 j z
              · rw [valV_put] at hu
                by_cases z : j = "spoilt"
                · rw [if_pos z] at hu; cases hu; exact .inl rfl
                · rw [if_neg z] at hu; exact .inr hu
              · rw [valV_put] at hj
                by_cases z : j = "spoilt"
                · rw [if_pos z] at hj; cases hj
                · rw [if_neg z] at hj; exact hj
            · exact ⟨ms', by rw [upd_ne z]; exact e, fun g => g, fun _ _ h => .inr h, fun _ h => h⟩
        refine (st.trans fin).mono ?_
        rw [List.length_map]
        have h1 : ms.length * cnt m' ≤ 4 * cnt m' := Nat.mul_le_mul_right _ hlen
        show ms.length * cnt m' + 0 ≤ 1 + 4 * cnt m'
        omega
end
end TP

namespace TP
open PySem PySem.Spec PyProof.Rows L2 Evl
abbrev sLaw : Stmt := topS 28
theorem mem_cutV {xs : List V} {lo hi : Option Int} {x : V} (h : x ∈ cutV xs lo hi) : x ∈ xs := List.mem_of_mem_drop (List.mem_of_mem_take h)
theorem mv_ex {a H0 H H'} (e : Ex H0 H) (ha : H0 a = none) (m : Mv a H H') : Ex H0 H' := fun b o h => m.ex b o (ne_of_none h ha) (e b o h)
theorem pd_ref {S : Addr → Prop} {H : Hp} {n : Nat} {v : V} {d : D} (h : Dc S g4 H n v d) (hn : n ≤ 9) (hS : ∀ x, S x → x ≠ sysModules) : ∃ e, Pd H v e ∧ e.showable = true ∧ e.shown.length ≤ sizeLine ∧ e.depth ≤ 40 := by
  obtain ⟨e, h1, h2, h3, h4⟩ := pd_of hS h
  exact ⟨e, h1, h2, Nat.le_trans h3 (Nat.le_trans (TL_mono hn) TL9), by omega⟩
/-- two drawn documents that lie apart -/
structure Two (H : Hp) (v1 v2 : V) (d1 d2 : D) (S1 S2 : Addr → Prop) : Prop where
  a : Dn S1 H 9 200 8 v1 d1
  b : Dn S2 H 9 200 8 v2 d2
  dis : ∀ x, S1 x → S2 x → False
  s1 : ∀ x, S1 x → x ≠ sysModules ∧ H x ≠ none
  s2 : ∀ x, S2 x → x ≠ sysModules ∧ H x ≠ none
theorem Dn.ex {S H H' n p q v d} (e : Ex H H') (h : Dn S H n p q v d) : Dn S H' n p q v d := ⟨h.dc.ex e, h.pd, h.dd⟩
theorem Dn.alloc {S H n p q v d} (h : Dn S H n p q v d) : Dn (fun x => S x ∧ H x ≠ none) H n p q v d := ⟨h.dc.alloc, h.pd, h.dd⟩
theorem Dn.up {S H n p q n' p' q' v d} (h : Dn S H n p q v d) (h1 : n ≤ n') (h2 : p ≤ p') (h3 : q ≤ q') : Dn S H n' p' q' v d := ⟨h.dc.lift h1, h.pd.mono h2, h.dd.mono h3⟩
theorem some_ne {H H' : Hp} {x : Addr} (e : Ex H H') (h : H x ≠ none) : H' x ≠ none := fun z => h (fresh_back e z)
theorem Two.ex {H H' v1 v2 d1 d2 S1 S2} (e : Ex H H') (h : Two H v1 v2 d1 d2 S1 S2) : Two H' v1 v2 d1 d2 S1 S2 := ⟨h.a.ex e, h.b.ex e, h.dis, fun x hx => ⟨(h.s1 x hx).1, some_ne e (h.s1 x hx).2⟩, fun x hx => ⟨(h.s2 x hx).1, some_ne e (h.s2 x hx).2⟩⟩
section
variable {P : Program} {w : World} {K : PySem.W.Frag} {mg : Str → Option Value} {base : Heap}
def spLaw (K : PySem.W.Frag) : Sp := fun vs H Q _ => ∃ (a : Addr) (ns : List Int), vs = [.ref a] ∧ ScrAt K H a (ns.map V.int) ∧ ns.length ≤ 63 ∧ ∀ H', Q (.bl true) H'
abbrev nLaw : List Str := ["_law_script", "_law_number", "_law_s", "_law_document", "_law_patch_here", "_law_kept", "_law_due", "_law_found"]
theorem scLaw : FnScope nLaw ["_law_script"] (defScope sLaw) := ⟨rfl, rfl, rfl, by decide +kernel, rfl, by decide +kernel, by decide +kernel⟩
variable {aCheck aWrong aAtom aElem aDepth aParts aCopied aPatched : Addr} {fCheck fWrong fAtom fElem fDepth fParts fCopied fPatched : FuncData}
theorem ok_law (R : Prog K mg aCheck aWrong aAtom aElem aDepth aParts aCopied aPatched fCheck fWrong fAtom fElem fDepth fParts fCopied fPatched) (T : Bi mg)
    {f f0 f1 f2 f3 f4 f5 f6 f7 f8 f9 : Addr} {fd d0 d1 d2 d3 d4 d5 d6 d7 d8 d9 : FuncData} (Dl : Df K mg "law" sLaw ["_law_script"] f fd) (Da : Df K mg "applied" sApplied ["document", "patch"] f0 d0)
    (D1 : Df K mg "_law_state" sState ["_law_source"] f1 d1) (D2 : Df K mg "_law_digit" sDigit ["_law_state_here", "_law_base"] f2 d2) (D3 : Df K mg "_law_atom" sAtom' ["_law_s"] f3 d3) (D4 : Df K mg "_law_patch" sPatch ["_law_s", "_law_deep_here"] f4 d4)
    (D5 : Df K mg "_law_copied" sLCopied ["_law_value"] f5 d5) (D6 : Df K mg "_law_after" sLAfter ["_law_document", "_law_patch_here"] f6 d6) (D7 : Df K mg "_law_deep" sLDeep ["_law_s", "_law_inner"] f7 d7)
    (D8 : Df K mg "_law_turned" sLTurned ["_law_value"] f8 d8) (D9 : Df K mg "_law_spoil" sLSpoil ["_law_value"] f9 d9) : FnOkG P w K mg base CX0 14 f fd ["_law_script"] (spLaw K) := by
  have hC : g4.C .non = true := by decide +kernel
  have gS : FnOk P w K mg base CX0 13 f1 d1 ["_law_source"] spState := (ok_state D1 T).mono (by decide)
  have gG : FnOk P w K mg base CX0 13 f2 d2 ["_law_state_here", "_law_base"] spDigit := (ok_digit D2).mono (by decide)
  have gA : FnOk P w K mg base CX0 13 f3 d3 ["_law_s"] spAtm := (ok_atm D3 D2).mono (by decide)
  have gP : FnOk P w K mg base CX0 13 f4 d4 ["_law_s", "_law_deep_here"] (spDraw 3) := (ok_draw D4 D2 D3 T 3).mono (by decide)
  have gD : FnOk P w K mg base CX0 13 f7 d7 ["_law_s", "_law_inner"] spDeep := (ok_deep D7 D2 D3 T).mono (by decide)
  have gF : FnOk P w K mg base CX0 13 f6 d6 ["_law_document", "_law_patch_here"] (spPatched g4 9) := (ok_lafter D6 D5 T (by decide) hC 9).mono (by decide)
  have gT : FnOk P w K mg base CX0 13 f8 d8 ["_law_value"] (spTurned g4 9) := (ok_turned D8 T (by decide) 9).mono (by decide)
  have gX : FnOk P w K mg base CX0 13 f9 d9 ["_law_value"] (spSpoil 9) := (ok_spoil D9 T 9).mono (by decide)
  have gB : FnOk P w K mg base CX0 13 f0 d0 ["document", "patch"] (spApplied g4 9) := ok_applied R T (by decide) (by decide) hC Da 9
  refine okG Dl.F scLaw (fun vs H Q E h => ?_) (fun cdv A outer s H vs Q E hg hr h => ?_)
  · obtain ⟨a, ns, rfl, _⟩ := h
    rfl
  obtain ⟨a, ns, rfl, hS, hlen, k⟩ := h
  refine ⟨_, pss_cons (ps_for PassesOwn.never rfl (pi_list (pe_slice sl_list (pe_op op_catScr (pv 0) (pe_lst (pa_cons pe_int pa_nil))) po_none (po_some pe_int))) (pg_name (i := 1) scLaw.nd rfl (Or.inl rfl))
      (pss_cons (ps_set (i := 2) scLaw.nd rfl (Or.inl rfl) (pe_call gS hr rfl D1.m D1.F.kp D1.b .nil pass0 (pa_cons (pv 1) pa_nil)))
      (pss_cons (ps_par (i := 3) (j := 4) rfl scLaw.nd rfl rfl (by decide) rfl rfl (pa_cons (pe_call gP hr rfl D4.m D4.F.kp D4.b .nil pass0 (pa_cons (pv 2) (pa_cons pe_int pa_nil))) (pa_cons (pe_call gP hr rfl D4.m D4.F.kp D4.b .nil pass0 (pa_cons (pv 2) (pa_cons pe_int pa_nil))) pa_nil)) (by rfl))
      (pss_cut (ps_if (pt_cmpR op_eq (pe_call gG hr rfl D2.m D2.F.kp D2.b .nil pass0 (pa_cons (pv 2) (pa_cons pe_int pa_nil))) pe_int (nomark _))
          (pss_one (ps_par (i := 3) (j := 4) rfl scLaw.nd rfl rfl (by decide) rfl rfl (pa_cons (pe_call gD hr rfl D7.m D7.F.kp D7.b .nil pass0 (pa_cons (pv 2) (pa_cons (pe_call gA hr rfl D3.m D3.F.kp D3.b .nil pass0 (pa_cons (pv 2) pa_nil)) pa_nil)))
            (pa_cons (pe_call gD hr rfl D7.m D7.F.kp D7.b .nil pass0 (pa_cons (pv 2) (pa_cons (pe_ix ix_list (pe_lst (pa_cons pe_non (pa_cons pe_str (pa_cons pe_int pa_nil)))) (pe_call gG hr rfl D2.m D2.F.kp D2.b .nil pass0 (pa_cons (pv 2) (pa_cons pe_int pa_nil))) (fun _ _ => rfl)) pa_nil))) pa_nil)) (by rfl))) pss_nil)
      (pss_cons (ps_set (i := 5) scLaw.nd rfl (Or.inl rfl) (pe_tup (pa_cons (pe_callB (call_reprD hg hr.units) (by rfl) (T.of "repr") (by decide +kernel) (pa_cons (pv 3) pa_nil)) (pa_cons (pe_callB (call_reprD hg hr.units) (by rfl) (T.of "repr") (by decide +kernel) (pa_cons (pv 4) pa_nil)) pa_nil))))
      (pss_cons (ps_set (i := 6) scLaw.nd rfl (Or.inl rfl) (pe_call gF hr rfl D6.m D6.F.kp D6.b .nil pass0 (pa_cons (pv 3) (pa_cons (pv 4) pa_nil))))
      (pss_cons (ps_set (i := 7) scLaw.nd rfl (Or.inl rfl) (pe_call gB hr rfl Da.m Da.F.kp Da.b .nil pass0 (pa_cons (pv 3) (pa_cons (pv 4) pa_nil))))
      (pss_cons (ps_if (PW.pt (pw_or (pt_cmpR (op_neDoc hr.units) (pv 7) (pv 6) (nomark _)) (pw_or1 (pt_cmpR (op_neDoc hr.units) (pe_call gB hr rfl Da.m Da.F.kp Da.b .nil pass0 (pa_cons (pe_call gT hr rfl D8.m D8.F.kp D8.b .nil pass0 (pa_cons (pv 3) pa_nil)) (pa_cons (pe_call gT hr rfl D8.m D8.F.kp D8.b .nil pass0 (pa_cons (pv 4) pa_nil)) pa_nil))) (pv 6) (nomark _))))) (pss_one (ps_ret pe_bl)) pss_nil)
      (pss_cons (ps_expr (pe_call gX hr rfl D9.m D9.F.kp D9.b .nil pass0 (pa_cons (pv 7) pa_nil)))
      (pss_one (ps_if (PW.pt (pw_or (pt_cmpR (op_neTup hr.units) (pe_tup (pa_cons (pe_callB (call_reprD hg hr.units) (by rfl) (T.of "repr") (by decide +kernel) (pa_cons (pv 3) pa_nil)) (pa_cons (pe_callB (call_reprD hg hr.units) (by rfl) (T.of "repr") (by decide +kernel) (pa_cons (pv 4) pa_nil)) pa_nil))) (pv 5) (nomark _))
          (pw_or1 (pt_cmpR (op_neDoc hr.units) (pe_call gB hr rfl Da.m Da.F.kp Da.b .nil pass0 (pa_cons (pv 3) (pa_cons (pv 4) pa_nil))) (pv 6) (nomark _))))) (pss_one (ps_ret pe_bl)) pss_nil)))))))))))
    (pss_one (ps_ret pe_bl)), ?_⟩
  refine ⟨_, rfl, (by show 1 ≤ sizeLine; decide), fun p0 h0 => ?_⟩
  refine ⟨a, p0, ns.map V.int, [.int 0], rfl, rfl, hS.ex (Ex.new h0), upd_same, (by show 1 ≤ 1000; decide), fun p1 h1 => ?_⟩
  refine ⟨6, rfl, p1, _, rfl, .inl (.inl upd_same), fun pL hL => ?_⟩
  refine ⟨pL, rfl, ⟨_, .inl (.inl upd_same)⟩, ?_⟩
  generalize hH1 : upd (upd (upd H p0 _) p1 _) pL (.lst (cutV (ns.map V.int ++ [.int 0]) none (some 6))) = H1
  have lL : H1 pL = some (.lst (cutV (ns.map V.int ++ [.int 0]) none (some 6))) := by rw [← hH1, upd_same]
  clear hH1
  refine for_list (K := K) (a := pL) (xs := cutV (ns.map V.int ++ [.int 0]) none (some 6)) (fun i σ H3 => (∃ y1 y2 y3 y4 y5 y6 y7, σ = [some (.ref a), y1, y2, y3, y4, y5, y6, y7]) ∧ Ex H1 H3) ⟨⟨_, _, _, _, _, _, _, rfl⟩, Ex.refl _⟩ (fun i σ H3 _ q => .inl (.inl (q.2 pL _ lL))) ?_ ?_
  · rintro i x σ H3 hi ⟨⟨y1, y2, y3, y4, y5, y6, y7, rfl⟩, e13⟩
    obtain ⟨num, rfl⟩ : ∃ z, x = V.int z := by
      have := mem_cutV (List.mem_of_getElem? hi)
      rcases List.mem_append.mp this with z | z
      · obtain ⟨z, _, e⟩ := List.mem_map.mp z
        exact ⟨z, e.symm⟩
      · exact ⟨0, List.mem_singleton.mp z⟩
    refine ⟨_, rfl, num, rfl, fun p H4 np e4 st4 _ => ?_⟩
    refine ⟨.ref p, rfl, p, rfl, st4, fun v1 d1 H5 m5 dn1 => ⟨.ref p, rfl, p, rfl, m5.st, fun v2 d2 H6 m6 dn2 => ⟨v1, v2, rfl, ?_⟩⟩⟩
    have np1 : ¬ Sl H4 p := fun z => st4.ne z.1
    have np2 : ¬ Sl H5 p := fun z => m5.st.ne z.1
    -- the documents, drawn or deep
    refine ⟨fun σ H7 => ∃ v1 v2 d1 d2 S1 S2, (∃ y5 y6 y7, σ = [some (.ref a), some (.int num), some (.ref p), some v1, some v2, y5, y6, y7]) ∧ Ex H1 H7 ∧ Two H7 v1 v2 d1 d2 S1 S2, ?_, ?_⟩
    · refine ⟨.ref p, rfl, p, 4, rfl, m6.st, by decide, by decide, fun j H7 j0 j1 m7 _ => ⟨rfl, _, rfl, ite2 (fun c => ?_) fun c => ?_⟩⟩
      · refine ⟨.ref p, rfl, .ref p, rfl, p, rfl, m7.st, fun va da H8 m8 dna => ⟨p, Sl H7, va, da, rfl, m8.st, (fun z => m7.st.ne z.1), dna, fun w1 b1 H9 m9 dw1 => ?_⟩⟩
        refine ⟨.ref p, rfl, (by show 3 ≤ sizeLine; decide), fun q hq => ?_⟩
        have m79 := m8.trans m9
        have m10 := m79.new (o := .lst [.non, .str "b", .int 5]) hq
        refine ⟨.ref p, rfl, p, 3, rfl, m10.st, by decide, by decide, fun j' H11 j0' j1' m11 same11 => ?_⟩
        have nqp : q ≠ p := fun z => m79.st.ne (by rw [← z]; exact hq)
        have l11 : SqL K H11 q [.non, .str "b", .int 5] := .inl (.inl (by rw [same11 q nqp, upd_same]))
        have hj : j' = 0 ∨ j' = 1 ∨ j' = 2 := by omega
        have sel : ∃ sc : V, g4.C sc = true ∧ atI [V.non, .str "b", .int 5] j' = some sc := by
          rcases hj with rfl | rfl | rfl
          · exact ⟨_, by decide +kernel, atI_nat (j := 0) rfl⟩
          · exact ⟨_, by decide +kernel, atI_nat (j := 1) rfl⟩
          · exact ⟨_, by decide +kernel, atI_nat (j := 2) rfl⟩
        obtain ⟨sc, hsc, at'⟩ := sel
        refine ⟨q, _, j', sc, rfl, rfl, l11, at', p, fun _ => False, sc, .sc sc, rfl, m11.st, (fun z => z), ⟨Dc.sc hsc, Nat.le_refl _, trivial⟩, fun w2 b2 H12 m12 dw2 => ⟨w1, w2, rfl, ?_⟩⟩
        have n1 : ∀ x, (Sl H7 x ∨ Sl H8 x) → x ≠ p := fun x hx z => hx.elim (fun y => m7.st.ne (by rw [← z]; exact y.1)) fun y => m8.st.ne (by rw [← z]; exact y.1)
        have k1 : ∀ x, (Sl H7 x ∨ Sl H8 x) → H9 x ≠ none → H11 x ≠ none ∧ H12 x ≠ none := fun x hx h9 => by
          cases e : H9 x with
          | none => exact absurd e h9
          | some o =>
            have e11 := m11.ex x o (n1 x hx) (by rw [upd_ne (ne_of_none e hq)]; exact e)
            exact ⟨(by rw [e11]; exact fun z => nomatch z), by rw [m12.ex x o (n1 x hx) e11]; exact fun z => nomatch z⟩
        refine ⟨w1, w2, b1, b2, fun x => (Sl H7 x ∨ Sl H8 x) ∧ H9 x ≠ none, fun x => (False ∨ Sl H11 x) ∧ H12 x ≠ none, ⟨_, _, _, rfl⟩, ?_, ?_, ?_, ?_, ?_, ?_⟩
        · exact mv_ex (e13.trans e4) (fresh_back e13 np) (((m5.trans m6).trans m7).trans (m10.trans (m11.trans m12)))
        · have z := dw1.alloc.up (n' := 9) (p' := 200) (q' := 8) (by decide) (by decide) (by decide)
          have np : ¬ (fun x => (Sl H7 x ∨ Sl H8 x) ∧ H9 x ≠ none) p := fun z => n1 p z.1 rfl
          exact ((z.ex (Ex.new hq)).mv m11 np).mv m12 np
        · exact dw2.alloc.up (by decide) (by decide) (by decide)
        · intro x hx hy
          exact hy.1.elim id fun z => (k1 x hx.1 hx.2).1 z.1
        · exact fun x hx => ⟨hx.1.elim (fun y => y.2) fun y => y.2, (k1 x hx.1 hx.2).2⟩
        · exact fun x hx => ⟨hx.1.elim (fun y => y.elim) fun y => y.2, hx.2⟩
      · have n1 : ∀ x, Sl H4 x → x ≠ p := fun x hx z => st4.ne (by rw [← z]; exact hx.1)
        have n2 : ∀ x, Sl H5 x → x ≠ p := fun x hx z => m5.st.ne (by rw [← z]; exact hx.1)
        have up : ∀ x H H', Mv p H H' → x ≠ p → H x ≠ none → H' x ≠ none := fun x Ha Hb m nx h => by
          cases e : Ha x with
          | none => exact absurd e h
          | some o => rw [m.ex x o nx e]; exact fun z => nomatch z
        refine ⟨v1, v2, d1, d2, fun x => Sl H4 x ∧ H5 x ≠ none, fun x => Sl H5 x ∧ H6 x ≠ none, ⟨_, _, _, rfl⟩, ?_, ?_, ?_, ?_, ?_, ?_⟩
        · exact mv_ex (e13.trans e4) (fresh_back e13 np) ((m5.trans m6).trans m7)
        · have z := dn1.alloc.up (n' := 9) (p' := 200) (q' := 8) (by decide) (by decide) (by decide)
          have np : ¬ (fun x => Sl H4 x ∧ H5 x ≠ none) p := fun z => n1 p z.1 rfl
          exact (z.mv m6 np).mv m7 np
        · have z := dn2.alloc.up (n' := 9) (p' := 200) (q' := 8) (by decide) (by decide) (by decide)
          exact z.mv m7 fun z => n2 p z.1 rfl
        · exact fun x hx hy => hx.2 hy.1.1
        · exact fun x hx => ⟨hx.1.2, up x _ _ (m6.trans m7) (n1 x hx.1) hx.2⟩
        · exact fun x hx => ⟨hx.1.2, up x _ _ m7 (n2 x hx.1) hx.2⟩
    · rintro σ H7 ⟨v1, v2, d1, d2, S1, S2, ⟨y5, y6, y7, rfl⟩, e17, W⟩
      obtain ⟨q1, a1, a2, a3, a4⟩ := pd_ref W.a.dc (Nat.le_refl 9) fun x hx => (W.s1 x hx).1
      obtain ⟨q2, b1, b2, b3, b4⟩ := pd_ref W.b.dc (Nat.le_refl 9) fun x hx => (W.s2 x hx).1
      refine ⟨v1, rfl, v1, q1, rfl, a1, a2, a3, a4, v2, rfl, v2, q2, rfl, b1, b2, b3, b4, (by show 2 ≤ sizeLine; decide), fun t ht => ?_⟩
      have W8 := W.ex (Ex.new ht (o := .tup [.str q1.shown, .str q2.shown]))
      refine ⟨v1, rfl, v2, rfl, S1, S2, v1, v2, d1, d2, rfl, W8.a.dc, W8.b.dc, W8.dis, fun du H9 e89 hdu => ?_⟩
      have W9 := W8.ex e89
      refine ⟨v1, rfl, v2, rfl, S1, S2, v1, v2, d1, d2, rfl, W9.a.dc, W9.b.dc, W9.dis, W9.a.pd, W9.b.pd, W9.a.dd, W9.b.dd, fun fo H10 e910 hfo => ?_⟩
      have W10 := W9.ex e910
      refine ⟨fo, rfl, du, rfl, _, _, g4, g4, 9, 9, d1.app d2, by decide, hfo, hdu.ex e910, _, rfl, iteF ?_⟩
      refine ⟨v1, rfl, S1, v1, d1, rfl, W10.a.dc, fun u1 H11 e11 hu1 => ⟨v2, rfl, S2, v2, d2, rfl, W10.b.dc.ex e11, fun u2 H12 e12 hu2 => ?_⟩⟩
      refine ⟨_, _, u1, u2, d1, d2, rfl, hu1.alloc.ex e12, hu2, ?_, W.a.pd, W.b.pd, W.a.dd, W.b.dd, fun f2 H13 e13' hf2 => ?_⟩
      · intro x hx hy
        rcases hy with hy | hy
        · exact hx.1.elim (fun z => W.dis x z hy) fun z => (W10.s2 x hy).2 z
        · exact hx.2 hy
      refine ⟨du, rfl, _, _, g4, g4, 9, 9, d1.app d2, by decide, hf2, ((((hdu.ex e910).ex e11).ex e12).ex e13'), _, rfl, iteF ?_⟩
      have e10_13 := (e11.trans e12).trans e13'
      refine ⟨fo, rfl, fun x => H9 x = none ∧ H10 x ≠ none, 2, fo, rfl, (fun b hb => some_ne e10_13 hb.2), tr_of (hfo.alloc.ex e10_13), by decide, fun H14 st => ?_⟩
      have e9_14 : Ex H9 H14 := fun b o h => st.out b o (fun z => by rw [h] at z; cases z.1) (e10_13 b o (e910 b o h))
      have W14 := W9.ex e9_14
      have e7_14 := ((Ex.new ht (o := .tup [.str q1.shown, .str q2.shown])).trans e89).trans e9_14
      refine ⟨v1, rfl, v1, q1, rfl, a1.ex e7_14, a2, a3, a4, v2, rfl, v2, q2, rfl, b1.ex e7_14, b2, b3, b4, (by show 2 ≤ sizeLine; decide), fun t2 ht2 => ?_⟩
      have l14 : H14 t = some (.tup [.str q1.shown, .str q2.shown]) := e9_14 t _ (e89 t _ upd_same)
      refine ⟨.ref t, rfl, t2, t, _, rfl, rfl, .inl (.inl upd_same), .inl (.inl (Ex.new ht2 t _ l14)), (fun z hz => by simp at hz; rcases hz with rfl | rfl <;> rfl), _, rfl, iteF ?_⟩
      have W15 := W14.ex (Ex.new ht2 (o := .tup [.str q1.shown, .str q2.shown]))
      refine ⟨v1, rfl, v2, rfl, S1, S2, v1, v2, d1, d2, rfl, W15.a.dc, W15.b.dc, W15.dis, W.a.pd, W.b.pd, W.a.dd, W.b.dd, fun f3 H16 e16 hf3 => ?_⟩
      refine ⟨du, rfl, _, _, g4, g4, 9, 9, d1.app d2, by decide, hf3, (((hdu.ex e9_14).ex (Ex.new ht2)).ex e16), _, rfl, iteF ?_⟩
      exact ⟨⟨_, _, _, _, _, _, _, rfl⟩, ((e17.trans e7_14).trans (Ex.new ht2)).trans e16⟩
  · rintro σ H3 ⟨⟨y1, y2, y3, y4, y5, y6, y7, rfl⟩, _⟩
    exact k H3
end
end TP

namespace TP
open PySem PySem.Spec PyProof.Rows L2 Evl
theorem all_mk {l : PySem.W.OpenLaw} {w : World} {K : PySem.W.Frag} {h : Heap} {mg : Str → Option Value} {fa f0 f1 f2 f3 f4 f5 f6 f7 f8 f9 f10 f11 f12 f13 f14 f15 f16 f17 f18 : Addr} (X : K.In h) (G : h.Ns mainGlobals mg) (hfa : mg "law" = some (.ref fa))
    {od0 an0 od1 an1 od2 an2 od3 an3 od4 an4 od5 an5 od6 an6 od7 an7 od8 an8 od9 an9 od10 an10 od11 an11 od12 an12 od13 an13 od14 an14 od15 an15 od16 an16 od17 an17 od18 an18 : Option Addr} {sl0 sl1 sl2 sl3 sl4 sl5 sl6 sl7 sl8 sl9 sl10 sl11 sl12 sl13 sl14 sl15 sl16 sl17 sl18 : Array (Option Value)} {oc0 kV0 dc0 pm0 cd0 ct0 oc1 kV1 dc1 pm1 cd1 ct1 oc2 kV2 dc2 pm2 cd2 ct2 oc3 kV3 dc3 pm3 cd3 ct3 oc4 kV4 dc4 pm4 cd4 ct4 oc5 kV5 dc5 pm5 cd5 ct5 oc6 kV6 dc6 pm6 cd6 ct6 oc7 kV7 dc7 pm7 cd7 ct7 oc8 kV8 dc8 pm8 cd8 ct8 oc9 kV9 dc9 pm9 cd9 ct9 oc10 kV10 dc10 pm10 cd10 ct10 oc11 kV11 dc11 pm11 cd11 ct11 oc12 kV12 dc12 pm12 cd12 ct12 oc13 kV13 dc13 pm13 cd13 ct13 oc14 kV14 dc14 pm14 cd14 ct14 oc15 kV15 dc15 pm15 cd15 ct15 oc16 kV16 dc16 pm16 cd16 ct16 oc17 kV17 dc17 pm17 cd17 ct17 oc18 kV18 dc18 pm18 cd18 ct18 : Value} {tk0 tk1 : Tok}
    (a0 : PySem.W.nsIn K mainGlobals "check" = some (some (.ref f0))) (l0 : K.lookup f0 = some ⟨oc0, od0, .func (PySem.W.fnOf "check" "check" (defArgs sCheck) (defBody sCheck) (defScope sCheck) .none kV0 dc0 pm0 an0 cd0 ct0), sl0⟩) (c0 : PySem.W.codeIn K cd0 "check" = true) (k0 : PySem.W.keepIn K (.ref f0) = true)
    (a1 : PySem.W.nsIn K mainGlobals "wrong_path" = some (some (.ref f1))) (l1 : K.lookup f1 = some ⟨oc1, od1, .func (PySem.W.fnOf "wrong_path" "wrong_path" (defArgs sWrong) (defBody sWrong) (defScope sWrong) .none kV1 dc1 pm1 an1 cd1 ct1), sl1⟩) (c1 : PySem.W.codeIn K cd1 "wrong_path" = true) (k1 : PySem.W.keepIn K (.ref f1) = true)
    (a2 : PySem.W.nsIn K mainGlobals "is_atom" = some (some (.ref f2))) (l2 : K.lookup f2 = some ⟨oc2, od2, .func (PySem.W.fnOf "is_atom" "is_atom" (defArgs sIsAtom) (defBody sIsAtom) (defScope sIsAtom) .none kV2 dc2 pm2 an2 cd2 ct2), sl2⟩) (c2 : PySem.W.codeIn K cd2 "is_atom" = true) (k2 : PySem.W.keepIn K (.ref f2) = true)
    (a3 : PySem.W.nsIn K mainGlobals "is_element" = some (some (.ref f3))) (l3 : K.lookup f3 = some ⟨oc3, od3, .func (PySem.W.fnOf "is_element" "is_element" (defArgs sIsElem) (defBody sIsElem) (defScope sIsElem) .none kV3 dc3 pm3 an3 cd3 ct3), sl3⟩) (c3 : PySem.W.codeIn K cd3 "is_element" = true) (k3 : PySem.W.keepIn K (.ref f3) = true)
    (a4 : PySem.W.nsIn K mainGlobals "depth" = some (some (.ref f4))) (l4 : K.lookup f4 = some ⟨oc4, od4, .func (PySem.W.fnOf "depth" "depth" (defArgs sDepth) (defBody sDepth) (defScope sDepth) .none kV4 dc4 pm4 an4 cd4 ct4), sl4⟩) (c4 : PySem.W.codeIn K cd4 "depth" = true) (k4 : PySem.W.keepIn K (.ref f4) = true)
    (a5 : PySem.W.nsIn K mainGlobals "parts" = some (some (.ref f5))) (l5 : K.lookup f5 = some ⟨oc5, od5, .func (PySem.W.fnOf "parts" "parts" (defArgs sParts) (defBody sParts) (defScope sParts) .none kV5 dc5 pm5 an5 cd5 ct5), sl5⟩) (c5 : PySem.W.codeIn K cd5 "parts" = true) (k5 : PySem.W.keepIn K (.ref f5) = true)
    (a6 : PySem.W.nsIn K mainGlobals "copied" = some (some (.ref f6))) (l6 : K.lookup f6 = some ⟨oc6, od6, .func (PySem.W.fnOf "copied" "copied" (defArgs sCopied) (defBody sCopied) (defScope sCopied) .none kV6 dc6 pm6 an6 cd6 ct6), sl6⟩) (c6 : PySem.W.codeIn K cd6 "copied" = true) (k6 : PySem.W.keepIn K (.ref f6) = true)
    (a7 : PySem.W.nsIn K mainGlobals "patched" = some (some (.ref f7))) (l7 : K.lookup f7 = some ⟨oc7, od7, .func (PySem.W.fnOf "patched" "patched" (defArgs sPatched) (defBody sPatched) (defScope sPatched) .none kV7 dc7 pm7 an7 cd7 ct7), sl7⟩) (c7 : PySem.W.codeIn K cd7 "patched" = true) (k7 : PySem.W.keepIn K (.ref f7) = true)
    (a8 : PySem.W.nsIn K mainGlobals "applied" = some (some (.ref f8))) (l8 : K.lookup f8 = some ⟨oc8, od8, .func (PySem.W.fnOf "applied" "applied" (defArgs sApplied) (defBody sApplied) (defScope sApplied) .none kV8 dc8 pm8 an8 cd8 ct8), sl8⟩) (c8 : PySem.W.codeIn K cd8 "applied" = true) (k8 : PySem.W.keepIn K (.ref f8) = true)
    (a9 : PySem.W.nsIn K mainGlobals "_law_state" = some (some (.ref f9))) (l9 : K.lookup f9 = some ⟨oc9, od9, .func (PySem.W.fnOf "_law_state" "_law_state" (defArgs sState) (defBody sState) (defScope sState) .none kV9 dc9 pm9 an9 cd9 ct9), sl9⟩) (c9 : PySem.W.codeIn K cd9 "_law_state" = true) (k9 : PySem.W.keepIn K (.ref f9) = true)
    (a10 : PySem.W.nsIn K mainGlobals "_law_digit" = some (some (.ref f10))) (l10 : K.lookup f10 = some ⟨oc10, od10, .func (PySem.W.fnOf "_law_digit" "_law_digit" (defArgs sDigit) (defBody sDigit) (defScope sDigit) .none kV10 dc10 pm10 an10 cd10 ct10), sl10⟩) (c10 : PySem.W.codeIn K cd10 "_law_digit" = true) (k10 : PySem.W.keepIn K (.ref f10) = true)
    (a11 : PySem.W.nsIn K mainGlobals "_law_atom" = some (some (.ref f11))) (l11 : K.lookup f11 = some ⟨oc11, od11, .func (PySem.W.fnOf "_law_atom" "_law_atom" (defArgs sAtom') (defBody sAtom') (defScope sAtom') .none kV11 dc11 pm11 an11 cd11 ct11), sl11⟩) (c11 : PySem.W.codeIn K cd11 "_law_atom" = true) (k11 : PySem.W.keepIn K (.ref f11) = true)
    (a12 : PySem.W.nsIn K mainGlobals "_law_patch" = some (some (.ref f12))) (l12 : K.lookup f12 = some ⟨oc12, od12, .func (PySem.W.fnOf "_law_patch" "_law_patch" (defArgs sPatch) (defBody sPatch) (defScope sPatch) .none kV12 dc12 pm12 an12 cd12 ct12), sl12⟩) (c12 : PySem.W.codeIn K cd12 "_law_patch" = true) (k12 : PySem.W.keepIn K (.ref f12) = true)
    (a13 : PySem.W.nsIn K mainGlobals "_law_copied" = some (some (.ref f13))) (l13 : K.lookup f13 = some ⟨oc13, od13, .func (PySem.W.fnOf "_law_copied" "_law_copied" (defArgs sLCopied) (defBody sLCopied) (defScope sLCopied) .none kV13 dc13 pm13 an13 cd13 ct13), sl13⟩) (c13 : PySem.W.codeIn K cd13 "_law_copied" = true) (k13 : PySem.W.keepIn K (.ref f13) = true)
    (a14 : PySem.W.nsIn K mainGlobals "_law_after" = some (some (.ref f14))) (l14 : K.lookup f14 = some ⟨oc14, od14, .func (PySem.W.fnOf "_law_after" "_law_after" (defArgs sLAfter) (defBody sLAfter) (defScope sLAfter) .none kV14 dc14 pm14 an14 cd14 ct14), sl14⟩) (c14 : PySem.W.codeIn K cd14 "_law_after" = true) (k14 : PySem.W.keepIn K (.ref f14) = true)
    (a15 : PySem.W.nsIn K mainGlobals "_law_deep" = some (some (.ref f15))) (l15 : K.lookup f15 = some ⟨oc15, od15, .func (PySem.W.fnOf "_law_deep" "_law_deep" (defArgs sLDeep) (defBody sLDeep) (defScope sLDeep) .none kV15 dc15 pm15 an15 cd15 ct15), sl15⟩) (c15 : PySem.W.codeIn K cd15 "_law_deep" = true) (k15 : PySem.W.keepIn K (.ref f15) = true)
    (a16 : PySem.W.nsIn K mainGlobals "_law_turned" = some (some (.ref f16))) (l16 : K.lookup f16 = some ⟨oc16, od16, .func (PySem.W.fnOf "_law_turned" "_law_turned" (defArgs sLTurned) (defBody sLTurned) (defScope sLTurned) .none kV16 dc16 pm16 an16 cd16 ct16), sl16⟩) (c16 : PySem.W.codeIn K cd16 "_law_turned" = true) (k16 : PySem.W.keepIn K (.ref f16) = true)
    (a17 : PySem.W.nsIn K mainGlobals "_law_spoil" = some (some (.ref f17))) (l17 : K.lookup f17 = some ⟨oc17, od17, .func (PySem.W.fnOf "_law_spoil" "_law_spoil" (defArgs sLSpoil) (defBody sLSpoil) (defScope sLSpoil) .none kV17 dc17 pm17 an17 cd17 ct17), sl17⟩) (c17 : PySem.W.codeIn K cd17 "_law_spoil" = true) (k17 : PySem.W.keepIn K (.ref f17) = true)
    (a18 : PySem.W.nsIn K mainGlobals "law" = some (some (.ref f18))) (l18 : K.lookup f18 = some ⟨oc18, od18, .func (PySem.W.fnOf "law" "law" (defArgs sLaw) (defBody sLaw) (defScope sLaw) .none kV18 dc18 pm18 an18 cd18 ct18), sl18⟩) (c18 : PySem.W.codeIn K cd18 "law" = true) (k18 : PySem.W.keepIn K (.ref f18) = true)
    (q0 : PySem.W.nsIn K mainGlobals "MOST_DEPTH" = some (some (.int 8 tk0)))
    (q1 : PySem.W.nsIn K mainGlobals "MOST_PARTS" = some (some (.int 200 tk1)))
    (z0 : PySem.W.nsIn K mainGlobals "isinstance" = some none)
    (z1 : PySem.W.nsIn K mainGlobals "dict" = some none)
    (z2 : PySem.W.nsIn K mainGlobals "list" = some none)
    (z3 : PySem.W.nsIn K mainGlobals "int" = some none)
    (z4 : PySem.W.nsIn K mainGlobals "str" = some none)
    (z5 : PySem.W.nsIn K mainGlobals "bool" = some none)
    (z6 : PySem.W.nsIn K mainGlobals "sorted" = some none)
    (z7 : PySem.W.nsIn K mainGlobals "sum" = some none)
    (z8 : PySem.W.nsIn K mainGlobals "max" = some none)
    (z9 : PySem.W.nsIn K mainGlobals "all" = some none)
    (z10 : PySem.W.nsIn K mainGlobals "len" = some none)
    (z11 : PySem.W.nsIn K mainGlobals "range" = some none)
    (z12 : PySem.W.nsIn K mainGlobals "abs" = some none)
    (z13 : PySem.W.nsIn K mainGlobals "repr" = some none)
    (z14 : PySem.W.nsIn K mainGlobals "tuple" = some none)
    : ∃ fd : FuncData, (∀ (s : Shared) (v : Value), BindsTo s fd ⟨[v], []⟩ [("_law_script", v)]) ∧ ∀ base : Heap, K.In base → base.Ns mainGlobals mg → FnOkG l.prog w K mg base CX0 14 fa fd ["_law_script"] (spLaw K) := by
  have e := hfa.symm.trans (PySem.W.mg_of X G a18)
  cases e
  have B : Bi mg := fun x hx => by
    simp only [List.mem_cons, List.not_mem_nil, or_false] at hx
    rcases hx with rfl | rfl | rfl | rfl | rfl | rfl | rfl | rfl | rfl | rfl | rfl | rfl | rfl | rfl | rfl
    · exact PySem.W.mg_none_of X G z0
    · exact PySem.W.mg_none_of X G z1
    · exact PySem.W.mg_none_of X G z2
    · exact PySem.W.mg_none_of X G z3
    · exact PySem.W.mg_none_of X G z4
    · exact PySem.W.mg_none_of X G z5
    · exact PySem.W.mg_none_of X G z6
    · exact PySem.W.mg_none_of X G z7
    · exact PySem.W.mg_none_of X G z8
    · exact PySem.W.mg_none_of X G z9
    · exact PySem.W.mg_none_of X G z10
    · exact PySem.W.mg_none_of X G z11
    · exact PySem.W.mg_none_of X G z12
    · exact PySem.W.mg_none_of X G z13
    · exact PySem.W.mg_none_of X G z14
  have F0 := fun_mk (st := sCheck) l0 c0 k0
  have D0 : Df K mg "check" sCheck ["value"] _ _ := ⟨F0, PySem.W.mg_of X G a0, F0.binds (ps := ["value"]) fun _ _ _ _ _ _ us hl => match us, hl with | [_], _ => rfl⟩
  have F1 := fun_mk (st := sWrong) l1 c1 k1
  have D1 : Df K mg "wrong_path" sWrong ["value"] _ _ := ⟨F1, PySem.W.mg_of X G a1, F1.binds (ps := ["value"]) fun _ _ _ _ _ _ us hl => match us, hl with | [_], _ => rfl⟩
  have F2 := fun_mk (st := sIsAtom) l2 c2 k2
  have D2 : Df K mg "is_atom" sIsAtom ["value"] _ _ := ⟨F2, PySem.W.mg_of X G a2, F2.binds (ps := ["value"]) fun _ _ _ _ _ _ us hl => match us, hl with | [_], _ => rfl⟩
  have F3 := fun_mk (st := sIsElem) l3 c3 k3
  have D3 : Df K mg "is_element" sIsElem ["value"] _ _ := ⟨F3, PySem.W.mg_of X G a3, F3.binds (ps := ["value"]) fun _ _ _ _ _ _ us hl => match us, hl with | [_], _ => rfl⟩
  have F4 := fun_mk (st := sDepth) l4 c4 k4
  have D4 : Df K mg "depth" sDepth ["document"] _ _ := ⟨F4, PySem.W.mg_of X G a4, F4.binds (ps := ["document"]) fun _ _ _ _ _ _ us hl => match us, hl with | [_], _ => rfl⟩
  have F5 := fun_mk (st := sParts) l5 c5 k5
  have D5 : Df K mg "parts" sParts ["document"] _ _ := ⟨F5, PySem.W.mg_of X G a5, F5.binds (ps := ["document"]) fun _ _ _ _ _ _ us hl => match us, hl with | [_], _ => rfl⟩
  have F6 := fun_mk (st := sCopied) l6 c6 k6
  have D6 : Df K mg "copied" sCopied ["document"] _ _ := ⟨F6, PySem.W.mg_of X G a6, F6.binds (ps := ["document"]) fun _ _ _ _ _ _ us hl => match us, hl with | [_], _ => rfl⟩
  have F7 := fun_mk (st := sPatched) l7 c7 k7
  have D7 : Df K mg "patched" sPatched ["document", "patch"] _ _ := ⟨F7, PySem.W.mg_of X G a7, F7.binds (ps := ["document", "patch"]) fun _ _ _ _ _ _ us hl => match us, hl with | [_, _], _ => rfl⟩
  have F8 := fun_mk (st := sApplied) l8 c8 k8
  have D8 : Df K mg "applied" sApplied ["document", "patch"] _ _ := ⟨F8, PySem.W.mg_of X G a8, F8.binds (ps := ["document", "patch"]) fun _ _ _ _ _ _ us hl => match us, hl with | [_, _], _ => rfl⟩
  have F9 := fun_mk (st := sState) l9 c9 k9
  have D9 : Df K mg "_law_state" sState ["_law_source"] _ _ := ⟨F9, PySem.W.mg_of X G a9, F9.binds (ps := ["_law_source"]) fun _ _ _ _ _ _ us hl => match us, hl with | [_], _ => rfl⟩
  have F10 := fun_mk (st := sDigit) l10 c10 k10
  have D10 : Df K mg "_law_digit" sDigit ["_law_state_here", "_law_base"] _ _ := ⟨F10, PySem.W.mg_of X G a10, F10.binds (ps := ["_law_state_here", "_law_base"]) fun _ _ _ _ _ _ us hl => match us, hl with | [_, _], _ => rfl⟩
  have F11 := fun_mk (st := sAtom') l11 c11 k11
  have D11 : Df K mg "_law_atom" sAtom' ["_law_s"] _ _ := ⟨F11, PySem.W.mg_of X G a11, F11.binds (ps := ["_law_s"]) fun _ _ _ _ _ _ us hl => match us, hl with | [_], _ => rfl⟩
  have F12 := fun_mk (st := sPatch) l12 c12 k12
  have D12 : Df K mg "_law_patch" sPatch ["_law_s", "_law_deep_here"] _ _ := ⟨F12, PySem.W.mg_of X G a12, F12.binds (ps := ["_law_s", "_law_deep_here"]) fun _ _ _ _ _ _ us hl => match us, hl with | [_, _], _ => rfl⟩
  have F13 := fun_mk (st := sLCopied) l13 c13 k13
  have D13 : Df K mg "_law_copied" sLCopied ["_law_value"] _ _ := ⟨F13, PySem.W.mg_of X G a13, F13.binds (ps := ["_law_value"]) fun _ _ _ _ _ _ us hl => match us, hl with | [_], _ => rfl⟩
  have F14 := fun_mk (st := sLAfter) l14 c14 k14
  have D14 : Df K mg "_law_after" sLAfter ["_law_document", "_law_patch_here"] _ _ := ⟨F14, PySem.W.mg_of X G a14, F14.binds (ps := ["_law_document", "_law_patch_here"]) fun _ _ _ _ _ _ us hl => match us, hl with | [_, _], _ => rfl⟩
  have F15 := fun_mk (st := sLDeep) l15 c15 k15
  have D15 : Df K mg "_law_deep" sLDeep ["_law_s", "_law_inner"] _ _ := ⟨F15, PySem.W.mg_of X G a15, F15.binds (ps := ["_law_s", "_law_inner"]) fun _ _ _ _ _ _ us hl => match us, hl with | [_, _], _ => rfl⟩
  have F16 := fun_mk (st := sLTurned) l16 c16 k16
  have D16 : Df K mg "_law_turned" sLTurned ["_law_value"] _ _ := ⟨F16, PySem.W.mg_of X G a16, F16.binds (ps := ["_law_value"]) fun _ _ _ _ _ _ us hl => match us, hl with | [_], _ => rfl⟩
  have F17 := fun_mk (st := sLSpoil) l17 c17 k17
  have D17 : Df K mg "_law_spoil" sLSpoil ["_law_value"] _ _ := ⟨F17, PySem.W.mg_of X G a17, F17.binds (ps := ["_law_value"]) fun _ _ _ _ _ _ us hl => match us, hl with | [_], _ => rfl⟩
  have F18 := fun_mk (st := sLaw) l18 c18 k18
  have D18 : Df K mg "law" sLaw ["_law_script"] _ _ := ⟨F18, PySem.W.mg_of X G a18, F18.binds (ps := ["_law_script"]) fun _ _ _ _ _ _ us hl => match us, hl with | [_], _ => rfl⟩
  exact ⟨_, fun s v => .of_eq rfl, fun base _ _ => ok_law (R := ⟨D0, D1, D2, D3, D4, D5, D6, D7, ⟨_, PySem.W.mg_of X G q0⟩, ⟨_, PySem.W.mg_of X G q1⟩⟩) B D18 D8 D9 D10 D11 D12 D13 D14 D15 D16 D17⟩
end TP
open PySem PySem.W PyProof.Rows
set_option maxHeartbeats 0 in
theorem PySem.Challenge.cw_twopatches_k04_patches_applied_holds : PySem.Challenge.rw_twopatches_k04_patches_applied.Holds := by
  w_on; o_law; k_head; (case hw => w_witness2)
  k_fill
  refine TP.walk_G (l := PySem.Challenge.rw_twopatches_k04_patches_applied) (n := 63) (k := 14) (x := "_law_script") (sp := TP.spLaw) rfl (by decide) rfl ⟨rfl, by decide, by decide⟩ (fun w h Y => PySem.W.kIn_of Y) ?F (fun K H a ns hl _ hS => ⟨a, ns, rfl, hS, hl, fun _ => rfl⟩)
  case F =>
    intro w mg fa h KX G hmg
    refine' TP.all_mk KX G hmg ?a0 ?l0 ?c0 ?k0 ?a1 ?l1 ?c1 ?k1 ?a2 ?l2 ?c2 ?k2 ?a3 ?l3 ?c3 ?k3 ?a4 ?l4 ?c4 ?k4 ?a5 ?l5 ?c5 ?k5 ?a6 ?l6 ?c6 ?k6 ?a7 ?l7 ?c7 ?k7 ?a8 ?l8 ?c8 ?k8 ?a9 ?l9 ?c9 ?k9 ?a10 ?l10 ?c10 ?k10 ?a11 ?l11 ?c11 ?k11 ?a12 ?l12 ?c12 ?k12 ?a13 ?l13 ?c13 ?k13 ?a14 ?l14 ?c14 ?k14 ?a15 ?l15 ?c15 ?k15 ?a16 ?l16 ?c16 ?k16 ?a17 ?l17 ?c17 ?k17 ?a18 ?l18 ?c18 ?k18 ?q0 ?q1 ?z0 ?z1 ?z2 ?z3 ?z4 ?z5 ?z6 ?z7 ?z8 ?z9 ?z10 ?z11 ?z12 ?z13 ?z14
    (case a0 => k_is)
    (case l0 => k_is)
    (case c0 => k_is)
    (case k0 => k_is)
    (case a1 => k_is)
    (case l1 => k_is)
    (case c1 => k_is)
    (case k1 => k_is)
    (case a2 => k_is)
    (case l2 => k_is)
    (case c2 => k_is)
    (case k2 => k_is)
    (case a3 => k_is)
    (case l3 => k_is)
    (case c3 => k_is)
    (case k3 => k_is)
    (case a4 => k_is)
    (case l4 => k_is)
    (case c4 => k_is)
    (case k4 => k_is)
    (case a5 => k_is)
    (case l5 => k_is)
    (case c5 => k_is)
    (case k5 => k_is)
    (case a6 => k_is)
    (case l6 => k_is)
    (case c6 => k_is)
    (case k6 => k_is)
    (case a7 => k_is)
    (case l7 => k_is)
    (case c7 => k_is)
    (case k7 => k_is)
    (case a8 => k_is)
    (case l8 => k_is)
    (case c8 => k_is)
    (case k8 => k_is)
    (case a9 => k_is)
    (case l9 => k_is)
    (case c9 => k_is)
    (case k9 => k_is)
    (case a10 => k_is)
    (case l10 => k_is)
    (case c10 => k_is)
    (case k10 => k_is)
    (case a11 => k_is)
    (case l11 => k_is)
    (case c11 => k_is)
    (case k11 => k_is)
    (case a12 => k_is)
    (case l12 => k_is)
    (case c12 => k_is)
    (case k12 => k_is)
    (case a13 => k_is)
    (case l13 => k_is)
    (case c13 => k_is)
    (case k13 => k_is)
    (case a14 => k_is)
    (case l14 => k_is)
    (case c14 => k_is)
    (case k14 => k_is)
    (case a15 => k_is)
    (case l15 => k_is)
    (case c15 => k_is)
    (case k15 => k_is)
    (case a16 => k_is)
    (case l16 => k_is)
    (case c16 => k_is)
    (case k16 => k_is)
    (case a17 => k_is)
    (case l17 => k_is)
    (case c17 => k_is)
    (case k17 => k_is)
    (case a18 => k_is)
    (case l18 => k_is)
    (case c18 => k_is)
    (case k18 => k_is)
    (case q0 => k_is)
    (case q1 => k_is)
    (case z0 => k_is)
    (case z1 => k_is)
    (case z2 => k_is)
    (case z3 => k_is)
    (case z4 => k_is)
    (case z5 => k_is)
    (case z6 => k_is)
    (case z7 => k_is)
    (case z8 => k_is)
    (case z9 => k_is)
    (case z10 => k_is)
    (case z11 => k_is)
    (case z12 => k_is)
    (case z13 => k_is)
    (case z14 => k_is)
