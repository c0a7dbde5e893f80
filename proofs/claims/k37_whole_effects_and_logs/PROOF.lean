import PyProof.Rows.All
import Wide.All
import OpenK.AllK
import Wide.FinOn
import HandS.ForMost
import HandS.ForExc
import HandS.DictComp
import HandS.IsInst
import HandS.Zip
import HandS.TupAny
import HandS.Conv
import HandS.Wide
import HandS.Style
import HandS.TupMul
import HandS.Rev
import KE.GoesEnum
import HandS.SortInts
import HandS.NoneIn
import HandS.TupSets
import HandS.SetKeys
import HandS.SetFor
import HandS.FStr
import HandS.Text
import HandS.DeepEq
import KE.DataMinMax
import HandS.TryOnly
import HandS.ExcOwn
import HandS.WordsExc
import HandS.GenList
import HandS.GenCall
import KE.DataFind
import HandS.Property
import HandS.ClsMeth
import HandS.Star
import HandS.More
import HandS.Strs
import HandS.SlotsOwn
import KE.KOpsOwn
import KE.KDictZip
import PyProof.ExcBaseAll.ValueError
import PySem.Challenge.RW_lastofkind_k37_whole_effects_and_logs
set_option Elab.async false
set_option linter.all false
set_option maxRecDepth 100000
set_option maxHeartbeats 4000000
namespace DL
open PySem PySem.Spec PyProof.Rows L2
section
/-! Data-level judgements: a def's body told by plain data (PyData) and a list of owned cells; no address is seen. -/

abbrev D := PyData
abbrev Fg := PySem.W.Frag

/-! ### weakest readings -/
def wE (X : Cx) (e : Expr) : TE := fun σ H Q => ∃ t, PE X e t ∧ t σ H Q
def wT (X : Cx) (e : Expr) : TT := fun σ H Q => ∃ t, PT X e t ∧ t σ H Q
def wW (X : Cx) (e : Expr) : TT := fun σ H Q => ∃ t, PW X e t ∧ t σ H Q
def wA (X : Cx) (es : List Expr) : TA := fun σ H Q => ∃ t, PA X es t ∧ t σ H Q
def wS (X : Cx) (st : Stmt) : TS := fun K σ H => ∃ t, PS X st t ∧ t K σ H
def wSs (X : Cx) (st : List Stmt) : TS := fun K σ H => ∃ t, PSs X st t ∧ t K σ H
section
variable {X : Cx}
theorem pe_w {e : Expr} : PE X e (wE X e) := ⟨fun pins s σ H Q I h => by
  obtain ⟨_, p, q⟩ := h
  exact p.run pins s σ H Q I q⟩
theorem pt_w {e : Expr} : PT X e (wT X e) := ⟨fun pins s σ H Q I h => by
  obtain ⟨_, p, q⟩ := h
  exact p.run pins s σ H Q I q⟩
theorem pw_w {e : Expr} : PW X e (wW X e) := ⟨fun wh pins s σ H Q I h => by
  obtain ⟨_, p, q⟩ := h
  exact p.run wh pins s σ H Q I q⟩
theorem pa_w {es : List Expr} : PA X es (wA X es) := ⟨fun po pins s σ H Q I h => by
  obtain ⟨_, p, q⟩ := h
  exact p.run po pins s σ H Q I q⟩
theorem ps_w {st : Stmt} : PS X st (wS X st) := ⟨fun pins s σ H K I h => by
  obtain ⟨_, p, q⟩ := h
  exact p.run pins s σ H K I q⟩
theorem pss_w {st : List Stmt} : PSs X st (wSs X st) := ⟨fun pins s σ H K I h => by
  obtain ⟨_, p, q⟩ := h
  exact p.run pins s σ H K I q⟩
end

/-! ### data that is read stays data -/
theorem rd_up {H H' : Hp} {a : Addr} {u : HO} (e : Same H H') (h : Rd H a u) : Rd H' a u := by
  rcases h with h | ⟨o, h⟩
  · exact .inl (e _ _ h)
  · exact .inr ⟨o, e _ _ h⟩
theorem sqL_up {K : Fg} {H H' : Hp} {a : Addr} {xs : List V} (e : Same H H') (h : SqL K H a xs) : SqL K H' a xs := by
  rcases h with h | h
  · exact .inl (rd_up e h)
  · exact .inr h
theorem sqT_up {K : Fg} {H H' : Hp} {a : Addr} {xs : List V} (e : Same H H') (h : SqT K H a xs) : SqT K H' a xs := by
  rcases h with h | h
  · exact .inl (rd_up e h)
  · exact .inr h
mutual
theorem dp_up {K : Fg} {H H' : Hp} (e : Same H H') : ∀ {v : V} {d : D}, Dp K H v d → Dp K H' v d
  | _, _, .non => .non
  | _, _, .bl b => .bl b
  | _, _, .int i => .int i
  | _, _, .str x => .str x
  | _, _, .lst h q => .lst (sqL_up e h) (dpAll_up e q)
  | _, _, .tup h q => .tup (sqT_up e h) (dpAll_up e q)
theorem dpAll_up {K : Fg} {H H' : Hp} (e : Same H H') : ∀ {vs : List V} {ds : List D}, DpAll K H vs ds → DpAll K H' vs ds
  | _, _, .nil => .nil
  | _, _, .cons h q => .cons (dp_up e h) (dpAll_up e q)
end
theorem dpAll_len {K : Fg} {H : Hp} : ∀ {vs : List V} {ds : List D}, DpAll K H vs ds → vs.length = ds.length
  | _, _, .nil => rfl
  | _, _, .cons _ q => by rw [List.length_cons, List.length_cons, dpAll_len q]
theorem dpAll_get {K : Fg} {H : Hp} : ∀ {vs : List V} {ds : List D} {i : Nat} {v : V}, DpAll K H vs ds → vs[i]? = some v → ∃ d, ds[i]? = some d ∧ Dp K H v d
  | _, _, i, v, .nil, h => by simp at h
  | _, _, 0, v, .cons h q, e => by
    simp at e
    subst e
    exact ⟨_, rfl, h⟩
  | _, _, i + 1, v, .cons h q, e => by
    simp at e
    obtain ⟨d, e1, e2⟩ := dpAll_get q e
    exact ⟨d, by simpa using e1, e2⟩
theorem dpAll_at {K : Fg} {H : Hp} : ∀ {vs : List V} {ds : List D} {i : Nat} {d : D}, DpAll K H vs ds → ds[i]? = some d → ∃ v, vs[i]? = some v ∧ Dp K H v d
  | _, _, i, v, .nil, h => by simp at h
  | _, _, 0, v, .cons h q, e => by
    simp at e
    subst e
    exact ⟨_, rfl, h⟩
  | _, _, i + 1, v, .cons h q, e => by
    simp at e
    obtain ⟨w, e1, e2⟩ := dpAll_at q e
    exact ⟨w, by simpa using e1, e2⟩
theorem dpAll_app {K : Fg} {H : Hp} : ∀ {vs ws : List V} {ds es : List D}, DpAll K H vs ds → DpAll K H ws es → DpAll K H (vs ++ ws) (ds ++ es)
  | _, _, _, _, .nil, q => q
  | _, _, _, _, .cons h r, q => .cons h (dpAll_app r q)
theorem dpAll_set {K : Fg} {H : Hp} {v : V} {d : D} (h0 : Dp K H v d) : ∀ {vs : List V} {ds : List D} (i : Nat), DpAll K H vs ds → DpAll K H (vs.set i v) (ds.set i d)
  | _, _, _, .nil => .nil
  | _, _, 0, .cons _ r => .cons h0 r
  | _, _, i + 1, .cons h r => .cons h (dpAll_set h0 i r)
theorem dpAll_take {K : Fg} {H : Hp} : ∀ {vs : List V} {ds : List D} (n : Nat), DpAll K H vs ds → DpAll K H (vs.take n) (ds.take n)
  | _, _, 0, _ => .nil
  | _, _, _ + 1, .nil => .nil
  | _, _, n + 1, .cons h r => .cons h (dpAll_take n r)
theorem dpAll_drop {K : Fg} {H : Hp} : ∀ {vs : List V} {ds : List D} (n : Nat), DpAll K H vs ds → DpAll K H (vs.drop n) (ds.drop n)
  | _, _, 0, h => h
  | _, _, _ + 1, .nil => .nil
  | _, _, n + 1, .cons _ r => dpAll_drop n r
theorem dp_tup_inv {K : Fg} {H : Hp} {v : V} {ds : List D} (h : Dp K H v (.tuple ds)) : ∃ a xs, v = .ref a ∧ SqT K H a xs ∧ DpAll K H xs ds := by
  cases h with
  | tup h q => exact ⟨_, _, rfl, h, q⟩
theorem dp_lst_inv {K : Fg} {H : Hp} {v : V} {ds : List D} (h : Dp K H v (.list ds)) : ∃ a xs, v = .ref a ∧ SqL K H a xs ∧ DpAll K H xs ds := by
  cases h with
  | lst h q => exact ⟨_, _, rfl, h, q⟩
theorem dp_int_inv {K : Fg} {H : Hp} {v : V} {i : Int} (h : Dp K H v (.int i)) : v = .int i := by
  cases h; rfl
theorem dp_bl_inv {K : Fg} {H : Hp} {v : V} {b : Bool} (h : Dp K H v (.bool b)) : v = .bl b := by
  cases h; rfl
theorem dp_str_inv {K : Fg} {H : Hp} {v : V} {x : Str} (h : Dp K H v (.str x)) : v = .str x := by
  cases h; rfl
theorem dp_non_inv {K : Fg} {H : Hp} {v : V} (h : Dp K H v .none) : v = .non := by
  cases h; rfl
theorem same_new {H : Hp} {p : Addr} {o : HO} (h : H p = none) : Same H (upd H p o) := fun b x e => by
  rw [upd_ne (ne_of_none e h)]
  exact e

/-! ### owned cells -/
def keyD : Key → D
  | .inl i => .int i
  | .inr x => .str x
/-- what a dict with tuple keys holds: key, the key's own tuple, value -/
abbrev TEnt := List Key × Addr × V
inductive Cell where
  | lst (ds : List D)
  | dct (kvs : List (Key × D))
  | oth (o : Addr → HO)
  | tdc (f : List TEnt → Addr → HO) (kvs : List (List Key × D))
  | dead
  /-- something that is known for good; something owned: by what is true of it -/
  | kn (p : Fg → Hp → Addr → Prop)
  | gn (p : Fg → Hp → HO → Addr → Prop)
abbrev TdOk (K : Fg) (B : Hp) : List TEnt → List (List Key × D) → Prop := Paired fun (t : TEnt) (q : List Key × D) => t.1 = q.1 ∧ Dp K B (.ref t.2.1) (.tuple (q.1.map keyD)) ∧ Dp K B t.2.2 q.2
abbrev KvOk (K : Fg) (B : Hp) : List (Key × V) → List (Key × D) → Prop := Paired fun (p : Key × V) (q : Key × D) => p.1 = q.1 ∧ Dp K B p.2 q.2
def CellOk (K : Fg) (B H : Hp) (a : Addr) : Cell → Prop
  | .lst ds => B a = none ∧ ∃ xs, H a = some (.lst xs) ∧ DpAll K B xs ds
  | .dct kvs => B a = none ∧ ∃ kv, H a = some (.dK kv) ∧ KvOk K B kv kvs
  | .oth o => B a = none ∧ H a = some (o a)
  | .tdc f kvs => B a = none ∧ ∃ ts, H a = some (f ts a) ∧ TdOk K B ts kvs
  | .dead => B a ≠ none
  | .kn p => B a ≠ none ∧ ∃ B0, Same B0 B ∧ p K B0 a
  | .gn p => B a = none ∧ ∃ B0 o, Same B0 B ∧ H a = some o ∧ p K B0 o a
theorem td_up {K : Fg} {B B' : Hp} (e : Same B B') : ∀ {a : List TEnt} {b : List (List Key × D)}, TdOk K B a b → TdOk K B' a b
  | _, _, .nil => .nil
  | _, _, .cons h q => .cons ⟨h.1, dp_up e h.2.1, dp_up e h.2.2⟩ (td_up e q)
theorem kv_up {K : Fg} {B B' : Hp} (e : Same B B') : ∀ {a : List (Key × V)} {b : List (Key × D)}, KvOk K B a b → KvOk K B' a b
  | _, _, .nil => .nil
  | _, _, .cons h q => .cons ⟨h.1, dp_up e h.2⟩ (kv_up e q)

/-- B: what is known for good; F: what others own; as, ω: the owned cells -/
structure Wd (K : Fg) (B F H : Hp) (as : List Addr) (ω : List Cell) : Prop where
  b : Same B H
  f : ∀ a o, F a = some o → H a = some o ∧ B a = none
  len : as.length = ω.length
  nd : as.Nodup
  at' : ∀ (k : Nat) (a : Addr) (c : Cell), as[k]? = some a → ω[k]? = some c → F a = none ∧ H a ≠ none ∧ CellOk K B H a c

theorem nodup_at {as : List Addr} (h : as.Nodup) {i j : Nat} {a : Addr} (e1 : as[i]? = some a) (e2 : as[j]? = some a) : i = j := by
  obtain ⟨h1, x1⟩ := List.getElem?_eq_some_iff.mp e1
  obtain ⟨h2, x2⟩ := List.getElem?_eq_some_iff.mp e2
  exact (List.getElem_inj h).mp (x1.trans x2.symm)
section
variable {K : Fg} {B F H : Hp} {as : List Addr} {ω : List Cell}
theorem Wd.freeB (w : Wd K B F H as ω) {p : Addr} (h : H p = none) : B p = none := w.b.free h
theorem Wd.freeF (w : Wd K B F H as ω) {p : Addr} (h : H p = none) : F p = none := by
  cases q : F p with
  | none => rfl
  | some o =>
    rw [(w.f _ _ q).1] at h
    cases h
theorem Wd.freeA (w : Wd K B F H as ω) {p : Addr} (h : H p = none) : p ∉ as := fun hm => by
  obtain ⟨k, hk, e⟩ := List.mem_iff_getElem.mp hm
  have e1 : as[k]? = some p := by rw [List.getElem?_eq_getElem hk, e]
  have hk2 : k < ω.length := by rw [← w.len]; exact hk
  exact (w.at' k p ω[k] e1 (List.getElem?_eq_getElem hk2)).2.1 h
theorem cell_up {B' H' : Hp} {a : Addr} {c : Cell} (h : CellOk K B H a c) (e : Same B B') (hb : B a = none → B' a = none) (hh : H' a = H a) : CellOk K B' H' a c := by
  cases c with
  | lst ds =>
    obtain ⟨h1, xs, h2, h3⟩ := h
    exact ⟨hb h1, xs, hh.trans h2, dpAll_up e h3⟩
  | oth o => exact ⟨hb h.1, hh.trans h.2⟩
  | tdc f kvs =>
    obtain ⟨h1, ts, h2, h3⟩ := h
    exact ⟨hb h1, ts, hh.trans h2, td_up e h3⟩
  | dct kvs =>
    obtain ⟨h1, xs, h2, h3⟩ := h
    exact ⟨hb h1, xs, hh.trans h2, kv_up e h3⟩
  | dead =>
    obtain ⟨o, ho⟩ := Option.ne_none_iff_exists'.mp h
    show B' a ≠ none
    rw [e _ _ ho]
    simp
  | kn p =>
    obtain ⟨h1, B0, h2, h3⟩ := h
    obtain ⟨o, ho⟩ := Option.ne_none_iff_exists'.mp h1
    exact ⟨by rw [e _ _ ho]; simp, B0, h2.trans e, h3⟩
  | gn p =>
    obtain ⟨h1, B0, o, h2, h3, h4⟩ := h
    exact ⟨hb h1, B0, o, h2.trans e, hh.trans h3, h4⟩
theorem cell_keep {B' H' : Hp} {a : Addr} {c : Cell} (h : CellOk K B H a c) (hB : B a ≠ none) (e : Same B B') : CellOk K B' H' a c := by
  obtain ⟨o, ho⟩ := Option.ne_none_iff_exists'.mp hB
  have hB' : B' a ≠ none := by
    rw [e _ _ ho]
    simp
  cases c with
  | lst ds => exact absurd h.1 hB
  | oth o => exact absurd h.1 hB
  | tdc f kvs => exact absurd h.1 hB
  | dct kvs => exact absurd h.1 hB
  | gn p => exact absurd h.1 hB
  | dead => exact hB'
  | kn p =>
    obtain ⟨h1, B0, h2, h3⟩ := h
    exact ⟨hB', B0, h2.trans e, h3⟩
/-- a new thing, known for good -/
theorem Wd.new (w : Wd K B F H as ω) {p : Addr} {o : HO} (h : H p = none) : Wd K (upd B p o) F (upd H p o) as ω ∧ Same B (upd B p o) := by
  have hB := w.freeB h
  have hF := w.freeF h
  have hA := w.freeA h
  have sb : Same B (upd B p o) := same_new hB
  refine ⟨⟨fun b x e => ?_, fun b x e => ?_, w.len, w.nd, fun k a c e1 e2 => ?_⟩, sb⟩
  · by_cases hb : b = p
    · subst hb
      rw [upd_same] at e ⊢
      exact e
    · rw [upd_ne hb] at e ⊢
      exact w.b _ _ e
  · have hb : b ≠ p := fun z => by
      rw [z, hF] at e
      cases e
    rw [upd_ne hb, upd_ne hb]
    exact w.f _ _ e
  · have ha : a ≠ p := fun z => hA (z ▸ List.mem_of_getElem? e1)
    obtain ⟨q1, q2, q3⟩ := w.at' k a c e1 e2
    refine ⟨q1, by rw [upd_ne ha]; exact q2, cell_up q3 sb (fun z => by rw [upd_ne ha]; exact z) (upd_ne ha)⟩
/-- a new thing, owned -/
theorem Wd.own (w : Wd K B F H as ω) {p : Addr} {o : HO} {c : Cell} (h : H p = none) (hc : B p = none → CellOk K B (upd H p o) p c) : Wd K B F (upd H p o) (as ++ [p]) (ω ++ [c]) := by
  have hB := w.freeB h
  have hF := w.freeF h
  have hA := w.freeA h
  refine ⟨fun b x e => ?_, fun b x e => ?_, by rw [List.length_append, List.length_append, w.len]; rfl, ?_, fun k a c' e1 e2 => ?_⟩
  · have hb : b ≠ p := fun z => by
      rw [z, hB] at e
      cases e
    rw [upd_ne hb]
    exact w.b _ _ e
  · have hb : b ≠ p := fun z => by
      rw [z, hF] at e
      cases e
    rw [upd_ne hb]
    exact w.f _ _ e
  · rw [List.nodup_append]
    refine ⟨w.nd, by simp, fun x hx y hy => ?_⟩
    have : y = p := by simpa using hy
    subst this
    exact fun z => hA (z ▸ hx)
  · by_cases hk : k < as.length
    · rw [List.getElem?_append_left hk] at e1
      rw [List.getElem?_append_left (by rw [← w.len]; exact hk)] at e2
      have ha : a ≠ p := fun z => hA (z ▸ List.mem_of_getElem? e1)
      obtain ⟨q1, q2, q3⟩ := w.at' k a c' e1 e2
      exact ⟨q1, by rw [upd_ne ha]; exact q2, cell_up q3 (Same.refl _) (fun z => z) (upd_ne ha)⟩
    · have hk2 : k = as.length := by
        have := (List.getElem?_eq_some_iff.mp e1).1
        rw [List.length_append] at this
        simp at this
        omega
      subst hk2
      rw [List.getElem?_append_right (Nat.le_refl _), Nat.sub_self] at e1
      rw [w.len, List.getElem?_append_right (Nat.le_refl _), Nat.sub_self] at e2
      simp at e1 e2
      subst e1 e2
      exact ⟨hF, by rw [upd_same]; simp, hc hB⟩
/-- an owned thing is changed -/
theorem Wd.write (w : Wd K B F H as ω) {k : Nat} {a : Addr} {o : HO} {c c' : Cell} (ha : as[k]? = some a) (hc : ω[k]? = some c) (hd : B a = none) (hn : CellOk K B (upd H a o) a c') : Wd K B F (upd H a o) as (ω.set k c') := by
  obtain ⟨q1, q2, q3⟩ := w.at' k a c ha hc
  refine ⟨fun b x e => ?_, fun b x e => ?_, by rw [List.length_set]; exact w.len, w.nd, fun j b d e1 e2 => ?_⟩
  · have hb : b ≠ a := fun z => by
      rw [z, hd] at e
      cases e
    rw [upd_ne hb]
    exact w.b _ _ e
  · have hb : b ≠ a := fun z => by
      rw [z, q1] at e
      cases e
    rw [upd_ne hb]
    exact w.f _ _ e
  · by_cases hj : j = k
    · subst hj
      rw [ha] at e1
      cases e1
      have hk : j < ω.length := (List.getElem?_eq_some_iff.mp hc).1
      rw [List.getElem?_set_self hk] at e2
      cases e2
      exact ⟨q1, by rw [upd_same]; simp, hn⟩
    · rw [List.getElem?_set_ne (Ne.symm hj)] at e2
      have hb : b ≠ a := fun z => hj (nodup_at w.nd (z ▸ e1) ha)
      obtain ⟨r1, r2, r3⟩ := w.at' j b d e1 e2
      exact ⟨r1, by rw [upd_ne hb]; exact r2, cell_up r3 (Same.refl _) (fun z => z) (upd_ne hb)⟩
/-- an owned list becomes known for good -/
theorem Wd.freeze (w : Wd K B F H as ω) {k : Nat} {a : Addr} {ds : List D} (ha : as[k]? = some a) (hc : ω[k]? = some (.lst ds)) :
    ∃ B', Same B B' ∧ Wd K B' F H as (ω.set k .dead) ∧ Dp K B' (.ref a) (.list ds) := by
  obtain ⟨q1, q2, q3, xs, q4, q5⟩ := w.at' k a _ ha hc
  have sb : Same B (upd B a (.lst xs)) := same_new q3
  refine ⟨upd B a (.lst xs), sb, ⟨fun b x e => ?_, fun b x e => ?_, by rw [List.length_set]; exact w.len, w.nd, fun j b d e1 e2 => ?_⟩, .lst (.inl (.inl upd_same)) (dpAll_up sb q5)⟩
  · by_cases hb : b = a
    · subst hb
      rw [upd_same] at e
      cases e
      exact q4
    · rw [upd_ne hb] at e
      exact w.b _ _ e
  · have hb : b ≠ a := fun z => by
      rw [z, q1] at e
      cases e
    rw [upd_ne hb]
    exact w.f _ _ e
  · by_cases hj : j = k
    · subst hj
      rw [ha] at e1
      cases e1
      have hk : j < ω.length := (List.getElem?_eq_some_iff.mp hc).1
      rw [List.getElem?_set_self hk] at e2
      cases e2
      exact ⟨q1, q2, by show upd B a (.lst xs) a ≠ none; rw [upd_same]; simp⟩
    · rw [List.getElem?_set_ne (Ne.symm hj)] at e2
      have hb : b ≠ a := fun z => hj (nodup_at w.nd (z ▸ e1) ha)
      obtain ⟨r1, r2, r3⟩ := w.at' j b d e1 e2
      exact ⟨r1, r2, cell_up r3 sb (fun z => by rw [upd_ne hb]; exact z) rfl⟩
theorem Wd.cellL (w : Wd K B F H as ω) {k : Nat} {a : Addr} {ds : List D} (ha : as[k]? = some a) (hc : ω[k]? = some (.lst ds)) : B a = none ∧ ∃ xs, H a = some (.lst xs) ∧ DpAll K B xs ds := (w.at' k a _ ha hc).2.2
theorem Wd.cellD (w : Wd K B F H as ω) {k : Nat} {a : Addr} {kvs : List (Key × D)} (ha : as[k]? = some a) (hc : ω[k]? = some (.dct kvs)) : B a = none ∧ ∃ xs, H a = some (.dK xs) ∧ KvOk K B xs kvs := (w.at' k a _ ha hc).2.2
end

/-! ### slots -/
inductive Sl where
  | no
  | val (d : D)
  | own (k : Nat)
  /-- a value that is known for good, by what is true of it -/
  | kn (p : Fg → Hp → V → Prop)
def SlOk (K : Fg) (B : Hp) (as : List Addr) : Option V → Sl → Prop
  | _, .no => True
  | o, .val d => ∃ v, o = some v ∧ Dp K B v d
  | o, .own k => ∃ a, o = some (.ref a) ∧ as[k]? = some a
  | o, .kn p => ∃ v B0, o = some v ∧ Same B0 B ∧ p K B0 v
theorem slv {K : Fg} {B : Hp} {as : List Addr} {v : V} {d : D} (h : Dp K B v d) : SlOk K B as (some v) (.val d) := ⟨v, rfl, h⟩
theorem slo {K : Fg} {B : Hp} {as : List Addr} {a : Addr} {k : Nat} (h : as[k]? = some a) : SlOk K B as (some (.ref a)) (.own k) := ⟨a, rfl, h⟩
abbrev EnvOk (K : Fg) (B : Hp) (as : List Addr) : List (Option V) → List Sl → Prop := Paired (SlOk K B as)
section
variable {K : Fg} {B B' : Hp} {as as' : List Addr}
theorem pre_get {as as' : List Addr} (p : as <+: as') {k : Nat} {a : Addr} (h : as[k]? = some a) : as'[k]? = some a := by
  obtain ⟨t, rfl⟩ := p
  rw [List.getElem?_append_left (List.getElem?_eq_some_iff.mp h).1]
  exact h
theorem slOk_up (e : Same B B') (p : as <+: as') {o : Option V} {s : Sl} (h : SlOk K B as o s) : SlOk K B' as' o s := by
  cases s with
  | no => trivial
  | val d =>
    obtain ⟨v, h1, h2⟩ := h
    exact ⟨v, h1, dp_up e h2⟩
  | own k =>
    obtain ⟨a, h1, h2⟩ := h
    exact ⟨a, h1, pre_get p h2⟩
  | kn q =>
    obtain ⟨v, B0, h1, h2, h3⟩ := h
    exact ⟨v, B0, h1, h2.trans e, h3⟩
theorem envOk_up (e : Same B B') (p : as <+: as') : ∀ {σ : List (Option V)} {δ : List Sl}, EnvOk K B as σ δ → EnvOk K B' as' σ δ
  | _, _, .nil => .nil
  | _, _, .cons h q => .cons (slOk_up e p h) (envOk_up e p q)
theorem envOk_get : ∀ {σ : List (Option V)} {δ : List Sl} {i : Nat} {s : Sl}, EnvOk K B as σ δ → δ[i]? = some s → ∃ o, σ[i]? = some o ∧ SlOk K B as o s
  | _, _, i, s, .nil, e => by simp at e
  | _, _, 0, s, .cons h q, e => by
    simp at e
    subst e
    exact ⟨_, rfl, h⟩
  | _, _, i + 1, s, .cons h q, e => by
    simp at e
    obtain ⟨o, e1, e2⟩ := envOk_get q e
    exact ⟨o, by simpa using e1, e2⟩
theorem envOk_set {o : Option V} {s : Sl} (h0 : SlOk K B as o s) : ∀ {σ : List (Option V)} {δ : List Sl} (i : Nat), EnvOk K B as σ δ → EnvOk K B as (σ.set i o) (δ.set i s)
  | _, _, _, .nil => .nil
  | _, _, 0, .cons h q => .cons h0 q
  | _, _, i + 1, .cons h q => .cons h (envOk_set h0 i q)
theorem envOk_len : ∀ {σ : List (Option V)} {δ : List Sl}, EnvOk K B as σ δ → σ.length = δ.length
  | _, _, .nil => rfl
  | _, _, .cons _ q => by rw [List.length_cons, List.length_cons, envOk_len q]
theorem envOk_app : ∀ {σ σ2 : List (Option V)} {δ δ2 : List Sl}, EnvOk K B as σ δ → EnvOk K B as σ2 δ2 → EnvOk K B as (σ ++ σ2) (δ ++ δ2)
  | _, _, _, _, .nil, q => q
  | _, _, _, _, .cons h r, q => .cons h (envOk_app r q)
theorem envOk_vals : ∀ {vs : List V} {ds : List D}, DpAll K B vs ds → EnvOk K B as (vs.map some) (ds.map Sl.val)
  | _, _, .nil => .nil
  | _, _, .cons h q => .cons ⟨_, rfl, h⟩ (envOk_vals q)
theorem envOk_none : ∀ n : Nat, EnvOk K B as (List.replicate n none) (List.replicate n Sl.no)
  | 0 => .nil
  | n + 1 => .cons trivial (envOk_none n)
end

/-! ### what an expression comes to -/
abbrev PO1 := Sl → List Cell → Prop
/-- all ends at which P holds are wanted ends -/
def Out (K : Fg) (B F : Hp) (as : List Addr) (P : PO1) (Q : VK) : Prop :=
  ∀ v B' H' as' r ω', Same B B' → as <+: as' → Wd K B' F H' as' ω' → SlOk K B' as' (some v) r → P r ω' → Q v H'
def OutB (K : Fg) (B F : Hp) (as : List Addr) (P : Bool → List Cell → Prop) (Q : Bool → Hp → Prop) : Prop :=
  ∀ b B' H' as' ω', Same B B' → as <+: as' → Wd K B' F H' as' ω' → P b ω' → Q b H'
/-- results of an argument list -/
inductive RsOk (K : Fg) (B : Hp) (as : List Addr) : List V → List Sl → Prop
  | nil : RsOk K B as [] []
  | cons {v vs r rs} : SlOk K B as (some v) r → RsOk K B as vs rs → RsOk K B as (v :: vs) (r :: rs)
def OutA (K : Fg) (B F : Hp) (as : List Addr) (P : List Sl → List Cell → Prop) (Q : List V → Hp → Prop) : Prop :=
  ∀ vs B' H' as' rs ω', Same B B' → as <+: as' → Wd K B' F H' as' ω' → RsOk K B' as' vs rs → P rs ω' → Q vs H'
def DE (X : Cx) (e : Expr) (δ : List Sl) (ω : List Cell) (P : PO1) : Prop :=
  ∀ B F H as σ, Wd X.K B F H as ω → EnvOk X.K B as σ δ → ∀ Q, Out X.K B F as P Q → wE X e σ H Q
def DT (X : Cx) (e : Expr) (δ : List Sl) (ω : List Cell) (P : Bool → List Cell → Prop) : Prop :=
  ∀ B F H as σ, Wd X.K B F H as ω → EnvOk X.K B as σ δ → ∀ Q, OutB X.K B F as P Q → wT X e σ H Q
def DW (X : Cx) (e : Expr) (δ : List Sl) (ω : List Cell) (P : Bool → List Cell → Prop) : Prop :=
  ∀ B F H as σ, Wd X.K B F H as ω → EnvOk X.K B as σ δ → ∀ Q, OutB X.K B F as P Q → wW X e σ H Q
def DA (X : Cx) (es : List Expr) (δ : List Sl) (ω : List Cell) (P : List Sl → List Cell → Prop) : Prop :=
  ∀ B F H as σ, Wd X.K B F H as ω → EnvOk X.K B as σ δ → ∀ Q, OutA X.K B F as P Q → wA X es σ H Q
theorem Out.up {K : Fg} {B B' F : Hp} {as as' : List Addr} {P : PO1} {Q : VK} (h : Out K B F as P Q) (e : Same B B') (p : as <+: as') : Out K B' F as' P Q :=
  fun v B2 H2 as2 r ω2 e2 p2 => h v B2 H2 as2 r ω2 (e.trans e2) (p.trans p2)
theorem OutB.up {K : Fg} {B B' F : Hp} {as as' : List Addr} {P : Bool → List Cell → Prop} {Q : Bool → Hp → Prop} (h : OutB K B F as P Q) (e : Same B B') (p : as <+: as') : OutB K B' F as' P Q :=
  fun v B2 H2 as2 ω2 e2 p2 => h v B2 H2 as2 ω2 (e.trans e2) (p.trans p2)
theorem OutA.up {K : Fg} {B B' F : Hp} {as as' : List Addr} {P : List Sl → List Cell → Prop} {Q : List V → Hp → Prop} (h : OutA K B F as P Q) (e : Same B B') (p : as <+: as') : OutA K B' F as' P Q :=
  fun v B2 H2 as2 rs ω2 e2 p2 => h v B2 H2 as2 rs ω2 (e.trans e2) (p.trans p2)
theorem rsOk_up {K : Fg} {B B' : Hp} {as as' : List Addr} (e : Same B B') (p : as <+: as') : ∀ {vs : List V} {rs : List Sl}, RsOk K B as vs rs → RsOk K B' as' vs rs
  | _, _, .nil => .nil
  | _, _, .cons h q => .cons (slOk_up e p h) (rsOk_up e p q)
theorem rsOk_vals {K : Fg} {B : Hp} {as : List Addr} : ∀ {vs : List V} {ds : List D}, RsOk K B as vs (ds.map Sl.val) → DpAll K B vs ds
  | _, [], .nil => .nil
  | _, d :: ds, .cons h q => by
    obtain ⟨v, e, hd⟩ := h
    cases e
    exact .cons hd (rsOk_vals q)

section
variable {X : Cx} {e a b c : Expr} {es : List Expr} {δ : List Sl} {ω : List Cell} {P P' : PO1} {pos : Pos}
theorem DE.mono (h : DE X e δ ω P) (hp : ∀ r ω', P r ω' → P' r ω') : DE X e δ ω P' :=
  fun B F H as σ w ev Q o => h B F H as σ w ev Q fun v B' H' as' r ω' e1 e2 e3 e4 e5 => o v B' H' as' r ω' e1 e2 e3 e4 (hp _ _ e5)
theorem DT.mono {P P' : Bool → List Cell → Prop} (h : DT X e δ ω P) (hp : ∀ r ω', P r ω' → P' r ω') : DT X e δ ω P' :=
  fun B F H as σ w ev Q o => h B F H as σ w ev Q fun v B' H' as' ω' e1 e2 e3 e5 => o v B' H' as' ω' e1 e2 e3 (hp _ _ e5)
/-- an owned list that is handed on as data -/
theorem DE.frz (h : DE X e δ ω (fun r ω1 => (∃ d, r = .val d ∧ P (.val d) ω1) ∨ ∃ k ds, r = .own k ∧ ω1[k]? = some (.lst ds) ∧ P (.val (.list ds)) (ω1.set k .dead))) : DE X e δ ω P :=
  fun B F H as σ w ev Q o => h B F H as σ w ev Q fun v B' H' as' r ω' e1 e2 e3 e4 e5 => by
    rcases e5 with ⟨d, rfl, q⟩ | ⟨k, ds, rfl, hk, q⟩
    · exact o v B' H' as' _ ω' e1 e2 e3 e4 q
    · obtain ⟨a, ea, hka⟩ := e4
      cases ea
      obtain ⟨B2, s2, w2, d2⟩ := e3.freeze hka hk
      exact o _ B2 H' as' _ _ (e1.trans s2) e2 w2 (slv d2) q

/-! ### names and constants -/
theorem de_var (i : Nat) {x : Str} {d : Sl} (hδ : δ[i]? = some d) (hs : d ≠ .no) (hN : X.N[i]? = some x) (hv : Vis X.env.scope x) (hp : P d ω) (hd : (x == ("__debug__" : Str)) = false := by decide)
    (hcd : (x == ("__classdict__" : Str)) = false := by decide) : DE X (.Name x pos) δ ω P := fun B F H as σ w ev Q o => by
  refine ⟨_, pe_var hN hv hd hcd, ?_⟩
  obtain ⟨ov, h1, h2⟩ := envOk_get ev hδ
  cases d with
  | no => exact absurd rfl hs
  | val d =>
    obtain ⟨v, rfl, h3⟩ := h2
    exact ⟨v, h1, o v B H as _ ω (Same.refl _) (List.prefix_refl _) w (slv h3) hp⟩
  | own k =>
    obtain ⟨v, rfl, h3⟩ := h2
    exact ⟨_, h1, o _ B H as _ ω (Same.refl _) (List.prefix_refl _) w (slo h3) hp⟩
  | kn q =>
    obtain ⟨v, B0, rfl, h3, h4⟩ := h2
    exact ⟨v, h1, o v B H as (.kn q) ω (Same.refl _) (List.prefix_refl _) w ⟨v, B0, rfl, h3, h4⟩ hp⟩
/-- a constant term -/
theorem de_tC {t : TE} {v : V} {d : D} (ht : PE X e t) (et : ∀ σ H Q, Q v H → t σ H Q) (hd : ∀ K B, Dp K B v d) (hp : P (.val d) ω) : DE X e δ ω P := fun B F H as σ w ev Q o =>
  ⟨_, ht, et _ _ _ (o v B H as _ ω (Same.refl _) (List.prefix_refl _) w (slv (hd _ _)) hp)⟩
theorem de_int {i : Int} {j : Nat} (hp : P (.val (.int i)) ω) : DE X (.Constant (.int i) j pos) δ ω P := de_tC pe_int (fun _ _ _ q => q) (fun _ _ => .int i) hp
theorem de_bool {i : Bool} {j : Nat} (hp : P (.val (.bool i)) ω) : DE X (.Constant (.bool i) j pos) δ ω P := de_tC pe_bl (fun _ _ _ q => q) (fun _ _ => .bl i) hp
theorem de_none {j : Nat} (hp : P (.val .none) ω) : DE X (.Constant .none j pos) δ ω P := de_tC pe_non (fun _ _ _ q => q) (fun _ _ => .non) hp
theorem de_str {i : Str} {j : Nat} (hp : P (.val (.str i)) ω) : DE X (.Constant (.str i) j pos) δ ω P := de_tC pe_str (fun _ _ _ q => q) (fun _ _ => .str i) hp
/-- a module's constant -/
theorem de_glob {x : Str} {v : V} {u : Value} {d : D} (hg : Gl X x) (hm : X.mg x = some u) (r : RelV v u) (hd' : ∀ K B, Dp K B v d) (hp : P (.val d) ω) (hd : (x == ("__debug__" : Str)) = false := by decide) : DE X (.Name x pos) δ ω P :=
  de_tC (pe_glob hg hm r hd) (fun _ _ _ q => q) hd' hp

/-! ### operators by values -/
/-- the two operands' results x, y; what the operator makes of them -/
def RR (X : Cx) (r : R2) (x y : Sl) (ω : List Cell) (P : PO1) : Prop :=
  ∀ B F H as v u, Wd X.K B F H as ω → SlOk X.K B as (some v) x → SlOk X.K B as (some u) y → ∀ Q, Out X.K B F as P Q → r v u H Q
theorem de_bin {op : Operator} {r : R2} (ho : OpR X (binaryOp op) r) (h : DE X a δ ω fun x ω1 => DE X b δ ω1 fun y ω2 => RR X r x y ω2 P) : DE X (.BinOp a op b pos) δ ω P := fun B F H as σ w ev Q o => by
  refine ⟨_, pe_op ho pe_w pe_w, ?_⟩
  refine h B F H as σ w ev _ fun x B1 H1 as1 rx ω1 e1 p1 w1 s1 q1 => ?_
  refine q1 B1 F H1 as1 σ w1 (envOk_up e1 p1 ev) _ fun y B2 H2 as2 ry ω2 e2 p2 w2 s2 q2 => ?_
  exact q2 B2 F H2 as2 x y w2 (slOk_up e2 p2 s1) s2 Q (o.up (e1.trans e2) (p1.trans p2))
theorem de_cmp {op : CmpOp} {r : R2} (ho : OpR X (compareOp op) r) (hm : behindInMarks op b = false) (h : DE X a δ ω fun x ω1 => DE X b δ ω1 fun y ω2 => RR X r x y ω2 P) : DE X (.Compare a [op] [b] pos) δ ω P := fun B F H as σ w ev Q o => by
  refine ⟨_, pe_cmpR ho pe_w pe_w hm, ?_⟩
  refine h B F H as σ w ev _ fun x B1 H1 as1 rx ω1 e1 p1 w1 s1 q1 => ?_
  refine q1 B1 F H1 as1 σ w1 (envOk_up e1 p1 ev) _ fun y B2 H2 as2 ry ω2 e2 p2 w2 s2 q2 => ?_
  exact q2 B2 F H2 as2 x y w2 (slOk_up e2 p2 s1) s2 Q (o.up (e1.trans e2) (p1.trans p2))
theorem de_un {op : UnaryOp} {r : V → Hp → VK → Prop} (ho : UnR X (unaryOp op) r) (h : DE X a δ ω fun x ω1 => RR X (fun v _ H Q => r v H Q) x .no ω1 P) : DE X (.UnaryOp op a pos) δ ω P := fun B F H as σ w ev Q o => by
  refine ⟨_, pe_un ho pe_w, ?_⟩
  refine h B F H as σ w ev _ fun x B1 H1 as1 rx ω1 e1 p1 w1 s1 q1 => ?_
  exact q1 B1 F H1 as1 x .non w1 s1 trivial Q (o.up e1 p1)
/-- the same state, a plain value -/
theorem Out.here {K : Fg} {B F H : Hp} {as : List Addr} {Q : VK} (o : Out K B F as P Q) (w : Wd K B F H as ω) {v : V} {d : D} (hd : Dp K B v d) (hp : P (.val d) ω) : Q v H :=
  o v B H as _ ω (Same.refl _) (List.prefix_refl _) w (slv hd) hp
/-- a new tuple, a new list that is known for good -/
theorem Out.tup {K : Fg} {B F H : Hp} {as : List Addr} {Q : VK} (o : Out K B F as P Q) (w : Wd K B F H as ω) {p : Addr} (hp' : H p = none) {vs : List V} {ds : List D} (hd : DpAll K B vs ds) (hp : P (.val (.tuple ds)) ω) : Q (.ref p) (upd H p (.tup vs)) := by
  obtain ⟨w2, s2⟩ := w.new (o := .tup vs) hp'
  exact o _ _ _ as _ ω s2 (List.prefix_refl _) w2 (slv (.tup (.inl (.inl upd_same)) (dpAll_up s2 hd))) hp
theorem Out.lst {K : Fg} {B F H : Hp} {as : List Addr} {Q : VK} (o : Out K B F as P Q) (w : Wd K B F H as ω) {p : Addr} (hp' : H p = none) {vs : List V} {ds : List D} (hd : DpAll K B vs ds) (hp : P (.val (.list ds)) ω) : Q (.ref p) (upd H p (.lst vs)) := by
  obtain ⟨w2, s2⟩ := w.new (o := .lst vs) hp'
  exact o _ _ _ as _ ω s2 (List.prefix_refl _) w2 (slv (.lst (.inl (.inl upd_same)) (dpAll_up s2 hd))) hp
theorem Out.own {K : Fg} {B F H : Hp} {as : List Addr} {Q : VK} (o : Out K B F as P Q) (w : Wd K B F H as ω) {p : Addr} (hp' : H p = none) {vs : List V} {ds : List D} (hd : DpAll K B vs ds) (hp : P (.own ω.length) (ω ++ [.lst ds])) : Q (.ref p) (upd H p (.lst vs)) := by
  have w2 := w.own (o := .lst vs) (c := .lst ds) hp' fun hb => ⟨hb, vs, upd_same, hd⟩
  refine o _ _ _ _ _ _ (Same.refl _) (List.prefix_append _ _) w2 (slo ?_) hp
  rw [← w.len, List.getElem?_append_right (Nat.le_refl _), Nat.sub_self]
  rfl
theorem sl_val {K : Fg} {B : Hp} {as : List Addr} {v : V} {d : D} (h : SlOk K B as (some v) (.val d)) : Dp K B v d := by
  obtain ⟨w, e, h⟩ := h
  cases e
  exact h
theorem sl_own {K : Fg} {B : Hp} {as : List Addr} {v : V} {k : Nat} (h : SlOk K B as (some v) (.own k)) : ∃ a, v = .ref a ∧ as[k]? = some a := by
  obtain ⟨w, e, h⟩ := h
  cases e
  exact ⟨_, rfl, h⟩
theorem rr_I0 {g : Int → Int → V} {i j : Int} {d : D} (hd : ∀ K B, Dp K B (g i j) d) (hp : P (.val d) ω) : RR X (rI0 g) (.val (.int i)) (.val (.int j)) ω P := fun B F H as v u w s1 s2 Q o =>
  ⟨i, j, dp_int_inv (sl_val s1), dp_int_inv (sl_val s2), o.here w (hd _ _) hp⟩
theorem rr_I {C : Int → Int → Prop} {g : Int → Int → V} {i j : Int} {d : D} (hc : C i j) (hd : ∀ K B, Dp K B (g i j) d) (hp : P (.val d) ω) : RR X (rI C g) (.val (.int i)) (.val (.int j)) ω P := fun B F H as v u w s1 s2 Q o =>
  ⟨i, j, dp_int_inv (sl_val s1), dp_int_inv (sl_val s2), hc, o.here w (hd _ _) hp⟩
theorem de_add (h : DE X a δ ω fun x ω1 => ∃ i, x = .val (.int i) ∧ DE X b δ ω1 fun y ω2 => ∃ j, y = .val (.int j) ∧ P (.val (.int (i + j))) ω2) : DE X (.BinOp a .Add b pos) δ ω P :=
  de_bin op_add (h.mono fun x ω1 ⟨i, e, q⟩ => q.mono fun y ω2 ⟨j, e2, hp⟩ => by subst e e2; exact rr_I0 (fun _ _ => .int _) hp)
theorem de_sub (h : DE X a δ ω fun x ω1 => ∃ i, x = .val (.int i) ∧ DE X b δ ω1 fun y ω2 => ∃ j, y = .val (.int j) ∧ P (.val (.int (i - j))) ω2) : DE X (.BinOp a .Sub b pos) δ ω P :=
  de_bin op_sub (h.mono fun x ω1 ⟨i, e, q⟩ => q.mono fun y ω2 ⟨j, e2, hp⟩ => by subst e e2; exact rr_I0 (fun _ _ => .int _) hp)
theorem de_mul (h : DE X a δ ω fun x ω1 => ∃ i, x = .val (.int i) ∧ DE X b δ ω1 fun y ω2 => ∃ j, y = .val (.int j) ∧ CMul i j ∧ P (.val (.int (i * j))) ω2) : DE X (.BinOp a .Mult b pos) δ ω P :=
  de_bin op_mul (h.mono fun x ω1 ⟨i, e, q⟩ => q.mono fun y ω2 ⟨j, e2, hc, hp⟩ => by subst e e2; exact rr_I hc (fun _ _ => .int _) hp)
theorem de_mod (h : DE X a δ ω fun x ω1 => ∃ i, x = .val (.int i) ∧ DE X b δ ω1 fun y ω2 => ∃ j, y = .val (.int j) ∧ 0 < j ∧ P (.val (.int (i % j))) ω2) : DE X (.BinOp a .Mod b pos) δ ω P :=
  de_bin op_mod (h.mono fun x ω1 ⟨i, e, q⟩ => q.mono fun y ω2 ⟨j, e2, hc, hp⟩ => by subst e e2; exact rr_I hc (fun _ _ => .int _) hp)
theorem de_fdiv (h : DE X a δ ω fun x ω1 => ∃ i, x = .val (.int i) ∧ DE X b δ ω1 fun y ω2 => ∃ j, y = .val (.int j) ∧ CDiv i j ∧ P (.val (.int (i / j))) ω2) : DE X (.BinOp a .FloorDiv b pos) δ ω P :=
  de_bin op_fdiv (h.mono fun x ω1 ⟨i, e, q⟩ => q.mono fun y ω2 ⟨j, e2, hc, hp⟩ => by subst e e2; exact rr_I hc (fun _ _ => .int _) hp)
theorem de_pow (h : DE X a δ ω fun x ω1 => ∃ i, x = .val (.int i) ∧ DE X b δ ω1 fun y ω2 => ∃ j, y = .val (.int j) ∧ CPow i j ∧ P (.val (.int (i ^ j.toNat))) ω2) : DE X (.BinOp a .Pow b pos) δ ω P :=
  de_bin op_pow (h.mono fun x ω1 ⟨i, e, q⟩ => q.mono fun y ω2 ⟨j, e2, hc, hp⟩ => by subst e e2; exact rr_I hc (fun _ _ => .int _) hp)
theorem de_neg (h : DE X a δ ω fun x ω1 => ∃ i, x = .val (.int i) ∧ P (.val (.int (-i))) ω1) : DE X (.UnaryOp .USub a pos) δ ω P :=
  de_un un_neg (h.mono fun x ω1 ⟨i, e, hp⟩ => by
    subst e
    exact fun B F H as v u w s1 _ Q o => ⟨i, dp_int_inv (sl_val s1), o.here w (.int _) hp⟩)
end
end
section
section
variable {X : Cx} {e a b c : Expr} {es : List Expr} {δ : List Sl} {ω : List Cell} {P P' : PO1} {pos : Pos}

/-! ### argument lists, displays -/
theorem da_nil {P : List Sl → List Cell → Prop} (hp : P [] ω) : DA X [] δ ω P := fun B F H as σ w ev Q o =>
  ⟨_, pa_nil, o [] B H as [] ω (Same.refl _) (List.prefix_refl _) w .nil hp⟩
theorem da_cons {P : List Sl → List Cell → Prop} (h : DE X e δ ω fun r ω1 => DA X es δ ω1 fun rs ω2 => P (r :: rs) ω2) (hs : starEach (e :: es) X.env = (false, eval e X.env) :: starEach es X.env := by rfl) : DA X (e :: es) δ ω P := fun B F H as σ w ev Q o => by
  refine ⟨_, pa_cons pe_w pa_w hs, ?_⟩
  refine h B F H as σ w ev _ fun x B1 H1 as1 rx ω1 e1 p1 w1 s1 q1 => ?_
  refine q1 B1 F H1 as1 σ w1 (envOk_up e1 p1 ev) _ fun vs B2 H2 as2 rs ω2 e2 p2 w2 s2 q2 => ?_
  exact o _ B2 H2 as2 _ ω2 (e1.trans e2) (p1.trans p2) w2 (.cons (slOk_up e2 p2 s1) s2) q2
theorem DA.mono {P P' : List Sl → List Cell → Prop} (h : DA X es δ ω P) (hp : ∀ r ω', P r ω' → P' r ω') : DA X es δ ω P' :=
  fun B F H as σ w ev Q o => h B F H as σ w ev Q fun v B' H' as' r ω' e1 e2 e3 e4 e5 => o v B' H' as' r ω' e1 e2 e3 e4 (hp _ _ e5)
theorem dp_len {K : Fg} {B : Hp} {as : List Addr} {vs : List V} {ds : List D} (h : RsOk K B as vs (ds.map Sl.val)) : vs.length = ds.length := dpAll_len (rsOk_vals h)
theorem de_tup {x1 : Nat} (h : DA X es δ ω fun rs ω1 => ∃ ds, rs = ds.map Sl.val ∧ ds.length ≤ sizeLine ∧ P (.val (.tuple ds)) ω1) : DE X (.Tuple es x1 pos) δ ω P := fun B F H as σ w ev Q o =>
  ⟨_, pe_tup pa_w, h B F H as σ w ev _ fun vs B1 H1 as1 rs ω1 e1 p1 w1 s1 ⟨ds, e, hl, hp⟩ => by
    subst e
    exact ⟨by rw [dp_len s1]; exact hl, fun p hp' => (o.up e1 p1).tup w1 hp' (rsOk_vals s1) hp⟩⟩
/-- a list that is known for good -/
theorem de_lst (h : DA X es δ ω fun rs ω1 => ∃ ds, rs = ds.map Sl.val ∧ ds.length ≤ sizeLine ∧ P (.val (.list ds)) ω1) : DE X (.List es pos) δ ω P := fun B F H as σ w ev Q o =>
  ⟨_, pe_lst pa_w, h B F H as σ w ev _ fun vs B1 H1 as1 rs ω1 e1 p1 w1 s1 ⟨ds, e, hl, hp⟩ => by
    subst e
    exact ⟨by rw [dp_len s1]; exact hl, fun p hp' => (o.up e1 p1).lst w1 hp' (rsOk_vals s1) hp⟩⟩
/-- a list that will be changed -/
theorem de_lstO (h : DA X es δ ω fun rs ω1 => ∃ ds, rs = ds.map Sl.val ∧ ds.length ≤ sizeLine ∧ P (.own ω1.length) (ω1 ++ [.lst ds])) : DE X (.List es pos) δ ω P := fun B F H as σ w ev Q o =>
  ⟨_, pe_lst pa_w, h B F H as σ w ev _ fun vs B1 H1 as1 rs ω1 e1 p1 w1 s1 ⟨ds, e, hl, hp⟩ => by
    subst e
    exact ⟨by rw [dp_len s1]; exact hl, fun p hp' => (o.up e1 p1).own w1 hp' (rsOk_vals s1) hp⟩⟩

/-! ### more operators, by values -/
theorem slv_tup {K : Fg} {B H : Hp} {as : List Addr} {v : V} {ds : List D} (s : SlOk K B as (some v) (.val (.tuple ds))) (sb : Same B H) : ∃ a xs, v = .ref a ∧ SqT K H a xs ∧ DpAll K B xs ds := by
  obtain ⟨a, xs, h1, h2, h3⟩ := dp_tup_inv (sl_val s)
  exact ⟨a, xs, h1, sqT_up sb h2, h3⟩
theorem slv_lst {K : Fg} {B H : Hp} {as : List Addr} {v : V} {ds : List D} (s : SlOk K B as (some v) (.val (.list ds))) (sb : Same B H) : ∃ a xs, v = .ref a ∧ SqL K H a xs ∧ DpAll K B xs ds := by
  obtain ⟨a, xs, h1, h2, h3⟩ := dp_lst_inv (sl_val s)
  exact ⟨a, xs, h1, sqL_up sb h2, h3⟩
theorem slo_lst {K : Fg} {B F H : Hp} {as : List Addr} {v : V} {k : Nat} {ds : List D} (w : Wd K B F H as ω) (s : SlOk K B as (some v) (.own k)) (hc : ω[k]? = some (.lst ds)) : ∃ a xs, v = .ref a ∧ as[k]? = some a ∧ H a = some (.lst xs) ∧ DpAll K B xs ds := by
  obtain ⟨a, h1, h2⟩ := sl_own s
  obtain ⟨_, xs, h3, h4⟩ := w.cellL h2 hc
  exact ⟨a, xs, h1, h2, h3, h4⟩
/-- what is read as a list or tuple of data -/
inductive Seq (ω : List Cell) : Sl → List D → Prop
  | tup (ds) : Seq ω (.val (.tuple ds)) ds
  | lst (ds) : Seq ω (.val (.list ds)) ds
  | own {k ds} : ω[k]? = some (.lst ds) → Seq ω (.own k) ds
theorem Seq.get {K : Fg} {B F H : Hp} {as : List Addr} {v : V} {r : Sl} {ds : List D} (w : Wd K B F H as ω) (q : Seq ω r ds) (s : SlOk K B as (some v) r) : ∃ a xs, v = .ref a ∧ (SqL K H a xs ∨ SqT K H a xs) ∧ DpAll K B xs ds := by
  cases q with
  | tup =>
    obtain ⟨a, xs, h1, h2, h3⟩ := slv_tup s w.b
    exact ⟨a, xs, h1, .inr h2, h3⟩
  | lst =>
    obtain ⟨a, xs, h1, h2, h3⟩ := slv_lst s w.b
    exact ⟨a, xs, h1, .inl h2, h3⟩
  | own hc =>
    obtain ⟨a, xs, h1, _, h2, h3⟩ := slo_lst w s hc
    exact ⟨a, xs, h1, .inl (SqL.of h2), h3⟩
theorem atI_len {α β : Type} {xs : List α} {ys : List β} (h : xs.length = ys.length) {i : Int} {y : β} (e : atI ys i = some y) : ∃ j, ixN xs.length i = some j ∧ ys[j]? = some y := by
  unfold atI at e
  rw [← h] at e
  cases q : ixN xs.length i with
  | none =>
    rw [q] at e
    cases e
  | some j =>
    rw [q] at e
    exact ⟨j, rfl, e⟩
theorem rr_ix {x : Sl} {ds : List D} {i : Int} {d : D} (hq : Seq ω x ds) (hd : atI ds i = some d) (hp : P (.val d) ω) : RR X (rIx X.K) x (.val (.int i)) ω P := fun B F H as v u w s1 s2 Q o => by
  obtain ⟨a, xs, rfl, h, hds⟩ := hq.get w s1
  obtain rfl := dp_int_inv (sl_val s2)
  obtain ⟨j, e1, e2⟩ := atI_len (dpAll_len hds) hd
  obtain ⟨z, e3, e4⟩ := dpAll_at hds e2
  have e5 : atI xs i = some z := by
    unfold atI
    rw [e1]
    exact e3
  rcases h with h | h
  · exact .inl ⟨a, xs, i, z, rfl, rfl, h, e5, o.here w e4 hp⟩
  · exact .inr (.inl ⟨a, xs, i, z, rfl, rfl, h, e5, o.here w e4 hp⟩)
theorem de_ix (hs : PlainIx b) (h : DE X a δ ω fun x ω1 => DE X b δ ω1 fun y ω2 => ∃ ds i d, y = .val (.int i) ∧ Seq ω2 x ds ∧ atI ds i = some d ∧ P (.val d) ω2) : DE X (.Subscript a b pos) δ ω P := fun B F H as σ w ev Q o => by
  refine ⟨_, pe_ix ix_seq pe_w pe_w hs, ?_⟩
  refine h B F H as σ w ev _ fun x B1 H1 as1 rx ω1 e1 p1 w1 s1 q1 => ?_
  refine q1 B1 F H1 as1 σ w1 (envOk_up e1 p1 ev) _ fun y B2 H2 as2 ry ω2 e2 p2 w2 s2 ⟨ds, i, d, ey, hq, hd, hp⟩ => ?_
  subst ey
  exact rr_ix hq hd hp B2 F H2 as2 x y w2 (slOk_up e2 p2 s1) s2 Q (o.up (e1.trans e2) (p1.trans p2))
/-- == and != of data -/
theorem rr_eqD {d f : D} (h1 : SeqAt.shaped d = true) (h2 : SeqAt.shaped f = true) (hp : P (.val (.bool (PyData.eqv d f))) ω) : RR X (rEqD X.K) (.val d) (.val f) ω P := fun B F H as v u w s1 s2 Q o =>
  ⟨d, f, dp_up w.b (sl_val s1), dp_up w.b (sl_val s2), h1, h2, o.here w (.bl _) hp⟩
theorem rr_neD {d f : D} (h1 : SeqAt.shaped d = true) (h2 : SeqAt.shaped f = true) (hp : P (.val (.bool (!PyData.eqv d f))) ω) : RR X (rNeD X.K) (.val d) (.val f) ω P := fun B F H as v u w s1 s2 Q o =>
  ⟨d, f, dp_up w.b (sl_val s1), dp_up w.b (sl_val s2), h1, h2, o.here w (.bl _) hp⟩
/-- is None -/
def isNon : D → Bool
  | .none => true
  | _ => false
theorem dp_isNon {K : Fg} {H : Hp} {v : V} {d : D} (h : Dp K H v d) : decide (v = .non) = isNon d := by
  cases h <;> rfl
theorem rr_isN {d : D} (hp : P (.val (.bool (isNon d))) ω) : RR X (fun x y H Q => y = .non ∧ Q (.bl (decide (x = .non))) H) (.val d) (.val .none) ω P := fun B F H as v u w s1 s2 Q o => by
  refine ⟨dp_non_inv (sl_val s2), ?_⟩
  rw [dp_isNon (sl_val s1)]
  exact o.here w (.bl _) hp
theorem rr_notN {d : D} (hp : P (.val (.bool (!isNon d))) ω) : RR X (fun x y H Q => y = .non ∧ Q (.bl (!decide (x = .non))) H) (.val d) (.val .none) ω P := fun B F H as v u w s1 s2 Q o => by
  refine ⟨dp_non_inv (sl_val s2), ?_⟩
  rw [dp_isNon (sl_val s1)]
  exact o.here w (.bl _) hp
/-- flat data and its value -/
def fv : D → V
  | .bool b => .bl b
  | .int i => .int i
  | .str x => .str x
  | _ => .non
def flat : D → Bool
  | .none => true
  | .bool _ => true
  | .int _ => true
  | .str _ => true
  | _ => false
theorem dp_flat {K : Fg} {H : Hp} {v : V} {d : D} (h : Dp K H v d) (hf : flat d = true) : v = fv d ∧ flatV v = true := by
  cases h <;> first | exact ⟨rfl, rfl⟩ | cases hf
theorem dpAll_flat {K : Fg} {H : Hp} : ∀ {vs : List V} {ds : List D}, DpAll K H vs ds → ds.all flat = true → vs = ds.map fv ∧ vs.all flatV = true
  | _, _, .nil, _ => ⟨rfl, rfl⟩
  | _, _, .cons h q, hf => by
    rw [List.all_cons, Bool.and_eq_true] at hf
    obtain ⟨e1, e2⟩ := dp_flat h hf.1
    obtain ⟨e3, e4⟩ := dpAll_flat q hf.2
    exact ⟨by rw [List.map_cons, ← e1, ← e3], by rw [List.all_cons, e2, e4]; rfl⟩
def inD (x : D) (ds : List D) : Bool := inV (fv x) (ds.map fv)
theorem rr_in {neg : Bool} {x : D} {r : Sl} {ds : List D} (hx : flat x = true) (hq : Seq ω r ds) (hf : ds.all flat = true) (hp : P (.val (.bool (if neg then !inD x ds else inD x ds))) ω) : RR X (rIn X.K neg) (.val x) r ω P := fun B F H as v u w s1 s2 Q o => by
  obtain ⟨a, xs, rfl, h, hds⟩ := hq.get w s2
  obtain ⟨e1, e2⟩ := dp_flat (sl_val s1) hx
  obtain ⟨e3, e4⟩ := dpAll_flat hds hf
  refine ⟨a, xs, rfl, h, e2, e4, ?_⟩
  rw [e1, e3]
  exact o.here w (.bl _) hp
/-- t + u of tuples -/
theorem rr_cat {ds es : List D} (hz : ds.length + es.length ≤ sizeLine) (hp : P (.val (.tuple (ds ++ es))) ω) : RR X (rCatA X.K) (.val (.tuple ds)) (.val (.tuple es)) ω P := fun B F H as v u w s1 s2 Q o => by
  obtain ⟨a, xs, rfl, h1, h2⟩ := slv_tup s1 w.b
  obtain ⟨b, ys, rfl, g1, g2⟩ := slv_tup s2 w.b
  refine ⟨a, b, xs, ys, rfl, rfl, h1, g1, by rw [dpAll_len h2, dpAll_len g2]; exact hz, fun z => ?_, fun _ z => ?_, fun _ _ p hp' => o.tup w hp' (dpAll_app h2 g2) hp⟩
  · subst z
    cases h2
    exact o.here w (sl_val s2) hp
  · subst z
    cases g2
    rw [List.append_nil] at hp
    exact o.here w (sl_val s1) hp
theorem rr_catL {x y : Sl} {ds es : List D} (q1 : x = .val (.list ds)) (q2 : y = .val (.list es)) (hz : ds.length + es.length ≤ sizeLine) (hp : P (.val (.list (ds ++ es))) ω) : RR X (fun x y H Q => ∃ a b xs ys, x = .ref a ∧ y = .ref b ∧ SqL X.K H a xs ∧ SqL X.K H b ys ∧ xs.length + ys.length ≤ sizeLine ∧ ∀ p, H p = none → Q (.ref p) (upd H p (.lst (xs ++ ys)))) x y ω P := fun B F H as v u w s1 s2 Q o => by
  subst q1 q2
  obtain ⟨a, xs, rfl, h1, h2⟩ := slv_lst s1 w.b
  obtain ⟨b, ys, rfl, g1, g2⟩ := slv_lst s2 w.b
  exact ⟨a, b, xs, ys, rfl, rfl, h1, g1, by rw [dpAll_len h2, dpAll_len g2]; exact hz, fun p hp' => o.lst w hp' (dpAll_app h2 g2) hp⟩

/-! ### built-ins by values -/
def RA (X : Cx) (r : List V → Hp → VK → Prop) (rs : List Sl) (ω : List Cell) (P : PO1) : Prop :=
  ∀ B F H as vs, Wd X.K B F H as ω → RsOk X.K B as vs rs → ∀ Q, Out X.K B F as P Q → r vs H Q
theorem de_callB {id : String} {r : List V → Hp → VK → Prop} {x : Str} {p : Pos} (hc : CallR X (.builtin id) r) (hg : Gl X x) (hm : X.mg x = none) (hv : bootBuiltins x = some (.builtin id)) (h : DA X (e :: es) δ ω fun rs ω1 => RA X r rs ω1 P)
    (hn : x ≠ "__name__" := by decide) (hdb : (x == ("__debug__" : Str)) = false := by decide)
    (he : starEach (e :: es) X.env = (false, eval e X.env) :: starEach es X.env := by rfl) (hpl : (backTo pos (starEach es X.env)).any (·.1) = false := by rfl) : DE X (.Call (.Name x p) (e :: es) [] pos) δ ω P := fun B F H as σ w ev Q o =>
  ⟨_, pe_callB hc hg hm hv pa_w hn hdb he hpl, h B F H as σ w ev _ fun vs B1 H1 as1 rs ω1 e1 p1 w1 s1 q1 => q1 B1 F H1 as1 vs w1 s1 Q (o.up e1 p1)⟩
theorem de_callTy {T : String} {r : List V → Hp → VK → Prop} {x : Str} {p : Pos} (hc : CallR X (.type T) r) (hg : Gl X x) (hm : X.mg x = none) (hv : bootBuiltins x = some (.type T)) (h : DA X (e :: es) δ ω fun rs ω1 => RA X r rs ω1 P)
    (hn : x ≠ "__name__" := by decide) (hdb : (x == ("__debug__" : Str)) = false := by decide)
    (he : starEach (e :: es) X.env = (false, eval e X.env) :: starEach es X.env := by rfl) (hpl : (backTo pos (starEach es X.env)).any (·.1) = false := by rfl) : DE X (.Call (.Name x p) (e :: es) [] pos) δ ω P := fun B F H as σ w ev Q o =>
  ⟨_, pe_callTy hc hg hm hv pa_w hn hdb he hpl, h B F H as σ w ev _ fun vs B1 H1 as1 rs ω1 e1 p1 w1 s1 q1 => q1 B1 F H1 as1 vs w1 s1 Q (o.up e1 p1)⟩
theorem rs1 {K : Fg} {B : Hp} {as : List Addr} {vs : List V} {r : Sl} (h : RsOk K B as vs [r]) : ∃ v, vs = [v] ∧ SlOk K B as (some v) r := by
  cases h with
  | cons h q =>
    cases q
    exact ⟨_, rfl, h⟩
theorem rs2 {K : Fg} {B : Hp} {as : List Addr} {vs : List V} {r s : Sl} (h : RsOk K B as vs [r, s]) : ∃ v u, vs = [v, u] ∧ SlOk K B as (some v) r ∧ SlOk K B as (some u) s := by
  cases h with
  | cons h q =>
    obtain ⟨u, rfl, h2⟩ := rs1 q
    exact ⟨_, u, rfl, h, h2⟩
theorem ra_len {r : Sl} {ds : List D} (hq : Seq ω r ds) (hp : P (.val (.int ds.length)) ω) : RA X (fun xs H Q => ∃ p ys, xs = [.ref p] ∧ (SqL X.K H p ys ∨ SqT X.K H p ys) ∧ Q (.int ys.length) H) [r] ω P := fun B F H as vs w s Q o => by
  obtain ⟨v, rfl, s1⟩ := rs1 s
  obtain ⟨a, xs, rfl, h, hds⟩ := hq.get w s1
  refine ⟨a, xs, rfl, h, ?_⟩
  rw [dpAll_len hds]
  exact o.here w (.int _) hp
theorem ra_tuple {r : Sl} {ds : List D} (hq : Seq ω r ds) (hp : P (.val (.tuple ds)) ω) :
    RA X (fun xs H Q => ∃ p ys, xs = [.ref p] ∧ ((SqL X.K H p ys ∧ ∀ l, H l = none → Q (.ref l) (upd H l (.tup ys))) ∨ (SqT X.K H p ys ∧ Q (.ref p) H))) [r] ω P := fun B F H as vs w s Q o => by
  obtain ⟨v, rfl, s1⟩ := rs1 s
  cases hq with
  | tup =>
    obtain ⟨a, xs, rfl, h2, h3⟩ := slv_tup s1 w.b
    exact ⟨a, xs, rfl, .inr ⟨h2, o.here w (sl_val s1) hp⟩⟩
  | lst =>
    obtain ⟨a, xs, rfl, h2, h3⟩ := slv_lst s1 w.b
    exact ⟨a, xs, rfl, .inl ⟨h2, fun l hl => o.tup w hl h3 hp⟩⟩
  | own hc =>
    obtain ⟨a, xs, rfl, _, h2, h3⟩ := slo_lst w s1 hc
    exact ⟨a, xs, rfl, .inl ⟨SqL.of h2, fun l hl => o.tup w hl h3 hp⟩⟩
theorem ra_list {r : Sl} {ds : List D} (hq : Seq ω r ds) (hp : P (.val (.list ds)) ω) :
    RA X (fun xs H Q => ∃ p ys, xs = [.ref p] ∧ (SqL X.K H p ys ∨ SqT X.K H p ys) ∧ ∀ l, H l = none → Q (.ref l) (upd H l (.lst ys))) [r] ω P := fun B F H as vs w s Q o => by
  obtain ⟨v, rfl, s1⟩ := rs1 s
  obtain ⟨a, xs, rfl, h, hds⟩ := hq.get w s1
  exact ⟨a, xs, rfl, h, fun l hl => o.lst w hl hds hp⟩
theorem ra_listO {r : Sl} {ds : List D} (hq : Seq ω r ds) (hp : P (.own ω.length) (ω ++ [.lst ds])) :
    RA X (fun xs H Q => ∃ p ys, xs = [.ref p] ∧ (SqL X.K H p ys ∨ SqT X.K H p ys) ∧ ∀ l, H l = none → Q (.ref l) (upd H l (.lst ys))) [r] ω P := fun B F H as vs w s Q o => by
  obtain ⟨v, rfl, s1⟩ := rs1 s
  obtain ⟨a, xs, rfl, h, hds⟩ := hq.get w s1
  exact ⟨a, xs, rfl, h, fun l hl => o.own w hl hds hp⟩
theorem dpAll_ints {K : Fg} {H : Hp} : ∀ {vs : List V} {ns : List Int}, DpAll K H vs (ns.map PyData.int) → vs = ns.map V.int
  | _, [], .nil => rfl
  | _, n :: ns, .cons h q => by rw [List.map_cons, dp_int_inv h, dpAll_ints q]
theorem dpAll_bls {K : Fg} {H : Hp} : ∀ {vs : List V} {ns : List Bool}, DpAll K H vs (ns.map PyData.bool) → vs = ns.map V.bl
  | _, [], .nil => rfl
  | _, n :: ns, .cons h q => by rw [List.map_cons, dp_bl_inv h, dpAll_bls q]
theorem ra_all {bs : List Bool} (hp : P (.val (.bool (bs.all id))) ω) : RA X (rAll X.K) [.val (.list (bs.map PyData.bool))] ω P := fun B F H as vs w s Q o => by
  obtain ⟨v, rfl, s1⟩ := rs1 s
  obtain ⟨a, xs, rfl, h2, h3⟩ := slv_lst s1 w.b
  rw [dpAll_bls h3] at h2
  exact ⟨a, bs, rfl, h2, o.here w (.bl _) hp⟩
theorem ra_any {bs : List Bool} (hp : P (.val (.bool (bs.any id))) ω) : RA X (rAny X.K) [.val (.list (bs.map PyData.bool))] ω P := fun B F H as vs w s Q o => by
  obtain ⟨v, rfl, s1⟩ := rs1 s
  obtain ⟨a, xs, rfl, h2, h3⟩ := slv_lst s1 w.b
  rw [dpAll_bls h3] at h2
  exact ⟨a, bs, rfl, h2, o.here w (.bl _) hp⟩
theorem ra_sum {ns : List Int} (hp : P (.val (.int ns.sum)) ω) : RA X (rSum X.K) [.val (.list (ns.map PyData.int))] ω P := fun B F H as vs w s Q o => by
  obtain ⟨v, rfl, s1⟩ := rs1 s
  obtain ⟨a, xs, rfl, h2, h3⟩ := slv_lst s1 w.b
  rw [dpAll_ints h3] at h2
  exact ⟨a, ns, rfl, h2, o.here w (.int _) hp⟩
theorem ra_max2 {i j : Int} (hp : P (.val (.int (if j > i then j else i))) ω) : RA X (fun xs H Q => ∃ i j, xs = [.int i, .int j] ∧ Q (.int (if j > i then j else i)) H) [.val (.int i), .val (.int j)] ω P := fun B F H as vs w s Q o => by
  obtain ⟨v, u, rfl, s1, s2⟩ := rs2 s
  exact ⟨i, j, by rw [dp_int_inv (sl_val s1), dp_int_inv (sl_val s2)], o.here w (.int _) hp⟩
theorem ra_min2 {i j : Int} (hp : P (.val (.int (if j < i then j else i))) ω) : RA X (fun xs H Q => ∃ i j, xs = [.int i, .int j] ∧ Q (.int (if j < i then j else i)) H) [.val (.int i), .val (.int j)] ω P := fun B F H as vs w s Q o => by
  obtain ⟨v, u, rfl, s1, s2⟩ := rs2 s
  exact ⟨i, j, by rw [dp_int_inv (sl_val s1), dp_int_inv (sl_val s2)], o.here w (.int _) hp⟩

/-! ### ranges as arguments -/
def rgD (a b : Int) : List D := (List.range (b - a).toNat).map fun i => .int (a + (i : Nat))
theorem dp_rg {K : Fg} {B : Hp} (a b : Int) : DpAll K B (rgV a b) (rgD a b) := by
  unfold rgV rgD
  generalize List.range (b - a).toNat = l
  induction l with
  | nil => exact .nil
  | cons x r ih => exact .cons (.int _) ih
theorem de_tupRg1 {p p2 pos2 : Pos} (hc : X.calm = true) (hg : Gl X "tuple") (hm : X.mg "tuple" = none) (hg2 : Gl X "range") (hm2 : X.mg "range" = none) (h : DE X e δ ω fun r ω1 => ∃ n, r = .val (.int n) ∧ 0 ≤ n ∧ n ≤ 10000 ∧ P (.val (.tuple (rgD 0 n))) ω1)
    (na : starEach [.Call (.Name "range" p2) [e] [] pos2] X.env = (false, eval (.Call (.Name "range" p2) [e] [] pos2) X.env) :: starEach [] X.env := by rfl) (na2 : starEach [e] X.env = (false, eval e X.env) :: starEach [] X.env := by rfl) :
    DE X (.Call (.Name "tuple" p) [.Call (.Name "range" p2) [e] [] pos2] [] pos) δ ω P := fun B F H as σ w ev Q o =>
  ⟨_, pe_tupRg hc hg hm (prg_1 hg2 hm2 pe_w na2) na, h B F H as σ w ev _ fun v B1 H1 as1 r ω1 e1 p1 w1 s1 ⟨n, er, h0, hn, hp⟩ => by
    subst er
    obtain rfl := dp_int_inv (sl_val s1)
    exact ⟨n, rfl, RgOk.of_le (by omega) (by omega) (by omega) h0, fun q hq => (o.up e1 p1).tup w1 hq (dp_rg _ _) hp⟩⟩
theorem de_lstRg1 {p p2 pos2 : Pos} (hc : X.calm = true) (hg : Gl X "list") (hm : X.mg "list" = none) (hg2 : Gl X "range") (hm2 : X.mg "range" = none) (h : DE X e δ ω fun r ω1 => ∃ n, r = .val (.int n) ∧ 0 ≤ n ∧ n ≤ 10000 ∧ P (.val (.list (rgD 0 n))) ω1)
    (na : starEach [.Call (.Name "range" p2) [e] [] pos2] X.env = (false, eval (.Call (.Name "range" p2) [e] [] pos2) X.env) :: starEach [] X.env := by rfl) (na2 : starEach [e] X.env = (false, eval e X.env) :: starEach [] X.env := by rfl) :
    DE X (.Call (.Name "list" p) [.Call (.Name "range" p2) [e] [] pos2] [] pos) δ ω P := fun B F H as σ w ev Q o =>
  ⟨_, pe_listRg hc hg hm (prg_1 hg2 hm2 pe_w na2) na, h B F H as σ w ev _ fun v B1 H1 as1 r ω1 e1 p1 w1 s1 ⟨n, er, h0, hn, hp⟩ => by
    subst er
    obtain rfl := dp_int_inv (sl_val s1)
    exact ⟨n, rfl, RgOk.of_le (by omega) (by omega) (by omega) h0, fun q hq => (o.up e1 p1).lst w1 hq (dp_rg _ _) hp⟩⟩

/-! ### slices of tuples -/
def cutD (ds : List D) (lo hi : Option Int) : List D := (ds.drop (HT.sIx ds.length 0 lo)).take (HT.sIx ds.length ds.length hi - HT.sIx ds.length 0 lo)
theorem dp_cut {K : Fg} {B : Hp} {vs : List V} {ds : List D} (h : DpAll K B vs ds) (lo hi : Option Int) : DpAll K B (cutV vs lo hi) (cutD ds lo hi) := by
  unfold cutV cutD
  rw [dpAll_len h]
  exact dpAll_take _ (dpAll_drop _ h)
def DO (X : Cx) (e : Option Expr) (δ : List Sl) (ω : List Cell) (P : Option Int → List Cell → Prop) : Prop :=
  match e with
  | none => P none ω
  | some e => DE X e δ ω fun r ω1 => ∃ i, r = .val (.int i) ∧ P (some i) ω1
theorem do_run {lo : Option Expr} {P : Option Int → List Cell → Prop} (h : DO X lo δ ω P) {B F H : Hp} {as : List Addr} {σ : L2.St} (w : Wd X.K B F H as ω) (ev : EnvOk X.K B as σ δ) (Q : Option Int → Hp → Prop)
    (o : ∀ z B' H' as' ω', Same B B' → as <+: as' → Wd X.K B' F H' as' ω' → P z ω' → Q z H') : ∃ t, PO X lo t ∧ t σ H Q := by
  cases lo with
  | none => exact ⟨_, po_none, o none B H as ω (Same.refl _) (List.prefix_refl _) w h⟩
  | some e =>
    refine ⟨_, po_some pe_w, ?_⟩
    refine h B F H as σ w ev _ fun v B1 H1 as1 r ω1 e1 p1 w1 s1 ⟨i, er, hp⟩ => ?_
    subst er
    obtain rfl := dp_int_inv (sl_val s1)
    exact ⟨i, rfl, o _ B1 H1 as1 ω1 e1 p1 w1 hp⟩
def wO (X : Cx) (e : Option Expr) : TO := fun σ H Q => ∃ t, PO X e t ∧ t σ H Q
theorem po_w {lo : Option Expr} : PO X lo (wO X lo) := ⟨fun pins s σ H Q I h => by
  obtain ⟨_, p, q⟩ := h
  exact p.run pins s σ H Q I q⟩
theorem de_sliceT {lo hi : Option Expr} {p2 : Pos} (h : DE X e δ ω fun x ω1 => ∃ ds, x = .val (.tuple ds) ∧ DO X lo δ ω1 fun i ω2 => DO X hi δ ω2 fun j ω3 => P (.val (.tuple (cutD ds i j))) ω3) : DE X (.Subscript e (.Slice lo hi none p2) pos) δ ω P := fun B F H as σ w ev Q o => by
  refine ⟨_, pe_slice sl_tupA pe_w po_w po_w, ?_⟩
  refine h B F H as σ w ev _ fun x B1 H1 as1 rx ω1 e1 p1 w1 s1 ⟨ds, ex, q1⟩ => ?_
  subst ex
  refine do_run q1 w1 (envOk_up e1 p1 ev) _ fun i B2 H2 as2 ω2 e2 p2 w2 q2 => ?_
  refine do_run q2 w2 (envOk_up (e1.trans e2) (p1.trans p2) ev) _ fun j B3 H3 as3 ω3 e3 p3 w3 q3 => ?_
  have s3 := slOk_up (e2.trans e3) (p2.trans p3) s1
  obtain ⟨a, xs, rfl, h1, h2⟩ := slv_tup s3 w3.b
  have o3 := o.up ((e1.trans e2).trans e3) ((p1.trans p2).trans p3)
  refine ⟨a, xs, rfl, h1, fun z => ?_, fun _ p hp => o3.tup w3 hp (dp_cut h2 i j) q3⟩
  have e0 : cutD ds i j = ds := by
    unfold cutD
    rw [← dpAll_len h2, z.1, z.2, dpAll_len h2, List.drop_zero, Nat.sub_zero, List.take_length]
  rw [e0] at q3
  exact o3.here w3 (sl_val s3) q3
end
end
section
section
variable {X : Cx} {e a b c tg iter : Expr} {es : List Expr} {δ : List Sl} {ω : List Cell} {P P' : PO1} {T : Bool → List Cell → Prop} {pos : Pos}

/-! ### tests -/
theorem dt_val (h : DE X e δ ω fun r ω1 => ∃ b, r = .val (.bool b) ∧ T b ω1) (he : ∀ whole, isTrue e X.env whole = (do let v ← whole; standAt e.pos; holding [v] (truthy v)) := by intro _; rfl) : DT X e δ ω T := fun B F H as σ w ev Q o =>
  ⟨_, pt_val pe_w he, h B F H as σ w ev _ fun v B1 H1 as1 r ω1 e1 p1 w1 s1 ⟨b, er, hp⟩ => by
    subst er
    exact ⟨b, dp_bl_inv (sl_val s1), o b B1 H1 as1 ω1 e1 p1 w1 hp⟩⟩
theorem dt_cmp {op : CmpOp} {r : R2} (ho : OpR X (compareOp op) r) (hm : behindInMarks op b = false) (h : DE X a δ ω fun x ω1 => DE X b δ ω1 fun y ω2 => RR X r x y ω2 fun z ω3 => ∃ k, z = .val (.bool k) ∧ T k ω3) : DT X (.Compare a [op] [b] pos) δ ω T := fun B F H as σ w ev Q o => by
  refine ⟨_, pt_cmpR ho pe_w pe_w hm, ?_⟩
  refine h B F H as σ w ev _ fun x B1 H1 as1 rx ω1 e1 p1 w1 s1 q1 => ?_
  refine q1 B1 F H1 as1 σ w1 (envOk_up e1 p1 ev) _ fun y B2 H2 as2 ry ω2 e2 p2 w2 s2 q2 => ?_
  refine q2 B2 F H2 as2 x y w2 (slOk_up e2 p2 s1) s2 _ fun z B3 H3 as3 rz ω3 e3 p3 w3 s3 ⟨k, ez, hp⟩ => ?_
  subst ez
  exact ⟨k, dp_bl_inv (sl_val s3), o k B3 H3 as3 ω3 ((e1.trans e2).trans e3) ((p1.trans p2).trans p3) w3 hp⟩
theorem dt_chain {op op' : CmpOp} {r r' : R2} (ho : OpR X (compareOp op) r) (ho' : OpR X (compareOp op') r')
    (h : DE X a δ ω fun x ω1 => DE X b δ ω1 fun y ω2 => RR X r x y ω2 fun z ω3 => ∃ k, z = .val (.bool k) ∧ if k = true then DE X c δ ω3 fun u ω4 => RR X r' y u ω4 fun z ω5 => ∃ k, z = .val (.bool k) ∧ T k ω5 else T false ω3)
    (hm : lastMarks [op, op'] [b, c] = false := by with_unfolding_all rfl) : DT X (.Compare a [op, op'] [b, c] pos) δ ω T := fun B F H as σ w ev Q o => by
  refine ⟨_, pt_chain ho ho' pe_w pe_w pe_w hm, ?_⟩
  refine h B F H as σ w ev _ fun x B1 H1 as1 rx ω1 e1 p1 w1 s1 q1 => ?_
  refine q1 B1 F H1 as1 σ w1 (envOk_up e1 p1 ev) _ fun y B2 H2 as2 ry ω2 e2 p2 w2 s2 q2 => ?_
  refine q2 B2 F H2 as2 x y w2 (slOk_up e2 p2 s1) s2 _ fun z B3 H3 as3 rz ω3 e3 p3 w3 s3 ⟨k, ez, hp⟩ => ?_
  subst ez
  refine ⟨k, dp_bl_inv (sl_val s3), ?_⟩
  cases k with
  | false =>
    exact ⟨false, rfl, o false B3 H3 as3 ω3 ((e1.trans e2).trans e3) ((p1.trans p2).trans p3) w3 hp⟩
  | true =>
    refine hp B3 F H3 as3 σ w3 (envOk_up ((e1.trans e2).trans e3) ((p1.trans p2).trans p3) ev) _ fun u B4 H4 as4 ru ω4 e4 p4 w4 s4 q4 => ?_
    refine q4 B4 F H4 as4 y u w4 (slOk_up (e3.trans e4) (p3.trans p4) s2) s4 _ fun z B5 H5 as5 rz ω5 e5 p5 w5 s5 ⟨k, ez, hp⟩ => ?_
    subst ez
    exact ⟨k, dp_bl_inv (sl_val s5), o k B5 H5 as5 ω5 ((((e1.trans e2).trans e3).trans e4).trans e5) ((((p1.trans p2).trans p3).trans p4).trans p5) w5 hp⟩
theorem de_chain {op op' : CmpOp} {r r' : R2} (ho : OpR X (compareOp op) r) (ho' : OpR X (compareOp op') r')
    (h : DE X a δ ω fun x ω1 => DE X b δ ω1 fun y ω2 => RR X r x y ω2 fun z ω3 => ∃ k, z = .val (.bool k) ∧ if k = true then DE X c δ ω3 fun u ω4 => RR X r' y u ω4 P else P (.val (.bool false)) ω3)
    (hm : lastMarks [op, op'] [b, c] = false := by with_unfolding_all rfl) : DE X (.Compare a [op, op'] [b, c] pos) δ ω P := fun B F H as σ w ev Q o => by
  refine ⟨_, pe_chain ho ho' pe_w pe_w pe_w hm, ?_⟩
  refine h B F H as σ w ev _ fun x B1 H1 as1 rx ω1 e1 p1 w1 s1 q1 => ?_
  refine q1 B1 F H1 as1 σ w1 (envOk_up e1 p1 ev) _ fun y B2 H2 as2 ry ω2 e2 p2 w2 s2 q2 => ?_
  refine q2 B2 F H2 as2 x y w2 (slOk_up e2 p2 s1) s2 _ fun z B3 H3 as3 rz ω3 e3 p3 w3 s3 ⟨k, ez, hp⟩ => ?_
  subst ez
  refine ⟨k, dp_bl_inv (sl_val s3), ?_⟩
  cases k with
  | false =>
    exact o _ B3 H3 as3 _ ω3 ((e1.trans e2).trans e3) ((p1.trans p2).trans p3) w3 (slv (.bl _)) hp
  | true =>
    refine hp B3 F H3 as3 σ w3 (envOk_up ((e1.trans e2).trans e3) ((p1.trans p2).trans p3) ev) _ fun u B4 H4 as4 ru ω4 e4 p4 w4 s4 q4 => ?_
    exact q4 B4 F H4 as4 y u w4 (slOk_up (e3.trans e4) (p3.trans p4) s2) s4 _ (o.up (((e1.trans e2).trans e3).trans e4) (((p1.trans p2).trans p3).trans p4))
theorem dt_not (h : DT X a δ ω fun k ω1 => T (!k) ω1) : DT X (.UnaryOp .Not a pos) δ ω T := fun B F H as σ w ev Q o =>
  ⟨_, pt_not pt_w, h B F H as σ w ev _ fun k B1 H1 as1 ω1 e1 p1 w1 hp => o (!k) B1 H1 as1 ω1 e1 p1 w1 hp⟩
theorem dt_w (h : DW X e δ ω T) : DT X e δ ω T := fun B F H as σ w ev Q o => ⟨_, pw_w.pt, h B F H as σ w ev Q o⟩
theorem dw_and1 (h : DT X a δ ω T) : DW X (.BoolOp .And [a] pos) δ ω T := fun B F H as σ w ev Q o => ⟨_, pw_and1 pt_w, h B F H as σ w ev Q o⟩
theorem dw_or1 (h : DT X a δ ω T) : DW X (.BoolOp .Or [a] pos) δ ω T := fun B F H as σ w ev Q o => ⟨_, pw_or1 pt_w, h B F H as σ w ev Q o⟩
theorem dw_and (h : DT X a δ ω fun k ω1 => if k = true then DW X (.BoolOp .And (b :: es) pos) δ ω1 T else T false ω1) : DW X (.BoolOp .And (a :: b :: es) pos) δ ω T := fun B F H as σ w ev Q o => by
  refine ⟨_, pw_and pt_w pw_w, ?_⟩
  refine h B F H as σ w ev _ fun k B1 H1 as1 ω1 e1 p1 w1 hp => ?_
  cases k with
  | true => exact hp B1 F H1 as1 σ w1 (envOk_up e1 p1 ev) Q (o.up e1 p1)
  | false => exact o false B1 H1 as1 ω1 e1 p1 w1 hp
theorem dw_or (h : DT X a δ ω fun k ω1 => if k = true then T true ω1 else DW X (.BoolOp .Or (b :: es) pos) δ ω1 T) : DW X (.BoolOp .Or (a :: b :: es) pos) δ ω T := fun B F H as σ w ev Q o => by
  refine ⟨_, pw_or pt_w pw_w, ?_⟩
  refine h B F H as σ w ev _ fun k B1 H1 as1 ω1 e1 p1 w1 hp => ?_
  cases k with
  | true => exact o true B1 H1 as1 ω1 e1 p1 w1 hp
  | false => exact hp B1 F H1 as1 σ w1 (envOk_up e1 p1 ev) Q (o.up e1 p1)
theorem de_if {t : Expr} (h : DT X t δ ω fun k ω1 => if k = true then DE X a δ ω1 P else DE X b δ ω1 P) : DE X (.IfExp t a b pos) δ ω P := fun B F H as σ w ev Q o => by
  refine ⟨_, pe_ifExp pt_w pe_w pe_w, ?_⟩
  refine h B F H as σ w ev _ fun k B1 H1 as1 ω1 e1 p1 w1 hp => ?_
  cases k with
  | true => exact hp B1 F H1 as1 σ w1 (envOk_up e1 p1 ev) Q (o.up e1 p1)
  | false => exact hp B1 F H1 as1 σ w1 (envOk_up e1 p1 ev) Q (o.up e1 p1)
/-- and, or, not as values, of bools -/
theorem de_one {op : BoolOp} (h : DE X a δ ω P) : DE X (.BoolOp op [a] pos) δ ω P := fun B F H as σ w ev Q o => ⟨_, pe_one pe_w, h B F H as σ w ev Q o⟩
theorem de_and (h : DE X a δ ω fun r ω1 => ∃ k, r = .val (.bool k) ∧ if k = true then DE X (.BoolOp .And (b :: es) pos) δ ω1 P else P (.val (.bool false)) ω1) : DE X (.BoolOp .And (a :: b :: es) pos) δ ω P := fun B F H as σ w ev Q o => by
  refine ⟨_, pe_and pe_w pe_w, ?_⟩
  refine h B F H as σ w ev _ fun v B1 H1 as1 r ω1 e1 p1 w1 s1 ⟨k, er, hp⟩ => ?_
  subst er
  refine ⟨k, dp_bl_inv (sl_val s1), ?_⟩
  cases k with
  | true => exact hp B1 F H1 as1 σ w1 (envOk_up e1 p1 ev) Q (o.up e1 p1)
  | false => exact o _ B1 H1 as1 _ ω1 e1 p1 w1 (slv (.bl _)) hp
theorem de_or (h : DE X a δ ω fun r ω1 => ∃ k, r = .val (.bool k) ∧ if k = true then P (.val (.bool true)) ω1 else DE X (.BoolOp .Or (b :: es) pos) δ ω1 P) : DE X (.BoolOp .Or (a :: b :: es) pos) δ ω P := fun B F H as σ w ev Q o => by
  refine ⟨_, pe_or pe_w pe_w, ?_⟩
  refine h B F H as σ w ev _ fun v B1 H1 as1 r ω1 e1 p1 w1 s1 ⟨k, er, hp⟩ => ?_
  subst er
  refine ⟨k, dp_bl_inv (sl_val s1), ?_⟩
  cases k with
  | true => exact o _ B1 H1 as1 _ ω1 e1 p1 w1 (slv (.bl _)) hp
  | false => exact hp B1 F H1 as1 σ w1 (envOk_up e1 p1 ev) Q (o.up e1 p1)
theorem de_notV (h : DE X a δ ω fun r ω1 => ∃ k, r = .val (.bool k) ∧ P (.val (.bool (!k))) ω1) : DE X (.UnaryOp .Not a pos) δ ω P := fun B F H as σ w ev Q o =>
  ⟨_, pe_not pe_w, h B F H as σ w ev _ fun v B1 H1 as1 r ω1 e1 p1 w1 s1 ⟨k, er, hp⟩ => by
    subst er
    exact ⟨k, dp_bl_inv (sl_val s1), o _ B1 H1 as1 _ ω1 e1 p1 w1 (slv (.bl _)) hp⟩⟩

/-! ### targets -/
def wG (X : Cx) (t : Expr) : TG := fun v σ H Q => ∃ g, PG X t g ∧ g v σ H Q
theorem pg_w : PG X tg (wG X tg) := ⟨fun pins s σ H v u Q I r h => by
  obtain ⟨_, p, q⟩ := h
  exact p.run pins s σ H v u Q I r q⟩
/-- the target takes the datum d; vs: the slots that it may set -/
def DG (X : Cx) (vs : List Nat) (tg : Expr) (d : D) (δ : List Sl) (k : List Sl → Prop) : Prop :=
  ∀ B H as σ v, Same B H → EnvOk X.K B as σ δ → Dp X.K B v d → ∀ Q, (∀ σ' δ', EnvOk X.K B as σ' δ' → σ'.length = σ.length → (∀ i, i ∉ vs → σ'[i]? = σ[i]?) → k δ' → Q σ' H) → wG X tg v σ H Q
theorem dg_name {vs : List Nat} {i : Nat} {x : Str} {d : D} {k : List Sl → Prop} (hN : X.N.Nodup) (hi : X.N[i]? = some x) (hx : Loc X.env.scope x) (hv : i ∈ vs) (hk : k (δ.set i (.val d)))
    (hf : X.fn x = true ∨ X.env.scope.names.lookup x = some .local := by first | exact .inl rfl | exact .inr rfl | assumption) : DG X vs (.Name x pos) d δ k := fun B H as σ v sb ev hd Q o =>
  ⟨_, pg_name hN hi hx hf, o _ _ (envOk_set (slv hd) i ev) (by rw [List.length_set]) (fun j hj => by rw [List.getElem?_set_ne (fun (z : i = j) => hj (z ▸ hv))]) hk⟩
theorem dg_tup2 {vs : List Nat} {i j : Nat} {x y : Str} {d f : D} {p1 p2 : Pos} {kk : Nat} {k : List Sl → Prop} (hc : X.calm = true) (hN : X.N.Nodup) (hi : X.N[i]? = some x) (hj : X.N[j]? = some y) (hx : Loc X.env.scope x) (hy : Loc X.env.scope y) (hv : i ∈ vs) (hw : j ∈ vs)
    (hk : k ((δ.set i (.val d)).set j (.val f)))
    (hf : X.fn x = true ∨ X.env.scope.names.lookup x = some .local := by first | exact .inl rfl | exact .inr rfl | assumption) (hg : X.fn y = true ∨ X.env.scope.names.lookup y = some .local := by first | exact .inl rfl | exact .inr rfl | assumption)
    (hs1 : (assignEach [.Name x p1, .Name y p2] X.env).map (·.2) = assign (.Name x p1) X.env :: (assignEach [.Name y p2] X.env).map (·.2) := by rfl) (hs2 : (assignEach [.Name y p2] X.env).map (·.2) = assign (.Name y p2) X.env :: (assignEach [] X.env).map (·.2) := by rfl)
    (hn : (assignEach [.Name x p1, .Name y p2] X.env).length = 2 := by rfl) (hst : (assignEach [.Name x p1, .Name y p2] X.env).findIdx? (·.1) = none := by rfl) :
    DG X vs (.Tuple [.Name x p1, .Name y p2] kk pos) (.tuple [d, f]) δ k := fun B H as σ v sb ev hd Q o => by
  refine ⟨_, pg_tup hc (pgs_cons (pg_name hN hi hx hf) (pgs_cons (pg_name hN hj hy hg) pgs_nil hs2) hs1) hn hst, ?_⟩
  obtain ⟨a, xs, rfl, h1, h2⟩ := dp_tup_inv hd
  cases h2 with
  | cons d1 r =>
    cases r with
    | cons d2 r =>
      cases r
      refine ⟨a, _, rfl, sqT_up sb h1, rfl, _, _, rfl, _, _, rfl, rfl, ?_⟩
      refine o _ _ (envOk_set (slv d2) j (envOk_set (slv d1) i ev)) (by rw [List.length_set, List.length_set]) (fun l hl => ?_) hk
      rw [List.getElem?_set_ne (fun (z : j = l) => hl (z ▸ hw)), List.getElem?_set_ne (fun (z : i = l) => hl (z ▸ hv))]

/-! ### what is walked -/
def wI (X : Cx) (tg iter : Expr) : TI := fun σ H R => ∃ t, PI X tg iter t ∧ t σ H R
theorem pi_w : PI X tg iter (wI X tg iter) := ⟨fun pins s σ H R I h => by
  obtain ⟨_, p, q⟩ := h
  exact p.run pins s σ H R I q⟩
/-- the iterator J gives the data its -/
def ItOk (K : Fg) (J : It) (B : Hp) (its : List D) : Prop :=
  ∀ B' F H as ω, Same B B' → Wd K B' F H as ω → (∀ i d, its[i]? = some d → J.go i H ∧ ∀ x H', J.yld i H x H' → ∃ B2, Same B' B2 ∧ Wd K B2 F H' as ω ∧ Dp K B2 x d) ∧ J.stop its.length H
def DI (X : Cx) (tg iter : Expr) (δ : List Sl) (ω : List Cell) (P : List D → List Cell → Prop) : Prop :=
  ∀ B F H as σ, Wd X.K B F H as ω → EnvOk X.K B as σ δ → ∀ R : It → Hp → Prop,
    (∀ J its B' H' as' ω', Same B B' → as <+: as' → Wd X.K B' F H' as' ω' → ItOk X.K J B' its → P its ω' → R J H') → wI X tg iter σ H R
theorem di_tup {P : List D → List Cell → Prop} (h : DE X e δ ω fun r ω1 => ∃ ds, r = .val (.tuple ds) ∧ P ds ω1) : DI X tg e δ ω P := fun B F H as σ w ev R o => by
  refine ⟨_, pi_tup pe_w, ?_⟩
  refine h B F H as σ w ev _ fun v B1 H1 as1 r ω1 e1 p1 w1 s1 ⟨ds, er, hp⟩ => ?_
  subst er
  obtain ⟨a, xs, rfl, h1, h2⟩ := dp_tup_inv (sl_val s1)
  refine ⟨a, rfl, ⟨xs, sqT_up w1.b h1⟩, o _ ds B1 H1 as1 ω1 e1 p1 w1 (fun B' F H as ω sb w' => ⟨fun i d hd => ?_, ⟨xs, sqT_up (sb.trans w'.b) h1, ?_⟩⟩) hp⟩
  · obtain ⟨x, e2, d2⟩ := dpAll_at h2 hd
    refine ⟨⟨xs, x, sqT_up (sb.trans w'.b) h1, e2⟩, fun y H' q => ?_⟩
    obtain ⟨rfl, q⟩ := q
    have := q xs (sqT_up (sb.trans w'.b) h1)
    rw [e2] at this
    cases this
    exact ⟨B', Same.refl _, w', dp_up sb d2⟩
  · rw [dpAll_len h2]
    exact Nat.le_refl _
theorem di_lst {P : List D → List Cell → Prop} (h : DE X e δ ω fun r ω1 => ∃ ds, r = .val (.list ds) ∧ P ds ω1) : DI X tg e δ ω P := fun B F H as σ w ev R o => by
  refine ⟨_, pi_list pe_w, ?_⟩
  refine h B F H as σ w ev _ fun v B1 H1 as1 r ω1 e1 p1 w1 s1 ⟨ds, er, hp⟩ => ?_
  subst er
  obtain ⟨a, xs, rfl, h1, h2⟩ := dp_lst_inv (sl_val s1)
  refine ⟨a, rfl, ⟨xs, sqL_up w1.b h1⟩, o _ ds B1 H1 as1 ω1 e1 p1 w1 (fun B' F H as ω sb w' => ⟨fun i d hd => ?_, ⟨xs, sqL_up (sb.trans w'.b) h1, ?_⟩⟩) hp⟩
  · obtain ⟨x, e2, d2⟩ := dpAll_at h2 hd
    refine ⟨⟨xs, x, sqL_up (sb.trans w'.b) h1, e2⟩, fun y H' q => ?_⟩
    obtain ⟨rfl, q⟩ := q
    have := q xs (sqL_up (sb.trans w'.b) h1)
    rw [e2] at this
    cases this
    exact ⟨B', Same.refl _, w', dp_up sb d2⟩
  · rw [dpAll_len h2]
    exact Nat.le_refl _
theorem rgD_at {a b : Int} {i : Nat} {d : D} (h : (rgD a b)[i]? = some d) : i < (b - a).toNat ∧ d = .int (a + (i : Nat)) := by
  unfold rgD at h
  rw [List.getElem?_map] at h
  cases q : (List.range (b - a).toNat)[i]? with
  | none =>
    rw [q] at h
    cases h
  | some j =>
    rw [q] at h
    obtain ⟨h1, h2⟩ := List.getElem?_eq_some_iff.mp q
    rw [List.getElem_range] at h2
    rw [List.length_range] at h1
    subst h2
    exact ⟨h1, (Option.some.inj h).symm⟩
theorem rgD_len (a b : Int) : (rgD a b).length = (b - a).toNat := by
  unfold rgD
  rw [List.length_map, List.length_range]
theorem it_rng {K : Fg} {B : Hp} (a b : Int) : ItOk K (Itr a (b - a).toNat) B (rgD a b) := fun B' F H as ω sb w' => ⟨fun i d hd => by
    obtain ⟨h1, h2⟩ := rgD_at hd
    refine ⟨h1, fun x H' q => ?_⟩
    obtain ⟨rfl, rfl⟩ := q
    subst h2
    exact ⟨B', Same.refl _, w', .int _⟩, by rw [rgD_len]; exact Nat.le_refl _⟩
theorem di_rng1 {p : Pos} {P : List D → List Cell → Prop} (hg : Gl X "range") (hm : X.mg "range" = none) (h : DE X e δ ω fun r ω1 => ∃ n, r = .val (.int n) ∧ -(2 ^ 62) ≤ n ∧ n < 2 ^ 62 ∧ P (rgD 0 n) ω1)
    (hs : starEach [e] X.env = [(false, eval e X.env)] := by rfl) : DI X tg (.Call (.Name "range" p) [e] [] pos) δ ω P := fun B F H as σ w ev R o =>
  ⟨_, pi_range1 hg hm (pa_cons pe_w pa_nil hs) hs, h B F H as σ w ev _ fun v B1 H1 as1 r ω1 e1 p1 w1 s1 ⟨n, er, h1, h2, hp⟩ => by
    subst er
    obtain rfl := dp_int_inv (sl_val s1)
    refine ⟨n, rfl, h1, h2, ?_⟩
    have q := it_rng (K := X.K) (B := B1) 0 n
    rw [Int.sub_zero] at q
    exact o _ _ B1 H1 as1 ω1 e1 p1 w1 q hp⟩
theorem di_rng2 {p : Pos} {P : List D → List Cell → Prop} (hg : Gl X "range") (hm : X.mg "range" = none) (h : DE X a δ ω fun r ω1 => DE X b δ ω1 fun r2 ω2 => ∃ m n, r = .val (.int m) ∧ r2 = .val (.int n) ∧ (-(2 ^ 62) ≤ m ∧ m < 2 ^ 62 ∧ -(2 ^ 62) ≤ n ∧ n < 2 ^ 62) ∧ P (rgD m n) ω2)
    (hs : starEach [a, b] X.env = [(false, eval a X.env), (false, eval b X.env)] := by rfl) (hs2 : starEach [b] X.env = [(false, eval b X.env)] := by rfl) : DI X tg (.Call (.Name "range" p) [a, b] [] pos) δ ω P := fun B F H as σ w ev R o => by
  refine ⟨_, pi_range2 hg hm (pa_cons pe_w (pa_cons pe_w pa_nil hs2) (by rw [hs, hs2])) hs hs2, ?_⟩
  refine h B F H as σ w ev _ fun v B1 H1 as1 r ω1 e1 p1 w1 s1 q1 => ?_
  refine q1 B1 F H1 as1 σ w1 (envOk_up e1 p1 ev) _ fun u B2 H2 as2 r2 ω2 e2 p2 w2 s2 ⟨m, n, er, er2, hb, hp⟩ => ?_
  subst er er2
  obtain rfl := dp_int_inv (sl_val s1)
  obtain rfl := dp_int_inv (sl_val s2)
  exact ⟨m, n, rfl, hb, o _ _ B2 H2 as2 ω2 (e1.trans e2) (p1.trans p2) w2 (it_rng _ _) hp⟩

/-! ### statements -/
structure Kd where
  nx : List Sl → List Cell → Prop
  rt : Sl → List Cell → Prop
  bk : List Sl → List Cell → Prop := fun _ _ => False
  ct : List Sl → List Cell → Prop := fun _ _ => False
abbrev OutS (K : Fg) (B F : Hp) (as : List Addr) (k : List Sl → List Cell → Prop) (Q : L2.St → Hp → Prop) : Prop :=
  ∀ σ' H' B' as' δ' ω', Same B B' → as <+: as' → Wd K B' F H' as' ω' → EnvOk K B' as' σ' δ' → k δ' ω' → Q σ' H'
structure Lift (K : Fg) (B F : Hp) (as : List Addr) (k : Kd) (E : Ends) : Prop where
  nx : OutS K B F as k.nx E.nx
  bk : OutS K B F as k.bk E.bk
  ct : OutS K B F as k.ct E.ct
  rt : Out K B F as k.rt E.rt
def DS (X : Cx) (st : List Stmt) (δ : List Sl) (ω : List Cell) (k : Kd) : Prop :=
  ∀ B F H as σ, Wd X.K B F H as ω → EnvOk X.K B as σ δ → ∀ E, Lift X.K B F as k E → wSs X st E σ H
def D1 (X : Cx) (st : Stmt) (δ : List Sl) (ω : List Cell) (k : Kd) : Prop :=
  ∀ B F H as σ, Wd X.K B F H as ω → EnvOk X.K B as σ δ → ∀ E, Lift X.K B F as k E → wS X st E σ H
theorem OutS.up {K : Fg} {B B' F : Hp} {as as' : List Addr} {k : List Sl → List Cell → Prop} {Q : L2.St → Hp → Prop} (h : OutS K B F as k Q) (e : Same B B') (p : as <+: as') : OutS K B' F as' k Q :=
  fun σ' H' B2 as2 δ' ω' e2 p2 => h σ' H' B2 as2 δ' ω' (e.trans e2) (p.trans p2)
theorem Lift.up {K : Fg} {B B' F : Hp} {as as' : List Addr} {k : Kd} {E : Ends} (h : Lift K B F as k E) (e : Same B B') (p : as <+: as') : Lift K B' F as' k E :=
  ⟨h.nx.up e p, h.bk.up e p, h.ct.up e p, h.rt.up e p⟩
variable {k : Kd} {st : Stmt} {rest body orelse : List Stmt}
theorem ds_nil (h : k.nx δ ω) : DS X [] δ ω k := fun B F H as σ w ev E o => ⟨_, pss_nil, o.nx σ H B as δ ω (Same.refl _) (List.prefix_refl _) w ev h⟩
theorem ds_cons (h : D1 X st δ ω { k with nx := fun δ' ω' => DS X rest δ' ω' k }) : DS X (st :: rest) δ ω k := fun B F H as σ w ev E o =>
  ⟨_, pss_cons ps_w pss_w, h B F H as σ w ev { E with nx := wSs X rest E } ⟨fun σ' H' B' as' δ' ω' e1 p1 w1 ev1 q => q B' F H' as' σ' w1 ev1 E (o.up e1 p1), o.bk, o.ct, o.rt⟩⟩
theorem Out.sl {K : Fg} {B F H : Hp} {as : List Addr} {Q : VK} (o : Out K B F as P Q) (w : Wd K B F H as ω) {v : V} {r : Sl} (hr : SlOk K B as (some v) r) (hp : P r ω) : Q v H := o v B H as r ω (Same.refl _) (List.prefix_refl _) w hr hp
theorem OutS.here {K : Fg} {B F H : Hp} {as : List Addr} {k : List Sl → List Cell → Prop} {Q : L2.St → Hp → Prop} {σ : L2.St} (o : OutS K B F as k Q) (w : Wd K B F H as ω) (ev : EnvOk K B as σ δ) (hk : k δ ω) : Q σ H := o σ H B as δ ω (Same.refl _) (List.prefix_refl _) w ev hk
theorem d1_asg {i : Nat} {x : Str} {p : Pos} (hN : X.N.Nodup) (hi : X.N[i]? = some x) (hx : Loc X.env.scope x) (h : DE X e δ ω fun r ω1 => k.nx (δ.set i r) ω1) (hs : swapsWith e (some (.Name x p)) pos.line X.env = pure false := by rfl)
    (hf : X.fn x = true ∨ X.env.scope.names.lookup x = some .local := by first | exact .inl rfl | exact .inr rfl | assumption) : D1 X (.Assign [.Name x p] e pos) δ ω k := fun B F H as σ w ev E o =>
  ⟨_, ps_set hN hi hx pe_w hs hf, h B F H as σ w ev _ fun v B1 H1 as1 r ω1 e1 p1 w1 s1 hp => (o.nx.up e1 p1).here w1 (envOk_set s1 i (envOk_up e1 p1 ev)) hp⟩
/-- several names from a tuple that is made elsewhere -/
theorem d1_unpack {ts : List Expr} {kk : Nat} {p : Pos} (hc : X.calm = true) (h : DE X e δ ω fun r ω1 => ∃ ds, r = .val (.tuple ds) ∧ ∀ B as σ vs H, EnvOk X.K B as σ δ → DpAll X.K B vs ds → ∃ t, PGs X ts t ∧ ts.length = vs.length ∧ ∀ Q, (∀ σ' δ', EnvOk X.K B as σ' δ' → k.nx δ' ω1 → Q σ' H) → t vs σ H Q)
    (hn : (assignEach ts X.env).length = ts.length := by rfl) (hst : (assignEach ts X.env).findIdx? (·.1) = none := by rfl)
    (hs : swapsWithSole [.Tuple ts kk p] e pos.line X.env = pure false := by rfl) (hw : swappedStores [.Tuple ts kk p] e X.env = pure none := by rfl)
    (h1 : (assignEach [.Tuple ts kk p] X.env).map (·.2) = [assign (.Tuple ts kk p) X.env] := by rfl) : D1 X (.Assign [.Tuple ts kk p] e pos) δ ω k := fun B F H as σ w ev E o => by
  refine ⟨_, ps_asg pe_w pg_w hs hw h1, ?_⟩
  refine h B F H as σ w ev _ fun v B1 H1 as1 r ω1 e1 p1 w1 s1 ⟨ds, er, hp⟩ => ?_
  subst er
  obtain ⟨a, xs, rfl, g1, g2⟩ := slv_tup s1 w1.b
  obtain ⟨t, ht, hl, hq⟩ := hp B1 as1 σ xs H1 (envOk_up e1 p1 ev) g2
  exact ⟨_, pg_tup hc ht hn hst, a, xs, rfl, g1, hl.symm, hq _ fun σ' δ' ev' hk => (o.nx.up e1 p1).here w1 ev' hk⟩
theorem d1_par {i j : Nat} {x y : Str} {px py pt : Pos} {kt k2 pt2} (hc : X.calm = true) (hN : X.N.Nodup) (hi : X.N[i]? = some x) (hj : X.N[j]? = some y) (hij : i ≠ j)
    (hx : X.env.scope.names.lookup x = some .local) (hy : X.env.scope.names.lookup y = some .local) (hw : swappedStores [.Tuple [.Name x px, .Name y py] kt pt] (.Tuple [a, b] k2 pt2) X.env = pure (some [x, y]))
    (h : DA X [a, b] δ ω fun rs ω1 => ∃ r s, rs = [r, s] ∧ k.nx ((δ.set i r).set j s) ω1) (hs : swapsWithSole [.Tuple [.Name x px, .Name y py] kt pt] (.Tuple [a, b] k2 pt2) pos.line X.env = pure false := by rfl) :
    D1 X (.Assign [.Tuple [.Name x px, .Name y py] kt pt] (.Tuple [a, b] k2 pt2) pos) δ ω k := fun B F H as σ w ev E o =>
  ⟨_, ps_par hc hN hi hj hij hx hy pa_w hw hs, h B F H as σ w ev _ fun vs B1 H1 as1 rs ω1 e1 p1 w1 s1 ⟨r, s, er, hp⟩ => by
    subst er
    obtain ⟨v, u, rfl, h1, h2⟩ := rs2 s1
    exact ⟨v, u, rfl, (o.nx.up e1 p1).here w1 (envOk_set h2 j (envOk_set h1 i (envOk_up e1 p1 ev))) hp⟩⟩
theorem d1_expr (h : DE X e δ ω fun _ ω1 => k.nx δ ω1) (hs : swapsWith e none pos.line X.env = pure false := by rfl) : D1 X (.Expr e pos) δ ω k := fun B F H as σ w ev E o =>
  ⟨_, ps_expr pe_w hs, h B F H as σ w ev _ fun v B1 H1 as1 r ω1 e1 p1 w1 s1 hp => (o.nx.up e1 p1).here w1 (envOk_up e1 p1 ev) hp⟩
theorem d1_ret (h : DE X e δ ω k.rt) : D1 X (.Return (some e) pos) δ ω k := fun B F H as σ w ev E o => ⟨_, ps_ret pe_w, h B F H as σ w ev _ o.rt⟩
theorem d1_retN (h : k.rt (.val .none) ω) : D1 X (.Return none pos) δ ω k := fun B F H as σ w ev E o => ⟨_, ps_retN, o.rt.here w .non h⟩
theorem d1_break (h : k.bk δ ω) : D1 X (.Break pos) δ ω k := fun B F H as σ w ev E o => ⟨_, ps_break, o.bk.here w ev h⟩
theorem d1_cont (h : k.ct δ ω) : D1 X (.Continue pos) δ ω k := fun B F H as σ w ev E o => ⟨_, ps_continue, o.ct.here w ev h⟩
theorem d1_pass (h : k.nx δ ω) : D1 X (.Pass pos) δ ω k := fun B F H as σ w ev E o => ⟨_, ps_pass, o.nx.here w ev h⟩
theorem d1_if {t : Expr} (h : DT X t δ ω fun b ω1 => if b = true then DS X body δ ω1 k else DS X orelse δ ω1 k) : D1 X (.If t body orelse pos) δ ω k := fun B F H as σ w ev E o => by
  refine ⟨_, ps_if pt_w pss_w pss_w, ?_⟩
  refine h B F H as σ w ev _ fun b B1 H1 as1 ω1 e1 p1 w1 hp => ?_
  cases b with
  | true => exact hp B1 F H1 as1 σ w1 (envOk_up e1 p1 ev) E (o.up e1 p1)
  | false => exact hp B1 F H1 as1 σ w1 (envOk_up e1 p1 ev) E (o.up e1 p1)
theorem d1_for (hp : PassesOwn (model X.prog X.w) X.A X.env X.xe) (hc : X.calm = true)
    (h : DI X tg iter δ ω fun its ω1 => ∃ Iv : Nat → List Sl → List Cell → Prop, Iv 0 δ ω1 ∧
      (∀ i d δ' ω', its[i]? = some d → Iv i δ' ω' → DG X (List.range δ'.length) tg d δ' fun δ2 => DS X body δ2 ω' { nx := Iv (i + 1), ct := Iv (i + 1), bk := k.nx, rt := k.rt }) ∧ ∀ δ' ω', Iv its.length δ' ω' → k.nx δ' ω')
    (hs : ∀ x, foldedSetIterable iter X.env x = pure x := by intro _; rfl) : D1 X (.For tg iter body [] pos) δ ω k := fun B F H as σ w ev E o => by
  refine ⟨_, ps_for hp hc pi_w pg_w pss_w hs, ?_⟩
  refine h B F H as σ w ev _ fun J its B1 H1 as1 ω1 e1 p1 w1 hit ⟨Iv, h0, ht, hd⟩ => ?_
  refine ⟨fun i m σ' H' => m = its.length - i ∧ i ≤ its.length ∧ ∃ B' as' δ' ω', Same B1 B' ∧ as1 <+: as' ∧ Wd X.K B' F H' as' ω' ∧ EnvOk X.K B' as' σ' δ' ∧ Iv i δ' ω',
    ⟨its.length, by omega, Nat.zero_le _, B1, as1, δ, ω1, Same.refl _, List.prefix_refl _, w1, envOk_up e1 p1 ev, h0⟩, fun i m σ' H' hW => ?_⟩
  obtain ⟨rfl, hi, B', as', δ', ω', e2, p2, w2, ev2, hI⟩ := hW
  by_cases hlt : i < its.length
  · obtain ⟨hgo, hy⟩ := (hit B' F H' as' ω' e2 w2).1 i its[i] (List.getElem?_eq_getElem hlt)
    refine .inr ⟨hgo, fun σ3 H3 => ∃ B' as' δ' ω', Same B1 B' ∧ as1 <+: as' ∧ Wd X.K B' F H3 as' ω' ∧ EnvOk X.K B' as' σ3 δ' ∧ Iv (i + 1) δ' ω', fun σ3 H3 q => ⟨its.length - (i + 1), by omega, rfl, hlt, q⟩, fun x H3 q => ?_⟩
    obtain ⟨B2, e3, w3, d3⟩ := hy x H3 q
    refine ht i its[i] δ' ω' (List.getElem?_eq_getElem hlt) hI B2 H3 as' σ' x w3.b (envOk_up e3 (List.prefix_refl _) ev2) d3 _ fun σ4 δ4 ev4 _ _ hb => ?_
    refine hb B2 F H3 as' σ4 w3 ev4 _ ⟨fun σ5 H5 B5 as5 δ5 ω5 e5 p5 w5 ev5 q5 => ?_, ?_, fun σ5 H5 B5 as5 δ5 ω5 e5 p5 w5 ev5 q5 => ?_, ?_⟩
    · exact ⟨B5, as5, δ5, ω5, (e2.trans e3).trans e5, p2.trans p5, w5, ev5, q5⟩
    · exact o.nx.up (((e1.trans e2).trans e3)) (p1.trans p2)
    · exact ⟨B5, as5, δ5, ω5, (e2.trans e3).trans e5, p2.trans p5, w5, ev5, q5⟩
    · exact o.rt.up (((e1.trans e2).trans e3)) (p1.trans p2)
  · have ei : i = its.length := by omega
    subst ei
    exact .inl ⟨(hit B' F H' as' ω' e2 w2).2, (o.nx.up (e1.trans e2) (p1.trans p2)).here w2 ev2 (hd δ' ω' hI)⟩
theorem d1_while {t : Expr} (hp : PassesOwn (model X.prog X.w) X.A X.env X.xe) (Iv : Nat → List Sl → List Cell → Prop) (m0 : Nat) (h0 : Iv m0 δ ω)
    (ht : ∀ m δ' ω', Iv m δ' ω' → DT X t δ' ω' fun b ω1 => if b = true then DS X body δ' ω1 { nx := fun δ2 ω2 => ∃ m', m' < m ∧ Iv m' δ2 ω2, ct := fun δ2 ω2 => ∃ m', m' < m ∧ Iv m' δ2 ω2, bk := k.nx, rt := k.rt } else k.nx δ' ω1) : D1 X (.While t body [] pos) δ ω k := fun B F H as σ w ev E o => by
  refine ⟨_, ps_while hp pt_w pss_w, ?_⟩
  refine ⟨fun m σ' H' => ∃ B' as' δ' ω', Same B B' ∧ as <+: as' ∧ Wd X.K B' F H' as' ω' ∧ EnvOk X.K B' as' σ' δ' ∧ Iv m δ' ω', ⟨m0, B, as, δ, ω, Same.refl _, List.prefix_refl _, w, ev, h0⟩, fun m σ' H' hW => ?_⟩
  obtain ⟨B', as', δ', ω', e2, p2, w2, ev2, hI⟩ := hW
  refine ht m δ' ω' hI B' F H' as' σ' w2 ev2 _ fun b B3 H3 as3 ω3 e3 p3 w3 hb => ?_
  cases b with
  | true =>
    refine iteT ⟨fun σ4 H4 => ∃ m', m' < m ∧ ∃ B' as' δ' ω', Same B B' ∧ as <+: as' ∧ Wd X.K B' F H4 as' ω' ∧ EnvOk X.K B' as' σ4 δ' ∧ Iv m' δ' ω', fun σ4 H4 q => q, ?_⟩
    refine hb B3 F H3 as3 σ' w3 (envOk_up e3 p3 ev2) _ ⟨fun σ5 H5 B5 as5 δ5 ω5 e5 p5 w5 ev5 ⟨m', hm, q5⟩ => ?_, ?_, fun σ5 H5 B5 as5 δ5 ω5 e5 p5 w5 ev5 ⟨m', hm, q5⟩ => ?_, ?_⟩
    · exact ⟨m', hm, B5, as5, δ5, ω5, (e2.trans e3).trans e5, (p2.trans p3).trans p5, w5, ev5, q5⟩
    · exact o.nx.up (e2.trans e3) (p2.trans p3)
    · exact ⟨m', hm, B5, as5, δ5, ω5, (e2.trans e3).trans e5, (p2.trans p3).trans p5, w5, ev5, q5⟩
    · exact o.rt.up (e2.trans e3) (p2.trans p3)
  | false => exact iteF ((o.nx.up (e2.trans e3) (p2.trans p3)).here w3 (envOk_up e3 p3 ev2) hb)
/-- a ghost step: an owned list in slot i is from now on known for good -/
theorem ds_freeze {i kx : Nat} {ds : List D} (hδ : δ[i]? = some (.own kx)) (hc : ω[kx]? = some (.lst ds)) (h : DS X rest (δ.set i (.val (.list ds))) (ω.set kx .dead) k) : DS X rest δ ω k := fun B F H as σ w ev E o => by
  obtain ⟨ov, h1, h2⟩ := envOk_get ev hδ
  obtain ⟨a, rfl, h3⟩ := h2
  obtain ⟨B', e1, w1, d1⟩ := w.freeze h3 hc
  have ev2 := envOk_set (slv d1) i (envOk_up e1 (List.prefix_refl _) ev)
  have es : σ.set i (some (.ref a)) = σ := by
    apply List.ext_getElem?
    intro j
    by_cases hj : i = j
    · subst hj
      rw [List.getElem?_set_self (List.getElem?_eq_some_iff.mp h1).1, h1]
    · rw [List.getElem?_set_ne hj]
  rw [es] at ev2
  exact h B' F H as σ w1 ev2 E (o.up e1 (List.prefix_refl _))
/-- an owned list grows -/
theorem de_append {xs : Expr} {apos cpos : Pos} (h : DE X xs δ ω fun r ω1 => ∃ kx ds, r = .own kx ∧ ω1[kx]? = some (.lst ds) ∧ DE X e δ ω1 fun s ω2 => ∃ d ds2, s = .val d ∧ ω2[kx]? = some (.lst ds2) ∧ ds2.length < 100000 ∧ P (.val .none) (ω2.set kx (.lst (ds2 ++ [d]))))
    (hbase : attributeBase xs "append" X.env (eval xs X.env) = eval xs X.env := by rfl)
    (hfew : ((backTo cpos (starEach (e :: []) X.env)).all (fun x => !x.1) && (backToKw cpos (keywordEach [] X.env)).all (fun x => x.1.isSome) && decide ((e :: ([] : List Expr)).length + ([] : List Keyword).length + (if ([] : List Keyword).isEmpty then 0 else 1) < 30)) = true := by rfl)
    (hline : (apos.endLine == cpos.line) = true := by rfl) (hs : starEach (e :: []) X.env = (false, eval e X.env) :: starEach [] X.env := by rfl) (hplain : (backTo cpos (starEach [] X.env)).any (·.1) = false := by rfl) :
    DE X (.Call (.Attribute xs "append" apos) [e] [] cpos) δ ω P := fun B F H as σ w ev Q o => by
  refine ⟨_, pe_bm PySem.F.plainAttrs_list PySem.F.slot_list_append PySem.F.type_list_append mt_append pe_w (pa_cons pe_w pa_nil hs) hbase hfew hline hs hplain, ?_⟩
  refine h B F H as σ w ev _ fun v B1 H1 as1 r ω1 e1 p1 w1 s1 ⟨kx, ds, er, hk, q1⟩ => ?_
  subst er
  obtain ⟨a, xs, rfl, ha, h1, h2⟩ := slo_lst w1 s1 hk
  refine ⟨.inl ⟨rfl, xs, SqL.of h1⟩, ?_⟩
  refine q1 B1 F H1 as1 σ w1 (envOk_up e1 p1 ev) _ fun u B2 H2 as2 r2 ω2 e2 p2 w2 s2 ⟨d, ds2, er2, hk2, hz, hp⟩ => ?_
  subst er2
  obtain ⟨hb, ys, h3, h4⟩ := w2.cellL (pre_get p2 ha) hk2
  refine ⟨a, ys, u, rfl, rfl, h3, ?_, ?_⟩
  · rw [dpAll_len h4]
    exact Nat.lt_trans hz (by decide)
  · have w3 := w2.write (c' := .lst (ds2 ++ [d])) (o := .lst (ys ++ [u])) (pre_get p2 ha) hk2 hb ⟨hb, _, upd_same, dpAll_app h4 (.cons (sl_val s2) .nil)⟩
    exact o _ B2 _ as2 _ _ (e1.trans e2) (p1.trans p2) w3 (slv .non) hp
/-- xs.pop(i) of an owned list -/
theorem de_popAt {xs : Expr} {apos cpos : Pos} (h : DE X xs δ ω fun r ω1 => ∃ kx ds, r = .own kx ∧ ω1[kx]? = some (.lst ds) ∧ DE X e δ ω1 fun s ω2 => ∃ (i : Int) (ds2 : List D) (j : Nat) (d : D), s = .val (.int i) ∧ ω2[kx]? = some (.lst ds2) ∧ -(2 ^ 63) ≤ i ∧ i < 2 ^ 63 ∧ seqIndex? i ds2.length = some j ∧ ds2[j]? = some d ∧ P (.val d) (ω2.set kx (.lst (ds2.eraseIdx j))))
    (hbase : attributeBase xs "pop" X.env (eval xs X.env) = eval xs X.env := by rfl)
    (hfew : ((backTo cpos (starEach (e :: []) X.env)).all (fun x => !x.1) && (backToKw cpos (keywordEach [] X.env)).all (fun x => x.1.isSome) && decide ((e :: ([] : List Expr)).length + ([] : List Keyword).length + (if ([] : List Keyword).isEmpty then 0 else 1) < 30)) = true := by rfl)
    (hline : (apos.endLine == cpos.line) = true := by rfl) (hs : starEach (e :: []) X.env = (false, eval e X.env) :: starEach [] X.env := by rfl) (hplain : (backTo cpos (starEach [] X.env)).any (·.1) = false := by rfl) :
    DE X (.Call (.Attribute xs "pop" apos) [e] [] cpos) δ ω P := fun B F H as σ w ev Q o => by
  refine ⟨_, pe_bm PySem.F.plainAttrs_list PySem.F.slot_list_pop PySem.F.type_list_pop mt_popAt pe_w (pa_cons pe_w pa_nil hs) hbase hfew hline hs hplain, ?_⟩
  refine h B F H as σ w ev _ fun v B1 H1 as1 r ω1 e1 p1 w1 s1 ⟨kx, ds, er, hk, q1⟩ => ?_
  subst er
  obtain ⟨a, xs, rfl, ha, h1, h2⟩ := slo_lst w1 s1 hk
  refine ⟨.inl ⟨rfl, xs, SqL.of h1⟩, ?_⟩
  refine q1 B1 F H1 as1 σ w1 (envOk_up e1 p1 ev) _ fun u B2 H2 as2 r2 ω2 e2 p2 w2 s2 ⟨i, ds2, j, d, er2, hk2, hz1, hz2, hj, hd, hp⟩ => ?_
  subst er2
  obtain rfl := dp_int_inv (sl_val s2)
  obtain ⟨hb, ys, h3, h4⟩ := w2.cellL (pre_get p2 ha) hk2
  obtain ⟨y, h5, h6⟩ := dpAll_at h4 hd
  refine ⟨a, ys, i, j, y, rfl, rfl, h3, hz1, hz2, by rw [dpAll_len h4]; exact hj, h5, ?_⟩
  have w3 := w2.write (c' := .lst (ds2.eraseIdx j)) (o := .lst (ys.eraseIdx j)) (pre_get p2 ha) hk2 hb ⟨hb, _, upd_same, by
    rw [List.eraseIdx_eq_take_drop_succ, List.eraseIdx_eq_take_drop_succ]
    exact dpAll_app (dpAll_take _ h4) (dpAll_drop _ h4)⟩
  exact o _ B2 _ as2 _ _ (e1.trans e2) (p1.trans p2) w3 (slv h6) hp
/-- xs[i] = e of an owned list -/
theorem d1_setL {o i : Expr} {p2 : Pos} (h : DE X e δ ω fun r ω1 => ∃ d, r = .val d ∧ DE X o δ ω1 fun s ω2 => ∃ kx, s = .own kx ∧ DE X i δ ω2 fun t ω3 => ∃ (z : Int) (ds : List D) (j : Nat), t = .val (.int z) ∧ ω3[kx]? = some (.lst ds) ∧ ixN ds.length z = some j ∧ k.nx δ (ω3.set kx (.lst (ds.set j d))))
    (hs : swapsWithSole [.Subscript o i p2] e pos.line X.env = pure false := by rfl) (hw : swappedStores [.Subscript o i p2] e X.env = pure none := by rfl) (h1 : (assignEach [.Subscript o i p2] X.env).map (·.2) = [assign (.Subscript o i p2) X.env] := by rfl)
    (ha : ∀ v, assign (.Subscript o i p2) X.env v = (do
      let ov ← holding [v] (eval o X.env)
      let iv ← holding [v, ov] (eval i X.env)
      standAt p2
      holding [v, ov, iv] (setItem ov iv v)
      release [v, ov, iv] []) := by intro _; rfl) : D1 X (.Assign [.Subscript o i p2] e pos) δ ω k := fun B F H as σ w ev E oo => by
  refine ⟨_, ps_asg pe_w (pg_sub pe_w pe_w set_list ha) hs hw h1, ?_⟩
  refine h B F H as σ w ev _ fun v B1 H1 as1 r ω1 e1 p1 w1 s1 ⟨d, er, q1⟩ => ?_
  subst er
  refine q1 B1 F H1 as1 σ w1 (envOk_up e1 p1 ev) _ fun u B2 H2 as2 r2 ω2 e2 p2 w2 s2 ⟨kx, er2, q2⟩ => ?_
  subst er2
  refine q2 B2 F H2 as2 σ w2 (envOk_up (e1.trans e2) (p1.trans p2) ev) _ fun t B3 H3 as3 r3 ω3 e3 p3 w3 s3 ⟨z, ds, j, er3, hk, hj, hp⟩ => ?_
  subst er3
  obtain rfl := dp_int_inv (sl_val s3)
  obtain ⟨a, rfl, ha⟩ := sl_own s2
  obtain ⟨hb, ys, h3, h4⟩ := w3.cellL (pre_get p3 ha) hk
  refine ⟨a, ys, z, j, rfl, rfl, h3, by rw [dpAll_len h4]; exact hj, ?_⟩
  have w4 := w3.write (c' := .lst (ds.set j d)) (o := .lst (ys.set j v)) (pre_get p3 ha) hk hb ⟨hb, _, upd_same, dpAll_set (dp_up (e2.trans e3) (sl_val s1)) j h4⟩
  exact oo.nx σ _ B3 as3 δ _ ((e1.trans e2).trans e3) ((p1.trans p2).trans p3) w4 (envOk_up ((e1.trans e2).trans e3) ((p1.trans p2).trans p3) ev) hp
end
end
section
/-! ### frames of owned things -/
section
variable {K : Fg} {B F H : Hp} {as : List Addr} {ω : List Cell}
/-- a new thing that nobody sees for a while -/
theorem Wd.hide (w : Wd K B F H as ω) {p : Addr} {o : HO} (h : H p = none) : Wd K B (upd F p o) (upd H p o) as ω := by
  have hB := w.freeB h
  have hA := w.freeA h
  refine ⟨fun b x e => ?_, fun b x e => ?_, w.len, w.nd, fun k a c e1 e2 => ?_⟩
  · have hb : b ≠ p := fun z => by
      rw [z, hB] at e
      cases e
    rw [upd_ne hb]
    exact w.b _ _ e
  · by_cases hb : b = p
    · subst hb
      rw [upd_same] at e ⊢
      exact ⟨e, hB⟩
    · rw [upd_ne hb] at e ⊢
      exact w.f _ _ e
  · have ha : a ≠ p := fun z => hA (z ▸ List.mem_of_getElem? e1)
    obtain ⟨q1, q2, q3⟩ := w.at' k a c e1 e2
    exact ⟨by rw [upd_ne ha]; exact q1, by rw [upd_ne ha]; exact q2, cell_up q3 (Same.refl _) (fun z => z) (upd_ne ha)⟩
theorem Wd.rehide {p : Addr} {o o' : HO} (w : Wd K B (upd F p o) H as ω) : Wd K B (upd F p o') (upd H p o') as ω := by
  have hB : B p = none := (w.f p o upd_same).2
  have hne : ∀ {k : Nat} {a : Addr} {c : Cell}, as[k]? = some a → ω[k]? = some c → a ≠ p := fun {k a c} e1 e2 z => by
    have q := (w.at' k a c e1 e2).1
    rw [z, upd_same] at q
    cases q
  refine ⟨fun b x e => ?_, fun b x e => ?_, w.len, w.nd, fun k a c e1 e2 => ?_⟩
  · have hb : b ≠ p := fun z => by
      rw [z, hB] at e
      cases e
    rw [upd_ne hb]
    exact w.b _ _ e
  · by_cases hb : b = p
    · subst hb
      rw [upd_same] at e ⊢
      exact ⟨e, hB⟩
    · rw [upd_ne hb] at e ⊢
      have q := w.f b x (by rw [upd_ne hb]; exact e)
      exact q
  · have ha := hne e1 e2
    obtain ⟨q1, q2, q3⟩ := w.at' k a c e1 e2
    rw [upd_ne ha] at q1
    exact ⟨by rw [upd_ne ha]; exact q1, by rw [upd_ne ha]; exact q2, cell_up q3 (Same.refl _) (fun z => z) (upd_ne ha)⟩
theorem Wd.show {p : Addr} {o : HO} (w : Wd K B (upd F p o) H as ω) (hF : F p = none) : Wd K (upd B p o) F H as ω ∧ Same B (upd B p o) := by
  obtain ⟨h1, hB⟩ := w.f p o upd_same
  have sb : Same B (upd B p o) := same_new hB
  have hne : ∀ {k : Nat} {a : Addr} {c : Cell}, as[k]? = some a → ω[k]? = some c → a ≠ p := fun {k a c} e1 e2 z => by
    have q := (w.at' k a c e1 e2).1
    rw [z, upd_same] at q
    cases q
  refine ⟨⟨fun b x e => ?_, fun b x e => ?_, w.len, w.nd, fun k a c e1 e2 => ?_⟩, sb⟩
  · by_cases hb : b = p
    · subst hb
      rw [upd_same] at e
      cases e
      exact h1
    · rw [upd_ne hb] at e
      exact w.b _ _ e
  · have hb : b ≠ p := fun z => by
      rw [z, hF] at e
      cases e
    have q := w.f b x (by rw [upd_ne hb]; exact e)
    rw [upd_ne hb]
    exact q
  · have ha := hne e1 e2
    obtain ⟨q1, q2, q3⟩ := w.at' k a c e1 e2
    rw [upd_ne ha] at q1
    exact ⟨q1, q2, cell_up q3 sb (fun z => by rw [upd_ne ha]; exact z) rfl⟩
theorem Wd.toOwn {p : Addr} {xs : List V} {ds : List D} (w : Wd K B (upd F p (.lst xs)) H as ω) (hF : F p = none) (hd : DpAll K B xs ds) : Wd K B F H (as ++ [p]) (ω ++ [.lst ds]) := by
  obtain ⟨h1, hB⟩ := w.f p (.lst xs) upd_same
  have hne : ∀ {k : Nat} {a : Addr}, as[k]? = some a → a ≠ p := fun {k a} e1 z => by
    have hk : k < ω.length := by rw [← w.len]; exact (List.getElem?_eq_some_iff.mp e1).1
    have q := (w.at' k a _ e1 (List.getElem?_eq_getElem hk)).1
    rw [z, upd_same] at q
    cases q
  refine ⟨w.b, fun b x e => ?_, by rw [List.length_append, List.length_append, w.len]; rfl, ?_, fun k a c e1 e2 => ?_⟩
  · have hb : b ≠ p := fun z => by
      rw [z, hF] at e
      cases e
    exact w.f b x (by rw [upd_ne hb]; exact e)
  · rw [List.nodup_append]
    refine ⟨w.nd, by simp, fun x hx y hy => ?_⟩
    have hy' : y = p := by simpa using hy
    subst hy'
    obtain ⟨k, hk, e⟩ := List.mem_iff_getElem.mp hx
    exact hne (k := k) (by rw [List.getElem?_eq_getElem hk, e])
  · by_cases hk : k < as.length
    · rw [List.getElem?_append_left hk] at e1
      rw [List.getElem?_append_left (by rw [← w.len]; exact hk)] at e2
      obtain ⟨q1, q2, q3⟩ := w.at' k a c e1 e2
      rw [upd_ne (hne e1)] at q1
      exact ⟨q1, q2, q3⟩
    · have hk2 : k = as.length := by
        have := (List.getElem?_eq_some_iff.mp e1).1
        rw [List.length_append] at this
        simp at this
        omega
      subst hk2
      rw [List.getElem?_append_right (Nat.le_refl _), Nat.sub_self] at e1
      rw [w.len, List.getElem?_append_right (Nat.le_refl _), Nat.sub_self] at e2
      simp at e1 e2
      subst e1 e2
      exact ⟨hF, by rw [h1]; simp, hB, xs, h1, hd⟩
theorem Wd.addOwn (w : Wd K B F H as ω) {a : Addr} {c : Cell} (hF : F a = none) (hn : a ∉ as) (hH : H a ≠ none) (hc : CellOk K B H a c) : Wd K B F H (as ++ [a]) (ω ++ [c]) := by
  refine ⟨w.b, w.f, by rw [List.length_append, List.length_append, w.len]; rfl, ?_, fun k b d e1 e2 => ?_⟩
  · rw [List.nodup_append]
    refine ⟨w.nd, by simp, fun x hx y hy => ?_⟩
    have hy' : y = a := by simpa using hy
    subst hy'
    exact fun z => hn (z ▸ hx)
  · by_cases hk : k < as.length
    · rw [List.getElem?_append_left hk] at e1
      rw [List.getElem?_append_left (by rw [← w.len]; exact hk)] at e2
      exact w.at' k b d e1 e2
    · have hk2 : k = as.length := by
        have := (List.getElem?_eq_some_iff.mp e1).1
        rw [List.length_append] at this
        simp at this
        omega
      subst hk2
      rw [List.getElem?_append_right (Nat.le_refl _), Nat.sub_self] at e1
      rw [w.len, List.getElem?_append_right (Nat.le_refl _), Nat.sub_self] at e2
      simp at e1 e2
      subst e1 e2
      exact ⟨hF, hH, hc⟩
theorem Wd.drop (w : Wd K B F H as ω) : Wd K B F H [] [] := ⟨w.b, w.f, rfl, .nil, fun k a c e1 e2 => by simp at e1⟩
/-- what we own is others' for a call -/
theorem Wd.frame (w : Wd K B F H as ω) : ∃ F', Wd K B F' H [] [] ∧ (∀ a o, F a = some o → F' a = some o) ∧ (∀ (k : Nat) (a : Addr) (c : Cell), as[k]? = some a → ω[k]? = some c → B a = none → F' a = H a) ∧ ∀ B' H', Same B B' → Wd K B' F' H' [] [] → Wd K B' F H' as ω := by
  classical
  refine ⟨fun a => if a ∈ as ∧ B a = none then H a else F a, ⟨w.b, fun a o e => ?_, rfl, .nil, fun k a c e1 _ => by simp at e1⟩, fun a o e => ?_, fun k a c e1 e2 hd => ?_, fun B' H' sb w' => ⟨w'.b, fun a o e => ?_, w.len, w.nd, fun k a c e1 e2 => ?_⟩⟩
  · by_cases h : a ∈ as ∧ B a = none
    · rw [if_pos h] at e
      exact ⟨e, h.2⟩
    · rw [if_neg h] at e
      exact w.f a o e
  · have h : ¬ (a ∈ as ∧ B a = none) := fun z => by
      obtain ⟨k, hk, q⟩ := List.mem_iff_getElem.mp z.1
      have hk2 : k < ω.length := by rw [← w.len]; exact hk
      have := (w.at' k a _ (by rw [List.getElem?_eq_getElem hk, q]) (List.getElem?_eq_getElem hk2)).1
      rw [this] at e
      cases e
    show (if _ then _ else _) = _
    rw [if_neg h]
    exact e
  · have h : a ∈ as ∧ B a = none := ⟨List.mem_of_getElem? e1, hd⟩
    show (if _ then _ else _) = _
    rw [if_pos h]
  · have h : ¬ (a ∈ as ∧ B a = none) := fun z => by
      obtain ⟨k, hk, q⟩ := List.mem_iff_getElem.mp z.1
      have hk2 : k < ω.length := by rw [← w.len]; exact hk
      have := (w.at' k a _ (by rw [List.getElem?_eq_getElem hk, q]) (List.getElem?_eq_getElem hk2)).1
      rw [this] at e
      cases e
    refine w'.f a o ?_
    show (if _ then _ else _) = _
    rw [if_neg h]
    exact e
  · obtain ⟨q1, q2, q3⟩ := w.at' k a c e1 e2
    cases hb : B a with
    | some o =>
      exact ⟨q1, by rw [w'.b _ _ (sb _ _ hb)]; simp, cell_keep q3 (by rw [hb]; simp) sb⟩
    | none =>
      obtain ⟨o, ho⟩ := Option.ne_none_iff_exists'.mp q2
      have hf := w'.f a o (by
        show (if _ then _ else _) = _
        rw [if_pos ⟨List.mem_of_getElem? e1, hb⟩]
        exact ho)
      exact ⟨q1, by rw [hf.1]; simp, cell_up q3 sb (fun _ => hf.2) (hf.1.trans ho.symm)⟩
/-- .. all but one -/
theorem Wd.frame1 (w : Wd K B F H as ω) {k : Nat} {a : Addr} {c : Cell} (ha : as[k]? = some a) (hc : ω[k]? = some c) (hd : c ≠ .dead) : ∃ F', Wd K B F' H [a] [c] ∧ ∀ B' H' c', Same B B' → Wd K B' F' H' [a] [c'] → Wd K B' F H' as (ω.set k c') := by
  classical
  refine ⟨fun b => if b ≠ a ∧ b ∈ as ∧ B b = none then H b else F b, ⟨w.b, fun b o e => ?_, rfl, by simp, fun j b c2 e1 e2 => ?_⟩, fun B' H' c' sb w' => ⟨w'.b, fun b o e => ?_, by rw [List.length_set]; exact w.len, w.nd, fun j b c2 e1 e2 => ?_⟩⟩
  · by_cases h : b ≠ a ∧ b ∈ as ∧ B b = none
    · rw [if_pos h] at e
      exact ⟨e, h.2.2⟩
    · rw [if_neg h] at e
      exact w.f b o e
  · cases j with
    | succ j => simp at e1
    | zero =>
      simp at e1 e2
      subst e1 e2
      obtain ⟨q1, q2, q3⟩ := w.at' k a c ha hc
      refine ⟨?_, q2, q3⟩
      show (if _ then _ else _) = _
      rw [if_neg (fun z => z.1 rfl)]
      exact q1
  · have h : ¬ (b ≠ a ∧ b ∈ as ∧ B b = none) := fun z => by
      obtain ⟨j, hj, q⟩ := List.mem_iff_getElem.mp z.2.1
      have hj2 : j < ω.length := by rw [← w.len]; exact hj
      have := (w.at' j b _ (by rw [List.getElem?_eq_getElem hj, q]) (List.getElem?_eq_getElem hj2)).1
      rw [this] at e
      cases e
    refine w'.f b o ?_
    show (if _ then _ else _) = _
    rw [if_neg h]
    exact e
  · by_cases hj : j = k
    · subst hj
      rw [ha] at e1
      cases e1
      have hk : j < ω.length := (List.getElem?_eq_some_iff.mp hc).1
      rw [List.getElem?_set_self hk] at e2
      cases e2
      obtain ⟨q1, q2, q3⟩ := w'.at' 0 a c' rfl rfl
      exact ⟨(w.at' j a c ha hc).1, q2, q3⟩
    · rw [List.getElem?_set_ne (Ne.symm hj)] at e2
      have hne : b ≠ a := fun z => hj (nodup_at w.nd (z ▸ e1) ha)
      obtain ⟨q1, q2, q3⟩ := w.at' j b c2 e1 e2
      cases hb : B b with
      | some o =>
        exact ⟨q1, by rw [w'.b _ _ (sb _ _ hb)]; simp, cell_keep q3 (by rw [hb]; simp) sb⟩
      | none =>
        obtain ⟨o, ho⟩ := Option.ne_none_iff_exists'.mp q2
        have hf := w'.f b o (by
          show (if _ then _ else _) = _
          rw [if_pos ⟨hne, List.mem_of_getElem? e1, hb⟩]
          exact ho)
        exact ⟨q1, by rw [hf.1]; simp, cell_up q3 sb (fun _ => hf.2) (hf.1.trans ho.symm)⟩
end

/-! ### list comprehensions -/
def wipeD (δ : List Sl) : List Nat → List Sl
  | [] => δ
  | v :: vs => (wipeD δ vs).set v .no
theorem envOk_wipe {K : Fg} {B : Hp} {as : List Addr} {σ : List (Option V)} {δ : List Sl} (ev : EnvOk K B as σ δ) : ∀ vs : List Nat, EnvOk K B as (wipe σ vs) (wipeD δ vs)
  | [] => ev
  | v :: vs => envOk_set (o := none) (s := Sl.no) trivial v (envOk_wipe ev vs)
theorem wipe_get {σ : L2.St} : ∀ {vs : List Nat} {i : Nat}, i ∉ vs → (wipe σ vs)[i]? = σ[i]?
  | [], _, _ => rfl
  | v :: vs, i, h => by
    show ((wipe σ vs).set v none)[i]? = _
    rw [List.getElem?_set_ne (fun (z : v = i) => h (z ▸ List.mem_cons_self)), wipe_get fun z => h (List.mem_cons_of_mem _ z)]
theorem wipe_at {σ : L2.St} : ∀ {vs : List Nat} {i : Nat}, i ∈ vs → i < σ.length → (wipe σ vs)[i]? = some none
  | v :: vs, i, h, hl => by
    show ((wipe σ vs).set v none)[i]? = _
    by_cases hv : v = i
    · subst hv
      rw [List.getElem?_set_self (by rw [wipe_length]; exact hl)]
    · rw [List.getElem?_set_ne hv]
      exact wipe_at ((List.mem_cons.mp h).resolve_left (Ne.symm hv)) hl
theorem wipe_eq {σ σ' : L2.St} {vs : List Nat} (hl : σ'.length = σ.length) (h : ∀ i, i ∉ vs → σ'[i]? = σ[i]?) : wipe σ' vs = wipe σ vs := by
  apply List.ext_getElem?
  intro i
  by_cases hi : i ∈ vs
  · by_cases hs : i < σ.length
    · rw [wipe_at hi hs, wipe_at hi (by omega)]
    · rw [List.getElem?_eq_none (by rw [wipe_length]; omega), List.getElem?_eq_none (by rw [wipe_length]; omega)]
  · rw [wipe_get hi, wipe_get hi]
    exact h i hi

def wTs (X : Cx) (ifs : List Expr) : TT := fun σ H Q => ∃ t, PTs X ifs t ∧ t σ H Q
def DTs (X : Cx) (ifs : List Expr) (δ : List Sl) (ω : List Cell) (T : Bool → List Cell → Prop) : Prop :=
  match ifs with
  | [] => T true ω
  | [c] => DT X c δ ω T
  | _ => False
theorem dts_run {X : Cx} {ifs : List Expr} {δ : List Sl} {ω : List Cell} {T : Bool → List Cell → Prop} (h : DTs X ifs δ ω T) {B F H : Hp} {as : List Addr} {σ : L2.St} (w : Wd X.K B F H as ω) (ev : EnvOk X.K B as σ δ) (Q : Bool → Hp → Prop) (o : OutB X.K B F as T Q) : wTs X ifs σ H Q := by
  match ifs, h with
  | [], h => exact ⟨_, pts_nil, o true B H as ω (Same.refl _) (List.prefix_refl _) w h⟩
  | [c], h => exact ⟨_, pts_one pt_w, h B F H as σ w ev Q o⟩

section
variable {X : Cx} {e a b c tg iter elt : Expr} {es ifs : List Expr} {δ : List Sl} {ω : List Cell} {P : PO1} {pos : Pos} {scope : Scope} {own : List (Str × Nat)}
/-- in a comprehension's block, wherever it stands -/
abbrev Blk (X : Cx) (scope : Scope) (p : Cx → Prop) : Prop := ∀ (s : Shared) (H : Hp) (C : Addr) (cl : List (Str × Addr)) (fp : List Addr), p (X.blk s H scope (compEnvC scope cl C X.env) fp)
def LcTurn (X : Cx) (scope : Scope) (vs : List Nat) (tg : Expr) (ifs : List Expr) (elt : Expr) (δ : List Sl) (its : List D) (Iv : Nat → List D → List Cell → Prop) : Prop :=
  ∀ i d acc ω', its[i]? = some d → Iv i acc ω' → Blk X scope fun Y => DG Y vs tg d (wipeD δ vs) fun δ2 => Blk X scope fun Y => DTs Y ifs δ2 ω' fun b ω2 =>
    if b = true then Blk X scope fun Y => DE Y elt δ2 ω2 fun r ω3 => ∃ y, r = .val y ∧ Iv (i + 1) (acc ++ [y]) ω3 else Iv (i + 1) acc ω2
theorem lc_read {vs : List Nat} (h : DI X tg iter δ ω fun its ω1 => its.length ≤ 100000 ∧ ∃ Iv : Nat → List D → List Cell → Prop, Iv 0 [] ω1 ∧ LcTurn X scope vs tg ifs elt δ its Iv ∧ ∀ acc ω', acc.length ≤ its.length → Iv its.length acc ω' → P (.val (.list acc)) ω' ∨ P (.own ω'.length) (ω' ++ [.lst acc]))
    {B F H : Hp} {as : List Addr} {σ : L2.St} (w : Wd X.K B F H as ω) (ev : EnvOk X.K B as σ δ) (Q : VK) (o : Out X.K B F as P Q) :
    tLc (wI X tg iter) (fun v σ H Q => Blk X scope fun Y => wG Y tg v σ H Q) (fun σ H Q => Blk X scope fun Y => wTs Y ifs σ H Q) (fun σ H Q => Blk X scope fun Y => wE Y elt σ H Q) vs σ H Q := by
  refine h B F H as σ w ev _ fun J its B1 H1 as1 ω1 e1 p1 w1 hit ⟨hlen, Iv, h0, ht, hd⟩ => ?_
  intro Dl hD
  have hF : F Dl = none := w1.freeF hD
  refine ⟨fun i m H' => m = its.length - i ∧ i ≤ its.length ∧ ∃ B' as' acc accV ω', Same B1 B' ∧ as1 <+: as' ∧ Wd X.K B' (upd F Dl (.lst accV)) H' as' ω' ∧ DpAll X.K B' accV acc ∧ acc.length ≤ i ∧ Iv i acc ω',
    ⟨its.length, by omega, Nat.zero_le _, B1, as1, [], [], ω1, Same.refl _, List.prefix_refl _, w1.hide hD, .nil, Nat.zero_le _, h0⟩, fun i m H' hW => ?_⟩
  obtain ⟨rfl, hi, B', as', acc, accV, ω', e2, p2, w2, hacc, hal, hI⟩ := hW
  by_cases hlt : i < its.length
  · obtain ⟨hgo, hy⟩ := (hit B' _ H' as' ω' e2 w2).1 i its[i] (List.getElem?_eq_getElem hlt)
    refine .inr ⟨hgo, fun H3 => ∃ B' as' acc accV ω', Same B1 B' ∧ as1 <+: as' ∧ Wd X.K B' (upd F Dl (.lst accV)) H3 as' ω' ∧ DpAll X.K B' accV acc ∧ acc.length ≤ i + 1 ∧ Iv (i + 1) acc ω', fun H3 q => ⟨its.length - (i + 1), by omega, rfl, hlt, q⟩, fun x H3 q => ?_⟩
    obtain ⟨B2, e3, w3, d3⟩ := hy x H3 q
    have ev3 : EnvOk X.K B2 as' (wipe σ vs) (wipeD δ vs) := envOk_wipe (envOk_up ((e1.trans e2).trans e3) (p1.trans p2) ev) vs
    intro s H0 C cl fp
    refine ht i its[i] acc ω' (List.getElem?_eq_getElem hlt) hI s H0 C cl fp B2 H3 as' (wipe σ vs) x w3.b ev3 d3 _ fun σ4 δ4 ev4 hl4 ha4 hb => ?_
    have hwipe : wipe σ4 vs = wipe σ vs := by
      refine wipe_eq (by rw [hl4, wipe_length]) fun j hj => ?_
      rw [ha4 j hj, wipe_get hj]
    refine ⟨hwipe, ?_⟩
    intro s H0 C cl fp
    refine dts_run (hb s H0 C cl fp) w3 ev4 _ fun bb B5 H5 as5 ω5 e5 p5 w5 hq => ?_
    cases bb with
    | true =>
      refine iteT ?_
      intro s H0 C cl fp
      refine hq s H0 C cl fp B5 _ H5 as5 σ4 w5 (envOk_up e5 p5 ev4) _ fun y B6 H6 as6 r ω6 e6 p6 w6 s6 ⟨dy, er, hI6⟩ => ?_
      subst er
      refine ⟨accV, (w6.f Dl _ upd_same).1, ?_, B6, as6, acc ++ [dy], accV ++ [y], ω6, ((e2.trans e3).trans e5).trans e6, (p2.trans p5).trans p6, w6.rehide, dpAll_app (dpAll_up ((e3.trans e5).trans e6) hacc) (.cons (sl_val s6) .nil), by rw [List.length_append]; exact Nat.succ_le_succ hal, hI6⟩
      rw [dpAll_len hacc]
      exact Nat.lt_of_le_of_lt (Nat.le_trans hal (Nat.le_trans hi hlen)) (by decide)
    | false =>
      exact iteF ⟨B5, as5, acc, accV, ω5, (e2.trans e3).trans e5, p2.trans p5, w5, dpAll_up (e3.trans e5) hacc, Nat.le_succ_of_le hal, hq⟩
  · have ei : i = its.length := by omega
    subst ei
    refine .inl ⟨(hit B' _ H' as' ω' e2 w2).2, ?_⟩
    rcases hd acc ω' hal hI with hp | hp
    · obtain ⟨w3, s3⟩ := w2.show hF
      exact o _ _ H' as' _ ω' ((e1.trans e2).trans s3) (p1.trans p2) w3 (slv (.lst (.inl (.inl upd_same)) (dpAll_up s3 hacc))) hp
    · refine o _ B' H' _ _ _ (e1.trans e2) ((p1.trans p2).trans (List.prefix_append _ _)) (w2.toOwn hF hacc) (slo ?_) hp
      rw [← w2.len, List.getElem?_append_right (Nat.le_refl _), Nat.sub_self]
      rfl
theorem de_lc (hc : X.calm = true) (hN : X.N.Nodup) (ok : BlkOk X.N X.env.scope scope own)
    (h : DI X tg iter δ ω fun its ω1 => its.length ≤ 100000 ∧ ∃ Iv : Nat → List D → List Cell → Prop, Iv 0 [] ω1 ∧ LcTurn X scope (own.map (·.2)) tg ifs elt δ its Iv ∧ ∀ acc ω', acc.length ≤ its.length → Iv its.length acc ω' → P (.val (.list acc)) ω' ∨ P (.own ω'.length) (ω' ++ [.lst acc]))
    (hs : ∀ x, foldedSetIterable iter X.env x = pure x := by intro _; rfl) : DE X (.ListComp elt [⟨tg, iter, ifs, 0⟩] scope pos) δ ω P := fun B F H as σ w ev Q o =>
  ⟨_, pe_lc hc hN pi_w ok (fun s H0 C cl fp => ⟨fun pins s1 σ1 H1 v u Q1 I r hw => by obtain ⟨_, p, q⟩ := hw s H0 C cl fp; exact p.run pins s1 σ1 H1 v u Q1 I r q⟩)
    (fun s H0 C cl fp => ⟨fun pins s1 σ1 H1 Q1 I hw => by obtain ⟨_, p, q⟩ := hw s H0 C cl fp; exact p.run pins s1 σ1 H1 Q1 I q⟩)
    (fun s H0 C cl fp => ⟨fun pins s1 σ1 H1 Q1 I hw => by obtain ⟨_, p, q⟩ := hw s H0 C cl fp; exact p.run pins s1 σ1 H1 Q1 I q⟩) hs, lc_read h w ev Q o⟩
/-- y = [..], y a local name -/
theorem d1_asgLc {k : Kd} {i : Nat} {y : Str} {py spos : Pos} (hc : X.calm = true) (hN : X.N.Nodup) (hy : X.N[i]? = some y) (hyl : X.env.scope.names.lookup y = some .local) (hsw : swapsWith (.ListComp elt [⟨tg, iter, ifs, 0⟩] scope pos) (some (.Name y py)) spos.line X.env = pure true) (ok : BlkOk X.N X.env.scope scope own)
    (h : DI X tg iter δ ω fun its ω1 => its.length ≤ 100000 ∧ ∃ Iv : Nat → List D → List Cell → Prop, Iv 0 [] ω1 ∧ LcTurn X scope (own.map (·.2)) tg ifs elt δ its Iv ∧ ∀ acc ω', acc.length ≤ its.length → Iv its.length acc ω' → k.nx (δ.set i (.val (.list acc))) ω' ∨ k.nx (δ.set i (.own ω'.length)) (ω' ++ [.lst acc]))
    (hs : ∀ x, foldedSetIterable iter X.env x = pure x := by intro _; rfl) : D1 X (.Assign [.Name y py] (.ListComp elt [⟨tg, iter, ifs, 0⟩] scope pos) spos) δ ω k := fun B F H as σ w ev E o =>
  ⟨_, ps_setLc hc hN hy hyl hsw pi_w ok (fun s H0 C cl fp => ⟨fun pins s1 σ1 H1 v u Q1 I r hw => by obtain ⟨_, p, q⟩ := hw s H0 C cl fp; exact p.run pins s1 σ1 H1 v u Q1 I r q⟩)
    (fun s H0 C cl fp => ⟨fun pins s1 σ1 H1 Q1 I hw => by obtain ⟨_, p, q⟩ := hw s H0 C cl fp; exact p.run pins s1 σ1 H1 Q1 I q⟩)
    (fun s H0 C cl fp => ⟨fun pins s1 σ1 H1 Q1 I hw => by obtain ⟨_, p, q⟩ := hw s H0 C cl fp; exact p.run pins s1 σ1 H1 Q1 I q⟩) hs,
    lc_read (P := fun r ω1 => k.nx (δ.set i r) ω1) h w ev _ fun v B1 H1 as1 r ω1 e1 p1 w1 s1 hp => (o.nx.up e1 p1).here w1 (envOk_set s1 i (envOk_up e1 p1 ev)) hp⟩

/-! ### promises at the level of data -/
/-- data in, a datum out; nothing else is touched -/
def spP (K : Fg) (φ : List D → (D → Prop) → Prop) : Sp := fun vs H Q _ => ∃ B F ds P, Wd K B F H [] [] ∧ DpAll K B vs ds ∧ φ ds P ∧ ∀ v B' H' d, Same B B' → Wd K B' F H' [] [] → Dp K B' v d → P d → Q v H'
/-- the first argument a list that is owned and may be changed -/
def spL (K : Fg) (φ : List D → List D → (D → List D → Prop) → Prop) : Sp := fun vs H Q _ => ∃ B F a rest cs ds P, vs = .ref a :: rest ∧ Wd K B F H [a] [.lst cs] ∧ DpAll K B rest ds ∧ φ cs ds P ∧
  ∀ v B' H' d cs', Same B B' → Wd K B' F H' [a] [.lst cs'] → Dp K B' v d → P d cs' → Q v H'
/-- data in, a new list out that the caller owns -/
def spN (K : Fg) (φ : List D → (List D → Prop) → Prop) : Sp := fun vs H Q _ => ∃ B F ds P, Wd K B F H [] [] ∧ DpAll K B vs ds ∧ φ ds P ∧ ∀ a B' H' cs, Same B B' → Wd K B' F H' [a] [.lst cs] → P cs → Q (.ref a) H'

/-- the def of the name x keeps a promise -/
structure Has (P : Program) (w : World) (K : Fg) (mg : Str → Option Value) (base : Heap) (k : Nat) (x : Str) (sp : Sp) : Prop where
  ex : ∃ (f : Addr) (fd : FuncData) (ps : List Str), FnOk P w K mg base CX0 k f fd ps sp ∧ mg x = some (.ref f) ∧ PySem.W.keepIn K (.ref f) = true ∧ Binds K fd ps []
theorem de_call {x : Str} {p : Pos} {j : Nat} {φ : List D → (D → Prop) → Prop} (C : Has X.prog X.w X.K X.mg X.base j x (spP X.K φ)) (hr : Room j X.A) (hg : Gl X x) (h : DA X (e :: es) δ ω fun rs ω1 => ∃ ds, rs = ds.map Sl.val ∧ φ ds fun d => P (.val d) ω1)
    (hdb : (x == ("__debug__" : Str)) = false := by decide) (he : starEach (e :: es) X.env = (false, eval e X.env) :: starEach es X.env := by rfl) (hpl : (backTo pos (starEach es X.env)).any (·.1) = false := by rfl) : DE X (.Call (.Name x p) (e :: es) [] pos) δ ω P := fun B F H as σ w ev Q o => by
  obtain ⟨f, fd, ps, hf, hm, hk, hb⟩ := C.ex
  refine ⟨_, pe_call hf hr hg hm hk hb .nil pass0 pa_w hdb he hpl, ?_⟩
  refine h B F H as σ w ev _ fun vs B1 H1 as1 rs ω1 e1 p1 w1 s1 ⟨ds, er, hφ⟩ => ?_
  subst er
  obtain ⟨F', wF, _, _, back⟩ := w1.frame
  refine ⟨B1, F', ds, _, wF, by rw [List.append_nil]; exact rsOk_vals s1, hφ, fun v B' H' d sb w' hd hp => ?_⟩
  exact o v B' H' as1 _ ω1 (e1.trans sb) p1 (back B' H' sb w') (slv hd) hp
theorem rs_head {K : Fg} {B : Hp} {as : List Addr} {vs : List V} {r : Sl} {rs : List Sl} (h : RsOk K B as vs (r :: rs)) : ∃ v us, vs = v :: us ∧ SlOk K B as (some v) r ∧ RsOk K B as us rs := by
  cases h with
  | cons h q => exact ⟨_, _, rfl, h, q⟩
/-- a call that may change the owned list which it is handed -/
theorem de_callL {x : Str} {p : Pos} {j : Nat} {φ : List D → List D → (D → List D → Prop) → Prop} (C : Has X.prog X.w X.K X.mg X.base j x (spL X.K φ)) (hr : Room j X.A) (hg : Gl X x) (h : DA X (e :: es) δ ω fun rs ω1 => ∃ kx cs ds, rs = .own kx :: ds.map Sl.val ∧ ω1[kx]? = some (.lst cs) ∧ φ cs ds fun d cs' => P (.val d) (ω1.set kx (.lst cs')))
    (hdb : (x == ("__debug__" : Str)) = false := by decide) (he : starEach (e :: es) X.env = (false, eval e X.env) :: starEach es X.env := by rfl) (hpl : (backTo pos (starEach es X.env)).any (·.1) = false := by rfl) : DE X (.Call (.Name x p) (e :: es) [] pos) δ ω P := fun B F H as σ w ev Q o => by
  obtain ⟨f, fd, ps, hf, hm, hk, hb⟩ := C.ex
  refine ⟨_, pe_call hf hr hg hm hk hb .nil pass0 pa_w hdb he hpl, ?_⟩
  refine h B F H as σ w ev _ fun vs B1 H1 as1 rs ω1 e1 p1 w1 s1 ⟨kx, cs, ds, er, hc, hφ⟩ => ?_
  subst er
  obtain ⟨v, us, rfl, g1, g2⟩ := rs_head s1
  obtain ⟨a, rfl, ha⟩ := sl_own g1
  obtain ⟨F', wF, back⟩ := w1.frame1 ha hc (by simp)
  refine ⟨B1, F', a, us, cs, ds, _, by rw [List.append_nil], wF, rsOk_vals g2, hφ, fun v B' H' d cs' sb w' hd hp => ?_⟩
  exact o v B' H' as1 _ _ (e1.trans sb) p1 (back B' H' _ sb w') (slv hd) hp
/-- a call that gives a new list -/
theorem de_callN {x : Str} {p : Pos} {j : Nat} {φ : List D → (List D → Prop) → Prop} (C : Has X.prog X.w X.K X.mg X.base j x (spN X.K φ)) (hr : Room j X.A) (hg : Gl X x) (h : DA X (e :: es) δ ω fun rs ω1 => ∃ ds, rs = ds.map Sl.val ∧ φ ds fun cs => P (.own ω1.length) (ω1 ++ [.lst cs]))
    (hdb : (x == ("__debug__" : Str)) = false := by decide) (he : starEach (e :: es) X.env = (false, eval e X.env) :: starEach es X.env := by rfl) (hpl : (backTo pos (starEach es X.env)).any (·.1) = false := by rfl) : DE X (.Call (.Name x p) (e :: es) [] pos) δ ω P := fun B F H as σ w ev Q o => by
  obtain ⟨f, fd, ps, hf, hm, hk, hb⟩ := C.ex
  refine ⟨_, pe_call hf hr hg hm hk hb .nil pass0 pa_w hdb he hpl, ?_⟩
  refine h B F H as σ w ev _ fun vs B1 H1 as1 rs ω1 e1 p1 w1 s1 ⟨ds, er, hφ⟩ => ?_
  subst er
  obtain ⟨F', wF, hFF, hlive, back⟩ := w1.frame
  refine ⟨B1, F', ds, _, wF, by rw [List.append_nil]; exact rsOk_vals s1, hφ, fun a B' H' cs sb w' hp => ?_⟩
  have w2 := back B' H' sb w'.drop
  obtain ⟨q1, q2, q3, xs, q4, q5⟩ := w'.at' 0 a _ rfl rfl
  have hnot : a ∉ as1 := fun hm2 => by
    obtain ⟨i, hi, ei⟩ := List.mem_iff_getElem.mp hm2
    have e1' : as1[i]? = some a := by rw [List.getElem?_eq_getElem hi, ei]
    have hi2 : i < ω1.length := by rw [← w1.len]; exact hi
    cases hB : B1 a with
    | some oo =>
      rw [sb _ _ hB] at q3
      cases q3
    | none =>
      obtain ⟨_, n2, n3⟩ := w1.at' i a _ e1' (List.getElem?_eq_getElem hi2)
      rw [hlive i a _ e1' (List.getElem?_eq_getElem hi2) hB] at q1
      exact n2 q1
  have hFa : F a = none := by
    cases hq : F a with
    | none => rfl
    | some oo =>
      rw [hFF a oo hq] at q1
      cases q1
  have w3 := w2.addOwn (c := .lst cs) hFa hnot q2 ⟨q3, xs, q4, q5⟩
  refine o _ B' H' _ _ _ (e1.trans sb) (p1.trans (List.prefix_append _ _)) w3 (slo ?_) hp
  rw [← w1.len, List.getElem?_append_right (Nat.le_refl _), Nat.sub_self]
  rfl
end
end
section
/-! ### a def's promise by its body -/
def slots (N : List Str) (l : List Sl) : List Sl := l ++ List.replicate (N.length - l.length) Sl.no
theorem env_start {K : Fg} {B : Hp} {as : List Addr} {N : List Str} {vs : List V} {l : List Sl} (h : EnvOk K B as (vs.map some) l) : EnvOk K B as (start N vs) (slots N l) := by
  unfold L2.start slots
  have e : vs.length = l.length := by
    have := envOk_len h
    rw [List.length_map] at this
    exact this
  rw [e]
  exact envOk_app h (envOk_none _)
section
variable {P : Program} {w : World} {K : Fg} {mg : Str → Option Value} {base : Heap} {x qual : Str} {st : Stmt} {f : Addr} {fd : FuncData} {N ps : List Str} {k : Nat}
/-- where a body runs -/
abbrev Body (P : Program) (w : World) (K : Fg) (mg : Str → Option Value) (base : Heap) (N : List Str) (qual : Str) (st : Stmt) (f : Addr) (k : Nat) (p : Cx → Prop) : Prop :=
  ∀ (cdv : Value) (A : Around) (outer : List Env) (s : Shared) (H : Hp) (E : XK), Room k (A.deeper (envOfC qual (defScope st) s.heap.objs.size f cdv)) → p (cxOf CX0 P w K mg base N qual (defScope st) f cdv A outer s H E).nox
theorem ok_P {φ : List D → (D → Prop) → Prop} (F : Fun K x qual st f fd) (S : FnScope N ps (defScope st)) (hn : ∀ ds Q, φ ds Q → ds.length = ps.length)
    (hb : ∀ ds Q, φ ds Q → Body P w K mg base N qual st f k fun X => DS X (defBody st) (slots N (ds.map Sl.val)) [] { nx := fun _ _ => Q .none, rt := fun r _ => ∃ d, r = .val d ∧ Q d }) : FnOk P w K mg base CX0 (k + 1) f fd ps (spP K φ) := by
  refine F.ok S (fun vs H Q E h => ?_) fun cdv A outer s H vs Q E hr h => ?_
  · obtain ⟨B, F', ds, P', hw, hd, hφ, _⟩ := h
    rw [dpAll_len hd]
    exact hn _ _ hφ
  · obtain ⟨B, F', ds, P', hw, hd, hφ, hq⟩ := h
    refine ⟨_, pss_w, hb ds P' hφ cdv A outer s H E hr B F' H [] _ hw (env_start (envOk_vals hd)) _ ⟨fun σ' H' B' as' δ' ω' e1 p1 w1 ev1 q => ?_, fun _ _ _ _ _ _ _ _ _ _ q => q.elim, fun _ _ _ _ _ _ _ _ _ _ q => q.elim, fun v B' H' as' r ω' e1 p1 w1 s1 q => ?_⟩⟩
    · exact hq .non B' H' .none e1 w1.drop .non q
    · obtain ⟨d, rfl, q⟩ := q
      exact hq v B' H' d e1 w1.drop (sl_val s1) q
theorem Wd.head {K : Fg} {B F H : Hp} {a : Addr} {as' : List Addr} {ω : List Cell} {c : Cell} (w : Wd K B F H as' ω) (p : [a] <+: as') (hc : ω[0]? = some c) : Wd K B F H [a] [c] := by
  obtain ⟨t, rfl⟩ := p
  refine ⟨w.b, w.f, rfl, by simp, fun k b d e1 e2 => ?_⟩
  cases k with
  | succ k => simp at e1
  | zero =>
    simp at e1 e2
    subst e1 e2
    exact w.at' 0 a c rfl hc
theorem ok_L {φ : List D → List D → (D → List D → Prop) → Prop} (F : Fun K x qual st f fd) (S : FnScope N ps (defScope st)) (hn : ∀ cs ds Q, φ cs ds Q → ds.length + 1 = ps.length)
    (hb : ∀ cs ds Q, φ cs ds Q → Body P w K mg base N qual st f k fun X => DS X (defBody st) (slots N (.own 0 :: ds.map Sl.val)) [.lst cs] { nx := fun _ ω' => ∃ cs', ω'[0]? = some (.lst cs') ∧ Q .none cs', rt := fun r ω' => ∃ d cs', r = .val d ∧ ω'[0]? = some (.lst cs') ∧ Q d cs' }) :
    FnOk P w K mg base CX0 (k + 1) f fd ps (spL K φ) := by
  refine F.ok S (fun vs H Q E h => ?_) fun cdv A outer s H vs Q E hr h => ?_
  · obtain ⟨B, F', a, rest, cs, ds, P', rfl, hw, hd, hφ, _⟩ := h
    rw [List.length_cons, dpAll_len hd]
    exact hn _ _ _ hφ
  · obtain ⟨B, F', a, rest, cs, ds, P', rfl, hw, hd, hφ, hq⟩ := h
    refine ⟨_, pss_w, hb cs ds P' hφ cdv A outer s H E hr B F' H [a] _ hw (env_start (vs := .ref a :: rest) (.cons (slo rfl) (envOk_vals hd))) _ ⟨fun σ' H' B' as' δ' ω' e1 p1 w1 ev1 q => ?_, fun _ _ _ _ _ _ _ _ _ _ q => q.elim, fun _ _ _ _ _ _ _ _ _ _ q => q.elim, fun v B' H' as' r ω' e1 p1 w1 s1 q => ?_⟩⟩
    · obtain ⟨cs', h0, q⟩ := q
      exact hq .non B' H' .none cs' e1 (w1.head p1 h0) .non q
    · obtain ⟨d, cs', rfl, h0, q⟩ := q
      exact hq v B' H' d cs' e1 (w1.head p1 h0) (sl_val s1) q
theorem Wd.only {K : Fg} {B F H : Hp} {as' : List Addr} {ω : List Cell} {j : Nat} {a : Addr} {c : Cell} (w : Wd K B F H as' ω) (ha : as'[j]? = some a) (hc : ω[j]? = some c) : Wd K B F H [a] [c] := by
  refine ⟨w.b, w.f, rfl, by simp, fun k b d e1 e2 => ?_⟩
  cases k with
  | succ k => simp at e1
  | zero =>
    simp at e1 e2
    subst e1 e2
    exact w.at' j a c ha hc
theorem ok_N {φ : List D → (List D → Prop) → Prop} (F : Fun K x qual st f fd) (S : FnScope N ps (defScope st)) (hn : ∀ ds Q, φ ds Q → ds.length = ps.length)
    (hb : ∀ ds Q, φ ds Q → Body P w K mg base N qual st f k fun X => DS X (defBody st) (slots N (ds.map Sl.val)) [] { nx := fun _ _ => False, rt := fun r ω' => ∃ j cs, r = .own j ∧ ω'[j]? = some (.lst cs) ∧ Q cs }) : FnOk P w K mg base CX0 (k + 1) f fd ps (spN K φ) := by
  refine F.ok S (fun vs H Q E h => ?_) fun cdv A outer s H vs Q E hr h => ?_
  · obtain ⟨B, F', ds, P', hw, hd, hφ, _⟩ := h
    rw [dpAll_len hd]
    exact hn _ _ hφ
  · obtain ⟨B, F', ds, P', hw, hd, hφ, hq⟩ := h
    refine ⟨_, pss_w, hb ds P' hφ cdv A outer s H E hr B F' H [] _ hw (env_start (envOk_vals hd)) _ ⟨fun _ _ _ _ _ _ _ _ _ _ q => q.elim, fun _ _ _ _ _ _ _ _ _ _ q => q.elim, fun _ _ _ _ _ _ _ _ _ _ q => q.elim, fun v B' H' as' r ω' e1 p1 w1 s1 q => ?_⟩⟩
    obtain ⟨j, cs, rfl, h0, q⟩ := q
    obtain ⟨a, rfl, ha⟩ := sl_own s1
    exact hq a B' H' cs e1 (w1.only ha h0) q
end

/-! ### defs that ask what runs around: the guards of repr -/
/-- as FnOk, where no repr is under way -/
structure FnG (P : Program) (w : World) (K : Fg) (mg : Str → Option Value) (base : Heap) (k : Nat) (f : Addr) (fd : FuncData) (ps : List Str) (sp : Sp) : Prop where
  len : ∀ vs H Q E, sp vs H Q E → vs.length = ps.length
  run : ∀ (A : Around) (outer : List Env) (s : Shared) (H : Hp) (args : Args) (us : List Value) (vs : List V) (Q : VK) (E : XK), A.guards = some [] → Room k A →
    Env0 P w K mg base A outer s H → BindsTo s fd args (ps.zip us) → Vals vs us → sp vs H Q E → codeAny (model P w) A (.call (.ref f) args) (CR CX0 outer P w H s Q E) s
structure HasG (P : Program) (w : World) (K : Fg) (mg : Str → Option Value) (base : Heap) (k : Nat) (x : Str) (sp : Sp) : Prop where
  ex : ∃ (f : Addr) (fd : FuncData) (ps : List Str), FnG P w K mg base k f fd ps sp ∧ mg x = some (.ref f) ∧ PySem.W.keepIn K (.ref f) = true ∧ Binds K fd ps []
section
variable {P : Program} {w : World} {K : Fg} {mg : Str → Option Value} {base : Heap} {x qual : Str} {st : Stmt} {f : Addr} {fd : FuncData} {N ps : List Str} {k : Nat}
theorem fnG_mk {sp : Sp} (F : Fun K x qual st f fd) (S : FnScope N ps (defScope st)) (len : ∀ vs H Q E, sp vs H Q E → vs.length = ps.length)
    (hb : ∀ (cdv : Value) (A : Around) (outer : List Env) (s : Shared) (H : Hp) (vs : List V) (Q : VK) (E : XK), A.guards = some [] → Room k (A.deeper (envOfC qual (defScope st) s.heap.objs.size f cdv)) → sp vs H Q E →
      ∃ t, PSs (cxOf CX0 P w K mg base N qual (defScope st) f cdv A outer s H E).nox (defBody st) t ∧ t { nx := fun _ H' => Q .non H', rt := Q } (start N vs) H) : FnG P w K mg base (k + 1) f fd ps sp := by
  obtain ⟨oc, od, kV, doc, pm, an, cdv, ct, osl, rfl, lk, hcd⟩ := F.ex
  refine ⟨len, fun A outer s H args us vs Q E hgd hr en hbd hvs hsp => ?_⟩
  have hlen := len vs H Q E hsp
  have inK : K.In s.heap := en.mod.kin.keeps fun a o q => (en.bs a o q).1
  have noL : s.heap.NoLimit := en.mod.nolimit.keeps fun a o q => (en.bs a o q).1
  have kinds : ∀ y ∈ ps.zip us, (defScope st).names.lookup y.1 = some .local ∨ ((defScope st).names.lookup y.1 = some .cell ∧ ((cellsFrom (s.heap.objs.size + 1) (defScope st).names []).lookup y.1).isSome = true) := by
    rintro ⟨z, v⟩ hz
    rcases S.par z (List.of_mem_zip hz).1 with q | q
    · exact Or.inl q
    · exact Or.inr ⟨q, PySem.W.cellsFrom_some _ _ _ (Or.inl q)⟩
  refine codeAny_call_function hr.depth (inK _ _ lk) rfl S.co S.gen rfl (PySem.W.codeRec_of inK hcd) (hbd _ _ _ _ ?_)
  refine wpAny_newFunctionEnv_cells S.kind kinds fun env hen s1 ic => ?_
  subst hen
  refine ⟨noL.keeps ic.toInCall.keep, codeAny_func ?_⟩
  obtain ⟨t, ht, hq⟩ := hb cdv A outer s H vs Q E hgd (hr.deeper _) hsp
  have I0 : Inv (cxOf CX0 P w K mg base N qual (defScope st) f cdv A outer s H E) [] (start N vs) H s1 := inv_start S hr.hd en hlen hvs ic
  refine wpAny_mono (ht.nox.run [] s1 (start N vs) H _ I0 hq) (fun fl s2 hs => ?_) fun _ _ hs => hs
  have done : ∀ {σ2 : L2.St} {H2 : Hp} {v : V} {u : Value}, Inv (cxOf CX0 P w K mg base N qual (defScope st) f cdv A outer s H E) [] σ2 H2 s2 → RelV v u → Q v H2 → CE outer P w H s Q u s2 := fun {σ2 H2 v u} J rv q => ⟨v, H2, J.os, J.bare, J.base, J.hok, rv, q⟩
  match fl, hs with
  | .ret u, ⟨v, σ2, H2, J, rv, q⟩ => exact done J rv q
  | .next, ⟨σ2, H2, J, q⟩ => exact done (v := .non) (u := .none) J rfl q
  | .brk, ⟨_, _, _, q⟩ => exact q.elim
  | .cont, ⟨_, _, _, q⟩ => exact q.elim
abbrev BodyG (P : Program) (w : World) (K : Fg) (mg : Str → Option Value) (base : Heap) (N : List Str) (qual : Str) (st : Stmt) (f : Addr) (k : Nat) (p : Cx → Prop) : Prop :=
  ∀ (cdv : Value) (A : Around) (outer : List Env) (s : Shared) (H : Hp) (E : XK), A.guards = some [] → Room k (A.deeper (envOfC qual (defScope st) s.heap.objs.size f cdv)) → p (cxOf CX0 P w K mg base N qual (defScope st) f cdv A outer s H E).nox
theorem ok_G {φ : List D → (D → Prop) → Prop} (F : Fun K x qual st f fd) (S : FnScope N ps (defScope st)) (hn : ∀ ds Q, φ ds Q → ds.length = ps.length)
    (hb : ∀ ds Q, φ ds Q → BodyG P w K mg base N qual st f k fun X => DS X (defBody st) (slots N (ds.map Sl.val)) [] { nx := fun _ _ => Q .none, rt := fun r _ => ∃ d, r = .val d ∧ Q d }) : FnG P w K mg base (k + 1) f fd ps (spP K φ) := by
  refine fnG_mk F S (fun vs H Q E h => ?_) fun cdv A outer s H vs Q E hgd hr h => ?_
  · obtain ⟨B, F', ds, P', hw, hd, hφ, _⟩ := h
    rw [dpAll_len hd]
    exact hn _ _ hφ
  · obtain ⟨B, F', ds, P', hw, hd, hφ, hq⟩ := h
    refine ⟨_, pss_w, hb ds P' hφ cdv A outer s H E hgd hr B F' H [] _ hw (env_start (envOk_vals hd)) _ ⟨fun σ' H' B' as' δ' ω' e1 p1 w1 ev1 q => ?_, fun _ _ _ _ _ _ _ _ _ _ q => q.elim, fun _ _ _ _ _ _ _ _ _ _ q => q.elim, fun v B' H' as' r ω' e1 p1 w1 s1 q => ?_⟩⟩
    · exact hq .non B' H' .none e1 w1.drop .non q
    · obtain ⟨d, rfl, q⟩ := q
      exact hq v B' H' d e1 w1.drop (sl_val s1) q
end
section
variable {X : Cx} {e : Expr} {es : List Expr} {δ : List Sl} {ω : List Cell} {P : PO1} {pos : Pos}
theorem run_fnG {k : Nat} {f : Addr} {fd : FuncData} {ps : List Str} {sp : Sp} {pins : List (Addr × Obj)} {σ : L2.St} {H : Hp} {s : Shared} {Q : VK} {us : List Value} {vs : List V} (F : FnG X.prog X.w X.K X.mg X.base k f fd ps sp) (hgd : X.A.guards = some []) (hr : Room k X.A) (hb : Binds X.K fd ps [])
    (I : Inv X pins σ H s) (r : Vals vs us) (h : sp vs H Q E0) : wpAny (model X.prog X.w) X.A (call (.ref f) us) (EP X pins σ Q) X.xe s := by
  have hl : (us ++ []).length = ps.length := by
    rw [List.append_nil, ← r.length]
    exact F.len _ _ _ _ h
  have hb2 := hb s us I.kIn hl
  rw [List.append_nil] at hb2
  refine wpAny_call (codeAny_mono (F.run X.A X.stack s H ⟨us, []⟩ us vs Q E0 hgd hr I.env0 hb2 r h) fun res s' hq => ?_)
  match res, hq with
  | .error _, hq => exact hq.elim
  | .ok (.ret u), hq => exact I.after hq
  | .ok .next, hq => exact hq.elim
  | .ok .brk, hq => exact hq.elim
  | .ok .cont, hq => exact hq.elim
theorem de_callG {x : Str} {p : Pos} {j : Nat} {φ : List D → (D → Prop) → Prop} (C : HasG X.prog X.w X.K X.mg X.base j x (spP X.K φ)) (hgd : X.A.guards = some []) (hr : Room j X.A) (hg : Gl X x) (h : DA X (e :: es) δ ω fun rs ω1 => ∃ ds, rs = ds.map Sl.val ∧ φ ds fun d => P (.val d) ω1)
    (hdb : (x == ("__debug__" : Str)) = false := by decide) (he : starEach (e :: es) X.env = (false, eval e X.env) :: starEach es X.env := by rfl) (hpl : (backTo pos (starEach es X.env)).any (·.1) = false := by rfl) : DE X (.Call (.Name x p) (e :: es) [] pos) δ ω P := fun B F H as σ w ev Q o => by
  obtain ⟨f, fd, ps, hf, hm, hk, hb⟩ := C.ex
  refine ⟨fun σ H Q => wA X (e :: es) σ H fun vs H1 => spP X.K φ vs H1 Q E0, ⟨fun pins s σ H Q I hh => ?_⟩, ?_⟩
  · refine wpAny_Call_Name_kw (ld_glob I hg hm ?_ hdb)
    refine PySem.W.callWith_K (h₀ := X.base) I.ok.mod.kin hk ?_ he hpl
    exact thn (pa_w.run pos pins s σ H _ I hh) fun us s1 ⟨vs, H1, I1, r, q⟩ => ⟨I1.kIn, run_fnG hf hgd hr hb I1 r q⟩
  · refine h B F H as σ w ev _ fun vs B1 H1 as1 rs ω1 e1 p1 w1 s1 ⟨ds, er, hφ⟩ => ?_
    subst er
    obtain ⟨F', wF, _, _, back⟩ := w1.frame
    exact ⟨B1, F', ds, _, wF, rsOk_vals s1, hφ, fun v B' H' d sb w' hd hp => o v B' H' as1 _ ω1 (e1.trans sb) p1 (back B' H' sb w') (slv hd) hp⟩
/-- repr of data -/
def rRepr (K : Fg) : List V → Hp → VK → Prop := fun xs H Q => ∃ x d, xs = [x] ∧ Dp K H x d ∧ d.showable = true ∧ d.hasDict = false ∧ d.depth ≤ 40 ∧ d.shown.length ≤ sizeLine ∧ Q (.str d.shown) H
theorem call_repr (hgd : X.A.guards = some []) (hu : X.A.units + 64 < cLine) : CallR X (.builtin "repr") (rRepr X.K) := by
  intro pins s σ H xs us Q I r h
  obtain ⟨x, d, rfl, hd, hs, hn, hdp, hz, q⟩ := h
  cases r with
  | cons rx rr =>
    cases rr
    rename_i u
    obtain ⟨as, hrd⟩ := Dp.reads I d x u hd rx
    cases hd with
    | non =>
      cases rx
      exact PySem.P.repr_of_none ⟨.str _, H, I.tok _, ⟨_, rfl⟩, q⟩
    | bl b =>
      cases rx
      exact PySem.P.repr_of_bool ⟨.str _, H, I.tok _, ⟨_, rfl⟩, q⟩
    | int i =>
      obtain ⟨t, rfl⟩ := rx
      refine PySem.P.repr_of_int ?_ ⟨.str _, H, I.tok _, ⟨_, rfl⟩, q⟩
      simpa [PyData.showable] using hs
    | str z =>
      obtain ⟨t, rfl⟩ := rx
      exact PySem.P.repr_of_str ⟨.str _, H, I.tok _, ⟨_, rfl⟩, q⟩ hz
    | lst h1 h2 =>
      cases rx
      exact repr_of_reads' hrd hs (fun z => by rw [hn] at z; cases z) hgd (by omega) (fun _ _ e => e) (fun h' u tk hk => ⟨.str _, H, I.kept hk, ⟨_, rfl⟩, q⟩) hz
    | tup h1 h2 =>
      cases rx
      exact repr_of_reads' hrd hs (fun z => by rw [hn] at z; cases z) hgd (by omega) (fun _ _ e => e) (fun h' u tk hk => ⟨.str _, H, I.kept hk, ⟨_, rfl⟩, q⟩) hz
structure Shows (d : D) : Prop where
  s : d.showable = true
  n : d.hasDict = false
  p : d.depth ≤ 40
  z : d.shown.length ≤ sizeLine
theorem ra_repr {d : D} (hs : Shows d) (hp : P (.val (.str d.shown)) ω) : RA X (rRepr X.K) [.val d] ω P := fun B F H as vs w s Q o => by
  obtain ⟨v, rfl, s1⟩ := rs1 s
  exact ⟨v, d, rfl, dp_up w.b (sl_val s1), hs.s, hs.n, hs.p, hs.z, o.here w (.str _) hp⟩
end
end
section
/-- what a law promises: True for every script -/
def φLaw : List D → (D → Prop) → Prop := fun ds P => ∃ ns : List Int, ds = [.list (ns.map PyData.int)] ∧ ns.length ≤ 63 ∧ P (.bool true)
theorem dp_script {K : Fg} {H : Hp} : ∀ ns : List Int, DpAll K H (ns.map V.int) (ns.map PyData.int)
  | [] => .nil
  | _ :: r => .cons (.int _) (dp_script r)
theorem spLaw_at {K : Fg} {H : Hp} {a : Addr} {ns : List Int} (hl : ns.length ≤ 63) (hS : SqL K H a (ns.map V.int)) : spP K φLaw [.ref a] H (fun v _ => v = .bl true) E0 :=
  ⟨H, fun _ => none, [.list (ns.map PyData.int)], fun d => d = .bool true, ⟨Same.refl _, (fun _ _ z => by cases z), rfl, .nil, (fun k b c z => by simp at z)⟩, .cons (.lst hS (dp_script ns)) .nil, ⟨ns, rfl, hl, rfl⟩, fun v B' H' d _ _ hd e => by
    subst e
    exact dp_bl_inv hd⟩
section
variable {P : Program} {w : World} {K : Fg} {mg mb : Str → Option Value} {k : Nat} {fa a : Addr} {fd : FuncData} {x : Str} {s1 : Shared} {vs : List Value} {ns : List Int}
/-- the call of the law, from an abstract heap that holds the script at most -/
theorem end_core (KX : K.In s1.heap) (hns : s1.heap.Ns mainGlobals mg) (hb : s1.heap.Ns builtinsNs mb) (hbb : ∀ z : Str, z ≠ "__name__" → mb z = bootBuiltins z) (hlim : s1.heap.NoLimit) (hgens : s1.gens = #[])
    (hobj : s1.heap.get? a = some { cls := .type "list", data := .seq vs.toArray }) (hr : Room k callerA) (hl : ns.length ≤ 63)
    (F : ∀ base : Heap, K.In base → base.Ns mainGlobals mg → FnG P w K mg base k fa fd [x] (spP K φLaw)) (hbind : ∀ (s : Shared) (u : Value), BindsTo s fd ⟨[u], []⟩ [(x, u)])
    (H : Hp) (hO : Only H) (hS : SqL K H a (ns.map V.int)) (hok : HOk P w H s1.heap) (hA : ∀ c, H c ≠ none → c = a) (hK : H a ≠ none → K.lookup a = none) :
    codeAny (model P w) callerA (.call (.ref fa) ⟨[.ref a], []⟩) (fun res s2 => res = .ok (.ret (.bool true)) ∧ OldK s1.heap s2.heap ∧ s2.os = s1.os ∧ AllBare s2.gens) s1 := by
  have only : ∀ {c : Addr} {u : HO}, H c = some u → c = a := fun {c u} q => hA c (by rw [q]; simp)
  have dictFree : ∀ {c : Addr} {o : Obj} {es : Array DictEntry} {ep : Nat}, s1.heap.get? c = some o → o.data = .dict es ep → H c = none := fun {c o es ep} g dd => by
    cases q : H c with
    | none => rfl
    | some u =>
      rw [only q, hobj] at g
      cases g
      exact (Data.noConfusion (show Data.seq vs.toArray _ = Data.dict es ep from dd))
  have nsKept : ∀ {c : Addr} {m : Str → Option Value}, s1.heap.Ns c m → (hidT s1.heap H).Ns c m := fun {c m} hm => by
    obtain ⟨o, es, ep, g, dd, rr⟩ := hm
    exact ⟨o, es, ep, hidT_get g (dictFree g dd), dd, rr⟩
  have inBase : K.In (hidT s1.heap H) := fun c o g => hidT_get (KX c o g) (by
    cases q : H c with
    | none => rfl
    | some u =>
      have ec := only q
      subst ec
      rw [hK (by rw [q]; simp)] at g
      cases g)
  have md : Mod K mg (hidT s1.heap H) := by
    obtain ⟨mc, l1, l2⟩ := hlim
    exact ⟨inBase, nsKept hns, ⟨mb, nsKept hb, hbb⟩, ⟨mc, nsKept l1, l2⟩⟩
  have env0 : Env0 P w K mg (hidT s1.heap H) callerA [] s1 H := by
    refine ⟨rfl, md, fun c o g => of_hidT g, Nat.le_of_eq (hidT_size _ _), trivial, fun c hc => ?_, hok, .of_eq hgens⟩
    exact absurd (show c ∈ ([] : List Addr) from hc) List.not_mem_nil
  refine codeAny_mono ((F _ inBase (nsKept hns)).run callerA [] s1 H ⟨[.ref a], []⟩ [.ref a] [.ref a] _ _ rfl hr env0 (hbind s1 (.ref a)) (.cons rfl .nil) (spLaw_at hl hS)) fun res s2 hres => ?_
  match res, hres with
  | .error _, hres => exact hres.elim
  | .ok .next, hres => exact hres.elim
  | .ok .brk, hres => exact hres.elim
  | .ok .cont, hres => exact hres.elim
  | .ok (.ret u), ⟨v, H2, os, bare, un, hok2, rv, ev⟩ =>
    have ev2 : v = .bl true := ev
    subst ev2
    have eu : u = Value.bool true := rv
    subst eu
    refine ⟨rfl, OldK.of_keep fun c o g => ?_, os, bare⟩
    cases q : H c with
    | none => exact un.keep c o g q (fun z => absurd (show c ∈ ([] : List Addr) from z) List.not_mem_nil) (fun z => absurd z List.not_mem_nil)
    | some u2 =>
      rcases hO c with z | ⟨ob, xs, z⟩
      · rw [z] at q
        cases q
      · obtain ⟨g1, _⟩ := hok c _ z
        obtain ⟨g2, _⟩ := hok2 c _ (un.frzs c ob _ z)
        rw [g] at g1
        cases g1
        exact g2
theorem end_call (KX : K.In s1.heap) (hns : s1.heap.Ns mainGlobals mg) (hb : s1.heap.Ns builtinsNs mb) (hbb : ∀ z : Str, z ≠ "__name__" → mb z = bootBuiltins z) (hlim : s1.heap.NoLimit) (hgens : s1.gens = #[])
    (hobj : s1.heap.get? a = some { cls := .type "list", data := .seq vs.toArray }) (hints : IntsAre vs ns) (hr : Room k callerA) (hl : ns.length ≤ 63)
    (F : ∀ base : Heap, K.In base → base.Ns mainGlobals mg → FnG P w K mg base k fa fd [x] (spP K φLaw)) (hbind : ∀ (s : Shared) (u : Value), BindsTo s fd ⟨[u], []⟩ [(x, u)]) :
    codeAny (model P w) callerA (.call (.ref fa) ⟨[.ref a], []⟩) (fun res s2 => res = .ok (.ret (.bool true)) ∧ OldK s1.heap s2.heap ∧ s2.os = s1.os ∧ AllBare s2.gens) s1 := by
  have rv := vals_ints hints
  have lv := hints.length
  have small : ns.length ≤ sizeLine := Nat.le_trans hl (by decide)
  cases hk : K.lookup a with
  | some o =>
    have g := KX a o hk
    rw [hobj] at g
    cases g
    refine end_core KX hns hb hbb hlim hgens hobj hr hl F hbind (fun _ => none) (fun _ => Or.inl rfl) (Or.inr ⟨_, vs.toArray, _, hk, rfl, rfl, rfl, ?_, ?_⟩) (fun c u z => ?_) (fun c z => absurd rfl z) (fun z => absurd rfl z)
    · rw [List.size_toArray, lv]
      exact small
    · simpa using rv
    · have z2 : (none : Option HO) = some u := z
      cases z2
  | none =>
    refine end_core KX hns hb hbb hlim hgens hobj hr hl F hbind (fun c => if c = a then some (.frz { cls := .type "list", data := .seq vs.toArray } (.lst (ns.map V.int))) else none) (fun c => ?_)
      (Or.inl (Or.inr ⟨{ cls := .type "list", data := .seq vs.toArray }, if_pos rfl⟩)) (fun c u z => ?_) (fun c z => ?_) (fun _ => hk)
    · by_cases hc : c = a
      · exact Or.inr ⟨_, _, if_pos hc⟩
      · exact Or.inl (if_neg hc)
    · dsimp only at z
      by_cases hc : c = a
      · rw [if_pos hc] at z
        cases z
        rw [hc]
        refine ⟨hobj, ?_, vs, _, rv, hobj⟩
        rw [List.length_map]
        exact small
      · rw [if_neg hc] at z
        cases z
    · by_cases hc : c = a
      · exact hc
      · exact absurd (if_neg hc) z
end
/-- the end of a law's row -/
theorem end_of {l : PySem.W.OpenLaw} {k : Nat} {q : Program} {loose : List Str} {XP : (Str → Option Value) → Heap → Prop} {YP : World → Heap → Prop} {d : DefRec} {K : Params → Fg} {x : Str}
    (hm : l.most = some 63) (hdf : d.params.defaults = []) (hr : Room k callerA) (hY : ∀ (w : World) (h : Heap), YP w h → (K w.params).In h)
    (F : ∀ (w : World) (mg : Str → Option Value) (fa : Addr) (h : Heap), (K w.params).In h → h.Ns mainGlobals mg → mg d.name = some (.ref fa) →
      ∃ fd : FuncData, (∀ (s : Shared) (u : Value), BindsTo s fd ⟨[u], []⟩ [(x, u)]) ∧ ∀ base : Heap, (K w.params).In base → base.Ns mainGlobals mg → FnG l.prog w (K w.params) mg base k fa fd [x] (spP (K w.params) φLaw)) :
    PySem.W.WalkO q loose XP YP l.row.toRowW d [] (fun f vs => PySem.call f vs) := by
  refine Att.attach_call hm hdf fun w s0 s1 mg mb fa o pm cd doc a vs ns G Y _ _ _ hmg hobj hints hlen hg => ?_
  have KX := hY w _ Y
  obtain ⟨fd, hb, hF⟩ := F w mg fa _ KX G.T.g hmg
  exact end_call KX G.T.g G.T.b G.T.builtins G.T.nolimit hg hobj hints hr hlen hF hb
end
section
section
variable {X : Cx} {e a b c : Expr} {es : List Expr} {δ : List Sl} {ω : List Cell} {P : PO1} {T : Bool → List Cell → Prop} {pos : Pos}

/-- a + b, whatever the two are -/
def rPlus (K : Fg) : R2 := fun x y H Q => rI0 (fun i j => .int (i + j)) x y H Q ∨ rCatA K x y H Q ∨ rCat x y H Q
theorem op_plus : OpR X (binaryOp .Add) (rPlus X.K) := by
  intro pins s σ H x y v u Q I rx ry h
  rcases h with h | h | h
  · exact op_add pins s σ H x y v u Q I rx ry h
  · exact op_catA pins s σ H x y v u Q I rx ry h
  · exact op_cat pins s σ H x y v u Q I rx ry h
/-- what + makes of two results -/
inductive Plus (P : PO1) (ω : List Cell) : Sl → Sl → Prop
  | int {i j : Int} (h : P (.val (.int (i + j))) ω) : Plus P ω (.val (.int i)) (.val (.int j))
  | tup {ds es : List D} (hz : ds.length + es.length ≤ 1000000) (h : P (.val (.tuple (ds ++ es))) ω) : Plus P ω (.val (.tuple ds)) (.val (.tuple es))
theorem rr_plus {x y : Sl} (h : Plus P ω x y) : RR X (rPlus X.K) x y ω P := by
  cases h with
  | int h => exact fun B F H as v u w s1 s2 Q o => .inl (rr_I0 (X := X) (fun _ _ => .int _) h B F H as v u w s1 s2 Q o)
  | tup hz h => exact fun B F H as v u w s1 s2 Q o => .inr (.inl (rr_cat (X := X) (Nat.le_trans hz (by decide)) h B F H as v u w s1 s2 Q o))
theorem de_plus (h : DE X a δ ω fun x ω1 => DE X b δ ω1 fun y ω2 => Plus P ω2 x y) : DE X (.BinOp a .Add b pos) δ ω P :=
  de_bin op_plus (h.mono fun x ω1 q => q.mono fun y ω2 hp => rr_plus hp)
/-- a * b -/
def rTimes (K : Fg) : R2 := fun x y H Q => rI CMul (fun i j => .int (i * j)) x y H Q ∨ rRepT K x y H Q
theorem op_times : OpR X (binaryOp .Mult) (rTimes X.K) := by
  intro pins s σ H x y v u Q I rx ry h
  rcases h with h | h
  · exact op_mul pins s σ H x y v u Q I rx ry h
  · exact op_repT pins s σ H x y v u Q I rx ry h
def repD (n : Nat) (ds : List D) : List D := (List.replicate n ds).flatten
theorem dp_rep {K : Fg} {B : Hp} {vs : List V} {ds : List D} (h : DpAll K B vs ds) : ∀ n : Nat, DpAll K B (List.replicate n vs).flatten (repD n ds)
  | 0 => .nil
  | n + 1 => by
    unfold repD
    rw [List.replicate_succ, List.replicate_succ, List.flatten_cons, List.flatten_cons]
    exact dpAll_app h (dp_rep h n)
inductive Times (P : PO1) (ω : List Cell) : Sl → Sl → Prop
  | int {i j : Int} (hc : CMul i j) (h : P (.val (.int (i * j))) ω) : Times P ω (.val (.int i)) (.val (.int j))
  | tup {ds : List D} {k : Int} (hne : ds ≠ []) (h2 : 2 ≤ k ∧ k ≤ 1000) (hz : ds.length ≤ 1000) (h : P (.val (.tuple (repD k.toNat ds))) ω) : Times P ω (.val (.tuple ds)) (.val (.int k))
theorem rr_times {x y : Sl} (h : Times P ω x y) : RR X (rTimes X.K) x y ω P := by
  cases h with
  | int hc h => exact fun B F H as v u w s1 s2 Q o => .inl (rr_I (X := X) hc (fun _ _ => .int _) h B F H as v u w s1 s2 Q o)
  | @tup ds k hne h2 hz h =>
    intro B F H as v u w s1 s2 Q o
    obtain ⟨l, xs, rfl, h1, hd⟩ := slv_tup s1 w.b
    refine .inr ⟨l, k, xs, rfl, dp_int_inv (sl_val s2), h1, fun z => hne ?_, h2.1, h2.2, by rw [dpAll_len hd]; exact hz, fun p hp => o.tup w hp (dp_rep hd _) h⟩
    subst z
    cases hd
    rfl
theorem de_times (h : DE X a δ ω fun x ω1 => DE X b δ ω1 fun y ω2 => Times P ω2 x y) : DE X (.BinOp a .Mult b pos) δ ω P :=
  de_bin op_times (h.mono fun x ω1 q => q.mono fun y ω2 hp => rr_times hp)

/-! ### isinstance -/
def tyD : D → String
  | .none => "NoneType"
  | .bool _ => "bool"
  | .int _ => "int"
  | .str _ => "str"
  | .list _ => "list"
  | .tuple _ => "tuple"
  | .dict _ => "dict"
def isiD (T : String) (d : D) : Bool := (kitB (tyD d) T).getD false
theorem ty_of {K : Fg} {H : Hp} {v : V} {d : D} (h : Dp K H v d) : TyX K H v (.type (tyD d)) := by
  cases h with
  | non => exact .base .non
  | bl b => exact .base (.bl b)
  | int i => exact .base (.int i)
  | str x => exact .base (.str x)
  | lst h q =>
    rcases h with (h | ⟨o, h⟩) | ⟨o, its, n, h1, h2, _⟩
    · exact .base (.lst h)
    · exact .base (.frz h)
    · exact .kList h1 h2
  | tup h q =>
    rcases h with (h | ⟨o, h⟩) | ⟨o, its, n, h1, h2, _⟩
    · exact .base (.tup h)
    · exact .fTuple h
    · exact .kTuple h1 h2
def kitAll (T : String) : Bool := ["NoneType", "bool", "int", "str", "list", "tuple"].all fun n => (kitB n T).isSome
theorem kit_some {K : Fg} {H : Hp} {v : V} {T : String} {d : D} (hd : Dp K H v d) (hk : kitAll T = true) : kitB (tyD d) T = some (isiD T d) := by
  have key : ∀ n ∈ ["NoneType", "bool", "int", "str", "list", "tuple"], (kitB n T).isSome = true := List.all_eq_true.mp hk
  have hm : tyD d ∈ ["NoneType", "bool", "int", "str", "list", "tuple"] := by
    cases hd <;> simp [tyD]
  obtain ⟨r, hr⟩ := Option.isSome_iff_exists.mp (key _ hm)
  unfold isiD
  rw [hr]
  rfl
theorem de_isi {x : Str} {T : String} {p p2 : Pos} (hg : Gl X "isinstance") (hm : X.mg "isinstance" = none) (hgT : Gl X x) (hmT : X.mg x = none) (hv : bootBuiltins x = some (.type T)) (hk : kitAll T = true)
    (h : DE X e δ ω fun r ω1 => ∃ d, r = .val d ∧ ((∀ kv, d ≠ .dict kv) → P (.val (.bool (isiD T d))) ω1)) (hn : x ≠ "__name__" := by decide) (hdb : (x == ("__debug__" : Str)) = false := by decide)
    (hs1 : starEach [e, .Name x p2] X.env = (false, eval e X.env) :: starEach [.Name x p2] X.env := by rfl) (hs2 : starEach [.Name x p2] X.env = (false, eval (.Name x p2) X.env) :: starEach [] X.env := by rfl)
    (hpl : (backTo pos (starEach [.Name x p2] X.env)).any (·.1) = false := by rfl) : DE X (.Call (.Name "isinstance" p) [e, .Name x p2] [] pos) δ ω P := fun B F H as σ w ev Q o => by
  refine ⟨_, pe_callB call_isi hg hm boot_isinstance (pa_cons pe_w (pa_cons (pe_bltn (v := .ty T) hgT hmT hv rfl hn hdb) pa_nil hs2) hs1) (by decide) (by decide) hs1 hpl, ?_⟩
  refine h B F H as σ w ev _ fun v B1 H1 as1 r ω1 e1 p1 w1 s1 ⟨d, er, hp⟩ => ?_
  subst er
  have hd := dp_up w1.b (sl_val s1)
  exact ⟨v, .ty T, .type (tyD d), .type T, isiD T d, rfl, by first | exact .ty | exact rfl | constructor, ty_of hd, kit_ty (kit_some hd hk), (o.up e1 p1).here w1 (.bl _) (hp fun kv z => by subst z; cases hd)⟩
theorem kit_int : kitAll "int" = true := by decide +kernel
theorem kit_bool : kitAll "bool" = true := by decide +kernel
theorem kit_tuple : kitAll "tuple" = true := by decide +kernel
theorem kit_str : kitAll "str" = true := by decide +kernel
theorem kit_list : kitAll "list" = true := by decide +kernel
def isInt : D → Bool
  | .int _ => true
  | .bool _ => true
  | _ => false
def isBl : D → Bool
  | .bool _ => true
  | _ => false
def isTup : D → Bool
  | .tuple _ => true
  | _ => false
def isStr : D → Bool
  | .str _ => true
  | _ => false
theorem isi_by {T : String} {d : D} {n : String} {r : Bool} (hn : tyD d = n) (h : kitB n T = some r) : isiD T d = r := by
  unfold isiD
  rw [hn, h]
  rfl
theorem isi_int (d : D) (hd : ∀ kv, d ≠ .dict kv) : isiD "int" d = isInt d := by
  cases d with
  | none  => exact isi_by (r := false) (n := "NoneType") rfl (by decide +kernel)
  | bool b => exact isi_by (r := true) (n := "bool") rfl (by decide +kernel)
  | int i => exact isi_by (r := true) (n := "int") rfl (by decide +kernel)
  | str z => exact isi_by (r := false) (n := "str") rfl (by decide +kernel)
  | list xs => exact isi_by (r := false) (n := "list") rfl (by decide +kernel)
  | tuple xs => exact isi_by (r := false) (n := "tuple") rfl (by decide +kernel)
  | dict kv => exact absurd rfl (hd kv)
theorem isi_bool (d : D) (hd : ∀ kv, d ≠ .dict kv) : isiD "bool" d = isBl d := by
  cases d with
  | none  => exact isi_by (r := false) (n := "NoneType") rfl (by decide +kernel)
  | bool b => exact isi_by (r := true) (n := "bool") rfl (by decide +kernel)
  | int i => exact isi_by (r := false) (n := "int") rfl (by decide +kernel)
  | str z => exact isi_by (r := false) (n := "str") rfl (by decide +kernel)
  | list xs => exact isi_by (r := false) (n := "list") rfl (by decide +kernel)
  | tuple xs => exact isi_by (r := false) (n := "tuple") rfl (by decide +kernel)
  | dict kv => exact absurd rfl (hd kv)
theorem isi_tuple (d : D) (hd : ∀ kv, d ≠ .dict kv) : isiD "tuple" d = isTup d := by
  cases d with
  | none  => exact isi_by (r := false) (n := "NoneType") rfl (by decide +kernel)
  | bool b => exact isi_by (r := false) (n := "bool") rfl (by decide +kernel)
  | int i => exact isi_by (r := false) (n := "int") rfl (by decide +kernel)
  | str z => exact isi_by (r := false) (n := "str") rfl (by decide +kernel)
  | list xs => exact isi_by (r := false) (n := "list") rfl (by decide +kernel)
  | tuple xs => exact isi_by (r := true) (n := "tuple") rfl (by decide +kernel)
  | dict kv => exact absurd rfl (hd kv)
theorem isi_str (d : D) (hd : ∀ kv, d ≠ .dict kv) : isiD "str" d = isStr d := by
  cases d with
  | none  => exact isi_by (r := false) (n := "NoneType") rfl (by decide +kernel)
  | bool b => exact isi_by (r := false) (n := "bool") rfl (by decide +kernel)
  | int i => exact isi_by (r := false) (n := "int") rfl (by decide +kernel)
  | str z => exact isi_by (r := true) (n := "str") rfl (by decide +kernel)
  | list xs => exact isi_by (r := false) (n := "list") rfl (by decide +kernel)
  | tuple xs => exact isi_by (r := false) (n := "tuple") rfl (by decide +kernel)
  | dict kv => exact absurd rfl (hd kv)
end
end
section
section
variable {X : Cx} {e a b c tg iter elt : Expr} {es ifs ts : List Expr} {δ : List Sl} {ω : List Cell} {P : PO1} {T : Bool → List Cell → Prop} {pos : Pos} {k : Kd}

/-- a statement, then the rest, with a word between them -/
theorem ds_cut {st : Stmt} {rest : List Stmt} (M : List Sl → List Cell → Prop) (h : D1 X st δ ω { nx := M, rt := k.rt, bk := k.bk, ct := k.ct }) (hr : ∀ δ' ω', M δ' ω' → DS X rest δ' ω' k) : DS X (st :: rest) δ ω k :=
  ds_cons fun B F H as σ w ev E o => h B F H as σ w ev E ⟨fun σ' H' B' as' δ' ω' e1 p1 w1 ev1 q => o.nx σ' H' B' as' δ' ω' e1 p1 w1 ev1 (hr δ' ω' q), o.bk, o.ct, o.rt⟩
/-! ### and, or of tests that only look -/
theorem de_andB {x y : Bool} (h1 : DE X a δ ω fun r ω1 => r = .val (.bool x) ∧ ω1 = ω) (h2 : x = true → DE X (.BoolOp .And (b :: es) pos) δ ω fun r ω1 => r = .val (.bool y) ∧ ω1 = ω) (hp : P (.val (.bool (x && y))) ω) : DE X (.BoolOp .And (a :: b :: es) pos) δ ω P :=
  de_and (h1.mono fun r ω1 ⟨e1, e2⟩ => by
    subst e2
    refine ⟨x, e1, ?_⟩
    cases x with
    | false => exact iteF hp
    | true => exact iteT ((h2 rfl).mono fun r ω2 ⟨e3, e4⟩ => by subst e3 e4; exact hp))
theorem de_orB {x y : Bool} (h1 : DE X a δ ω fun r ω1 => r = .val (.bool x) ∧ ω1 = ω) (h2 : x = false → DE X (.BoolOp .Or (b :: es) pos) δ ω fun r ω1 => r = .val (.bool y) ∧ ω1 = ω) (hp : P (.val (.bool (x || y))) ω) : DE X (.BoolOp .Or (a :: b :: es) pos) δ ω P :=
  de_or (h1.mono fun r ω1 ⟨e1, e2⟩ => by
    subst e2
    refine ⟨x, e1, ?_⟩
    cases x with
    | true => exact iteT hp
    | false => exact iteF ((h2 rfl).mono fun r ω2 ⟨e3, e4⟩ => by subst e3 e4; exact hp))
theorem dw_andB {x y : Bool} (h1 : DT X a δ ω fun k ω1 => k = x ∧ ω1 = ω) (h2 : x = true → DW X (.BoolOp .And (b :: es) pos) δ ω fun k ω1 => k = y ∧ ω1 = ω) (hp : T (x && y) ω) : DW X (.BoolOp .And (a :: b :: es) pos) δ ω T :=
  dw_and (h1.mono fun k ω1 ⟨e1, e2⟩ => by
    subst e1 e2
    cases k with
    | false => exact iteF hp
    | true => exact iteT (fun B F H as σ w ev Q o => h2 rfl B F H as σ w ev Q fun k B' H' as' ω' q1 q2 q3 ⟨q4, q5⟩ => by subst q4 q5; exact o _ B' H' as' _ q1 q2 q3 hp))
theorem dw_orB {x y : Bool} (h1 : DT X a δ ω fun k ω1 => k = x ∧ ω1 = ω) (h2 : x = false → DW X (.BoolOp .Or (b :: es) pos) δ ω fun k ω1 => k = y ∧ ω1 = ω) (hp : T (x || y) ω) : DW X (.BoolOp .Or (a :: b :: es) pos) δ ω T :=
  dw_or (h1.mono fun k ω1 ⟨e1, e2⟩ => by
    subst e1 e2
    cases k with
    | true => exact iteT hp
    | false => exact iteF (fun B F H as σ w ev Q o => h2 rfl B F H as σ w ev Q fun k B' H' as' ω' q1 q2 q3 ⟨q4, q5⟩ => by subst q4 q5; exact o _ B' H' as' _ q1 q2 q3 hp))
/-! ### several targets -/
inductive GSet : TGs → List Nat → Prop
  | nil : GSet gNil []
  | cons {i t is} : GSet t is → GSet (gCons (gName i) t) (i :: is)
def setV : L2.St → List Nat → List V → L2.St
  | σ, i :: is, v :: vs => setV (σ.set i (some v)) is vs
  | σ, _, _ => σ
def setS : List Sl → List Nat → List Sl → List Sl
  | δ, i :: is, r :: rs => setS (δ.set i r) is rs
  | δ, _, _ => δ
theorem gset_run {t : TGs} {is : List Nat} (g : GSet t is) : ∀ {vs : List V} {σ : L2.St} {H : Hp} {Q : L2.St → Hp → Prop}, vs.length = is.length → Q (setV σ is vs) H → t vs σ H Q := by
  induction g with
  | nil =>
    intro vs σ H Q hl h
    cases vs with
    | nil => exact ⟨rfl, h⟩
    | cons v vs => cases hl
  | cons g ih =>
    intro vs σ H Q hl h
    cases vs with
    | nil => cases hl
    | cons v vs => exact ⟨v, vs, rfl, ih (Nat.succ.inj hl) h⟩
theorem env_setS {K : Fg} {B : Hp} {as : List Addr} : ∀ {is : List Nat} {σ : L2.St} {δ : List Sl} {vs : List V} {rs : List Sl}, EnvOk K B as σ δ → RsOk K B as vs rs → EnvOk K B as (setV σ is vs) (setS δ is rs)
  | [], _, _, _, _, ev, .nil => ev
  | [], _, _, _, _, ev, .cons _ _ => ev
  | _ :: _, _, _, _, _, ev, .nil => ev
  | i :: is, _, _, _, _, ev, .cons h q => env_setS (is := is) (envOk_set h i ev) q
theorem rs_len {K : Fg} {B : Hp} {as : List Addr} : ∀ {vs : List V} {rs : List Sl}, RsOk K B as vs rs → vs.length = rs.length
  | _, _, .nil => rfl
  | _, _, .cons _ q => by rw [List.length_cons, List.length_cons, rs_len q]
theorem rs_of {K : Fg} {B : Hp} {as : List Addr} : ∀ {vs : List V} {ds : List D}, DpAll K B vs ds → RsOk K B as vs (ds.map Sl.val)
  | _, _, .nil => .nil
  | _, _, .cons h q => .cons (slv h) (rs_of q)
/-- names from a tuple -/
theorem d1_unp {is : List Nat} {t : TGs} {kk : Nat} {p : Pos} (hc : X.calm = true) (hg : PGs X ts t) (gs : GSet t is) (h : DE X e δ ω fun r ω1 => ∃ ds, r = .val (.tuple ds) ∧ ds.length = is.length ∧ k.nx (setS δ is (ds.map Sl.val)) ω1)
    (hn : (assignEach ts X.env).length = is.length := by rfl) (hst : (assignEach ts X.env).findIdx? (·.1) = none := by rfl)
    (hs : swapsWithSole [.Tuple ts kk p] e pos.line X.env = pure false := by rfl) (hw : swappedStores [.Tuple ts kk p] e X.env = pure none := by rfl)
    (h1 : (assignEach [.Tuple ts kk p] X.env).map (·.2) = [assign (.Tuple ts kk p) X.env] := by rfl) : D1 X (.Assign [.Tuple ts kk p] e pos) δ ω k := fun B F H as σ w ev E o => by
  refine ⟨_, ps_asg pe_w (pg_tup hc hg hn hst) hs hw h1, ?_⟩
  refine h B F H as σ w ev _ fun v B1 H1 as1 r ω1 e1 p1 w1 s1 ⟨ds, er, hl, hp⟩ => ?_
  subst er
  obtain ⟨a, xs, rfl, g1, g2⟩ := slv_tup s1 w1.b
  have hlx : xs.length = is.length := by rw [dpAll_len g2, hl]
  exact ⟨a, xs, rfl, g1, hlx, gset_run gs hlx ((o.nx.up e1 p1).here w1 (env_setS (envOk_up e1 p1 ev) (rs_of g2)) hp)⟩
/-- names from a written tuple (some of them cells of the def) -/
theorem d1_tupA {is : List Nat} {t : TGs} {kk k2 : Nat} {p p2 : Pos} (hc : X.calm = true) (hg : PGs X ts t) (gs : GSet t is) (h : DA X es δ ω fun rs ω1 => rs.length = is.length ∧ rs.length ≤ 1000 ∧ k.nx (setS δ is rs) ω1)
    (hn : (assignEach ts X.env).length = is.length := by rfl) (hst : (assignEach ts X.env).findIdx? (·.1) = none := by rfl)
    (hs : swapsWithSole [.Tuple ts kk p] (.Tuple es k2 p2) pos.line X.env = pure false := by rfl) (hw : swappedStores [.Tuple ts kk p] (.Tuple es k2 p2) X.env = pure none := by rfl)
    (h1 : (assignEach [.Tuple ts kk p] X.env).map (·.2) = [assign (.Tuple ts kk p) X.env] := by rfl) : D1 X (.Assign [.Tuple ts kk p] (.Tuple es k2 p2) pos) δ ω k := fun B F H as σ w ev E o => by
  refine ⟨_, ps_asg (pe_tup pa_w) (pg_tup hc hg hn hst) hs hw h1, ?_⟩
  refine h B F H as σ w ev _ fun vs B1 H1 as1 rs ω1 e1 p1 w1 s1 ⟨hl, hz, hp⟩ => ?_
  have hlv : vs.length = is.length := by rw [rs_len s1, hl]
  refine ⟨by rw [rs_len s1]; exact Nat.le_trans hz (by decide), fun q hq => ?_⟩
  obtain ⟨w2, sb⟩ := w1.new (o := .tup vs) hq
  refine ⟨q, vs, rfl, SqT.of upd_same, hlv, gset_run gs hlv ?_⟩
  exact (o.nx.up (e1.trans sb) p1).here w2 (env_setS (envOk_up (e1.trans sb) p1 ev) (rsOk_up sb (List.prefix_refl _) s1)) hp
theorem d1_par3 {i j l : Nat} {x y z : Str} {d : Expr} {px py pz pt : Pos} {kt k2 pt2} (hc : X.calm = true) (hN : X.N.Nodup) (hi : X.N[i]? = some x) (hj : X.N[j]? = some y) (hl : X.N[l]? = some z) (hij : i ≠ j) (hil : i ≠ l) (hjl : j ≠ l)
    (hx : X.env.scope.names.lookup x = some .local) (hy : X.env.scope.names.lookup y = some .local) (hz : X.env.scope.names.lookup z = some .local)
    (hw : swappedStores [.Tuple [.Name x px, .Name y py, .Name z pz] kt pt] (.Tuple [a, b, d] k2 pt2) X.env = pure (some [x, y, z]))
    (h : DA X [a, b, d] δ ω fun rs ω1 => ∃ r s t, rs = [r, s, t] ∧ k.nx (((δ.set i r).set j s).set l t) ω1)
    (hs : swapsWithSole [.Tuple [.Name x px, .Name y py, .Name z pz] kt pt] (.Tuple [a, b, d] k2 pt2) pos.line X.env = pure false := by rfl) : D1 X (.Assign [.Tuple [.Name x px, .Name y py, .Name z pz] kt pt] (.Tuple [a, b, d] k2 pt2) pos) δ ω k := fun B F H as σ w ev E o =>
  ⟨_, ps_par3 hc hN hi hj hl hij hil hjl hx hy hz pa_w hw hs, h B F H as σ w ev _ fun vs B1 H1 as1 rs ω1 e1 p1 w1 s1 ⟨r, s, t, er, hp⟩ => by
    subst er
    obtain ⟨v, us, rfl, h1, s2⟩ := rs_head s1
    obtain ⟨u, z, rfl, h2, h3⟩ := rs2 s2
    exact ⟨v, u, z, rfl, (o.nx.up e1 p1).here w1 (envOk_set h3 l (envOk_set h2 j (envOk_set h1 i (envOk_up e1 p1 ev)))) hp⟩⟩

/-! ### comprehensions whose element does nothing but give a datum -/
variable {scope : Scope} {vs : List Nat} {its : List D}
theorem dts_nil {Y : Cx} (h : T true ω) : DTs Y [] δ ω T := h
theorem lc_map (f : D → D) (h : ∀ (i : Nat) (d : D), its[i]? = some d → Blk X scope fun Y => DG Y vs tg d (wipeD δ vs) fun δ2 => Blk X scope fun Y => DE Y elt δ2 ω fun r ω3 => r = .val (f d) ∧ ω3 = ω) :
    LcTurn X scope vs tg [] elt δ its fun i acc ω' => ω' = ω ∧ acc = (its.take i).map f := by
  intro i d acc ω' hd ⟨e1, e2⟩ s H C cl fp
  subst e1 e2
  intro B H2 as σ v sb ev hv Q o
  refine h i d hd s H C cl fp B H2 as σ v sb ev hv Q fun σ' δ' ev' hl ha hk => o σ' δ' ev' hl ha ?_
  intro s H C cl fp
  refine dts_nil ?_
  dsimp only
  rw [if_pos rfl]
  intro s H C cl fp
  refine (hk s H C cl fp).mono fun r ω3 ⟨er, ew⟩ => ⟨_, er, ew, ?_⟩
  rw [List.take_add_one, hd, List.map_append]
  rfl
theorem lc_filt (g : D → Bool) (f : D → D) (h : ∀ (i : Nat) (d : D), its[i]? = some d → Blk X scope fun Y => DG Y vs tg d (wipeD δ vs) fun δ2 => (Blk X scope fun Y => DT Y c δ2 ω fun b ω2 => b = g d ∧ ω2 = ω) ∧ (g d = true → Blk X scope fun Y => DE Y elt δ2 ω fun r ω3 => r = .val (f d) ∧ ω3 = ω)) :
    LcTurn X scope vs tg [c] elt δ its fun i acc ω' => ω' = ω ∧ acc = ((its.take i).filter g).map f := by
  intro i d acc ω' hd ⟨e1, e2⟩ s H C cl fp
  subst e1 e2
  intro B H2 as σ v sb ev hv Q o
  refine h i d hd s H C cl fp B H2 as σ v sb ev hv Q fun σ' δ' ev' hl ha hk => o σ' δ' ev' hl ha ?_
  intro s H C cl fp
  refine (hk.1 s H C cl fp).mono fun b ω2 ⟨eb, ew⟩ => ?_
  subst eb ew
  by_cases hg : g d = true
  · rw [if_pos hg]
    intro s H C cl fp
    refine (hk.2 hg s H C cl fp).mono fun r ω3 ⟨er, ew⟩ => ⟨_, er, ew, ?_⟩
    rw [List.take_add_one, hd, List.filter_append, List.map_append]
    show _ = _ ++ (List.filter g [d]).map f
    rw [List.filter_cons, if_pos hg]
    rfl
  · rw [if_neg hg]
    refine ⟨rfl, ?_⟩
    rw [List.take_add_one, hd, List.filter_append, List.map_append]
    show _ = _ ++ (List.filter g [d]).map f
    rw [List.filter_cons, if_neg hg]
    simp
theorem lc_end {P : PO1} {f : D → D} (hp : P (.val (.list (its.map f))) ω) : ∀ acc ω', acc.length ≤ its.length → (ω' = ω ∧ acc = (its.take its.length).map f) → P (.val (.list acc)) ω' ∨ P (.own ω'.length) (ω' ++ [.lst acc]) := fun acc ω' _ ⟨e1, e2⟩ => by
  subst e1 e2
  rw [List.take_length]
  exact .inl hp
theorem lc_endF {P : PO1} {g : D → Bool} {f : D → D} (hp : P (.val (.list ((its.filter g).map f))) ω) : ∀ acc ω', acc.length ≤ its.length → (ω' = ω ∧ acc = ((its.take its.length).filter g).map f) → P (.val (.list acc)) ω' ∨ P (.own ω'.length) (ω' ++ [.lst acc]) := fun acc ω' _ ⟨e1, e2⟩ => by
  subst e1 e2
  rw [List.take_length]
  exact .inl hp
theorem lc_endFO {P : PO1} {g : D → Bool} {f : D → D} (hp : P (.own ω.length) (ω ++ [.lst ((its.filter g).map f)])) : ∀ acc ω', acc.length ≤ its.length → (ω' = ω ∧ acc = ((its.take its.length).filter g).map f) → P (.val (.list acc)) ω' ∨ P (.own ω'.length) (ω' ++ [.lst acc]) := fun acc ω' _ ⟨e1, e2⟩ => by
  subst e1 e2
  rw [List.take_length]
  exact .inr hp
/-- the sum of two owned lists -/
theorem rr_catO {kx ky : Nat} {ds es : List D} (h1 : ω[kx]? = some (.lst ds)) (h2 : ω[ky]? = some (.lst es)) (hz : ds.length + es.length ≤ 1000000) (hp : P (.val (.list (ds ++ es))) ω) : RR X (rPlus X.K) (.own kx) (.own ky) ω P := fun B F H as v u w s1 s2 Q o => by
  obtain ⟨a, xs, rfl, _, g1, g2⟩ := slo_lst w s1 h1
  obtain ⟨b, ys, rfl, _, g3, g4⟩ := slo_lst w s2 h2
  exact .inr (.inr ⟨a, b, xs, ys, rfl, rfl, g1, g3, by rw [dpAll_len g2, dpAll_len g4]; exact Nat.le_trans hz (by decide), fun p hp' => o.lst w hp' (dpAll_app g2 g4) hp⟩)
end
end
section
/-! ### enumerate over what begins -/
def enRec (i : Addr) : Obj := { cls := .type "enumerate", data := .fields #[.none, .bool false, .ref i, rawInt 0, .none, .none] }
theorem en_meets {v : Value} {o : Obj} {Hq : Heap → Prop} (B : Begins v o Hq) :
    Meets (Builtin.«enumerate.__new__» ⟨[.type "enumerate", v], []⟩) (fun _ R s => Hq s.heap ∧ R (.ok (.ret (.ref (s.heap.push o).objs.size))) { s with heap := (s.heap.push o).push (enRec s.heap.objs.size) }) :=
  .of_wp fun P9 w9 A9 R9 s9 h9 => by
    obtain ⟨hp, g9, d9, t9, o9⟩ := s9
    obtain ⟨hb, h9⟩ := h9
    have hs := sub_enumerate
    have qi : ∀ {A' : Around} {E' : Value → Shared → Prop} {Q' : Value → Shared → Prop}, Q' (.ref hp.objs.size) ⟨hp.push o, g9, d9, t9, o9⟩ → wpAny (model P9 w9) A' (pyIter v) Q' E' ⟨hp, g9, d9, t9, o9⟩ := fun q => B.iter P9 w9 _ _ ⟨hp, g9, d9, t9, o9⟩ _ hb q
    wp_walk using qi
    refine wpAny_stack_any fun u9 => wpAny_pure ?_
    split
    next c9 _ _ _ _ _ =>
      cases (c9 == Value.type "enumerate") <;> (wp_walk using qi; exact ⟨_, rfl, h9⟩)
    next =>
      wp_walk using qi
      exact ⟨_, rfl, h9⟩
section
variable {P : Program} {w : World} {A : Around} {E : Value → Shared → Prop} {s : Shared}
theorem en_call {v : Value} {o : Obj} {Hq : Heap → Prop} {Q : Value → Shared → Prop} (B : Begins v o Hq) (hb : Hq s.heap)
    (h : ∀ h', IsEnum h' (s.heap.objs.size + 1) s.heap.objs.size 0 .none → h'.get? s.heap.objs.size = some o → (∀ b x, s.heap.get? b = some x → h'.get? b = some x) → Q (.ref (s.heap.objs.size + 1)) { s with heap := h' }) :
    wpAny (model P w) A (call (.type "enumerate") [v]) Q E s := by
  refine callType_new F.called_enumerate (by decide) (F.typeCall_enumerate_1 v) (F.newCall_enumerate_1 v) (fun u => F.args_object_init_2 u v) F.entry_enumerate_new (en_meets B) ⟨hb, ?_⟩
  have z1 : (s.heap.push o).objs.size = s.heap.objs.size + 1 := Heap.size_push ..
  have z2 := Heap.get?_push_size (s.heap.push o) (o := enRec s.heap.objs.size) rfl
  show _ ∧ _
  rw [z1] at z2 ⊢
  exact ⟨⟨_, z2, rfl⟩, h _ z2 (Heap.get?_push_of_some _ (Heap.get?_push_size _ B.free)) fun b x q => Heap.get?_push_of_some _ (Heap.get?_push_of_some _ q)⟩
end
/-- the tuple at a as it stands, each item in a new pair -/
def ItU (K : PySem.W.Frag) (a : Addr) : It :=
  ⟨fun i H => ∃ (xs : List V) (x : V), SqT K H a xs ∧ xs[i]? = some x,
   fun i H v H' => ∃ (p : Addr) (x : V), v = .ref p ∧ H p = none ∧ H' = upd H p (.tup [.int (i : Nat), x]) ∧ ∀ xs, SqT K H a xs → xs[i]? = some x,
   fun i H => ∃ xs : List V, SqT K H a xs ∧ xs.length = i⟩
theorem turn_enU {P : Program} {w : World} {K : PySem.W.Frag} {es : List Expr} {kk : Nat} {tp : Pos} (a e it : Addr) (hea : e ≠ it) (hai : a ≠ it) (hee : e ≠ a) :
    Turn P w K (.Tuple es kk tp) (ItU K a) [e, it] e (fun i h => (∃ old, IsEnum h e it ((i : Nat) : Int) old) ∧ h.IsTupleIter it a i) := by
  have two : ∀ {b : Addr}, b ∈ [e, it] → b = e ∨ b = it := fun h => by simpa using h
  refine ⟨by simp, fun i h st b hb => ?_, fun i h h' st k => ?_, ?_, ?_, fun A i s Q E st h => ?_⟩
  · obtain ⟨⟨old, he⟩, ⟨o, ho, hc, hd⟩⟩ := st
    rcases two hb with z | z
    · subst z
      exact ⟨_, he, fun v q => by cases q⟩
    · subst z
      exact ⟨o, ho, fun v q => by
        rw [hd] at q
        cases q⟩
  · obtain ⟨⟨old, he⟩, hi⟩ := st
    exact ⟨⟨old, k e (by simp) _ he⟩, hi.at fun o q => k it (by simp) o q⟩
  · intro X hP hw hK hc i pins s σ H E I hf st hg
    subst hP hw hK
    obtain ⟨⟨old, he⟩, hit⟩ := st
    obtain ⟨xs, x, hq, hx⟩ := hg
    obtain ⟨its, rv, p, hz⟩ := I.tuple hq
    obtain ⟨u, hu, ru⟩ := rv.get hx
    have hel : e < s.heap.objs.size := Heap.lt_size he
    have hil : it < s.heap.objs.size := by
      obtain ⟨_, q, _⟩ := hit
      exact Heap.lt_size q
    have hlt : i < its.toArray.size := by
      rw [List.size_toArray]
      exact (List.getElem?_eq_some_iff.mp hu).1
    have D := PySem.Draws.tuple (prog := X.prog) (w := X.w) (A := X.A.in1) (I.ok.hd hc) it a hai its.toArray
    refine wpAny_pyNext_enum_itemD D he ⟨hit, p⟩ hlt hea (by simp [hea, hee]) fun y h' tk hy ho hst hT hsz hk => ?_
    have ey : y = u := by
      rw [List.getElem?_toArray, hu] at hy
      exact (Option.some.inj hy).symm
    subst ey
    refine ⟨_, rfl, wpAny_letOwnedTupleGo_enum (s := { s with heap := h', toks := tk + 1 }) ho fun h2 he2 sb => ?_⟩
    have hT2 := (sb.2 _ (Nat.ne_of_gt hel)).trans hT
    have new : ObjOk X.prog X.w (upd H s.heap.objs.size (.tup [.int (i : Nat), x])) h2 s.heap.objs.size (.tup [.int (i : Nat), x]) :=
      ⟨by show 2 ≤ sizeLine; decide, [.int i tk, y], .cons ⟨_, rfl⟩ (.cons ru .nil), ⟨_, hT2, rfl, _, rfl⟩⟩
    have I1 : Inv X pins σ (upd H s.heap.objs.size (.tup [.int (i : Nat), x])) { s with heap := h2, toks := tk + 1 } :=
      I.turnedNew (ch := [e, it]) (fun b ob hb q => (sb.2 b fun z => hb (by rw [z]; simp)).trans (hk b ob (fun z => hb (by rw [z]; simp)) (fun z => hb (by rw [z]; simp)) q)) hf (Nat.le_refl _) new
    refine ⟨.ref s.heap.objs.size, _, I1, rfl, ⟨_, x, rfl, I.hok.fresh (Nat.le_refl _), rfl, fun ys hy => by rw [I.tuple_inj hy hq]; exact hx⟩, ⟨⟨y, ?_⟩, hst.1.at fun o q => (sb.2 it (Ne.symm hea)).trans q⟩, fun b hb => ?_⟩
    · have e1 : ((i + 1 : Nat) : Int) = (i : Int) + 1 := by omega
      rw [e1]
      exact he2
    · have hb' : b < s.heap.objs.size := by rcases two hb with z | z <;> (rw [z]; assumption)
      rw [upd_ne (Nat.ne_of_lt hb')]
      exact (hf b hb).1
  · intro X hP hw hK hc i pins s σ H E I hf st hg
    subst hP hw hK
    obtain ⟨⟨old, he⟩, hit⟩ := st
    obtain ⟨xs, hq, hx⟩ := hg
    obtain ⟨its, rv, p, hz⟩ := I.tuple hq
    obtain ⟨f0, f1, f2, f3, f4, f5⟩ := hf it (by simp)
    have hl : i = its.toArray.size := by
      rw [List.size_toArray, ← rv.length]
      exact hx.symm
    subst hl
    have D := PySem.Draws.tuple (prog := X.prog) (w := X.w) (A := X.A.in1) (I.ok.hd hc) it a hai its.toArray
    exact wpAny_pyNext_enum_endD D he ⟨hit, p⟩ fun h' eb => ⟨rfl, I.turned (t' := s.toks) (fun b o hb q => eb b o hb q) f0 f1 f3 f4 f5⟩
  · obtain ⟨⟨old, he⟩, _⟩ := st
    exact wpAny_pyIter_enum he h
def iEnU (K : PySem.W.Frag) (ta : TA) : TI := fun σ H R => ta σ H fun vs H1 => ∃ a xs, vs = [.ref a] ∧ SqT K H1 a xs ∧ R (ItU K a) H1
theorem pi_enU {X : Cx} {e : Expr} {ta : TA} {p pos tp : Pos} {es : List Expr} {kk : Nat} (hg : Gl X "enumerate") (hm : X.mg "enumerate" = none) (ha : PA X [e] ta) (hs : starEach [e] X.env = [(false, eval e X.env)] := by rfl) :
    PI X (.Tuple es kk tp) (.Call (.Name "enumerate" p) [e] [] pos) (iEnU X.K ta) := by
  refine ⟨fun pins s σ H R I h => ?_⟩
  refine Call_ (ld_blt I hg hm boot_enumerate (PyProof.Rows.callWith_type1 (thn (ha.run pos pins s σ H _ I h) fun us s1 ⟨vs, H1, I1, r1, a, xs, ex, hq, q⟩ => ?_) hs rfl))
  subst ex
  cases r1 with
  | cons r rr =>
    cases rr
    cases r
    obtain ⟨its, rv, p', hz⟩ := I1.tuple hq
    have hal : a < s1.heap.objs.size := by
      obtain ⟨_, z, _⟩ := id p'
      exact Heap.lt_size z
    refine en_call (PySem.begins_tuple a its.toArray) p' fun h' he hit hk => wpAny_pyIter_enum he ?_
    refine ⟨s1.heap.objs.size + 1, [s1.heap.objs.size + 1, s1.heap.objs.size], _, _, H1, rfl, I1.kept (t' := s1.toks) hk, turn_enU a (s1.heap.objs.size + 1) s1.heap.objs.size (Nat.succ_ne_self _) (Nat.ne_of_lt hal) (Nat.ne_of_gt (Nat.lt_succ_of_lt hal)), ⟨⟨.none, he⟩, ⟨_, hit, rfl, rfl⟩⟩, fun b hb => ?_, q⟩
    have hle : s1.heap.objs.size ≤ b := by
      have z : b = s1.heap.objs.size + 1 ∨ b = s1.heap.objs.size := by simpa using hb
      rcases z with z | z
      · rw [z]
        exact Nat.le_succ _
      · rw [z]
        exact Nat.le_refl _
    exact I1.fpOk hle (I1.hok.fresh hle)
def enD (ds : List D) : List D := ds.zipIdx.map fun p => .tuple [.int (p.2 : Nat), p.1]
theorem enD_len (ds : List D) : (enD ds).length = ds.length := by
  unfold enD
  rw [List.length_map, List.length_zipIdx]
theorem enD_at {ds : List D} {i : Nat} {d : D} (h : (enD ds)[i]? = some d) : ∃ f, ds[i]? = some f ∧ d = .tuple [.int (i : Nat), f] := by
  unfold enD at h
  rw [List.getElem?_map, List.getElem?_zipIdx] at h
  cases q : ds[i]? with
  | none =>
    rw [q] at h
    cases h
  | some f =>
    rw [q] at h
    have z := Option.some.inj h
    refine ⟨f, rfl, ?_⟩
    rw [← z]
    show PyData.tuple [.int ((0 + i : Nat) : Int), f] = _
    rw [Nat.zero_add]
/-- for i, x in enumerate(e), e a tuple -/
theorem di_enU {X : Cx} {e : Expr} {δ : List Sl} {ω : List Cell} {p pos tp : Pos} {es : List Expr} {kk : Nat} {P : List D → List Cell → Prop} (hg : Gl X "enumerate") (hm : X.mg "enumerate" = none) (h : DE X e δ ω fun r ω1 => ∃ ds, r = .val (.tuple ds) ∧ P (enD ds) ω1)
    (hs : starEach [e] X.env = (false, eval e X.env) :: starEach [] X.env := by rfl) (hs2 : starEach [e] X.env = [(false, eval e X.env)] := by rfl) : DI X (.Tuple es kk tp) (.Call (.Name "enumerate" p) [e] [] pos) δ ω P := fun B F H as σ w ev R o => by
  refine ⟨_, pi_enU hg hm (pa_cons pe_w pa_nil hs) hs2, ?_⟩
  refine h B F H as σ w ev _ fun v B1 H1 as1 r ω1 e1 p1 w1 s1 ⟨ds, er, hp⟩ => ?_
  subst er
  obtain ⟨a, xs, rfl, h1, h2⟩ := dp_tup_inv (sl_val s1)
  refine ⟨a, xs, rfl, sqT_up w1.b h1, o _ (enD ds) B1 H1 as1 ω1 e1 p1 w1 (fun B' F H as ω sb w' => ⟨fun i d hd => ?_, ⟨xs, sqT_up (sb.trans w'.b) h1, ?_⟩⟩) hp⟩
  · obtain ⟨f, hf, rfl⟩ := enD_at hd
    obtain ⟨x, e2, d2⟩ := dpAll_at h2 hf
    refine ⟨⟨xs, x, sqT_up (sb.trans w'.b) h1, e2⟩, fun y H' q => ?_⟩
    obtain ⟨T, x', rfl, nT, rfl, q⟩ := q
    have := q xs (sqT_up (sb.trans w'.b) h1)
    rw [e2] at this
    cases this
    obtain ⟨w2, sb2⟩ := w'.new (o := .tup [.int (i : Nat), x]) nT
    exact ⟨_, sb2, w2, .tup (.inl (.inl upd_same)) (.cons (.int _) (.cons (dp_up sb2 (dp_up sb d2)) .nil))⟩
  · rw [enD_len, dpAll_len h2]
end
section
/-! ### dicts of data, owned -/
def getK (kvs : List (Key × D)) (k : Key) : Option D := (kvs.find? fun p => decide (p.1 = k)).map (·.2)
def setK (kvs : List (Key × D)) (k : Key) (d : D) : List (Key × D) :=
  if (kvs.any fun p => decide (p.1 = k)) = true then kvs.map (fun p => if p.1 = k then (p.1, d) else p) else kvs ++ [(k, d)]
theorem dp_key {K : Fg} {B : Hp} {v : V} {k : Key} (h : Dp K B v (keyD k)) : v = kV k := by
  cases k with
  | inl i => exact dp_int_inv h
  | inr x => exact dp_str_inv h
theorem kv_get {K : Fg} {B : Hp} (k : Key) : ∀ {a : List (Key × V)} {b : List (Key × D)}, KvOk K B a b → (∀ d, getK b k = some d → ∃ v, valV a k = some v ∧ Dp K B v d) ∧ (valV a k).isSome = (getK b k).isSome
  | _, _, .nil => ⟨nofun, rfl⟩
  | p :: r, q :: s, .cons h t => by
    obtain ⟨h1, h2⟩ := kv_get k t
    unfold getK valV at *
    rw [List.find?_cons, List.find?_cons, h.1]
    by_cases e : q.1 = k
    · rw [decide_eq_true e]
      refine ⟨fun d hd => ?_, rfl⟩
      cases hd
      exact ⟨p.2, rfl, h.2⟩
    · rw [decide_eq_false e]
      exact ⟨h1, h2⟩
theorem kv_any {K : Fg} {B : Hp} (k : Key) : ∀ {a : List (Key × V)} {b : List (Key × D)}, KvOk K B a b → (a.any fun p => decide (p.1 = k)) = (b.any fun p => decide (p.1 = k))
  | _, _, .nil => rfl
  | p :: r, q :: s, .cons h t => by
    rw [List.any_cons, List.any_cons, h.1, kv_any k t]
theorem kv_map {K : Fg} {B : Hp} {k : Key} {v : V} {d : D} (hv : Dp K B v d) : ∀ {a : List (Key × V)} {b : List (Key × D)}, KvOk K B a b → KvOk K B (a.map fun p => if p.1 = k then (p.1, v) else p) (b.map fun p => if p.1 = k then (p.1, d) else p)
  | _, _, .nil => .nil
  | p :: r, q :: s, .cons h t => by
    refine .cons ?_ (kv_map hv t)
    dsimp only
    by_cases e : q.1 = k
    · rw [if_pos (h.1.trans e), if_pos e]
      exact ⟨h.1, hv⟩
    · rw [if_neg fun z => e (h.1.symm.trans z), if_neg e]
      exact h
theorem kv_snoc {K : Fg} {B : Hp} {k : Key} {v : V} {d : D} (hv : Dp K B v d) : ∀ {a : List (Key × V)} {b : List (Key × D)}, KvOk K B a b → KvOk K B (a ++ [(k, v)]) (b ++ [(k, d)])
  | _, _, .nil => .cons ⟨rfl, hv⟩ .nil
  | p :: r, q :: s, .cons h t => .cons h (kv_snoc hv t)
theorem kv_set {K : Fg} {B : Hp} {k : Key} {v : V} {d : D} (hv : Dp K B v d) {a : List (Key × V)} {b : List (Key × D)} (h : KvOk K B a b) : KvOk K B (putK a k v) (setK b k d) := by
  unfold putK setK
  rw [kv_any k h]
  split
  · exact kv_map hv h
  · exact kv_snoc hv h
theorem cell_dct {K : Fg} {B H : Hp} {a : Addr} {kv : List (Key × V)} {kvs : List (Key × D)} (hb : B a = none) (hh : H a = some (.dK kv)) (hk : KvOk K B kv kvs) : CellOk K B H a (.dct kvs) := ⟨hb, kv, hh, hk⟩
theorem slo_dct {K : Fg} {B F H : Hp} {as : List Addr} {ω : List Cell} {v : V} {k : Nat} {kvs : List (Key × D)} (w : Wd K B F H as ω) (s : SlOk K B as (some v) (.own k)) (hc : ω[k]? = some (.dct kvs)) : ∃ a xs, v = .ref a ∧ as[k]? = some a ∧ B a = none ∧ H a = some (.dK xs) ∧ KvOk K B xs kvs := by
  obtain ⟨a, h1, h2⟩ := sl_own s
  obtain ⟨h0, xs, h3, h4⟩ := w.cellD h2 hc
  exact ⟨a, xs, h1, h2, h0, h3, h4⟩
section
variable {X : Cx} {e a b c o i value : Expr} {es : List Expr} {δ : List Sl} {ω : List Cell} {P : Sl → List Cell → Prop} {T : Bool → List Cell → Prop} {pos pos' : Pos} {k : Kd}
/-- d[y] -/
theorem de_dget (hu : X.A.units + 1 < cLine) (hs : NoSl i) (h : DE X o δ ω fun r1 ω1 => DE X i δ ω1 fun r2 ω2 => ∃ kx kvs key d, r1 = .own kx ∧ ω2[kx]? = some (.dct kvs) ∧ r2 = .val (keyD key) ∧ getK kvs key = some d ∧ P (.val d) ω2) : DE X (.Subscript o i pos) δ ω P := fun B F H as σ w ev Q o => by
  refine ⟨_, pe_dget hu pe_w pe_w hs, ?_⟩
  refine h B F H as σ w ev _ fun v B1 H1 as1 r ω1 e1 p1 w1 s1 q1 => ?_
  refine q1 B1 F H1 as1 σ w1 (envOk_up e1 p1 ev) _ fun u B2 H2 as2 r2 ω2 e2 p2 w2 s2 ⟨kx, kvs, key, d, er, hk, er2, hd, hp⟩ => ?_
  subst er er2
  obtain ⟨a, xs, rfl, ha, hb, hh, hkv⟩ := slo_dct w2 (slOk_up e2 p2 s1) hk
  obtain ⟨y, hy, hdy⟩ := (kv_get key hkv).1 d hd
  have ey := dp_key (sl_val s2)
  subst ey
  have g := DGet.k (k := key) hh
  rw [hy] at g
  refine ⟨a, y, rfl, g, ?_⟩
  exact o y B2 H2 as2 _ ω2 (e1.trans e2) (p1.trans p2) w2 (slv hdy) hp
theorem dt_din (hu : X.A.units + 1 < cLine) (h : DE X i δ ω fun r1 ω1 => DE X o δ ω1 fun r2 ω2 => ∃ kx kvs key, r2 = .own kx ∧ ω2[kx]? = some (.dct kvs) ∧ r1 = .val (keyD key) ∧ T (getK kvs key).isSome ω2) (h1 : behindInMarks .In o = false := by first | exact nobehind _ (by decide) (by decide) | rfl) : DT X (.Compare i [.In] [o] pos) δ ω T := fun B F H as σ w ev Q oo => by
  refine ⟨_, pt_cmp (pc_din hu pe_w pe_w) h1, ?_⟩
  refine h B F H as σ w ev _ fun v B1 H1 as1 r ω1 e1 p1 w1 s1 q1 => ?_
  refine q1 B1 F H1 as1 σ w1 (envOk_up e1 p1 ev) _ fun u B2 H2 as2 r2 ω2 e2 p2 w2 s2 ⟨kx, kvs, key, er, hk, er2, hp⟩ => ?_
  subst er er2
  obtain ⟨a, xs, rfl, ha, hb, hh, hkv⟩ := slo_dct w2 s2 hk
  have ey := dp_key (sl_val (slOk_up e2 p2 s1))
  subst ey
  refine ⟨a, valV xs key, rfl, .k hh, _, rfl, ?_⟩
  rw [(kv_get key hkv).2]
  exact oo _ B2 H2 as2 ω2 (e1.trans e2) (p1.trans p2) w2 hp
theorem dt_dnotin (hu : X.A.units + 1 < cLine) (h : DE X i δ ω fun r1 ω1 => DE X o δ ω1 fun r2 ω2 => ∃ kx kvs key, r2 = .own kx ∧ ω2[kx]? = some (.dct kvs) ∧ r1 = .val (keyD key) ∧ T (!(getK kvs key).isSome) ω2) (h1 : behindInMarks .NotIn o = false := by first | exact nobehind _ (by decide) (by decide) | rfl) : DT X (.Compare i [.NotIn] [o] pos) δ ω T := fun B F H as σ w ev Q oo => by
  refine ⟨_, pt_cmp (pc_dnotin hu pe_w pe_w) h1, ?_⟩
  refine h B F H as σ w ev _ fun v B1 H1 as1 r ω1 e1 p1 w1 s1 q1 => ?_
  refine q1 B1 F H1 as1 σ w1 (envOk_up e1 p1 ev) _ fun u B2 H2 as2 r2 ω2 e2 p2 w2 s2 ⟨kx, kvs, key, er, hk, er2, hp⟩ => ?_
  subst er er2
  obtain ⟨a, xs, rfl, ha, hb, hh, hkv⟩ := slo_dct w2 s2 hk
  have ey := dp_key (sl_val (slOk_up e2 p2 s1))
  subst ey
  refine ⟨a, valV xs key, rfl, .k hh, _, rfl, ?_⟩
  rw [(kv_get key hkv).2]
  exact oo _ B2 H2 as2 ω2 (e1.trans e2) (p1.trans p2) w2 hp
/-- d[y] = v -/
theorem d1_dput (hu : X.A.units + 1 < cLine) (h : DE X value δ ω fun rv ω1 => DE X o δ ω1 fun r1 ω2 => DE X i δ ω2 fun r2 ω3 => ∃ kx kvs key d, rv = .val d ∧ r1 = .own kx ∧ ω3[kx]? = some (.dct kvs) ∧ r2 = .val (keyD key) ∧ kvs.length < 100000 ∧ k.nx δ (ω3.set kx (.dct (setK kvs key d))))
    (hs : swapsWith value (some (.Subscript o i pos')) pos.line X.env = pure false := by rfl) : D1 X (.Assign [.Subscript o i pos'] value pos) δ ω k := fun B F H as σ w ev E oo => by
  refine ⟨_, ps_dput hu pe_w pe_w pe_w hs, ?_⟩
  refine h B F H as σ w ev _ fun v B1 H1 as1 r ω1 e1 p1 w1 s1 q1 => ?_
  refine q1 B1 F H1 as1 σ w1 (envOk_up e1 p1 ev) _ fun u B2 H2 as2 r2 ω2 e2 p2 w2 s2 q2 => ?_
  refine q2 B2 F H2 as2 σ w2 (envOk_up (e1.trans e2) (p1.trans p2) ev) _ fun y B3 H3 as3 r3 ω3 e3 p3 w3 s3 ⟨kx, kvs, key, d, er, er1, hk, er2, hz, hp⟩ => ?_
  subst er er1 er2
  obtain ⟨a, xs, rfl, ha, hb, hh, hkv⟩ := slo_dct w3 (slOk_up e3 p3 s2) hk
  have hd := dp_up (e2.trans e3) (sl_val s1)
  have hset := kv_set (k := key) hd hkv
  have hl : xs.length = kvs.length := Paired.length hkv
  refine ⟨a, upd H3 a (.dK (putK xs key v)), rfl, .inl ⟨xs, key, hh, dp_key (sl_val s3), by rw [hl, sizeLine_eq]; omega, rfl⟩, ?_⟩
  exact (oo.nx.up ((e1.trans e2).trans e3) ((p1.trans p2).trans p3)).here (w3.write ha hk hb (cell_dct hb upd_same hset)) (envOk_up ((e1.trans e2).trans e3) ((p1.trans p2).trans p3) ev) hp
/-- {x: y} -/
theorem de_dic1 (h : DE X a δ (ω ++ [.dct []]) fun r1 ω1 => DE X b δ ω1 fun r2 ω2 => ∃ key d, r1 = .val (keyD key) ∧ r2 = .val d ∧ ω2[ω.length]? = some (.dct []) ∧ P (.own ω.length) (ω2.set ω.length (.dct [(key, d)]))) : DE X (.Dict [some a] [b] pos) δ ω P := fun B F H as σ w ev Q o => by
  refine ⟨_, pe_disp (pps_cons pe_w pe_w pps_nil) rfl rfl (by nofun) (by show 1 ≤ 15; decide), fun p hp => ?_⟩
  have w0 : Wd X.K B F (upd H p (.dK [])) (as ++ [p]) (ω ++ [.dct []]) := w.own hp fun hb => ⟨hb, [], upd_same, .nil⟩
  have pre : as <+: as ++ [p] := List.prefix_append _ _
  refine h B F _ _ σ w0 (envOk_up (Same.refl _) pre ev) _ fun v B1 H1 as1 r ω1 e1 p1 w1 s1 q1 => ?_
  refine q1 B1 F H1 as1 σ w1 (envOk_up e1 (pre.trans p1) ev) _ fun u B2 H2 as2 r2 ω2 e2 p2 w2 s2 ⟨key, d, er, er2, hc, hP⟩ => ?_
  subst er er2
  have hpa : as2[ω.length]? = some p := by
    have h1 : (as ++ [p])[ω.length]? = some p := by rw [← w.len, List.getElem?_append_right (Nat.le_refl _), Nat.sub_self]; rfl
    obtain ⟨t, ht⟩ := p1.trans p2
    rw [← ht, List.getElem?_append_left, h1]
    exact (List.getElem?_eq_some_iff.mp h1).1
  obtain ⟨hb, xs, hh, hkv⟩ := w2.cellD hpa hc
  cases hkv
  refine ⟨hh, [(key, u)], ?_, by show 1 ≤ 15; decide, ?_⟩
  · rw [dp_key (sl_val (slOk_up e2 p2 s1))]
    rfl
  · refine o (.ref p) B2 _ as2 (.own ω.length) _ (e1.trans e2) (pre.trans (p1.trans p2)) (w2.write hpa hc hb (cell_dct hb upd_same (.cons ⟨rfl, sl_val s2⟩ .nil))) ⟨p, rfl, hpa⟩ hP
/-- if xs, while xs: an owned list -/
theorem dt_own (h : DE X e δ ω fun r ω1 => ∃ kx ds, r = .own kx ∧ ω1[kx]? = some (.lst ds) ∧ T (!ds.isEmpty) ω1) (he : ∀ whole, isTrue e X.env whole = (do let v ← whole; standAt e.pos; holding [v] (truthy v)) := by intro _; rfl) : DT X e δ ω T := fun B F H as σ w ev Q o => by
  refine ⟨_, pt_truth pe_w he, ?_⟩
  refine h B F H as σ w ev _ fun v B1 H1 as1 r ω1 e1 p1 w1 s1 ⟨kx, ds, er, hk, hp⟩ => ?_
  subst er
  obtain ⟨a, xs, rfl, ha, h1, h2⟩ := slo_lst w1 s1 hk
  have ee : xs.isEmpty = ds.isEmpty := by cases h2 <;> rfl
  refine ⟨!ds.isEmpty, .inl ⟨xs, SqL.of h1, by rw [ee]⟩, o _ B1 H1 as1 ω1 e1 p1 w1 hp⟩
/-- sorted(xs), ints -/
theorem ints_of {K : Fg} {B : Hp} : ∀ {xs : List V} {ns : List Int}, DpAll K B xs (ns.map PyData.int) → xs = ns.map V.int
  | _, [], .nil => rfl
  | _, n :: r, .cons h t => by
    rw [dp_int_inv h, ints_of t]
    rfl
theorem ra_sorted {r : Sl} {ns : List Int} (hq : r = .val (.list (ns.map PyData.int)) ∨ ∃ kx, r = .own kx ∧ ω[kx]? = some (.lst (ns.map PyData.int))) (hp : ∀ ns' : List Int, ns'.Perm ns → ns'.Pairwise (· ≤ ·) → P (.val (.list (ns'.map PyData.int))) ω) : RA X (rSortedI X.K) [r] ω P := fun B F H as vs w s Q o => by
  obtain ⟨v, rfl, s1⟩ := rs1 s
  have key : ∃ p, v = .ref p ∧ SqL X.K H p (ns.map V.int) := by
    rcases hq with rfl | ⟨kx, rfl, hk⟩
    · obtain ⟨p, xs, rfl, h1, h2⟩ := slv_lst s1 w.b
      rw [ints_of h2] at h1
      exact ⟨p, rfl, h1⟩
    · obtain ⟨p, xs, rfl, ha, h1, h2⟩ := slo_lst w s1 hk
      rw [ints_of h2] at h1
      exact ⟨p, rfl, SqL.of h1⟩
  obtain ⟨p, rfl, h1⟩ := key
  refine ⟨p, ns, rfl, h1, fun ns' q hperm hpw hn => ?_⟩
  exact o.lst w hn (dp_script ns') (hp ns' hperm hpw)
end
end
section
/-! ### dicts with None among the keys -/
def ND (P : Program) (w : World) (a : Addr) (kvs : List (Option Key × V)) : HO :=
  .ext fun h => kvs.length ≤ sizeLine ∧ (a == sysModules) = false ∧ ∃ vs, KV kvs vs ∧ h.DictOf (noneKind P w) a vs
def kN : Option Key → V
  | none => .non
  | some k => kV k
theorem nd_ok {P : Program} {w : World} {H : Hp} {h : Heap} {a : Addr} {kvs : List (Option Key × V)} {vs : List (Option Key × Value)} (z : kvs.length ≤ sizeLine) (hd : (a == sysModules) = false) (r : KV kvs vs) (d : h.DictOf (noneKind P w) a vs) : ObjOk P w H h a (ND P w a kvs) := by
  refine ⟨⟨z, hd, vs, r, d⟩, ?_, fun h1 h2 q hk => ?_⟩
  · obtain ⟨o, _, _, ho, _⟩ := d
    exact ⟨o, ho⟩
  · obtain ⟨z', hd', vs', r', o, es, ep, ho, hx⟩ := q
    exact ⟨z', hd', vs', r', o, es, ep, hk o ho, hx⟩
theorem nd_rd {P : Program} {w : World} {H : Hp} {h : Heap} {a : Addr} {kvs : List (Option Key × V)} (hok : HOk P w H h) (e : H a = some (ND P w a kvs)) : kvs.length ≤ sizeLine ∧ (a == sysModules) = false ∧ ∃ vs, KV kvs vs ∧ h.DictOf (noneKind P w) a vs := (hok a _ e).1
theorem kN_is {P : Program} {w : World} {k : Option Key} {u : Value} (r : RelV (kN k) u) : (noneKind P w).is k u = true := by
  cases k with
  | none =>
    cases r
    rfl
  | some k => exact @kV_is P w k u r
theorem nd_set {X : Cx} {pins : List (Addr × Obj)} {σ : L2.St} {H : Hp} {s : Shared} {E : Value → Shared → Prop} {D : Addr} {kvs : List (Option Key × V)} {k : Option Key} {v : V} {u r : Value} {Q : Unit → Shared → Prop} (I : Inv X pins σ H s) (hD : H D = some (ND X.prog X.w D kvs)) (hz : kvs.length < sizeLine)
    (ru : RelV (kN k) u) (rr : RelV v r) (h : ∀ s', Inv X pins σ (upd H D (ND X.prog X.w D (putK kvs k v))) s' → Q () s') : wpAny (model X.prog X.w) X.A (dictSet D u r) Q E s := by
  obtain ⟨z, hd, vs, rel, dd⟩ := nd_rd I.hok hD
  have z1 : vs.length ≤ sizeLine := Nat.le_trans (Nat.le_of_eq (Paired.length rel).symm) z
  refine wpAny_dictSet_pairs (hsz := z1) (kN_is ru) dd fun h' d' hs => h _ ?_
  have z2 : (putK kvs k v).length ≤ sizeLine := Nat.le_trans (length_putK kvs k v) hz
  have he : ∃ q, h'.get? D = some q := by
    obtain ⟨q, _, _, hq, _⟩ := d'
    exact ⟨q, hq⟩
  exact d_write I (by rw [hD]; exact True.intro) hs he (nd_ok z2 hd (rel.put k rr) d')
/-- one turn of a dict comprehension: key, value, the store -/
structure PKV (X : Cx) (kx vx : Expr) (D : Addr) (t : L2.St → Hp → (Hp → Prop) → Prop) : Prop where
  run : ∀ (pins : List (Addr × Obj)) (s : Shared) (σ : L2.St) (H : Hp) (Q : Hp → Prop), Inv X pins σ H s → t σ H Q →
    wpAny (model X.prog X.w) X.A (eval kx X.env) (fun a s1 => wpAny (model X.prog X.w) X.A (eval vx X.env) (fun b s2 => wpAny (model X.prog X.w) X.A (dictSet D a b) (fun _ s3 => ∃ H', Inv X pins σ H' s3 ∧ Q H') X.xe s2) X.xe s1) X.xe s
def tKV (P : Program) (w : World) (D : Addr) (tk tv : TE) : L2.St → Hp → (Hp → Prop) → Prop := fun σ H Q => tk σ H fun y H1 => tv σ H1 fun z H2 => ∃ kvs k, y = kN k ∧ H2 D = some (ND P w D kvs) ∧ kvs.length < sizeLine ∧ Q (upd H2 D (ND P w D (putK kvs k z)))
theorem pkv_nd {X : Cx} {kx vx : Expr} {D : Addr} {tk tv : TE} (hk : PE X kx tk) (hv : PE X vx tv) : PKV X kx vx D (tKV X.prog X.w D tk tv) := ⟨fun pins s σ H Q I h => by
  refine thn (hk.run pins s σ H _ I h) fun a s1 ⟨y, H1, I1, r1, q1⟩ => thn (hv.run pins s1 σ H1 _ I1 q1) fun b s2 ⟨z, H2, I2, r2, kvs, k, ey, hD, hz, q⟩ => ?_
  subst ey
  exact nd_set I2 hD hz r1 r2 fun s3 I3 => ⟨_, I3, q⟩⟩
/-- the whole: emp is what the new dict is held for -/
def tDX (emp : Addr → HO) (wi : TI) (g : TG) (tt : TT) (t : Addr → L2.St → Hp → (Hp → Prop) → Prop) (vs : List Nat) : TE := fun σ H Q => wi σ H fun J H1 => ∀ D, H1 D = none → ∃ W : Nat → Nat → Hp → Prop, (∃ m, W 0 m (upd H1 D (emp D))) ∧ ∀ i m H, W i m H →
  (J.stop i H ∧ Q (.ref D) H) ∨ (J.go i H ∧ ∃ Nx : Hp → Prop, (∀ H', Nx H' → ∃ m', m' < m ∧ W (i + 1) m' H') ∧ ∀ x H', J.yld i H x H' → g x (wipe σ vs) H' fun σ2 H2 => wipe σ2 vs = wipe σ vs ∧ tt σ2 H2 fun b H3 => if b = true then t D σ2 H3 Nx else Nx H3)
theorem nd_empty {P : Program} {w : World} {H : Hp} (h : Heap) (hb : sysModules < h.objs.size) : ObjOk P w H (h.push { cls := .type "dict", data := .dict #[] }) h.objs.size (ND P w h.objs.size []) :=
  nd_ok (Nat.zero_le _) (beq_eq_false_iff_ne.mpr (Nat.ne_of_gt hb)) .nil (Heap.DictOf.new h)
section
variable {X : Cx}
theorem dx_core {pins : List (Addr × Obj)} {s0 : Shared} {σ : L2.St} {H : Hp} {Q : VK} {kx vx tg iter : Expr} {ifs : List Expr} {scope : Scope} {own : List (Str × Nat)} {pos po : Pos} {emp : Addr → HO} {wi : TI} {g : TG} {tt : TT} {t : Addr → L2.St → Hp → (Hp → Prop) → Prop} {use : Option (Value → Sem Unit)} {Qf : Value → Shared → Prop}
    (hemp : ∀ (H : Hp) (h : Heap), sysModules < h.objs.size → ObjOk X.prog X.w H (h.push { cls := .type "dict", data := .dict #[] }) h.objs.size (emp h.objs.size))
    (hc : X.calm = true) (hN : X.N.Nodup) (I : Inv X pins σ H s0) (hi : PI X tg iter wi) (ok : BlkOk X.N X.env.scope scope own)
    (hg : ∀ (s : Shared) (H : Hp) (C : Addr) (cl : List (Str × Addr)) (fp : List Addr), PG (X.blk s H scope (compEnvC scope cl C X.env) fp) tg g) (ht : ∀ (s : Shared) (H : Hp) (C : Addr) (cl : List (Str × Addr)) (fp : List Addr), PTs (X.blk s H scope (compEnvC scope cl C X.env) fp) ifs tt)
    (hkv : ∀ (D : Addr) (s : Shared) (H : Hp) (C : Addr) (cl : List (Str × Addr)) (fp : List Addr), PKV (X.blk s H scope (compEnvC scope cl C X.env) fp) kx vx D (t D)) (hs : ∀ x, foldedSetIterable iter X.env x = pure x)
    (h : tDX emp wi g tt t (own.map (·.2)) σ H Q)
    (done : ∀ D C s' m H', Inv X pins σ H' s' → Q (.ref D) H' → s'.heap.Ns C m → FpOk X pins H' C → compPost (model X.prog X.w) X.A X.xe use Qf (.ref D) C (.ok .next) s') :
    wpAny (model X.prog X.w) X.A (comprehension (.DictComp kx vx [⟨tg, iter, ifs, 0⟩] scope pos) scope X.env po newDict false (eval iter X.env) use) Qf X.xe s0 := by
  have free : ∀ y ∈ scope.names, y.2 = .free → ∃ c, X.env.cells.lookup y.1 = some c := fun y hy e => (ok.free y hy e).elim (fun k => I.ok.has _ (.inl k)) fun k => I.ok.has _ (.inr k)
  refine wpAny_comprehension_free (use := use) rfl hs (closure_ok free) ok.kind (fun y hy e => by rw [ok.uniq y hy, e]) (thn (hi.run pins s0 σ H _ I h) fun xv s1 hx => thn hx fun itv s2 h2 => ?_)
  obtain ⟨it, fp, tn, J, H2, eit, I2, T, t2, f2, q⟩ := h2
  subst eit
  refine wpAny_newObj_type (newEnv_comp ?_)
  generalize hD : s2.heap.objs.size = D
  have nD2 : H2 D = none := I2.hok.fresh (Nat.le_of_eq hD)
  obtain ⟨W, ⟨m0, w0⟩, turn⟩ := q D nD2
  generalize hs3 : ({ s2 with heap := s2.heap.push { cls := .type "dict", data := .dict #[] } } : Shared) = s3
  have I3 : Inv X pins σ (upd H2 D (emp D)) s3 := by
    subst hs3 hD
    exact I2.laid (t' := s2.toks) (fun b o e => Heap.get?_push_of_some _ e) (Nat.le_refl _) (hemp _ s2.heap I2.big)
  have h3 : s3.heap = s2.heap.push { cls := .type "dict", data := .dict #[] } := by rw [← hs3]
  have f3 : ∀ b ∈ fp, FpOk X pins (upd H2 D (emp D)) b ∧ b < s3.heap.objs.size := fun b hb => by
    obtain ⟨o, e, _⟩ := T.obj _ _ t2 b hb
    have hl : b < s2.heap.objs.size := Heap.lt_size e
    have hne : b ≠ D := by
      rw [← hD]
      exact Nat.ne_of_lt hl
    refine ⟨⟨by rw [upd_ne hne]; exact (f2 b hb).1, (f2 b hb).2⟩, ?_⟩
    rw [h3, Heap.size_push]
    exact Nat.lt_succ_of_lt hl
  have t3 : tn 0 s3.heap := T.keep _ _ _ t2 fun b _ o e => by
    rw [h3]
    exact Heap.get?_push_of_some _ e
  have I4 := block_start I3 ok hN f3
  generalize hcl : cellsFrom (s3.heap.objs.size + 1) scope.names (cloFrom X.env.cells scope.names []) = cl at I4
  have pg := hg s3 (upd H2 D (emp D)) s3.heap.objs.size cl fp
  have pt := ht s3 (upd H2 D (emp D)) s3.heap.objs.size cl fp
  have pk := hkv D s3 (upd H2 D (emp D)) s3.heap.objs.size cl fp
  show codeAny _ _ (.compStart (.DictComp kx vx [⟨tg, iter, ifs, 0⟩] scope pos) 0 (.ref it) (.ref D) (compEnvC scope cl s3.heap.objs.size X.env)) (compPost (model X.prog X.w) X.A X.xe use Qf (.ref D) s3.heap.objs.size) { s3 with heap := pushCells (s3.heap.push { cls := .type "dict", data := .dict #[] }) scope.names }
  have n3 : ∀ b ∈ fp, (upd H2 D (emp D)) b = none := fun b hb => (f3 b hb).1.1
  generalize hce : compEnvC scope cl s3.heap.objs.size X.env = ce at I4 pg pt pk ⊢
  have cL : ce.locals = s3.heap.objs.size := by
    subst hce
    rfl
  generalize hH3 : upd H2 D (emp D) = H3 at I3 I4 pg pt pk w0 n3 f3
  generalize hs4 : ({ s3 with heap := pushCells (s3.heap.push { cls := .type "dict", data := .dict #[] }) scope.names } : Shared) = s4 at I4 ⊢
  have t4 : tn 0 s4.heap := T.keep _ _ _ t3 fun b _ o e => by
    rw [← hs4]
    exact pushCells_keeps _ _ _ _ (Heap.get?_push_of_some _ e)
  have stat : ∀ {σ' : L2.St} {H' : Hp} {s' : Shared}, Inv (X.blk s3 H3 scope ce fp) [] σ' H' s' → (∀ b ∈ fp, H' b = none) → ∀ b ∈ fp, FpOk (X.blk s3 H3 scope ce fp) [] H' b := fun {σ' H' s'} J' hn b hb =>
    ⟨hn b hb, (J'.ok.exf b hb).1, J'.ok.exfs b hb, .inl hb, (J'.ok.exf b hb).2, fun p hp => by
      have hp' : p ∈ ([] : List (Addr × Obj)) ++ [] := hp
      simp at hp'⟩
  have loop : codeAny (model X.prog X.w) X.A (.compLoop (.DictComp kx vx [⟨tg, iter, ifs, 0⟩] scope pos) 0 (.ref it) (.ref D) ce) (compPost (model X.prog X.w) X.A X.xe use Qf (.ref D) s3.heap.objs.size) s4 := by
    refine compLoop_anyD (fun n s' => ∃ i H', Inv (X.blk s3 H3 scope ce fp) [] (wipe σ (own.map (·.2))) H' s' ∧ tn i s'.heap ∧ (∀ b ∈ fp, H' b = none) ∧ W i n H') ?_ m0 ⟨0, H3, I4, t4, n3, w0⟩
    rintro n s5 ⟨i, H5, I5, t5, n5, w5⟩
    rcases turn i n H5 w5 with ⟨stop, qq⟩ | ⟨go, Nx, hNx, step⟩
    · refine thnF (T.done (X.blk s3 H3 scope ce fp) rfl rfl rfl hc i [] s5 _ H5 (fun _ _ => False) I5 (stat I5 n5) t5 stop) fun r s6 ⟨hr, I6⟩ => ?_
      subst hr
      have I7 : Inv X pins σ H5 s6 := I3.call' (ch := fp) I6.os I6.base I6.hok I6.bare fun b hb => by
        obtain ⟨⟨_, a1, a2, a3, a4, a5⟩, _⟩ := f3 b hb
        exact ⟨a3, a1, a4, a5⟩
      have nC : H5 s3.heap.objs.size = none := by
        rw [← cL]
        exact I6.free
      obtain ⟨m, hn, _⟩ := I6.loc
      refine done D s3.heap.objs.size s6 m H5 I7 qq ?_ (I3.fpOk (Nat.le_refl _) nC)
      rw [← cL]
      exact hn
    · refine thnF (T.item (X.blk s3 H3 scope ce fp) rfl rfl rfl hc i [] s5 _ H5 (fun _ _ => False) I5 (stat I5 n5) t5 go) fun r s6 ⟨u, hr, h6⟩ => ?_
      subst hr
      refine thnF h6 fun _ s7 ⟨x, H7, I7, r7, y7, t7, n7⟩ => ?_
      refine thnF (pg.run _ s7 _ H7 x u _ (I7.pinned (stat I7 n7) (T.obj _ _ t7)) r7 (step x H7 y7)) fun _ s8 ⟨σ8, H8, I8, hw8, q8⟩ => ?_
      refine thnF (pt.run _ s8 σ8 H8 _ I8 q8) fun b s9 ⟨H9, I9, q9⟩ => ?_
      have fin : ∀ {s' : Shared} {H' : Hp}, Inv (X.blk s3 H3 scope ce fp) ([] ++ pinsAt fp s7.heap) σ8 H' s' → Nx H' → ∃ m, m < n ∧ ∃ i H', Inv (X.blk s3 H3 scope ce fp) [] (wipe σ (own.map (·.2))) H' s' ∧ tn i s'.heap ∧ (∀ b ∈ fp, H' b = none) ∧ W i m H' := fun {s' H'} J' nx => by
        obtain ⟨m', hm, w'⟩ := hNx H' nx
        have pin : ∀ b ∈ fp, ∀ o, s7.heap.get? b = some o → s'.heap.get? b = some o ∧ H' b = none := fun b hb o e => by
          have z := J'.pin (b, o) (List.mem_append_right _ (List.mem_append_right _ (mem_pinsAt hb e)))
          exact ⟨z.1, z.2.1⟩
        refine ⟨m', hm, i + 1, H', (J'.unpinned (pins := [])).weak ?_ (fun j v e => ?_), T.keep _ _ _ t7 fun b hb o e => (pin b hb o e).1, fun b hb => ?_, w'⟩
        · rw [← hw8]
          exact wipe_length _ _
        · rw [← hw8] at e
          exact (wipe_some e).1
        · obtain ⟨o, e, _⟩ := T.obj _ _ t7 b hb
          exact (pin b hb o e).2
      cases b with
      | false =>
        simp only [Bool.false_eq_true, if_false] at q9 ⊢
        exact fin I9 q9
      | true =>
        simp only [if_true] at q9 ⊢
        refine thnF (pk.run _ s9 σ8 H9 _ I9 q9) fun z s10 h10 => thnF h10 fun z2 s11 h11 => thnF h11 fun _ s12 ⟨H12, I12, nx⟩ => fin I12 nx
  exact codeAny_compStart_dict loop (T.self X.A 0 _ _ _ t4 loop)
theorem pe_dx {kx vx tg iter : Expr} {ifs : List Expr} {scope : Scope} {own : List (Str × Nat)} {pos : Pos} {emp : Addr → HO} {wi : TI} {g : TG} {tt : TT} {t : Addr → L2.St → Hp → (Hp → Prop) → Prop}
    (hemp : ∀ (H : Hp) (h : Heap), sysModules < h.objs.size → ObjOk X.prog X.w H (h.push { cls := .type "dict", data := .dict #[] }) h.objs.size (emp h.objs.size))
    (hc : X.calm = true) (hN : X.N.Nodup) (hi : PI X tg iter wi) (ok : BlkOk X.N X.env.scope scope own)
    (hg : ∀ (s : Shared) (H : Hp) (C : Addr) (cl : List (Str × Addr)) (fp : List Addr), PG (X.blk s H scope (compEnvC scope cl C X.env) fp) tg g) (ht : ∀ (s : Shared) (H : Hp) (C : Addr) (cl : List (Str × Addr)) (fp : List Addr), PTs (X.blk s H scope (compEnvC scope cl C X.env) fp) ifs tt)
    (hkv : ∀ (D : Addr) (s : Shared) (H : Hp) (C : Addr) (cl : List (Str × Addr)) (fp : List Addr), PKV (X.blk s H scope (compEnvC scope cl C X.env) fp) kx vx D (t D)) (hs : ∀ x, foldedSetIterable iter X.env x = pure x := by intro _; rfl) :
    PE X (.DictComp kx vx [⟨tg, iter, ifs, 0⟩] scope pos) (tDX emp wi g tt t (own.map (·.2))) := by
  refine ⟨fun pins s σ H Q I h => ?_⟩
  rw [arm_eval_DictComp]
  refine dx_core hemp hc hN I hi ok hg ht hkv hs h fun D C s' m H' J q hn f => ⟨m, hn, fun h2 sb => ?_⟩
  obtain ⟨f0, f1, f2, f3, f4, f5⟩ := f
  exact ⟨.ref D, H', J.turned (t' := s'.toks) (fun b o hb e => (sb.2 b hb).trans e) f0 f1 f3 f4 f5, rfl, q⟩
end
end
section
section
variable {K : Fg} {B F H : Hp} {as : List Addr} {ω : List Cell}
theorem Wd.lessF {p : Addr} {o : HO} (w : Wd K B (upd F p o) H as ω) (hF : F p = none) : Wd K B F H as ω ∧ p ∉ as ∧ H p = some o ∧ B p = none := by
  have up : ∀ {a : Addr} {x : HO}, F a = some x → upd F p o a = some x := fun {a x} e => by
    rw [upd_ne (fun z => by rw [z, hF] at e; cases e)]
    exact e
  have hp := w.f p o upd_same
  refine ⟨⟨w.b, fun a x e => w.f a x (up e), w.len, w.nd, fun k a c e1 e2 => ?_⟩, fun hm => ?_, hp.1, hp.2⟩
  · obtain ⟨q1, q2, q3⟩ := w.at' k a c e1 e2
    refine ⟨?_, q2, q3⟩
    cases h : F a with
    | none => rfl
    | some x =>
      rw [up h] at q1
      cases q1
  · obtain ⟨k, hk, e⟩ := List.mem_iff_getElem.mp hm
    have hk2 : k < ω.length := by rw [← w.len]; exact hk
    have q := (w.at' k p ω[k] (by rw [List.getElem?_eq_getElem hk, e]) (List.getElem?_eq_getElem hk2)).1
    rw [upd_same] at q
    cases q
theorem Wd.toOth {p : Addr} {f : Addr → HO} (w : Wd K B (upd F p (f p)) H as ω) (hF : F p = none) : Wd K B F H (as ++ [p]) (ω ++ [.oth f]) := by
  obtain ⟨w1, hn, hH, hB⟩ := w.lessF hF
  exact w1.addOwn hF hn (by rw [hH]; simp) ⟨hB, hH⟩
end
def okD : Option Key → D
  | none => .none
  | some k => keyD k
theorem dp_okD {K : Fg} {B : Hp} {v : V} {k : Option Key} (h : Dp K B v (okD k)) : v = kN k := by
  cases k with
  | none => exact dp_non_inv h
  | some k => exact dp_key h
def putsN (ps : List (Option Key × Int)) : List (Option Key × V) := ps.foldl (fun acc q => putK acc q.1 (.int q.2)) []
theorem putsN_snoc (ps : List (Option Key × Int)) (q : Option Key × Int) : putsN (ps ++ [q]) = putK (putsN ps) q.1 (.int q.2) := by
  unfold putsN
  rw [List.foldl_append]
  rfl
theorem putsN_len : ∀ ps : List (Option Key × Int), (putsN ps).length ≤ ps.length := fun ps => by
  have gen : ∀ (ps : List (Option Key × Int)) (a : List (Option Key × V)), (ps.foldl (fun acc q => putK acc q.1 (.int q.2)) a).length ≤ a.length + ps.length := by
    intro ps
    induction ps with
    | nil => exact fun a => Nat.le_refl _
    | cons q r ih =>
      intro a
      have h1 := ih (putK a q.1 (.int q.2))
      have h2 := length_putK a q.1 (V.int q.2)
      rw [List.foldl_cons, List.length_cons]
      omega
  have := gen ps []
  rwa [List.length_nil, Nat.zero_add] at this
def wKV (Y : Cx) (kx vx : Expr) (D : Addr) : L2.St → Hp → (Hp → Prop) → Prop := fun σ H Q => ∃ t, PKV Y kx vx D t ∧ t σ H Q
theorem pkv_w {Y : Cx} {kx vx : Expr} {D : Addr} : PKV Y kx vx D (wKV Y kx vx D) := ⟨fun pins s σ H Q I ⟨_, p, q⟩ => p.run pins s σ H Q I q⟩
section
variable {X : Cx} {tg iter kx vx : Expr} {δ : List Sl} {ω : List Cell} {P : Sl → List Cell → Prop} {pos : Pos} {scope : Scope} {own : List (Str × Nat)}
def DnTurn (X : Cx) (scope : Scope) (vs : List Nat) (tg kx vx : Expr) (δ : List Sl) (ω : List Cell) (its : List D) (ps : List (Option Key × Int)) : Prop :=
  ∀ (i : Nat) (d : D) (q : Option Key × Int), its[i]? = some d → ps[i]? = some q → Blk X scope fun Y => DG Y vs tg d (wipeD δ vs) fun δ2 => Blk X scope fun Y => DE Y kx δ2 ω fun r ω2 => r = .val (okD q.1) ∧ DE Y vx δ2 ω2 fun r2 ω3 => r2 = .val (.int q.2) ∧ ω3 = ω
theorem dn_read {vs : List Nat} (h : DI X tg iter δ ω fun its ω1 => its.length ≤ 100000 ∧ ∃ ps, ps.length = its.length ∧ DnTurn X scope vs tg kx vx δ ω1 its ps ∧ P (.own ω1.length) (ω1 ++ [.oth fun a => ND X.prog X.w a (putsN ps)]))
    {B F H : Hp} {as : List Addr} {σ : L2.St} (w : Wd X.K B F H as ω) (ev : EnvOk X.K B as σ δ) (Q : VK) (o : Out X.K B F as P Q) :
    tDX (fun a => ND X.prog X.w a []) (wI X tg iter) (fun v σ H Q => Blk X scope fun Y => wG Y tg v σ H Q) (fun σ H Q => Blk X scope fun Y => wTs Y [] σ H Q) (fun D σ H Q => Blk X scope fun Y => wKV Y kx vx D σ H Q) vs σ H Q := by
  refine h B F H as σ w ev _ fun J its B1 H1 as1 ω1 e1 p1 w1 hit ⟨hlen, ps, hps, ht, hP⟩ => ?_
  intro Dl hD
  have hF : F Dl = none := w1.freeF hD
  refine ⟨fun i m H' => m = its.length - i ∧ i ≤ its.length ∧ ∃ B' as', Same B1 B' ∧ as1 <+: as' ∧ Wd X.K B' (upd F Dl (ND X.prog X.w Dl (putsN (ps.take i)))) H' as' ω1,
    ⟨its.length, by omega, Nat.zero_le _, B1, as1, Same.refl _, List.prefix_refl _, w1.hide hD⟩, fun i m H' hW => ?_⟩
  obtain ⟨rfl, hi, B', as', e2, p2, w2⟩ := hW
  by_cases hlt : i < its.length
  · obtain ⟨hgo, hy⟩ := (hit B' _ H' as' ω1 e2 w2).1 i its[i] (List.getElem?_eq_getElem hlt)
    have hlp : i < ps.length := by omega
    have hq : ps[i]? = some ps[i] := List.getElem?_eq_getElem hlp
    refine .inr ⟨hgo, fun H3 => ∃ B' as', Same B1 B' ∧ as1 <+: as' ∧ Wd X.K B' (upd F Dl (ND X.prog X.w Dl (putsN (ps.take (i + 1))))) H3 as' ω1, fun H3 q => ⟨its.length - (i + 1), by omega, rfl, hlt, q⟩, fun x H3 q => ?_⟩
    obtain ⟨B2, e3, w3, d3⟩ := hy x H3 q
    have ev3 : EnvOk X.K B2 as' (wipe σ vs) (wipeD δ vs) := envOk_wipe (envOk_up ((e1.trans e2).trans e3) (p1.trans p2) ev) vs
    intro s H0 C cl fp
    refine ht i its[i] ps[i] (List.getElem?_eq_getElem hlt) hq s H0 C cl fp B2 H3 as' (wipe σ vs) x w3.b ev3 d3 _ fun σ4 δ4 ev4 hl4 ha4 hb => ?_
    have hwipe : wipe σ4 vs = wipe σ vs := by
      refine wipe_eq (by rw [hl4, wipe_length]) fun j hj => ?_
      rw [ha4 j hj, wipe_get hj]
    refine ⟨hwipe, ?_⟩
    intro s H0 C cl fp
    have hts : DTs (X.blk s H0 scope (compEnvC scope cl C X.env) fp) [] δ4 ω1 (fun b ω' => b = true ∧ ω' = ω1) := ⟨rfl, rfl⟩
    refine dts_run hts w3 ev4 _ fun bb B5 H5 as5 ω5 e5 p5 w5 ⟨hb1, hω⟩ => ?_
    subst hb1 hω
    refine iteT ?_
    intro s H0 C cl fp
    refine ⟨_, pkv_nd pe_w pe_w, ?_⟩
    refine hb s H0 C cl fp B5 _ H5 as5 σ4 w5 (envOk_up e5 p5 ev4) _ fun y B6 H6 as6 r ω6 e6 p6 w6 s6 ⟨er, hv⟩ => ?_
    subst er
    refine hv B6 _ H6 as6 σ4 w6 (envOk_up (e5.trans e6) (p5.trans p6) ev4) _ fun z B7 H7 as7 r2 ω7 e7 p7 w7 s7 ⟨er2, eω⟩ => ?_
    subst er2 eω
    have hput : putsN (ps.take (i + 1)) = putK (putsN (ps.take i)) ps[i].1 z := by
      rw [List.take_add_one, hq]
      show putsN (ps.take i ++ [ps[i]]) = _
      rw [putsN_snoc, dp_int_inv (sl_val s7)]
    refine ⟨putsN (ps.take i), ps[i].1, dp_okD (sl_val s6), (w7.f Dl _ upd_same).1, ?_, B7, as7, (((e2.trans e3).trans e5).trans e6).trans e7, ((p2.trans p5).trans p6).trans p7, ?_⟩
    · have h1 := putsN_len (ps.take i)
      have h2 := List.length_take_le i ps
      rw [sizeLine_eq]
      omega
    · rw [hput]
      exact w7.rehide
  · have ei : i = its.length := by omega
    subst ei
    refine .inl ⟨(hit B' _ H' as' ω1 e2 w2).2, ?_⟩
    rw [← hps, List.take_length] at w2
    refine o _ B' H' _ _ _ (e1.trans e2) ((p1.trans p2).trans (List.prefix_append _ _)) (w2.toOth (f := fun a => ND X.prog X.w a (putsN ps)) hF) (slo ?_) hP
    rw [← w2.len, List.getElem?_append_right (Nat.le_refl _), Nat.sub_self]
    rfl
theorem de_dcN (hc : X.calm = true) (hN : X.N.Nodup) (ok : BlkOk X.N X.env.scope scope own)
    (h : DI X tg iter δ ω fun its ω1 => its.length ≤ 100000 ∧ ∃ ps, ps.length = its.length ∧ DnTurn X scope (own.map (·.2)) tg kx vx δ ω1 its ps ∧ P (.own ω1.length) (ω1 ++ [.oth fun a => ND X.prog X.w a (putsN ps)]))
    (hs : ∀ x, foldedSetIterable iter X.env x = pure x := by intro _; rfl) : DE X (.DictComp kx vx [⟨tg, iter, [], 0⟩] scope pos) δ ω P := fun B F H as σ w ev Q o =>
  ⟨_, pe_dx (fun H h hb => nd_empty h hb) hc hN pi_w ok (fun s H0 C cl fp => ⟨fun pins s1 σ1 H1 v u Q1 I r hw => by obtain ⟨_, p, q⟩ := hw s H0 C cl fp; exact p.run pins s1 σ1 H1 v u Q1 I r q⟩)
    (fun s H0 C cl fp => ⟨fun pins s1 σ1 H1 Q1 I hw => by obtain ⟨_, p, q⟩ := hw s H0 C cl fp; exact p.run pins s1 σ1 H1 Q1 I q⟩)
    (fun D s H0 C cl fp => ⟨fun pins s1 σ1 H1 Q1 I hw => by obtain ⟨_, p, q⟩ := hw s H0 C cl fp; exact p.run pins s1 σ1 H1 Q1 I q⟩) hs, dn_read h w ev Q o⟩
end
/-- d[y], None among the keys; y not None -/
theorem pe_ndget {X : Cx} {o i : Expr} {pos : Pos} {to ti : TE} (ho : PE X o to) (hi : PE X i ti) (hs : NoSl i) : PE X (.Subscript o i pos) (fun σ H Q => to σ H fun x H1 => ti σ H1 fun y H2 => ∃ a kvs k v, x = .ref a ∧ H2 a = some (ND X.prog X.w a kvs) ∧ y = kN k ∧ valV kvs k = some v ∧ Q v H2) := by
  refine ⟨fun pins s σ H Q I h => ?_⟩
  refine subD_of PySem.F.slot_dict_getitem.lookup hs (thn (ho.run pins s σ H _ I h) fun u s1 ⟨x, H1, I1, rx, q1⟩ => thn (hi.run pins s1 σ H1 _ I1 q1) fun iv s2 ⟨y, H2, I2, ry, a, kvs, k, v, ex, hk, ey, hv, q2⟩ => ?_)
  subst ex ey
  obtain rfl : u = Value.ref a := rx
  obtain ⟨z, hd, vs, rel, dd⟩ := nd_rd I2.hok hk
  obtain ⟨w', hw, rw'⟩ := RelO.some_of (v := v) (o := valueAt vs k) (by rw [← hv]; exact rel.val k)
  exact ⟨dd.typeIs, wpAny_getItem_of (kN_is ry) dd.mapOf hw ⟨v, H2, I2.tok _, rw', q2⟩⟩
theorem de_ndget {X : Cx} {o i : Expr} {pos : Pos} {δ : List Sl} {ω : List Cell} {P : Sl → List Cell → Prop} (hs : NoSl i) (h : DE X o δ ω fun r1 ω1 => DE X i δ ω1 fun r2 ω2 => ∃ kx kvs key n, r1 = .own kx ∧ ω2[kx]? = some (.oth fun a => ND X.prog X.w a kvs) ∧ r2 = .val (okD key) ∧ valV kvs key = some (.int n) ∧ P (.val (.int n)) ω2) : DE X (.Subscript o i pos) δ ω P := fun B F H as σ w ev Q oo => by
  refine ⟨_, pe_ndget pe_w pe_w hs, ?_⟩
  refine h B F H as σ w ev _ fun v B1 H1 as1 r ω1 e1 p1 w1 s1 q1 => ?_
  refine q1 B1 F H1 as1 σ w1 (envOk_up e1 p1 ev) _ fun u B2 H2 as2 r2 ω2 e2 p2 w2 s2 ⟨kx, kvs, key, n, er, hk, er2, hd, hp⟩ => ?_
  subst er er2
  obtain ⟨a, rfl, ha⟩ := sl_own (slOk_up e2 p2 s1)
  obtain ⟨hb, hh⟩ := (w2.at' kx a _ ha hk).2.2
  exact ⟨a, kvs, key, .int n, rfl, hh, dp_okD (sl_val s2), hd, oo _ B2 H2 as2 _ ω2 (e1.trans e2) (p1.trans p2) w2 (slv (.int n)) hp⟩
end
section
/-! ### list comprehensions with more clauses -/
section
variable {prog : Program} {w : World} {A : Around}
/-- a clause's loop, what is done behind the store being any body -/
theorem cl_loop {R : Result → Shared → Prop} {s : Shared} {elt tg : Expr} {gs : List Comprehension} {scope : Scope} {pos : Pos} {m : Nat} {it acc : Value} {env : Env} {p : Pos} {body : Sem Unit}
    (hq : (Code.compLoop (.ListComp elt gs scope pos) m it acc env).quiet = true)
    (hturn : compTurn (.ListComp elt gs scope pos) m it acc env = (do
      standAt p
      match ← pyNext it with
      | none => pure (.done .next)
      | some v =>
        letOwnedTupleGo tg it v
        assign tg env v
        body
        again (.compLoop (.ListComp elt gs scope pos) m it acc env)))
    (I : Nat → Shared → Prop)
    (turn : ∀ n s, I n s → wpAny (model prog w) A (pyNext it) (fun r s1 => match r with
      | none => R (.ok .next) s1
      | some v => wpAny (model prog w) A (letOwnedTupleGo tg it v) (fun _ s2 => wpAny (model prog w) A (assign tg env v) (fun _ s3 => wpAny (model prog w) A body (fun _ s4 => ∃ k, k < n ∧ I k s4) (fun _ _ => False) s3) (fun _ _ => False) s2) (fun _ _ => False) s1) (fun _ _ => False) s)
    (n : Nat) (h : I n s) : codeAny (model prog w) A (.compLoop (.ListComp elt gs scope pos) m it acc env) R s := by
  refine codeAny_loop hq I (fun n s hI => ?_) n h
  show wpAny _ A ((compTurn (.ListComp elt gs scope pos) m it acc env).onRaise (fun x => do noteFrame x env; theTreesLotGoes x)) _ _ s
  refine wpAny_noted ?_
  rw [hturn]
  refine wpAny_bind (wpAny_standAt (wpAny_bind (thnF (turn n s hI) fun r s1 h1 => ?_)))
  cases r with
  | none => exact wpAny_pure h1
  | some v => exact wpAny_bind (thnF h1 fun _ s2 h2 => wpAny_bind (thnF h2 fun _ s3 h3 => wpAny_bind (thnF h3 fun _ s4 h4 => wpAny_pure ⟨rfl, h4⟩)))
end
/-- what a body does: V, the slots that it may leave otherwise -/
structure Bod (Y : Cx) (V : List Nat) (body : Sem Unit) (t : L2.St → Hp → (Hp → Prop) → Prop) : Prop where
  run : ∀ (pins : List (Addr × Obj)) (s : Shared) (σ : L2.St) (H : Hp) (Q : Hp → Prop), Inv Y pins σ H s → t σ H Q → wpAny (model Y.prog Y.w) Y.A body (fun _ s' => ∃ H', Inv Y pins (wipe σ V) H' s' ∧ Q H') (fun _ _ => False) s
/-- the last clause: the element goes to the list at D -/
theorem bod_app {Y : Cx} {elt : Expr} {te : TE} {D : Addr} (hx : ∀ e s, Y.xe e s → False) (he : PE Y elt te) :
    Bod Y [] (do let _ ← call (.builtin "list.append") [.ref D, ← eval elt Y.env]) (fun σ H Q => te σ H fun y H1 => ∃ acc, H1 D = some (.lst acc) ∧ acc.length < sizeLine ∧ Q (upd H1 D (.lst (acc ++ [y])))) := ⟨fun pins s σ H Q I h => by
  refine wpAny_bind (wpAny_mono (he.run pins s σ H _ I h) (fun u s1 h1 => ?_) hx)
  obtain ⟨y, H1, I1, r1, acc, hD, hz, q⟩ := h1
  exact wpAny_bind (app_ok (X := Y) I1 hD hz r1 fun s2 I2 => wpAny_pure ⟨_, I2, q⟩)⟩
def tCl (wi : TI) (g : TG) (t : L2.St → Hp → (Hp → Prop) → Prop) (V : List Nat) : L2.St → Hp → (Hp → Prop) → Prop := fun σ H Nx => wi σ H fun J H1 => ∃ W : Nat → Nat → Hp → Prop, (∃ m, W 0 m H1) ∧ ∀ j k H, W j k H →
  (J.stop j H ∧ Nx H) ∨ (J.go j H ∧ ∃ N1 : Hp → Prop, (∀ H', N1 H' → ∃ k', k' < k ∧ W (j + 1) k' H') ∧ ∀ x H', J.yld j H x H' → g x (wipe σ V) H' fun σ3 H5 => wipe σ3 V = wipe σ V ∧ t σ3 H5 N1)
/-- a clause within: its source, its loop -/
theorem bod_cl {Y : Cx} {elt tg iter : Expr} {gs : List Comprehension} {scope : Scope} {pos : Pos} {m : Nat} {acc : Value} {p : Pos} {body : Sem Unit} {V V1 : List Nat} {wi : TI} {g : TG} {t : L2.St → Hp → (Hp → Prop) → Prop} (hc : Y.calm = true) (hx : ∀ e s, Y.xe e s → False)
    (hq : ∀ it, (Code.compLoop (.ListComp elt gs scope pos) m it acc Y.env).quiet = true)
    (hturn : ∀ it, compTurn (.ListComp elt gs scope pos) m it acc Y.env = (do
      standAt p
      match ← pyNext it with
      | none => pure (.done .next)
      | some v =>
        letOwnedTupleGo tg it v
        assign tg Y.env v
        body
        again (.compLoop (.ListComp elt gs scope pos) m it acc Y.env)))
    (hst : ∀ (A : Around) (R : Result → Shared → Prop) (s : Shared) (it : Value), codeAny (model Y.prog Y.w) A (.compLoop (.ListComp elt gs scope pos) m it acc Y.env) R s → (∀ (Q : Value → Shared → Prop) (E : Value → Shared → Prop), Q it s → wpAny (model Y.prog Y.w) A (pyIter it) Q E s) → codeAny (model Y.prog Y.w) A (.compStart (.ListComp elt gs scope pos) m it acc Y.env) R s)
    (hi : PI Y tg iter wi) (hg : PG Y tg g) (hs : ∀ x, foldedSetIterable iter Y.env x = pure x) (hb : Bod Y V1 body t) (hV : ∀ i ∈ V1, i ∈ V) :
    Bod Y V (do
      let x ← eval iter Y.env
      standAt iter.pos
      let x ← foldedSetIterable iter Y.env x
      let _ ← runOwn (.compStart (.ListComp elt gs scope pos) m (← holding [x] (pyIter x)) acc Y.env) Y.env) (tCl wi g t V) := ⟨fun pins s σ H Q I h => by
  refine wpAny_bind (wpAny_mono (hi.run pins s σ H _ I h) (fun xv s1 h1 => ?_) hx)
  refine wpAny_bind (wpAny_standAt (wpAny_bind (wpAny_of_eq (hs xv) (wpAny_bind (wpAny_holding (wpAny_mono h1 (fun itv s2 h2 => ?_) hx))))))
  obtain ⟨it, fp, tn, J, H2, e, I2, T, t2, f2, W, ⟨m0, w0⟩, turn⟩ := h2
  subst e
  refine wpAny_bind (wpAny_runOwn ?_)
  rw [Around.mark_none]
  have stat : ∀ {H' : Hp}, (∀ b ∈ fp, H' b = none) → ∀ b ∈ fp, FpOk Y pins H' b := fun hn b hb => ⟨hn b hb, (f2 b hb).2⟩
  have loop : codeAny (model Y.prog Y.w) Y.A (.compLoop (.ListComp elt gs scope pos) m (.ref it) acc Y.env) (fun r s' => match r with
      | .ok _ => ∃ H', Inv Y pins (wipe σ V) H' s' ∧ Q H'
      | .error _ => False) s2 := by
    refine cl_loop (hq _) (hturn _) (fun k s' => ∃ j H', Inv Y pins (wipe σ V) H' s' ∧ tn j s'.heap ∧ (∀ b ∈ fp, H' b = none) ∧ W j k H') ?_ m0 ⟨0, H2, I2.weak (wipe_length _ _) (fun j v e => (wipe_some e).1), t2, fun b hb => (f2 b hb).1, w0⟩
    rintro k s3 ⟨j, H3, I3, t3, n3, w3⟩
    rcases turn j k H3 w3 with ⟨stop, nx⟩ | ⟨go, N1, hN1, step⟩
    · refine thnF (T.done Y rfl rfl rfl hc j _ s3 (wipe σ V) H3 (fun _ _ => False) I3 (stat n3) t3 stop) fun r s4 ⟨hr, I4⟩ => ?_
      subst hr
      exact ⟨H3, I4, nx⟩
    · refine thnF (T.item Y rfl rfl rfl hc j _ s3 (wipe σ V) H3 (fun _ _ => False) I3 (stat n3) t3 go) fun r s4 ⟨u, hr, h4⟩ => ?_
      subst hr
      refine thnF h4 fun _ s5 ⟨x, H5, I5, r5, y5, t5, n5⟩ => ?_
      refine wpAny_mono (hg.run _ s5 (wipe σ V) H5 x u _ (I5.pinned (stat n5) (T.obj _ _ t5)) r5 (step x H5 y5)) (fun _ s6 h6 => ?_) hx
      obtain ⟨σ6, H6, I6, hw6, q6⟩ := h6
      refine thnF (hb.run _ s6 σ6 H6 _ I6 q6) fun _ s7 ⟨H7, I7, q7⟩ => ?_
      obtain ⟨k', hk, w'⟩ := hN1 H7 q7
      have pin : ∀ b ∈ fp, ∀ o, s5.heap.get? b = some o → s7.heap.get? b = some o ∧ H7 b = none := fun b hb o e => by
        have z := I7.pin (b, o) (List.mem_append_right _ (List.mem_append_right _ (mem_pinsAt hb e)))
        exact ⟨z.1, z.2.1⟩
      refine ⟨k', hk, j + 1, H7, I7.unpinned.weak ?_ (fun i v e => ?_), T.keep _ _ _ t5 fun b hb o e => (pin b hb o e).1, fun b hb => ?_, w'⟩
      · rw [← hw6, wipe_length, wipe_length]
      · rw [← hw6] at e
        obtain ⟨e1, e2⟩ := wipe_some e
        rw [wipe_out fun z => e2 (hV i z)]
        exact e1
      · obtain ⟨o, e, _⟩ := T.obj _ _ t5 b hb
        exact (pin b hb o e).2
  refine codeAny_mono (hst Y.A _ s2 (.ref it) loop fun Q' E' q' => T.self Y.A 0 s2 Q' E' t2 q') fun r s' hr => ?_
  cases r with
  | ok f =>
    first
      | exact wpAny_pure hr
      | exact wpAny_bind (wpAny_pure (wpAny_pure hr))
  | error e => exact hr.elim⟩
end
section
section
variable {X : Cx}
def tLX (wi : TI) (g : TG) (t : Addr → L2.St → Hp → (Hp → Prop) → Prop) (vs : List Nat) : TE := fun σ H Q => wi σ H fun J H1 => ∀ D, H1 D = none → ∃ W : Nat → Nat → Hp → Prop, (∃ m, W 0 m (upd H1 D (.lst []))) ∧ ∀ i m H, W i m H →
  (J.stop i H ∧ Q (.ref D) H) ∨ (J.go i H ∧ ∃ Nx : Hp → Prop, (∀ H', Nx H' → ∃ m', m' < m ∧ W (i + 1) m' H') ∧ ∀ x H', J.yld i H x H' → g x (wipe σ vs) H' fun σ2 H2 => wipe σ2 vs = wipe σ vs ∧ t D σ2 H2 Nx)
abbrev TurnIs (elt tg : Expr) (gs : List Comprehension) (scope : Scope) (pos p : Pos) (m : Nat) (acc : Value) (env : Env) (body : Sem Unit) : Prop :=
  ∀ it : Value, compTurn (.ListComp elt gs scope pos) m it acc env = (do
      standAt p
      match ← pyNext it with
      | none => pure (.done .next)
      | some v =>
        letOwnedTupleGo tg it v
        assign tg env v
        body
        again (.compLoop (.ListComp elt gs scope pos) m it acc env))
theorem lx_core {pins : List (Addr × Obj)} {s0 : Shared} {σ : L2.St} {H : Hp} {Q : VK} {elt tg iter : Expr} {rest : List Comprehension} {scope : Scope} {own : List (Str × Nat)} {pos po p0 : Pos} {V : List Nat} {wi : TI} {g : TG} {t : Addr → L2.St → Hp → (Hp → Prop) → Prop} {body : Addr → Env → Sem Unit} {use : Option (Value → Sem Unit)} {Qf : Value → Shared → Prop}
    (hturn : ∀ D env, TurnIs elt tg (⟨tg, iter, [], 0⟩ :: rest) scope pos p0 0 (.ref D) env (body D env))
    (hc : X.calm = true) (hN : X.N.Nodup) (I : Inv X pins σ H s0) (hi : PI X tg iter wi) (ok : BlkOk X.N X.env.scope scope own)
    (hg : ∀ (s : Shared) (H : Hp) (C : Addr) (cl : List (Str × Addr)) (fp : List Addr), PG (X.blk s H scope (compEnvC scope cl C X.env) fp) tg g)
    (hb : ∀ (D : Addr) (s : Shared) (H : Hp) (C : Addr) (cl : List (Str × Addr)) (fp : List Addr), Bod (X.blk s H scope (compEnvC scope cl C X.env) fp) V (body D (compEnvC scope cl C X.env)) (t D)) (hV : ∀ i ∈ V, i ∈ own.map (·.2)) (hs : ∀ x, foldedSetIterable iter X.env x = pure x)
    (h : tLX wi g t (own.map (·.2)) σ H Q)
    (done : ∀ D C s' m H', Inv X pins σ H' s' → Q (.ref D) H' → s'.heap.Ns C m → FpOk X pins H' C → compPost (model X.prog X.w) X.A X.xe use Qf (.ref D) C (.ok .next) s') :
    wpAny (model X.prog X.w) X.A (comprehension (.ListComp elt (⟨tg, iter, [], 0⟩ :: rest) scope pos) scope X.env po (newList []) false (eval iter X.env) use) Qf X.xe s0 := by
  have free : ∀ y ∈ scope.names, y.2 = .free → ∃ c, X.env.cells.lookup y.1 = some c := fun y hy e => (ok.free y hy e).elim (fun k => I.ok.has _ (.inl k)) fun k => I.ok.has _ (.inr k)
  refine wpAny_comprehension_free (use := use) rfl hs (closure_ok free) ok.kind (fun y hy e => by rw [ok.uniq y hy, e]) (thn (hi.run pins s0 σ H _ I h) fun xv s1 hx => thn hx fun itv s2 h2 => ?_)
  obtain ⟨it, fp, tn, J, H2, eit, I2, T, t2, f2, q⟩ := h2
  subst eit
  refine wpAny_newObj_type (newEnv_comp ?_) (by show 0 ≤ sizeLine; decide)
  generalize hD : s2.heap.objs.size = D
  have nD2 : H2 D = none := I2.hok.fresh (Nat.le_of_eq hD)
  obtain ⟨W, ⟨m0, w0⟩, turn⟩ := q D nD2
  generalize hs3 : ({ s2 with heap := s2.heap.push { cls := .type "list", data := .seq ([] : List Value).toArray } } : Shared) = s3
  have h3 : s3.heap = s2.heap.push { cls := .type "list", data := .seq ([] : List Value).toArray } := by rw [← hs3]
  have I3 : Inv X pins σ (upd H2 D (.lst [])) s3 := by
    subst hs3 hD
    exact I2.laid (t' := s2.toks) (fun b o e => Heap.get?_push_of_some _ e) (Nat.le_refl _) ⟨Nat.zero_le _, [], 0, .nil, Heap.get?_push_size _ rfl⟩
  have f3 : ∀ b ∈ fp, FpOk X pins (upd H2 D (.lst [])) b ∧ b < s3.heap.objs.size := fun b hb => by
    obtain ⟨o, e, _⟩ := T.obj _ _ t2 b hb
    have hl : b < s2.heap.objs.size := Heap.lt_size e
    have hne : b ≠ D := by
      rw [← hD]
      exact Nat.ne_of_lt hl
    refine ⟨⟨by rw [upd_ne hne]; exact (f2 b hb).1, (f2 b hb).2⟩, ?_⟩
    rw [h3, Heap.size_push]
    exact Nat.lt_succ_of_lt hl
  have t3 : tn 0 s3.heap := T.keep _ _ _ t2 fun b _ o e => by
    rw [h3]
    exact Heap.get?_push_of_some _ e
  have I4 := block_start I3 ok hN f3
  generalize hcl : cellsFrom (s3.heap.objs.size + 1) scope.names (cloFrom X.env.cells scope.names []) = cl at I4
  have pg := hg s3 (upd H2 D (.lst [])) s3.heap.objs.size cl fp
  have pb := hb D s3 (upd H2 D (.lst [])) s3.heap.objs.size cl fp
  show codeAny _ _ (.compStart (.ListComp elt (⟨tg, iter, [], 0⟩ :: rest) scope pos) 0 (.ref it) (.ref D) (compEnvC scope cl s3.heap.objs.size X.env)) (compPost (model X.prog X.w) X.A X.xe use Qf (.ref D) s3.heap.objs.size) { s3 with heap := pushCells (s3.heap.push { cls := .type "dict", data := .dict #[] }) scope.names }
  have n3 : ∀ b ∈ fp, (upd H2 D (.lst [])) b = none := fun b hb => (f3 b hb).1.1
  generalize hce : compEnvC scope cl s3.heap.objs.size X.env = ce at I4 pg pb ⊢
  have cL : ce.locals = s3.heap.objs.size := by
    subst hce
    rfl
  generalize hH3 : upd H2 D (.lst []) = H3 at I3 I4 pg pb w0 n3 f3
  generalize hs4 : ({ s3 with heap := pushCells (s3.heap.push { cls := .type "dict", data := .dict #[] }) scope.names } : Shared) = s4 at I4 ⊢
  have t4 : tn 0 s4.heap := T.keep _ _ _ t3 fun b _ o e => by
    rw [← hs4]
    exact pushCells_keeps _ _ _ _ (Heap.get?_push_of_some _ e)
  have stat : ∀ {σ' : L2.St} {H' : Hp} {s' : Shared}, Inv (X.blk s3 H3 scope ce fp) [] σ' H' s' → (∀ b ∈ fp, H' b = none) → ∀ b ∈ fp, FpOk (X.blk s3 H3 scope ce fp) [] H' b := fun {σ' H' s'} J' hn b hb =>
    ⟨hn b hb, (J'.ok.exf b hb).1, J'.ok.exfs b hb, .inl hb, (J'.ok.exf b hb).2, fun p hp => by
      have hp' : p ∈ ([] : List (Addr × Obj)) ++ [] := hp
      simp at hp'⟩
  have loop : codeAny (model X.prog X.w) X.A (.compLoop (.ListComp elt (⟨tg, iter, [], 0⟩ :: rest) scope pos) 0 (.ref it) (.ref D) ce) (compPost (model X.prog X.w) X.A X.xe use Qf (.ref D) s3.heap.objs.size) s4 := by
    refine cl_loop rfl (hturn D ce _) (fun n s' => ∃ i H', Inv (X.blk s3 H3 scope ce fp) [] (wipe σ (own.map (·.2))) H' s' ∧ tn i s'.heap ∧ (∀ b ∈ fp, H' b = none) ∧ W i n H') ?_ m0 ⟨0, H3, I4, t4, n3, w0⟩
    rintro n s5 ⟨i, H5, I5, t5, n5, w5⟩
    rcases turn i n H5 w5 with ⟨stop, qq⟩ | ⟨go, Nx, hNx, step⟩
    · refine thnF (T.done (X.blk s3 H3 scope ce fp) rfl rfl rfl hc i [] s5 _ H5 (fun _ _ => False) I5 (stat I5 n5) t5 stop) fun r s6 ⟨hr, I6⟩ => ?_
      subst hr
      have I7 : Inv X pins σ H5 s6 := I3.call' (ch := fp) I6.os I6.base I6.hok I6.bare fun b hb => by
        obtain ⟨⟨_, a1, a2, a3, a4, a5⟩, _⟩ := f3 b hb
        exact ⟨a3, a1, a4, a5⟩
      have nC : H5 s3.heap.objs.size = none := by
        rw [← cL]
        exact I6.free
      obtain ⟨m, hn, _⟩ := I6.loc
      refine done D s3.heap.objs.size s6 m H5 I7 qq ?_ (I3.fpOk (Nat.le_refl _) nC)
      rw [← cL]
      exact hn
    · refine thnF (T.item (X.blk s3 H3 scope ce fp) rfl rfl rfl hc i [] s5 _ H5 (fun _ _ => False) I5 (stat I5 n5) t5 go) fun r s6 ⟨u, hr, h6⟩ => ?_
      subst hr
      refine thnF h6 fun _ s7 ⟨x, H7, I7, r7, y7, t7, n7⟩ => ?_
      refine thnF (pg.run _ s7 _ H7 x u _ (I7.pinned (stat I7 n7) (T.obj _ _ t7)) r7 (step x H7 y7)) fun _ s8 ⟨σ8, H8, I8, hw8, q8⟩ => ?_
      refine thnF (pb.run _ s8 σ8 H8 _ I8 q8) fun _ s9 ⟨H9, I9, nx⟩ => ?_
      obtain ⟨m', hm, w'⟩ := hNx H9 nx
      have pin : ∀ b ∈ fp, ∀ o, s7.heap.get? b = some o → s9.heap.get? b = some o ∧ H9 b = none := fun b hb o e => by
        have z := I9.pin (b, o) (List.mem_append_right _ (List.mem_append_right _ (mem_pinsAt hb e)))
        exact ⟨z.1, z.2.1⟩
      refine ⟨m', hm, i + 1, H9, (I9.unpinned (pins := [])).weak ?_ (fun j v e => ?_), T.keep _ _ _ t7 fun b hb o e => (pin b hb o e).1, fun b hb => ?_, w'⟩
      · rw [← hw8, wipe_length, wipe_length]
      · rw [← hw8] at e
        obtain ⟨e1, e2⟩ := wipe_some e
        rw [wipe_out fun z => e2 (hV j z)]
        exact e1
      · obtain ⟨o, e, _⟩ := T.obj _ _ t7 b hb
        exact (pin b hb o e).2
  exact codeAny_compStart_list loop (T.self X.A 0 _ _ _ t4 loop)
theorem pe_lx {elt tg iter : Expr} {rest : List Comprehension} {scope : Scope} {own : List (Str × Nat)} {pos p0 : Pos} {V : List Nat} {wi : TI} {g : TG} {t : Addr → L2.St → Hp → (Hp → Prop) → Prop} {body : Addr → Env → Sem Unit}
    (hturn : ∀ D env, TurnIs elt tg (⟨tg, iter, [], 0⟩ :: rest) scope pos p0 0 (.ref D) env (body D env))
    (hc : X.calm = true) (hN : X.N.Nodup) (hi : PI X tg iter wi) (ok : BlkOk X.N X.env.scope scope own)
    (hg : ∀ (s : Shared) (H : Hp) (C : Addr) (cl : List (Str × Addr)) (fp : List Addr), PG (X.blk s H scope (compEnvC scope cl C X.env) fp) tg g)
    (hb : ∀ (D : Addr) (s : Shared) (H : Hp) (C : Addr) (cl : List (Str × Addr)) (fp : List Addr), Bod (X.blk s H scope (compEnvC scope cl C X.env) fp) V (body D (compEnvC scope cl C X.env)) (t D)) (hV : ∀ i ∈ V, i ∈ own.map (·.2)) (hs : ∀ x, foldedSetIterable iter X.env x = pure x) :
    PE X (.ListComp elt (⟨tg, iter, [], 0⟩ :: rest) scope pos) (tLX wi g t (own.map (·.2))) := by
  refine ⟨fun pins s σ H Q I h => ?_⟩
  rw [eval_ListComp]
  refine lx_core hturn hc hN I hi ok hg hb hV hs h fun D C s' m H' J q hn f => ⟨m, hn, fun h2 sb => ?_⟩
  obtain ⟨f0, f1, f2, f3, f4, f5⟩ := f
  exact ⟨.ref D, H', J.turned (t' := s'.toks) (fun b o hb e => (sb.2 b hb).trans e) f0 f1 f3 f4 f5, rfl, q⟩
theorem ps_setLx {i : Nat} {y : Str} {py : Pos} {elt tg iter : Expr} {rest : List Comprehension} {scope : Scope} {own : List (Str × Nat)} {pos spos p0 : Pos} {V : List Nat} {wi : TI} {g : TG} {t : Addr → L2.St → Hp → (Hp → Prop) → Prop} {body : Addr → Env → Sem Unit}
    (hturn : ∀ D env, TurnIs elt tg (⟨tg, iter, [], 0⟩ :: rest) scope pos p0 0 (.ref D) env (body D env))
    (hc : X.calm = true) (hN : X.N.Nodup) (hy : X.N[i]? = some y) (hyl : X.env.scope.names.lookup y = some .local) (hsw : swapsWith (.ListComp elt (⟨tg, iter, [], 0⟩ :: rest) scope pos) (some (.Name y py)) spos.line X.env = pure true) (hi : PI X tg iter wi) (ok : BlkOk X.N X.env.scope scope own)
    (hg : ∀ (s : Shared) (H : Hp) (C : Addr) (cl : List (Str × Addr)) (fp : List Addr), PG (X.blk s H scope (compEnvC scope cl C X.env) fp) tg g)
    (hb : ∀ (D : Addr) (s : Shared) (H : Hp) (C : Addr) (cl : List (Str × Addr)) (fp : List Addr), Bod (X.blk s H scope (compEnvC scope cl C X.env) fp) V (body D (compEnvC scope cl C X.env)) (t D)) (hV : ∀ i ∈ V, i ∈ own.map (·.2)) (hs : ∀ x, foldedSetIterable iter X.env x = pure x) :
    PS X (.Assign [.Name y py] (.ListComp elt (⟨tg, iter, [], 0⟩ :: rest) scope pos) spos) (tAsg (tLX wi g t (own.map (·.2))) (gName i)) := by
  refine ⟨fun pins s σ H D I h => ?_⟩
  rw [exec_Assign_Name_used _ _ _ _ hsw]
  refine wpAny_bind (wpAny_standAt (wpAny_bind ?_))
  show wpAny _ X.A (do let _ ← comprehension (.ListComp elt (⟨tg, iter, [], 0⟩ :: rest) scope pos) scope X.env (firstIterPos (⟨tg, iter, [], 0⟩ :: rest) pos) (newList []) false (eval iter X.env) (some (assign (.Name y py) X.env))) _ _ s
  have h : tLX wi g t (own.map (·.2)) σ H (fun x H1 => gName i x σ H1 D.nx) := h
  refine wpAny_bind (thn (lx_core (Qf := fun _ s' => SP X pins D .next s') hturn hc hN I hi ok hg hb hV hs h fun L C s' m H' J q hn f => ?_) fun _ s' hq => wpAny_pure (wpAny_pure hq))
  show wpAny _ _ (assign (.Name y py) X.env (.ref L)) _ _ _
  refine wpAny_assign_Name (store_ok2 (v := L2.V.ref L) J hN hy (.inl hyl) rfl (fun s2 I2 ⟨a, sb, ha⟩ => ?_) (.inr hyl))
  obtain ⟨f0, f1, f2, f3, f4, f5⟩ := f
  have haC : C ≠ a := by
    rcases ha with z | z
    · rw [z]
      exact f1
    · exact fun e => f4 y a z e.symm
  exact ⟨m, hn.sameBut sb haC, fun h3 sb3 => ⟨_, H', I2.turned (t' := s2.toks) (fun b o hb e => (sb3.2 b hb).trans e) f0 f1 f3 f4 f5, q⟩⟩
end
end
section
/-! ### a range held by a name -/
def rgO (lo hi : Int) : Addr → HO := fun _ => .rng lo hi
theorem cr_rangeV {X0 : Cx} : CallR X0 (.type "range") (fun vs H Q => ∃ j, vs = [L2.V.int j] ∧ ∀ p, H p = none → Q (.ref p) (upd H p (.rng 0 j))) := by
  intro pins s σ H vs us Q I r h
  obtain ⟨j, rfl, q⟩ := h
  cases r with
  | cons r1 rr =>
    cases rr
    obtain ⟨t, rfl⟩ := r1
    exact call_range_1 ⟨.ref s.heap.objs.size, upd H s.heap.objs.size (.rng 0 j), I.laid (t' := s.toks + 1 + 1) (fun b o e => Heap.get?_push_of_some _ e) (Nat.le_refl _) ⟨s.toks, t, s.toks + 1, Heap.get?_push_size _ rfl⟩, rfl, q _ (I.hok.fresh (Nat.le_refl _))⟩
theorem pi_rngV {X : Cx} {tg e : Expr} {te : TE} (he : PE X e te) : PI X tg e (fun σ H R => te σ H fun x H1 => ∃ a lo hi, x = .ref a ∧ H1 a = some (.rng lo hi) ∧ -(2 ^ 62) ≤ lo ∧ lo < 2 ^ 62 ∧ -(2 ^ 62) ≤ hi ∧ hi < 2 ^ 62 ∧ R (Itr lo (hi - lo).toNat) H1) := by
  refine ⟨fun pins s σ H R I h => ?_⟩
  refine thn (he.run pins s σ H _ I h) fun v s1 ⟨x, H1, I1, r1, a, lo, hi, ex, hr, b1, b2, b3, b4, q⟩ => ?_
  subst ex
  cases r1
  obtain ⟨t, u, k, ho⟩ := I1.hok a _ hr
  refine wpAny_pyIter_range ho (small_one b1 b2 b3 b4) ?_
  refine ⟨s1.heap.objs.size, [s1.heap.objs.size], _, _, H1, rfl, I1.kept (t' := s1.toks) fun b o e => Heap.get?_push_of_some _ e, turn_range _ lo (hi - lo).toNat, ?_, fun b hb => ?_, q⟩
  · have z := Heap.get?_push_size s1.heap (o := { cls := .type "range_iterator", data := .fields #[rawInt lo, rawInt (Builtin.Range.rangeSize lo hi 1), rawInt 1] }) rfl
    have e1 : lo + ((0 : Nat) : Int) * 1 = lo := by omega
    have e2 : (((hi - lo).toNat : Nat) : Int) - ((0 : Nat) : Int) = Builtin.Range.rangeSize lo hi 1 := by
      rw [rangeSize_one]
      split <;> omega
    rw [e1, e2]
    exact z
  · have e : b = s1.heap.objs.size := by simpa using hb
    subst e
    exact I1.fpOk (Nat.le_refl _) (I1.hok.fresh (Nat.le_refl _))
section
variable {X : Cx} {tg e : Expr} {δ : List Sl} {ω : List Cell}
theorem di_rngV {P : List D → List Cell → Prop} (h : DE X e δ ω fun r ω1 => ∃ kx lo hi, r = .own kx ∧ ω1[kx]? = some (.oth (rgO lo hi)) ∧ -(2 ^ 62) ≤ lo ∧ lo < 2 ^ 62 ∧ -(2 ^ 62) ≤ hi ∧ hi < 2 ^ 62 ∧ P (rgD lo hi) ω1) : DI X tg e δ ω P := fun B F H as σ w ev R o => by
  refine ⟨_, pi_rngV pe_w, ?_⟩
  refine h B F H as σ w ev _ fun v B1 H1 as1 r ω1 e1 p1 w1 s1 ⟨kx, lo, hi, er, hk, b1, b2, b3, b4, hp⟩ => ?_
  subst er
  obtain ⟨a, rfl, ha⟩ := sl_own s1
  obtain ⟨hb, hh⟩ := (w1.at' kx a _ ha hk).2.2
  exact ⟨a, lo, hi, rfl, hh, b1, b2, b3, b4, o _ _ B1 H1 as1 ω1 e1 p1 w1 (it_rng lo hi) hp⟩
theorem ra_rngV {P : Sl → List Cell → Prop} {n : Int} (hp : P (.own ω.length) (ω ++ [.oth (rgO 0 n)])) : RA X (fun vs H Q => ∃ j, vs = [L2.V.int j] ∧ ∀ p, H p = none → Q (.ref p) (upd H p (.rng 0 j))) [.val (.int n)] ω P := fun B F H as vs w s Q o => by
  obtain ⟨v, rfl, s1⟩ := rs1 s
  obtain rfl := dp_int_inv (sl_val s1)
  refine ⟨n, rfl, fun p hn => ?_⟩
  have w1 : Wd X.K B F (upd H p (rgO 0 n p)) (as ++ [p]) (ω ++ [.oth (rgO 0 n)]) := w.own hn fun hb => ⟨hb, upd_same⟩
  refine o (.ref p) B _ _ _ _ (Same.refl _) (List.prefix_append _ _) w1 (slo ?_) hp
  rw [← w.len, List.getElem?_append_right (Nat.le_refl _), Nat.sub_self]
  rfl
end
/-! ### clauses -/
def nxt (elt iter : Expr) (gs : List Comprehension) (scope : Scope) (pos : Pos) (m : Nat) (acc : Value) (env : Env) : Sem Unit := do
      let x ← eval iter env
      standAt iter.pos
      let x ← foldedSetIterable iter env x
      let _ ← runOwn (.compStart (.ListComp elt gs scope pos) m (← holding [x] (pyIter x)) acc env) env
def emi (elt : Expr) (acc : Value) (env : Env) : Sem Unit := do let _ ← call (.builtin "list.append") [acc, ← eval elt env]
section
variable (elt t0 i0 t1 i1 t2 i2 : Expr) (scope : Scope) (pos : Pos) (acc : Value) (env : Env)
theorem turn30 : TurnIs elt t0 [⟨t0, i0, [], 0⟩, ⟨t1, i1, [], 0⟩, ⟨t2, i2, [], 0⟩] scope pos i0.pos 0 acc env (nxt elt i1 [⟨t0, i0, [], 0⟩, ⟨t1, i1, [], 0⟩, ⟨t2, i2, [], 0⟩] scope pos 1 acc env) := fun it => by
  unfold nxt
  simp only [LawfulMonad.bind_assoc]
  rfl
theorem turn31 : TurnIs elt t1 [⟨t0, i0, [], 0⟩, ⟨t1, i1, [], 0⟩, ⟨t2, i2, [], 0⟩] scope pos i1.pos 1 acc env (nxt elt i2 [⟨t0, i0, [], 0⟩, ⟨t1, i1, [], 0⟩, ⟨t2, i2, [], 0⟩] scope pos 2 acc env) := fun it => by
  unfold nxt
  simp only [LawfulMonad.bind_assoc]
  rfl
theorem turn32 : TurnIs elt t2 [⟨t0, i0, [], 0⟩, ⟨t1, i1, [], 0⟩, ⟨t2, i2, [], 0⟩] scope pos i2.pos 2 acc env (emi elt acc env) := fun it => rfl
theorem turn20 : TurnIs elt t0 [⟨t0, i0, [], 0⟩, ⟨t1, i1, [], 0⟩] scope pos i0.pos 0 acc env (nxt elt i1 [⟨t0, i0, [], 0⟩, ⟨t1, i1, [], 0⟩] scope pos 1 acc env) := fun it => by
  unfold nxt
  simp only [LawfulMonad.bind_assoc]
  rfl
theorem turn21 : TurnIs elt t1 [⟨t0, i0, [], 0⟩, ⟨t1, i1, [], 0⟩] scope pos i1.pos 1 acc env (emi elt acc env) := fun it => rfl
end
theorem cs_start {prog : Program} {w : World} {A : Around} {R : Result → Shared → Prop} {s : Shared} {elt : Expr} {gs : List Comprehension} {scope : Scope} {pos : Pos} {m : Nat} {it acc : Value} {env : Env}
    (hg : ((clausesOf (.ListComp elt gs scope pos))[m]?).elim false (·.is_async != 0) = false)
    (h0 : codeAny (model prog w) A (.compLoop (.ListComp elt gs scope pos) m it acc env) R s) (h : ∀ (Q : Value → Shared → Prop) (E : Value → Shared → Prop), Q it s → wpAny (model prog w) A (pyIter it) Q E s) :
    codeAny (model prog w) A (.compStart (.ListComp elt gs scope pos) m it acc env) R s := by
  refine codeAny_of_tree ?_
  show wpAny _ _ ((compStart (.ListComp elt gs scope pos) m it acc env).onRaise (fun x => do noteFrame x env; standAt theWindowsPlace)) _ _ s
  refine wpAny_notedAt ?_
  unfold compStart
  rw [hg]
  show wpAny _ _ (ask >>= _) _ _ s
  refine wpAny_bind (wpAny_askSetting (wpAny_ite ?_))
  split
  · first
      | exact wpAny_bind (wpAny_pure (wpAny_pure (And.intro rfl h0)))
      | exact wpAny_pure (And.intro rfl h0)
  · refine wpAny_bind (wpAny_rule ?_)
    cases hc : (clausesOf (.ListComp elt gs scope pos))[m]? with
    | none =>
      first
        | exact wpAny_bind (h _ _ (wpAny_pure (And.intro rfl h0)))
        | exact wpAny_bind (wpAny_pure (wpAny_bind (h _ _ (wpAny_pure (And.intro rfl h0)))))
    | some c => exact wpAny_bind (wpAny_standAt (wpAny_bind (h _ _ (wpAny_pure (And.intro rfl h0)))))
end
section
def wB (Y : Cx) (V : List Nat) (body : Sem Unit) : L2.St → Hp → (Hp → Prop) → Prop := fun σ H Q => ∃ t, Bod Y V body t ∧ t σ H Q
theorem bod_w {Y : Cx} {V : List Nat} {body : Sem Unit} : Bod Y V body (wB Y V body) := ⟨fun pins s σ H Q I ⟨_, p, q⟩ => p.run pins s σ H Q I q⟩
/-- the body puts the data out behind what the list at Dl has, and leaves all else -/
def DB (Y : Cx) (V : List Nat) (body : Sem Unit) (Dl : Addr) (δ : List Sl) (ω : List Cell) (out : List PyData) : Prop :=
  ∀ B F H as σ accV acc, Wd Y.K B (upd F Dl (.lst accV)) H as ω → EnvOk Y.K B as σ δ → DpAll Y.K B accV acc → acc.length + out.length ≤ 100000 → ∀ Q : Hp → Prop,
    (∀ B' H' accV', Same B B' → Wd Y.K B' (upd F Dl (.lst accV')) H' as ω → DpAll Y.K B' accV' (acc ++ out) → Q H') → wB Y V body σ H Q
theorem same_as {K : Fg} {B B1 F F1 H H1 : Hp} {as as1 : List Addr} {ω : List Cell} (w : Wd K B F H as ω) (w1 : Wd K B1 F1 H1 as1 ω) (p : as <+: as1) : as1 = as := (p.eq_of_length (by rw [w.len, w1.len])).symm
theorem db_app {Y : Cx} {elt : Expr} {Dl : Addr} {δ : List Sl} {ω : List Cell} {d : PyData} (hx : ∀ e s, Y.xe e s → False) (h : DE Y elt δ ω fun r ω' => r = .val d ∧ ω' = ω) : DB Y [] (emi elt (.ref Dl) Y.env) Dl δ ω [d] := fun B F H as σ accV acc w ev ha hl Q o => by
  refine ⟨_, bod_app hx pe_w, h B _ H as σ w ev _ fun v B1 H1 as1 r ω1 e1 p1 w1 s1 ⟨er, eω⟩ => ?_⟩
  subst er eω
  obtain rfl := same_as w w1 p1
  refine ⟨accV, (w1.f Dl _ upd_same).1, ?_, o B1 _ (accV ++ [v]) e1 w1.rehide (dpAll_app (dpAll_up e1 ha) (.cons (sl_val s1) .nil))⟩
  rw [dpAll_len ha, sizeLine_eq]
  rw [List.length_singleton] at hl
  omega
theorem flat_take {α : Type} {outs : List (List α)} {j : Nat} {x : List α} (h : outs[j]? = some x) : (outs.take (j + 1)).flatten = (outs.take j).flatten ++ x ∧ (outs.take j).flatten.length + x.length ≤ outs.flatten.length := by
  have e : (outs.take (j + 1)).flatten = (outs.take j).flatten ++ x := by
    rw [List.take_add_one, h, List.flatten_append]
    show _ ++ [x].flatten = _
    rw [List.flatten_singleton]
  refine ⟨e, ?_⟩
  have h2 := congrArg (fun l => (List.flatten l).length) (List.take_append_drop (j + 1) outs)
  rw [List.flatten_append, List.length_append, e, List.length_append] at h2
  omega
theorem wipe_as {σ σ4 : L2.St} {V : List Nat} (hl4 : σ4.length = (wipe σ V).length) (ha4 : ∀ i, i ∉ V → σ4[i]? = (wipe σ V)[i]?) : wipe σ4 V = wipe σ V := by
  refine wipe_eq (by rw [hl4, wipe_length]) fun j hj => ?_
  rw [ha4 j hj, wipe_get hj]
theorem db_cl {Y : Cx} {elt tg iter : Expr} {gs : List Comprehension} {scope : Scope} {pos p : Pos} {m : Nat} {Dl : Addr} {body : Sem Unit} {V V1 : List Nat} {δ : List Sl} {ω : List Cell} {out : List PyData} (hc : Y.calm = true) (hx : ∀ e s, Y.xe e s → False)
    (hturn : TurnIs elt tg gs scope pos p m (.ref Dl) Y.env body) (hg : ((clausesOf (.ListComp elt gs scope pos))[m]?).elim false (·.is_async != 0) = false) (hs : ∀ x, foldedSetIterable iter Y.env x = pure x) (hV : ∀ i ∈ V1, i ∈ V)
    (h : DI Y tg iter δ ω fun its ω' => ω' = ω ∧ ∃ outs : List (List PyData), outs.length = its.length ∧ outs.flatten = out ∧ ∀ (i : Nat) (d : PyData) (o : List PyData), its[i]? = some d → outs[i]? = some o → DG Y V tg d (wipeD δ V) fun δ2 => DB Y V1 body Dl δ2 ω o) :
    DB Y V (nxt elt iter gs scope pos m (.ref Dl) Y.env) Dl δ ω out := fun B F H as σ accV acc w ev ha hl Q o => by
  refine ⟨_, bod_cl (wi := wI Y tg iter) (g := wG Y tg) (t := wB Y V1 body) hc hx (fun _ => rfl) hturn (fun A R s it h0 h1 => cs_start hg h0 h1) pi_w pg_w hs bod_w hV, ?_⟩
  refine h B _ H as σ w ev _ fun J its B1 H1 as1 ω1 e1 p1 w1 hit ⟨eω, outs, hl1, hfl, ht⟩ => ?_
  subst eω hfl
  obtain rfl := same_as w w1 p1
  refine ⟨fun j k H' => k = its.length - j ∧ j ≤ its.length ∧ ∃ B' accV', Same B1 B' ∧ Wd Y.K B' (upd F Dl (.lst accV')) H' as1 ω1 ∧ DpAll Y.K B' accV' (acc ++ (outs.take j).flatten), ⟨its.length, by omega, Nat.zero_le _, B1, accV, Same.refl _, w1, ?_⟩, fun j k H' hW => ?_⟩
  · rw [List.take_zero, List.flatten_nil, List.append_nil]
    exact dpAll_up e1 ha
  obtain ⟨rfl, hj, B', accV', e2, w2, ha2⟩ := hW
  by_cases hlt : j < its.length
  · obtain ⟨hgo, hy⟩ := (hit B' _ H' as1 ω1 e2 w2).1 j its[j] (List.getElem?_eq_getElem hlt)
    have ho : outs[j]? = some outs[j] := List.getElem?_eq_getElem (by omega)
    obtain ⟨ft, fl⟩ := flat_take ho
    refine .inr ⟨hgo, fun H3 => ∃ B' accV', Same B1 B' ∧ Wd Y.K B' (upd F Dl (.lst accV')) H3 as1 ω1 ∧ DpAll Y.K B' accV' (acc ++ (outs.take (j + 1)).flatten), fun H3 q => ⟨its.length - (j + 1), by omega, rfl, hlt, q⟩, fun x H3 q => ?_⟩
    obtain ⟨B2, e3, w3, d3⟩ := hy x H3 q
    have ev3 : EnvOk Y.K B2 as1 (wipe σ V) (wipeD δ V) := envOk_wipe (envOk_up ((e1.trans e2).trans e3) (List.prefix_refl _) ev) V
    refine ht j its[j] outs[j] (List.getElem?_eq_getElem hlt) ho B2 H3 as1 (wipe σ V) x w3.b ev3 d3 _ fun σ4 δ4 ev4 hl4 ha4 hb => ?_
    refine ⟨wipe_as hl4 ha4, hb B2 F H3 as1 σ4 accV' (acc ++ (outs.take j).flatten) w3 ev4 (dpAll_up e3 ha2) ?_ _ fun B5 H5 accV5 e5 w5 ha5 => ⟨B5, accV5, (e2.trans e3).trans e5, w5, ?_⟩⟩
    · rw [List.length_append]
      omega
    · rw [ft, ← List.append_assoc]
      exact ha5
  · have ei : j = its.length := by omega
    subst ei
    refine .inl ⟨(hit B' _ H' as1 ω1 e2 w2).2, o B' H' accV' (e1.trans e2) w2 ?_⟩
    rw [← hl1, List.take_length] at ha2
    exact ha2
section
variable {X : Cx} {elt tg iter : Expr} {rest : List Comprehension} {scope : Scope} {own : List (Str × Nat)} {pos p0 : Pos} {V : List Nat} {δ : List Sl} {ω : List Cell} {P : Sl → List Cell → Prop} {body : Addr → Env → Sem Unit}
def LxTurn (X : Cx) (scope : Scope) (vs V : List Nat) (tg : Expr) (body : Addr → Env → Sem Unit) (δ : List Sl) (ω : List Cell) (its : List PyData) (outs : List (List PyData)) : Prop :=
  ∀ (i : Nat) (d : PyData) (o : List PyData), its[i]? = some d → outs[i]? = some o → ∀ Dl : Addr, Blk X scope fun Y => DG Y vs tg d (wipeD δ vs) fun δ2 => Blk X scope fun Y => DB Y V (body Dl Y.env) Dl δ2 ω o
theorem lx_read {vs : List Nat} (h : DI X tg iter δ ω fun its ω1 => ∃ outs : List (List PyData), outs.length = its.length ∧ outs.flatten.length ≤ 100000 ∧ LxTurn X scope vs V tg body δ ω1 its outs ∧ (P (.val (.list outs.flatten)) ω1 ∨ P (.own ω1.length) (ω1 ++ [.lst outs.flatten])))
    {B F H : Hp} {as : List Addr} {σ : L2.St} (w : Wd X.K B F H as ω) (ev : EnvOk X.K B as σ δ) (Q : VK) (o : Out X.K B F as P Q) :
    tLX (wI X tg iter) (fun v σ H Q => Blk X scope fun Y => wG Y tg v σ H Q) (fun Dl σ H Q => Blk X scope fun Y => wB Y V (body Dl Y.env) σ H Q) vs σ H Q := by
  refine h B F H as σ w ev _ fun J its B1 H1 as1 ω1 e1 p1 w1 hit ⟨outs, hl1, hfl, ht, hP⟩ => ?_
  intro Dl hD
  have hF : F Dl = none := w1.freeF hD
  refine ⟨fun j k H' => k = its.length - j ∧ j ≤ its.length ∧ ∃ B' accV', Same B1 B' ∧ Wd X.K B' (upd F Dl (.lst accV')) H' as1 ω1 ∧ DpAll X.K B' accV' (outs.take j).flatten, ⟨its.length, by omega, Nat.zero_le _, B1, [], Same.refl _, w1.hide hD, .nil⟩, fun j k H' hW => ?_⟩
  obtain ⟨rfl, hj, B', accV', e2, w2, ha2⟩ := hW
  by_cases hlt : j < its.length
  · obtain ⟨hgo, hy⟩ := (hit B' _ H' as1 ω1 e2 w2).1 j its[j] (List.getElem?_eq_getElem hlt)
    have ho : outs[j]? = some outs[j] := List.getElem?_eq_getElem (by omega)
    obtain ⟨ft, fl⟩ := flat_take ho
    refine .inr ⟨hgo, fun H3 => ∃ B' accV', Same B1 B' ∧ Wd X.K B' (upd F Dl (.lst accV')) H3 as1 ω1 ∧ DpAll X.K B' accV' (outs.take (j + 1)).flatten, fun H3 q => ⟨its.length - (j + 1), by omega, rfl, hlt, q⟩, fun x H3 q => ?_⟩
    obtain ⟨B2, e3, w3, d3⟩ := hy x H3 q
    have ev3 : EnvOk X.K B2 as1 (wipe σ vs) (wipeD δ vs) := envOk_wipe (envOk_up ((e1.trans e2).trans e3) p1 ev) vs
    intro s H0 C cl fp
    refine ht j its[j] outs[j] (List.getElem?_eq_getElem hlt) ho Dl s H0 C cl fp B2 H3 as1 (wipe σ vs) x w3.b ev3 d3 _ fun σ4 δ4 ev4 hl4 ha4 hb => ?_
    refine ⟨wipe_as hl4 ha4, ?_⟩
    intro s H0 C cl fp
    refine hb s H0 C cl fp B2 F H3 as1 σ4 accV' (outs.take j).flatten w3 ev4 (dpAll_up e3 ha2) (by omega) _ fun B5 H5 accV5 e5 w5 ha5 => ⟨B5, accV5, (e2.trans e3).trans e5, w5, ?_⟩
    rw [ft]
    exact ha5
  · have ei : j = its.length := by omega
    subst ei
    refine .inl ⟨(hit B' _ H' as1 ω1 e2 w2).2, ?_⟩
    rw [← hl1, List.take_length] at ha2
    rcases hP with hP | hP
    · obtain ⟨w3, s3⟩ := w2.show hF
      exact o _ _ H' as1 _ ω1 ((e1.trans e2).trans s3) p1 w3 (slv (.lst (.inl (.inl upd_same)) (dpAll_up s3 ha2))) hP
    · refine o _ B' H' _ _ _ (e1.trans e2) (p1.trans (List.prefix_append _ _)) (w2.toOwn hF ha2) (slo ?_) hP
      rw [← w2.len, List.getElem?_append_right (Nat.le_refl _), Nat.sub_self]
      rfl
theorem de_lx (hturn : ∀ D env, TurnIs elt tg (⟨tg, iter, [], 0⟩ :: rest) scope pos p0 0 (.ref D) env (body D env)) (hc : X.calm = true) (hN : X.N.Nodup) (ok : BlkOk X.N X.env.scope scope own) (hV : ∀ i ∈ V, i ∈ own.map (·.2))
    (h : DI X tg iter δ ω fun its ω1 => ∃ outs : List (List PyData), outs.length = its.length ∧ outs.flatten.length ≤ 100000 ∧ LxTurn X scope (own.map (·.2)) V tg body δ ω1 its outs ∧ (P (.val (.list outs.flatten)) ω1 ∨ P (.own ω1.length) (ω1 ++ [.lst outs.flatten])))
    (hs : ∀ x, foldedSetIterable iter X.env x = pure x := by intro _; rfl) : DE X (.ListComp elt (⟨tg, iter, [], 0⟩ :: rest) scope pos) δ ω P := fun B F H as σ w ev Q o =>
  ⟨_, pe_lx (V := V) (t := fun Dl σ H Q => Blk X scope fun Y => wB Y V (body Dl Y.env) σ H Q) hturn hc hN pi_w ok (fun s H0 C cl fp => ⟨fun pins s1 σ1 H1 v u Q1 I r hw => by obtain ⟨_, p, q⟩ := hw s H0 C cl fp; exact p.run pins s1 σ1 H1 v u Q1 I r q⟩)
    (fun D s H0 C cl fp => ⟨fun pins s1 σ1 H1 Q1 I hw => by obtain ⟨_, p, q⟩ := hw s H0 C cl fp; exact p.run pins s1 σ1 H1 Q1 I q⟩) hV hs, lx_read h w ev Q o⟩
theorem d1_asgLx {k : Kd} {i : Nat} {y : Str} {py spos : Pos} (hturn : ∀ D env, TurnIs elt tg (⟨tg, iter, [], 0⟩ :: rest) scope pos p0 0 (.ref D) env (body D env)) (hc : X.calm = true) (hN : X.N.Nodup) (hy : X.N[i]? = some y) (hyl : X.env.scope.names.lookup y = some .local)
    (hsw : swapsWith (.ListComp elt (⟨tg, iter, [], 0⟩ :: rest) scope pos) (some (.Name y py)) spos.line X.env = pure true) (ok : BlkOk X.N X.env.scope scope own) (hV : ∀ i ∈ V, i ∈ own.map (·.2))
    (h : DI X tg iter δ ω fun its ω1 => ∃ outs : List (List PyData), outs.length = its.length ∧ outs.flatten.length ≤ 100000 ∧ LxTurn X scope (own.map (·.2)) V tg body δ ω1 its outs ∧ (k.nx (δ.set i (.val (.list outs.flatten))) ω1 ∨ k.nx (δ.set i (.own ω1.length)) (ω1 ++ [.lst outs.flatten])))
    (hs : ∀ x, foldedSetIterable iter X.env x = pure x := by intro _; rfl) : D1 X (.Assign [.Name y py] (.ListComp elt (⟨tg, iter, [], 0⟩ :: rest) scope pos) spos) δ ω k := fun B F H as σ w ev E o =>
  ⟨_, ps_setLx (V := V) (t := fun Dl σ H Q => Blk X scope fun Y => wB Y V (body Dl Y.env) σ H Q) hturn hc hN hy hyl hsw pi_w ok (fun s H0 C cl fp => ⟨fun pins s1 σ1 H1 v u Q1 I r hw => by obtain ⟨_, p, q⟩ := hw s H0 C cl fp; exact p.run pins s1 σ1 H1 v u Q1 I r q⟩)
    (fun D s H0 C cl fp => ⟨fun pins s1 σ1 H1 Q1 I hw => by obtain ⟨_, p, q⟩ := hw s H0 C cl fp; exact p.run pins s1 σ1 H1 Q1 I q⟩) hV hs,
    lx_read (P := fun r ω1 => k.nx (δ.set i r) ω1) h w ev _ fun v B1 H1 as1 r ω1 e1 p1 w1 s1 hp => (o.nx.up e1 p1).here w1 (envOk_set s1 i (envOk_up e1 p1 ev)) hp⟩
end
end
section
section
variable {X : Cx} {e : Expr} {δ : List Sl} {ω : List Cell} {P : Sl → List Cell → Prop}
/-- an owned list takes all of a new one, which is forgotten -/
theorem de_extendC {xs : Expr} {apos cpos : Pos} (h : DE X xs δ ω fun r ω1 => ω1 = ω ∧ ∃ kx ds, r = .own kx ∧ ω[kx]? = some (.lst ds) ∧ DE X e δ ω fun s ω2 => ∃ zs, s = .own ω.length ∧ ω2 = ω ++ [.lst zs] ∧ ds.length + zs.length ≤ 1000000 ∧ P (.val .none) (ω.set kx (.lst (ds ++ zs))))
    (hbase : attributeBase xs "extend" X.env (eval xs X.env) = eval xs X.env := by rfl)
    (hfew : ((backTo cpos (starEach (e :: []) X.env)).all (fun x => !x.1) && (backToKw cpos (keywordEach [] X.env)).all (fun x => x.1.isSome) && decide ((e :: ([] : List Expr)).length + ([] : List Keyword).length + (if ([] : List Keyword).isEmpty then 0 else 1) < 30)) = true := by rfl)
    (hline : (apos.endLine == cpos.line) = true := by rfl) (hs : starEach (e :: []) X.env = (false, eval e X.env) :: starEach [] X.env := by rfl) (hplain : (backTo cpos (starEach [] X.env)).any (·.1) = false := by rfl) :
    DE X (.Call (.Attribute xs "extend" apos) [e] [] cpos) δ ω P := fun B F H as σ w ev Q o => by
  refine ⟨_, pe_bm PySem.F.plainAttrs_list PySem.F.slot_list_extend PySem.F.type_list_extend mt_extend pe_w (pa_cons pe_w pa_nil hs) hbase hfew hline hs hplain, ?_⟩
  refine h B F H as σ w ev _ fun v B1 H1 as1 r ω1 e1 p1 w1 s1 ⟨eω, kx, ds, er, hk, q1⟩ => ?_
  subst er eω
  obtain ⟨a, xs', rfl, ha, h1, h2⟩ := slo_lst w1 s1 hk
  refine ⟨.inl ⟨rfl, xs', SqL.of h1⟩, ?_⟩
  refine q1 B1 F H1 as1 σ w1 (envOk_up e1 p1 ev) _ fun u B2 H2 as2 r2 ω2 e2 p2 w2 s2 ⟨zs, er2, eω2, hz, hp⟩ => ?_
  subst er2 eω2
  obtain ⟨b, rfl, hb2⟩ := sl_own s2
  have hka : as2[kx]? = some a := pre_get p2 ha
  have hkω : (ω1 ++ [Cell.lst zs])[kx]? = some (.lst ds) := by
    rw [List.getElem?_append_left (List.getElem?_eq_some_iff.mp hk).1]
    exact hk
  have hlast : (ω1 ++ [Cell.lst zs])[ω1.length]? = some (.lst zs) := by
    rw [List.getElem?_append_right (Nat.le_refl _), Nat.sub_self]
    rfl
  obtain ⟨ha0, ys, h3, h4⟩ := w2.cellL hka hkω
  obtain ⟨hb0, zv, h5, h6⟩ := w2.cellL hb2 hlast
  refine ⟨a, b, ys, zv, rfl, rfl, h3, h5, ?_, ?_⟩
  · rw [dpAll_len h4, dpAll_len h6]
    exact Nat.le_trans hz (by decide)
  have w3 := w2.write (c' := .lst (ds ++ zs)) (o := .lst (ys ++ zv)) hka hkω ha0 ⟨ha0, _, upd_same, dpAll_app h4 h6⟩
  have hset : (ω1 ++ [Cell.lst zs]).set kx (.lst (ds ++ zs)) = ω1.set kx (.lst (ds ++ zs)) ++ [.lst zs] := List.set_append_left _ _ (List.getElem?_eq_some_iff.mp hk).1
  rw [hset] at w3
  obtain ⟨t, ht⟩ := p2
  have w4 : Wd X.K B2 F (upd H2 a (.lst (ys ++ zv))) as1 (ω1.set kx (.lst (ds ++ zs))) := by
    subst ht
    refine ⟨w3.b, w3.f, by rw [List.length_set]; exact w1.len, (List.nodup_append.mp w3.nd).1, fun k c x q1 q2 => w3.at' k c x ?_ ?_⟩
    · rw [List.getElem?_append_left (List.getElem?_eq_some_iff.mp q1).1]
      exact q1
    · rw [List.getElem?_append_left (List.getElem?_eq_some_iff.mp q2).1]
      exact q2
  exact o _ B2 _ as1 _ _ (e1.trans e2) p1 w4 (slv .non) hp
end
end
def topS (i : Nat) : Stmt := PySem.Challenge.pw_lastofkind_k37_whole_effects_and_logs.main.body.getD i (.Pass ⟨0, 0, 0, 0⟩)
abbrev s_is_number : Stmt := topS 13
abbrev n_is_number : List Str := ["thing", "least", "most"]
theorem sc_is_number : FnScope n_is_number ["thing", "least", "most"] (defScope s_is_number) := ⟨rfl, rfl, rfl, by decide +kernel, rfl, by decide +kernel, by decide +kernel⟩
abbrev s_is_place : Stmt := topS 14
abbrev n_is_place : List Str := ["thing", "many"]
theorem sc_is_place : FnScope n_is_place ["thing", "many"] (defScope s_is_place) := ⟨rfl, rfl, rfl, by decide +kernel, rfl, by decide +kernel, by decide +kernel⟩
abbrev s_are_places : Stmt := topS 15
abbrev n_are_places : List Str := ["thing", "many", "part"]
theorem sc_are_places : FnScope n_are_places ["thing", "many"] (defScope s_are_places) := ⟨rfl, rfl, rfl, by decide +kernel, rfl, by decide +kernel, by decide +kernel⟩
abbrev s_are_operations : Stmt := topS 16
abbrev n_are_operations : List Str := ["thing", "states", "part"]
theorem sc_are_operations : FnScope n_are_operations ["thing", "states"] (defScope s_are_operations) := ⟨rfl, rfl, rfl, by decide +kernel, rfl, by decide +kernel, by decide +kernel⟩
abbrev s_are_kinds : Stmt := topS 17
abbrev n_are_kinds : List Str := ["thing", "many", "part"]
theorem sc_are_kinds : FnScope n_are_kinds ["thing", "many"] (defScope s_are_kinds) := ⟨rfl, rfl, rfl, by decide +kernel, rfl, by decide +kernel, by decide +kernel⟩
abbrev s_is_system : Stmt := topS 18
abbrev n_is_system : List Str := ["thing", "states", "start", "operations", "kinds"]
theorem sc_is_system : FnScope n_is_system ["thing"] (defScope s_is_system) := ⟨rfl, rfl, rfl, by decide +kernel, rfl, by decide +kernel, by decide +kernel⟩
abbrev s_is_log : Stmt := topS 19
abbrev n_is_log : List Str := ["system", "thing"]
theorem sc_is_log : FnScope n_is_log ["system", "thing"] (defScope s_is_log) := ⟨rfl, rfl, rfl, by decide +kernel, rfl, by decide +kernel, by decide +kernel⟩
abbrev s_check_system : Stmt := topS 20
abbrev n_check_system : List Str := ["system"]
theorem sc_check_system : FnScope n_check_system ["system"] (defScope s_check_system) := ⟨rfl, rfl, rfl, by decide +kernel, rfl, by decide +kernel, by decide +kernel⟩
abbrev s_check_log : Stmt := topS 21
abbrev n_check_log : List Str := ["system", "log"]
theorem sc_check_log : FnScope n_check_log ["system", "log"] (defScope s_check_log) := ⟨rfl, rfl, rfl, by decide +kernel, rfl, by decide +kernel, by decide +kernel⟩
abbrev s_end_of : Stmt := topS 22
abbrev n_end_of : List Str := ["system", "state", "log", "operations", "entry"]
theorem sc_end_of : FnScope n_end_of ["system", "state", "log"] (defScope s_end_of) := ⟨rfl, rfl, rfl, by decide +kernel, rfl, by decide +kernel, by decide +kernel⟩
abbrev s_first_paths : Stmt := topS 23
abbrev n_first_paths : List Str := ["system", "paths", "waiting", "state", "entry", "operation"]
theorem sc_first_paths : FnScope n_first_paths ["system"] (defScope s_first_paths) := ⟨rfl, rfl, rfl, by decide +kernel, rfl, by decide +kernel, by decide +kernel⟩
abbrev s_run : Stmt := topS 24
abbrev n_run : List Str := ["system", "state", "log"]
theorem sc_run : FnScope n_run ["system", "state", "log"] (defScope s_run) := ⟨rfl, rfl, rfl, by decide +kernel, rfl, by decide +kernel, by decide +kernel⟩
abbrev s_outcome : Stmt := topS 25
abbrev n_outcome : List Str := ["system", "log"]
theorem sc_outcome : FnScope n_outcome ["system", "log"] (defScope s_outcome) := ⟨rfl, rfl, rfl, by decide +kernel, rfl, by decide +kernel, by decide +kernel⟩
abbrev s_reachable : Stmt := topS 26
abbrev n_reachable : List Str := ["system", "paths", "state"]
theorem sc_reachable : FnScope n_reachable ["system"] (defScope s_reachable) := ⟨rfl, rfl, rfl, by decide +kernel, rfl, by decide +kernel, by decide +kernel⟩
abbrev s_apart : Stmt := topS 27
abbrev n_apart : List Str := ["system", "one", "other", "state"]
theorem sc_apart : FnScope n_apart ["system", "one", "other"] (defScope s_apart) := ⟨rfl, rfl, rfl, by decide +kernel, rfl, by decide +kernel, by decide +kernel⟩
abbrev s_is_reached : Stmt := topS 30
abbrev n_is_reached : List Str := ["thing", "reached"]
theorem sc_is_reached : FnScope n_is_reached ["thing", "reached"] (defScope s_is_reached) := ⟨rfl, rfl, rfl, by decide +kernel, rfl, by decide +kernel, by decide +kernel⟩
abbrev s_are_moves : Stmt := topS 31
abbrev n_are_moves : List Str := ["thing", "reached", "part"]
theorem sc_are_moves : FnScope n_are_moves ["thing", "reached"] (defScope s_are_moves) := ⟨rfl, rfl, rfl, by decide +kernel, rfl, by decide +kernel, by decide +kernel⟩
abbrev s_followed : Stmt := topS 32
abbrev n_followed : List Str := ["reached", "moves", "later", "targets", "state"]
theorem sc_followed : FnScope n_followed ["reached", "moves", "later"] (defScope s_followed) := ⟨rfl, rfl, rfl, by decide +kernel, rfl, by decide +kernel, by decide +kernel⟩
abbrev s_repeated : Stmt := topS 33
abbrev n_repeated : List Str := ["reached", "moves", "many", "done"]
theorem sc_repeated : FnScope n_repeated ["reached", "moves", "many"] (defScope s_repeated) := ⟨rfl, rfl, rfl, by decide +kernel, rfl, by decide +kernel, by decide +kernel⟩
abbrev s_check_effects : Stmt := topS 34
abbrev n_check_effects : List Str := ["thing", "part"]
theorem sc_check_effects : FnScope n_check_effects ["thing"] (defScope s_check_effects) := ⟨rfl, rfl, rfl, by decide +kernel, rfl, by decide +kernel, by decide +kernel⟩
abbrev s_Effect_init : Stmt := inClass (topS 35) 0
abbrev n_Effect_init : List Str := ["self", "system", "moves", "reached"]
theorem sc_Effect_init : FnScope n_Effect_init ["self", "system", "moves"] (defScope s_Effect_init) := ⟨rfl, rfl, rfl, by decide +kernel, rfl, by decide +kernel, by decide +kernel⟩
abbrev s_Effect_of : Stmt := inClass (topS 35) 1
abbrev n_Effect_of : List Str := ["cls", "system", "log", "moves", "state"]
theorem sc_Effect_of : FnScope n_Effect_of ["cls", "system", "log"] (defScope s_Effect_of) := ⟨rfl, rfl, rfl, by decide +kernel, rfl, by decide +kernel, by decide +kernel⟩
abbrev s_Effect_joined : Stmt := inClass (topS 35) 2
abbrev n_Effect_joined : List Str := ["effects", "system", "reached", "moves", "effect"]
theorem sc_Effect_joined : FnScope n_Effect_joined ["effects"] (defScope s_Effect_joined) := ⟨rfl, rfl, rfl, by decide +kernel, rfl, by decide +kernel, by decide +kernel⟩
abbrev s_Effect_system : Stmt := inClass (topS 35) 3
abbrev n_Effect_system : List Str := ["self"]
theorem sc_Effect_system : FnScope n_Effect_system ["self"] (defScope s_Effect_system) := ⟨rfl, rfl, rfl, by decide +kernel, rfl, by decide +kernel, by decide +kernel⟩
abbrev s_Effect_moves : Stmt := inClass (topS 35) 4
abbrev n_Effect_moves : List Str := ["self"]
theorem sc_Effect_moves : FnScope n_Effect_moves ["self"] (defScope s_Effect_moves) := ⟨rfl, rfl, rfl, by decide +kernel, rfl, by decide +kernel, by decide +kernel⟩
abbrev s_Effect_fixed : Stmt := inClass (topS 35) 5
abbrev n_Effect_fixed : List Str := ["self", "state", "target"]
theorem sc_Effect_fixed : FnScope n_Effect_fixed ["self"] (defScope s_Effect_fixed) := ⟨rfl, rfl, rfl, by decide +kernel, rfl, by decide +kernel, by decide +kernel⟩
abbrev s_Effect_add : Stmt := inClass (topS 35) 6
abbrev n_Effect_add : List Str := ["self", "other"]
theorem sc_Effect_add : FnScope n_Effect_add ["self", "other"] (defScope s_Effect_add) := ⟨rfl, rfl, rfl, by decide +kernel, rfl, by decide +kernel, by decide +kernel⟩
abbrev s_Effect_radd : Stmt := inClass (topS 35) 7
abbrev n_Effect_radd : List Str := ["self", "other"]
theorem sc_Effect_radd : FnScope n_Effect_radd ["self", "other"] (defScope s_Effect_radd) := ⟨rfl, rfl, rfl, by decide +kernel, rfl, by decide +kernel, by decide +kernel⟩
abbrev s_Effect_mul : Stmt := inClass (topS 35) 8
abbrev n_Effect_mul : List Str := ["self", "other"]
theorem sc_Effect_mul : FnScope n_Effect_mul ["self", "other"] (defScope s_Effect_mul) := ⟨rfl, rfl, rfl, by decide +kernel, rfl, by decide +kernel, by decide +kernel⟩
abbrev s_Effect_call : Stmt := inClass (topS 35) 9
abbrev n_Effect_call : List Str := ["self", "state"]
theorem sc_Effect_call : FnScope n_Effect_call ["self", "state"] (defScope s_Effect_call) := ⟨rfl, rfl, rfl, by decide +kernel, rfl, by decide +kernel, by decide +kernel⟩
abbrev s_Effect_eq : Stmt := inClass (topS 35) 10
abbrev n_Effect_eq : List Str := ["self", "other"]
theorem sc_Effect_eq : FnScope n_Effect_eq ["self", "other"] (defScope s_Effect_eq) := ⟨rfl, rfl, rfl, by decide +kernel, rfl, by decide +kernel, by decide +kernel⟩
abbrev s_Effect_repr : Stmt := inClass (topS 35) 11
abbrev n_Effect_repr : List Str := ["self"]
theorem sc_Effect_repr : FnScope n_Effect_repr ["self"] (defScope s_Effect_repr) := ⟨rfl, rfl, rfl, by decide +kernel, rfl, by decide +kernel, by decide +kernel⟩
abbrev s_fresh_pairs : Stmt := topS 37
abbrev n_fresh_pairs : List Str := ["operation", "pairs", "seen", "found", "one", "other", "pair"]
theorem sc_fresh_pairs : FnScope n_fresh_pairs ["operation", "pairs", "seen"] (defScope s_fresh_pairs) := ⟨rfl, rfl, rfl, by decide +kernel, rfl, by decide +kernel, by decide +kernel⟩
abbrev s_first_log_between : Stmt := topS 38
abbrev n_first_log_between : List Str := ["system", "pairs", "wanted", "seen", "waiting", "log", "group", "entry", "operation", "fresh", "pair"]
theorem sc_first_log_between : FnScope n_first_log_between ["system", "pairs", "wanted"] (defScope s_first_log_between) := ⟨rfl, rfl, rfl, by decide +kernel, rfl, by decide +kernel, by decide +kernel⟩
abbrev s_telling_log : Stmt := topS 39
abbrev n_telling_log : List Str := ["system", "reached", "first", "second", "early", "late", "states", "pairs", "unlike", "state", "one", "other"]
theorem sc_telling_log : FnScope n_telling_log ["system", "reached", "first", "second"] (defScope s_telling_log) := ⟨rfl, rfl, rfl, by decide +kernel, rfl, by decide +kernel, by decide +kernel⟩
abbrev s_coverage_row : Stmt := topS 40
abbrev n_coverage_row : List Str := ["system", "reached", "first", "second"]
theorem sc_coverage_row : FnScope n_coverage_row ["system", "reached", "first"] (defScope s_coverage_row) := ⟨rfl, rfl, rfl, by decide +kernel, rfl, by decide +kernel, by decide +kernel⟩
abbrev s_coverage : Stmt := topS 41
abbrev n_coverage : List Str := ["system", "reached", "first"]
theorem sc_coverage : FnScope n_coverage ["system"] (defScope s_coverage) := ⟨rfl, rfl, rfl, by decide +kernel, rfl, by decide +kernel, by decide +kernel⟩
abbrev s_is_covered : Stmt := topS 42
abbrev n_is_covered : List Str := ["row", "last", "at", "entry"]
theorem sc_is_covered : FnScope n_is_covered ["row", "last", "at"] (defScope s_is_covered) := ⟨rfl, rfl, rfl, by decide +kernel, rfl, by decide +kernel, by decide +kernel⟩
abbrev s_thinned : Stmt := topS 43
abbrev n_thinned : List Str := ["system", "log", "table", "last", "at", "entry"]
theorem sc_thinned : FnScope n_thinned ["system", "log"] (defScope s_thinned) := ⟨rfl, rfl, rfl, by decide +kernel, rfl, by decide +kernel, by decide +kernel⟩
abbrev s_compacted : Stmt := topS 45
abbrev n_compacted : List Str := ["system", "log", "kinds", "last", "at", "entry"]
theorem sc_compacted : FnScope n_compacted ["system", "log"] (defScope s_compacted) := ⟨rfl, rfl, rfl, by decide +kernel, rfl, by decide +kernel, by decide +kernel⟩
abbrev s_has_form : Stmt := topS 46
abbrev n_has_form : List Str := ["kinds", "log", "kind"]
theorem sc_has_form : FnScope n_has_form ["kinds", "log"] (defScope s_has_form) := ⟨rfl, rfl, rfl, by decide +kernel, rfl, by decide +kernel, by decide +kernel⟩
abbrev s_telling_logs : Stmt := topS 47
abbrev n_telling_logs : List Str := ["system", "kinds", "entries", "pairs", "triples", "first", "last", "between", "log"]
theorem sc_telling_logs : FnScope n_telling_logs ["system"] (defScope s_telling_logs) := ⟨rfl, rfl, rfl, by decide +kernel, rfl, by decide +kernel, by decide +kernel⟩
abbrev s_is_fault_at : Stmt := topS 48
abbrev n_is_fault_at : List Str := ["system", "state", "log"]
theorem sc_is_fault_at : FnScope n_is_fault_at ["system", "state", "log"] (defScope s_is_fault_at) := ⟨rfl, rfl, rfl, by decide +kernel, rfl, by decide +kernel, by decide +kernel⟩
abbrev s_fault : Stmt := topS 49
abbrev n_fault : List Str := ["system", "logs", "state", "log"]
theorem sc_fault : FnScope n_fault ["system"] (defScope s_fault) := ⟨rfl, rfl, rfl, by decide +kernel, rfl, by decide +kernel, by decide +kernel⟩
abbrev s_l_pen : Stmt := topS 51
abbrev n_l_pen : List Str := ["_law_cell"]
theorem sc_l_pen : FnScope n_l_pen ["_law_cell"] (defScope s_l_pen) := ⟨rfl, rfl, rfl, by decide +kernel, rfl, by decide +kernel, by decide +kernel⟩
abbrev s_l_cell_at : Stmt := topS 52
abbrev n_l_cell_at : List Str := ["_law_script", "_law_k"]
theorem sc_l_cell_at : FnScope n_l_cell_at ["_law_script", "_law_k"] (defScope s_l_cell_at) := ⟨rfl, rfl, rfl, by decide +kernel, rfl, by decide +kernel, by decide +kernel⟩
abbrev s_l_draw : Stmt := topS 53
abbrev n_l_draw : List Str := ["_law_pen_here", "_law_many", "_law_digit", "_law_stir"]
theorem sc_l_draw : FnScope n_l_draw ["_law_pen_here", "_law_many"] (defScope s_l_draw) := ⟨rfl, rfl, rfl, by decide +kernel, rfl, by decide +kernel, by decide +kernel⟩
abbrev s_l_pick : Stmt := topS 54
abbrev n_l_pick : List Str := ["_law_pen_here", "_law_things"]
theorem sc_l_pick : FnScope n_l_pick ["_law_pen_here", "_law_things"] (defScope s_l_pick) := ⟨rfl, rfl, rfl, by decide +kernel, rfl, by decide +kernel, by decide +kernel⟩
abbrev s_l_drawn : Stmt := topS 55
abbrev n_l_drawn : List Str := ["_law_pen_here", "_law_many", "_law_size", "_law_operations", "_law_kinds", "_law_lap", "_law_state"]
theorem sc_l_drawn : FnScope n_l_drawn ["_law_pen_here"] (defScope s_l_drawn) := ⟨rfl, rfl, rfl, by decide +kernel, rfl, by decide +kernel, by decide +kernel⟩
abbrev s_l_cells : Stmt := topS 56
abbrev n_l_cells : List Str := ["_law_pen_here", "_law_high", "_law_low", "_law_operations", "_law_kinds", "_law_names", "_law_lap", "_law_cell", "_law_value", "_law_moves", "_law_state"]
theorem sc_l_cells : FnScope n_l_cells ["_law_pen_here"] (defScope s_l_cells) := ⟨rfl, rfl, rfl, by decide +kernel, rfl, by decide +kernel, by decide +kernel⟩
abbrev s_l_marks : Stmt := topS 57
abbrev n_l_marks : List Str := ["_law_pen_here", "_law_operations", "_law_kinds", "_law_lap", "_law_mark", "_law_puts", "_law_moves", "_law_state", "_law_own", "_law_other", "_law_both", "_law_bit"]
theorem sc_l_marks : FnScope n_l_marks ["_law_pen_here"] (defScope s_l_marks) := ⟨rfl, rfl, rfl, by decide +kernel, rfl, by decide +kernel, by decide +kernel⟩
abbrev s_l_turns : Stmt := topS 58
abbrev n_l_turns : List Str := ["_law_pen_here", "_law_many", "_law_operations", "_law_kinds", "_law_lap", "_law_way", "_law_value", "_law_moves", "_law_state"]
theorem sc_l_turns : FnScope n_l_turns ["_law_pen_here"] (defScope s_l_turns) := ⟨rfl, rfl, rfl, by decide +kernel, rfl, by decide +kernel, by decide +kernel⟩
abbrev s_l_system : Stmt := topS 59
abbrev n_l_system : List Str := ["_law_pen_here", "_law_way", "_law_found", "_law_many", "_law_start", "_law_operations", "_law_kinds", "_law_at", "_law_state", "_law_own"]
theorem sc_l_system : FnScope n_l_system ["_law_pen_here"] (defScope s_l_system) := ⟨rfl, rfl, rfl, by decide +kernel, rfl, by decide +kernel, by decide +kernel⟩
abbrev s_l_log : Stmt := topS 60
abbrev n_l_log : List Str := ["_law_pen_here", "_law_system_here", "_law_cap", "_law_lap"]
theorem sc_l_log : FnScope n_l_log ["_law_pen_here", "_law_system_here", "_law_cap"] (defScope s_l_log) := ⟨rfl, rfl, rfl, by decide +kernel, rfl, by decide +kernel, by decide +kernel⟩
abbrev s_law : Stmt := topS 61
abbrev n_law : List Str := ["_law_script", "_law_k", "_law_pen_here", "_law_lap", "_law_made", "_law_turn", "_law_one", "_law_other", "_law_first", "_law_second", "_law_many", "_law_short", "_law_state", "_law_log_here"]
theorem sc_law : FnScope n_law ["_law_script"] (defScope s_law) := ⟨rfl, rfl, rfl, by decide +kernel, rfl, by decide +kernel, by decide +kernel⟩
local macro_rules | `(tactic| walk_at "vis") => `(tactic| first | exact .inl rfl | exact .inr (.inl rfl) | exact .inr (.inr rfl))
local macro_rules | `(tactic| walk_at "loc") => `(tactic| first | exact .inl rfl | exact .inr rfl)
local macro_rules | `(tactic| walk_at "room") => `(tactic| exact Room.mono (by assumption) (by decide))
local macro_rules | `(tactic| walk_at "seq") => `(tactic| first | exact .tup _ | exact .lst _ | exact .own rfl)
local macro_rules | `(tactic| walk_at "sz") => `(tactic| first | decide | (simp only [List.length_cons, List.length_nil, List.length_map, List.length_append, List.length_replicate, sizeLine_eq]; omega) | omega)
local macro_rules | `(tactic| walk_at "ar") => `(tactic| first | omega | decide | (unfold CDiv; omega) | (unfold CMul; omega) | (unfold CPow; decide))
local macro_rules | `(tactic| walk_at "plus") => `(tactic| first | refine Plus.int ?_ | refine Plus.tup (by walk_at "sz") ?_)
local macro_rules | `(tactic| walk_at "sh") => `(tactic| first | rfl | assumption)
local macro_rules | `(tactic| walk_at "fl") => `(tactic| first | rfl | assumption)
local macro_rules | `(tactic| walk_at "shows") => `(tactic| assumption)
local macro_rules | `(tactic| walk_at "mr") => `(tactic| exact List.mem_range.mpr (by walk_at "sz"))
section
/-! ### the law's pen: what is drawn -/
section
variable {X : Cx} {e a b c : Expr} {δ : List Sl} {ω : List Cell} {P : PO1} {pos : Pos}
/-- a % b, of which only the bounds are kept -/
theorem de_modR (h : DE X a δ ω fun x ω1 => ∃ i, x = .val (.int i) ∧ DE X b δ ω1 fun y ω2 => ∃ j, y = .val (.int j) ∧ 0 < j ∧ ∀ r, 0 ≤ r → r < j → P (.val (.int r)) ω2) : DE X (.BinOp a .Mod b pos) δ ω P :=
  de_mod (h.mono fun x ω1 ⟨i, e1, q⟩ => ⟨i, e1, q.mono fun y ω2 ⟨j, e2, hj, hp⟩ => ⟨j, e2, hj, hp _ (Int.emod_nonneg i (by omega)) (Int.emod_lt_of_pos i hj)⟩⟩)
theorem de_fdivR (h : DE X a δ ω fun x ω1 => ∃ i, x = .val (.int i) ∧ DE X b δ ω1 fun y ω2 => ∃ j, y = .val (.int j) ∧ CDiv i j ∧ ∀ r, (0 ≤ i → 0 ≤ r) → P (.val (.int r)) ω2) : DE X (.BinOp a .FloorDiv b pos) δ ω P :=
  de_fdiv (h.mono fun x ω1 ⟨i, e1, q⟩ => ⟨i, e1, q.mono fun y ω2 ⟨j, e2, hj, hp⟩ => ⟨j, e2, hj, hp _ fun hi => Int.ediv_nonneg hi (Int.le_of_lt hj.1)⟩⟩)
end
/-- a pen of which at most c numbers were stirred -/
def PenOk (c : Int) (cs : List D) : Prop := ∃ a b n : Int, cs = [.int a, .int b, .int n] ∧ 0 ≤ a ∧ 0 ≤ b ∧ b < 1000000007 ∧ 0 ≤ n ∧ n ≤ c
theorem PenOk.mono {c c' : Int} {cs : List D} (h : PenOk c cs) (hc : c ≤ c') : PenOk c' cs := by
  obtain ⟨a, b, n, e, h1, h2, h3, h4, h5⟩ := h
  exact ⟨a, b, n, e, h1, h2, h3, h4, by omega⟩
def φ_pen : List D → (List D → Prop) → Prop := fun ds P => ∃ i : Int, ds = [.int i] ∧ ∀ cs, PenOk 0 cs → P cs
def φ_draw : List D → List D → (D → List D → Prop) → Prop := fun cs ds P => ∃ (c many : Int), PenOk c cs ∧ ds = [.int many] ∧ 0 < many ∧ many < 1000000 ∧ c ≤ 1000000 ∧ ∀ (r : Nat) cs', (r : Int) < many → PenOk (c + 1) cs' → P (.int (r : Int)) cs'
section
variable {P : Program} {w : World} {K : Fg} {mg : Str → Option Value} {base : Heap} {f : Addr} {fd : FuncData} {k : Nat}
theorem ok_pen (F : Fun K "_law_pen" "_law_pen" s_l_pen f fd) (mM : mg "max" = none) : FnOk P w K mg base CX0 (k + 1) f fd ["_law_cell"] (spN K φ_pen) := by
  refine ok_N F sc_l_pen (fun ds Q h => ?_) fun ds Q h cdv A outer s H E hr => ?_
  · obtain ⟨i, rfl, _⟩ := h
    rfl
  · obtain ⟨i, rfl, hq⟩ := h
    refine ds_cons (d1_ret (de_lstO (da_cons (de_callB (call_max2 rfl) (by rfl) (by assumption) PyProof.Rows.boot_max (da_cons (de_int (da_cons (de_sub (de_var 0 rfl (by nofun) rfl (by walk_at "vis") ⟨_, rfl, (de_pow (de_int ⟨_, rfl, (de_int ⟨_, rfl, (by walk_at "ar"), ⟨_, rfl, (da_nil (ra_max2 (da_cons (de_modR (de_var 0 rfl (by nofun) rfl (by walk_at "vis") ⟨_, rfl, (de_int ⟨_, rfl, (by walk_at "ar"), fun r h1 h2 => (da_cons (de_int (da_nil ?_)))⟩)⟩)))))⟩⟩)⟩))⟩)))))))))
    refine ⟨[_, _, _], rfl, by walk_at "sz", ?_⟩
    refine ⟨0, _, rfl, rfl, hq _ ⟨_, r, 0, rfl, ?_, h1, h2, by omega, by omega⟩⟩
    split <;> omega
theorem ok_draw (F : Fun K "_law_draw" "_law_draw" s_l_draw f fd) : FnOk P w K mg base CX0 (k + 1) f fd ["_law_pen_here", "_law_many"] (spL K φ_draw) := by
  refine ok_L F sc_l_draw (fun cs ds Q h => ?_) fun cs ds Q h cdv A outer s H E hr => ?_
  · obtain ⟨c, many, _, rfl, _⟩ := h
    rfl
  · obtain ⟨c, many, ⟨a, b, n, rfl, ha, hb, hb2, hn, hn2⟩, rfl, hm, hm2, hc, hq⟩ := h
    have nd := sc_l_draw.nd
    have fin : ∀ (r : Int) (cs' : List D), 0 ≤ r → r < many → PenOk (c + 1) cs' → Q (.int r) cs' := fun r cs' h1 h2 h3 => by
      have e : r = ((r.toNat : Nat) : Int) := by omega
      rw [e]
      exact hq r.toNat cs' (by omega) h3
    refine ds_cons (d1_if (dt_cmp op_gt (nomark _) (de_ix (fun _ _ => rfl) (de_var 0 rfl (by nofun) rfl (by walk_at "vis") (de_int ⟨_, _, _, rfl, (by walk_at "seq"), rfl, (de_int (rr_I0 (fun _ _ => .bl _) ⟨_, rfl, ?_⟩))⟩)))))
    refine ite2 (fun hc => ?_) (fun hc => ?_)
    · -- _law_digit = _law_pen_here[0] % _law_many
      refine ds_cons (d1_asg (i := 2) nd rfl (by walk_at "loc") (de_modR (de_ix (fun _ _ => rfl) (de_var 0 rfl (by nofun) rfl (by walk_at "vis") (de_int ⟨_, _, _, rfl, (by walk_at "seq"), rfl, ⟨_, rfl, (de_var 1 rfl (by nofun) rfl (by walk_at "vis") ⟨_, rfl, (by walk_at "ar"), fun r h1 h2 => ?_⟩)⟩⟩)))))
      refine ds_cons (d1_setL (de_fdivR (de_ix (fun _ _ => rfl) (de_var 0 rfl (by nofun) rfl (by walk_at "vis") (de_int ⟨_, _, _, rfl, (by walk_at "seq"), rfl, ⟨_, rfl, (de_var 1 rfl (by nofun) rfl (by walk_at "vis") ⟨_, rfl, (by walk_at "ar"), fun z hz => ⟨_, rfl, (de_var 0 rfl (by nofun) rfl (by walk_at "vis") ⟨_, rfl, (de_int ⟨_, _, _, rfl, rfl, rfl, ?_⟩)⟩)⟩⟩)⟩⟩)))))
      refine ds_cons (d1_ret (de_var 2 rfl (by nofun) rfl (by walk_at "vis") ?_))
      exact ⟨_, _, rfl, rfl, fin r _ h1 h2 ⟨z, b, n, rfl, hz ha, hb, hb2, hn, by omega⟩⟩
    · refine ds_nil ?_
      refine ds_cons (d1_setL (de_plus (de_ix (fun _ _ => rfl) (de_var 0 rfl (by nofun) rfl (by walk_at "vis") (de_int ⟨_, _, _, rfl, (by walk_at "seq"), rfl, (de_int ?_)⟩)))))
      walk_at "plus"
      refine ⟨_, rfl, (de_var 0 rfl (by nofun) rfl (by walk_at "vis") ⟨_, rfl, (de_int ⟨_, _, _, rfl, rfl, rfl, ?_⟩)⟩)⟩
      refine ds_cons (d1_asg (i := 3) nd rfl (by walk_at "loc") (de_modR (de_times (de_plus (de_ix (fun _ _ => rfl) (de_var 0 rfl (by nofun) rfl (by walk_at "vis") (de_int ⟨_, _, _, rfl, (by walk_at "seq"), rfl, (de_times (de_int (de_ix (fun _ _ => rfl) (de_var 0 rfl (by nofun) rfl (by walk_at "vis") (de_int ⟨_, _, _, rfl, (by walk_at "seq"), rfl, ?_⟩)))))⟩)))))))
      refine .int (by walk_at "ar") ?_
      walk_at "plus"
      refine de_plus (de_int (de_times (de_int (de_ix (fun _ _ => rfl) (de_var 0 rfl (by nofun) rfl (by walk_at "vis") (de_int ⟨_, _, _, rfl, (by walk_at "seq"), rfl, ?_⟩))))))
      refine .int (by walk_at "ar") ?_
      walk_at "plus"
      refine .int (by walk_at "ar") ?_
      refine ⟨_, rfl, (de_int ⟨_, rfl, (by walk_at "ar"), fun r h1 h2 => ?_⟩)⟩
      refine ds_cons (d1_asg (i := 3) nd rfl (by walk_at "loc") (de_modR (de_plus (de_plus (de_times (de_var 3 rfl (by nofun) rfl (by walk_at "vis") (de_var 3 rfl (by nofun) rfl (by walk_at "vis") ?_)))))))
      refine .int (by walk_at "ar") ?_
      refine de_times (de_int (de_ix (fun _ _ => rfl) (de_var 0 rfl (by nofun) rfl (by walk_at "vis") (de_int ⟨_, _, _, rfl, (by walk_at "seq"), rfl, ?_⟩))))
      refine .int (by walk_at "ar") ?_
      walk_at "plus"
      refine de_int ?_
      walk_at "plus"
      refine ⟨_, rfl, (de_int ⟨_, rfl, (by walk_at "ar"), fun r2 h3 h4 => ?_⟩)⟩
      refine ds_cons (d1_ret (de_modR (de_fdiv (de_modR (de_times (de_var 3 rfl (by nofun) rfl (by walk_at "vis") (de_int ?_)))))))
      refine .int (by walk_at "ar") ?_
      refine ⟨_, rfl, (de_int ⟨_, rfl, (by walk_at "ar"), fun r3 h5 h6 => ⟨_, rfl, (de_int ⟨_, rfl, (by walk_at "ar"), ⟨_, rfl, (de_var 1 rfl (by nofun) rfl (by walk_at "vis") ⟨_, rfl, (by walk_at "ar"), fun r4 h7 h8 => ?_⟩)⟩⟩)⟩⟩)⟩
      exact ⟨_, _, rfl, rfl, fin r4 _ h7 h8 ⟨a, b, n + 1, rfl, ha, hb, hb2, by omega, by omega⟩⟩
end
end
section
/-! ### systems as data -/
structure Sys where
  n : Nat
  st : Nat
  ops : List (List Nat)
  kn : List (Option Nat)
def nD (i : Nat) : D := .int (i : Int)
def opD (o : List Nat) : D := .tuple (o.map nD)
def kD : Option Nat → D
  | none => .none
  | some i => nD i
def sysD (S : Sys) : D := .tuple [nD S.n, nD S.st, .tuple (S.ops.map opD), .tuple (S.kn.map kD)]
def OpOk (n : Nat) (o : List Nat) : Prop := o.length = n ∧ ∀ i ∈ o, i < n
def KOk (k : Option Nat) : Prop := ∀ i, k = some i → i ≤ 9
structure Sys.Ok (S : Sys) : Prop where
  n1 : 1 ≤ S.n
  n6 : S.n ≤ 6
  st : S.st < S.n
  o1 : 1 ≤ S.ops.length
  o6 : S.ops.length ≤ 6
  op : ∀ o ∈ S.ops, OpOk S.n o
  kl : S.kn.length = S.ops.length
  kk : ∀ k ∈ S.kn, KOk k
def logD (l : List Nat) : D := .tuple (l.map nD)
def LogOk (S : Sys) (l : List Nat) : Prop := ∀ e ∈ l, e < S.ops.length
theorem rgD0 (n : Nat) : rgD 0 (n : Int) = (List.range n).map nD := by
  unfold rgD nD
  have e : ((n : Int) - 0).toNat = n := by omega
  rw [e]
  refine List.map_congr_left fun i _ => ?_
  rw [Int.zero_add]
theorem snoc_all {α : Type} {p : α → Prop} {l : List α} {x : α} (h : ∀ y ∈ l, p y) (hx : p x) : ∀ y ∈ l ++ [x], p y := fun y hy => by
  rcases List.mem_append.mp hy with q | q
  · exact h y q
  · rw [List.mem_singleton.mp q]
    exact hx
theorem snoc_map {α β : Type} (f : α → β) (l : List α) (x : α) : l.map f ++ [f x] = (l ++ [x]).map f := by
  rw [List.map_append]
  rfl
end
section
/-! ### the law's systems -/
def φ_pick : List D → List D → (D → List D → Prop) → Prop := fun cs ds P => ∃ (c : Int) (ts : List D), PenOk c cs ∧ ds = [.list ts] ∧ 0 < ts.length ∧ ts.length < 1000000 ∧ c ≤ 1000000 ∧ ∀ t cs', t ∈ ts → PenOk (c + 1) cs' → P t cs'
def φ_gen (m : Int) : List D → List D → (D → List D → Prop) → Prop := fun cs ds P => ∃ c : Int, PenOk c cs ∧ ds = [] ∧ c + m ≤ 900000 ∧ ∀ S cs', S.Ok → PenOk (c + m) cs' → P (sysD S) cs'
theorem kind_of {t : D} {ks : List (Option Nat)} (h : t ∈ ks.map kD) (hk : ∀ k ∈ ks, KOk k) : ∃ k, t = kD k ∧ KOk k := by
  obtain ⟨k, h1, rfl⟩ := List.mem_map.mp h
  exact ⟨k, rfl, hk k h1⟩
theorem kok_none : KOk none := fun i h => by cases h
theorem kok_some {i : Nat} (h : i ≤ 9) : KOk (some i) := fun j e => by
  cases e
  exact h
section
variable {P : Program} {w : World} {K : Fg} {mg : Str → Option Value} {base : Heap} {f : Addr} {fd : FuncData} {k : Nat}
theorem ok_pick (F : Fun K "_law_pick" "_law_pick" s_l_pick f fd) (cD : Has P w K mg base 1 "_law_draw" (spL K φ_draw)) (mL : mg "len" = none) : FnOk P w K mg base CX0 2 f fd ["_law_pen_here", "_law_things"] (spL K φ_pick) := by
  refine ok_L F sc_l_pick (fun cs ds Q h => ?_) fun cs ds Q h cdv A outer s H E hr => ?_
  · obtain ⟨c, ts, _, rfl, _⟩ := h
    rfl
  · obtain ⟨c, ts, hp, rfl, h1, h2, hc, hq⟩ := h
    have nd := sc_l_pick.nd
    refine ds_cons (d1_ret (de_ix (fun _ _ => rfl) (de_var 1 rfl (by nofun) rfl (by walk_at "vis") (de_callL (by assumption) (by walk_at "room") (by rfl) (da_cons (de_var 0 rfl (by nofun) rfl (by walk_at "vis") (da_cons (de_callB call_len_seq (by rfl) (by assumption) PySem.boot_len (da_cons (de_var 1 rfl (by nofun) rfl (by walk_at "vis") (da_nil (ra_len (by walk_at "seq") (da_nil ⟨_, _, [_], rfl, rfl, ?_⟩)))))))))))))
    refine ⟨c, _, hp, rfl, by omega, by omega, hc, fun r cs' hr' hp' => ?_⟩
    have hr2 : r < ts.length := by omega
    refine ⟨_, _, _, rfl, .lst _, atI_nat (List.getElem?_eq_getElem hr2), ?_⟩
    exact ⟨_, _, rfl, rfl, hq _ _ (List.getElem_mem hr2) hp'⟩
theorem ok_drawn (F : Fun K "_law_drawn" "_law_drawn" s_l_drawn f fd) (cD : Has P w K mg base 1 "_law_draw" (spL K φ_draw)) (cP : Has P w K mg base 2 "_law_pick" (spL K φ_pick)) (mR : mg "range" = none) (mT : mg "tuple" = none) :
    FnOk P w K mg base CX0 3 f fd ["_law_pen_here"] (spL K (φ_gen 50)) := by
  refine ok_L F sc_l_drawn (fun cs ds Q h => ?_) fun cs ds Q h cdv A outer s H E hr => ?_
  · obtain ⟨c, _, rfl, _⟩ := h
    rfl
  · obtain ⟨c, hp, rfl, hc, hq⟩ := h
    have nd := sc_l_drawn.nd
    refine ds_cons (d1_tupA rfl (pgs_cons (pg_name (i := 1) nd rfl (by walk_at "loc")) (pgs_cons (pg_name (i := 2) nd rfl (by walk_at "loc")) pgs_nil)) (.cons (.cons .nil)) (da_cons (de_plus (de_int (de_callL (by assumption) (by walk_at "room") (by rfl) (da_cons (de_var 0 rfl (by nofun) rfl (by walk_at "vis") (da_cons (de_int (da_nil ⟨_, _, [_], rfl, rfl, ?_⟩))))))))))
    refine ⟨c, _, hp, rfl, by omega, by omega, by omega, fun m0 cs hm0 hp => ?_⟩
    walk_at "plus"
    refine da_cons (de_plus (de_int (de_callL (by assumption) (by walk_at "room") (by rfl) (da_cons (de_var 0 rfl (by nofun) rfl (by walk_at "vis") (da_cons (de_int (da_nil ⟨_, _, [_], rfl, rfl, ?_⟩))))))))
    refine ⟨c + 1, _, hp, rfl, by omega, by omega, by omega, fun z0 cs hz0 hp => ?_⟩
    walk_at "plus"
    refine da_nil ⟨rfl, by walk_at "sz", ?_⟩
    obtain ⟨many, em⟩ : ∃ many : Nat, many = 1 + m0 := ⟨_, rfl⟩
    obtain ⟨size, es⟩ : ∃ size : Nat, size = 1 + z0 := ⟨_, rfl⟩
    have e1 : (1 : Int) + (m0 : Int) = (many : Int) := by omega
    have e2 : (1 : Int) + (z0 : Int) = (size : Int) := by omega
    rw [e1, e2]
    refine ds_cons (d1_par (i := 3) (j := 4) rfl nd rfl rfl (by decide) rfl rfl (by rfl) (da_cons (de_lstO (da_nil ⟨[], rfl, by decide, da_cons (de_lstO (da_nil ⟨[], rfl, by decide, da_nil ⟨_, _, rfl, ?_⟩⟩))⟩))))
    refine ds_cons (d1_for PassesOwn.never rfl (di_rng1 (by rfl) (by assumption) (de_var 2 rfl (by nofun) rfl (by walk_at "vis") ⟨_, rfl, by omega, by omega, ?_⟩)))
    refine ⟨fun i δ' ω' => ∃ ops kns cs lap, ω' = [.lst cs, .lst (ops.map opD), .lst (kns.map kD)] ∧ ops.length = i ∧ kns.length = i ∧ (∀ o ∈ ops, OpOk many o) ∧ (∀ q ∈ kns, KOk q) ∧ PenOk (c + 2 + 7 * i) cs ∧
      δ' = [.own 0, .val (nD many), .val (nD size), .own 1, .own 2, lap, .no], ⟨[], [], _, .no, rfl, rfl, rfl, nofun, nofun, hp.mono (by omega), rfl⟩, ?_, ?_⟩
    · rintro i d δ' ω' hd ⟨ops, kns, cs, lap, rfl, hl1, hl2, ho, hk, hp, rfl⟩
      obtain ⟨hi, rfl⟩ := rgD_at hd
      refine dg_name (i := 5) nd rfl (.inl rfl) (by walk_at "mr") ?_
      refine ds_cons (d1_expr (de_append (de_var 3 rfl (by nofun) rfl (by walk_at "vis") ⟨_, _, rfl, rfl, (de_callTy call_tuple_of (by rfl) (by assumption) PyProof.Rows.boot_tuple (da_cons ?_))⟩)))
      refine de_lc rfl nd (blkOk_by (own := [("_law_state", 6)]) (N := n_l_drawn) (sc := defScope s_l_drawn) (by decide +kernel)) (di_rng1 (by rfl) (by assumption) (de_var 1 rfl (by nofun) rfl (by walk_at "vis") ⟨_, rfl, by omega, by omega, ?_⟩))
      refine ⟨by rw [rgD_len]; omega, fun j acc ω' => ∃ o cs, acc = o.map nD ∧ o.length = j ∧ (∀ x ∈ o, x < many) ∧ PenOk (c + 2 + 7 * i + j) cs ∧ ω' = [.lst cs, .lst (ops.map opD), .lst (kns.map kD)], ⟨[], _, rfl, rfl, nofun, hp.mono (by omega), rfl⟩, ?_, ?_⟩
      · rintro j d acc ω' hd ⟨o, cs, rfl, hol, hox, hp, rfl⟩ s H C cl fp
        obtain ⟨hj, rfl⟩ := rgD_at hd
        refine dg_name (i := 6) nd rfl (.inl rfl) (by decide) ?_
        intro s H C cl fp
        refine dts_nil ?_
        dsimp only
        rw [if_pos rfl]
        intro s H C cl fp
        refine de_callL (by assumption) (by walk_at "room") (by rfl) (da_cons (de_var 0 rfl (by nofun) rfl (by walk_at "vis") (da_cons (de_var 1 rfl (by nofun) rfl (by walk_at "vis") (da_nil ⟨_, _, [_], rfl, rfl, ?_⟩)))))
        refine ⟨_, _, hp, rfl, by omega, by omega, by omega, fun r cs hr' hp => ?_⟩
        exact ⟨_, rfl, o ++ [r], cs, snoc_map nD o r, by rw [List.length_append, hol]; rfl, snoc_all hox (by omega), hp.mono (by omega), rfl⟩
      · rintro acc ω' _ ⟨o, cs, rfl, hol, hox, hp, rfl⟩
        rw [rgD_len] at hol hp
        refine .inl ?_
        refine da_nil (ra_tuple (by walk_at "seq") ⟨_, _, rfl, rfl, ?_, ?_⟩)
        · rw [List.length_map]
          omega
        refine ds_cons (d1_expr (de_append (de_var 4 rfl (by nofun) rfl (by walk_at "vis") ⟨_, _, rfl, rfl, (de_callL (by assumption) (by walk_at "room") (by rfl) (da_cons (de_var 0 rfl (by nofun) rfl (by walk_at "vis") (da_cons (de_lst (da_cons (de_none (da_cons (de_int (da_cons (de_int (da_cons (de_int (da_cons (de_int (da_nil ?_))))))))))))))))⟩)))
        refine ⟨[_, _, _, _, _], rfl, by walk_at "sz", ?_⟩
        refine da_nil ⟨_, _, [_], rfl, rfl, ?_⟩
        refine ⟨_, _, hp, rfl, by decide, by decide, by omega, fun t cs ht hp => ?_⟩
        obtain ⟨q, rfl, hq2⟩ := kind_of (ks := [none, some 0, some 1, some 0, some 7]) ht (by
          intro q hq
          simp only [List.mem_cons, List.not_mem_nil, or_false] at hq
          rcases hq with rfl | rfl | rfl | rfl | rfl <;> first | exact kok_none | exact kok_some (by decide))
        refine ⟨_, _, rfl, rfl, ?_, ?_⟩
        · rw [List.length_map]
          omega
        refine ds_nil ⟨ops ++ [o], kns ++ [q], cs, _, ?_, by rw [List.length_append, hl1]; rfl, by rw [List.length_append, hl2]; rfl, snoc_all ho ⟨by omega, hox⟩, snoc_all hk hq2, hp.mono (by omega), rfl⟩
        rw [← snoc_map, ← snoc_map]
        rfl
    · rintro δ' ω' ⟨ops, kns, cs, lap, rfl, hl1, hl2, ho, hk, hp, rfl⟩
      rw [rgD_len] at hl1 hl2 hp
      refine ds_cons (d1_ret (de_tup (da_cons (de_var 1 rfl (by nofun) rfl (by walk_at "vis") (da_cons (de_callL (by assumption) (by walk_at "room") (by rfl) (da_cons (de_var 0 rfl (by nofun) rfl (by walk_at "vis") (da_cons (de_var 1 rfl (by nofun) rfl (by walk_at "vis") (da_nil ⟨_, _, [_], rfl, rfl, ?_⟩)))))))))))
      refine ⟨_, _, hp, rfl, by omega, by omega, by omega, fun r cs hr' hp => ?_⟩
      refine da_cons (de_callTy call_tuple_of (by rfl) (by assumption) PyProof.Rows.boot_tuple (da_cons (de_var 3 rfl (by nofun) rfl (by walk_at "vis") (da_nil (ra_tuple (by walk_at "seq") (da_cons (de_callTy call_tuple_of (by rfl) (by assumption) PyProof.Rows.boot_tuple (da_cons (de_var 4 rfl (by nofun) rfl (by walk_at "vis") (da_nil (ra_tuple (by walk_at "seq") (da_nil ?_))))))))))))
      refine ⟨[_, _, _, _], rfl, by walk_at "sz", ?_⟩
      exact ⟨_, _, rfl, rfl, hq ⟨many, r, ops, kns⟩ cs ⟨by show 1 ≤ many; omega, by show many ≤ 6; omega, by show r < many; omega, by show 1 ≤ ops.length; omega, by show ops.length ≤ 6; omega, ho, by show kns.length = ops.length; omega, hk⟩ (hp.mono (by omega))⟩
end
end
section
/-! ### two cells, marks, turns -/
def HL : List (Nat × Nat) := [(2, 2), (2, 3), (3, 2), (1, 4), (6, 1)]
theorem hl_size {hi lo : Nat} (h : (hi, lo) ∈ HL) : 1 ≤ hi * lo ∧ hi * lo ≤ 6 ∧ 1 ≤ hi ∧ hi ≤ 6 ∧ 1 ≤ lo ∧ lo ≤ 4 := by
  simp only [HL, List.mem_cons, List.not_mem_nil, or_false, Prod.mk.injEq] at h
  rcases h with ⟨rfl, rfl⟩ | ⟨rfl, rfl⟩ | ⟨rfl, rfl⟩ | ⟨rfl, rfl⟩ | ⟨rfl, rfl⟩ <;> decide
theorem hl_move1 {hi lo v s : Nat} (h : (hi, lo) ∈ HL) (hv : v < hi) : v * lo + s % lo < hi * lo := by
  simp only [HL, List.mem_cons, List.not_mem_nil, or_false, Prod.mk.injEq] at h
  rcases h with ⟨rfl, rfl⟩ | ⟨rfl, rfl⟩ | ⟨rfl, rfl⟩ | ⟨rfl, rfl⟩ | ⟨rfl, rfl⟩ <;> omega
theorem hl_move2 {hi lo v s : Nat} (h : (hi, lo) ∈ HL) (hv : v < lo) (hs : s < hi * lo) : s / lo * lo + v < hi * lo := by
  simp only [HL, List.mem_cons, List.not_mem_nil, or_false, Prod.mk.injEq] at h
  rcases h with ⟨rfl, rfl⟩ | ⟨rfl, rfl⟩ | ⟨rfl, rfl⟩ | ⟨rfl, rfl⟩ | ⟨rfl, rfl⟩ <;> omega
def NM : List (Option Nat × Option Nat) := [(some 0, some 1), (some 9, some 4), (some 3, none), (some 2, some 0)]
theorem nm_ok {a b : Option Nat} (h : (a, b) ∈ NM) : KOk a ∧ KOk b := by
  simp only [NM, List.mem_cons, List.not_mem_nil, or_false, Prod.mk.injEq] at h
  rcases h with ⟨rfl, rfl⟩ | ⟨rfl, rfl⟩ | ⟨rfl, rfl⟩ | ⟨rfl, rfl⟩ <;> exact ⟨by first | exact kok_none | exact kok_some (by decide), by first | exact kok_none | exact kok_some (by decide)⟩
theorem mem_map_of {α : Type} {f : α → D} {t : D} {l : List α} (h : t ∈ l.map f) : ∃ x, x ∈ l ∧ t = f x := by
  obtain ⟨x, h1, h2⟩ := List.mem_map.mp h
  exact ⟨x, h1, h2.symm⟩
section
variable {P : Program} {w : World} {K : Fg} {mg : Str → Option Value} {base : Heap} {f : Addr} {fd : FuncData} {k : Nat}
theorem ok_cells (F : Fun K "_law_cells" "_law_cells" s_l_cells f fd) (cD : Has P w K mg base 1 "_law_draw" (spL K φ_draw)) (cP : Has P w K mg base 2 "_law_pick" (spL K φ_pick)) (mR : mg "range" = none) (mT : mg "tuple" = none) :
    FnOk P w K mg base CX0 3 f fd ["_law_pen_here"] (spL K (φ_gen 50)) := by
  refine ok_L F sc_l_cells (fun cs ds Q h => ?_) fun cs ds Q h cdv A outer s H E hr => ?_
  · obtain ⟨c, _, rfl, _⟩ := h
    rfl
  · obtain ⟨c, hp, rfl, hc, hq⟩ := h
    have nd := sc_l_cells.nd
    refine ds_cons (d1_unp rfl (pgs_cons (pg_name (i := 1) nd rfl (by walk_at "loc")) (pgs_cons (pg_name (i := 2) nd rfl (by walk_at "loc")) pgs_nil)) (.cons (.cons .nil)) (de_callL (by assumption) (by walk_at "room") (by rfl) (da_cons (de_var 0 rfl (by nofun) rfl (by walk_at "vis") (da_cons (de_lst (da_cons (de_tup (da_cons (de_int (da_cons (de_int (da_nil ?_)))))))))))))
    refine ⟨[_, _], rfl, by walk_at "sz", ?_⟩
    refine da_cons (de_tup (da_cons (de_int (da_cons (de_int (da_nil ⟨[_, _], rfl, by walk_at "sz", ?_⟩))))))
    refine da_cons (de_tup (da_cons (de_int (da_cons (de_int (da_nil ⟨[_, _], rfl, by walk_at "sz", ?_⟩))))))
    refine da_cons (de_tup (da_cons (de_int (da_cons (de_int (da_nil ⟨[_, _], rfl, by walk_at "sz", ?_⟩))))))
    refine da_cons (de_tup (da_cons (de_int (da_cons (de_int (da_nil ⟨[_, _], rfl, by walk_at "sz", ?_⟩))))))
    refine da_nil ⟨[_, _, _, _, _], rfl, by walk_at "sz", ?_⟩
    refine da_nil ⟨_, _, [_], rfl, rfl, ?_⟩
    refine ⟨c, _, hp, rfl, by decide, by decide, by omega, fun t cs ht hp => ?_⟩
    obtain ⟨⟨hi, lo⟩, hm, rfl⟩ := mem_map_of (f := fun p : Nat × Nat => PyData.tuple [nD p.1, nD p.2]) (l := HL) ht
    obtain ⟨z1, z2, z3, z4, z5, z6⟩ := hl_size hm
    refine ⟨[nD hi, nD lo], rfl, rfl, ?_⟩
    refine ds_cons (d1_par (i := 3) (j := 4) rfl nd rfl rfl (by decide) rfl rfl (by rfl) (da_cons (de_lstO (da_nil ⟨[], rfl, by decide, da_cons (de_lstO (da_nil ⟨[], rfl, by decide, da_nil ⟨_, _, rfl, ?_⟩⟩))⟩))))
    refine ds_cons (d1_asg (i := 5) nd rfl (by walk_at "loc") (de_callL (by assumption) (by walk_at "room") (by rfl) (da_cons (de_var 0 rfl (by nofun) rfl (by walk_at "vis") (da_cons (de_lst (da_cons (de_tup (da_cons (de_int (da_cons (de_int (da_nil ?_)))))))))))))
    refine ⟨[_, _], rfl, by walk_at "sz", ?_⟩
    refine da_cons (de_tup (da_cons (de_int (da_cons (de_int (da_nil ⟨[_, _], rfl, by walk_at "sz", ?_⟩))))))
    refine da_cons (de_tup (da_cons (de_int (da_cons (de_none (da_nil ⟨[_, _], rfl, by walk_at "sz", ?_⟩))))))
    refine da_cons (de_tup (da_cons (de_int (da_cons (de_int (da_nil ⟨[_, _], rfl, by walk_at "sz", ?_⟩))))))
    refine da_nil ⟨[_, _, _, _], rfl, by walk_at "sz", ?_⟩
    refine da_nil ⟨_, _, [_], rfl, rfl, ?_⟩
    refine ⟨_, _, hp, rfl, by decide, by decide, by omega, fun t cs ht hp => ?_⟩
    obtain ⟨⟨na, nb⟩, hnm, rfl⟩ := mem_map_of (f := fun p : Option Nat × Option Nat => PyData.tuple [kD p.1, kD p.2]) (l := NM) ht
    obtain ⟨hna, hnb⟩ := nm_ok hnm
    refine ds_cons (d1_for PassesOwn.never rfl (di_rng1 (by rfl) (by assumption) (de_plus (de_int (de_callL (by assumption) (by walk_at "room") (by rfl) (da_cons (de_var 0 rfl (by nofun) rfl (by walk_at "vis") (da_cons (de_int (da_nil ⟨_, _, [_], rfl, rfl, ?_⟩))))))))))
    refine ⟨_, _, hp, rfl, by omega, by omega, by omega, fun z0 cs hz0 hp => ?_⟩
    refine .int ⟨_, rfl, by omega, by omega, ?_⟩
    refine ⟨fun i δ' ω' => ∃ ops kns cs s6 s7 s8 s9, ω' = [.lst cs, .lst (ops.map opD), .lst (kns.map kD)] ∧ ops.length = i ∧ kns.length = i ∧ (∀ o ∈ ops, OpOk (hi * lo) o) ∧ (∀ q ∈ kns, KOk q) ∧ PenOk (c + 3 + 2 * i) cs ∧
      δ' = [.own 0, .val (nD hi), .val (nD lo), .own 1, .own 2, .val (.tuple [kD na, kD nb]), s6, s7, s8, s9, .no], ⟨[], [], _, .no, .no, .no, .no, rfl, rfl, rfl, nofun, nofun, hp.mono (by omega), rfl⟩, ?_, ?_⟩
    · rintro i d δ' ω' hd ⟨ops, kns, cs, s6, s7, s8, s9, rfl, hl1, hl2, ho, hk, hp, rfl⟩
      obtain ⟨hi', rfl⟩ := rgD_at hd
      refine dg_name (i := 6) nd rfl (.inl rfl) (by walk_at "mr") ?_
      refine ds_cons (d1_asg (i := 7) nd rfl (by walk_at "loc") (de_callL (by assumption) (by walk_at "room") (by rfl) (da_cons (de_var 0 rfl (by nofun) rfl (by walk_at "vis") (da_cons (de_int (da_nil ⟨_, _, [_], rfl, rfl, ?_⟩)))))))
      refine ⟨_, _, hp, rfl, by omega, by omega, by omega, fun cell cs hcell hp => ?_⟩
      refine ds_cons (d1_asg (i := 8) nd rfl (by walk_at "loc") (de_callL (by assumption) (by walk_at "room") (by rfl) (da_cons (de_var 0 rfl (by nofun) rfl (by walk_at "vis") (da_cons (de_ix (fun _ _ => rfl) (de_lst (da_cons (de_var 1 rfl (by nofun) rfl (by walk_at "vis") (da_cons (de_var 2 rfl (by nofun) rfl (by walk_at "vis") (da_nil ?_))))))))))))
      refine ⟨[_, _], rfl, by walk_at "sz", ?_⟩
      refine de_var 7 rfl (by nofun) rfl (by walk_at "vis") ?_
      have hcc : cell = 0 ∨ cell = 1 := by omega
      have hat : atI [nD hi, nD lo] (cell : Int) = some (nD (if cell = 0 then hi else lo)) := by rcases hcc with rfl | rfl <;> rfl
      refine ⟨_, _, _, rfl, by walk_at "seq", hat, ?_⟩
      refine da_nil ⟨_, _, [_], rfl, rfl, ?_⟩
      refine ⟨_, _, hp, rfl, by split <;> omega, by split <;> omega, by omega, fun v cs hv hp => ?_⟩
      have hv2 : v < (if cell = 0 then hi else lo) := by split at hv <;> split <;> omega
      obtain ⟨mv, hmv⟩ : ∃ mv : Nat → Nat, ∀ s, mv s = if cell = 0 then v * lo + s % lo else s / lo * lo + v := ⟨_, fun _ => rfl⟩
      have hlt : ∀ s, s < hi * lo → mv s < hi * lo := fun s hs => by
        rw [hmv]
        rcases hcc with rfl | rfl
        · exact hl_move1 hm hv2
        · exact hl_move2 hm hv2 hs
      refine ds_cons (d1_asgLc (i := 9) rfl nd rfl rfl (sw_true rfl rfl rfl (by decide +kernel)) (blkOk_by (own := [("_law_state", 10)]) (N := n_l_cells) (sc := defScope s_l_cells) (by decide +kernel)) (di_rng1 (by rfl) (by assumption) (de_times (de_var 1 rfl (by nofun) rfl (by walk_at "vis") (de_var 2 rfl (by nofun) rfl (by walk_at "vis") (.int (by walk_at "ar") ?_))))))
      have ecast : ((hi : Nat) : Int) * ((lo : Nat) : Int) = ((hi * lo : Nat) : Int) := by rw [Int.natCast_mul]
      rw [ecast]
      refine ⟨_, rfl, by omega, by omega, ?_⟩
      refine ⟨by rw [rgD_len]; omega, _, ⟨rfl, rfl⟩, lc_map (fun d => match d with | .int s => nD (mv s.toNat) | _ => .none) (fun j d hd s H C cl fp => ?_), fun acc ω' hacc ⟨ew, ea⟩ => .inl ?_⟩
      · obtain ⟨hj, rfl⟩ := rgD_at hd
        refine dg_name (i := 10) nd rfl (.inl rfl) (by decide) ?_
        intro s H C cl fp
        have ej : (0 : Int) + (j : Int) = ((j : Nat) : Int) := by omega
        rw [ej]
        refine de_if (dt_cmp (op_eqD (Room.units hr)) (nomark _) (de_var 7 rfl (by nofun) rfl (by walk_at "vis") (de_int (rr_eqD (by walk_at "sh") (by walk_at "sh") ⟨_, rfl, ?_⟩))))
        have ec : PyData.eqv (.int ((cell : Nat) : Int)) (.int 0) = decide (cell = 0) := by
          rcases hcc with rfl | rfl <;> rfl
        rw [ec]
        refine ite2 (fun hc0 => ?_) (fun hc0 => ?_)
        · have hc0 := of_decide_eq_true hc0
          refine de_plus (de_times (de_var 8 rfl (by nofun) rfl (by walk_at "vis") (de_var 2 rfl (by nofun) rfl (by walk_at "vis") (.int (by walk_at "ar") ?_))))
          refine de_mod (de_var 10 rfl (by nofun) rfl (by walk_at "vis") ⟨_, rfl, (de_var 2 rfl (by nofun) rfl (by walk_at "vis") ⟨_, rfl, (by walk_at "ar"), .int ⟨?_, rfl⟩⟩)⟩)
          show Sl.val (.int _) = Sl.val (.int ((mv ((j : Nat) : Int).toNat : Nat) : Int))
          rw [Int.toNat_natCast, hmv, if_pos hc0]
          congr 2
        · have hc0 := fun z => hc0 (decide_eq_true z)
          refine de_plus (de_times (de_fdiv (de_var 10 rfl (by nofun) rfl (by walk_at "vis") ⟨_, rfl, (de_var 2 rfl (by nofun) rfl (by walk_at "vis") ⟨_, rfl, (by walk_at "ar"), (de_var 2 rfl (by nofun) rfl (by walk_at "vis") (.int (by walk_at "ar") ?_))⟩)⟩)))
          refine de_var 8 rfl (by nofun) rfl (by walk_at "vis") (.int ⟨?_, rfl⟩)
          show Sl.val (.int _) = Sl.val (.int ((mv ((j : Nat) : Int).toNat : Nat) : Int))
          rw [Int.toNat_natCast, hmv, if_neg hc0]
          congr 2
      · subst ew ea
        have emap : ((rgD 0 ((hi * lo : Nat) : Int)).take (rgD 0 ((hi * lo : Nat) : Int)).length).map (fun d => match d with | .int s => nD (mv s.toNat) | _ => .none) = ((List.range (hi * lo)).map mv).map nD := by
          rw [List.take_length, rgD0, List.map_map, List.map_map]
          rfl
        rw [emap]
        have hoo : OpOk (hi * lo) ((List.range (hi * lo)).map mv) := ⟨by rw [List.length_map, List.length_range], fun x hx => by
          obtain ⟨s, hs, rfl⟩ := List.mem_map.mp hx
          exact hlt s (List.mem_range.mp hs)⟩
        refine ds_cons (d1_expr (de_append (de_var 3 rfl (by nofun) rfl (by walk_at "vis") ⟨_, _, rfl, rfl, (de_callTy call_tuple_of (by rfl) (by assumption) PyProof.Rows.boot_tuple (da_cons (de_var 9 rfl (by nofun) rfl (by walk_at "vis") (da_nil (ra_tuple (by walk_at "seq") ⟨_, _, rfl, rfl, ?_, ?_⟩)))))⟩)))
        · rw [List.length_map]
          omega
        refine ds_cons (d1_expr (de_append (de_var 4 rfl (by nofun) rfl (by walk_at "vis") ⟨_, _, rfl, rfl, (de_ix (fun _ _ => rfl) (de_var 5 rfl (by nofun) rfl (by walk_at "vis") (de_var 7 rfl (by nofun) rfl (by walk_at "vis") ?_)))⟩)))
        have hat2 : atI [kD na, kD nb] (cell : Int) = some (kD (if cell = 0 then na else nb)) := by rcases hcc with rfl | rfl <;> rfl
        refine ⟨_, _, _, rfl, by walk_at "seq", hat2, ?_⟩
        refine ⟨_, _, rfl, rfl, ?_, ?_⟩
        · rw [List.length_map]
          omega
        refine ds_nil ⟨ops ++ [(List.range (hi * lo)).map mv], kns ++ [if cell = 0 then na else nb], cs, _, _, _, _, ?_, by rw [List.length_append, hl1]; rfl, by rw [List.length_append, hl2]; rfl, snoc_all ho hoo, snoc_all hk (by split <;> assumption), hp.mono (by omega), rfl⟩
        rw [← snoc_map, ← snoc_map]
        rfl
    · rintro δ' ω' ⟨ops, kns, cs, s6, s7, s8, s9, rfl, hl1, hl2, ho, hk, hp, rfl⟩
      rw [rgD_len] at hl1 hl2 hp
      have ecast : ((hi : Nat) : Int) * ((lo : Nat) : Int) = ((hi * lo : Nat) : Int) := by rw [Int.natCast_mul]
      refine ds_cons (d1_ret (de_tup (da_cons (de_times (de_var 1 rfl (by nofun) rfl (by walk_at "vis") (de_var 2 rfl (by nofun) rfl (by walk_at "vis") (.int (by walk_at "ar") ?_)))))))
      rw [ecast]
      refine da_cons (de_callL (by assumption) (by walk_at "room") (by rfl) (da_cons (de_var 0 rfl (by nofun) rfl (by walk_at "vis") (da_cons (de_times (de_var 1 rfl (by nofun) rfl (by walk_at "vis") (de_var 2 rfl (by nofun) rfl (by walk_at "vis") (.int (by walk_at "ar") ?_))))))))
      rw [ecast]
      refine da_nil ⟨_, _, [_], rfl, rfl, ?_⟩
      refine ⟨_, _, hp, rfl, by omega, by omega, by omega, fun r cs hr' hp => ?_⟩
      refine da_cons (de_callTy call_tuple_of (by rfl) (by assumption) PyProof.Rows.boot_tuple (da_cons (de_var 3 rfl (by nofun) rfl (by walk_at "vis") (da_nil (ra_tuple (by walk_at "seq") (da_cons (de_callTy call_tuple_of (by rfl) (by assumption) PyProof.Rows.boot_tuple (da_cons (de_var 4 rfl (by nofun) rfl (by walk_at "vis") (da_nil (ra_tuple (by walk_at "seq") (da_nil ?_))))))))))))
      refine ⟨[_, _, _, _], rfl, by walk_at "sz", ?_⟩
      exact ⟨_, _, rfl, rfl, hq ⟨hi * lo, r, ops, kns⟩ cs ⟨z1, z2, by show r < hi * lo; omega, by show 1 ≤ ops.length; omega, by show ops.length ≤ 6; omega, ho, by show kns.length = ops.length; omega, hk⟩ (hp.mono (by omega))⟩
end
end
section
section
variable {P : Program} {w : World} {K : Fg} {mg : Str → Option Value} {base : Heap} {f : Addr} {fd : FuncData} {k : Nat}
theorem bits_sum (g : D → Bool) : ∃ n : Nat, n ≤ 3 ∧ ([PyData.int 1, .int 2].filter g) = (([1, 2] : List Int).filter fun i => g (.int i)).map PyData.int ∧ (([1, 2] : List Int).filter fun i => g (.int i)).sum = (n : Int) := by
  simp only [List.filter_cons, List.filter_nil]
  cases g (.int 1) <;> cases g (.int 2)
  · exact ⟨0, by decide, rfl, rfl⟩
  · exact ⟨2, by decide, rfl, rfl⟩
  · exact ⟨1, by decide, rfl, rfl⟩
  · exact ⟨3, by decide, rfl, rfl⟩
theorem bits_flat (g : D → Bool) : ([PyData.int 1, .int 2].filter g).all flat = true ∧ ([PyData.int 1, .int 2].filter g).length ≤ 2 := by
  simp only [List.filter_cons, List.filter_nil]
  cases g (.int 1) <;> cases g (.int 2) <;> exact ⟨rfl, by decide⟩
theorem filter_all {g : D → Bool} {l : List D} (h : l.all flat = true) : (l.filter g).all flat = true := by
  rw [List.all_eq_true] at h ⊢
  exact fun x hx => h x (List.mem_filter.mp hx).1
theorem two_dead (W : List Cell) (x y : Cell) : ((W ++ [x] ++ [y]).set W.length .dead).set (W ++ [x]).length .dead = W ++ [.dead, .dead] := by
  rw [List.append_assoc, List.set_append_right _ _ (Nat.le_refl _), Nat.sub_self]
  show (W ++ [.dead, y]).set (W ++ [x]).length .dead = _
  rw [List.set_append_right _ _ (by rw [List.length_append]; omega)]
  have e : (W ++ [x]).length - W.length = 1 := by
    rw [List.length_append]
    simp
  rw [e]
  rfl
theorem mid_at (a b c m : Cell) (l r : List Cell) : (a :: b :: c :: (l ++ m :: r))[l.length + 1 + 1 + 1]? = some m := by
  rw [List.getElem?_cons_succ, List.getElem?_cons_succ, List.getElem?_cons_succ, List.getElem?_append_right (Nat.le_refl _), Nat.sub_self]
  rfl
theorem mid_set (a b c m : Cell) (l r : List Cell) (z : Cell) : (a :: b :: c :: (l ++ m :: r)).set (l.length + 1 + 1 + 1) z = a :: b :: c :: (l ++ z :: r) := by
  rw [List.set_cons_succ, List.set_cons_succ, List.set_cons_succ, List.set_append_right _ _ (Nat.le_refl _), Nat.sub_self]
  rfl
theorem map_id' (l : List D) : l.map (fun d => d) = l := List.map_id' l
theorem ok_marks (F : Fun K "_law_marks" "_law_marks" s_l_marks f fd) (cD : Has P w K mg base 1 "_law_draw" (spL K φ_draw)) (cP : Has P w K mg base 2 "_law_pick" (spL K φ_pick)) (mR : mg "range" = none) (mT : mg "tuple" = none) (mS : mg "sum" = none) :
    FnOk P w K mg base CX0 3 f fd ["_law_pen_here"] (spL K (φ_gen 50)) := by
  refine ok_L F sc_l_marks (fun cs ds Q h => ?_) fun cs ds Q h cdv A outer s H E hr => ?_
  · obtain ⟨c, _, rfl, _⟩ := h
    rfl
  · obtain ⟨c, hp, rfl, hc, hq⟩ := h
    have nd := sc_l_marks.nd
    refine ds_cons (d1_par (i := 1) (j := 2) rfl nd rfl rfl (by decide) rfl rfl (by rfl) (da_cons (de_lstO (da_nil ⟨[], rfl, by decide, da_cons (de_lstO (da_nil ⟨[], rfl, by decide, da_nil ⟨_, _, rfl, ?_⟩⟩))⟩))))
    refine ds_cons (d1_for PassesOwn.never rfl (di_rng1 (by rfl) (by assumption) (de_plus (de_int (de_callL (by assumption) (by walk_at "room") (by rfl) (da_cons (de_var 0 rfl (by nofun) rfl (by walk_at "vis") (da_cons (de_int (da_nil ⟨_, _, [_], rfl, rfl, ?_⟩))))))))))
    refine ⟨_, _, hp, rfl, by omega, by omega, by omega, fun z0 cs hz0 hp => ?_⟩
    refine .int ⟨_, rfl, by omega, by omega, ?_⟩
    refine ⟨fun i δ' ω' => ∃ ops kns cs s3 s4 s5 s6 s7 s8 s9 s10 more, ω' = .lst cs :: .lst (ops.map opD) :: .lst (kns.map kD) :: more ∧ ops.length = i ∧ kns.length = i ∧ (∀ o ∈ ops, OpOk 4 o) ∧ (∀ q ∈ kns, KOk q) ∧ PenOk (c + 1 + 3 * i) cs ∧
      δ' = [.own 0, .own 1, .own 2, s3, s4, s5, s6, s7, s8, s9, s10, .no], ⟨[], [], _, .no, .no, .no, .no, .no, .no, .no, .no, [], rfl, rfl, rfl, nofun, nofun, hp.mono (by omega), rfl⟩, ?_, ?_⟩
    · rintro i d δ' ω' hd ⟨ops, kns, cs, s3, s4, s5, s6, s7, s8, s9, s10, more, rfl, hl1, hl2, ho, hk, hp, rfl⟩
      obtain ⟨hi', rfl⟩ := rgD_at hd
      refine dg_name (i := 3) nd rfl (.inl rfl) (by walk_at "mr") ?_
      refine ds_cons (d1_tupA rfl (pgs_cons (pg_name (i := 4) nd rfl (by walk_at "loc")) (pgs_cons (pg_name (i := 5) nd rfl (by walk_at "loc")) pgs_nil)) (.cons (.cons .nil)) (da_cons (de_callL (by assumption) (by walk_at "room") (by rfl) (da_cons (de_var 0 rfl (by nofun) rfl (by walk_at "vis") (da_cons (de_lst (da_cons (de_int (da_cons (de_int (da_cons (de_int (da_nil ?_))))))))))))))
      refine ⟨[_, _, _], rfl, by walk_at "sz", da_nil ⟨_, _, [_], rfl, rfl, ?_⟩⟩
      refine ⟨_, _, hp, rfl, by decide, by decide, by omega, fun t cs ht hp => ?_⟩
      obtain ⟨mark, hmk, rfl⟩ := mem_map_of (f := nD) (l := [1, 2, 3]) ht
      have hm3 : mark ≤ 3 := by
        simp only [List.mem_cons, List.not_mem_nil, or_false] at hmk
        omega
      refine da_cons (de_cmp op_gt (nomark _) (de_callL (by assumption) (by walk_at "room") (by rfl) (da_cons (de_var 0 rfl (by nofun) rfl (by walk_at "vis") (da_cons (de_int (da_nil ⟨_, _, [_], rfl, rfl, ?_⟩)))))))
      refine ⟨_, _, hp, rfl, by omega, by omega, by omega, fun pu cs hpu hp => ?_⟩
      refine de_int (rr_I0 (fun _ _ => .bl _) (da_nil ⟨rfl, by walk_at "sz", ?_⟩))
      generalize decide ((0 : Int) < (pu : Int)) = puts
      refine ds_cons (d1_asg (i := 6) nd rfl (by walk_at "loc") (de_lstO (da_nil ⟨[], rfl, by walk_at "sz", ?_⟩)))
      obtain ⟨L, hL⟩ : ∃ L, L = (Cell.lst cs :: .lst (ops.map opD) :: .lst (kns.map kD) :: more).length := ⟨_, rfl⟩
      have hLs : ∀ (a b c2 : Cell), (a :: b :: c2 :: more).length = L := fun a b c2 => by rw [hL]; rfl
      refine ds_cons (d1_for PassesOwn.never rfl (di_rng1 (by rfl) (by assumption) (de_int ⟨_, rfl, by omega, by omega, ?_⟩)))
      refine ⟨fun j δ' ω' => ∃ mvs s7 s8 s9 s10 more', ω' = .lst cs :: .lst (ops.map opD) :: .lst (kns.map kD) :: (more ++ .lst (mvs.map nD) :: more') ∧ mvs.length = j ∧ (∀ x ∈ mvs, x < 4) ∧
        δ' = [.own 0, .own 1, .own 2, .val (.int (0 + (i : Int))), .val (nD mark), .val (.bool puts), .own L, s7, s8, s9, s10, .no], ⟨[], s7, s8, s9, s10, [], ?_, rfl, nofun, ?_⟩, ?_, ?_⟩
      · rfl
      · rw [← hLs]
        rfl
      · rintro j d δ' ω' hd ⟨mvs, s7, s8, s9, s10, more', rfl, hml, hmx, rfl⟩
        obtain ⟨hj', rfl⟩ := rgD_at hd
        refine dg_name (i := 7) nd rfl (by walk_at "loc") (by walk_at "mr") ?_
        have ej : (0 : Int) + (j : Int) = ((j : Nat) : Int) := by omega
        rw [ej]
        refine ds_cons (d1_asg (i := 8) nd rfl (by walk_at "loc") (de_lc rfl nd (blkOk_by (own := [("_law_bit", 11)]) (N := n_l_marks) (sc := defScope s_l_marks) (by decide +kernel)) (di_tup (de_tup (da_cons (de_int (da_cons (de_int (da_nil ⟨[_, _], rfl, by walk_at "sz", _, rfl, ?_⟩)))))))))
        refine ⟨by decide, _, ⟨rfl, rfl⟩, lc_filt (fun d => match d with | .int b => PyData.eqv (.int ((j : Int) / b % 2)) (.int 1) | _ => false) (fun d => d) (fun l d hd s H C cl fp => ?_), ?_⟩
        · obtain ⟨b, rfl, hb⟩ : ∃ b : Int, d = .int b ∧ (b = 1 ∨ b = 2) := by
            match l, hd with
            | 0, hd => exact ⟨1, (Option.some.inj hd).symm, .inl rfl⟩
            | 1, hd => exact ⟨2, (Option.some.inj hd).symm, .inr rfl⟩
            | l + 2, hd => simp at hd
          refine dg_name (i := 11) nd rfl (.inl rfl) (by decide) ⟨?_, fun hg => ?_⟩
          · intro s H C cl fp
            exact dt_cmp (op_eqD (Room.units hr)) (nomark _) (de_mod (de_fdiv (de_var 7 rfl (by nofun) rfl (by walk_at "vis") ⟨_, rfl, (de_var 11 rfl (by nofun) rfl (by walk_at "vis") ⟨_, rfl, (by rcases hb with rfl | rfl <;> exact ⟨by decide, by decide⟩), ⟨_, rfl, de_int ⟨_, rfl, (by walk_at "ar"), de_int (rr_eqD (by walk_at "sh") (by walk_at "sh") ⟨_, rfl, rfl, rfl⟩)⟩⟩⟩)⟩)))
          · intro s H C cl fp
            exact de_var 11 rfl (by nofun) rfl (by walk_at "vis") ⟨rfl, rfl⟩
        generalize hg1 : (fun d => match d with | PyData.int b => PyData.eqv (.int ((j : Int) / b % 2)) (.int 1) | _ => false) = g1
        refine fun acc ω' hacc ⟨ew, ea⟩ => .inr ?_
        rw [List.take_length, map_id'] at ea
        subst ew ea
        refine ds_cons (d1_asg (i := 9) nd rfl (by walk_at "loc") (de_lc rfl nd (blkOk_by (own := [("_law_bit", 11)]) (N := n_l_marks) (sc := defScope s_l_marks) (by decide +kernel)) (di_tup (de_tup (da_cons (de_int (da_cons (de_int (da_nil ⟨[_, _], rfl, by walk_at "sz", _, rfl, ?_⟩)))))))))
        refine ⟨by decide, _, ⟨rfl, rfl⟩, lc_filt (fun d => match d with | .int b => PyData.eqv (.int ((mark : Int) / b % 2)) (.int 1) | _ => false) (fun d => d) (fun l d hd s H C cl fp => ?_), ?_⟩
        · obtain ⟨b, rfl, hb⟩ : ∃ b : Int, d = .int b ∧ (b = 1 ∨ b = 2) := by
            match l, hd with
            | 0, hd => exact ⟨1, (Option.some.inj hd).symm, .inl rfl⟩
            | 1, hd => exact ⟨2, (Option.some.inj hd).symm, .inr rfl⟩
            | l + 2, hd => simp at hd
          refine dg_name (i := 11) nd rfl (.inl rfl) (by decide) ⟨?_, fun hg => ?_⟩
          · intro s H C cl fp
            exact dt_cmp (op_eqD (Room.units hr)) (nomark _) (de_mod (de_fdiv (de_var 4 rfl (by nofun) rfl (by walk_at "vis") ⟨_, rfl, (de_var 11 rfl (by nofun) rfl (by walk_at "vis") ⟨_, rfl, (by rcases hb with rfl | rfl <;> exact ⟨by decide, by decide⟩), ⟨_, rfl, de_int ⟨_, rfl, (by walk_at "ar"), de_int (rr_eqD (by walk_at "sh") (by walk_at "sh") ⟨_, rfl, rfl, rfl⟩)⟩⟩⟩)⟩)))
          · intro s H C cl fp
            exact de_var 11 rfl (by nofun) rfl (by walk_at "vis") ⟨rfl, rfl⟩
        generalize hg2 : (fun d => match d with | PyData.int b => PyData.eqv (.int ((mark : Int) / b % 2)) (.int 1) | _ => false) = g2
        refine fun acc ω' hacc ⟨ew, ea⟩ => .inr ?_
        rw [List.take_length, map_id'] at ea
        subst ew ea
        obtain ⟨f1, l1⟩ := bits_flat g1
        obtain ⟨f2, l2⟩ := bits_flat g2
        obtain ⟨o1, ho1⟩ : ∃ o1, o1 = [PyData.int 1, .int 2].filter g1 := ⟨_, rfl⟩
        obtain ⟨o2, ho2⟩ : ∃ o2, o2 = [PyData.int 1, .int 2].filter g2 := ⟨_, rfl⟩
        rw [← ho1] at f1 l1 ⊢
        rw [← ho2] at f2 l2 ⊢
        obtain ⟨W, hW⟩ : ∃ W : List Cell, W = Cell.lst cs :: .lst (ops.map opD) :: .lst (kns.map kD) :: (more ++ .lst (mvs.map nD) :: more') := ⟨_, rfl⟩
        rw [← hW]
        have c8 : (W ++ [Cell.lst o1] ++ [Cell.lst o2])[W.length]? = some (.lst o1) := by
          rw [List.append_assoc, List.getElem?_append_right (Nat.le_refl _), Nat.sub_self]
          rfl
        have c9 : (W ++ [Cell.lst o1] ++ [Cell.lst o2])[(W ++ [Cell.lst o1]).length]? = some (.lst o2) := by
          rw [List.getElem?_append_right (Nat.le_refl _), Nat.sub_self]
          rfl
        refine ds_cons (d1_asgLc (i := 10) rfl nd rfl rfl (sw_true rfl rfl rfl (by decide +kernel)) (blkOk_by (own := [("_law_bit", 11)]) (N := n_l_marks) (sc := defScope s_l_marks) (by decide +kernel)) (di_tup (de_tup (da_cons (de_int (da_cons (de_int (da_nil ⟨[_, _], rfl, by walk_at "sz", _, rfl, ?_⟩))))))))
        refine ⟨by decide, _, ⟨rfl, rfl⟩, lc_filt (fun d => inD d (o1 ++ o2)) (fun d => d) (fun l d hd s H C cl fp => ?_), ?_⟩
        · obtain ⟨b, rfl, hb⟩ : ∃ b : Int, d = .int b ∧ (b = 1 ∨ b = 2) := by
            match l, hd with
            | 0, hd => exact ⟨1, (Option.some.inj hd).symm, .inl rfl⟩
            | 1, hd => exact ⟨2, (Option.some.inj hd).symm, .inr rfl⟩
            | l + 2, hd => simp at hd
          refine dg_name (i := 11) nd rfl (.inl rfl) (by decide) ⟨?_, fun hg => ?_⟩
          · intro s H C cl fp
            refine dt_cmp op_in_seq (by rfl) (de_var 11 rfl (by nofun) rfl (by walk_at "vis") (de_bin op_plus (de_var 8 rfl (by nofun) rfl (by walk_at "vis") (de_var 9 rfl (by nofun) rfl (by walk_at "vis") (rr_catO c8 c9 (by omega) (rr_in rfl (.lst _) ?_ ⟨_, rfl, rfl, rfl⟩))))))
            rw [List.all_append, f1, f2]
            rfl
          · intro s H C cl fp
            exact de_var 11 rfl (by nofun) rfl (by walk_at "vis") ⟨rfl, rfl⟩
        refine fun acc ω' hacc ⟨ew, ea⟩ => .inl ?_
        rw [List.take_length, map_id'] at ea
        subst ew ea
        obtain ⟨n3, hn3, e3, es3⟩ := bits_sum fun d => inD d (o1 ++ o2)
        rw [e3]
        refine ds_freeze (i := 8) rfl c8 ?_
        refine ds_freeze (i := 9) (kx := (W ++ [Cell.lst o1]).length) (ds := o2) rfl (by
          rw [List.getElem?_set_ne (by rw [List.length_append]; simp), c9]) ?_
        rw [two_dead, hW]
        have hLe : L = more.length + 1 + 1 + 1 := by
          rw [← hLs (.lst cs) (.lst (ops.map opD)) (.lst (kns.map kD))]
          rfl
        have eW : Cell.lst cs :: .lst (ops.map opD) :: .lst (kns.map kD) :: (more ++ .lst (mvs.map nD) :: more') ++ [Cell.dead, .dead] = Cell.lst cs :: .lst (ops.map opD) :: .lst (kns.map kD) :: (more ++ .lst (mvs.map nD) :: (more' ++ [Cell.dead, .dead])) := by
          simp
        rw [eW]
        have cL := mid_at (Cell.lst cs) (.lst (ops.map opD)) (.lst (kns.map kD)) (.lst (mvs.map nD)) more (more' ++ [Cell.dead, .dead])
        rw [← hLe] at cL
        have sL := mid_set (Cell.lst cs) (.lst (ops.map opD)) (.lst (kns.map kD)) (.lst (mvs.map nD)) more (more' ++ [Cell.dead, .dead])
        rw [← hLe] at sL
        refine ds_cons (d1_expr (de_append (de_var 6 rfl (by nofun) rfl (by walk_at "vis") ⟨_, _, rfl, cL, DE.mono (P := fun r ω' => ω' = Cell.lst cs :: .lst (ops.map opD) :: .lst (kns.map kD) :: (more ++ .lst (mvs.map nD) :: (more' ++ [Cell.dead, .dead])) ∧ ∃ n : Nat, n < 4 ∧ r = .val (nD n)) ?_ (fun r ω' hpost => ?_)⟩)))
        · refine de_if (dt_val (de_var 5 rfl (by nofun) rfl (by walk_at "vis") ⟨_, rfl, ?_⟩))
          refine ite2 (fun _ => ?_) (fun _ => ?_)
          · refine de_callB (cr_sum rfl) (by rfl) (by assumption) PyProof.Rows.boot_sum (da_cons (de_var 10 rfl (by nofun) rfl (by walk_at "vis") (da_nil (ra_sum ⟨rfl, n3, by omega, ?_⟩))))
            rw [es3]
            rfl
          · refine de_callB (cr_sum rfl) (by rfl) (by assumption) PyProof.Rows.boot_sum (da_cons (de_lc rfl nd (blkOk_by (own := [("_law_bit", 11)]) (N := n_l_marks) (sc := defScope s_l_marks) (by decide +kernel)) (di_lst (de_var 8 rfl (by nofun) rfl (by walk_at "vis") ⟨o1, rfl, ?_⟩))))
            refine ⟨by omega, _, ⟨rfl, rfl⟩, lc_filt (fun d => !inD d o2) (fun d => d) (fun l d hd s H C cl fp => ?_), ?_⟩
            · have hfd : flat d = true := List.all_eq_true.mp f1 d (List.mem_of_getElem? hd)
              refine dg_name (i := 11) nd rfl (.inl rfl) (by decide) ⟨?_, fun hg => ?_⟩
              · intro s H C cl fp
                exact dt_cmp op_notIn_seq (by rfl) (de_var 11 rfl (by nofun) rfl (by walk_at "vis") (de_var 9 rfl (by nofun) rfl (by walk_at "vis") (rr_in hfd (.lst _) f2 ⟨_, rfl, rfl, rfl⟩)))
              · intro s H C cl fp
                exact de_var 11 rfl (by nofun) rfl (by walk_at "vis") ⟨rfl, rfl⟩
            refine fun acc ω' hacc ⟨ew, ea⟩ => .inl ?_
            rw [List.take_length, map_id', ho1, List.filter_filter] at ea
            subst ew ea
            obtain ⟨n4, hn4, e4, es4⟩ := bits_sum fun d => !inD d o2 && g1 d
            rw [e4]
            refine da_nil (ra_sum ⟨rfl, n4, by omega, ?_⟩)
            rw [es4]
            rfl
        · obtain ⟨rfl, n, hn, rfl⟩ := hpost
          refine ⟨_, _, rfl, cL, by rw [List.length_map]; omega, ?_⟩
          rw [sL]
          refine ds_nil ⟨mvs ++ [n], _, _, _, _, more' ++ [Cell.dead, .dead], ?_, by rw [List.length_append, hml]; rfl, snoc_all hmx hn, rfl⟩
          rw [← snoc_map]
      · rintro δ' ω' ⟨mvs, s7, s8, s9, s10, more', rfl, hml, hmx, rfl⟩
        have hLe : L = more.length + 1 + 1 + 1 := by
          rw [← hLs (.lst cs) (.lst (ops.map opD)) (.lst (kns.map kD))]
          rfl
        have cL := mid_at (Cell.lst cs) (.lst (ops.map opD)) (.lst (kns.map kD)) (.lst (mvs.map nD)) more more'
        rw [← hLe] at cL
        rw [rgD_len] at hml
        refine ds_cons (d1_expr (de_append (de_var 1 rfl (by nofun) rfl (by walk_at "vis") ⟨_, _, rfl, rfl, (de_callTy call_tuple_of (by rfl) (by assumption) PyProof.Rows.boot_tuple (da_cons (de_var 6 rfl (by nofun) rfl (by walk_at "vis") (da_nil (ra_tuple (.own cL) ⟨_, _, rfl, rfl, ?_, ?_⟩)))))⟩)))
        · rw [List.length_map]
          omega
        refine ds_cons (d1_expr (de_append (de_var 2 rfl (by nofun) rfl (by walk_at "vis") ⟨_, _, rfl, rfl, (de_callL (by assumption) (by walk_at "room") (by rfl) (da_cons (de_var 0 rfl (by nofun) rfl (by walk_at "vis") (da_cons (de_lst (da_cons (de_none (da_cons (de_var 4 rfl (by nofun) rfl (by walk_at "vis") (da_cons (de_int (da_nil ?_))))))))))))⟩)))
        refine ⟨[_, _, _], rfl, by walk_at "sz", ?_⟩
        refine da_nil ⟨_, _, [_], rfl, rfl, ?_⟩
        refine ⟨_, _, hp, rfl, by walk_at "sz", by walk_at "sz", by omega, fun t cs ht hp => ?_⟩
        obtain ⟨q, rfl, hq2⟩ := kind_of (ks := [none, some mark, some 0]) ht (by
          intro q hq
          simp only [List.mem_cons, List.not_mem_nil, or_false] at hq
          rcases hq with rfl | rfl | rfl <;> first | exact kok_none | exact kok_some (by omega))
        refine ⟨_, _, rfl, rfl, ?_, ?_⟩
        · rw [List.length_map]
          omega
        refine ds_nil ⟨ops ++ [mvs], kns ++ [q], cs, _, _, _, _, _, _, _, _, more ++ .lst (mvs.map nD) :: more', ?_, by rw [List.length_append, hl1]; rfl, by rw [List.length_append, hl2]; rfl, snoc_all ho ⟨by omega, hmx⟩, snoc_all hk hq2, hp.mono (by omega), rfl⟩
        rw [← snoc_map, ← snoc_map]
        rfl
    · rintro δ' ω' ⟨ops, kns, cs, s3, s4, s5, s6, s7, s8, s9, s10, more, rfl, hl1, hl2, ho, hk, hp, rfl⟩
      rw [rgD_len] at hl1 hl2 hp
      refine ds_cons (d1_ret (de_tup (da_cons (de_int (da_cons (de_callL (by assumption) (by walk_at "room") (by rfl) (da_cons (de_var 0 rfl (by nofun) rfl (by walk_at "vis") (da_cons (de_int (da_nil ⟨_, _, [_], rfl, rfl, ?_⟩)))))))))))
      refine ⟨_, _, hp, rfl, by omega, by omega, by omega, fun r cs hr' hp => ?_⟩
      refine da_cons (de_callTy call_tuple_of (by rfl) (by assumption) PyProof.Rows.boot_tuple (da_cons (de_var 1 rfl (by nofun) rfl (by walk_at "vis") (da_nil (ra_tuple (by walk_at "seq") (da_cons (de_callTy call_tuple_of (by rfl) (by assumption) PyProof.Rows.boot_tuple (da_cons (de_var 2 rfl (by nofun) rfl (by walk_at "vis") (da_nil (ra_tuple (by walk_at "seq") (da_nil ?_))))))))))))
      refine ⟨[_, _, _, _], rfl, by walk_at "sz", ?_⟩
      exact ⟨_, _, rfl, rfl, hq ⟨4, r, ops, kns⟩ cs ⟨by show 1 ≤ 4; decide, by show 4 ≤ 6; decide, by show r < 4; omega, by show 1 ≤ ops.length; omega, by show ops.length ≤ 6; omega, ho, by show kns.length = ops.length; omega, hk⟩ (hp.mono (by omega))⟩
end
end
section
section
variable {P : Program} {w : World} {K : Fg} {mg : Str → Option Value} {base : Heap} {f : Addr} {fd : FuncData} {k : Nat}
theorem ok_turns (F : Fun K "_law_turns" "_law_turns" s_l_turns f fd) (cD : Has P w K mg base 1 "_law_draw" (spL K φ_draw)) (cP : Has P w K mg base 2 "_law_pick" (spL K φ_pick)) (mR : mg "range" = none) (mT : mg "tuple" = none) (mM : mg "max" = none) (mL : mg "list" = none) :
    FnOk P w K mg base CX0 3 f fd ["_law_pen_here"] (spL K (φ_gen 50)) := by
  refine ok_L F sc_l_turns (fun cs ds Q h => ?_) fun cs ds Q h cdv A outer s H E hr => ?_
  · obtain ⟨c, _, rfl, _⟩ := h
    rfl
  · obtain ⟨c, hp, rfl, hc, hq⟩ := h
    have nd := sc_l_turns.nd
    refine ds_cons (d1_tupA rfl (pgs_cons (pg_name (i := 1) nd rfl (by walk_at "loc")) (pgs_cons (pg_name (i := 2) nd rfl (by walk_at "loc")) (pgs_cons (pg_name (i := 3) nd rfl (by walk_at "loc")) pgs_nil))) (.cons (.cons (.cons .nil))) (da_cons (de_plus (de_int (de_callL (by assumption) (by walk_at "room") (by rfl) (da_cons (de_var 0 rfl (by nofun) rfl (by walk_at "vis") (da_cons (de_int (da_nil ⟨_, _, [_], rfl, rfl, ?_⟩))))))))))
    refine ⟨c, _, hp, rfl, by omega, by omega, by omega, fun m0 cs hm0 hp => ?_⟩
    obtain ⟨many, em⟩ : ∃ many : Nat, many = 2 + m0 := ⟨_, rfl⟩
    have e1 : (2 : Int) + (m0 : Int) = (many : Int) := by omega
    refine .int ?_
    rw [e1]
    refine da_cons (de_lstO (da_nil ⟨[], rfl, by decide, da_cons (de_lstO (da_nil ⟨[], rfl, by decide, da_nil ⟨rfl, by walk_at "sz", ?_⟩⟩))⟩))
    refine ds_cons (d1_for PassesOwn.never rfl (di_rng1 (by rfl) (by assumption) (de_plus (de_int (de_callL (by assumption) (by walk_at "room") (by rfl) (da_cons (de_var 0 rfl (by nofun) rfl (by walk_at "vis") (da_cons (de_int (da_nil ⟨_, _, [_], rfl, rfl, ?_⟩))))))))))
    refine ⟨_, _, hp, rfl, by omega, by omega, by omega, fun z0 cs hz0 hp => ?_⟩
    refine .int ⟨_, rfl, by omega, by omega, ?_⟩
    refine ⟨fun i δ' ω' => ∃ ops kns cs s4 s5 s6 s7, ω' = [.lst cs, .lst (ops.map opD), .lst (kns.map kD)] ∧ ops.length = i ∧ kns.length = i ∧ (∀ o ∈ ops, OpOk many o) ∧ (∀ q ∈ kns, KOk q) ∧ PenOk (c + 2 + 3 * i) cs ∧
      δ' = [.own 0, .val (nD many), .own 1, .own 2, s4, s5, s6, s7, .no], ⟨[], [], _, .no, .no, .no, .no, rfl, rfl, rfl, nofun, nofun, hp.mono (by omega), rfl⟩, ?_, ?_⟩
    · rintro i d δ' ω' hd ⟨ops, kns, cs, s4, s5, s6, s7, rfl, hl1, hl2, ho, hk, hp, rfl⟩
      obtain ⟨hi', rfl⟩ := rgD_at hd
      refine dg_name (i := 4) nd rfl (by walk_at "loc") (by walk_at "mr") ?_
      refine ds_cons (d1_tupA rfl (pgs_cons (pg_name (i := 5) nd rfl (by walk_at "loc")) (pgs_cons (pg_name (i := 6) nd rfl (by walk_at "loc")) pgs_nil)) (.cons (.cons .nil)) (da_cons (de_callL (by assumption) (by walk_at "room") (by rfl) (da_cons (de_var 0 rfl (by nofun) rfl (by walk_at "vis") (da_cons (de_int (da_nil ⟨_, _, [_], rfl, rfl, ?_⟩))))))))
      refine ⟨_, _, hp, rfl, by omega, by omega, by omega, fun way cs hway hp => ?_⟩
      refine da_cons (de_callL (by assumption) (by walk_at "room") (by rfl) (da_cons (de_var 0 rfl (by nofun) rfl (by walk_at "vis") (da_cons (de_var 1 rfl (by nofun) rfl (by walk_at "vis") (da_nil ⟨_, _, [_], rfl, rfl, ?_⟩))))))
      refine ⟨_, _, hp, rfl, by omega, by omega, by omega, fun v cs hv hp => ?_⟩
      refine da_nil ⟨rfl, by walk_at "sz", ?_⟩
      have hv2 : v < many := by omega
      have row : ∀ g : Nat → Nat, (∀ s, s < many → g s < many) → OpOk many ((List.range many).map g) := fun g hg => ⟨by rw [List.length_map, List.length_range], fun x hx => by
        obtain ⟨s, hs, rfl⟩ := List.mem_map.mp hx
        exact hg s (List.mem_range.mp hs)⟩
      have emap : ∀ g : Nat → Nat, ((rgD 0 ((many : Nat) : Int)).map fun d => match d with | .int s => nD (g s.toNat) | _ => .none) = ((List.range many).map g).map nD := fun g => by
        rw [rgD0, List.map_map, List.map_map]
        rfl
      refine ds_cons (d1_asgLc (i := 7) rfl nd rfl rfl (sw_true rfl rfl rfl (by decide +kernel)) (blkOk_by (own := [("_law_state", 8)]) (N := n_l_turns) (sc := defScope s_l_turns) (by decide +kernel)) (di_rng1 (by rfl) (by assumption) (de_var 1 rfl (by nofun) rfl (by walk_at "vis") ⟨_, rfl, by omega, by omega, ?_⟩)))
      refine ⟨by rw [rgD_len]; omega, _, ⟨rfl, rfl⟩, lc_map (fun d => match d with | .int s => nD ((s.toNat + v) % many) | _ => .none) (fun j d hd s H C cl fp => ?_), fun acc ω' hacc ⟨ew, ea⟩ => .inl ?_⟩
      · obtain ⟨hj, rfl⟩ := rgD_at hd
        refine dg_name (i := 8) nd rfl (.inl rfl) (by decide) ?_
        intro s H C cl fp
        refine de_mod (de_plus (de_var 8 rfl (by nofun) rfl (by walk_at "vis") (de_var 6 rfl (by nofun) rfl (by walk_at "vis") (.int ⟨_, rfl, (de_var 1 rfl (by nofun) rfl (by walk_at "vis") ⟨_, rfl, by omega, ?_, rfl⟩)⟩))))
        show Sl.val (.int _) = Sl.val (.int _)
        congr 2
        all_goals first | done | omega
      rw [List.take_length, emap (fun s => (s + v) % many)] at ea
      subst ew ea
      have r0 := row (fun s => (s + v) % many) fun s hs => Nat.mod_lt _ (by omega)
      generalize (List.range many).map (fun s => (s + v) % many) = mv at r0 ⊢
      refine ds_cut (fun δ' ω' => ω' = [.lst cs, .lst (ops.map opD), .lst (kns.map kD)] ∧ ∃ mv, OpOk many mv ∧ δ' = [.own 0, .val (nD many), .own 1, .own 2, .val (.int (0 + (i : Int))), .val (nD way), .val (nD v), .val (.list (mv.map nD)), .no]) (d1_if (dt_cmp (op_eqD (Room.units hr)) (nomark _) (de_var 5 rfl (by nofun) rfl (by walk_at "vis") (de_int (rr_eqD (by walk_at "sh") (by walk_at "sh") ⟨_, rfl, ?_⟩))))) ?_
      · refine ite2 (fun _ => ?_) (fun _ => ds_nil ⟨rfl, mv, r0, rfl⟩)
        refine ds_cons (d1_asgLc (i := 7) rfl nd rfl rfl (sw_true rfl rfl rfl (by decide +kernel)) (blkOk_by (own := [("_law_state", 8)]) (N := n_l_turns) (sc := defScope s_l_turns) (by decide +kernel)) (di_rng1 (by rfl) (by assumption) (de_var 1 rfl (by nofun) rfl (by walk_at "vis") ⟨_, rfl, by omega, by omega, ?_⟩)))
        refine ⟨by rw [rgD_len]; omega, _, ⟨rfl, rfl⟩, lc_map (fun d => match d with | .int s => nD (max s.toNat v) | _ => .none) (fun j d hd s H C cl fp => ?_), fun acc ω' hacc ⟨ew, ea⟩ => .inl ?_⟩
        · obtain ⟨hj, rfl⟩ := rgD_at hd
          refine dg_name (i := 8) nd rfl (.inl rfl) (by decide) ?_
          intro s H C cl fp
          refine de_callB (call_max2 rfl) (by rfl) (by assumption) PyProof.Rows.boot_max (da_cons (de_var 8 rfl (by nofun) rfl (by walk_at "vis") (da_cons (de_var 6 rfl (by nofun) rfl (by walk_at "vis") (da_nil (ra_max2 ⟨?_, rfl⟩))))))
          show Sl.val (.int _) = Sl.val (.int _)
          congr 2
          split <;> omega
        rw [List.take_length, emap (fun s => max s v)] at ea
        subst ew ea
        exact ds_nil ⟨rfl, _, row (fun s => max s v) fun s hs => by omega, rfl⟩
      rintro δ' ω' ⟨rfl, mv, r0, rfl⟩
      refine ds_cut (fun δ' ω' => ω' = [.lst cs, .lst (ops.map opD), .lst (kns.map kD)] ∧ ∃ mv, OpOk many mv ∧ δ' = [.own 0, .val (nD many), .own 1, .own 2, .val (.int (0 + (i : Int))), .val (nD way), .val (nD v), .val (.list (mv.map nD)), .no]) (d1_if (dt_cmp (op_eqD (Room.units hr)) (nomark _) (de_var 5 rfl (by nofun) rfl (by walk_at "vis") (de_int (rr_eqD (by walk_at "sh") (by walk_at "sh") ⟨_, rfl, ?_⟩))))) ?_
      · refine ite2 (fun _ => ?_) (fun _ => ds_nil ⟨rfl, mv, r0, rfl⟩)
        refine ds_cons (d1_asgLc (i := 7) rfl nd rfl rfl (sw_true rfl rfl rfl (by decide +kernel)) (blkOk_by (own := [("_law_state", 8)]) (N := n_l_turns) (sc := defScope s_l_turns) (by decide +kernel)) (di_rng1 (by rfl) (by assumption) (de_var 1 rfl (by nofun) rfl (by walk_at "vis") ⟨_, rfl, by omega, by omega, ?_⟩)))
        refine ⟨by rw [rgD_len]; omega, _, ⟨rfl, rfl⟩, lc_map (fun d => match d with | .int s => nD v | _ => .none) (fun j d hd s H C cl fp => ?_), fun acc ω' hacc ⟨ew, ea⟩ => .inl ?_⟩
        · obtain ⟨hj, rfl⟩ := rgD_at hd
          refine dg_name (i := 8) nd rfl (.inl rfl) (by decide) ?_
          intro s H C cl fp
          exact de_var 6 rfl (by nofun) rfl (by walk_at "vis") ⟨rfl, rfl⟩
        rw [List.take_length, emap (fun s => v)] at ea
        subst ew ea
        exact ds_nil ⟨rfl, _, row (fun s => v) fun s hs => hv2, rfl⟩
      rintro δ' ω' ⟨rfl, mv, r0, rfl⟩
      refine ds_cut (fun δ' ω' => ω' = [.lst cs, .lst (ops.map opD), .lst (kns.map kD)] ∧ ∃ mv, OpOk many mv ∧ δ' = [.own 0, .val (nD many), .own 1, .own 2, .val (.int (0 + (i : Int))), .val (nD way), .val (nD v), .val (.list (mv.map nD)), .no]) (d1_if (dt_cmp (op_eqD (Room.units hr)) (nomark _) (de_var 5 rfl (by nofun) rfl (by walk_at "vis") (de_int (rr_eqD (by walk_at "sh") (by walk_at "sh") ⟨_, rfl, ?_⟩))))) ?_
      · refine ite2 (fun _ => ?_) (fun _ => ds_nil ⟨rfl, mv, r0, rfl⟩)
        refine ds_cons (d1_asg (i := 7) nd rfl (by walk_at "loc") (de_lstRg1 rfl (by rfl) (by assumption) (by rfl) (by assumption) (de_var 1 rfl (by nofun) rfl (by walk_at "vis") ⟨_, rfl, (by walk_at "ar"), (by walk_at "ar"), ?_⟩)))
        rw [rgD0]
        refine ds_nil ⟨rfl, _, row (fun s => s) fun s hs => hs, ?_⟩
        rw [List.map_id']
        rfl
      rintro δ' ω' ⟨rfl, mv, r0, rfl⟩
      refine ds_cons (d1_expr (de_append (de_var 2 rfl (by nofun) rfl (by walk_at "vis") ⟨_, _, rfl, rfl, (de_callTy call_tuple_of (by rfl) (by assumption) PyProof.Rows.boot_tuple (da_cons (de_var 7 rfl (by nofun) rfl (by walk_at "vis") (da_nil (ra_tuple (by walk_at "seq") ⟨_, _, rfl, rfl, ?_, ?_⟩)))))⟩)))
      · rw [List.length_map]
        omega
      refine ds_cons (d1_expr (de_append (de_var 3 rfl (by nofun) rfl (by walk_at "vis") ⟨_, _, rfl, rfl, (de_callL (by assumption) (by walk_at "room") (by rfl) (da_cons (de_var 0 rfl (by nofun) rfl (by walk_at "vis") (da_cons (de_lst (da_cons (de_none (da_cons (de_var 5 rfl (by nofun) rfl (by walk_at "vis") (da_cons (de_int (da_nil ?_))))))))))))⟩)))
      refine ⟨[_, _, _], rfl, by walk_at "sz", ?_⟩
      refine da_nil ⟨_, _, [_], rfl, rfl, ?_⟩
      refine ⟨_, _, hp, rfl, by walk_at "sz", by walk_at "sz", by omega, fun t cs ht hp => ?_⟩
      obtain ⟨q, rfl, hq2⟩ := kind_of (ks := [none, some way, some 5]) ht (by
        intro q hq
        simp only [List.mem_cons, List.not_mem_nil, or_false] at hq
        rcases hq with rfl | rfl | rfl <;> first | exact kok_none | exact kok_some (by omega))
      refine ⟨_, _, rfl, rfl, ?_, ?_⟩
      · rw [List.length_map]
        omega
      refine ds_nil ⟨ops ++ [mv], kns ++ [q], cs, _, _, _, _, ?_, by rw [List.length_append, hl1]; rfl, by rw [List.length_append, hl2]; rfl, snoc_all ho r0, snoc_all hk hq2, hp.mono (by omega), rfl⟩
      rw [← snoc_map, ← snoc_map]
      rfl
    · rintro δ' ω' ⟨ops, kns, cs, s4, s5, s6, s7, rfl, hl1, hl2, ho, hk, hp, rfl⟩
      rw [rgD_len] at hl1 hl2 hp
      refine ds_cons (d1_ret (de_tup (da_cons (de_var 1 rfl (by nofun) rfl (by walk_at "vis") (da_cons (de_callL (by assumption) (by walk_at "room") (by rfl) (da_cons (de_var 0 rfl (by nofun) rfl (by walk_at "vis") (da_cons (de_var 1 rfl (by nofun) rfl (by walk_at "vis") (da_nil ⟨_, _, [_], rfl, rfl, ?_⟩)))))))))))
      refine ⟨_, _, hp, rfl, by omega, by omega, by omega, fun r cs hr' hp => ?_⟩
      refine da_cons (de_callTy call_tuple_of (by rfl) (by assumption) PyProof.Rows.boot_tuple (da_cons (de_var 2 rfl (by nofun) rfl (by walk_at "vis") (da_nil (ra_tuple (by walk_at "seq") (da_cons (de_callTy call_tuple_of (by rfl) (by assumption) PyProof.Rows.boot_tuple (da_cons (de_var 3 rfl (by nofun) rfl (by walk_at "vis") (da_nil (ra_tuple (by walk_at "seq") (da_nil ?_))))))))))))
      refine ⟨[_, _, _, _], rfl, by walk_at "sz", ?_⟩
      exact ⟨_, _, rfl, rfl, hq ⟨many, r, ops, kns⟩ cs ⟨by show 1 ≤ many; omega, by show many ≤ 6; omega, by show r < many; omega, by show 1 ≤ ops.length; omega, by show ops.length ≤ 6; omega, ho, by show kns.length = ops.length; omega, hk⟩ (hp.mono (by omega))⟩
end
end
section
/-! ### the law's system, log, cell -/
theorem cut_lo (ds : List D) (n : Nat) : cutD ds none (some (n : Int)) = ds.take n := by
  unfold cutD
  rw [HT.sIx_none, HT.sIx_nat, List.drop_zero, Nat.sub_zero]
  by_cases h : n ≤ ds.length
  · rw [Nat.min_eq_left h]
  · rw [Nat.min_eq_right (by omega), List.take_of_length_le (Nat.le_refl _), List.take_of_length_le (by omega)]
theorem cut_hi (ds : List D) (n : Nat) : cutD ds (some (n : Int)) none = ds.drop n := by
  unfold cutD
  rw [HT.sIx_none, HT.sIx_nat]
  by_cases h : n ≤ ds.length
  · rw [Nat.min_eq_left h, List.take_of_length_le (by rw [List.length_drop]; omega)]
  · rw [Nat.min_eq_right (by omega), List.drop_eq_nil_of_le (Nat.le_refl _), List.drop_eq_nil_of_le (by omega), List.take_nil]
theorem put_all {α : Type} {p : α → Prop} {l : List α} {x : α} (n : Nat) (h : ∀ y ∈ l, p y) (hx : p x) : ∀ y ∈ l.take n ++ [x] ++ l.drop (n + 1), p y := fun y hy => by
  rcases List.mem_append.mp hy with q | q
  · rcases List.mem_append.mp q with q | q
    · exact h y (List.mem_of_mem_take q)
    · rw [List.mem_singleton.mp q]
      exact hx
  · exact h y (List.mem_of_mem_drop q)
theorem put_map {α β : Type} (f : α → β) (l : List α) (x : α) (n : Nat) : (l.take n).map f ++ [f x] ++ (l.drop (n + 1)).map f = (l.take n ++ [x] ++ l.drop (n + 1)).map f := by
  rw [List.map_append, List.map_append]
  rfl
theorem put_len {α : Type} {l : List α} {x : α} {n : Nat} (h : n < l.length) : (l.take n ++ [x] ++ l.drop (n + 1)).length = l.length := by
  rw [List.length_append, List.length_append, List.length_take, List.length_drop, List.length_singleton]
  omega
def φ_log : List D → List D → (D → List D → Prop) → Prop := fun cs ds P => ∃ (c : Int) (S : Sys) (cap : Nat), PenOk c cs ∧ ds = [sysD S, nD cap] ∧ S.Ok ∧ cap ≤ 1000 ∧ c ≤ 900000 ∧ ∀ (l : List Nat) cs', LogOk S l → l.length ≤ cap → PenOk (c + 1 + cap) cs' → P (logD l) cs'
def φ_cell : List D → (D → Prop) → Prop := fun ds P => ∃ (ns : List Int) (k : Nat), ds = [.list (ns.map PyData.int), nD k] ∧ ∀ i : Int, P (.int i)
section
variable {P : Program} {w : World} {K : Fg} {mg : Str → Option Value} {base : Heap} {f : Addr} {fd : FuncData} {k : Nat}
theorem ok_system (F : Fun K "_law_system" "_law_system" s_l_system f fd) (cD : Has P w K mg base 1 "_law_draw" (spL K φ_draw)) (c1 : Has P w K mg base 3 "_law_drawn" (spL K (φ_gen 50))) (c2 : Has P w K mg base 3 "_law_cells" (spL K (φ_gen 50)))
    (c3 : Has P w K mg base 3 "_law_marks" (spL K (φ_gen 50))) (c4 : Has P w K mg base 3 "_law_turns" (spL K (φ_gen 50))) (mL : mg "len" = none) :
    FnOk P w K mg base CX0 4 f fd ["_law_pen_here"] (spL K (φ_gen 60)) := by
  refine ok_L F sc_l_system (fun cs ds Q h => ?_) fun cs ds Q h cdv A outer s H E hr => ?_
  · obtain ⟨c, _, rfl, _⟩ := h
    rfl
  · obtain ⟨c, hp, rfl, hc, hq⟩ := h
    have nd := sc_l_system.nd
    refine ds_cons (d1_asg (i := 1) nd rfl (by walk_at "loc") (de_callL (by assumption) (by walk_at "room") (by rfl) (da_cons (de_var 0 rfl (by nofun) rfl (by walk_at "vis") (da_cons (de_int (da_nil ⟨_, _, [_], rfl, rfl, ?_⟩)))))))
    refine ⟨c, _, hp, rfl, by omega, by omega, by omega, fun way cs hway hp => ?_⟩
    refine ds_cons (d1_if (dt_cmp (op_eqD (Room.units hr)) (nomark _) (de_var 1 rfl (by nofun) rfl (by walk_at "vis") (de_int (rr_eqD (by walk_at "sh") (by walk_at "sh") ⟨_, rfl, ?_⟩)))))
    refine ite2 (fun hc => ?_) (fun hc => ?_)
    · -- return _law_drawn(_law_pen_here)
      refine ds_cons (d1_ret (de_callL (by assumption) (by walk_at "room") (by rfl) (da_cons (de_var 0 rfl (by nofun) rfl (by walk_at "vis") (da_nil ⟨_, _, [], rfl, rfl, ?_⟩)))))
      exact ⟨_, hp, rfl, by omega, fun S cs hS hp => ⟨_, _, rfl, rfl, hq S cs hS (hp.mono (by omega))⟩⟩
    refine ds_nil ?_
    refine ds_cut (fun δ' ω' => ∃ S cs, S.Ok ∧ PenOk (c + 51) cs ∧ ω' = [.lst cs] ∧ δ' = [.own 0, .val (nD way), .val (sysD S), .no, .no, .no, .no, .no, .no, .no]) (d1_asg (i := 2) nd rfl (by walk_at "loc") (de_if (dt_cmp op_lt (nomark _) (de_var 1 rfl (by nofun) rfl (by walk_at "vis") (de_int (rr_I0 (fun _ _ => .bl _) ⟨_, rfl, ?_⟩)))))) ?_
    · refine ite2 (fun _ => ?_) (fun _ => ?_)
      · refine de_callL (by assumption) (by walk_at "room") (by rfl) (da_cons (de_var 0 rfl (by nofun) rfl (by walk_at "vis") (da_nil ⟨_, _, [], rfl, rfl, ?_⟩)))
        exact ⟨_, hp, rfl, by omega, fun S cs hS hp => ⟨S, cs, hS, hp.mono (by omega), rfl, rfl⟩⟩
      · refine de_if (dt_cmp (op_eqD (Room.units hr)) (nomark _) (de_var 1 rfl (by nofun) rfl (by walk_at "vis") (de_int (rr_eqD (by walk_at "sh") (by walk_at "sh") ⟨_, rfl, ?_⟩))))
        refine ite2 (fun _ => ?_) (fun _ => ?_)
        · refine de_callL (by assumption) (by walk_at "room") (by rfl) (da_cons (de_var 0 rfl (by nofun) rfl (by walk_at "vis") (da_nil ⟨_, _, [], rfl, rfl, ?_⟩)))
          exact ⟨_, hp, rfl, by omega, fun S cs hS hp => ⟨S, cs, hS, hp.mono (by omega), rfl, rfl⟩⟩
        · refine de_callL (by assumption) (by walk_at "room") (by rfl) (da_cons (de_var 0 rfl (by nofun) rfl (by walk_at "vis") (da_nil ⟨_, _, [], rfl, rfl, ?_⟩)))
          exact ⟨_, hp, rfl, by omega, fun S cs hS hp => ⟨S, cs, hS, hp.mono (by omega), rfl, rfl⟩⟩
    rintro δ' ω' ⟨S, cs, hS, hp, rfl, rfl⟩
    refine ds_cons (d1_if (dt_cmp op_gt (nomark _) (de_callL (by assumption) (by walk_at "room") (by rfl) (da_cons (de_var 0 rfl (by nofun) rfl (by walk_at "vis") (da_cons (de_int (da_nil ⟨_, _, [_], rfl, rfl, ?_⟩))))))))
    refine ⟨_, _, hp, rfl, by omega, by omega, by omega, fun z cs hz hp => ?_⟩
    refine de_int (rr_I0 (fun _ _ => .bl _) ⟨_, rfl, ?_⟩)
    refine ite2 (fun _ => ?_) (fun _ => ?_)
    · exact ds_cons (d1_ret (de_var 2 rfl (by nofun) rfl (by walk_at "vis") ⟨_, _, rfl, rfl, hq S cs hS (hp.mono (by omega))⟩))
    refine ds_nil ?_
    refine ds_cons (d1_unp rfl (pgs_cons (pg_name (i := 3) nd rfl (by walk_at "loc")) (pgs_cons (pg_name (i := 4) nd rfl (by walk_at "loc")) (pgs_cons (pg_name (i := 5) nd rfl (by walk_at "loc")) (pgs_cons (pg_name (i := 6) nd rfl (by walk_at "loc")) pgs_nil)))) (.cons (.cons (.cons (.cons .nil)))) (de_var 2 rfl (by nofun) rfl (by walk_at "vis") ⟨_, rfl, rfl, ?_⟩))
    refine ds_cons (d1_par (i := 7) (j := 8) rfl nd rfl rfl (by decide) rfl rfl (by rfl) (da_cons (de_callL (by assumption) (by walk_at "room") (by rfl) (da_cons (de_var 0 rfl (by nofun) rfl (by walk_at "vis") (da_cons (de_callB call_len_seq (by rfl) (by assumption) PySem.boot_len (da_cons (de_var 5 rfl (by nofun) rfl (by walk_at "vis") (da_nil (ra_len (by walk_at "seq") (da_nil ⟨_, _, [_], rfl, rfl, ?_⟩))))))))))))
    have hO1 := hS.o1
    have hO6 := hS.o6
    have hN1 := hS.n1
    have hN6 := hS.n6
    rw [List.length_map]
    refine ⟨_, _, hp, rfl, by omega, by omega, by omega, fun at' cs hat hp => ?_⟩
    refine da_cons (de_callL (by assumption) (by walk_at "room") (by rfl) (da_cons (de_var 0 rfl (by nofun) rfl (by walk_at "vis") (da_cons (de_var 3 rfl (by nofun) rfl (by walk_at "vis") (da_nil ⟨_, _, [_], rfl, rfl, ?_⟩))))))
    refine ⟨_, _, hp, rfl, by omega, by omega, by omega, fun st cs hst hp => ?_⟩
    refine da_nil ⟨_, _, rfl, ?_⟩
    have hat2 : at' < S.ops.length := by omega
    have hst2 : st < S.n := by omega
    obtain ⟨o, ho⟩ : ∃ o, S.ops[at']? = some o := ⟨_, List.getElem?_eq_getElem hat2⟩
    have hoo := hS.op o (List.mem_of_getElem? ho)
    have eat : atI (S.ops.map opD) ((at' : Nat) : Int) = some (opD o) := atI_nat (by rw [List.getElem?_map, ho]; rfl)
    refine ds_cons (d1_asg (i := 9) nd rfl (by walk_at "loc") (de_plus (de_plus (de_sliceT (de_ix (fun _ _ => rfl) (de_var 5 rfl (by nofun) rfl (by walk_at "vis") (de_var 7 rfl (by nofun) rfl (by walk_at "vis") ⟨_, _, _, rfl, .tup _, eat, ?_⟩)))))))
    refine ⟨_, rfl, (de_var 8 rfl (by nofun) rfl (by walk_at "vis") ⟨_, rfl, (de_tup (da_cons (de_callL (by assumption) (by walk_at "room") (by rfl) (da_cons (de_var 0 rfl (by nofun) rfl (by walk_at "vis") (da_cons (de_var 3 rfl (by nofun) rfl (by walk_at "vis") (da_nil ⟨_, _, [_], rfl, rfl, ?_⟩))))))))⟩)⟩
    refine ⟨_, _, hp, rfl, by omega, by omega, by omega, fun r cs hr' hp => ?_⟩
    refine da_nil ?_
    refine ⟨[_], rfl, by walk_at "sz", ?_⟩
    have hlo : ∀ n : Nat, (cutD (o.map nD) none (some (n : Int))) = (o.take n).map nD := fun n => by rw [cut_lo, List.map_take]
    have hhi : ∀ n : Nat, (cutD (o.map nD) (some (n : Int)) none) = (o.drop n).map nD := fun n => by rw [cut_hi, List.map_drop]
    rw [hlo]
    refine Plus.tup (by rw [List.length_map, List.length_take]; show _ + 1 ≤ _; have := hoo.1; omega) ?_
    refine de_sliceT (de_ix (fun _ _ => rfl) (de_var 5 rfl (by nofun) rfl (by walk_at "vis") (de_var 7 rfl (by nofun) rfl (by walk_at "vis") ⟨_, _, _, rfl, .tup _, eat, ?_⟩)))
    refine ⟨_, rfl, (de_plus (de_var 8 rfl (by nofun) rfl (by walk_at "vis") (de_int (.int ⟨_, rfl, ?_⟩))))⟩
    have est : ((st : Nat) : Int) + 1 = ((st + 1 : Nat) : Int) := by omega
    rw [est]
    show Plus _ _ _ _
    rw [hhi]
    have eown : (o.take st).map nD ++ [PyData.int (r : Int)] ++ (o.drop (st + 1)).map nD = (o.take st ++ [r] ++ o.drop (st + 1)).map nD := by
      rw [List.map_append, List.map_append]
      rfl
    have hl9 := put_len (x := r) (show st < o.length by rw [hoo.1]; exact hst2)
    refine Plus.tup (by
      rw [← List.length_append, eown, List.length_map, hl9]
      have := hoo.1
      omega) ?_
    rw [eown]
    have hown : OpOk S.n (o.take st ++ [r] ++ o.drop (st + 1)) := ⟨by rw [hl9]; exact hoo.1, put_all st hoo.2 (by omega)⟩
    refine ds_cons (d1_ret (de_tup (da_cons (de_var 3 rfl (by nofun) rfl (by walk_at "vis") (da_cons (de_var 4 rfl (by nofun) rfl (by walk_at "vis") (da_cons (de_plus (de_plus (de_sliceT (de_var 5 rfl (by nofun) rfl (by walk_at "vis") ⟨_, rfl, (de_var 7 rfl (by nofun) rfl (by walk_at "vis") ⟨_, rfl, (de_tup (da_cons (de_var 9 rfl (by nofun) rfl (by walk_at "vis") (da_nil ?_))))⟩)⟩)))))))))))
    refine ⟨[_], rfl, by walk_at "sz", ?_⟩
    rw [cut_lo, ← List.map_take]
    refine Plus.tup (by rw [List.length_map, List.length_take]; show _ + 1 ≤ _; omega) ?_
    refine de_sliceT (de_var 5 rfl (by nofun) rfl (by walk_at "vis") ⟨_, rfl, (de_plus (de_var 7 rfl (by nofun) rfl (by walk_at "vis") (de_int (.int ⟨_, rfl, ?_⟩))))⟩)
    have eat1 : ((at' : Nat) : Int) + 1 = ((at' + 1 : Nat) : Int) := by omega
    rw [eat1]
    show Plus _ _ _ _
    rw [cut_hi, ← List.map_drop]
    have eops := put_map opD S.ops (o.take st ++ [r] ++ o.drop (st + 1)) at'
    have hl10 := put_len (x := o.take st ++ [r] ++ o.drop (st + 1)) hat2
    refine Plus.tup (by
      rw [← List.length_append]
      exact Nat.le_trans (Nat.le_of_eq (congrArg List.length eops)) (by rw [List.length_map, hl10]; omega)) ?_
    have eops2 : (S.ops.take at').map opD ++ [PyData.tuple ((o.take st ++ [r] ++ o.drop (st + 1)).map nD)] ++ (S.ops.drop (at' + 1)).map opD = _ := eops
    rw [eops2]
    refine da_cons (de_var 6 rfl (by nofun) rfl (by walk_at "vis") (da_nil ?_))
    refine ⟨[_, _, _, _], rfl, by walk_at "sz", ?_⟩
    exact ⟨_, _, rfl, rfl, hq ⟨S.n, S.st, S.ops.take at' ++ [o.take st ++ [r] ++ o.drop (st + 1)] ++ S.ops.drop (at' + 1), S.kn⟩ cs ⟨hN1, hN6, hS.st, by rw [hl10]; exact hO1, by rw [hl10]; exact hO6, put_all at' hS.op hown, by rw [hl10]; exact hS.kl, hS.kk⟩ (hp.mono (by omega))⟩
end
end
section
section
variable {P : Program} {w : World} {K : Fg} {mg : Str → Option Value} {base : Heap} {f : Addr} {fd : FuncData} {k : Nat}
theorem ok_cell (F : Fun K "_law_cell_at" "_law_cell_at" s_l_cell_at f fd) (mL : mg "len" = none) : FnOk P w K mg base CX0 1 f fd ["_law_script", "_law_k"] (spP K φ_cell) := by
  refine ok_P F sc_l_cell_at (fun ds Q h => ?_) fun ds Q h cdv A outer s H E hr => ?_
  · obtain ⟨ns, j, rfl, _⟩ := h
    rfl
  · obtain ⟨ns, j, rfl, hq⟩ := h
    have nd := sc_l_cell_at.nd
    refine ds_cons (d1_if (dt_cmp op_lt (nomark _) (de_var 1 rfl (by nofun) rfl (by walk_at "vis") (de_callB call_len_seq (by rfl) (by assumption) PySem.boot_len (da_cons (de_var 0 rfl (by nofun) rfl (by walk_at "vis") (da_nil (ra_len (.lst _) (rr_I0 (fun _ _ => .bl _) ⟨_, rfl, ?_⟩)))))))))
    refine ite2 (fun hc => ?_) (fun hc => ?_)
    · have hc := of_decide_eq_true hc
      rw [List.length_map] at hc
      have hj : j < ns.length := by omega
      refine ds_cons (d1_ret (de_ix (fun _ _ => rfl) (de_var 0 rfl (by nofun) rfl (by walk_at "vis") (de_var 1 rfl (by nofun) rfl (by walk_at "vis") ?_))))
      exact ⟨_, _, _, rfl, .lst _, atI_nat (show (ns.map PyData.int)[j]? = some (PyData.int ns[j]) by rw [List.getElem?_map, List.getElem?_eq_getElem hj]; rfl), _, rfl, hq _⟩
    · exact ds_nil (ds_cons (d1_ret (de_int ⟨_, rfl, hq _⟩)))
end
end
section
/-! ### the program: numbers, places, systems, logs -/
def isNum (d : D) (lo hi : Int) : Bool := match d with
  | .int i => decide (lo ≤ i) && decide (i ≤ hi)
  | _ => false
def isPlaces (d : D) (n : Int) : Bool := match d with
  | .tuple ds => ds.all fun p => isNum p 0 (n - 1)
  | _ => false
def lenD (d : D) : Int := match d with
  | .tuple ds => ds.length
  | .list ds => ds.length
  | _ => 0
def isOps (d : D) (n : Int) : Bool := match d with
  | .tuple ds => decide (1 ≤ ds.length ∧ ds.length ≤ 6) && ds.all fun p => isPlaces p n && decide (lenD p = n)
  | _ => false
def isKinds (d : D) (m : Int) : Bool := match d with
  | .tuple ds => decide ((ds.length : Int) = m) && ds.all fun p => isNon p || isNum p 0 9
  | _ => false
def isSysD (d : D) : Bool := match d with
  | .tuple [.int n, s, o, k] => isNum (.int n) 1 6 && isNum s 0 (n - 1) && isOps o n && isKinds k (lenD o)
  | _ => false
/-- data of bounded size -/
def Sm (d : D) : Prop := d.bulk ≤ 100000
theorem bulk_len : ∀ es : List D, es.length ≤ PyData.bulkAll es
  | [] => Nat.le_refl _
  | x :: r => by
    have := bulk_len r
    show r.length + 1 ≤ x.bulk + 1 + PyData.bulkAll r
    omega
theorem bulk_mem : ∀ {es : List D} {p : D}, p ∈ es → p.bulk ≤ PyData.bulkAll es
  | x :: r, p, h => by
    show p.bulk ≤ x.bulk + 1 + PyData.bulkAll r
    rcases List.mem_cons.mp h with e | h
    · subst e
      omega
    · have := bulk_mem h
      omega
theorem sm_len {es : List D} (h : Sm (.tuple es)) : es.length ≤ 100000 := Nat.le_trans (bulk_len es) h
theorem sm_mem {es : List D} {p : D} (h : Sm (.tuple es)) (hp : p ∈ es) : Sm p := Nat.le_trans (bulk_mem hp) h
def φ_is_number : List D → (D → Prop) → Prop := fun ds P => ∃ d lo hi, ds = [d, .int lo, .int hi] ∧ P (.bool (isNum d lo hi))
def φ_is_place : List D → (D → Prop) → Prop := fun ds P => ∃ d n, ds = [d, .int n] ∧ P (.bool (isNum d 0 (n - 1)))
def φ_are_places : List D → (D → Prop) → Prop := fun ds P => ∃ d n, ds = [d, .int n] ∧ Sm d ∧ P (.bool (isPlaces d n))
section
variable {P : Program} {w : World} {K : Fg} {mg : Str → Option Value} {base : Heap} {f : Addr} {fd : FuncData} {k : Nat}
theorem ok_is_number (F : Fun K "is_number" "is_number" s_is_number f fd) (mI : mg "isinstance" = none) (mi : mg "int" = none) (mb : mg "bool" = none) : FnOk P w K mg base CX0 1 f fd ["thing", "least", "most"] (spP K φ_is_number) := by
  refine ok_P F sc_is_number (fun ds Q h => ?_) fun ds Q h cdv A outer s H E hr => ?_
  · obtain ⟨d, lo, hi, rfl, _⟩ := h
    rfl
  · obtain ⟨d, lo, hi, rfl, hq⟩ := h
    refine ds_cons (d1_ret (de_andB (x := isInt d) (y := isNum d lo hi) (de_isi (by rfl) (by assumption) (by rfl) (by assumption) PyProof.Rows.boot_int kit_int (de_var 0 rfl (by nofun) rfl (by walk_at "vis") ⟨_, rfl, fun hnd => ?_⟩)) (fun h1 => ?_) ?_))
    · rw [isi_int d hnd]
      exact ⟨rfl, rfl⟩
    · refine de_andB (x := !isBl d) (y := isNum d lo hi) (de_notV (de_isi (by rfl) (by assumption) (by rfl) (by assumption) PyProof.Rows.boot_bool kit_bool (de_var 0 rfl (by nofun) rfl (by walk_at "vis") ⟨_, rfl, fun hnd => ?_⟩))) (fun h2 => ?_) ?_
      · rw [isi_bool d hnd]
        exact ⟨_, rfl, rfl, rfl⟩
      · cases d with
        | int i =>
          refine de_one (de_chain op_le op_le (de_var 1 rfl (by nofun) rfl (by walk_at "vis") (de_var 0 rfl (by nofun) rfl (by walk_at "vis") (rr_I0 (fun _ _ => .bl _) ⟨_, rfl, ?_⟩))))
          refine ite2 (fun h3 => ?_) (fun h3 => ?_)
          · refine de_var 2 rfl (by nofun) rfl (by walk_at "vis") (rr_I0 (fun _ _ => .bl _) ⟨?_, rfl⟩)
            show _ = Sl.val (.bool (decide (lo ≤ i) && decide (i ≤ hi)))
            rw [h3]
            rfl
          · refine ⟨?_, rfl⟩
            show _ = Sl.val (.bool (decide (lo ≤ i) && decide (i ≤ hi)))
            have h3 := (Bool.not_eq_true _).mp h3
            rw [h3]
            rfl
        | none => cases h1
        | bool b => cases h2
        | str z => cases h1
        | list z => cases h1
        | tuple z => cases h1
        | dict z => cases h1
      · cases d <;> first | exact ⟨rfl, rfl⟩ | cases h1
    · refine ⟨_, rfl, ?_⟩
      have e : (isInt d && isNum d lo hi) = isNum d lo hi := by cases d <;> rfl
      rw [e]
      exact hq
theorem ok_is_place (F : Fun K "is_place" "is_place" s_is_place f fd) (c1 : Has P w K mg base 1 "is_number" (spP K φ_is_number)) : FnOk P w K mg base CX0 2 f fd ["thing", "many"] (spP K φ_is_place) := by
  refine ok_P F sc_is_place (fun ds Q h => ?_) fun ds Q h cdv A outer s H E hr => ?_
  · obtain ⟨d, n, rfl, _⟩ := h
    rfl
  · obtain ⟨d, n, rfl, hq⟩ := h
    refine ds_cons (d1_ret (de_call (by assumption) (by walk_at "room") (by rfl) (da_cons (de_var 0 rfl (by nofun) rfl (by walk_at "vis") (da_cons (de_int (da_cons (de_sub (de_var 1 rfl (by nofun) rfl (by walk_at "vis") ⟨_, rfl, (de_int ⟨_, rfl, (da_nil ⟨[_, _, _], rfl, ?_⟩)⟩)⟩)))))))))
    exact ⟨_, _, _, rfl, _, rfl, hq⟩
/-- all(..) of a comprehension that tells a bool of each item -/
theorem all_map (its : List D) (g : D → Bool) : its.map (fun d => PyData.bool (g d)) = (its.map g).map PyData.bool ∧ (its.map g).all id = its.all g := ⟨by rw [List.map_map]; rfl, by rw [List.all_map]; rfl⟩
theorem ok_are_places (F : Fun K "are_places" "are_places" s_are_places f fd) (c1 : Has P w K mg base 2 "is_place" (spP K φ_is_place)) (mI : mg "isinstance" = none) (mt : mg "tuple" = none) (ma : mg "all" = none) : FnOk P w K mg base CX0 3 f fd ["thing", "many"] (spP K φ_are_places) := by
  refine ok_P F sc_are_places (fun ds Q h => ?_) fun ds Q h cdv A outer s H E hr => ?_
  · obtain ⟨d, n, rfl, _⟩ := h
    rfl
  · obtain ⟨d, n, rfl, hz, hq⟩ := h
    have nd := sc_are_places.nd
    refine ds_cons (d1_ret (de_andB (x := isTup d) (y := isPlaces d n) (de_isi (by rfl) (by assumption) (by rfl) (by assumption) PyProof.Rows.boot_tuple kit_tuple (de_var 0 rfl (by nofun) rfl (by walk_at "vis") ⟨_, rfl, fun hnd => ?_⟩)) (fun h1 => ?_) ?_))
    · rw [isi_tuple d hnd]
      exact ⟨rfl, rfl⟩
    · cases d with
      | tuple es =>
        refine de_one (de_callB (cr_all rfl) (by rfl) (by assumption) PyProof.Rows.boot_all (da_cons ?_))
        refine de_lc rfl nd (blkOk_by (own := [("part", 2)]) (N := n_are_places) (sc := defScope s_are_places) (by decide +kernel)) (di_tup (de_var 0 rfl (by nofun) rfl (by walk_at "vis") ⟨es, rfl, ?_⟩))
        refine ⟨sm_len hz, _, ⟨rfl, rfl⟩, lc_map (fun d => .bool (isNum d 0 (n - 1))) (fun j d hd s H C cl fp => ?_), fun acc ω' hacc ⟨ew, ea⟩ => .inl ?_⟩
        · refine dg_name (i := 2) nd rfl (.inl rfl) (by decide) ?_
          intro s H C cl fp
          refine de_call (by assumption) (by walk_at "room") (by rfl) (da_cons (de_var 2 rfl (by nofun) rfl (by walk_at "vis") (da_cons (de_var 1 rfl (by nofun) rfl (by walk_at "vis") (da_nil ⟨[_, _], rfl, ?_⟩)))))
          exact ⟨_, _, rfl, rfl, rfl⟩
        · rw [List.take_length, (all_map es _).1] at ea
          subst ew ea
          refine da_nil (ra_all ⟨?_, rfl⟩)
          rw [(all_map es _).2]
          rfl
      | none => cases h1
      | bool b => cases h1
      | int b => cases h1
      | str z => cases h1
      | list z => cases h1
      | dict z => cases h1
    · refine ⟨_, rfl, ?_⟩
      have e : (isTup d && isPlaces d n) = isPlaces d n := by cases d <;> rfl
      rw [e]
      exact hq
end
end
section
def φ_are_operations : List D → (D → Prop) → Prop := fun ds P => ∃ d n, ds = [d, .int n] ∧ Sm d ∧ P (.bool (isOps d n))
def φ_are_kinds : List D → (D → Prop) → Prop := fun ds P => ∃ d n, ds = [d, .int n] ∧ Sm d ∧ P (.bool (isKinds d n))
def φ_is_system : List D → (D → Prop) → Prop := fun ds P => ∃ d, ds = [d] ∧ Sm d ∧ P (.bool (isSysD d))
def φ_is_log : List D → (D → Prop) → Prop := fun ds P => ∃ S d, ds = [sysD S, d] ∧ Sm d ∧ P (.bool (isPlaces d S.ops.length))
def φ_check_system : List D → (D → Prop) → Prop := fun ds P => ∃ d, ds = [d] ∧ Sm d ∧ isSysD d = true ∧ P .none
def φ_check_log : List D → (D → Prop) → Prop := fun ds P => ∃ S d, ds = [sysD S, d] ∧ Sm d ∧ isPlaces d S.ops.length = true ∧ P .none
section
variable {P : Program} {w : World} {K : Fg} {mg : Str → Option Value} {base : Heap} {f : Addr} {fd : FuncData} {k : Nat}
theorem rel_int {i : Int} {t : Tok} : RelV (.int i) (.int i t) := ⟨t, rfl⟩
theorem not_dec {p : Prop} [Decidable p] (h : (!decide p) = true) : ¬ p := fun z => by
  rw [decide_eq_true z] at h
  cases h
theorem yes_dec {p : Prop} [Decidable p] (h : ¬ (!decide p) = true) : p := by
  by_cases z : p
  · exact z
  · rw [decide_eq_false z] at h
    exact absurd rfl h
theorem isi_tuple_of (es : List D) : isiD "tuple" (.tuple es) = true := isi_tuple _ (fun _ => nofun)
theorem lenD_nat {d : D} {es : List D} (h : d = .tuple es) : lenD d = (es.length : Int) := by
  subst h
  rfl
theorem eqv_int (i j : Int) : PyData.eqv (.int i) (.int j) = decide (i = j) := by
  show (i == j) = _
  by_cases h : i = j
  · rw [decide_eq_true h, h]
    exact beq_self_eq_true j
  · rw [decide_eq_false h]
    exact beq_eq_false_iff_ne.mpr h
theorem ok_are_operations {t : Tok} (F : Fun K "are_operations" "are_operations" s_are_operations f fd) (c1 : Has P w K mg base 3 "are_places" (spP K φ_are_places)) (mI : mg "isinstance" = none) (mt : mg "tuple" = none) (ma : mg "all" = none) (ml : mg "len" = none) (mO : mg "MOST_OPERATIONS" = some (.int 6 t)) :
    FnOk P w K mg base CX0 4 f fd ["thing", "states"] (spP K φ_are_operations) := by
  refine ok_P F sc_are_operations (fun ds Q h => ?_) fun ds Q h cdv A outer s H E hr => ?_
  · obtain ⟨d, n, rfl, _⟩ := h
    rfl
  · obtain ⟨d, n, rfl, hz, hq⟩ := h
    have nd := sc_are_operations.nd
    refine ds_cons (d1_if (dt_w (dw_orB (x := !isTup d) (y := !decide (1 ≤ lenD d ∧ lenD d ≤ 6)) (dt_not (dt_val (de_isi (by rfl) (by assumption) (by rfl) (by assumption) PyProof.Rows.boot_tuple kit_tuple (de_var 0 rfl (by nofun) rfl (by walk_at "vis") ⟨_, rfl, fun hnd => ⟨_, rfl, ?_⟩⟩)))) (fun h1 => ?_) ?_)))
    · rw [isi_tuple d hnd]
      exact ⟨rfl, rfl⟩
    · cases d with
      | tuple es =>
        refine dw_or1 (dt_not (dt_chain op_le op_le (de_int (de_callB call_len_seq (by rfl) (by assumption) PySem.boot_len (da_cons (de_var 0 rfl (by nofun) rfl (by walk_at "vis") (da_nil (ra_len (.tup _) (rr_I0 (fun _ _ => .bl _) ⟨_, rfl, ?_⟩)))))))))
        refine ite2 (fun h3 => ?_) (fun h3 => ?_)
        · refine de_glob rfl (by assumption) rel_int (fun _ _ => .int _) (rr_I0 (fun _ _ => .bl _) ⟨_, rfl, ?_, rfl⟩)
          have h4 := of_decide_eq_true h3
          by_cases h5 : (es.length : Int) ≤ 6
          · rw [decide_eq_true h5, decide_eq_true (show 1 ≤ lenD (.tuple es) ∧ lenD (.tuple es) ≤ 6 from ⟨h4, h5⟩)]
          · rw [decide_eq_false h5, decide_eq_false (fun z : 1 ≤ lenD (.tuple es) ∧ lenD (.tuple es) ≤ 6 => h5 z.2)]
        · refine ⟨?_, rfl⟩
          rw [decide_eq_false (fun z : 1 ≤ lenD (.tuple es) ∧ lenD (.tuple es) ≤ 6 => h3 (decide_eq_true z.1))]
      | none => cases h1
      | bool b => cases h1
      | int b => cases h1
      | str z => cases h1
      | list z => cases h1
      | dict z => cases h1
    refine ite2 (fun h1 => ?_) (fun h1 => ?_)
    · refine ds_cons (d1_ret (de_bool ⟨_, rfl, ?_⟩))
      have e : isOps d n = false := by
        cases d with
        | tuple es =>
          have h2 : ¬ (1 ≤ es.length ∧ es.length ≤ 6) := by
            have h3 : ¬ (1 ≤ (es.length : Int) ∧ (es.length : Int) ≤ 6) := not_dec h1
            omega
          show (decide _ && _) = false
          rw [decide_eq_false h2]
          rfl
        | _ => rfl
      rw [← e]
      exact hq
    refine ds_nil ?_
    cases d with
    | tuple es =>
      have h2 : 1 ≤ es.length ∧ es.length ≤ 6 := by
        have h3 : 1 ≤ (es.length : Int) ∧ (es.length : Int) ≤ 6 := yes_dec h1
        omega
      refine ds_cons (d1_ret (de_callB (cr_all rfl) (by rfl) (by assumption) PyProof.Rows.boot_all (da_cons ?_)))
      refine de_lc rfl nd (blkOk_by (own := [("part", 2)]) (N := n_are_operations) (sc := defScope s_are_operations) (by decide +kernel)) (di_tup (de_var 0 rfl (by nofun) rfl (by walk_at "vis") ⟨es, rfl, ?_⟩))
      refine ⟨sm_len hz, _, ⟨rfl, rfl⟩, lc_map (fun d => .bool (isPlaces d n && decide (lenD d = n))) (fun j d hd s H C cl fp => ?_), fun acc ω' hacc ⟨ew, ea⟩ => .inl ?_⟩
      · refine dg_name (i := 2) nd rfl (.inl rfl) (by decide) ?_
        intro s H C cl fp
        refine de_andB (x := isPlaces d n) (y := decide (lenD d = n)) ?_ (fun h3 => ?_) ⟨rfl, rfl⟩
        · refine de_call (by assumption) (by walk_at "room") (by rfl) (da_cons (de_var 2 rfl (by nofun) rfl (by walk_at "vis") (da_cons (de_var 1 rfl (by nofun) rfl (by walk_at "vis") (da_nil ⟨[_, _], rfl, ?_⟩)))))
          exact ⟨_, _, rfl, sm_mem hz (List.mem_of_getElem? hd), rfl, rfl⟩
        · cases d with
          | tuple us =>
            refine de_one (de_cmp (op_eqD (Room.units hr)) (nomark _) (de_callB call_len_seq (by rfl) (by assumption) PySem.boot_len (da_cons (de_var 2 rfl (by nofun) rfl (by walk_at "vis") (da_nil (ra_len (.tup _) (de_var 1 rfl (by nofun) rfl (by walk_at "vis") (rr_eqD (by walk_at "sh") (by walk_at "sh") ⟨?_, rfl⟩))))))))
            rw [eqv_int]
            rfl
          | _ => cases h3
      · rw [List.take_length, (all_map es _).1] at ea
        subst ew ea
        refine da_nil (ra_all ⟨_, rfl, ?_⟩)
        rw [(all_map es _).2]
        have e : isOps (.tuple es) n = es.all fun p => isPlaces p n && decide (lenD p = n) := by
          show (decide _ && _) = _
          rw [decide_eq_true h2]
          rfl
        rw [← e]
        exact hq
    | _ => cases h1 rfl
theorem ok_are_kinds {t : Tok} (F : Fun K "are_kinds" "are_kinds" s_are_kinds f fd) (c1 : Has P w K mg base 1 "is_number" (spP K φ_is_number)) (mI : mg "isinstance" = none) (mt : mg "tuple" = none) (ma : mg "all" = none) (ml : mg "len" = none) (mO : mg "GREATEST_KIND" = some (.int 9 t)) :
    FnOk P w K mg base CX0 4 f fd ["thing", "many"] (spP K φ_are_kinds) := by
  refine ok_P F sc_are_kinds (fun ds Q h => ?_) fun ds Q h cdv A outer s H E hr => ?_
  · obtain ⟨d, n, rfl, _⟩ := h
    rfl
  · obtain ⟨d, n, rfl, hz, hq⟩ := h
    have nd := sc_are_kinds.nd
    refine ds_cons (d1_if (dt_w (dw_orB (x := !isTup d) (y := !decide (lenD d = n)) (dt_not (dt_val (de_isi (by rfl) (by assumption) (by rfl) (by assumption) PyProof.Rows.boot_tuple kit_tuple (de_var 0 rfl (by nofun) rfl (by walk_at "vis") ⟨_, rfl, fun hnd => ⟨_, rfl, ?_⟩⟩)))) (fun h1 => ?_) ?_)))
    · rw [isi_tuple d hnd]
      exact ⟨rfl, rfl⟩
    · cases d with
      | tuple es =>
        refine dw_or1 (dt_cmp (op_neD (Room.units hr)) (nomark _) (de_callB call_len_seq (by rfl) (by assumption) PySem.boot_len (da_cons (de_var 0 rfl (by nofun) rfl (by walk_at "vis") (da_nil (ra_len (.tup _) (de_var 1 rfl (by nofun) rfl (by walk_at "vis") (rr_neD (by walk_at "sh") (by walk_at "sh") ⟨_, rfl, ?_, rfl⟩))))))))
        rw [eqv_int]
        rfl
      | _ => cases h1
    refine ite2 (fun h1 => ?_) (fun h1 => ?_)
    · refine ds_cons (d1_ret (de_bool ⟨_, rfl, ?_⟩))
      have e : isKinds d n = false := by
        cases d with
        | tuple es =>
          have h2 : ¬ (es.length : Int) = n := not_dec h1
          show (decide _ && _) = false
          rw [decide_eq_false h2]
          rfl
        | _ => rfl
      rw [← e]
      exact hq
    refine ds_nil ?_
    cases d with
    | tuple es =>
      have h2 : (es.length : Int) = n := yes_dec h1
      refine ds_cons (d1_ret (de_callB (cr_all rfl) (by rfl) (by assumption) PyProof.Rows.boot_all (da_cons ?_)))
      refine de_lc rfl nd (blkOk_by (own := [("part", 2)]) (N := n_are_kinds) (sc := defScope s_are_kinds) (by decide +kernel)) (di_tup (de_var 0 rfl (by nofun) rfl (by walk_at "vis") ⟨es, rfl, ?_⟩))
      refine ⟨sm_len hz, _, ⟨rfl, rfl⟩, lc_map (fun d => .bool (isNon d || isNum d 0 9)) (fun j d hd s H C cl fp => ?_), fun acc ω' hacc ⟨ew, ea⟩ => .inl ?_⟩
      · refine dg_name (i := 2) nd rfl (.inl rfl) (by decide) ?_
        intro s H C cl fp
        refine de_orB (x := isNon d) (y := isNum d 0 9) (de_cmp op_isN (nomark _) (de_var 2 rfl (by nofun) rfl (by walk_at "vis") (de_none (rr_isN ⟨rfl, rfl⟩)))) (fun h3 => ?_) ⟨rfl, rfl⟩
        refine de_one (de_call (by assumption) (by walk_at "room") (by rfl) (da_cons (de_var 2 rfl (by nofun) rfl (by walk_at "vis") (da_cons (de_int (da_cons (de_glob rfl (by assumption) rel_int (fun _ _ => .int _) (da_nil ⟨[_, _, _], rfl, ?_⟩))))))))
        exact ⟨_, _, _, rfl, rfl, rfl⟩
      · rw [List.take_length, (all_map es _).1] at ea
        subst ew ea
        refine da_nil (ra_all ⟨_, rfl, ?_⟩)
        rw [(all_map es _).2]
        have e : isKinds (.tuple es) n = es.all fun p => isNon p || isNum p 0 9 := by
          show (decide _ && _) = _
          rw [decide_eq_true h2]
          rfl
        rw [← e]
        exact hq
    | _ => cases h1 rfl
end
end
section
/-! ### systems and logs of the right form are recognized -/
def notPlace (dn dst : D) : Bool := match dn with
  | .int n => !isNum dst 0 (n - 1)
  | _ => true
theorem isNum_nD {i : Nat} {lo hi : Int} (h1 : lo ≤ (i : Int)) (h2 : (i : Int) ≤ hi) : isNum (nD i) lo hi = true := by
  show (decide _ && decide _) = true
  rw [decide_eq_true h1, decide_eq_true h2]
  rfl
theorem isPlaces_map {l : List Nat} {n : Nat} (h : ∀ i ∈ l, i < n) : isPlaces (.tuple (l.map nD)) n = true := by
  show (l.map nD).all _ = true
  rw [List.all_map, List.all_eq_true]
  intro i hi
  show isNum (nD i) 0 ((n : Int) - 1) = true
  exact isNum_nD (by omega) (by have := h i hi; omega)
theorem isOps_of {S : Sys} (h : S.Ok) : isOps (.tuple (S.ops.map opD)) S.n = true := by
  have h1 := h.o1
  have h6 := h.o6
  show (decide _ && (S.ops.map opD).all _) = true
  rw [List.length_map, decide_eq_true ⟨h1, h6⟩, Bool.true_and, List.all_map, List.all_eq_true]
  intro o ho
  have := h.op o ho
  show (isPlaces (opD o) S.n && decide (lenD (opD o) = S.n)) = true
  rw [show isPlaces (opD o) S.n = true from isPlaces_map this.2, Bool.true_and]
  refine decide_eq_true ?_
  show (((o.map nD).length : Nat) : Int) = _
  rw [List.length_map, this.1]
theorem isKinds_of {S : Sys} (h : S.Ok) : isKinds (.tuple (S.kn.map kD)) ((S.ops.map opD).length : Int) = true := by
  show (decide _ && (S.kn.map kD).all _) = true
  rw [List.length_map, List.length_map, h.kl, decide_eq_true rfl, Bool.true_and, List.all_map, List.all_eq_true]
  intro k hk
  have := h.kk k hk
  cases k with
  | none => rfl
  | some i =>
    show (isNon (nD i) || isNum (nD i) 0 9) = true
    rw [isNum_nD (by omega) (by have := this i rfl; omega)]
    rfl
theorem isSys_of {S : Sys} (h : S.Ok) : isSysD (sysD S) = true := by
  have h1 := h.n1
  have h6 := h.n6
  have hs := h.st
  show (isNum (nD S.n) 1 6 && isNum (nD S.st) 0 ((S.n : Int) - 1) && isOps _ _ && isKinds _ _) = true
  rw [isNum_nD (by omega) (by omega), isNum_nD (by omega) (by omega), isOps_of h, show isKinds (.tuple (S.kn.map kD)) (lenD (.tuple (S.ops.map opD))) = true from isKinds_of h]
  rfl
theorem bulk_nD (i : Nat) : (nD i).bulk = 0 := rfl
theorem bulkAll_nD : ∀ l : List Nat, PyData.bulkAll (l.map nD) = l.length
  | [] => rfl
  | x :: r => by
    show (nD x).bulk + 1 + PyData.bulkAll (r.map nD) = r.length + 1
    rw [bulkAll_nD r, bulk_nD]
    omega
theorem bulkAll_kD : ∀ l : List (Option Nat), PyData.bulkAll (l.map kD) = l.length
  | [] => rfl
  | x :: r => by
    show (kD x).bulk + 1 + PyData.bulkAll (r.map kD) = r.length + 1
    rw [bulkAll_kD r]
    cases x <;> show 0 + 1 + r.length = _ <;> omega
theorem bulkAll_opD {n : Nat} : ∀ l : List (List Nat), (∀ o ∈ l, o.length = n) → PyData.bulkAll (l.map opD) = l.length * (n + 1)
  | [], _ => by
    rw [List.length_nil, Nat.zero_mul]
    rfl
  | x :: r, h => by
    show PyData.bulkAll (x.map nD) + 1 + PyData.bulkAll (r.map opD) = (r.length + 1) * (n + 1)
    rw [bulkAll_opD r fun o ho => h o (List.mem_cons_of_mem _ ho), bulkAll_nD, h x List.mem_cons_self, Nat.succ_mul]
    omega
theorem bulk_sys {S : Sys} (h : S.Ok) : (sysD S).bulk ≤ 100 := by
  show (nD S.n).bulk + 1 + ((nD S.st).bulk + 1 + (PyData.bulkAll (S.ops.map opD) + 1 + (PyData.bulkAll (S.kn.map kD) + 1 + 0))) ≤ 100
  rw [bulk_nD, bulk_nD, bulkAll_opD S.ops fun o ho => (h.op o ho).1, bulkAll_kD, h.kl]
  have h1 := h.o6
  have h2 := h.n6
  have h3 : S.ops.length * (S.n + 1) ≤ 6 * 7 := Nat.mul_le_mul h1 (by omega)
  omega
theorem sm_sys {S : Sys} (h : S.Ok) : Sm (sysD S) := Nat.le_trans (bulk_sys h) (by decide)
theorem sm_log {l : List Nat} (h : l.length ≤ 100000) : Sm (logD l) := by
  show PyData.bulkAll (l.map nD) ≤ 100000
  rw [bulkAll_nD]
  exact h
theorem isLog_of {S : Sys} {l : List Nat} (h : LogOk S l) : isPlaces (logD l) S.ops.length = true := isPlaces_map h

/-! ### what logs lead to -/
def step (S : Sys) (e s : Nat) : Nat := (S.ops.getD e []).getD s 0
def endOf (S : Sys) (s : Nat) (l : List Nat) : Nat := l.foldl (fun s e => step S e s) s
theorem step_at {S : Sys} (hS : S.Ok) {e s : Nat} (he : e < S.ops.length) (hs : s < S.n) : step S e s < S.n ∧ ∃ o, S.ops[e]? = some o ∧ o[s]? = some (step S e s) := by
  obtain ⟨o, ho⟩ : ∃ o, S.ops[e]? = some o := ⟨_, List.getElem?_eq_getElem he⟩
  have hoo := hS.op o (List.mem_of_getElem? ho)
  have hs2 : s < o.length := by rw [hoo.1]; exact hs
  have h3 : step S e s = o[s] := by
    unfold step
    rw [show S.ops.getD e [] = o by rw [List.getD_eq_getElem?_getD, ho]; rfl]
    rw [List.getD_eq_getElem?_getD, List.getElem?_eq_getElem hs2]
    rfl
  refine ⟨?_, o, ho, ?_⟩
  · rw [h3]
    exact hoo.2 _ (List.getElem_mem hs2)
  · rw [h3, List.getElem?_eq_getElem hs2]
theorem endOf_lt {S : Sys} (hS : S.Ok) : ∀ {l : List Nat} {s : Nat}, LogOk S l → s < S.n → endOf S s l < S.n
  | [], s, _, hs => hs
  | e :: r, s, hl, hs => endOf_lt hS (l := r) (fun x hx => hl x (List.mem_cons_of_mem _ hx)) (step_at hS (hl e List.mem_cons_self) hs).1
theorem endOf_snoc (S : Sys) (s : Nat) (l : List Nat) (e : Nat) : endOf S s (l ++ [e]) = step S e (endOf S s l) := by
  unfold endOf
  rw [List.foldl_append]
  rfl
theorem endOf_take (S : Sys) (s : Nat) {l : List Nat} {i e : Nat} (h : l[i]? = some e) : endOf S s (l.take (i + 1)) = step S e (endOf S s (l.take i)) := by
  rw [List.take_add_one, h]
  exact endOf_snoc S s _ e
theorem logOk_take {S : Sys} {l : List Nat} (h : LogOk S l) (i : Nat) : LogOk S (l.take i) := fun x hx => h x (List.mem_of_mem_take hx)
def φ_end_of : List D → (D → Prop) → Prop := fun ds P => ∃ S s l, ds = [sysD S, nD s, logD l] ∧ S.Ok ∧ s < S.n ∧ LogOk S l ∧ P (nD (endOf S s l))
def φ_run : List D → (D → Prop) → Prop := fun ds P => ∃ S s l, ds = [sysD S, nD s, logD l] ∧ S.Ok ∧ s < S.n ∧ LogOk S l ∧ l.length ≤ 100000 ∧ P (nD (endOf S s l))
def φ_outcome : List D → (D → Prop) → Prop := fun ds P => ∃ S l, ds = [sysD S, logD l] ∧ S.Ok ∧ LogOk S l ∧ l.length ≤ 100000 ∧ P (nD (endOf S S.st l))
section
variable {P : Program} {w : World} {K : Fg} {mg : Str → Option Value} {base : Heap} {f : Addr} {fd : FuncData} {k : Nat}
theorem ok_is_system {t : Tok} (F : Fun K "is_system" "is_system" s_is_system f fd) (c1 : Has P w K mg base 1 "is_number" (spP K φ_is_number)) (c2 : Has P w K mg base 2 "is_place" (spP K φ_is_place)) (c3 : Has P w K mg base 4 "are_operations" (spP K φ_are_operations))
    (c4 : Has P w K mg base 4 "are_kinds" (spP K φ_are_kinds)) (mI : mg "isinstance" = none) (mt : mg "tuple" = none) (ml : mg "len" = none) (mO : mg "MOST_STATES" = some (.int 6 t)) : FnOk P w K mg base CX0 5 f fd ["thing"] (spP K φ_is_system) := by
  refine ok_P F sc_is_system (fun ds Q h => ?_) fun ds Q h cdv A outer s H E hr => ?_
  · obtain ⟨d, rfl, _⟩ := h
    rfl
  · obtain ⟨d, rfl, hz, hq⟩ := h
    have nd := sc_is_system.nd
    refine ds_cons (d1_if (dt_w (dw_orB (x := !isTup d) (y := !decide (lenD d = 4)) (dt_not (dt_val (de_isi (by rfl) (by assumption) (by rfl) (by assumption) PyProof.Rows.boot_tuple kit_tuple (de_var 0 rfl (by nofun) rfl (by walk_at "vis") ⟨_, rfl, fun hnd => ⟨_, rfl, ?_⟩⟩)))) (fun h1 => ?_) ?_)))
    · rw [isi_tuple d hnd]
      exact ⟨rfl, rfl⟩
    · cases d with
      | tuple es =>
        refine dw_or1 (dt_cmp (op_neD (Room.units hr)) (nomark _) (de_callB call_len_seq (by rfl) (by assumption) PySem.boot_len (da_cons (de_var 0 rfl (by nofun) rfl (by walk_at "vis") (da_nil (ra_len (.tup _) (de_int (rr_neD (by walk_at "sh") (by walk_at "sh") ⟨_, rfl, ?_, rfl⟩))))))))
        rw [eqv_int]
        rfl
      | _ => cases h1
    refine ite2 (fun h1 => ?_) (fun h1 => ?_)
    · refine ds_cons (d1_ret (de_bool ⟨_, rfl, ?_⟩))
      have e : isSysD d = false := by
        cases d with
        | tuple es =>
          have h2 : ¬ (es.length : Int) = 4 := not_dec h1
          unfold isSysD
          split
          · rename_i heq
            injection heq with heq
            subst heq
            exact absurd rfl h2
          · rfl
        | _ => rfl
      rw [← e]
      exact hq
    refine ds_nil ?_
    cases d with
    | tuple es =>
      have h2 : (es.length : Int) = 4 := yes_dec h1
      obtain ⟨dn, dst, dop, dk, rfl⟩ : ∃ a b c e, es = [a, b, c, e] := by
        match es, h2 with
        | [a, b, c, e], _ => exact ⟨a, b, c, e, rfl⟩
        | [], h => exact absurd h (by decide)
        | [_], h => exact absurd h (by show ¬ (1 : Int) = 4; decide)
        | [_, _], h => exact absurd h (by show ¬ (2 : Int) = 4; decide)
        | [_, _, _], h => exact absurd h (by show ¬ (3 : Int) = 4; decide)
        | _ :: _ :: _ :: _ :: _ :: r, h => exact absurd h (by rw [List.length_cons, List.length_cons, List.length_cons, List.length_cons, List.length_cons]; omega)
      refine ds_cons (d1_unp rfl (pgs_cons (pg_name (i := 1) nd rfl (by walk_at "loc")) (pgs_cons (pg_name (i := 2) nd rfl (by walk_at "loc")) (pgs_cons (pg_name (i := 3) nd rfl (by walk_at "loc")) (pgs_cons (pg_name (i := 4) nd rfl (by walk_at "loc")) pgs_nil)))) (.cons (.cons (.cons (.cons .nil)))) (de_var 0 rfl (by nofun) rfl (by walk_at "vis") ⟨_, rfl, rfl, ?_⟩))
      refine ds_cons (d1_if (dt_w (dw_orB (x := !isNum dn 1 6) (y := notPlace dn dst) (dt_not (dt_val (de_call c1 (by walk_at "room") (by rfl) (da_cons (de_var 1 rfl (by nofun) rfl (by walk_at "vis") (da_cons (de_int (da_cons (de_glob rfl (by assumption) rel_int (fun _ _ => .int _) (da_nil ⟨[_, _, _], rfl, _, _, _, rfl, ⟨_, rfl, rfl, rfl⟩⟩)))))))))) (fun h3 => ?_) ?_)))
      · cases dn with
        | int n => exact dw_or1 (dt_not (dt_val (de_call c2 (by walk_at "room") (by rfl) (da_cons (de_var 2 rfl (by nofun) rfl (by walk_at "vis") (da_cons (de_var 1 rfl (by nofun) rfl (by walk_at "vis") (da_nil ⟨[_, _], rfl, _, _, rfl, ⟨_, rfl, rfl, rfl⟩⟩))))))))
        | _ => cases h3
      refine ite2 (fun h3 => ?_) (fun h3 => ?_)
      · refine ds_cons (d1_ret (de_bool ⟨_, rfl, ?_⟩))
        have e : isSysD (.tuple [dn, dst, dop, dk]) = false := by
          cases dn with
          | int n =>
            have h3 : (!isNum (.int n) 1 6 || !isNum dst 0 (n - 1)) = true := h3
            show (isNum _ _ _ && isNum _ _ _ && isOps _ _ && isKinds _ _) = false
            cases q1 : isNum (.int n) 1 6 with
            | false => rfl
            | true =>
              rw [q1] at h3
              cases q2 : isNum dst 0 (n - 1) with
              | false => rfl
              | true =>
                rw [q2] at h3
                cases h3
          | _ => rfl
        rw [← e]
        exact hq
      refine ds_nil ?_
      cases dn with
      | int n =>
        have h4 : isNum (.int n) 1 6 = true ∧ isNum dst 0 (n - 1) = true := by
          have h3 : ¬ (!isNum (.int n) 1 6 || !isNum dst 0 (n - 1)) = true := h3
          cases q1 : isNum (.int n) 1 6 with
          | false =>
            rw [q1] at h3
            exact absurd rfl h3
          | true =>
            rw [q1] at h3
            cases q2 : isNum dst 0 (n - 1) with
            | false =>
              rw [q2] at h3
              exact absurd rfl h3
            | true => exact ⟨rfl, rfl⟩
        refine ds_cons (d1_ret (de_andB (x := isOps dop n) (y := isKinds dk (lenD dop)) (de_call c3 (by walk_at "room") (by rfl) (da_cons (de_var 3 rfl (by nofun) rfl (by walk_at "vis") (da_cons (de_var 1 rfl (by nofun) rfl (by walk_at "vis") (da_nil ⟨[_, _], rfl, _, _, rfl, sm_mem hz (by simp), rfl, rfl⟩)))))) (fun h5 => ?_) ?_))
        · cases dop with
          | tuple os => exact de_one (de_call c4 (by walk_at "room") (by rfl) (da_cons (de_var 4 rfl (by nofun) rfl (by walk_at "vis") (da_cons (de_callB call_len_seq (by rfl) (by assumption) PySem.boot_len (da_cons (de_var 3 rfl (by nofun) rfl (by walk_at "vis") (da_nil (ra_len (.tup _) (da_nil ⟨[_, _], rfl, _, _, rfl, sm_mem hz (by simp), rfl, rfl⟩))))))))))
          | _ => cases h5
        · refine ⟨_, rfl, ?_⟩
          have e : isSysD (.tuple [.int n, dst, dop, dk]) = (isOps dop n && isKinds dk (lenD dop)) := by
            show (isNum _ _ _ && isNum _ _ _ && isOps _ _ && isKinds _ _) = _
            rw [h4.1, h4.2]
            rfl
          rw [← e]
          exact hq
      | _ => exact absurd rfl h3
    | _ => cases h1 rfl
theorem ok_is_log (F : Fun K "is_log" "is_log" s_is_log f fd) (c1 : Has P w K mg base 3 "are_places" (spP K φ_are_places)) (ml : mg "len" = none) : FnOk P w K mg base CX0 4 f fd ["system", "thing"] (spP K φ_is_log) := by
  refine ok_P F sc_is_log (fun ds Q h => ?_) fun ds Q h cdv A outer s H E hr => ?_
  · obtain ⟨S, d, rfl, _⟩ := h
    rfl
  · obtain ⟨S, d, rfl, hz, hq⟩ := h
    refine ds_cons (d1_ret (de_call c1 (by walk_at "room") (by rfl) (da_cons (de_var 1 rfl (by nofun) rfl (by walk_at "vis") (da_cons (de_callB call_len_seq (by rfl) (by assumption) PySem.boot_len (da_cons (de_ix (fun _ _ => rfl) (de_var 0 rfl (by nofun) rfl (by walk_at "vis") (de_int ⟨_, _, _, rfl, (by walk_at "seq"), rfl, (da_nil (ra_len (by walk_at "seq") (da_nil ⟨[_, _], rfl, ?_⟩)))⟩))))))))))
    refine ⟨_, _, rfl, hz, _, rfl, ?_⟩
    rw [List.length_map]
    exact hq
theorem ok_check_system (F : Fun K "check_system" "check_system" s_check_system f fd) (c1 : Has P w K mg base 5 "is_system" (spP K φ_is_system)) : FnOk P w K mg base CX0 6 f fd ["system"] (spP K φ_check_system) := by
  refine ok_P F sc_check_system (fun ds Q h => ?_) fun ds Q h cdv A outer s H E hr => ?_
  · obtain ⟨d, rfl, _⟩ := h
    rfl
  · obtain ⟨d, rfl, hz, hs, hq⟩ := h
    refine ds_cons (d1_if (dt_not (dt_val (de_call c1 (by walk_at "room") (by rfl) (da_cons (de_var 0 rfl (by nofun) rfl (by walk_at "vis") (da_nil ⟨[_], rfl, _, rfl, hz, _, rfl, ?_⟩)))))))
    rw [hs]
    exact iteF (ds_nil (ds_nil hq))
theorem ok_check_log (F : Fun K "check_log" "check_log" s_check_log f fd) (c1 : Has P w K mg base 4 "is_log" (spP K φ_is_log)) : FnOk P w K mg base CX0 5 f fd ["system", "log"] (spP K φ_check_log) := by
  refine ok_P F sc_check_log (fun ds Q h => ?_) fun ds Q h cdv A outer s H E hr => ?_
  · obtain ⟨S, d, rfl, _⟩ := h
    rfl
  · obtain ⟨S, d, rfl, hz, hs, hq⟩ := h
    refine ds_cons (d1_if (dt_not (dt_val (de_call c1 (by walk_at "room") (by rfl) (da_cons (de_var 0 rfl (by nofun) rfl (by walk_at "vis") (da_cons (de_var 1 rfl (by nofun) rfl (by walk_at "vis") (da_nil ⟨[_, _], rfl, _, _, rfl, hz, _, rfl, ?_⟩)))))))))
    rw [hs]
    exact iteF (ds_nil (ds_nil hq))
end
end
section
section
variable {P : Program} {w : World} {K : Fg} {mg : Str → Option Value} {base : Heap} {f : Addr} {fd : FuncData} {k : Nat}
theorem ok_end_of (F : Fun K "end_of" "end_of" s_end_of f fd) : FnOk P w K mg base CX0 1 f fd ["system", "state", "log"] (spP K φ_end_of) := by
  refine ok_P F sc_end_of (fun ds Q h => ?_) fun ds Q h cdv A outer s H E hr => ?_
  · obtain ⟨S, s, l, rfl, _⟩ := h
    rfl
  · obtain ⟨S, st, l, rfl, hS, hs, hl, hq⟩ := h
    have nd := sc_end_of.nd
    refine ds_cons (d1_asg (i := 3) nd rfl (by walk_at "loc") (de_ix (fun _ _ => rfl) (de_var 0 rfl (by nofun) rfl (by walk_at "vis") (de_int ⟨_, _, _, rfl, (by walk_at "seq"), rfl, ?_⟩))))
    refine ds_cons (d1_for PassesOwn.never rfl (di_tup (de_var 2 rfl (by nofun) rfl (by walk_at "vis") ⟨_, rfl, ?_⟩)))
    refine ⟨fun i δ' ω' => ∃ en, δ' = [.val (sysD S), .val (nD (endOf S st (l.take i))), .val (logD l), .val (.tuple (S.ops.map opD)), en], ⟨.no, rfl⟩, ?_, ?_⟩
    · rintro i d δ' ω' hd ⟨en, rfl⟩
      obtain ⟨e, he, rfl⟩ : ∃ e, l[i]? = some e ∧ d = nD e := by
        rw [List.getElem?_map] at hd
        cases q : l[i]? with
        | none =>
          rw [q] at hd
          cases hd
        | some e =>
          rw [q] at hd
          exact ⟨e, rfl, (Option.some.inj hd).symm⟩
      have he2 := hl e (List.mem_of_getElem? he)
      obtain ⟨h1, o, h2, h3⟩ := step_at hS he2 (endOf_lt hS (logOk_take hl i) hs)
      refine dg_name (i := 4) nd rfl (by walk_at "loc") (by walk_at "mr") ?_
      refine ds_cons (d1_asg (i := 1) nd rfl (by walk_at "loc") (de_ix (fun _ _ => rfl) (de_ix (fun _ _ => rfl) (de_var 3 rfl (by nofun) rfl (by walk_at "vis") (de_var 4 rfl (by nofun) rfl (by walk_at "vis") ?_)))))
      refine ⟨_, _, _, rfl, by walk_at "seq", atI_nat (show (S.ops.map opD)[e]? = some (opD o) by rw [List.getElem?_map, h2]; rfl), ?_⟩
      refine de_var 1 rfl (by nofun) rfl (by walk_at "vis") ?_
      refine ⟨_, _, _, rfl, .tup _, atI_nat (show (o.map nD)[endOf S st (l.take i)]? = some (nD (step S e (endOf S st (l.take i)))) by rw [List.getElem?_map, h3]; rfl), ?_⟩
      rw [← endOf_take S st he]
      exact ds_nil ⟨_, rfl⟩
    · rintro δ' ω' ⟨en, rfl⟩
      rw [List.length_map, List.take_length]
      exact ds_cons (d1_ret (de_var 1 rfl (by nofun) rfl (by walk_at "vis") ⟨_, rfl, hq⟩))
end
end
section
theorem rr_neN {X : Cx} {P : Sl → List Cell → Prop} {ω : List Cell} {a b : Nat} (hp : P (.val (.bool (!decide (a = b)))) ω) : RR X rNe (.val (nD a)) (.val (nD b)) ω P := fun B F H as v u w s1 s2 Q o => by
  obtain rfl := dp_int_inv (sl_val s1)
  obtain rfl := dp_int_inv (sl_val s2)
  refine ⟨rfl, ?_⟩
  rw [dec_int, show ((a : Int) == (b : Int)) = decide (a = b) by rw [Bool.eq_iff_iff, beq_iff_eq, decide_eq_true_eq]; omega]
  exact o.here w (.bl _) hp
theorem inD_map (s : Nat) : ∀ l : List Nat, inD (nD s) (l.map nD) = decide (s ∈ l)
  | [] => rfl
  | x :: r => by
    have e : inD (nD s) ((x :: r).map nD) = (((x : Int) == (s : Int)) || inD (nD s) (r.map nD)) := rfl
    rw [e, inD_map s r, Bool.eq_iff_iff, Bool.or_eq_true, decide_eq_true_eq, beq_iff_eq, decide_eq_true_eq, List.mem_cons]
    constructor
    · rintro (h | h)
      · exact .inl (by omega)
      · exact .inr h
    · rintro (h | h)
      · exact .inl (by rw [h])
      · exact .inr h
theorem find_at {α : Type} {p : α → Bool} {x : α} : ∀ {l : List α} {i : Nat}, l[i]? = some x → (∀ y ∈ l.take i, p y = false) → p x = true → l.find? p = some x
  | y :: r, 0, h, _, hp => by
    have e : y = x := Option.some.inj h
    subst e
    rw [List.find?_cons, hp]
  | y :: r, i + 1, h, ht, hp => by
    rw [List.find?_cons, ht y (by rw [List.take_succ_cons]; exact List.mem_cons_self)]
    exact find_at (i := i) h (fun z hz => ht z (by rw [List.take_succ_cons]; exact List.mem_cons_of_mem _ hz)) hp
theorem find_no {α : Type} {p : α → Bool} {l : List α} (h : ∀ y ∈ l, p y = false) : l.find? p = none := List.find?_eq_none.mpr fun y hy => by rw [h y hy]; exact Bool.false_ne_true
theorem take_more {α : Type} {q : α → Prop} {l : List α} {i : Nat} {x : α} (h : l[i]? = some x) (ht : ∀ y ∈ l.take i, q y) (hx : q x) : ∀ y ∈ l.take (i + 1), q y := fun y hy => by
  rw [List.take_add_one, h] at hy
  rcases List.mem_append.mp hy with hy | hy
  · exact ht y hy
  · have e : y = x := List.mem_singleton.mp hy
    rw [e]
    exact hx
theorem map_at {α : Type} {f : α → D} {l : List α} {i : Nat} {d : D} (h : (l.map f)[i]? = some d) : ∃ x, l[i]? = some x ∧ d = f x := by
  rw [List.getElem?_map] at h
  cases q : l[i]? with
  | none =>
    rw [q] at h
    cases h
  | some x =>
    rw [q] at h
    exact ⟨x, rfl, (Option.some.inj h).symm⟩
theorem logOk_app {S : Sys} {l m : List Nat} (hl : LogOk S l) (hm : LogOk S m) : LogOk S (l ++ m) := fun e he => (List.mem_append.mp he).elim (hl e) (hm e)
theorem logOk_one {S : Sys} {e : Nat} (he : e < S.ops.length) : LogOk S [e] := fun x hx => by rw [List.mem_singleton.mp hx]; exact he
theorem logOk_drop {S : Sys} {l : List Nat} (h : LogOk S l) (i : Nat) : LogOk S (l.drop i) := fun e he => h e (List.mem_of_mem_drop he)
theorem cutLo (l : List Nat) (n : Nat) : cutD (l.map nD) none (some (n : Int)) = (l.take n).map nD := by rw [cut_lo, List.map_take]
theorem cutHi (l : List Nat) (n : Nat) : cutD (l.map nD) (some (n : Int)) none = (l.drop n).map nD := by rw [cut_hi, List.map_drop]
end
section
/-! ### the states one after another, each with its first log -/
abbrev Ent := Nat × List Nat
def bstep (S : Sys) (s : Nat) (lg : List Nat) (L : List Ent) (e : Nat) : List Ent := if step S e s ∈ L.map (·.1) then L else L ++ [(step S e s, lg ++ [e])]
def bexp (S : Sys) (s : Nat) (lg : List Nat) (i : Nat) (L : List Ent) : List Ent := (List.range i).foldl (bstep S s lg) L
def bfrom (S : Sys) : Nat → Nat → List Ent → List Ent
  | 0, _, L => L
  | m + 1, at', L => match L[at']? with
    | none => L
    | some p => bfrom S m (at' + 1) (bexp S p.1 p.2 S.ops.length L)
def bfs (S : Sys) : List Ent := bfrom S 7 0 [(S.st, [])]
structure BOk (S : Sys) (m : Nat) (L : List Ent) : Prop where
  nd : (L.map (·.1)).Nodup
  lt : ∀ p ∈ L, p.1 < S.n
  lg : ∀ p ∈ L, LogOk S p.2
  ln : ∀ p ∈ L, p.2.length ≤ m
  en : ∀ p ∈ L, endOf S S.st p.2 = p.1
theorem nodup_lt : ∀ {n : Nat} {l : List Nat}, l.Nodup → (∀ x ∈ l, x < n) → l.length ≤ n
  | 0, [], _, _ => Nat.le_refl _
  | 0, x :: r, _, h => absurd (h x List.mem_cons_self) (Nat.not_lt_zero _)
  | n + 1, l, hn, h => by
    have h1 := nodup_lt (n := n) (hn.erase n) fun x hx => by
      have h2 := h x (List.mem_of_mem_erase hx)
      have h3 : x ≠ n := fun z => by
        subst z
        exact (hn.mem_erase_iff.mp hx).1 rfl
      omega
    by_cases hm : n ∈ l
    · rw [List.length_erase_of_mem hm] at h1
      omega
    · rw [List.erase_of_not_mem hm] at h1
      omega
theorem BOk.len {S : Sys} {m : Nat} {L : List Ent} (h : BOk S m L) : L.length ≤ S.n := by
  have := nodup_lt h.nd fun x hx => by
    obtain ⟨p, hp, rfl⟩ := List.mem_map.mp hx
    exact h.lt p hp
  rwa [List.length_map] at this
theorem BOk.start {S : Sys} (hS : S.Ok) : BOk S 0 [(S.st, [])] := by
  have one : ∀ p ∈ [(S.st, ([] : List Nat))], p = (S.st, []) := fun p hp => List.mem_singleton.mp hp
  exact ⟨by simp, fun p hp => by rw [one p hp]; exact hS.st, fun p hp => by rw [one p hp]; exact nofun, fun p hp => by rw [one p hp]; exact Nat.le_refl _, fun p hp => by rw [one p hp]; rfl⟩
theorem BOk.more {S : Sys} {m m' : Nat} {L : List Ent} (h : BOk S m L) (hm : m ≤ m') : BOk S m' L := ⟨h.nd, h.lt, h.lg, fun p hp => Nat.le_trans (h.ln p hp) hm, h.en⟩
theorem bexp_succ (S : Sys) (s : Nat) (lg : List Nat) (i : Nat) (L : List Ent) : bexp S s lg (i + 1) L = bstep S s lg (bexp S s lg i L) i := by
  unfold bexp
  rw [List.range_succ, List.foldl_append]
  rfl
theorem BOk.step {S : Sys} {m : Nat} {L : List Ent} (hS : S.Ok) {s : Nat} {lg : List Nat} {e : Nat} (h : BOk S m L) (hs : s < S.n) (hl : LogOk S lg) (hz : lg.length < m) (hen : endOf S S.st lg = s) (he : e < S.ops.length) : BOk S m (bstep S s lg L e) := by
  unfold bstep
  split
  · exact h
  · next hn =>
    obtain ⟨h1, _, _, _⟩ := step_at hS he hs
    have cas : ∀ p ∈ L ++ [(DL.step S e s, lg ++ [e])], p ∈ L ∨ p = (DL.step S e s, lg ++ [e]) := fun p hp => by
      rcases List.mem_append.mp hp with hp | hp
      · exact .inl hp
      · exact .inr (List.mem_singleton.mp hp)
    refine ⟨?_, fun p hp => ?_, fun p hp => ?_, fun p hp => ?_, fun p hp => ?_⟩
    · rw [List.map_append, List.nodup_append]
      refine ⟨h.nd, by simp, fun a ha b hb z => ?_⟩
      have hb' : b = DL.step S e s := List.mem_singleton.mp hb
      subst z hb'
      exact hn ha
    · rcases cas p hp with hp | rfl
      · exact h.lt p hp
      · exact h1
    · rcases cas p hp with hp | rfl
      · exact h.lg p hp
      · exact snoc_all hl he
    · rcases cas p hp with hp | rfl
      · exact h.ln p hp
      · show (lg ++ [e]).length ≤ m
        rw [List.length_append]
        exact hz
    · rcases cas p hp with hp | rfl
      · exact h.en p hp
      · show endOf S S.st (lg ++ [e]) = _
        rw [endOf_snoc, hen]
theorem BOk.exp {S : Sys} {m : Nat} {L : List Ent} (hS : S.Ok) {s : Nat} {lg : List Nat} (h : BOk S m L) (hs : s < S.n) (hl : LogOk S lg) (hz : lg.length < m) (hen : endOf S S.st lg = s) : ∀ i, i ≤ S.ops.length → BOk S m (bexp S s lg i L)
  | 0, _ => h
  | i + 1, hi => by
    rw [bexp_succ]
    exact (BOk.exp hS h hs hl hz hen i (by omega)).step hS hs hl hz hen (by omega)
theorem bstep_pre (S : Sys) (s : Nat) (lg : List Nat) (L : List Ent) (e : Nat) : L <+: bstep S s lg L e := by
  unfold bstep
  split
  · exact List.prefix_refl _
  · exact List.prefix_append _ _
theorem bexp_pre (S : Sys) (s : Nat) (lg : List Nat) (L : List Ent) : ∀ i, L <+: bexp S s lg i L
  | 0 => List.prefix_refl _
  | i + 1 => by
    rw [bexp_succ]
    exact (bexp_pre S s lg L i).trans (bstep_pre _ _ _ _ _)
/-- where a walk through the states stands -/
structure BAt (S : Sys) (a : Nat) (L : List Ent) : Prop where
  ok : BOk S a L
  le : a ≤ L.length
  eq : bfrom S (7 - a) a L = bfs S
theorem BAt.start {S : Sys} (hS : S.Ok) : BAt S 0 [(S.st, [])] := ⟨.start hS, Nat.zero_le _, rfl⟩
theorem BAt.fin {S : Sys} {a : Nat} {L : List Ent} (h : BAt S a L) (ha : L.length ≤ a) : L = bfs S := by
  have e := h.eq
  have hn : L[a]? = none := List.getElem?_eq_none ha
  cases hm : 7 - a with
  | zero =>
    rw [hm] at e
    exact e
  | succ m =>
    rw [hm] at e
    unfold bfrom at e
    rw [hn] at e
    exact e
theorem BAt.next {S : Sys} (hS : S.Ok) {a : Nat} {L : List Ent} (h : BAt S a L) {p : Ent} (hp : L[a]? = some p) : BAt S (a + 1) (bexp S p.1 p.2 S.ops.length L) := by
  have hpm := List.mem_of_getElem? hp
  have hlt : a < L.length := (List.getElem?_eq_some_iff.mp hp).1
  have h6 := hS.n6
  have hlen := h.ok.len
  have hok : BOk S (a + 1) (bexp S p.1 p.2 S.ops.length L) := (h.ok.more (Nat.le_succ _)).exp hS (h.ok.lt p hpm) (h.ok.lg p hpm) (Nat.lt_succ_of_le (h.ok.ln p hpm)) (h.ok.en p hpm) _ (Nat.le_refl _)
  refine ⟨hok, Nat.le_trans hlt (bexp_pre _ _ _ _ _).length_le, ?_⟩
  have e := h.eq
  obtain ⟨m, hm⟩ : ∃ m, 7 - a = m + 1 := ⟨6 - a, by omega⟩
  rw [hm] at e
  unfold bfrom at e
  rw [hp] at e
  rw [show 7 - (a + 1) = m by omega]
  exact e
theorem bfs_go {S : Sys} (hS : S.Ok) : ∀ (m a : Nat) (L : List Ent), 7 - a ≤ m → BAt S a L → ∃ a', BAt S a' (bfs S) ∧ (bfs S).length ≤ a'
  | 0, a, L, hm, h => by
    have h1 := h.ok.len
    have h2 := hS.n6
    have h3 := h.fin (by omega)
    subst h3
    exact ⟨a, h, by omega⟩
  | m + 1, a, L, hm, h => by
    cases hp : L[a]? with
    | none =>
      have hl : L.length ≤ a := List.getElem?_eq_none_iff.mp hp
      have h3 := h.fin hl
      subst h3
      exact ⟨a, h, hl⟩
    | some p => exact bfs_go hS m (a + 1) _ (by have := h.ok.len; have := hS.n6; have := (List.getElem?_eq_some_iff.mp hp).1; omega) (h.next hS hp)
theorem bfs_ok {S : Sys} (hS : S.Ok) : BOk S 6 (bfs S) := by
  obtain ⟨a, h, hl⟩ := bfs_go hS 7 0 _ (Nat.le_refl _) (.start hS)
  have h1 := h.ok.len
  have h2 := hS.n6
  have h3 := h.le
  exact h.ok.more (by omega)
/-- the reachable states -/
def reach (S : Sys) : List Nat := (List.range S.n).filter fun s => decide (s ∈ (bfs S).map (·.1))
theorem reach_lt {S : Sys} {s : Nat} (h : s ∈ reach S) : s < S.n := List.mem_range.mp (List.mem_filter.mp h).1
theorem reach_perm {S : Sys} (hS : S.Ok) : (reach S).Perm ((bfs S).map (·.1)) := by
  refine (List.perm_ext_iff_of_nodup (List.nodup_range.filter _) (bfs_ok hS).nd).mpr fun s => ⟨fun h => ?_, fun h => ?_⟩
  · exact of_decide_eq_true (List.mem_filter.mp h).2
  · obtain ⟨p, hp, rfl⟩ := List.mem_map.mp h
    exact List.mem_filter.mpr ⟨List.mem_range.mpr ((bfs_ok hS).lt p hp), decide_eq_true h⟩
/-! ### the same as dicts and lists of data -/
def kvB (L : List Ent) : List (Key × D) := L.map fun p => (.inl (p.1 : Int), logD p.2)
theorem find_B (s : Nat) : ∀ L : List Ent, (kvB L).find? (fun p => decide (p.1 = (.inl (s : Int) : Key))) = (L.find? fun p => decide (p.1 = s)).map fun p => (.inl (p.1 : Int), logD p.2)
  | [] => rfl
  | p :: r => by
    show List.find? _ ((.inl (p.1 : Int), logD p.2) :: kvB r) = _
    rw [List.find?_cons, List.find?_cons]
    by_cases e : p.1 = s
    · rw [decide_eq_true e, decide_eq_true (show (.inl (p.1 : Int) : Key) = .inl (s : Int) by rw [e])]
      rfl
    · rw [decide_eq_false e, decide_eq_false (fun z : (.inl (p.1 : Int) : Key) = .inl (s : Int) => e (by injection z with z; omega))]
      exact find_B s r
theorem getB (s : Nat) (L : List Ent) : getK (kvB L) (.inl (s : Int)) = (L.find? fun p => decide (p.1 = s)).map fun p => logD p.2 := by
  unfold getK
  rw [find_B, Option.map_map]
  rfl
theorem isB (s : Nat) (L : List Ent) : (getK (kvB L) (.inl (s : Int))).isSome = decide (s ∈ L.map (·.1)) := by
  rw [getB, Option.isSome_map]
  rw [Bool.eq_iff_iff, List.find?_isSome, decide_eq_true_eq, List.mem_map]
  constructor
  · rintro ⟨p, hp, h⟩
    exact ⟨p, hp, of_decide_eq_true h⟩
  · rintro ⟨p, hp, h⟩
    exact ⟨p, hp, decide_eq_true h⟩
theorem find_nd : ∀ {L : List Ent} {p : Ent}, (L.map (·.1)).Nodup → p ∈ L → (L.find? fun q => decide (q.1 = p.1)) = some p
  | q :: r, p, hn, hp => by
    rw [List.find?_cons]
    rw [List.map_cons, List.nodup_cons] at hn
    rcases List.mem_cons.mp hp with rfl | hp
    · rw [decide_eq_true rfl]
    · rw [decide_eq_false fun z => hn.1 (by rw [z]; exact List.mem_map.mpr ⟨p, hp, rfl⟩)]
      exact find_nd hn.2 hp
theorem getB_mem {L : List Ent} {p : Ent} (hn : (L.map (·.1)).Nodup) (hp : p ∈ L) : getK (kvB L) (.inl (p.1 : Int)) = some (logD p.2) := by
  rw [getB, find_nd hn hp]
  rfl
theorem setB {L : List Ent} {s : Nat} {l : List Nat} (h : s ∉ L.map (·.1)) : setK (kvB L) (.inl (s : Int)) (logD l) = kvB (L ++ [(s, l)]) := by
  have h1 : ((kvB L).any fun p => decide (p.1 = (.inl (s : Int) : Key))) = false := by
    have h2 := isB s L
    rw [decide_eq_false h] at h2
    unfold getK at h2
    rw [Option.isSome_map] at h2
    rw [← h2, Bool.eq_iff_iff, List.find?_isSome, List.any_eq_true]
  unfold setK
  rw [h1]
  show kvB L ++ _ = _
  unfold kvB
  rw [List.map_append]
  rfl
end
section
/-- data in, a new dict out that the caller owns -/
def spD (K : Fg) (φ : List D → (List (Key × D) → Prop) → Prop) : Sp := fun vs H Q _ => ∃ B F ds P, Wd K B F H [] [] ∧ DpAll K B vs ds ∧ φ ds P ∧ ∀ a B' H' kvs, Same B B' → Wd K B' F H' [a] [.dct kvs] → P kvs → Q (.ref a) H'
theorem Wd.onlyD {K : Fg} {B F H : Hp} {as' : List Addr} {ω : List Cell} {j : Nat} {a : Addr} {c : Cell} (w : Wd K B F H as' ω) (ha : as'[j]? = some a) (hc : ω[j]? = some c) : Wd K B F H [a] [c] := w.only ha hc
section
variable {P : Program} {w : World} {K : Fg} {mg : Str → Option Value} {base : Heap} {x qual : Str} {st : Stmt} {f : Addr} {fd : FuncData} {N ps : List Str} {k : Nat}
theorem ok_D {φ : List D → (List (Key × D) → Prop) → Prop} (F : Fun K x qual st f fd) (S : FnScope N ps (defScope st)) (hn : ∀ ds Q, φ ds Q → ds.length = ps.length)
    (hb : ∀ ds Q, φ ds Q → Body P w K mg base N qual st f k fun X => DS X (defBody st) (slots N (ds.map Sl.val)) [] { nx := fun _ _ => False, rt := fun r ω' => ∃ j kvs, r = .own j ∧ ω'[j]? = some (.dct kvs) ∧ Q kvs }) : FnOk P w K mg base CX0 (k + 1) f fd ps (spD K φ) := by
  refine F.ok S (fun vs H Q E h => ?_) fun cdv A outer s H vs Q E hr h => ?_
  · obtain ⟨B, F', ds, P', hw, hd, hφ, _⟩ := h
    rw [dpAll_len hd]
    exact hn _ _ hφ
  · obtain ⟨B, F', ds, P', hw, hd, hφ, hq⟩ := h
    refine ⟨_, pss_w, hb ds P' hφ cdv A outer s H E hr B F' H [] _ hw (env_start (envOk_vals hd)) _ ⟨fun _ _ _ _ _ _ _ _ _ _ q => q.elim, fun _ _ _ _ _ _ _ _ _ _ q => q.elim, fun _ _ _ _ _ _ _ _ _ _ q => q.elim, fun v B' H' as' r ω' e1 p1 w1 s1 q => ?_⟩⟩
    obtain ⟨j, kvs, rfl, h0, q⟩ := q
    obtain ⟨a, rfl, ha⟩ := sl_own s1
    exact hq a B' H' kvs e1 (w1.only ha h0) q
end
theorem de_callD {X : Cx} {e : Expr} {es : List Expr} {δ : List Sl} {ω : List Cell} {P : Sl → List Cell → Prop} {pos : Pos} {x : Str} {p : Pos} {j : Nat} {φ : List D → (List (Key × D) → Prop) → Prop} (C : Has X.prog X.w X.K X.mg X.base j x (spD X.K φ)) (hr : Room j X.A) (hg : Gl X x) (h : DA X (e :: es) δ ω fun rs ω1 => ∃ ds, rs = ds.map Sl.val ∧ φ ds fun kvs => P (.own ω1.length) (ω1 ++ [.dct kvs]))
    (hdb : (x == ("__debug__" : Str)) = false := by decide) (he : starEach (e :: es) X.env = (false, eval e X.env) :: starEach es X.env := by rfl) (hpl : (backTo pos (starEach es X.env)).any (·.1) = false := by rfl) : DE X (.Call (.Name x p) (e :: es) [] pos) δ ω P := fun B F H as σ w ev Q o => by
  obtain ⟨f, fd, ps, hf, hm, hk, hb⟩ := C.ex
  refine ⟨_, pe_call hf hr hg hm hk hb .nil pass0 pa_w hdb he hpl, ?_⟩
  refine h B F H as σ w ev _ fun vs B1 H1 as1 rs ω1 e1 p1 w1 s1 ⟨ds, er, hφ⟩ => ?_
  subst er
  obtain ⟨F', wF, hFF, hlive, back⟩ := w1.frame
  refine ⟨B1, F', ds, _, wF, by rw [List.append_nil]; exact rsOk_vals s1, hφ, fun a B' H' kvs sb w' hp => ?_⟩
  have w2 := back B' H' sb w'.drop
  obtain ⟨q1, q2, q3, xs, q4, q5⟩ := w'.at' 0 a _ rfl rfl
  have hnot : a ∉ as1 := fun hm2 => by
    obtain ⟨i, hi, ei⟩ := List.mem_iff_getElem.mp hm2
    have e1' : as1[i]? = some a := by rw [List.getElem?_eq_getElem hi, ei]
    have hi2 : i < ω1.length := by rw [← w1.len]; exact hi
    cases hB : B1 a with
    | some oo =>
      rw [sb _ _ hB] at q3
      cases q3
    | none =>
      obtain ⟨_, n2, n3⟩ := w1.at' i a _ e1' (List.getElem?_eq_getElem hi2)
      rw [hlive i a _ e1' (List.getElem?_eq_getElem hi2) hB] at q1
      exact n2 q1
  have hFa : F a = none := by
    cases hq : F a with
    | none => rfl
    | some oo =>
      rw [hFF a oo hq] at q1
      cases q1
  have w3 := w2.addOwn (c := .dct kvs) hFa hnot q2 ⟨q3, xs, q4, q5⟩
  refine o _ B' H' _ _ _ (e1.trans sb) (p1.trans (List.prefix_append _ _)) w3 (slo ?_) hp
  rw [← w1.len, List.getElem?_append_right (Nat.le_refl _), Nat.sub_self]
  rfl
end
section
def φ_paths : List D → (List (Key × D) → Prop) → Prop := fun ds P => ∃ S, ds = [sysD S] ∧ S.Ok ∧ P (kvB (bfs S))
def φ_reach : List D → (D → Prop) → Prop := fun ds P => ∃ S, ds = [sysD S] ∧ S.Ok ∧ P (logD (reach S))
theorem drop_one {L : List Ent} {a : Nat} {p : Ent} (h : L[a]? = some p) : L.drop a = p :: L.drop (a + 1) := by
  obtain ⟨h1, h2⟩ := List.getElem?_eq_some_iff.mp h
  rw [List.drop_eq_getElem_cons h1, h2]
theorem seq0 (n : Nat) : seqIndex? 0 (n + 1) = some 0 := by
  unfold seqIndex?
  simp
section
variable {P : Program} {w : World} {K : Fg} {mg : Str → Option Value} {base : Heap} {f : Addr} {fd : FuncData} {k : Nat}
theorem ok_first_paths (F : Fun K "first_paths" "first_paths" s_first_paths f fd) (mE : mg "enumerate" = none) : FnOk P w K mg base CX0 (k + 1) f fd ["system"] (spD K φ_paths) := by
  refine ok_D F sc_first_paths (fun ds Q h => ?_) fun ds Q h cdv A outer s H E hr => ?_
  · obtain ⟨S, rfl, _⟩ := h
    rfl
  · obtain ⟨S, rfl, hS, hq⟩ := h
    have nd := sc_first_paths.nd
    have hu := hu_of hr
    refine ds_cons (d1_asg (i := 1) nd rfl (by walk_at "loc") (de_dic1 (de_ix (fun _ _ => rfl) (de_var 0 rfl (by nofun) rfl (by walk_at "vis") (de_int ⟨_, _, _, rfl, (by walk_at "seq"), rfl, (de_tup (da_nil ⟨[], rfl, by decide, .inl (S.st : Int), _, rfl, rfl, rfl, ?_⟩))⟩)))))
    refine ds_cons (d1_asg (i := 2) nd rfl (by walk_at "loc") (de_lstO (da_cons (de_ix (fun _ _ => rfl) (de_var 0 rfl (by nofun) rfl (by walk_at "vis") (de_int ⟨_, _, _, rfl, (by walk_at "seq"), rfl, (da_nil ⟨[_], rfl, by walk_at "sz", ?_⟩)⟩))))))
    refine ds_cons (d1_while PassesOwn.never (fun m δ' ω' => ∃ a L s3 s4 s5, BAt S a L ∧ m = 7 - a ∧ ω' = [.dct (kvB L), .lst ((L.drop a).map fun p => nD p.1)] ∧ δ' = [.val (sysD S), .own 0, .own 1, s3, s4, s5]) 7 ⟨0, _, .no, .no, .no, .start hS, rfl, rfl, rfl⟩ ?_)
    rintro m δ' ω' ⟨a, L, s3, s4, s5, hb, rfl, rfl, rfl⟩
    refine dt_own (de_var 2 rfl (by nofun) rfl (by walk_at "vis") ⟨1, _, rfl, rfl, ?_⟩)
    cases hp : L[a]? with
    | none =>
      have hl : L.length ≤ a := List.getElem?_eq_none_iff.mp hp
      have eL := hb.fin hl
      subst eL
      rw [List.drop_eq_nil_of_le hl]
      exact iteF (ds_cons (d1_ret (de_var 1 rfl (by nofun) rfl (by walk_at "vis") ⟨0, _, rfl, rfl, hq⟩)))
    | some p =>
      have hlt : a < L.length := (List.getElem?_eq_some_iff.mp hp).1
      have hpm := List.mem_of_getElem? hp
      have h6 := hS.n6
      have hlen := hb.ok.len
      have hps := hb.ok.lt p hpm
      rw [drop_one hp]
      refine iteT ?_
      refine ds_cons (d1_asg (i := 3) nd rfl (by walk_at "loc") (de_popAt (de_var 2 rfl (by nofun) rfl (by walk_at "vis") ⟨1, _, rfl, rfl, (de_int ⟨0, _, 0, nD p.1, rfl, rfl, by decide, by decide, seq0 _, rfl, ?_⟩)⟩)))
      refine ds_cons (d1_for PassesOwn.never rfl (di_enU (by rfl) mE (de_ix (fun _ _ => rfl) (de_var 0 rfl (by nofun) rfl (by walk_at "vis") (de_int ⟨_, _, _, rfl, (by walk_at "seq"), rfl, _, rfl, ?_⟩)))))
      refine ⟨fun i δ' ω' => ∃ s4 s5, δ' = [.val (sysD S), .own 0, .own 1, .val (nD p.1), s4, s5] ∧ ω' = [.dct (kvB (bexp S p.1 p.2 i L)), .lst (((bexp S p.1 p.2 i L).drop (a + 1)).map fun p => nD p.1)], ⟨_, _, rfl, rfl⟩, ?_, ?_⟩
      · rintro i d δ' ω' hd ⟨s4, s5, rfl, rfl⟩
        obtain ⟨g, hg, rfl⟩ := enD_at hd
        have hi : i < S.ops.length := by
          have := (List.getElem?_eq_some_iff.mp hg).1
          rwa [List.length_map] at this
        obtain ⟨h1, op, h2, h3⟩ := step_at hS hi hps
        obtain rfl : g = opD op := by
          rw [List.getElem?_map, h2] at hg
          exact (Option.some.inj hg).symm
        refine dg_tup2 (i := 4) (j := 5) rfl nd rfl rfl (by walk_at "loc") (by walk_at "loc") (by walk_at "mr") (by walk_at "mr") ?_
        have hat : atI (op.map nD) (p.1 : Int) = some (nD (step S i p.1)) := atI_nat (by rw [List.getElem?_map, h3]; rfl)
        have hok : BOk S (a + 1) (bexp S p.1 p.2 i L) := (hb.ok.more (Nat.le_succ _)).exp hS hps (hb.ok.lg p hpm) (Nat.lt_succ_of_le (hb.ok.ln p hpm)) (hb.ok.en p hpm) _ (by omega)
        have hpre := bexp_pre S p.1 p.2 L i
        have hmem : p ∈ bexp S p.1 p.2 i L := hpre.subset hpm
        have hlog := hb.ok.ln p hpm
        have hbl := hok.len
        have hpl := hpre.length_le
        refine ds_cons (d1_if (dt_dnotin hu (de_ix (fun _ _ => rfl) (de_var 5 rfl (by nofun) rfl (by walk_at "vis") (de_var 3 rfl (by nofun) rfl (by walk_at "vis") ⟨_, _, _, rfl, .tup _, hat, (de_var 1 rfl (by nofun) rfl (by walk_at "vis") ⟨0, _, .inl ((step S i p.1 : Nat) : Int), rfl, rfl, rfl, ?_⟩)⟩)))))
        rw [isB]
        by_cases hm : step S i p.1 ∈ (bexp S p.1 p.2 i L).map (·.1)
        · rw [decide_eq_true hm]
          refine iteF (ds_nil (ds_nil ⟨_, _, rfl, ?_⟩))
          rw [bexp_succ]
          unfold bstep
          rw [if_pos hm]
        · rw [decide_eq_false hm]
          refine iteT ?_
          refine ds_cons (d1_dput hu (de_plus (de_dget hu (fun _ _ => rfl) (de_var 1 rfl (by nofun) rfl (by walk_at "vis") (de_var 3 rfl (by nofun) rfl (by walk_at "vis") ⟨0, _, .inl (p.1 : Int), logD p.2, rfl, rfl, rfl, getB_mem hok.nd hmem, (de_tup (da_cons (de_var 4 rfl (by nofun) rfl (by walk_at "vis") (da_nil ⟨[_], rfl, by walk_at "sz", (.tup (by walk_at "sz") ?_)⟩))))⟩)))))
          refine de_var 1 rfl (by nofun) rfl (by walk_at "vis") (de_ix (fun _ _ => rfl) (de_var 5 rfl (by nofun) rfl (by walk_at "vis") (de_var 3 rfl (by nofun) rfl (by walk_at "vis") ⟨_, _, _, rfl, .tup _, hat, 0, kvB (bexp S p.1 p.2 i L), .inl ((step S i p.1 : Nat) : Int), logD (p.2 ++ [i]), congrArg Sl.val (congrArg PyData.tuple (snoc_map nD p.2 i)), rfl, rfl, rfl, ?_, ?_⟩)))
          · unfold kvB
            rw [List.length_map]
            omega
          rw [setB hm]
          refine ds_cons (d1_expr (de_append (de_var 2 rfl (by nofun) rfl (by walk_at "vis") ⟨1, _, rfl, rfl, (de_ix (fun _ _ => rfl) (de_var 5 rfl (by nofun) rfl (by walk_at "vis") (de_var 3 rfl (by nofun) rfl (by walk_at "vis") ⟨_, _, _, rfl, .tup _, hat, _, _, rfl, rfl, ?_, ?_⟩)))⟩)))
          · rw [List.length_map, List.length_drop]
            omega
          refine ds_nil (ds_nil ⟨_, _, rfl, ?_⟩)
          rw [bexp_succ]
          unfold bstep
          rw [if_neg hm, List.drop_append_of_le_length (by omega), List.map_append]
          rfl
      · rintro δ' ω' ⟨s4, s5, rfl, rfl⟩
        rw [enD_len, List.length_map]
        exact ds_nil ⟨7 - (a + 1), by omega, a + 1, _, _, _, _, hb.next hS hp, rfl, rfl, rfl⟩
theorem ok_reachable (F : Fun K "reachable" "reachable" s_reachable f fd) (c1 : Has P w K mg base 6 "check_system" (spP K φ_check_system)) (c2 : Has P w K mg base 1 "first_paths" (spD K φ_paths)) (mR : mg "range" = none) (mT : mg "tuple" = none) : FnOk P w K mg base CX0 7 f fd ["system"] (spP K φ_reach) := by
  refine ok_P F sc_reachable (fun ds Q h => ?_) fun ds Q h cdv A outer s H E hr => ?_
  · obtain ⟨S, rfl, _⟩ := h
    rfl
  · obtain ⟨S, rfl, hS, hq⟩ := h
    have nd := sc_reachable.nd
    have hu := hu_of hr
    have h6 := hS.n6
    refine ds_cons (d1_expr (de_call c1 (by walk_at "room") (by rfl) (da_cons (de_var 0 rfl (by nofun) rfl (by walk_at "vis") (da_nil ⟨[_], rfl, _, rfl, sm_sys hS, isSys_of hS, ?_⟩)))))
    refine ds_cons (d1_asg (i := 1) nd rfl (by walk_at "loc") (de_callD c2 (by walk_at "room") (by rfl) (da_cons (de_var 0 rfl (by nofun) rfl (by walk_at "vis") (da_nil ⟨[_], rfl, S, rfl, hS, ?_⟩)))))
    refine ds_cons (d1_ret (de_callTy call_tuple_of (by rfl) (by assumption) PyProof.Rows.boot_tuple (da_cons ?_)))
    refine de_lc rfl nd (blkOk_by (own := [("state", 2)]) (N := n_reachable) (sc := defScope s_reachable) (by decide +kernel)) (di_rng1 (by rfl) (by assumption) (de_ix (fun _ _ => rfl) (de_var 0 rfl (by nofun) rfl (by walk_at "vis") (de_int ⟨_, _, _, rfl, (by walk_at "seq"), rfl, _, rfl, by omega, by omega, ?_⟩))))
    refine ⟨by rw [rgD_len]; omega, _, ⟨rfl, rfl⟩, lc_filt (fun d => match d with | .int s => decide (s.toNat ∈ (bfs S).map (·.1)) | _ => false) (fun d => d) (fun x d hd => ?_), fun acc ω3 hacc ⟨ew, ea⟩ => .inl ?_⟩
    · intro s H C cl fp
      obtain ⟨hx, rfl⟩ := rgD_at hd
      refine dg_name (i := 2) nd rfl (.inl rfl) (by decide) ⟨?_, fun _ => ?_⟩
      · intro s H C cl fp
        refine dt_din hu (de_var 2 rfl (by nofun) rfl (by walk_at "vis") (de_var 1 rfl (by nofun) rfl (by walk_at "vis") ⟨0, _, .inl ((x : Nat) : Int), rfl, rfl, ?_, ?_, rfl⟩))
        · rw [Int.zero_add]
          rfl
        · rw [isB, Int.zero_add]
          rfl
      · intro s H C cl fp
        exact de_var 2 rfl (by nofun) rfl (by walk_at "vis") ⟨rfl, rfl⟩
    · rw [List.take_length] at ea
      subst ew ea
      refine da_nil (ra_tuple (.lst _) ⟨_, rfl, ?_⟩)
      have e : ((rgD 0 ((S.n : Nat) : Int)).filter fun d => match d with | .int s => decide (s.toNat ∈ (bfs S).map (·.1)) | _ => false).map (fun d => d) = (reach S).map nD := by
        rw [rgD0, List.filter_map, List.map_map]
        rfl
      rw [e]
      exact hq
end
end
section
/-! ### what can be shown -/
mutual
def shD : D → Bool
  | .none => true
  | .bool _ => true
  | .int i => decide (-999999999999 ≤ i ∧ i ≤ 999999999999)
  | .str _ => false
  | .list xs => shAll xs
  | .tuple xs => shAll xs
  | .dict _ => false
def shAll : List D → Bool
  | [] => true
  | x :: xs => shD x && shAll xs
end
theorem log2_small {i : Int} (h1 : -999999999999 ≤ i) (h2 : i ≤ 999999999999) : i.natAbs.log2 < 1920 := by
  have hn : i.natAbs < 2 ^ 41 := by
    have : (2 : Nat) ^ 41 = 2199023255552 := by decide
    omega
  have h3 : i.natAbs.log2 < 41 := by
    by_cases hz : i.natAbs = 0
    · rw [hz]
      decide
    · exact (Nat.log2_lt hz).mpr hn
  omega
mutual
theorem sh_ok : ∀ d : D, shD d = true → d.showable = true ∧ d.hasDict = false ∧ d.leavesShort 13 = true
  | .none, _ => ⟨rfl, rfl, rfl⟩
  | .bool _, _ => ⟨rfl, rfl, rfl⟩
  | .int i, h => by
    have h := of_decide_eq_true (show decide (-999999999999 ≤ i ∧ i ≤ 999999999999) = true from h)
    exact ⟨decide_eq_true (log2_small h.1 h.2), rfl, decide_eq_true (PySem.PyData.shown_int_le2 h.1 h.2)⟩
  | .str _, h => by cases h
  | .list xs, h => by
    have q := shAll_ok xs h
    exact ⟨q.1, q.2.1, q.2.2⟩
  | .tuple xs, h => by
    have q := shAll_ok xs h
    exact ⟨q.1, q.2.1, q.2.2⟩
  | .dict _, h => by cases h
theorem shAll_ok : ∀ xs : List D, shAll xs = true → PyData.showableAll xs = true ∧ PyData.hasDictAll xs = false ∧ PyData.leavesShortAll 13 xs = true
  | [], _ => ⟨rfl, rfl, rfl⟩
  | x :: xs, h => by
    have h : (shD x && shAll xs) = true := h
    rw [Bool.and_eq_true] at h
    have q1 := sh_ok x h.1
    have q2 := shAll_ok xs h.2
    refine ⟨?_, ?_, ?_⟩
    · show (x.showable && PyData.showableAll xs) = true
      rw [q1.1, q2.1]
      rfl
    · show (x.hasDict || PyData.hasDictAll xs) = false
      rw [q1.2.1, q2.2.1]
      rfl
    · show (x.leavesShort 13 && PyData.leavesShortAll 13 xs) = true
      rw [q1.2.2, q2.2.2]
      rfl
end
theorem Shows.of {d : D} (h : shD d = true) (hp : d.depth ≤ 40) (hb : d.bulk ≤ 1000000) : Shows d := by
  have q := sh_ok d h
  exact ⟨q.1, q.2.1, hp, PyData.shown_fits_bulk (B := 13) (by decide) (by decide) q.2.2 (Nat.le_trans hb (by decide))⟩
theorem shAll_map {α : Type} {f : α → D} {l : List α} (h : ∀ x ∈ l, shD (f x) = true) : shAll (l.map f) = true := by
  induction l with
  | nil => rfl
  | cons x r ih =>
    show (shD (f x) && shAll (r.map f)) = true
    rw [h x List.mem_cons_self, ih fun y hy => h y (List.mem_cons_of_mem _ hy)]
    rfl
theorem sh_nD {i : Nat} (h : i ≤ 1000000) : shD (nD i) = true := decide_eq_true ⟨by omega, by omega⟩
theorem depthAll_le {n : Nat} : ∀ {l : List D}, (∀ x ∈ l, x.depth ≤ n) → PyData.depthAll l ≤ n
  | [], _ => Nat.zero_le _
  | x :: r, h => Nat.max_le.mpr ⟨h x List.mem_cons_self, depthAll_le fun y hy => h y (List.mem_cons_of_mem _ hy)⟩
theorem depth_map {α : Type} {f : α → D} {l : List α} {n : Nat} (h : ∀ x ∈ l, (f x).depth ≤ n) : PyData.depthAll (l.map f) ≤ n := depthAll_le fun y hy => by
  obtain ⟨x, hx, rfl⟩ := List.mem_map.mp hy
  exact h x hx
theorem depth_nD (i : Nat) : (nD i).depth = 0 := rfl
theorem depth_kD (k : Option Nat) : (kD k).depth = 0 := by cases k <;> rfl
/-- numbers below a million, few of them -/
theorem shows_n {i : Nat} (h : i ≤ 1000000) : Shows (nD i) := .of (sh_nD h) (by rw [depth_nD]; decide) (by rw [bulk_nD]; decide)
theorem shAll_n {l : List Nat} (h : ∀ i ∈ l, i ≤ 1000000) : shAll (l.map nD) = true := shAll_map fun i hi => sh_nD (h i hi)
theorem shows_list {l : List Nat} (h : ∀ i ∈ l, i ≤ 1000000) (hl : l.length ≤ 100000) : Shows (.list (l.map nD)) :=
  .of (shAll_n h) (by
    show PyData.depthAll (l.map nD) + 1 ≤ 40
    have := depth_map (f := nD) (l := l) (n := 0) fun x _ => by rw [depth_nD]; exact Nat.le_refl _
    omega) (by
    show PyData.bulkAll (l.map nD) ≤ 1000000
    rw [bulkAll_nD]
    omega)
theorem sh_sys {S : Sys} (h : S.Ok) : shD (sysD S) = true := by
  have h6 := h.n6
  have hs := h.st
  show (shD (nD S.n) && (shD (nD S.st) && (shAll (S.ops.map opD) && (shAll (S.kn.map kD) && true)))) = true
  rw [sh_nD (by omega), sh_nD (by omega), shAll_map (f := opD) fun o ho => shAll_n fun i hi => by have := (h.op o ho).2 i hi; omega, shAll_map (f := kD) fun k hk => by
    cases k with
    | none => rfl
    | some i => exact sh_nD (by have := h.kk _ hk i rfl; omega)]
  rfl
theorem depth_sys (S : Sys) : (sysD S).depth ≤ 3 := by
  have h1 : PyData.depthAll (S.ops.map opD) ≤ 1 := depth_map fun o _ => by
    show PyData.depthAll (o.map nD) + 1 ≤ 1
    have := depth_map (f := nD) (l := o) (n := 0) fun x _ => by rw [depth_nD]; exact Nat.le_refl _
    omega
  have h2 : PyData.depthAll (S.kn.map kD) ≤ 0 := depth_map fun k _ => by rw [depth_kD]; exact Nat.le_refl _
  show max (nD S.n).depth (max (nD S.st).depth (max (PyData.depthAll (S.ops.map opD) + 1) (max (PyData.depthAll (S.kn.map kD) + 1) 0))) + 1 ≤ 3
  rw [depth_nD, depth_nD]
  omega
theorem sh_log {l : List Nat} (h : ∀ i ∈ l, i ≤ 1000000) : shD (logD l) = true := shAll_n h
theorem depth_log (l : List Nat) : (logD l).depth ≤ 1 := by
  have := depth_map (f := nD) (l := l) (n := 0) fun x _ => by rw [depth_nD]; exact Nat.le_refl _
  show PyData.depthAll (l.map nD) + 1 ≤ 1
  omega
theorem bulk_log (l : List Nat) : (logD l).bulk = l.length := bulkAll_nD l
theorem log_small {S : Sys} (h : S.Ok) {l : List Nat} (hl : LogOk S l) : ∀ i ∈ l, i ≤ 1000000 := fun i hi => by
  have h1 := hl i hi
  have h2 := h.o6
  omega
theorem shows_pair {S : Sys} (h : S.Ok) {l : List Nat} (hl : LogOk S l) (hz : l.length ≤ 1000) : Shows (.tuple [sysD S, logD l]) := by
  refine .of ?_ ?_ ?_
  · show (shD (sysD S) && (shD (logD l) && true)) = true
    rw [sh_sys h, sh_log (log_small h hl)]
    rfl
  · have h1 := depth_sys S
    have h2 := depth_log l
    show max (sysD S).depth (max (logD l).depth 0) + 1 ≤ 40
    omega
  · have h1 := bulk_sys h
    show (sysD S).bulk + 1 + ((logD l).bulk + 1 + 0) ≤ 1000000
    rw [bulk_log]
    omega

/-! ### cells at the end -/
theorem last_at (ω : List Cell) (c : Cell) : (ω ++ [c])[ω.length]? = some c := by
  rw [List.getElem?_append_right (Nat.le_refl _), Nat.sub_self]
  rfl
theorem last_set (ω : List Cell) (c d : Cell) : (ω ++ [c]).set ω.length d = ω ++ [d] := by
  rw [List.set_append_right _ _ (Nat.le_refl _), Nat.sub_self]
  rfl
/-- told the same: repr of equal data is equal -/
def φ_same : List D → (D → Prop) → Prop := fun ds P => ∃ d, ds = [d, d] ∧ Shows d ∧ P (.bool true)
theorem rr_eqSt {X : Cx} {P : Sl → List Cell → Prop} {ω : List Cell} {a b : Str} (hp : P (.val (.bool (a == b))) ω) : RR X rEq (.val (.str a)) (.val (.str b)) ω P := fun B F H as v u w s1 s2 Q o => by
  obtain rfl := dp_str_inv (sl_val s1)
  obtain rfl := dp_str_inv (sl_val s2)
  refine ⟨rfl, ?_⟩
  rw [dec_str]
  exact o.here w (.bl _) hp
theorem rr_neSt {X : Cx} {P : Sl → List Cell → Prop} {ω : List Cell} {a b : Str} (hp : P (.val (.bool (!(a == b)))) ω) : RR X rNe (.val (.str a)) (.val (.str b)) ω P := fun B F H as v u w s1 s2 Q o => by
  obtain rfl := dp_str_inv (sl_val s1)
  obtain rfl := dp_str_inv (sl_val s2)
  refine ⟨rfl, ?_⟩
  rw [dec_str]
  exact o.here w (.bl _) hp
section
variable {P : Program} {w : World} {K : Fg} {mg : Str → Option Value} {base : Heap} {f : Addr} {fd : FuncData} {k : Nat}
end
end
section
/-- a call whose first argument is the newest cell -/
theorem de_callLast {X : Cx} {x : Str} {p pos : Pos} {j : Nat} {e : Expr} {es : List Expr} {δ : List Sl} {ω : List Cell} {P : Sl → List Cell → Prop} {φ : List D → List D → (D → List D → Prop) → Prop} (C : Has X.prog X.w X.K X.mg X.base j x (spL X.K φ)) (hr : Room j X.A) (hg : Gl X x)
    (h : DA X (e :: es) δ ω fun rs ω1 => ∃ ω0 cs ds, ω1 = ω0 ++ [.lst cs] ∧ rs = .own ω0.length :: ds.map Sl.val ∧ φ cs ds fun d cs' => P (.val d) (ω0 ++ [.lst cs']))
    (hdb : (x == ("__debug__" : Str)) = false := by decide) (he : starEach (e :: es) X.env = (false, eval e X.env) :: starEach es X.env := by rfl) (hpl : (backTo pos (starEach es X.env)).any (·.1) = false := by rfl) : DE X (.Call (.Name x p) (e :: es) [] pos) δ ω P :=
  de_callL C hr hg (h.mono fun rs ω1 ⟨ω0, cs, ds, e1, er, hφ⟩ => by
    subst e1
    refine ⟨_, cs, ds, er, last_at _ _, ?_⟩
    have e2 : (fun d cs' => P (.val d) ((ω0 ++ [Cell.lst cs]).set ω0.length (Cell.lst cs'))) = fun (d : D) (cs' : List D) => P (.val d) (ω0 ++ [.lst cs']) := by
      funext d cs'
      rw [last_set]
    rw [e2]
    exact hφ) hdb he hpl
end
section
def entD (L : List Ent) : List D := L.map fun p => .tuple [nD p.1, logD p.2]
def φ_lpaths : List D → (D → Prop) → Prop := fun ds P => ∃ S, ds = [sysD S] ∧ S.Ok ∧ P (.list (entD (bfs S)))
def φ_lreach : List D → (D → Prop) → Prop := fun ds P => ∃ S, ds = [sysD S] ∧ S.Ok ∧ P (.list ((reach S).map nD))
theorem flat_nD (l : List Nat) : (l.map nD).all flat = true := by
  rw [List.all_map, List.all_eq_true]
  exact fun _ _ => rfl
theorem sort_reach {S : Sys} (hS : S.Ok) {ns : List Int} (h1 : ns.Perm ((bfs S).map fun p => (p.1 : Int))) (h2 : ns.Pairwise (· ≤ ·)) : ns.map PyData.int = (reach S).map nD := by
  have e1 : ((bfs S).map fun p => (p.1 : Int)).Perm ((reach S).map fun s : Nat => (s : Int)) := by
    have := ((reach_perm hS).map fun s : Nat => (s : Int)).symm
    rwa [List.map_map] at this
  have e2 : ((reach S).map fun s : Nat => (s : Int)).Pairwise (· ≤ ·) := by
    rw [List.pairwise_map]
    exact (List.pairwise_lt_range.filter _).imp fun h => by omega
  have e3 := List.Perm.eq_of_pairwise (fun a b _ _ h3 h4 => Int.le_antisymm h3 h4) h2 e2 (h1.trans e1)
  rw [e3, List.map_map]
  rfl
section
variable {P : Program} {w : World} {K : Fg} {mg : Str → Option Value} {base : Heap} {f : Addr} {fd : FuncData} {k : Nat}
end
end
section
section
variable {P : Program} {w : World} {K : Fg} {mg : Str → Option Value} {base : Heap} {f : Addr} {fd : FuncData}
end
end
section
/-! the last clause with a test -/
def emiF (c elt : Expr) (acc : Value) (env : Env) : Sem Unit := do
  let ok ← isTrue c env (eval c env)
  if ok then emi elt acc env else pure ()
theorem fi1 {α β : Type} {c : α} {f : α → Bool → Sem (ForInStep Bool)} {k : Bool → Sem β} : (forIn [c] true f >>= k) = (f c true >>= fun r => match r with | .done b => k b | .yield b => k b) := by
  rw [List.forIn_cons, LawfulMonad.bind_assoc]
  refine congrArg _ (funext fun r => ?_)
  cases r with
  | done b => exact LawfulMonad.pure_bind _ _
  | yield b =>
    dsimp only
    rw [List.forIn_nil]
    exact LawfulMonad.pure_bind _ _
section
variable (elt t0 i0 t1 i1 c : Expr) (scope : Scope) (pos : Pos) (acc : Value) (env : Env)
theorem turn20i : TurnIs elt t0 [⟨t0, i0, [], 0⟩, ⟨t1, i1, [c], 0⟩] scope pos i0.pos 0 acc env (nxt elt i1 [⟨t0, i0, [], 0⟩, ⟨t1, i1, [c], 0⟩] scope pos 1 acc env) := fun it => by
  unfold nxt
  simp only [LawfulMonad.bind_assoc]
  rfl
theorem turn21i : TurnIs elt t1 [⟨t0, i0, [], 0⟩, ⟨t1, i1, [c], 0⟩] scope pos i1.pos 1 acc env (emiF c elt acc env) := fun it => by
  unfold compTurn
  dsimp only [List.getElem?_cons_succ, List.getElem?_cons_zero]
  show (do
      standAt i1.pos
      let x ← pyNext it
      _) = _
  refine congrArg _ (funext fun _ => congrArg _ (funext fun r => ?_))
  cases r with
  | none => rfl
  | some v =>
    dsimp only
    refine congrArg _ (funext fun _ => congrArg _ (funext fun _ => ?_))
    refine fi1.trans (Eq.trans ?_ (LawfulMonad.bind_assoc _ _ _).symm)
    rw [if_pos rfl]
    refine (LawfulMonad.bind_assoc _ _ _).trans ?_
    refine congrArg (fun k => PySem.isTrue c env (eval c env) >>= k) (funext fun b => ?_)
    refine (LawfulMonad.pure_bind _ _).trans ?_
    cases b with
    | false => exact (LawfulMonad.pure_bind _ _).symm
    | true => rfl
end
section
variable {Y : Cx} {c elt : Expr} {D : Addr}
theorem bod_appF {tc : TT} {te : TE} (hx : ∀ e s, Y.xe e s → False) (hc : PT Y c tc) (he : PE Y elt te) :
    Bod Y [] (emiF c elt (.ref D) Y.env) (fun σ H Q => tc σ H fun b H0 => if b = true then te σ H0 fun y H1 => ∃ acc, H1 D = some (.lst acc) ∧ acc.length < sizeLine ∧ Q (upd H1 D (.lst (acc ++ [y]))) else Q H0) := ⟨fun pins s σ H Q I h => by
  unfold emiF
  refine wpAny_bind (wpAny_mono (hc.run pins s σ H _ I h) (fun b s1 h1 => ?_) hx)
  obtain ⟨H1, I1, q⟩ := h1
  cases b with
  | true => exact (bod_app hx he).run pins s1 σ H1 Q I1 q
  | false => exact wpAny_pure ⟨_, I1, q⟩⟩
theorem db_appF {Dl : Addr} {δ : List Sl} {ω : List Cell} {g : Bool} {d : PyData} (hx : ∀ e s, Y.xe e s → False) (hc : DT Y c δ ω fun b ω' => b = g ∧ ω' = ω) (h : g = true → DE Y elt δ ω fun r ω' => r = .val d ∧ ω' = ω) :
    DB Y [] (emiF c elt (.ref Dl) Y.env) Dl δ ω (if g = true then [d] else []) := fun B F H as σ accV acc w ev ha hl Q o => by
  refine ⟨_, bod_appF hx pt_w pe_w, hc B _ H as σ w ev _ fun b B1 H1 as1 ω1 e1 p1 w1 ⟨eb, eω⟩ => ?_⟩
  subst eb eω
  obtain rfl := same_as w w1 p1
  cases b with
  | false =>
    rw [if_neg Bool.false_ne_true]
    rw [if_neg Bool.false_ne_true, List.append_nil] at o
    exact o B1 H1 accV e1 w1 (dpAll_up e1 ha)
  | true =>
    rw [if_pos rfl]
    rw [if_pos rfl] at o hl
    refine h rfl B1 _ H1 as1 σ w1 (envOk_up e1 (List.prefix_refl _) ev) _ fun v B2 H2 as2 r ω2 e2 p2 w2 s2 ⟨er, eω⟩ => ?_
    subst er eω
    obtain rfl := same_as w1 w2 p2
    refine ⟨accV, (w2.f Dl _ upd_same).1, ?_, o B2 _ (accV ++ [v]) (e1.trans e2) w2.rehide (dpAll_app (dpAll_up (e1.trans e2) ha) (.cons (sl_val s2) .nil))⟩
    rw [dpAll_len ha, sizeLine_eq]
    rw [List.length_singleton] at hl
    omega
end
end
section
/-! a def with an own list that may also call repr -/
section
variable {P : Program} {w : World} {K : Fg} {mg : Str → Option Value} {base : Heap} {x qual : Str} {st : Stmt} {f : Addr} {fd : FuncData} {N ps : List Str} {k : Nat}
theorem ok_GL {φ : List D → List D → (D → List D → Prop) → Prop} (F : Fun K x qual st f fd) (S : FnScope N ps (defScope st)) (hn : ∀ cs ds Q, φ cs ds Q → ds.length + 1 = ps.length)
    (hb : ∀ cs ds Q, φ cs ds Q → BodyG P w K mg base N qual st f k fun X => DS X (defBody st) (slots N (.own 0 :: ds.map Sl.val)) [.lst cs] { nx := fun _ ω' => ∃ cs', ω'[0]? = some (.lst cs') ∧ Q .none cs', rt := fun r ω' => ∃ d cs', r = .val d ∧ ω'[0]? = some (.lst cs') ∧ Q d cs' }) :
    FnG P w K mg base (k + 1) f fd ps (spL K φ) := by
  refine fnG_mk F S (fun vs H Q E h => ?_) fun cdv A outer s H vs Q E hgd hr h => ?_
  · obtain ⟨B, F', a, rest, cs, ds, P', rfl, hw, hd, hφ, _⟩ := h
    rw [List.length_cons, dpAll_len hd]
    exact hn _ _ _ hφ
  · obtain ⟨B, F', a, rest, cs, ds, P', rfl, hw, hd, hφ, hq⟩ := h
    refine ⟨_, pss_w, hb cs ds P' hφ cdv A outer s H E hgd hr B F' H [a] _ hw (env_start (vs := .ref a :: rest) (.cons (slo rfl) (envOk_vals hd))) _ ⟨fun σ' H' B' as' δ' ω' e1 p1 w1 ev1 q => ?_, fun _ _ _ _ _ _ _ _ _ _ q => q.elim, fun _ _ _ _ _ _ _ _ _ _ q => q.elim, fun v B' H' as' r ω' e1 p1 w1 s1 q => ?_⟩⟩
    · obtain ⟨cs', h0, q⟩ := q
      exact hq .non B' H' .none cs' e1 (w1.head p1 h0) .non q
    · obtain ⟨d, cs', rfl, h0, q⟩ := q
      exact hq v B' H' d cs' e1 (w1.head p1 h0) (sl_val s1) q
end
section
variable {X : Cx} {e : Expr} {es : List Expr} {δ : List Sl} {ω : List Cell} {P : PO1} {pos : Pos}
theorem de_callGL {x : Str} {p : Pos} {j : Nat} {φ : List D → List D → (D → List D → Prop) → Prop} (C : HasG X.prog X.w X.K X.mg X.base j x (spL X.K φ)) (hgd : X.A.guards = some []) (hr : Room j X.A) (hg : Gl X x) (h : DA X (e :: es) δ ω fun rs ω1 => ∃ kx cs ds, rs = .own kx :: ds.map Sl.val ∧ ω1[kx]? = some (.lst cs) ∧ φ cs ds fun d cs' => P (.val d) (ω1.set kx (.lst cs')))
    (hdb : (x == ("__debug__" : Str)) = false := by decide) (he : starEach (e :: es) X.env = (false, eval e X.env) :: starEach es X.env := by rfl) (hpl : (backTo pos (starEach es X.env)).any (·.1) = false := by rfl) : DE X (.Call (.Name x p) (e :: es) [] pos) δ ω P := fun B F H as σ w ev Q o => by
  obtain ⟨f, fd, ps, hf, hm, hk, hb⟩ := C.ex
  refine ⟨fun σ H Q => wA X (e :: es) σ H fun vs H1 => spL X.K φ vs H1 Q E0, ⟨fun pins s σ H Q I hh => ?_⟩, ?_⟩
  · refine wpAny_Call_Name_kw (ld_glob I hg hm ?_ hdb)
    refine PySem.W.callWith_K (h₀ := X.base) I.ok.mod.kin hk ?_ he hpl
    exact thn (pa_w.run pos pins s σ H _ I hh) fun us s1 ⟨vs, H1, I1, r, q⟩ => ⟨I1.kIn, run_fnG hf hgd hr hb I1 r q⟩
  · refine h B F H as σ w ev _ fun vs B1 H1 as1 rs ω1 e1 p1 w1 s1 ⟨kx, cs, ds, er, hc, hφ⟩ => ?_
    subst er
    obtain ⟨v, us, rfl, g1, g2⟩ := rs_head s1
    obtain ⟨a, rfl, ha⟩ := sl_own g1
    obtain ⟨F', wF, back⟩ := w1.frame1 ha hc (by simp)
    refine ⟨B1, F', a, us, cs, ds, _, rfl, wF, rsOk_vals g2, hφ, fun v B' H' d cs' sb w' hd hp => ?_⟩
    exact o v B' H' as1 _ _ (e1.trans sb) p1 (back B' H' _ sb w') (slv hd) hp
end
end
section
/-! xs.index(e); an owned list beside a written one; list(range(n)) owned -/
theorem seqN {i n : Nat} (h : i < n) : seqIndex? (i : Int) n = some i := by
  unfold seqIndex?
  simp
  omega
section
variable {X : Cx} {e : Expr} {δ : List Sl} {ω : List Cell} {P : Sl → List Cell → Prop} {pos : Pos}
theorem rr_neLO {k : Nat} {ds es : List PyData} (hc : ω[k]? = some (.lst ds)) (h1 : SeqAt.shaped (.list ds) = true) (h2 : SeqAt.shaped (.list es) = true) (hp : P (.val (.bool (!PyData.eqv (.list ds) (.list es)))) ω) : RR X (rNeD X.K) (.own k) (.val (.list es)) ω P := fun B F H as v u w s1 s2 Q o => by
  obtain ⟨a, xs, rfl, ha, hh, hd⟩ := slo_lst w s1 hc
  exact ⟨.list ds, .list es, .lst (.inl (.inl hh)) (dpAll_up w.b hd), dp_up w.b (sl_val s2), h1, h2, o.here w (.bl _) hp⟩
theorem de_lstRgO {p p2 pos2 : Pos} (hc : X.calm = true) (hg : Gl X "list") (hm : X.mg "list" = none) (hg2 : Gl X "range") (hm2 : X.mg "range" = none) (h : DE X e δ ω fun r ω1 => ∃ n, r = .val (.int n) ∧ 0 ≤ n ∧ n ≤ 10000 ∧ P (.own ω1.length) (ω1 ++ [.lst (rgD 0 n)]))
    (na : starEach [.Call (.Name "range" p2) [e] [] pos2] X.env = (false, eval (.Call (.Name "range" p2) [e] [] pos2) X.env) :: starEach [] X.env := by rfl) (na2 : starEach [e] X.env = (false, eval e X.env) :: starEach [] X.env := by rfl) :
    DE X (.Call (.Name "list" p) [.Call (.Name "range" p2) [e] [] pos2] [] pos) δ ω P := fun B F H as σ w ev Q o =>
  ⟨_, pe_listRg hc hg hm (prg_1 hg2 hm2 pe_w na2) na, h B F H as σ w ev _ fun v B1 H1 as1 r ω1 e1 p1 w1 s1 ⟨n, er, h0, hn, hp⟩ => by
    subst er
    obtain rfl := dp_int_inv (sl_val s1)
    exact ⟨n, rfl, RgOk.of_le (by omega) (by omega) (by omega) h0, fun q hq => (o.up e1 p1).own w1 hq (dp_rg _ _) hp⟩⟩
theorem de_indexL {xs : Expr} {apos cpos : Pos} (h : DE X xs δ ω fun r ω1 => ∃ ds, r = .val (.list ds) ∧ DE X e δ ω1 fun s ω2 => ∃ (d z : PyData) (j : Nat), s = .val d ∧ flat d = true ∧ ds.all flat = true ∧ ds[j]? = some z ∧ eqV (fv z) (fv d) = true ∧ (∀ (m : Nat) (z' : PyData), m < j → ds[m]? = some z' → eqV (fv z') (fv d) = false) ∧ P (.val (.int (j : Nat))) ω2)
    (hbase : attributeBase xs "index" X.env (eval xs X.env) = eval xs X.env := by rfl)
    (hfew : ((backTo cpos (starEach (e :: []) X.env)).all (fun x => !x.1) && (backToKw cpos (keywordEach [] X.env)).all (fun x => x.1.isSome) && decide ((e :: ([] : List Expr)).length + ([] : List Keyword).length + (if ([] : List Keyword).isEmpty then 0 else 1) < 30)) = true := by rfl)
    (hline : (apos.endLine == cpos.line) = true := by rfl) (hs : starEach (e :: []) X.env = (false, eval e X.env) :: starEach [] X.env := by rfl) (hplain : (backTo cpos (starEach [] X.env)).any (·.1) = false := by rfl) :
    DE X (.Call (.Attribute xs "index" apos) [e] [] cpos) δ ω P := fun B F H as σ w ev Q o => by
  refine ⟨_, pe_bm PySem.F.plainAttrs_list PySem.F.slot_list_index PySem.F.type_list_index mt_index pe_w (pa_cons pe_w pa_nil hs) hbase hfew hline hs hplain, ?_⟩
  refine h B F H as σ w ev _ fun v B1 H1 as1 r ω1 e1 p1 w1 s1 ⟨ds, er, q1⟩ => ?_
  subst er
  obtain ⟨a, xs, rfl, h1, h2⟩ := slv_lst s1 w1.b
  refine ⟨.inl ⟨rfl, xs, h1⟩, ?_⟩
  refine q1 B1 F H1 as1 σ w1 (envOk_up e1 p1 ev) _ fun u B2 H2 as2 r2 ω2 e2 p2 w2 s2 ⟨d, z, j, er2, hfd, hfa, hj, hz, hm, hp⟩ => ?_
  subst er2
  obtain ⟨a', ys, ea, h3, h4⟩ := slv_lst (slOk_up e2 p2 s1) w2.b
  cases ea
  obtain ⟨f1, f2⟩ := dp_flat (sl_val s2) hfd
  obtain ⟨f3, f4⟩ := dpAll_flat h4 hfa
  obtain ⟨y, h5, h6⟩ := dpAll_at h4 hj
  have hfz : flat z = true := List.all_eq_true.mp hfa z (List.mem_of_getElem? hj)
  obtain ⟨f5, _⟩ := dp_flat h6 hfz
  refine ⟨a, ys, u, j, y, rfl, rfl, h3, f2, f4, h5, by rw [f5, f1]; exact hz, fun m z' hlt hz' => ?_, o _ B2 H2 as2 _ ω2 (e1.trans e2) (p1.trans p2) w2 (slv (.int _)) hp⟩
  obtain ⟨d', g1, g2⟩ := dpAll_get h4 hz'
  have hfd' : flat d' = true := List.all_eq_true.mp hfa d' (List.mem_of_getElem? g1)
  rw [(dp_flat g2 hfd').1, f1]
  exact hm m d' hlt g1
end
end
section
/-! ### first entries -/
theorem flat_nD' (l : List Nat) : (l.map nD).all flat = true := by
  rw [List.all_map, List.all_eq_true]
  exact fun _ _ => rfl
def fstep (acc : List Nat) (e : Nat) : List Nat := if e ∈ acc then acc else acc ++ [e]
def fst (l : List Nat) : List Nat := l.foldl fstep []
theorem fst_take {l : List Nat} {i e : Nat} (h : l[i]? = some e) : fst (l.take (i + 1)) = fstep (fst (l.take i)) e := by
  unfold fst
  rw [List.take_add_one, h, List.foldl_append]
  rfl
theorem fstep_mem {p : Nat → Prop} {acc : List Nat} {e : Nat} (h : ∀ x ∈ acc, p x) (he : p e) : ∀ x ∈ fstep acc e, p x := by
  unfold fstep
  split
  · exact h
  · exact snoc_all h he
theorem foldl_mem {p : Nat → Prop} : ∀ {l acc : List Nat}, (∀ x ∈ acc, p x) → (∀ x ∈ l, p x) → ∀ x ∈ l.foldl fstep acc, p x
  | [], _, h, _ => h
  | e :: r, acc, h, hl => foldl_mem (l := r) (fstep_mem h (hl e List.mem_cons_self)) fun x hx => hl x (List.mem_cons_of_mem _ hx)
theorem fst_log {S : Sys} {l : List Nat} (h : LogOk S l) : LogOk S (fst l) := foldl_mem (p := fun e => e < S.ops.length) nofun h
theorem foldl_len : ∀ (l acc : List Nat), (l.foldl fstep acc).length ≤ acc.length + l.length
  | [], _ => Nat.le_refl _
  | e :: r, acc => by
    have h := foldl_len r (fstep acc e)
    have h2 : (fstep acc e).length ≤ acc.length + 1 := by
      unfold fstep
      split
      · omega
      · rw [List.length_append]
        exact Nat.le_refl _
    rw [List.foldl_cons, List.length_cons]
    omega
theorem fst_len (l : List Nat) : (fst l).length ≤ l.length := by
  have := foldl_len l []
  rw [List.length_nil] at this
  unfold fst
  omega

theorem snoc_all' {α : Type} {p : α → Prop} {l : List α} {x : α} (h : ∀ y ∈ l, p y) (hx : p x) : ∀ y ∈ l ++ [x], p y := fun y hy => by
  rcases List.mem_append.mp hy with q | q
  · exact h y q
  · rw [List.mem_singleton.mp q]
    exact hx
theorem shows_log {S : Sys} (h : S.Ok) {l : List Nat} (hl : LogOk S l) (hz : l.length ≤ 1000) : Shows (logD l) := by
  refine .of (sh_log (log_small h hl)) (by have := depth_log l; omega) ?_
  rw [bulk_log]
  omega
theorem shows_ll {S : Sys} (h : S.Ok) {l : List Nat} (hl : LogOk S l) (hz : l.length ≤ 1000) : Shows (.list [logD l, logD l]) := by
  have h1 := sh_log (log_small h hl)
  refine .of ?_ ?_ ?_
  · show (shD (logD l) && (shD (logD l) && true)) = true
    rw [h1]
    rfl
  · have h2 := depth_log l
    show max (logD l).depth (max (logD l).depth 0) + 1 ≤ 40
    omega
  · show (logD l).bulk + 1 + ((logD l).bulk + 1 + 0) ≤ 1000000
    rw [bulk_log]
    omega
end
section
/-! ### compacting -/
def kk (S : Sys) (e : Nat) : Option Nat := (S.kn[e]?).getD none
def keeps (S : Sys) (e : Nat) (r : List Nat) : Bool := decide (kk S e = none) || !decide (kk S e ∈ r.map (kk S))
def cmp (S : Sys) : List Nat → List Nat
  | [] => []
  | e :: r => if keeps S e r = true then e :: cmp S r else cmp S r
theorem cmp_sub (S : Sys) : ∀ l : List Nat, ∀ e ∈ cmp S l, e ∈ l
  | [], _, h => h
  | x :: r, e, h => by
    unfold cmp at h
    split at h
    · rcases List.mem_cons.mp h with rfl | h
      · exact List.mem_cons_self
      · exact List.mem_cons_of_mem _ (cmp_sub S r e h)
    · exact List.mem_cons_of_mem _ (cmp_sub S r e h)
theorem cmp_log {S : Sys} {l : List Nat} (h : LogOk S l) : LogOk S (cmp S l) := fun e he => h e (cmp_sub S l e he)
theorem cmp_len (S : Sys) : ∀ l : List Nat, (cmp S l).length ≤ l.length
  | [] => Nat.le_refl _
  | x :: r => by
    have := cmp_len S r
    unfold cmp
    split
    · rw [List.length_cons, List.length_cons]
      omega
    · rw [List.length_cons]
      omega
theorem cmp_kinds (S : Sys) {k : Option Nat} (hk : k ≠ none) : ∀ l : List Nat, k ∈ (cmp S l).map (kk S) ↔ k ∈ l.map (kk S)
  | [] => Iff.rfl
  | x :: r => by
    have ih := cmp_kinds S hk r
    unfold cmp
    split
    · rw [List.map_cons, List.map_cons, List.mem_cons, List.mem_cons, ih]
    · next h =>
      rw [ih, List.map_cons, List.mem_cons]
      constructor
      · exact .inr
      · rintro (rfl | h2)
        · unfold keeps at h
          rw [decide_eq_false hk, Bool.false_or] at h
          cases hd : decide (kk S x ∈ r.map (kk S)) with
          | true => exact of_decide_eq_true hd
          | false =>
            rw [hd] at h
            exact absurd rfl h
        · exact h2
theorem cmp_keeps (S : Sys) (e : Nat) (r : List Nat) : keeps S e (cmp S r) = keeps S e r := by
  unfold keeps
  by_cases h : kk S e = none
  · rw [decide_eq_true h, Bool.true_or, Bool.true_or]
  · congr 2
    rw [Bool.eq_iff_iff, decide_eq_true_eq, decide_eq_true_eq]
    exact cmp_kinds S h r
theorem cmp_cmp (S : Sys) : ∀ l : List Nat, cmp S (cmp S l) = cmp S l
  | [] => rfl
  | x :: r => by
    show cmp S (if keeps S x r = true then x :: cmp S r else cmp S r) = if keeps S x r = true then x :: cmp S r else cmp S r
    split
    · next h =>
      show (if keeps S x (cmp S r) = true then x :: cmp S (cmp S r) else cmp S (cmp S r)) = _
      rw [cmp_keeps, if_pos h, cmp_cmp S r]
    · exact cmp_cmp S r
/-- by positions -/
def keepAt (S : Sys) (l : List Nat) (p : Nat × Nat) : Bool := keeps S p.1 (l.drop (p.2 + 1))
theorem cmp_pos (S : Sys) (l : List Nat) : ∀ (pre suf : List Nat), l = pre ++ suf → ((suf.zipIdx pre.length).filter (keepAt S l)).map (·.1) = cmp S suf
  | pre, [], _ => rfl
  | pre, e :: r, h => by
    have ih := cmp_pos S l (pre ++ [e]) r (by rw [h, List.append_assoc]; rfl)
    rw [List.length_append] at ih
    have hd : l.drop (pre.length + 1) = r := by
      rw [h, show pre ++ e :: r = (pre ++ [e]) ++ r by rw [List.append_assoc]; rfl, show pre.length + 1 = (pre ++ [e]).length by rw [List.length_append]; rfl, List.drop_left]
    have hk : keepAt S l (e, pre.length) = keeps S e r := by
      unfold keepAt
      rw [hd]
    rw [List.zipIdx_cons, List.filter_cons, hk]
    unfold cmp
    split
    · rw [List.map_cons]
      exact congrArg _ ih
    · exact ih
theorem cmp_all (S : Sys) (l : List Nat) : (l.zipIdx.filter (keepAt S l)).map (·.1) = cmp S l := cmp_pos S l [] l rfl
/-! ### the dict of last positions -/
def okey : Option Nat → Option Key := Option.map fun i => .inl (i : Int)
theorem okD_okey (k : Option Nat) : okD (okey k) = kD k := by cases k <;> rfl
theorem okey_inj {a b : Option Nat} (h : okey a = okey b) : a = b := by
  cases a with
  | none =>
    cases b with
    | none => rfl
    | some j => cases h
  | some i =>
    cases b with
    | none => cases h
    | some j =>
      have h2 : (.inl (i : Int) : Key) = .inl (j : Int) := Option.some.inj h
      injection h2 with h3
      rw [show i = j by omega]
def lastP (S : Sys) (l : List Nat) : List (Option Key × Int) := l.zipIdx.map fun p => (okey (kk S p.1), (p.2 : Int))
theorem putsN_val (key : Option Key) : ∀ rs : List (Option Key × Int), valV (putsN rs.reverse) key = (rs.find? fun q => decide (q.1 = key)).map fun q => V.int q.2
  | [] => rfl
  | q :: rs => by
    rw [List.reverse_cons, putsN_snoc, valV_put, List.find?_cons]
    by_cases h : q.1 = key
    · rw [if_pos h.symm, decide_eq_true h]
      rfl
    · rw [if_neg (Ne.symm h), decide_eq_false h]
      exact putsN_val key rs
theorem lastP_at {S : Sys} {l : List Nat} {x e : Nat} (h : l[x]? = some e) : ∃ j : Nat, valV (putsN (lastP S l)) (okey (kk S e)) = some (.int (j : Int)) ∧ (decide (j = x) = !decide (kk S e ∈ (l.drop (x + 1)).map (kk S))) := by
  obtain ⟨hx, he⟩ := List.getElem?_eq_some_iff.mp h
  have hl : l = l.take x ++ ([e] ++ l.drop (x + 1)) := by
    have h1 := (List.take_append_drop x l).symm
    rw [List.drop_eq_getElem_cons hx, he] at h1
    exact h1
  have htx : (l.take x).length = x := by
    rw [List.length_take]
    omega
  let C := (l.drop (x + 1)).zipIdx (x + 1)
  have hz : l.zipIdx = (l.take x).zipIdx ++ ([(e, x)] ++ C) := by
    conv => lhs; rw [hl]
    rw [List.zipIdx_append, htx, Nat.zero_add, List.zipIdx_append]
    rfl
  have hp : lastP S l = (((C.map fun p => (okey (kk S p.1), (p.2 : Int))).reverse ++ ([(okey (kk S e), (x : Int))] ++ (((l.take x).zipIdx).map fun p => (okey (kk S p.1), (p.2 : Int))).reverse))).reverse := by
    unfold lastP
    rw [hz, List.map_append, List.map_append, List.reverse_append, List.reverse_append, List.reverse_reverse, List.reverse_reverse, List.append_assoc]
    rfl
  rw [hp, putsN_val, List.find?_append]
  cases hf : ((C.map fun p => (okey (kk S p.1), (p.2 : Int))).reverse).find? fun q => decide (q.1 = okey (kk S e)) with
  | some q =>
    have hm := List.mem_reverse.mp (List.mem_of_find?_eq_some hf)
    have hq0 := List.find?_some hf
    have hq : q.1 = okey (kk S e) := of_decide_eq_true hq0
    obtain ⟨p, hpC, rfl⟩ := List.mem_map.mp hm
    have h1 : x + 1 ≤ p.2 := List.le_snd_of_mem_zipIdx hpC
    have h2 : p.1 ∈ l.drop (x + 1) := List.fst_mem_of_mem_zipIdx hpC
    refine ⟨p.2, rfl, ?_⟩
    rw [decide_eq_false (by omega), decide_eq_true (List.mem_map.mpr ⟨p.1, h2, okey_inj hq⟩)]
    rfl
  | none =>
    refine ⟨x, ?_, ?_⟩
    · show Option.map _ (List.find? _ ([(okey (kk S e), (x : Int))] ++ _)) = _
      rw [List.singleton_append, List.find?_cons, decide_eq_true rfl]
      rfl
    · have hn : kk S e ∉ (l.drop (x + 1)).map (kk S) := fun hm => by
        obtain ⟨y, hy, ey⟩ := List.mem_map.mp hm
        obtain ⟨i, hi, ei⟩ := List.mem_iff_getElem.mp hy
        have hC : (y, x + 1 + i) ∈ C := by
          refine List.mem_iff_getElem?.mpr ⟨i, ?_⟩
          show ((l.drop (x + 1)).zipIdx (x + 1))[i]? = _
          rw [List.getElem?_zipIdx, List.getElem?_eq_getElem hi, ei]
          rfl
        have := List.find?_eq_none.mp hf (okey (kk S y), ((x + 1 + i : Nat) : Int)) (List.mem_reverse.mpr (List.mem_map.mpr ⟨_, hC, rfl⟩))
        rw [ey] at this
        exact this (decide_eq_true rfl)
      rw [decide_eq_true rfl, decide_eq_false hn]
      rfl
theorem kk_at {S : Sys} (hS : S.Ok) {e : Nat} (he : e < S.ops.length) : atI (S.kn.map kD) (e : Int) = some (kD (kk S e)) := by
  have h1 : e < S.kn.length := by rw [hS.kl]; exact he
  refine atI_nat ?_
  unfold kk
  rw [List.getElem?_map, List.getElem?_eq_getElem h1]
  rfl
theorem rr_eqI {X : Cx} {P : Sl → List Cell → Prop} {ω : List Cell} {a b : Int} (hp : P (.val (.bool (a == b))) ω) : RR X rEq (.val (.int a)) (.val (.int b)) ω P := fun B F H as v u w s1 s2 Q o => by
  obtain rfl := dp_int_inv (sl_val s1)
  obtain rfl := dp_int_inv (sl_val s2)
  refine ⟨rfl, ?_⟩
  rw [dec_int]
  exact o.here w (.bl _) hp
theorem isNon_kD (k : Option Nat) : isNon (kD k) = decide (k = none) := by cases k <;> rfl
end
section
/-! texts -/
section
variable {X : Cx} {a b e : Expr} {es : List Expr} {δ : List Sl} {ω : List Cell} {P : PO1} {pos : Pos}
theorem de_fmtI (h : DE X e δ ω fun r ω1 => ∃ i : Int, r = .val (.int i) ∧ i.natAbs.log2 < 1920 ∧ P (.val (.str (toString i))) ω1) : DE X (.FormattedValue e (-1) none pos) δ ω P := fun B F H as σ w ev Q o => by
  refine ⟨_, pe_fmt pe_w, ?_⟩
  refine h B F H as σ w ev _ fun v B1 H1 as1 r ω1 e1 p1 w1 s1 ⟨i, er, hi, hp⟩ => ?_
  subst er
  obtain rfl := dp_int_inv (sl_val s1)
  exact .inr ⟨i, rfl, hi, (o.up e1 p1).here w1 (.str _) hp⟩
theorem de_fmtS (h : DE X e δ ω fun r ω1 => ∃ y : Str, r = .val (.str y) ∧ y.length ≤ sizeLine ∧ P (.val (.str y)) ω1) : DE X (.FormattedValue e (-1) none pos) δ ω P := fun B F H as σ w ev Q o => by
  refine ⟨_, pe_fmt pe_w, ?_⟩
  refine h B F H as σ w ev _ fun v B1 H1 as1 r ω1 e1 p1 w1 s1 ⟨y, er, hy, hp⟩ => ?_
  subst er
  obtain rfl := dp_str_inv (sl_val s1)
  exact .inl ⟨y, rfl, hy, (o.up e1 p1).here w1 (.str _) hp⟩
/-- the parts of an f-string -/
def DJ (X : Cx) (δ : List Sl) (P : PO1) : List Expr → Str → List Cell → Prop
  | [], acc, ω => P (.val (.str acc)) ω
  | e :: es, acc, ω => DE X e δ ω fun r ω1 => ∃ y : Str, r = .val (.str y) ∧ (acc ++ y).length ≤ sizeLine ∧ DJ X δ P es (acc ++ y) ω1
def wEs (X : Cx) (es : List Expr) : List TE := es.map (wE X)
theorem pj_w : ∀ es : List Expr, PJ X es (wEs X es)
  | [] => .nil
  | _ :: es => .cons pe_w (pj_w es)
theorem dj_run : ∀ (es : List Expr) (acc : Str) (ω : List Cell), DJ X δ P es acc ω → ∀ B F H as σ, Wd X.K B F H as ω → EnvOk X.K B as σ δ → ∀ Q, Out X.K B F as P Q → tJs (wEs X es) acc σ H fun out H1 => Q (.str out) H1
  | [], acc, ω, h, B, F, H, as, σ, w, ev, Q, o => o.here w (.str _) h
  | e :: es, acc, ω, h, B, F, H, as, σ, w, ev, Q, o => by
    refine h B F H as σ w ev _ fun v B1 H1 as1 r ω1 e1 p1 w1 s1 ⟨y, er, hy, hp⟩ => ?_
    subst er
    obtain rfl := dp_str_inv (sl_val s1)
    exact ⟨y, rfl, hy, dj_run es _ ω1 hp B1 F H1 as1 σ w1 (envOk_up e1 p1 ev) Q (o.up e1 p1)⟩
theorem de_joined {v1 v2 : Expr} {rest : List Expr} (h : DJ X δ P (v1 :: v2 :: rest) Str.empty ω) : DE X (.JoinedStr (v1 :: v2 :: rest) pos) δ ω P := fun B F H as σ w ev Q o =>
  ⟨_, pe_joined (pj_w _), dj_run _ _ ω h B F H as σ w ev Q o⟩
theorem rr_catS {i j : Str} (hz : i.length + j.length ≤ 1000000) (hp : P (.val (.str (i ++ j))) ω) : RR X (fun x y H Q => ∃ i j, x = .str i ∧ y = .str j ∧ i.length + j.length ≤ sizeLine ∧ Q (.str (i ++ j)) H) (.val (.str i)) (.val (.str j)) ω P := fun B F H as v u w s1 s2 Q o =>
  ⟨i, j, dp_str_inv (sl_val s1), dp_str_inv (sl_val s2), Nat.le_trans hz (by decide), o.here w (.str _) hp⟩
theorem de_catS (h : DE X a δ ω fun x ω1 => ∃ i, x = .val (.str i) ∧ DE X b δ ω1 fun y ω2 => ∃ j, y = .val (.str j) ∧ i.length + j.length ≤ 1000000 ∧ P (.val (.str (i ++ j))) ω2) : DE X (.BinOp a .Add b pos) δ ω P :=
  de_bin op_add_str (h.mono fun x ω1 ⟨i, e1, q⟩ => q.mono fun y ω2 ⟨j, e2, hz, hp⟩ => by subst e1 e2; exact rr_catS hz hp)
theorem ra_strI {i : Int} (hi : i.natAbs.log2 < 1920) (hp : P (.val (.str (toString i))) ω) : RA X (fun xs H Q => ∃ i, xs = [.int i] ∧ i.natAbs.log2 < 1920 ∧ Q (.str (toString i)) H) [.val (.int i)] ω P := fun B F H as vs w s Q o => by
  obtain ⟨v, rfl, s1⟩ := rs1 s
  obtain rfl := dp_int_inv (sl_val s1)
  exact ⟨i, rfl, hi, o.here w (.str _) hp⟩
theorem dpAll_strs {K : Fg} {H : Hp} : ∀ {vs : List V} {ns : List Str}, DpAll K H vs (ns.map PyData.str) → vs = ns.map V.str
  | _, [], .nil => rfl
  | _, n :: ns, .cons h q => by rw [List.map_cons, dp_str_inv h, dpAll_strs q]
/-- two lists of the same flat items -/
theorem flatB_fv : ∀ d : D, flat d = true → (∀ K B v, Dp K B v d → v = fv d ∧ flatB v = true)
  | .none, _ => fun _ _ _ h => by cases h; exact ⟨rfl, rfl⟩
  | .bool _, _ => fun _ _ _ h => by cases h; exact ⟨rfl, rfl⟩
  | .int _, _ => fun _ _ _ h => by cases h; exact ⟨rfl, rfl⟩
  | .str _, _ => fun _ _ _ h => by cases h; exact ⟨rfl, rfl⟩
theorem pairs_eq {K : Fg} {B H : Hp} : ∀ {ds : List D} {xs ys : List V}, ds.all flat = true → DpAll K B xs ds → DpAll K B ys ds → Paired (EqV K H 1) xs ys
  | [], _, _, _, .nil, .nil => .nil
  | d :: ds, _, _, hf, .cons h1 q1, .cons h2 q2 => by
    rw [List.all_cons, Bool.and_eq_true] at hf
    obtain ⟨e1, f1⟩ := flatB_fv d hf.1 _ _ _ h1
    obtain ⟨e2, _⟩ := flatB_fv d hf.1 _ _ _ h2
    exact .cons (.inl ⟨e1.trans e2.symm, f1⟩) (pairs_eq hf.2 q1 q2)
theorem rr_eqFl {ds : List D} (hf : ds.all flat = true) (hp : P (.val (.bool true)) ω) : RR X (rEqV X.K) (.val (.list ds)) (.val (.list ds)) ω P := fun B F H as v u w s1 s2 Q o => by
  obtain ⟨a, xs, rfl, h1, h2⟩ := slv_lst s1 w.b
  obtain ⟨b, ys, rfl, g1, g2⟩ := slv_lst s2 w.b
  exact ⟨1, by decide, .inl ⟨a, b, xs, ys, rfl, rfl, h1, g1, pairs_eq hf h2 g2⟩, o.here w (.bl _) hp⟩
/-- sep.join(texts) -/
theorem de_joinS {apos : Pos} (h : DE X a δ ω fun r ω1 => ∃ sep, r = .val (.str sep) ∧ DE X e δ ω1 fun r2 ω2 => ∃ ys : List Str, Seq ω2 r2 (ys.map PyData.str) ∧ (ys.map (·.length)).sum + ys.length * sep.length ≤ 16777216 ∧ P (.val (.str (Txt.join sep ys))) ω2)
    (hs : starEach [e] X.env = [(false, eval e X.env)] := by rfl) (hbase : attributeBase a "join" X.env (eval a X.env) = eval a X.env := by rfl) (hline : (apos.endLine == pos.line) = true := by rfl) : DE X (.Call (.Attribute a "join" apos) [e] [] pos) δ ω P := fun B F H as σ w ev Q o => by
  refine ⟨_, pe_join pe_w pe_w hs hbase hline, ?_⟩
  refine h B F H as σ w ev _ fun v B1 H1 as1 r ω1 e1 p1 w1 s1 ⟨sep, er, q1⟩ => ?_
  subst er
  obtain rfl := dp_str_inv (sl_val s1)
  refine ⟨⟨_, rfl⟩, ?_⟩
  refine q1 B1 F H1 as1 σ w1 (envOk_up e1 p1 ev) _ fun u B2 H2 as2 r2 ω2 e2 p2 w2 s2 ⟨ys, hq, hz, hp⟩ => ?_
  obtain ⟨p, xs, rfl, hsq, hd⟩ := hq.get w2 s2
  obtain rfl := dpAll_strs hd
  exact ⟨sep, p, ys, rfl, rfl, hsq, hz, (o.up (e1.trans e2) (p1.trans p2)).here w2 (.str _) hp⟩
end
end
section
/-! ### the text of a system -/
open TL
def strN (n : Nat) : Str := toString (n : Int)
theorem strN_len {n : Nat} (h : n ≤ 9) : (strN n).length = 1 := by
  match n, h with
  | 0, _ => decide +kernel
  | 1, _ => decide +kernel
  | 2, _ => decide +kernel
  | 3, _ => decide +kernel
  | 4, _ => decide +kernel
  | 5, _ => decide +kernel
  | 6, _ => decide +kernel
  | 7, _ => decide +kernel
  | 8, _ => decide +kernel
  | 9, _ => decide +kernel
theorem small_log {n : Nat} (h : n ≤ 9) : ((n : Nat) : Int).natAbs.log2 < 1920 := by
  match n, h with
  | 0, _ => decide
  | 1, _ => decide
  | 2, _ => decide
  | 3, _ => decide
  | 4, _ => decide
  | 5, _ => decide
  | 6, _ => decide
  | 7, _ => decide
  | 8, _ => decide
  | 9, _ => decide
def kindW : Option Nat → List Str
  | none => []
  | some k => ["kind", strN k]
def wordsS (e : Nat) (o : List Nat) (k : Option Nat) : List Str := (strN e ++ (":" : Str)) :: (o.map strN ++ kindW k)
def lineS (e : Nat) (o : List Nat) (k : Option Nat) : Str := Txt.join " " (wordsS e o k)
def linesS (S : Sys) (n : Nat) : List Str := (List.range n).map fun e => lineS e (S.ops.getD e []) (kk S e)
def headS (S : Sys) : Str := ((("states " : Str) ++ strN S.n) ++ (" start " : Str)) ++ strN S.st
def textS (S : Sys) : Str := Txt.join "\n" (headS S :: linesS S S.ops.length) ++ ("\n" : Str)
theorem joinL_nil : ∀ l : List (List Nat), joinL [] l = l.flatten
  | [] => rfl
  | [p] => by
    rw [List.flatten_singleton]
    rfl
  | p :: q :: r => by
    show p ++ ([] ++ joinL [] (q :: r)) = _
    rw [List.nil_append, joinL_nil (q :: r), List.flatten_cons (l := p)]
theorem joinL_end (S : List Nat) : ∀ (p : List Nat) (l : List (List Nat)), joinL S (p :: l) ++ S = p ++ S ++ (l.map (· ++ S)).flatten
  | p, [] => by
    show p ++ S = _
    rw [List.map_nil, List.flatten_nil, List.append_nil]
  | p, q :: r => by
    show (p ++ (S ++ joinL S (q :: r))) ++ S = _
    rw [List.append_assoc, List.append_assoc, joinL_end S q r, List.map_cons, List.flatten_cons]
    simp only [List.append_assoc]
theorem tl_empty : tl ("" : Str) = [] := by decide +kernel
theorem text_by_lines (h : Str) (ls : List Str) : Txt.join "\n" (h :: ls) ++ ("\n" : Str) = h ++ ("\n" : Str) ++ Txt.join "" (ls.map (· ++ ("\n" : Str))) := by
  refine ext_tl ?_
  rw [tl_append, tl_append, tl_append, join_eq, join_eq, tl_join, tl_join, List.map_cons, joinL_end, tl_empty, joinL_nil, List.map_map, List.map_map]
  congr 2
  refine List.map_congr_left fun x _ => ?_
  show tl x ++ tl "\n" = tl (x ++ ("\n" : Str))
  rw [tl_append]
theorem empty_app (a b : Str) : (Str.empty ++ a) ++ b = a ++ b := by
  refine ext_tl ?_
  rw [tl_append, tl_append, tl_append]
  rfl
theorem empty_app1 (a : Str) : Str.empty ++ a = a := by
  refine ext_tl ?_
  rw [tl_append]
  rfl
theorem app_len (a b : Str) : (a ++ b).length = a.length + b.length := by
  rw [len_tl, len_tl, len_tl, tl_append, List.length_append]
theorem join_len (sep : Str) : ∀ l : List Str, (Txt.join sep l).length ≤ (l.map (·.length)).sum + l.length * sep.length := fun l => by
  rw [join_eq, len_tl, tl_join]
  have gen : ∀ l : List Str, (joinL (tl sep) (l.map tl)).length ≤ (l.map (·.length)).sum + l.length * sep.length := by
    intro l
    induction l with
    | nil => exact Nat.zero_le _
    | cons x r ih =>
      cases r with
      | nil =>
        show (tl x).length ≤ _
        rw [← len_tl]
        simp
      | cons y r =>
        show (tl x ++ (tl sep ++ joinL (tl sep) ((y :: r).map tl))).length ≤ _
        have e1 : ((x :: y :: r).map (·.length)).sum = x.length + ((y :: r).map (·.length)).sum := by rw [List.map_cons, List.sum_cons]
        have e2 : (x :: y :: r).length * sep.length = (y :: r).length * sep.length + sep.length := by rw [List.length_cons, Nat.succ_mul]
        rw [List.length_append, List.length_append, ← len_tl, ← len_tl, e1, e2]
        omega
  exact gen l
theorem sum_le {b : Nat} : ∀ l : List Nat, (∀ x ∈ l, x ≤ b) → l.sum ≤ l.length * b
  | [], _ => Nat.zero_le _
  | x :: r, h => by
    have h1 := h x List.mem_cons_self
    have h2 := sum_le r fun y hy => h y (List.mem_cons_of_mem _ hy)
    rw [List.sum_cons, List.length_cons, Nat.succ_mul]
    omega
theorem kind_len : ("kind" : Str).length = 4 := by decide +kernel
theorem colon_len : (":" : Str).length = 1 := by decide +kernel
theorem space_len : (" " : Str).length = 1 := by decide +kernel
theorem nl_len : ("\n" : Str).length = 1 := by decide +kernel
theorem none_len : ("" : Str).length = 0 := by decide +kernel
theorem words_ok {e : Nat} {o : List Nat} {k : Option Nat} (he : e ≤ 9) (ho : ∀ x ∈ o, x ≤ 9) (hz : o.length ≤ 6) (hk : ∀ i, k = some i → i ≤ 9) : (wordsS e o k).length ≤ 9 ∧ ∀ x ∈ (wordsS e o k).map (·.length), x ≤ 4 := by
  have hkl : (kindW k).length ≤ 2 ∧ ∀ x ∈ kindW k, x.length ≤ 4 := by
    cases k with
    | none => exact ⟨by decide, nofun⟩
    | some i =>
      refine ⟨Nat.le_refl 2, fun x hx => ?_⟩
      rcases List.mem_cons.mp hx with rfl | hx
      · rw [kind_len]
        decide
      · rw [List.mem_singleton.mp hx, strN_len (hk i rfl)]
        decide
  refine ⟨?_, fun x hx => ?_⟩
  · unfold wordsS
    rw [List.length_cons, List.length_append, List.length_map]
    omega
  · obtain ⟨y, hy, rfl⟩ := List.mem_map.mp hx
    unfold wordsS at hy
    rcases List.mem_cons.mp hy with rfl | hy
    · rw [app_len, strN_len he, colon_len]
      decide
    · rcases List.mem_append.mp hy with hy | hy
      · obtain ⟨z, hz, rfl⟩ := List.mem_map.mp hy
        rw [strN_len (ho z hz)]
        decide
      · exact hkl.2 y hy
theorem words_sum {e : Nat} {o : List Nat} {k : Option Nat} (he : e ≤ 9) (ho : ∀ x ∈ o, x ≤ 9) (hz : o.length ≤ 6) (hk : ∀ i, k = some i → i ≤ 9) : ((wordsS e o k).map (·.length)).sum + (wordsS e o k).length * (" " : Str).length ≤ 45 ∧ (lineS e o k).length ≤ 45 := by
  obtain ⟨h1, h2⟩ := words_ok he ho hz hk
  have h3 := sum_le _ h2
  have h4 := join_len " " (wordsS e o k)
  rw [List.length_map] at h3
  unfold lineS
  rw [space_len] at h4 ⊢
  omega
structure Sys.Small (S : Sys) : Prop where
  op : ∀ e, e < S.ops.length → (∀ x ∈ S.ops.getD e [], x ≤ 9) ∧ (S.ops.getD e []).length ≤ 6
  kk : ∀ e i, kk S e = some i → i ≤ 9
theorem small_of {S : Sys} (h : S.Ok) : S.Small := by
  have h6 := h.n6
  refine ⟨fun e he => ?_, fun e i hi => ?_⟩
  · have hm : S.ops.getD e [] ∈ S.ops := by
      rw [List.getD_eq_getElem?_getD, List.getElem?_eq_getElem he]
      exact List.getElem_mem he
    obtain ⟨h1, h2⟩ := h.op _ hm
    exact ⟨fun x hx => by have := h2 x hx; omega, by omega⟩
  · unfold DL.kk at hi
    cases q : S.kn[e]? with
    | none =>
      rw [q] at hi
      cases hi
    | some k =>
      rw [q] at hi
      exact h.kk k (List.mem_of_getElem? q) i hi
end
section
/-! ### texts, the program's -/
theorem toStr_nD (n : Nat) : toString ((n : Nat) : Int) = strN n := rfl
def φ_opl : List D → (D → Prop) → Prop := fun ds P => ∃ (e : Nat) (o : List Nat) (k : Option Nat), ds = [nD e, opD o, kD k] ∧ e ≤ 9 ∧ (∀ x ∈ o, x ≤ 9) ∧ o.length ≤ 6 ∧ (∀ i, k = some i → i ≤ 9) ∧ P (.str (lineS e o k))
def φ_text : List D → (D → Prop) → Prop := fun ds P => ∃ S, ds = [sysD S] ∧ S.Ok ∧ P (.str (textS S))
theorem strs_map (l : List Nat) : (l.map nD).map (fun d => match d with | .int s => PyData.str (toString s) | _ => .none) = (l.map strN).map PyData.str := by
  rw [List.map_map, List.map_map]
  rfl
theorem lines_take (S : Sys) (i : Nat) : linesS S (i + 1) = linesS S i ++ [lineS i (S.ops.getD i []) (kk S i)] := by
  unfold linesS
  rw [List.range_succ, List.map_append]
  rfl
theorem lines_len (S : Sys) (i : Nat) : (linesS S i).length = i := by
  unfold linesS
  rw [List.length_map, List.length_range]
theorem lines_sum {S : Sys} (h : S.Ok) : ∀ x ∈ (linesS S S.ops.length).map (·.length), x ≤ 45 := fun x hx => by
  obtain ⟨y, hy, rfl⟩ := List.mem_map.mp hx
  obtain ⟨e, he, rfl⟩ := List.mem_map.mp hy
  have he := List.mem_range.mp he
  have h6 := h.o6
  have sm := small_of h
  exact (words_sum (by omega) (sm.op e he).1 (sm.op e he).2 (fun i hi => sm.kk e i hi)).2
theorem head_len {S : Sys} (h : S.Ok) : (headS S).length = 16 := by
  have h6 := h.n6
  have hs := h.st
  unfold headS
  rw [app_len, app_len, app_len, strN_len (by omega), strN_len (by omega)]
  rfl
section
variable {P : Program} {w : World} {K : Fg} {mg : Str → Option Value} {base : Heap} {f : Addr} {fd : FuncData} {k : Nat}
end
end
section
/-- reach is closed -/
def Closed (S : Sys) (R : Nat → Prop) : Prop := ∀ s, R s → ∀ e, e < S.ops.length → R (step S e s)
theorem closed_end {S : Sys} {R : Nat → Prop} (hc : Closed S R) : ∀ (l : List Nat) (s : Nat), LogOk S l → R s → R (endOf S s l)
  | [], _, _, h => h
  | e :: r, s, hl, h => closed_end hc r (step S e s) (fun x hx => hl x (List.mem_cons_of_mem _ hx)) (hc s h e (hl e List.mem_cons_self))
theorem bstep_has (S : Sys) (s : Nat) (lg : List Nat) (L : List Ent) (e : Nat) : step S e s ∈ (bstep S s lg L e).map (·.1) := by
  unfold bstep
  split
  · assumption
  · rw [List.map_append]
    exact List.mem_append_right _ (List.mem_singleton.mpr rfl)
theorem pre_map {L M : List Ent} (h : L <+: M) {x : Nat} (hx : x ∈ L.map (·.1)) : x ∈ M.map (·.1) := by
  obtain ⟨p, hp, rfl⟩ := List.mem_map.mp hx
  exact List.mem_map.mpr ⟨p, h.subset hp, rfl⟩
theorem bexp_has (S : Sys) (s : Nat) (lg : List Nat) (L : List Ent) : ∀ (i e : Nat), e < i → step S e s ∈ (bexp S s lg i L).map (·.1)
  | i + 1, e, h => by
    rw [bexp_succ]
    by_cases he : e = i
    · subst he
      exact bstep_has _ _ _ _ _
    · exact pre_map (bstep_pre _ _ _ _ _) (bexp_has S s lg L i e (by omega))
def BCl (S : Sys) (a : Nat) (L : List Ent) : Prop := ∀ (j : Nat) (p : Ent), j < a → L[j]? = some p → ∀ e, e < S.ops.length → step S e p.1 ∈ L.map (·.1)
theorem bfs_goC {S : Sys} (hS : S.Ok) : ∀ (m a : Nat) (L : List Ent), 7 - a ≤ m → BAt S a L → BCl S a L → S.st ∈ L.map (·.1) → ∃ a', BCl S a' (bfs S) ∧ (bfs S).length ≤ a' ∧ S.st ∈ (bfs S).map (·.1)
  | 0, a, L, hm, h, hc, h0 => by
    have h1 := h.ok.len
    have h2 := hS.n6
    have h3 := h.fin (by omega)
    subst h3
    exact ⟨a, hc, by omega, h0⟩
  | m + 1, a, L, hm, h, hc, h0 => by
    cases hp : L[a]? with
    | none =>
      have hl : L.length ≤ a := List.getElem?_eq_none_iff.mp hp
      have h3 := h.fin hl
      subst h3
      exact ⟨a, hc, hl, h0⟩
    | some p =>
      have hlt := (List.getElem?_eq_some_iff.mp hp).1
      have hpre := bexp_pre S p.1 p.2 L S.ops.length
      refine bfs_goC hS m (a + 1) _ (by have := h.ok.len; have := hS.n6; omega) (h.next hS hp) (fun j q hj hq e he => ?_) (pre_map hpre h0)
      by_cases hja : j = a
      · subst hja
        obtain ⟨t, ht⟩ := hpre
        have hq2 : (bexp S p.1 p.2 S.ops.length L)[j]? = some p := by
          rw [← ht, List.getElem?_append_left hlt]
          exact hp
        rw [hq2] at hq
        obtain rfl := Option.some.inj hq
        exact bexp_has S _ _ _ _ e he
      · have hjL : j < L.length := by omega
        have hqL : L[j]? = some q := by
          obtain ⟨t, ht⟩ := hpre
          rw [← ht, List.getElem?_append_left hjL] at hq
          exact hq
        exact pre_map hpre (hc j q (by omega) hqL e he)
theorem reach_closed {S : Sys} (hS : S.Ok) : Closed S (fun s => s ∈ reach S) ∧ S.st ∈ reach S := by
  obtain ⟨a, hc, hl, h0⟩ := bfs_goC hS 7 0 _ (Nat.le_refl _) (.start hS) (fun j p hj => absurd hj (Nat.not_lt_zero _)) (by simp)
  have mem : ∀ {s : Nat}, s ∈ (bfs S).map (·.1) → s ∈ reach S := fun {s} h => (reach_perm hS).mem_iff.mpr h
  refine ⟨fun s hs e he => ?_, mem h0⟩
  have hs2 := (reach_perm hS).mem_iff.mp hs
  obtain ⟨p, hp, rfl⟩ := List.mem_map.mp hs2
  obtain ⟨j, hj, ej⟩ := List.mem_iff_getElem.mp hp
  exact mem (hc j p (by omega) (by rw [List.getElem?_eq_getElem hj, ej]) e he)
end
section
/-! any number of owned cells handed to a def: promises of the widest form -/

def Cell.live : Cell → Bool
  | .dead => false
  | .kn _ => false
  | _ => true
def pkA (as : List Addr) (ks : List Nat) : List Addr := ks.map fun i => as.getD i 0
def pkC (ω : List Cell) (ks : List Nat) : List Cell := ks.map fun i => ω.getD i .dead
theorem getD_at {α : Type} {l : List α} {d : α} {n : Nat} (h : n < l.length) : l.getD n d = l[n] := by
  rw [List.getD_eq_getElem?_getD, List.getElem?_eq_getElem h]
  rfl
def putC : List Cell → List Nat → List Cell → List Cell
  | ω, [], _ => ω
  | ω, _ :: _, [] => ω
  | ω, k :: ks, c :: cs => putC (ω.set k c) ks cs
theorem putC_len : ∀ (ω : List Cell) (ks : List Nat) (cs : List Cell), (putC ω ks cs).length = ω.length
  | _, [], _ => by unfold putC; rfl
  | _, _ :: _, [] => rfl
  | ω, k :: ks, c :: cs => by
    show (putC (ω.set k c) ks cs).length = _
    rw [putC_len, List.length_set]
theorem putC_ne : ∀ {ω : List Cell} {ks : List Nat} {cs : List Cell} {i : Nat}, i ∉ ks → (putC ω ks cs)[i]? = ω[i]?
  | _, [], _, _, _ => by unfold putC; rfl
  | _, _ :: _, [], _, _ => rfl
  | ω, k :: ks, c :: cs, i, h => by
    show (putC (ω.set k c) ks cs)[i]? = _
    have h2 : k ≠ i := fun z => h (by rw [z]; exact List.mem_cons_self)
    rw [putC_ne fun z => h (List.mem_cons_of_mem _ z), List.getElem?_set_ne h2]
theorem putC_at : ∀ {ω : List Cell} {ks : List Nat} {cs : List Cell} {j i : Nat} {c : Cell}, ks.Nodup → ks[j]? = some i → i < ω.length → cs[j]? = some c → (putC ω ks cs)[i]? = some c
  | _, [], _, _, _, _, _, h, _, _ => by simp at h
  | _, _ :: _, [], _, _, _, _, _, _, h => by simp at h
  | ω, k :: ks, c :: cs, 0, i, d, nd, h, hi, hc => by
    simp at h hc
    subst h hc
    show (putC (ω.set k c) ks cs)[k]? = _
    rw [putC_ne (List.nodup_cons.mp nd).1, List.getElem?_set_self hi]
  | ω, k :: ks, c :: cs, j + 1, i, d, nd, h, hi, hc => by
    exact putC_at (ω := ω.set k c) (List.nodup_cons.mp nd).2 (by simpa using h) (by rw [List.length_set]; exact hi) (by simpa using hc)
theorem putC_same : ∀ {ω : List Cell} {ks : List Nat}, (∀ i ∈ ks, i < ω.length) → putC ω ks (pkC ω ks) = ω
  | _, [], _ => rfl
  | ω, k :: ks, h => by
    show putC (ω.set k (ω.getD k .dead)) ks (pkC ω ks) = ω
    have hk := h k List.mem_cons_self
    have e : ω.set k (ω.getD k .dead) = ω := by
      rw [getD_at hk, List.set_getElem_self]
    rw [e]
    exact putC_same fun i hi => h i (List.mem_cons_of_mem _ hi)
theorem pkA_at {as : List Addr} {ks : List Nat} {j i : Nat} (h : ks[j]? = some i) (hi : i < as.length) : (pkA as ks)[j]? = as[i]? := by
  unfold pkA
  rw [List.getElem?_map, h, Option.map_some, getD_at hi, List.getElem?_eq_getElem hi]
theorem pkC_at {as : List Cell} {ks : List Nat} {j i : Nat} (h : ks[j]? = some i) (hi : i < as.length) : (pkC as ks)[j]? = as[i]? := by
  unfold pkC
  rw [List.getElem?_map, h, Option.map_some, getD_at hi, List.getElem?_eq_getElem hi]
section
variable {K : Fg} {B F H : Hp} {as : List Addr} {ω : List Cell}
theorem pkA_nodup (nd : as.Nodup) : ∀ {ks : List Nat}, (∀ i ∈ ks, i < as.length) → ks.Nodup → (pkA as ks).Nodup
  | [], _, _ => .nil
  | k :: ks, h, hn => by
    have h1 := h k List.mem_cons_self
    show (as.getD k 0 :: pkA as ks).Nodup
    rw [List.nodup_cons]
    refine ⟨fun hm => ?_, pkA_nodup nd (fun i hi => h i (List.mem_cons_of_mem _ hi)) (List.nodup_cons.mp hn).2⟩
    obtain ⟨i, hi, e⟩ := List.mem_map.mp hm
    have h2 := h i (List.mem_cons_of_mem _ hi)
    rw [getD_at h2, getD_at h1] at e
    have : i = k := (List.getElem_inj nd).mp e
    exact (List.nodup_cons.mp hn).1 (this ▸ hi)
/-- some of the cells alone -/
theorem Wd.pick (w : Wd K B F H as ω) {ks : List Nat} (h : ∀ i ∈ ks, i < ω.length) (hn : ks.Nodup) : Wd K B F H (pkA as ks) (pkC ω ks) := by
  refine ⟨w.b, w.f, by unfold pkA pkC; rw [List.length_map, List.length_map], pkA_nodup w.nd (fun i hi => by rw [w.len]; exact h i hi) hn, fun j a c e1 e2 => ?_⟩
  have hj : j < ks.length := by
    have := (List.getElem?_eq_some_iff.mp e2).1
    unfold pkC at this
    rwa [List.length_map] at this
  have hi := h ks[j] (List.getElem_mem hj)
  rw [pkA_at (List.getElem?_eq_getElem hj) (by rw [w.len]; exact hi)] at e1
  rw [pkC_at (List.getElem?_eq_getElem hj) hi] at e2
  exact w.at' _ a c e1 e2
theorem Wd.liveB (w : Wd K B F H as ω) {k : Nat} {a : Addr} {c : Cell} (e1 : as[k]? = some a) (e2 : ω[k]? = some c) (hl : c.live = true) : B a = none := by
  have q := (w.at' k a c e1 e2).2.2
  cases c with
  | lst ds => exact q.1
  | dct kvs => exact q.1
  | oth o => exact q.1
  | tdc f kvs => exact q.1
  | gn p => exact q.1
  | dead => cases hl
  | kn p => cases hl
/-- what is ours but for the cells ks is others' for a call -/
theorem Wd.frameL (w : Wd K B F H as ω) {ks : List Nat} (hk : ∀ i ∈ ks, i < ω.length) (hn : ks.Nodup) : ∃ F', Wd K B F' H (pkA as ks) (pkC ω ks) ∧
    (∀ B' H' as2 ω2, Same B B' → pkA as ks <+: as2 → Wd K B' F' H' as2 ω2 → (∀ c ∈ ω2.drop ks.length, c.live = true) → (Wd K B' F H' (as ++ as2.drop ks.length) (putC ω ks ω2 ++ ω2.drop ks.length))) ∧ ∀ b, B b = none → F' b = none → b ∉ pkA as ks → b ∉ as ∧ F b = none := by
  classical
  have w0 := w.pick hk hn
  have hlA : (pkA as ks).length = ks.length := by unfold pkA; rw [List.length_map]
  have hka : ∀ i ∈ ks, i < as.length := fun i hi => by rw [w.len]; exact hk i hi
  refine ⟨fun b => if b ∉ pkA as ks ∧ b ∈ as ∧ B b = none then H b else F b, ⟨w.b, fun b o e => ?_, w0.len, w0.nd, fun j b c e1 e2 => ?_⟩, fun B' H' as2 ω2 sb p w' hlive => ?_, fun b hb hf hp => ?_⟩
  · by_cases h : b ∉ pkA as ks ∧ b ∈ as ∧ B b = none
    · rw [if_pos h] at e
      exact ⟨e, h.2.2⟩
    · rw [if_neg h] at e
      exact w.f b o e
  · obtain ⟨q1, q2, q3⟩ := w0.at' j b c e1 e2
    refine ⟨?_, q2, q3⟩
    show (if _ then _ else _) = _
    rw [if_neg (fun z => z.1 (List.mem_of_getElem? e1))]
    exact q1
  · -- the way back
    have hF' : ∀ b o, F b = some o → (if b ∉ pkA as ks ∧ b ∈ as ∧ B b = none then H b else F b) = some o := fun b o e => by
      have h : ¬ (b ∉ pkA as ks ∧ b ∈ as ∧ B b = none) := fun z => by
        obtain ⟨j, hj, q⟩ := List.mem_iff_getElem.mp z.2.1
        have hj2 : j < ω.length := by rw [← w.len]; exact hj
        have := (w.at' j b _ (by rw [List.getElem?_eq_getElem hj, q]) (List.getElem?_eq_getElem hj2)).1
        rw [this] at e
        cases e
      rw [if_neg h]
      exact e
    obtain ⟨t, ht⟩ := p
    have hdrop : as2.drop ks.length = t := by rw [← ht, ← hlA, List.drop_left]
    have hl2 : ω2.length = ks.length + t.length := by rw [← w'.len, ← ht, List.length_append, hlA]
    have old : ∀ (j : Nat) (b : Addr) (c : Cell), as[j]? = some b → (putC ω ks ω2)[j]? = some c → F b = none ∧ H' b ≠ none ∧ CellOk K B' H' b c := fun j b c e1 e2 => by
      by_cases hj : j ∈ ks
      · obtain ⟨m, hm, em⟩ := List.mem_iff_getElem.mp hj
        have hjl : j < ω.length := hk j hj
        have hm2 : m < ω2.length := by omega
        have ea : as2[m]? = some b := by
          rw [← ht, List.getElem?_append_left (by rw [hlA]; exact hm), pkA_at (by rw [List.getElem?_eq_getElem hm, em]) (by rw [w.len]; exact hjl)]
          exact e1
        have ec : ω2[m]? = some c := by
          rw [putC_at hn (by rw [List.getElem?_eq_getElem hm, em]) hjl (List.getElem?_eq_getElem hm2)] at e2
          rw [List.getElem?_eq_getElem hm2]
          exact e2
        obtain ⟨q1, q2, q3⟩ := w'.at' m b c ea ec
        refine ⟨?_, q2, q3⟩
        cases hFb : F b with
        | none => rfl
        | some o =>
          have := hF' b o hFb
          rw [q1] at this
          cases this
      · rw [putC_ne hj] at e2
        obtain ⟨q1, q2, q3⟩ := w.at' j b c e1 e2
        have hnp : b ∉ pkA as ks := fun z => by
          obtain ⟨i, hi, e⟩ := List.mem_map.mp z
          have hil := hka i hi
          rw [getD_at hil] at e
          exact hj ((nodup_at w.nd (i := i) (j := j) (by rw [List.getElem?_eq_getElem hil, e]) e1) ▸ hi)
        cases hb : B b with
        | some o => exact ⟨q1, by rw [w'.b _ _ (sb _ _ hb)]; simp, cell_keep q3 (by rw [hb]; simp) sb⟩
        | none =>
          obtain ⟨o, ho⟩ := Option.ne_none_iff_exists'.mp q2
          have hf := w'.f b o (by
            show (if _ then _ else _) = _
            rw [if_pos ⟨hnp, List.mem_of_getElem? e1, hb⟩]
            exact ho)
          exact ⟨q1, by rw [hf.1]; simp, cell_up q3 sb (fun _ => hf.2) (hf.1.trans ho.symm)⟩
    have new : ∀ (m : Nat) (b : Addr) (c : Cell), t[m]? = some b → (ω2.drop ks.length)[m]? = some c → (F b = none ∧ H' b ≠ none ∧ CellOk K B' H' b c) ∧ b ∉ as := fun m b c e1 e2 => by
      have ea : as2[ks.length + m]? = some b := by
        rw [← ht, List.getElem?_append_right (by omega), hlA, Nat.add_sub_cancel_left]
        exact e1
      have ec : ω2[ks.length + m]? = some c := by
        rw [List.getElem?_drop] at e2
        exact e2
      have hlv := hlive c (List.mem_of_getElem? e2)
      obtain ⟨q1, q2, q3⟩ := w'.at' _ b c ea ec
      have hB' := w'.liveB ea ec hlv
      have hB : B b = none := by
        cases hb : B b with
        | none => rfl
        | some o =>
          rw [sb _ _ hb] at hB'
          cases hB'
      refine ⟨⟨?_, q2, q3⟩, fun hm => ?_⟩
      · cases hFb : F b with
        | none => rfl
        | some o =>
          have := hF' b o hFb
          rw [q1] at this
          cases this
      · by_cases hp : b ∈ pkA as ks
        · have hnd := w'.nd
          rw [← ht] at hnd
          exact (List.nodup_append.mp hnd).2.2 b hp b (List.mem_of_getElem? e1) rfl
        · obtain ⟨j, hj, q⟩ := List.mem_iff_getElem.mp hm
          have hj2 : j < ω.length := by rw [← w.len]; exact hj
          have n2 := (w.at' j b _ (by rw [List.getElem?_eq_getElem hj, q]) (List.getElem?_eq_getElem hj2)).2.1
          have q1' : (if b ∉ pkA as ks ∧ b ∈ as ∧ B b = none then H b else F b) = none := q1
          rw [if_pos ⟨hp, hm, hB⟩] at q1'
          exact n2 q1'
    refine ⟨w'.b, fun b o e => w'.f b o (hF' b o e), ?_, ?_, fun j b c e1 e2 => ?_⟩
    · rw [List.length_append, List.length_append, putC_len, w.len, hdrop, List.length_drop]
      omega
    · rw [hdrop, List.nodup_append]
      have hnd := w'.nd
      rw [← ht] at hnd
      refine ⟨w.nd, (List.nodup_append.mp hnd).2.1, fun x hx y hy => fun z => ?_⟩
      obtain ⟨m, hm, e⟩ := List.mem_iff_getElem.mp hy
      have hm2 : m < (ω2.drop ks.length).length := by rw [List.length_drop]; omega
      exact (new m y _ (by rw [List.getElem?_eq_getElem hm, e]) (List.getElem?_eq_getElem hm2)).2 (z ▸ hx)
    · by_cases hj : j < as.length
      · rw [List.getElem?_append_left hj] at e1
        rw [List.getElem?_append_left (by rw [putC_len, ← w.len]; exact hj)] at e2
        exact old j b c e1 e2
      · rw [List.getElem?_append_right (by omega), hdrop] at e1
        rw [List.getElem?_append_right (by rw [putC_len, ← w.len]; omega), putC_len, ← w.len] at e2
        exact (new _ b c e1 e2).1
  · have hf' : (if b ∉ pkA as ks ∧ b ∈ as ∧ B b = none then H b else F b) = none := hf
    by_cases hm : b ∈ as
    · rw [if_pos ⟨hp, hm, hb⟩] at hf'
      obtain ⟨j, hj, q⟩ := List.mem_iff_getElem.mp hm
      have hj2 : j < ω.length := by rw [← w.len]; exact hj
      exact absurd hf' (w.at' j b _ (by rw [List.getElem?_eq_getElem hj, q]) (List.getElem?_eq_getElem hj2)).2.1
    · rw [if_neg (fun z => hm z.2.1)] at hf'
      exact ⟨hm, hf'⟩
end

/-! ### the widest promise -/
/-- a slot of a callee's, seen by the caller -/
def ren (ks : List Nat) (n : Nat) : Sl → Sl
  | .own j => if j < ks.length then .own (ks.getD j 0) else .own (n + (j - ks.length))
  | s => s
/-- data and owned things in; whatever is a slot out; what is new is behind -/
def spU (K : Fg) (φ : List Sl → List Cell → PO1 → Prop) : Sp := fun vs H Q _ => ∃ B F as rs ω Pp, Wd K B F H as ω ∧ RsOk K B as vs rs ∧ φ rs ω Pp ∧
  ∀ v B' H' as' r ω', Same B B' → as <+: as' → Wd K B' F H' as' ω' → (∀ c ∈ ω'.drop ω.length, c.live = true) → SlOk K B' as' (some v) r → Pp r ω' → Q v H'
theorem rsOk_len {K : Fg} {B : Hp} {as : List Addr} : ∀ {vs : List V} {rs : List Sl}, RsOk K B as vs rs → vs.length = rs.length
  | _, _, .nil => rfl
  | _, _, .cons _ q => by rw [List.length_cons, List.length_cons, rsOk_len q]
theorem env_of_rs {K : Fg} {B : Hp} {as : List Addr} : ∀ {vs : List V} {rs : List Sl}, RsOk K B as vs rs → EnvOk K B as (vs.map some) rs
  | _, _, .nil => .nil
  | _, _, .cons h q => .cons h (env_of_rs q)
/-- how a body with n cells hands back: a datum or one of the n; the cells behind the n are given up -/
def RetV (n : Nat) (Pp : PO1) : PO1 := fun r ω' => (∀ j, r = .own j → j < n) ∧ Pp r (ω'.take n)
/-- .. or one new cell -/
def RetC (n : Nat) (Pp : PO1) : PO1 := fun r ω' => ∃ j c, r = .own j ∧ n ≤ j ∧ ω'[j]? = some c ∧ c.live = true ∧ Pp (.own n) (ω'.take n ++ [c])
def RetU (n : Nat) (Pp : PO1) : PO1 := fun r ω' => RetV n Pp r ω' ∨ RetC n Pp r ω'
theorem pk_range {ω : List Cell} {n : Nat} (h : n ≤ ω.length) : pkC ω (List.range n) = ω.take n := by
  apply List.ext_getElem?
  intro i
  unfold pkC
  rw [List.getElem?_map, List.getElem?_take]
  by_cases hi : i < n
  · rw [List.getElem?_range hi, Option.map_some, if_pos hi, getD_at (by omega), List.getElem?_eq_getElem (by omega)]
  · rw [List.getElem?_eq_none (by rw [List.length_range]; omega), if_neg hi]
    rfl
theorem pkA_range {ω : List Addr} {n : Nat} (h : n ≤ ω.length) : pkA ω (List.range n) = ω.take n := by
  apply List.ext_getElem?
  intro i
  unfold pkA
  rw [List.getElem?_map, List.getElem?_take]
  by_cases hi : i < n
  · rw [List.getElem?_range hi, Option.map_some, if_pos hi, getD_at (by omega), List.getElem?_eq_getElem (by omega)]
  · rw [List.getElem?_eq_none (by rw [List.length_range]; omega), if_neg hi]
    rfl
section
variable {P : Program} {w : World} {K : Fg} {mg : Str → Option Value} {base : Heap} {x qual : Str} {st : Stmt} {f : Addr} {fd : FuncData} {N ps : List Str} {k : Nat}
theorem retU_run {K : Fg} {B B' F H' : Hp} {as as' : List Addr} {ω ω' : List Cell} {Pp : PO1} {r : Sl} {v : V} {Q : VK} (hl : as.length = ω.length)
    (hq : ∀ v B' H' as' r ω', Same B B' → as <+: as' → Wd K B' F H' as' ω' → (∀ c ∈ ω'.drop ω.length, c.live = true) → SlOk K B' as' (some v) r → Pp r ω' → Q v H')
    (e1 : Same B B') (p1 : as <+: as') (w1 : Wd K B' F H' as' ω') (s1 : SlOk K B' as' (some v) r) (q : RetU ω.length Pp r ω') : Q v H' := by
  obtain ⟨t, ht⟩ := p1
  have hn : ω.length ≤ ω'.length := by rw [← w1.len, ← ht, List.length_append, ← hl]; omega
  have hnA : ω.length ≤ as'.length := by rw [w1.len]; exact hn
  have htk : as'.take ω.length = as := by rw [← ht, ← hl, List.take_left]
  rcases q with ⟨h1, h2⟩ | ⟨j, c, rfl, hj, hc, hlv, h2⟩
  · have w2 := w1.pick (ks := List.range ω.length) (fun i hi => Nat.lt_of_lt_of_le (List.mem_range.mp hi) hn) List.nodup_range
    rw [pk_range hn, pkA_range hnA, htk] at w2
    refine hq v B' H' as r _ e1 (List.prefix_refl _) w2 (fun c hc => ?_) ?_ h2
    · rw [List.drop_eq_nil_of_le (by rw [List.length_take]; omega)] at hc
      cases hc
    · cases r with
      | no => trivial
      | val d => exact s1
      | kn q => exact s1
      | own j =>
        obtain ⟨a, ea, ha⟩ := s1
        have hj := h1 j rfl
        refine ⟨a, ea, ?_⟩
        rw [← ht, List.getElem?_append_left (by rw [hl]; exact hj)] at ha
        exact ha
  · have hjl : j < ω'.length := (List.getElem?_eq_some_iff.mp hc).1
    have w2 := w1.pick (ks := List.range ω.length ++ [j]) (fun i hi => by
      rcases List.mem_append.mp hi with z | z
      · exact Nat.lt_of_lt_of_le (List.mem_range.mp z) hn
      · have z2 : i = j := by simpa using z
        rw [z2]
        exact hjl) (by
      rw [List.nodup_append]
      refine ⟨List.nodup_range, by simp, fun x hx y hy z => ?_⟩
      have hy' : y = j := by simpa using hy
      have := List.mem_range.mp hx
      omega)
    have eC : pkC ω' (List.range ω.length ++ [j]) = ω'.take ω.length ++ [c] := by
      have : pkC ω' (List.range ω.length ++ [j]) = pkC ω' (List.range ω.length) ++ pkC ω' [j] := by
        unfold pkC
        rw [List.map_append]
      rw [this, pk_range hn]
      unfold pkC
      rw [List.map_cons, List.map_nil, List.getD_eq_getElem?_getD, hc]
      rfl
    obtain ⟨a, ea, ha⟩ := s1
    have eA : pkA as' (List.range ω.length ++ [j]) = as ++ [a] := by
      have : pkA as' (List.range ω.length ++ [j]) = pkA as' (List.range ω.length) ++ pkA as' [j] := by
        unfold pkA
        rw [List.map_append]
      rw [this, pkA_range hnA, htk]
      unfold pkA
      rw [List.map_cons, List.map_nil, List.getD_eq_getElem?_getD, ha]
      rfl
    rw [eC, eA] at w2
    have hlt : (ω'.take ω.length).length = ω.length := by rw [List.length_take]; omega
    refine hq v B' H' (as ++ [a]) (.own ω.length) _ e1 (List.prefix_append _ _) w2 (fun d hd => ?_) ⟨a, ea, ?_⟩ h2
    · rw [List.drop_left' hlt] at hd
      have : d = c := by simpa using hd
      rw [this]
      exact hlv
    · rw [← hl, List.getElem?_append_right (Nat.le_refl _), Nat.sub_self]
      rfl
theorem ok_U {φ : List Sl → List Cell → PO1 → Prop} (F : Fun K x qual st f fd) (S : FnScope N ps (defScope st)) (hn : ∀ rs ω Q, φ rs ω Q → rs.length = ps.length)
    (hb : ∀ rs ω Q, φ rs ω Q → Body P w K mg base N qual st f k fun X => DS X (defBody st) (slots N rs) ω { nx := fun _ ω' => RetU ω.length Q (.val .none) ω', rt := RetU ω.length Q }) :
    FnOk P w K mg base CX0 (k + 1) f fd ps (spU K φ) := by
  refine F.ok S (fun vs H Q E h => ?_) fun cdv A outer s H vs Q E hr h => ?_
  · obtain ⟨B, F', as, rs, ω, P', hw, hd, hφ, _⟩ := h
    rw [rsOk_len hd]
    exact hn _ _ _ hφ
  · obtain ⟨B, F', as, rs, ω, P', hw, hd, hφ, hq⟩ := h
    refine ⟨_, pss_w, hb rs ω P' hφ cdv A outer s H E hr B F' H as _ hw (env_start (env_of_rs hd)) _ ⟨fun σ' H' B' as' δ' ω' e1 p1 w1 ev1 q => ?_, fun _ _ _ _ _ _ _ _ _ _ q => q.elim, fun _ _ _ _ _ _ _ _ _ _ q => q.elim, fun v B' H' as' r ω' e1 p1 w1 s1 q => ?_⟩⟩
    · exact retU_run hw.len hq e1 p1 w1 (slv .non) q
    · exact retU_run hw.len hq e1 p1 w1 s1 q
end
section
variable {X : Cx} {e : Expr} {es : List Expr} {δ : List Sl} {ω : List Cell} {P : PO1} {pos : Pos}
def ownsLt (n : Nat) (rs : List Sl) : Bool := rs.all fun r => match r with
  | .own j => decide (j < n)
  | _ => true
theorem ownsLt_mem {n : Nat} {rs : List Sl} (h : ownsLt n rs = true) : ∀ j, Sl.own j ∈ rs → j < n := fun j hj => by
  have := List.all_eq_true.mp h _ hj
  exact of_decide_eq_true this
theorem rs_pick {K : Fg} {B : Hp} {as : List Addr} {ks : List Nat} (hk : ∀ i ∈ ks, i < as.length) : ∀ {rs : List Sl} {vs : List V}, (∀ j, Sl.own j ∈ rs → j < ks.length) → RsOk K B as vs (rs.map (ren ks as.length)) → RsOk K B (pkA as ks) vs rs
  | [], _, _, .nil => .nil
  | r :: rs, _, hj, .cons h q => by
    refine .cons ?_ (rs_pick hk (fun j hm => hj j (List.mem_cons_of_mem _ hm)) q)
    cases r with
    | no => trivial
    | val d => exact h
    | kn q => exact h
    | own j =>
      have hl := hj j List.mem_cons_self
      have e : ren ks as.length (.own j) = .own (ks.getD j 0) := if_pos hl
      rw [e] at h
      obtain ⟨a, ea, ha⟩ := h
      refine ⟨a, ea, ?_⟩
      rw [getD_at hl] at ha
      rw [pkA_at (List.getElem?_eq_getElem hl) (hk _ (List.getElem_mem hl))]
      exact ha
theorem sl_unpick {K : Fg} {B : Hp} {as as2 : List Addr} {ks : List Nat} (hk : ∀ i ∈ ks, i < as.length) (p : pkA as ks <+: as2) {v : V} {r : Sl} (h : SlOk K B as2 (some v) r) : SlOk K B (as ++ as2.drop ks.length) (some v) (ren ks as.length r) := by
  have hlA : (pkA as ks).length = ks.length := by unfold pkA; rw [List.length_map]
  cases r with
  | no => trivial
  | val d => exact h
  | kn q => exact h
  | own j =>
    obtain ⟨a, ea, ha⟩ := h
    by_cases hj : j < ks.length
    · have e : ren ks as.length (.own j) = .own (ks.getD j 0) := if_pos hj
      rw [e]
      refine ⟨a, ea, ?_⟩
      obtain ⟨t, ht⟩ := p
      have hi := hk _ (List.getElem_mem hj)
      rw [← ht, List.getElem?_append_left (by rw [hlA]; exact hj), pkA_at (List.getElem?_eq_getElem hj) hi] at ha
      rw [getD_at hj, List.getElem?_append_left hi]
      exact ha
    · have e : ren ks as.length (.own j) = .own (as.length + (j - ks.length)) := if_neg hj
      rw [e]
      refine ⟨a, ea, ?_⟩
      rw [List.getElem?_append_right (by omega), Nat.add_sub_cancel_left, List.getElem?_drop]
      rw [show ks.length + (j - ks.length) = j by omega]
      exact ha
/-- the call of a def with the widest promise: ks says which cells it is handed -/
theorem de_callU {x : Str} {p : Pos} {j : Nat} {φ : List Sl → List Cell → PO1 → Prop} (C : Has X.prog X.w X.K X.mg X.base j x (spU X.K φ)) (hr : Room j X.A) (hg : Gl X x)
    (h : DA X (e :: es) δ ω fun rs ω1 => ∃ (ks : List Nat) (rs' : List Sl), rs = rs'.map (ren ks ω1.length) ∧ (∀ i ∈ ks, i < ω1.length) ∧ ks.Nodup ∧ ownsLt ks.length rs' = true ∧
      φ rs' (pkC ω1 ks) fun r ω2 => P (ren ks ω1.length r) (putC ω1 ks ω2 ++ ω2.drop ks.length))
    (hdb : (x == ("__debug__" : Str)) = false := by decide) (he : starEach (e :: es) X.env = (false, eval e X.env) :: starEach es X.env := by rfl) (hpl : (backTo pos (starEach es X.env)).any (·.1) = false := by rfl) : DE X (.Call (.Name x p) (e :: es) [] pos) δ ω P := fun B F H as σ w ev Q o => by
  obtain ⟨f, fd, ps, hf, hm, hk, hb⟩ := C.ex
  refine ⟨_, pe_call hf hr hg hm hk hb .nil pass0 pa_w hdb he hpl, ?_⟩
  refine h B F H as σ w ev _ fun vs B1 H1 as1 rs ω1 e1 p1 w1 s1 ⟨ks, rs', er, hks, hnd, hown, hφ⟩ => ?_
  subst er
  have hka : ∀ i ∈ ks, i < as1.length := fun i hi => by rw [w1.len]; exact hks i hi
  obtain ⟨F', wF, back, _⟩ := w1.frameL hks hnd
  have hlC : (pkC ω1 ks).length = ks.length := by unfold pkC; rw [List.length_map]
  rw [← w1.len] at s1
  refine ⟨B1, F', pkA as1 ks, rs', pkC ω1 ks, _, wF, by rw [List.append_nil]; exact rs_pick hka (ownsLt_mem hown) s1, hφ, fun v B' H' as' r ω' sb pp w' hlv hs hp => ?_⟩
  rw [hlC] at hlv
  have w2 := back B' H' as' ω' sb pp w' hlv
  have s2 := sl_unpick hka pp hs
  rw [w1.len] at s2
  exact o v B' H' _ _ _ (e1.trans sb) (p1.trans (List.prefix_append _ _)) w2 s2 hp
end
end
section
/-! instances of own classes -/

abbrev AtOk (K : Fg) (B : Hp) : List (Str × V) → List (Str × D) → Prop := Paired fun p q => p.1 = q.1 ∧ Dp K B p.2 q.2
theorem at_up {K : Fg} {B B' : Hp} (e : Same B B') : ∀ {a : List (Str × V)} {b : List (Str × D)}, AtOk K B a b → AtOk K B' a b
  | _, _, .nil => .nil
  | _, _, .cons h q => .cons ⟨h.1, dp_up e h.2⟩ (at_up e q)
theorem at_get {K : Fg} {B : Hp} {f : Str} {d : D} : ∀ {a : List (Str × V)} {b : List (Str × D)}, AtOk K B a b → b.lookup f = some d → ∃ v, a.lookup f = some v ∧ Dp K B v d
  | _, _, .nil, h => by simp at h
  | (x, v) :: a, (y, c) :: b, .cons h q, e => by
    have hx : x = y := h.1
    subst hx
    by_cases hf : (f == x) = true
    · rw [List.lookup_cons, hf] at e ⊢
      cases e
      exact ⟨v, rfl, h.2⟩
    · rw [List.lookup_cons, Bool.eq_false_iff.mpr hf] at e ⊢
      exact at_get q e
theorem at_none {K : Fg} {B : Hp} {f : Str} : ∀ {a : List (Str × V)} {b : List (Str × D)}, AtOk K B a b → b.lookup f = none → a.lookup f = none
  | _, _, .nil, _ => rfl
  | (x, v) :: a, (y, c) :: b, .cons h q, e => by
    have hx : x = y := h.1
    subst hx
    by_cases hf : (f == x) = true
    · rw [List.lookup_cons, hf] at e
      cases e
    · rw [List.lookup_cons, Bool.eq_false_iff.mpr hf] at e ⊢
      exact at_none q e
def putD (f : Str) (d : D) : List (Str × D) → List (Str × D)
  | [] => [(f, d)]
  | (g, x) :: r => if g = f then (g, d) :: r else (g, x) :: putD f d r
theorem at_put {K : Fg} {B : Hp} {f : Str} {v : V} {d : D} (hv : Dp K B v d) : ∀ {a : List (Str × V)} {b : List (Str × D)}, AtOk K B a b → AtOk K B (L2.putF f v a) (putD f d b)
  | _, _, .nil => .cons ⟨rfl, hv⟩ .nil
  | (x, u) :: a, (y, c) :: b, .cons h q => by
    have hx : x = y := h.1
    subst hx
    show AtOk K B (if x = f then (x, v) :: a else (x, u) :: L2.putF f v a) (if x = f then (x, d) :: b else (x, c) :: putD f d b)
    by_cases e : x = f
    · rw [if_pos e, if_pos e]
      exact .cons ⟨rfl, hv⟩ q
    · rw [if_neg e, if_neg e]
      exact .cons ⟨rfl, h.2⟩ (at_put hv q)
theorem at_len {K : Fg} {B : Hp} {a : List (Str × V)} {b : List (Str × D)} (h : AtOk K B a b) : a.length = b.length := Paired.length h

/-- an instance that is known for good: its class, its attributes -/
def insK (C : Addr) (fs : List (Str × D)) : Fg → Hp → V → Prop := fun K B v => ∃ a dx vs, v = .ref a ∧ B a = some (.ins C dx vs) ∧ AtOk K B vs fs
/-- the class itself -/
def clsK (C : Addr) : Fg → Hp → V → Prop := fun _ _ v => v = .ref C
/-- an instance that is owned; its dict -/
def insC (C dx : Addr) (fs : List (Str × D)) : Cell := .gn fun K B o _ => ∃ vs, o = .ins C dx vs ∧ AtOk K B vs fs
def ownC (x : Addr) : Cell := .oth fun _ => .own x
theorem slk_ins {K : Fg} {B : Hp} {as : List Addr} {v : V} {C : Addr} {fs : List (Str × D)} (s : SlOk K B as (some v) (.kn (insK C fs))) : insK C fs K B v := by
  obtain ⟨v', B0, e, sb, a, dx, vs, h1, h2, h3⟩ := s
  cases e
  exact ⟨a, dx, vs, h1, sb _ _ h2, at_up sb h3⟩
theorem insK_slot {K : Fg} {B : Hp} {as : List Addr} {v : V} {C : Addr} {fs : List (Str × D)} (h : insK C fs K B v) : SlOk K B as (some v) (.kn (insK C fs)) := ⟨v, B, rfl, Same.refl _, h⟩
theorem slo_ins {K : Fg} {B F H : Hp} {as : List Addr} {ω : List Cell} {v : V} {k : Nat} {C dx : Addr} {fs : List (Str × D)} (w : Wd K B F H as ω) (s : SlOk K B as (some v) (.own k)) (hc : ω[k]? = some (insC C dx fs)) : ∃ a vs, v = .ref a ∧ as[k]? = some a ∧ B a = none ∧ H a = some (.ins C dx vs) ∧ AtOk K B vs fs := by
  obtain ⟨a, h1, h2⟩ := sl_own s
  obtain ⟨hb, B0, o, sb, h3, vs, rfl, h4⟩ := (w.at' k a _ h2 hc).2.2
  exact ⟨a, vs, h1, h2, hb, h3, at_up sb h4⟩
/-- an owned thing is from now on known for good -/
theorem Wd.freezeG {K : Fg} {B F H : Hp} {as : List Addr} {ω : List Cell} (w : Wd K B F H as ω) {k : Nat} {a : Addr} {o : HO} (ha : as[k]? = some a) (hB : B a = none) (hH : H a = some o) : Wd K (upd B a o) F H as (ω.set k .dead) ∧ Same B (upd B a o) := by
  have hk : k < ω.length := by rw [← w.len]; exact (List.getElem?_eq_some_iff.mp ha).1
  obtain ⟨q1, q2, q3⟩ := w.at' k a _ ha (List.getElem?_eq_getElem hk)
  have sb : Same B (upd B a o) := same_new hB
  refine ⟨⟨fun b x e => ?_, fun b x e => ?_, by rw [List.length_set]; exact w.len, w.nd, fun j b d e1 e2 => ?_⟩, sb⟩
  · by_cases hb : b = a
    · subst hb
      rw [upd_same] at e
      cases e
      exact hH
    · rw [upd_ne hb] at e
      exact w.b _ _ e
  · have hb : b ≠ a := fun z => by
      rw [z, q1] at e
      cases e
    rw [upd_ne hb]
    exact w.f _ _ e
  · by_cases hj : j = k
    · subst hj
      rw [ha] at e1
      cases e1
      rw [List.getElem?_set_self hk] at e2
      cases e2
      exact ⟨q1, q2, by show upd B _ _ _ ≠ none; rw [upd_same]; simp⟩
    · rw [List.getElem?_set_ne (Ne.symm hj)] at e2
      have hb : b ≠ a := fun z => hj (nodup_at w.nd (z ▸ e1) ha)
      obtain ⟨r1, r2, r3⟩ := w.at' j b d e1 e2
      exact ⟨r1, r2, cell_up r3 sb (fun z => by rw [upd_ne hb]; exact z) rfl⟩

/-! ### promises over slots without cells -/
def Sl.free : Sl → Bool
  | .own _ => false
  | _ => true
theorem sl_free {K : Fg} {B : Hp} {as as' : List Addr} {o : Option V} {r : Sl} (hf : r.free = true) (h : SlOk K B as o r) : SlOk K B as' o r := by
  cases r with
  | no => trivial
  | val d => exact h
  | kn p => exact h
  | own k => cases hf
theorem rs_free {K : Fg} {B : Hp} {as as' : List Addr} : ∀ {vs : List V} {rs : List Sl}, rs.all Sl.free = true → RsOk K B as vs rs → RsOk K B as' vs rs
  | _, _, _, .nil => .nil
  | v :: vs, r :: rs, hf, .cons h q => by
    rw [List.all_cons, Bool.and_eq_true] at hf
    exact .cons (sl_free hf.1 h) (rs_free hf.2 q)
def spS (K : Fg) (φ : List Sl → (Sl → Prop) → Prop) : Sp := fun vs H Q _ => ∃ B F rs P, Wd K B F H [] [] ∧ RsOk K B [] vs rs ∧ φ rs P ∧ ∀ v B' H' r, Same B B' → Wd K B' F H' [] [] → SlOk K B' [] (some v) r → P r → Q v H'
section
variable {P : Program} {w : World} {K : Fg} {mg : Str → Option Value} {base : Heap} {x qual : Str} {st : Stmt} {f : Addr} {fd : FuncData} {N ps : List Str} {k : Nat}
theorem ok_S {φ : List Sl → (Sl → Prop) → Prop} (F : Fun K x qual st f fd) (S : FnScope N ps (defScope st)) (hn : ∀ rs Q, φ rs Q → rs.length = ps.length)
    (hb : ∀ rs Q, φ rs Q → Body P w K mg base N qual st f k fun X => DS X (defBody st) (slots N rs) [] { nx := fun _ _ => Q (.val .none), rt := fun r _ => r.free = true ∧ Q r }) : FnOk P w K mg base CX0 (k + 1) f fd ps (spS K φ) := by
  refine F.ok S (fun vs H Q E h => ?_) fun cdv A outer s H vs Q E hr h => ?_
  · obtain ⟨B, F', rs, P', hw, hd, hφ, _⟩ := h
    rw [rsOk_len hd]
    exact hn _ _ hφ
  · obtain ⟨B, F', rs, P', hw, hd, hφ, hq⟩ := h
    refine ⟨_, pss_w, hb rs P' hφ cdv A outer s H E hr B F' H [] _ hw (env_start (env_of_rs hd)) _ ⟨fun σ' H' B' as' δ' ω' e1 p1 w1 ev1 q => ?_, fun _ _ _ _ _ _ _ _ _ _ q => q.elim, fun _ _ _ _ _ _ _ _ _ _ q => q.elim, fun v B' H' as' r ω' e1 p1 w1 s1 q => ?_⟩⟩
    · exact hq .non B' H' _ e1 w1.drop (slv .non) q
    · exact hq v B' H' r e1 w1.drop (sl_free q.1 s1) q.2
end
section
variable {X : Cx} {e o value : Expr} {es : List Expr} {δ : List Sl} {ω : List Cell} {P : PO1} {pos apos pos' : Pos} {f : Str} {k : Kd}
/-- the call of a def by slots -/
theorem de_callS {x : Str} {p : Pos} {j : Nat} {φ : List Sl → (Sl → Prop) → Prop} (C : Has X.prog X.w X.K X.mg X.base j x (spS X.K φ)) (hr : Room j X.A) (hg : Gl X x) (h : DA X (e :: es) δ ω fun rs ω1 => rs.all Sl.free = true ∧ φ rs fun r => r.free = true ∧ P r ω1)
    (hdb : (x == ("__debug__" : Str)) = false := by decide) (he : starEach (e :: es) X.env = (false, eval e X.env) :: starEach es X.env := by rfl) (hpl : (backTo pos (starEach es X.env)).any (·.1) = false := by rfl) : DE X (.Call (.Name x p) (e :: es) [] pos) δ ω P := fun B F H as σ w ev Q oo => by
  obtain ⟨g, fd, ps, hf, hm, hk, hb⟩ := C.ex
  refine ⟨_, pe_call hf hr hg hm hk hb .nil pass0 pa_w hdb he hpl, ?_⟩
  refine h B F H as σ w ev _ fun vs B1 H1 as1 rs ω1 e1 p1 w1 s1 ⟨hfr, hφ⟩ => ?_
  obtain ⟨F', wF, _, _, back⟩ := w1.frame
  refine ⟨B1, F', rs, _, wF, by rw [List.append_nil]; exact rs_free hfr s1, hφ, fun v B' H' r sb w' hs ⟨hrf, hp⟩ => ?_⟩
  exact oo v B' H' as1 r ω1 (e1.trans sb) p1 (back B' H' sb w') (sl_free hrf hs) hp

/-! ### attributes -/
/-- o.f of an instance that is known for good -/
theorem de_attrK (h : DE X e δ ω fun r ω1 => ∃ C fs d, r = .kn (insK C fs) ∧ Cls X.K C ∧ NoAttr X.K C f ∧ fs.lookup f = some d ∧ P (.val d) ω1) (hb : attributeBase e f X.env (eval e X.env) = eval e X.env := by rfl) : DE X (.Attribute e f pos) δ ω P := fun B F H as σ w ev Q oo => by
  refine ⟨_, pe_fld pe_w hb, ?_⟩
  refine h B F H as σ w ev _ fun v B1 H1 as1 r ω1 e1 p1 w1 s1 ⟨C, fs, d, er, c, n, hl, hp⟩ => ?_
  subst er
  obtain ⟨a, dx, vs, rfl, h2, h3⟩ := slk_ins s1
  obtain ⟨u, hu, hd⟩ := at_get h3 hl
  exact ⟨a, C, dx, vs, u, rfl, w1.b _ _ h2, c, n, hu, oo u B1 H1 as1 _ ω1 e1 p1 w1 (slv hd) hp⟩
/-- .. that is owned -/
theorem de_attrC (h : DE X e δ ω fun r ω1 => ∃ kx C dx fs d, r = .own kx ∧ ω1[kx]? = some (insC C dx fs) ∧ Cls X.K C ∧ NoAttr X.K C f ∧ fs.lookup f = some d ∧ P (.val d) ω1) (hb : attributeBase e f X.env (eval e X.env) = eval e X.env := by rfl) : DE X (.Attribute e f pos) δ ω P := fun B F H as σ w ev Q oo => by
  refine ⟨_, pe_fld pe_w hb, ?_⟩
  refine h B F H as σ w ev _ fun v B1 H1 as1 r ω1 e1 p1 w1 s1 ⟨kx, C, dx, fs, d, er, hk, c, n, hl, hp⟩ => ?_
  subst er
  obtain ⟨a, vs, rfl, ha, hb, hh, h3⟩ := slo_ins w1 s1 hk
  obtain ⟨u, hu, hd⟩ := at_get h3 hl
  exact ⟨a, C, dx, vs, u, rfl, hh, c, n, hu, oo u B1 H1 as1 _ ω1 e1 p1 w1 (slv hd) hp⟩
/-- o.f = value, o owned -/
theorem d1_setAttr (h : DE X value δ ω fun rv ω1 => DE X o δ ω1 fun r ω2 => ∃ kx C dx fs d, rv = .val d ∧ r = .own kx ∧ ω2[kx]? = some (insC C dx fs) ∧ Cls X.K C ∧ NoAttr X.K C f ∧ fs.length < 1000 ∧ k.nx δ (ω2.set kx (insC C dx (putD f d fs))))
    (hs : swapsWith value (some (.Attribute o f pos')) pos.line X.env = pure false := by rfl) : D1 X (.Assign [.Attribute o f pos'] value pos) δ ω k := fun B F H as σ w ev E oo => by
  refine ⟨_, ps_fld pe_w pe_w hs, ?_⟩
  refine h B F H as σ w ev _ fun y B1 H1 as1 rv ω1 e1 p1 w1 s1 q1 => ?_
  refine q1 B1 F H1 as1 σ w1 (envOk_up e1 p1 ev) _ fun v B2 H2 as2 r ω2 e2 p2 w2 s2 ⟨kx, C, dx, fs, d, erv, er, hk, c, n, hz, hp⟩ => ?_
  subst erv er
  obtain ⟨a, vs, rfl, ha, hb, hh, h3⟩ := slo_ins w2 s2 hk
  have hd := dp_up e2 (sl_val s1)
  refine ⟨a, C, dx, vs, rfl, hh, c, n, by rw [at_len h3]; exact hz, ?_⟩
  have w3 := w2.write (c' := insC C dx (putD f d fs)) (o := .ins C dx (L2.putF f y vs)) ha hk hb ⟨hb, B2, _, Same.refl _, upd_same, _, rfl, at_put hd h3⟩
  exact (oo.nx.up (e1.trans e2) (p1.trans p2)).here w3 (envOk_up (e1.trans e2) (p1.trans p2) ev) hp

/-! ### properties, methods, classmethods -/
structure HasM (P : Program) (w : World) (K : Fg) (mg : Str → Option Value) (base : Heap) (k : Nat) (g : Addr) (sp : Sp) : Prop where
  ex : ∃ (fd : FuncData) (ps : List Str), FnOk P w K mg base CX0 k g fd ps sp ∧ Binds K fd ps []
/-- e.f, a property of an instance that is known for good -/
theorem de_prop {C p g : Addr} {j : Nat} {φ : List Sl → (Sl → Prop) → Prop} (M : HasM X.prog X.w X.K X.mg X.base j g (spS X.K φ)) (c : Cls X.K C) (hp : PropOf X.K C f p g) (hr : Room (j + 1) X.A)
    (h : DE X e δ ω fun r ω1 => ∃ fs, r = .kn (insK C fs) ∧ φ [r] fun s => s.free = true ∧ P s ω1) (hb : attributeBase e f X.env (eval e X.env) = eval e X.env := by rfl) : DE X (.Attribute e f pos) δ ω P := fun B F H as σ w ev Q oo => by
  obtain ⟨fd, ps, hf, hbd⟩ := M.ex
  refine ⟨_, pe_prop pe_w c hp hf hr hbd .nil pass0 hb, ?_⟩
  refine h B F H as σ w ev _ fun v B1 H1 as1 r ω1 e1 p1 w1 s1 ⟨fs, er, hφ⟩ => ?_
  subst er
  have hins := slk_ins s1
  obtain ⟨a, dx, vs, rfl, h2, h3⟩ := hins
  obtain ⟨F', wF, _, _, back⟩ := w1.frame
  refine ⟨a, dx, vs, rfl, w1.b _ _ h2, B1, F', _, _, wF, .cons (sl_free rfl s1) .nil, hφ, fun v B' H' r sb w' hs ⟨hrf, hp⟩ => ?_⟩
  exact oo v B' H' as1 r ω1 (e1.trans sb) p1 (back B' H' sb w') (sl_free hrf hs) hp
/-- C.m(..), a classmethod -/
theorem de_cmeth {C p g : Addr} {mc : Value} {m : Str} {j : Nat} {φ : List Sl → (Sl → Prop) → Prop} (M : HasM X.prog X.w X.K X.mg X.base j g (spS X.K φ)) (r : ClX.CRead X.K C mc) (c : ClX.CMet X.K C mc m p g) (hr : Room j X.A)
    (h : DE X o δ ω fun ro ω0 => ro = .kn (clsK C) ∧ DA X (e :: es) δ ω0 fun rs ω1 => rs.all Sl.free = true ∧ φ (.kn (clsK C) :: rs) fun s => s.free = true ∧ P s ω1) {pl : Sem Bool}
    (hst : starEach (e :: es) X.env = (false, eval e X.env) :: starEach es X.env := by rfl) (hpl : (backTo pos (starEach es X.env)).any (·.1) = false := by rfl)
    (ht : eval (.Call (.Attribute o m apos) (e :: es) [] pos) X.env = (do
      let ov ← eval o X.env
      standAt apos.atName
      let (f, first) ← holding [ov] (getMethod ov m pl)
      callWith pos f first (backTo pos (starEach (e :: es) X.env)) (backToKw pos (keywordEach [] X.env))) := by rfl) : DE X (.Call (.Attribute o m apos) (e :: es) [] pos) δ ω P := fun B F H as σ w ev Q oo => by
  obtain ⟨fd, ps, hf, hbd⟩ := M.ex
  refine ⟨_, ClX.pe_cmeth pe_w r c (hf.raw hbd .nil) hr pass0 pa_w hst hpl ht, ?_⟩
  refine h B F H as σ w ev _ fun v B0 H0 as0 ro ω0 e0 p0 w0 s0 ⟨er, h1⟩ => ?_
  subst er
  obtain ⟨v', B9, e9, sb9, hv⟩ := s0
  cases e9
  have hv' : v = .ref C := hv
  subst hv'
  refine ⟨rfl, ?_⟩
  refine h1 B0 F H0 as0 σ w0 (envOk_up e0 p0 ev) _ fun vs B1 H1 as1 rs ω1 e1 p1 w1 s1 ⟨hfr, hφ⟩ => ?_
  obtain ⟨F', wF, _, _, back⟩ := w1.frame
  refine ⟨B1, F', _, _, wF, by rw [List.append_nil]; exact .cons ⟨_, B1, rfl, Same.refl _, rfl⟩ (rs_free hfr s1), hφ, fun v B' H' r sb w' hs ⟨hrf, hp⟩ => ?_⟩
  exact oo v B' H' as1 r ω1 ((e0.trans e1).trans sb) (p0.trans p1) (back B' H' sb w') (sl_free hrf hs) hp
/-- a class by its name -/
theorem de_cls {C : Addr} {x : Str} (hg : Gl X x) (hm : X.mg x = some (.ref C)) (hp : P (.kn (clsK C)) ω) (hdb : (x == ("__debug__" : Str)) = false := by decide) : DE X (.Name x pos) δ ω P := fun B F H as σ w ev Q oo =>
  ⟨_, pe_glob (v := .ref C) hg hm rfl hdb, oo (.ref C) B H as (.kn (clsK C)) ω (Same.refl _) (List.prefix_refl _) w ⟨_, B, rfl, Same.refl _, rfl⟩ hp⟩

/-! ### an instance is made -/
/-- what __init__ promises: the dict and the instance are the cells 0 and 1 -/
def spI (K : Fg) (φ : List Sl → List Cell → PO1 → Prop) : Sp := spU K φ
theorem Wd.made {K : Fg} {B F H : Hp} (w : Wd K B F H [] []) {C x dx : Addr} (hx : H x = none) (hdx : H dx = none) (hne : dx ≠ x) : Wd K B F (upd (upd H dx (.own x)) x (.ins C dx [])) [dx, x] [ownC x, insC C dx []] := by
  have w1 : Wd K B F (upd H dx (.own x)) [dx] [ownC x] := w.own hdx fun hb => ⟨hb, upd_same⟩
  have hx1 : upd H dx (.own x) x = none := by rw [upd_ne (Ne.symm hne)]; exact hx
  exact w1.own hx1 fun hb => ⟨hb, B, _, Same.refl _, upd_same, [], rfl, .nil⟩
theorem made_end {K : Fg} {B F F' : Hp} {as : List Addr} {ω : List Cell} (back : ∀ B' H', Same B B' → Wd K B' F' H' [] [] → Wd K B' F H' as ω) {C x dx : Addr} {fs : List (Str × D)} {B' H' : Hp} (sb : Same B B') (w' : Wd K B' F' H' [dx, x] [ownC x, insC C dx fs]) :
    ∃ B2, Same B B2 ∧ Wd K B2 F H' as ω ∧ insK C fs K B2 (.ref x) := by
  obtain ⟨q1, q2⟩ := (w'.at' 0 dx (ownC x) rfl rfl).2.2
  obtain ⟨hb, B0, o, sb0, h3, vs, rfl, h4⟩ := (w'.at' 1 x (insC C dx fs) rfl rfl).2.2
  obtain ⟨w2, s2⟩ := w'.freezeG (k := 0) rfl q1 q2
  have hne : x ≠ dx := fun z => by
    have := w'.nd
    rw [z] at this
    simp at this
  obtain ⟨w3, s3⟩ := w2.freezeG (k := 1) (a := x) rfl (by rw [upd_ne hne]; exact hb) h3
  have s13 := s2.trans s3
  exact ⟨_, sb.trans s13, back _ H' (sb.trans s13) w3.drop, x, dx, vs, rfl, upd_same, at_up (sb0.trans s13) h4⟩
/-- C(..), known for good from then on; x names the class -/
theorem de_make {x : Str} {p : Pos} {C g : Addr} {j : Nat} {φ : List Sl → List Cell → PO1 → Prop} (M : HasM X.prog X.w X.K X.mg X.base j g (spU X.K φ)) (mk : Mk X.K C g) (hr : Room (j + 1) X.A) (hg : Gl X x) (hm : X.mg x = some (.ref C))
    (h : DA X (e :: es) δ ω fun rs ω1 => rs.all Sl.free = true ∧ ∀ y dx, φ (.own 1 :: rs) [ownC y, insC C dx []] fun r ω2 => r = .val .none ∧ ∃ fs, ω2 = [ownC y, insC C dx fs] ∧ P (.kn (insK C fs)) ω1)
    (hdb : (x == ("__debug__" : Str)) = false := by decide) (he : starEach (e :: es) X.env = (false, eval e X.env) :: starEach es X.env := by rfl) (hpl : (backTo pos (starEach es X.env)).any (·.1) = false := by rfl) : DE X (.Call (.Name x p) (e :: es) [] pos) δ ω P := fun B F H as σ w ev Q oo => by
  obtain ⟨fd, ps, hf, hbd⟩ := M.ex
  refine ⟨_, pe_make mk hf hr hg hm hbd .nil pass0 pa_w hdb he hpl, ?_⟩
  refine h B F H as σ w ev _ fun vs B1 H1 as1 rs ω1 e1 p1 w1 s1 ⟨hfr, hφ⟩ y dx hy hdx hne => ?_
  obtain ⟨F', wF, _, _, back⟩ := w1.frame
  refine ⟨B1, F', [dx, y], .own 1 :: rs, _, _, wF.made hy hdx hne, by rw [List.append_nil]; exact .cons ⟨y, rfl, rfl⟩ (rs_free hfr s1), hφ y dx, fun v B' H' as' r ω' sb pp w' hlv hs ⟨er, fs, eω, hp⟩ => ?_⟩
  subst er eω
  obtain ⟨t, ht⟩ := pp
  have hl := w'.len
  have et : t = [] := by
    rw [← ht] at hl
    simpa using hl
  subst et
  have ea : as' = [dx, y] := by rw [← ht]; rfl
  subst ea
  obtain ⟨B2, sb2, w2, hi⟩ := made_end back sb w'
  exact ⟨dp_non_inv (sl_val hs), oo (.ref y) B2 H' as1 _ ω1 (e1.trans sb2) p1 w2 (insK_slot hi) hp⟩
/-- cls(..), cls a name that holds the class -/
theorem de_makeV {x : Str} {p : Pos} {C g : Addr} {j : Nat} {φ : List Sl → List Cell → PO1 → Prop} (M : HasM X.prog X.w X.K X.mg X.base j g (spU X.K φ)) (mk : Mk X.K C g) (hr : Room (j + 1) X.A)
    (hx : DE X (.Name x p) δ ω fun r0 ω0 => r0 = .kn (clsK C) ∧ DA X (e :: es) δ ω0 fun rs ω1 => rs.all Sl.free = true ∧ ∀ y dx, φ (.own 1 :: rs) [ownC y, insC C dx []] fun r ω2 => r = .val .none ∧ ∃ fs, ω2 = [ownC y, insC C dx fs] ∧ P (.kn (insK C fs)) ω1)
    (he : starEach (e :: es) X.env = (false, eval e X.env) :: starEach es X.env := by rfl) (hpl : (backTo pos (starEach es X.env)).any (·.1) = false := by rfl) : DE X (.Call (.Name x p) (e :: es) [] pos) δ ω P := fun B F H as σ w ev Q oo => by
  obtain ⟨fd, ps, hf, hbd⟩ := M.ex
  refine ⟨fun σ H Q => wE X (.Name x p) σ H fun v H0 => v = .ref C ∧ tMake C (spU X.K φ) [] E0 (wA X (e :: es)) σ H0 Q, ⟨fun pins s σ H Q I hh => ?_⟩, ?_⟩
  · refine wpAny_Call_Name_kw (L2.thn (pe_w.run pins s σ H _ I hh) fun u s0 ⟨v, H0, I0, r0, ev0, q0⟩ => ?_)
    subst ev0
    obtain rfl : u = Value.ref C := r0
    refine PySem.W.callWith_K (h₀ := X.base) I0.ok.mod.kin mk.kp (L2.thn (pa_w.run pos pins s0 σ H0 _ I0 q0) fun us s1 ⟨vs, H1, I1, r1, q1⟩ => ⟨I1.kIn, ?_⟩) he hpl
    exact run_make mk hf hr hbd .nil pass0 I1 r1 q1
  · refine hx B F H as σ w ev _ fun v B0 H0 as0 r0 ω0 e0 p0 w0 s0 ⟨er0, h⟩ => ?_
    subst er0
    obtain ⟨v', B9, e9, sb9, hv⟩ := s0
    cases e9
    have hv' : v = .ref C := hv
    subst hv'
    refine ⟨rfl, ?_⟩
    refine h B0 F H0 as0 σ w0 (envOk_up e0 p0 ev) _ fun vs B1 H1 as1 rs ω1 e1 p1 w1 s1 ⟨hfr, hφ⟩ y dx hy hdx hne => ?_
    obtain ⟨F', wF, _, _, back⟩ := w1.frame
    refine ⟨B1, F', [dx, y], .own 1 :: rs, _, _, wF.made hy hdx hne, by rw [List.append_nil]; exact .cons ⟨y, rfl, rfl⟩ (rs_free hfr s1), hφ y dx, fun v B' H' as' r ω' sb pp w' hlv hs ⟨er, fs, eω, hp⟩ => ?_⟩
    subst er eω
    obtain ⟨t, ht⟩ := pp
    have hl := w'.len
    have et : t = [] := by
      rw [← ht] at hl
      simpa using hl
    subst et
    have ea : as' = [dx, y] := by rw [← ht]; rfl
    subst ea
    obtain ⟨B2, sb2, w2, hi⟩ := made_end back sb w'
    exact ⟨dp_non_inv (sl_val hs), oo (.ref y) B2 H' as1 _ ω1 ((e0.trans e1).trans sb2) (p0.trans p1) w2 (insK_slot hi) hp⟩

/-! ### repr -/
def rReprO (C : Addr) (sp : Sp) : List V → Hp → VK → Prop := fun xs H Q => ∃ a dx fs, xs = [V.ref a] ∧ H a = some (.ins C dx fs) ∧ sp [.ref a] H (fun z H' => ∃ y, z = .str y ∧ Q z H') E0
theorem call_reprO {C g : Addr} {j : Nat} {fd : FuncData} {ps : List Str} {sp : Sp} (hs : PySem.W.findIn X.K (.ref C) "__repr__" = some (some (.ref g))) (hf : PySem.W.isFn X.K (.ref g) = true) (F : FnOk X.prog X.w X.K X.mg X.base CX0 j g fd ps sp) (hb : Binds X.K fd ps []) (hr : Room (j + 1) X.A) :
    CallR X (.builtin "repr") (rReprO C sp) := by
  intro pins s σ H xs us Q I r h
  obtain ⟨a, dx, fs, rfl, ha, q⟩ := h
  obtain ⟨u, rfl, ru⟩ := vals1 r
  obtain rfl : u = Value.ref a := ru
  obtain ⟨mA, O, _⟩ := ins_get I.hok ha
  obtain ⟨od, J, _⟩ := O.look
  obtain ⟨m, hF⟩ := I.fr
  have hr1 : Room j X.A.in1 := hr.in1
  refine PySem.W.repr_K hr1.units0 hF I.ok.mod.kin J hs hf ?_
  have hl : ([Value.ref a] ++ ([] : List Value)).length = ps.length := by
    rw [← F.len _ _ _ _ q]
    rfl
  refine wpAny_call (codeAny_mono (F.run X.A.in1 X.stack s H ⟨[.ref a], []⟩ [.ref a] [.ref a] _ E0 hr1 I.env0.in1 (hb s [.ref a] I.kIn hl) (.cons rfl .nil) q) fun r s' hq => ?_)
  cases r with
  | error e => exact hq.elim
  | ok fl =>
    cases fl with
    | ret u =>
      obtain ⟨z, H', I', rz, y, ey, qz⟩ := I.after hq
      subst ey
      obtain ⟨t, e⟩ := (show ∃ t, u = Value.str y t from rz)
      cases e
      exact ⟨.str y, H', I', ⟨t, rfl⟩, qz⟩
    | next => exact False.elim hq
    | brk => exact False.elim hq
    | cont => exact False.elim hq
theorem de_reprO {x : Str} {p : Pos} {C g : Addr} {j : Nat} {φ : List Sl → (Sl → Prop) → Prop} (hs : PySem.W.findIn X.K (.ref C) "__repr__" = some (some (.ref g))) (hf : PySem.W.isFn X.K (.ref g) = true) (M : HasM X.prog X.w X.K X.mg X.base j g (spS X.K φ)) (hr : Room (j + 1) X.A)
    (hg : Gl X "repr") (hm : X.mg "repr" = none) (h : DE X e δ ω fun r ω1 => ∃ fs, r = .kn (insK C fs) ∧ φ [r] fun s => ∃ y, s = .val (.str y) ∧ P s ω1)
    (he : starEach [e] X.env = (false, eval e X.env) :: starEach [] X.env := by rfl) : DE X (.Call (.Name "repr" p) [e] [] pos) δ ω P := fun B F H as σ w ev Q oo => by
  obtain ⟨fd, ps, hfn, hbd⟩ := M.ex
  refine ⟨_, pe_callB (call_reprO hs hf hfn hbd hr) hg hm PyProof.Rows.boot_repr (pa_cons pe_w pa_nil he) (by decide) (by decide) he rfl, ?_⟩
  refine h B F H as σ w ev _ fun v B1 H1 as1 r ω1 e1 p1 w1 s1 ⟨fs, er, hφ⟩ => ?_
  subst er
  have hins := slk_ins s1
  obtain ⟨a, dx, vs, rfl, h2, h3⟩ := hins
  obtain ⟨F', wF, _, _, back⟩ := w1.frame
  refine ⟨a, dx, vs, rfl, w1.b _ _ h2, B1, F', _, _, wF, .cons (sl_free rfl s1) .nil, hφ, fun v B' H' r sb w' hs ⟨y, er, hp⟩ => ?_⟩
  subst er
  obtain rfl := dp_str_inv (sl_val hs)
  exact ⟨y, rfl, oo _ B' H' as1 _ ω1 (e1.trans sb) p1 (back B' H' sb w') (sl_free rfl hs) hp⟩
end
end
section
/-! iterators over what is owned, as long as it stays -/
def ItOkG (K : Fg) (J : It) (B : Hp) (as0 : List Addr) (G : List Cell → Prop) (its : List D) : Prop :=
  ∀ B' F H as ω, Same B B' → as0 <+: as → Wd K B' F H as ω → G ω → (∀ i d, its[i]? = some d → J.go i H ∧ ∀ x H', J.yld i H x H' → ∃ B2, Same B' B2 ∧ Wd K B2 F H' as ω ∧ Dp K B2 x d) ∧ J.stop its.length H
def DIG (X : Cx) (tg iter : Expr) (δ : List Sl) (ω : List Cell) (P : (List Cell → Prop) → List D → List Cell → Prop) : Prop :=
  ∀ B F H as σ, Wd X.K B F H as ω → EnvOk X.K B as σ δ → ∀ R : It → Hp → Prop,
    (∀ J G its B' H' as' ω', Same B B' → as <+: as' → Wd X.K B' F H' as' ω' → ItOkG X.K J B' as' G its → P G its ω' → R J H') → wI X tg iter σ H R
section
variable {X : Cx} {e a b c tg iter elt : Expr} {es ifs : List Expr} {δ : List Sl} {ω : List Cell} {P : PO1} {pos : Pos} {scope : Scope} {own : List (Str × Nat)}
theorem lc_readG {vs : List Nat} (h : DIG X tg iter δ ω fun G its ω1 => its.length ≤ 100000 ∧ ∃ Iv : Nat → List D → List Cell → Prop, (∀ i acc ω', Iv i acc ω' → G ω') ∧ Iv 0 [] ω1 ∧ LcTurn X scope vs tg ifs elt δ its Iv ∧ ∀ acc ω', acc.length ≤ its.length → Iv its.length acc ω' → P (.val (.list acc)) ω' ∨ P (.own ω'.length) (ω' ++ [.lst acc]))
    {B F H : Hp} {as : List Addr} {σ : L2.St} (w : Wd X.K B F H as ω) (ev : EnvOk X.K B as σ δ) (Q : VK) (o : Out X.K B F as P Q) :
    tLc (wI X tg iter) (fun v σ H Q => Blk X scope fun Y => wG Y tg v σ H Q) (fun σ H Q => Blk X scope fun Y => wTs Y ifs σ H Q) (fun σ H Q => Blk X scope fun Y => wE Y elt σ H Q) vs σ H Q := by
  refine h B F H as σ w ev _ fun J G its B1 H1 as1 ω1 e1 p1 w1 hit ⟨hlen, Iv, hG, h0, ht, hd⟩ => ?_
  intro Dl hD
  have hF : F Dl = none := w1.freeF hD
  refine ⟨fun i m H' => m = its.length - i ∧ i ≤ its.length ∧ ∃ B' as' acc accV ω', Same B1 B' ∧ as1 <+: as' ∧ Wd X.K B' (upd F Dl (.lst accV)) H' as' ω' ∧ DpAll X.K B' accV acc ∧ acc.length ≤ i ∧ Iv i acc ω',
    ⟨its.length, by omega, Nat.zero_le _, B1, as1, [], [], ω1, Same.refl _, List.prefix_refl _, w1.hide hD, .nil, Nat.zero_le _, h0⟩, fun i m H' hW => ?_⟩
  obtain ⟨rfl, hi, B', as', acc, accV, ω', e2, p2, w2, hacc, hal, hI⟩ := hW
  by_cases hlt : i < its.length
  · obtain ⟨hgo, hy⟩ := (hit B' _ H' as' ω' e2 p2 w2 (hG _ _ _ hI)).1 i its[i] (List.getElem?_eq_getElem hlt)
    refine .inr ⟨hgo, fun H3 => ∃ B' as' acc accV ω', Same B1 B' ∧ as1 <+: as' ∧ Wd X.K B' (upd F Dl (.lst accV)) H3 as' ω' ∧ DpAll X.K B' accV acc ∧ acc.length ≤ i + 1 ∧ Iv (i + 1) acc ω', fun H3 q => ⟨its.length - (i + 1), by omega, rfl, hlt, q⟩, fun x H3 q => ?_⟩
    obtain ⟨B2, e3, w3, d3⟩ := hy x H3 q
    have ev3 : EnvOk X.K B2 as' (wipe σ vs) (wipeD δ vs) := envOk_wipe (envOk_up ((e1.trans e2).trans e3) (p1.trans p2) ev) vs
    intro s H0 C cl fp
    refine ht i its[i] acc ω' (List.getElem?_eq_getElem hlt) hI s H0 C cl fp B2 H3 as' (wipe σ vs) x w3.b ev3 d3 _ fun σ4 δ4 ev4 hl4 ha4 hb => ?_
    have hwipe : wipe σ4 vs = wipe σ vs := by
      refine wipe_eq (by rw [hl4, wipe_length]) fun j hj => ?_
      rw [ha4 j hj, wipe_get hj]
    refine ⟨hwipe, ?_⟩
    intro s H0 C cl fp
    refine dts_run (hb s H0 C cl fp) w3 ev4 _ fun bb B5 H5 as5 ω5 e5 p5 w5 hq => ?_
    cases bb with
    | true =>
      refine iteT ?_
      intro s H0 C cl fp
      refine hq s H0 C cl fp B5 _ H5 as5 σ4 w5 (envOk_up e5 p5 ev4) _ fun y B6 H6 as6 r ω6 e6 p6 w6 s6 ⟨dy, er, hI6⟩ => ?_
      subst er
      refine ⟨accV, (w6.f Dl _ upd_same).1, ?_, B6, as6, acc ++ [dy], accV ++ [y], ω6, ((e2.trans e3).trans e5).trans e6, (p2.trans p5).trans p6, w6.rehide, dpAll_app (dpAll_up ((e3.trans e5).trans e6) hacc) (.cons (sl_val s6) .nil), by rw [List.length_append]; exact Nat.succ_le_succ hal, hI6⟩
      rw [dpAll_len hacc]
      exact Nat.lt_of_le_of_lt (Nat.le_trans hal (Nat.le_trans hi hlen)) (by decide)
    | false =>
      exact iteF ⟨B5, as5, acc, accV, ω5, (e2.trans e3).trans e5, p2.trans p5, w5, dpAll_up (e3.trans e5) hacc, Nat.le_succ_of_le hal, hq⟩
  · have ei : i = its.length := by omega
    subst ei
    refine .inl ⟨(hit B' _ H' as' ω' e2 p2 w2 (hG _ _ _ hI)).2, ?_⟩
    rcases hd acc ω' hal hI with hp | hp
    · obtain ⟨w3, s3⟩ := w2.show hF
      exact o _ _ H' as' _ ω' ((e1.trans e2).trans s3) (p1.trans p2) w3 (slv (.lst (.inl (.inl upd_same)) (dpAll_up s3 hacc))) hp
    · refine o _ B' H' _ _ _ (e1.trans e2) ((p1.trans p2).trans (List.prefix_append _ _)) (w2.toOwn hF hacc) (slo ?_) hp
      rw [← w2.len, List.getElem?_append_right (Nat.le_refl _), Nat.sub_self]
      rfl
theorem de_lcG (hc : X.calm = true) (hN : X.N.Nodup) (ok : BlkOk X.N X.env.scope scope own)
    (h : DIG X tg iter δ ω fun G its ω1 => its.length ≤ 100000 ∧ ∃ Iv : Nat → List D → List Cell → Prop, (∀ i acc ω', Iv i acc ω' → G ω') ∧ Iv 0 [] ω1 ∧ LcTurn X scope (own.map (·.2)) tg ifs elt δ its Iv ∧ ∀ acc ω', acc.length ≤ its.length → Iv its.length acc ω' → P (.val (.list acc)) ω' ∨ P (.own ω'.length) (ω' ++ [.lst acc]))
    (hs : ∀ x, foldedSetIterable iter X.env x = pure x := by intro _; rfl) : DE X (.ListComp elt [⟨tg, iter, ifs, 0⟩] scope pos) δ ω P := fun B F H as σ w ev Q o =>
  ⟨_, pe_lc hc hN pi_w ok (fun s H0 C cl fp => ⟨fun pins s1 σ1 H1 v u Q1 I r hw => by obtain ⟨_, p, q⟩ := hw s H0 C cl fp; exact p.run pins s1 σ1 H1 v u Q1 I r q⟩)
    (fun s H0 C cl fp => ⟨fun pins s1 σ1 H1 Q1 I hw => by obtain ⟨_, p, q⟩ := hw s H0 C cl fp; exact p.run pins s1 σ1 H1 Q1 I q⟩)
    (fun s H0 C cl fp => ⟨fun pins s1 σ1 H1 Q1 I hw => by obtain ⟨_, p, q⟩ := hw s H0 C cl fp; exact p.run pins s1 σ1 H1 Q1 I q⟩) hs, lc_readG h w ev Q o⟩
theorem d1_asgLcG {k : Kd} {i : Nat} {y : Str} {py spos : Pos} (hc : X.calm = true) (hN : X.N.Nodup) (hy : X.N[i]? = some y) (hyl : X.env.scope.names.lookup y = some .local) (hsw : swapsWith (.ListComp elt [⟨tg, iter, ifs, 0⟩] scope pos) (some (.Name y py)) spos.line X.env = pure true) (ok : BlkOk X.N X.env.scope scope own)
    (h : DIG X tg iter δ ω fun G its ω1 => its.length ≤ 100000 ∧ ∃ Iv : Nat → List D → List Cell → Prop, (∀ i acc ω', Iv i acc ω' → G ω') ∧ Iv 0 [] ω1 ∧ LcTurn X scope (own.map (·.2)) tg ifs elt δ its Iv ∧ ∀ acc ω', acc.length ≤ its.length → Iv its.length acc ω' → k.nx (δ.set i (.val (.list acc))) ω' ∨ k.nx (δ.set i (.own ω'.length)) (ω' ++ [.lst acc]))
    (hs : ∀ x, foldedSetIterable iter X.env x = pure x := by intro _; rfl) : D1 X (.Assign [.Name y py] (.ListComp elt [⟨tg, iter, ifs, 0⟩] scope pos) spos) δ ω k := fun B F H as σ w ev E o =>
  ⟨_, ps_setLc hc hN hy hyl hsw pi_w ok (fun s H0 C cl fp => ⟨fun pins s1 σ1 H1 v u Q1 I r hw => by obtain ⟨_, p, q⟩ := hw s H0 C cl fp; exact p.run pins s1 σ1 H1 v u Q1 I r q⟩)
    (fun s H0 C cl fp => ⟨fun pins s1 σ1 H1 Q1 I hw => by obtain ⟨_, p, q⟩ := hw s H0 C cl fp; exact p.run pins s1 σ1 H1 Q1 I q⟩)
    (fun s H0 C cl fp => ⟨fun pins s1 σ1 H1 Q1 I hw => by obtain ⟨_, p, q⟩ := hw s H0 C cl fp; exact p.run pins s1 σ1 H1 Q1 I q⟩) hs,
    lc_readG (P := fun r ω1 => k.nx (δ.set i r) ω1) h w ev _ fun v B1 H1 as1 r ω1 e1 p1 w1 s1 hp => (o.nx.up e1 p1).here w1 (envOk_set s1 i (envOk_up e1 p1 ev)) hp⟩

/-! ### promises at the level of data -/
end
section
variable {X : Cx} {e a b c tg iter elt : Expr} {body : List Stmt} {es ifs : List Expr} {δ : List Sl} {ω : List Cell} {k : Kd} {pos : Pos}
theorem d1_forG (hp : PassesOwn (model X.prog X.w) X.A X.env X.xe) (hc : X.calm = true)
    (h : DIG X tg iter δ ω fun G its ω1 => ∃ Iv : Nat → List Sl → List Cell → Prop, (∀ i δ' ω', Iv i δ' ω' → G ω') ∧ Iv 0 δ ω1 ∧
      (∀ i d δ' ω', its[i]? = some d → Iv i δ' ω' → DG X (List.range δ'.length) tg d δ' fun δ2 => DS X body δ2 ω' { nx := Iv (i + 1), ct := Iv (i + 1), bk := k.nx, rt := k.rt }) ∧ ∀ δ' ω', Iv its.length δ' ω' → k.nx δ' ω')
    (hs : ∀ x, foldedSetIterable iter X.env x = pure x := by intro _; rfl) : D1 X (.For tg iter body [] pos) δ ω k := fun B F H as σ w ev E o => by
  refine ⟨_, ps_for hp hc pi_w pg_w pss_w hs, ?_⟩
  refine h B F H as σ w ev _ fun J G its B1 H1 as1 ω1 e1 p1 w1 hit ⟨Iv, hG, h0, ht, hd⟩ => ?_
  refine ⟨fun i m σ' H' => m = its.length - i ∧ i ≤ its.length ∧ ∃ B' as' δ' ω', Same B1 B' ∧ as1 <+: as' ∧ Wd X.K B' F H' as' ω' ∧ EnvOk X.K B' as' σ' δ' ∧ Iv i δ' ω',
    ⟨its.length, by omega, Nat.zero_le _, B1, as1, δ, ω1, Same.refl _, List.prefix_refl _, w1, envOk_up e1 p1 ev, h0⟩, fun i m σ' H' hW => ?_⟩
  obtain ⟨rfl, hi, B', as', δ', ω', e2, p2, w2, ev2, hI⟩ := hW
  by_cases hlt : i < its.length
  · obtain ⟨hgo, hy⟩ := (hit B' F H' as' ω' e2 p2 w2 (hG _ _ _ hI)).1 i its[i] (List.getElem?_eq_getElem hlt)
    refine .inr ⟨hgo, fun σ3 H3 => ∃ B' as' δ' ω', Same B1 B' ∧ as1 <+: as' ∧ Wd X.K B' F H3 as' ω' ∧ EnvOk X.K B' as' σ3 δ' ∧ Iv (i + 1) δ' ω', fun σ3 H3 q => ⟨its.length - (i + 1), by omega, rfl, hlt, q⟩, fun x H3 q => ?_⟩
    obtain ⟨B2, e3, w3, d3⟩ := hy x H3 q
    refine ht i its[i] δ' ω' (List.getElem?_eq_getElem hlt) hI B2 H3 as' σ' x w3.b (envOk_up e3 (List.prefix_refl _) ev2) d3 _ fun σ4 δ4 ev4 _ _ hb => ?_
    refine hb B2 F H3 as' σ4 w3 ev4 _ ⟨fun σ5 H5 B5 as5 δ5 ω5 e5 p5 w5 ev5 q5 => ?_, ?_, fun σ5 H5 B5 as5 δ5 ω5 e5 p5 w5 ev5 q5 => ?_, ?_⟩
    · exact ⟨B5, as5, δ5, ω5, (e2.trans e3).trans e5, p2.trans p5, w5, ev5, q5⟩
    · exact o.nx.up (((e1.trans e2).trans e3)) (p1.trans p2)
    · exact ⟨B5, as5, δ5, ω5, (e2.trans e3).trans e5, p2.trans p5, w5, ev5, q5⟩
    · exact o.rt.up (((e1.trans e2).trans e3)) (p1.trans p2)
  · have ei : i = its.length := by omega
    subst ei
    exact .inl ⟨(hit B' F H' as' ω' e2 p2 w2 (hG _ _ _ hI)).2, (o.nx.up (e1.trans e2) (p1.trans p2)).here w2 ev2 (hd δ' ω' hI)⟩

/-- for x in xs, xs an owned list that stays -/
theorem dig_own {P : (List Cell → Prop) → List D → List Cell → Prop} (h : DE X e δ ω fun r ω1 => ∃ kx ds, r = .own kx ∧ ω1[kx]? = some (.lst ds) ∧ P (fun ω' => ω'[kx]? = some (.lst ds)) ds ω1) : DIG X tg e δ ω P := fun B F H as σ w ev R o => by
  refine ⟨_, pi_list pe_w, ?_⟩
  refine h B F H as σ w ev _ fun v B1 H1 as1 r ω1 e1 p1 w1 s1 ⟨kx, ds, er, hk, hp⟩ => ?_
  subst er
  obtain ⟨a, xs, rfl, ha, h1, h2⟩ := slo_lst w1 s1 hk
  refine ⟨a, rfl, ⟨xs, SqL.of h1⟩, o _ _ ds B1 H1 as1 ω1 e1 p1 w1 (fun B' F H as ω sb pp w' hG => ?_) hp⟩
  obtain ⟨hb, ys, h3, h4⟩ := w'.cellL (pre_get pp ha) hG
  refine ⟨fun i d hd => ?_, ⟨ys, SqL.of h3, ?_⟩⟩
  · obtain ⟨x, e2, d2⟩ := dpAll_at h4 hd
    refine ⟨⟨ys, x, SqL.of h3, e2⟩, fun y H' q => ?_⟩
    obtain ⟨rfl, q⟩ := q
    have := q ys (SqL.of h3)
    rw [e2] at this
    cases this
    exact ⟨B', Same.refl _, w', d2⟩
  · rw [dpAll_len h4]
    exact Nat.le_refl _
theorem dig_en {p pos tp : Pos} {es : List Expr} {kk : Nat} {P : (List Cell → Prop) → List D → List Cell → Prop} (hg : Gl X "enumerate") (hm : X.mg "enumerate" = none) (h : DE X e δ ω fun r ω1 => ∃ kx ds, r = .own kx ∧ ω1[kx]? = some (.lst ds) ∧ P (fun ω' => ω'[kx]? = some (.lst ds)) (enD ds) ω1)
    (hs : starEach [e] X.env = [(false, eval e X.env)] := by rfl) : DIG X (.Tuple es kk tp) (.Call (.Name "enumerate" p) [e] [] pos) δ ω P := fun B F H as σ w ev R o => by
  refine ⟨_, pi_enum hg hm (pa_cons pe_w pa_nil hs) hs, ?_⟩
  refine h B F H as σ w ev _ fun v B1 H1 as1 r ω1 e1 p1 w1 s1 ⟨kx, ds, er, hk, hp⟩ => ?_
  subst er
  obtain ⟨a, xs, rfl, ha, h1, h2⟩ := slo_lst w1 s1 hk
  refine ⟨a, xs, rfl, SqL.of h1, o _ _ (enD ds) B1 H1 as1 ω1 e1 p1 w1 (fun B' F H as ω sb pp w' hG => ?_) hp⟩
  obtain ⟨hb, ys, h3, h4⟩ := w'.cellL (pre_get pp ha) hG
  refine ⟨fun i d hd => ?_, ⟨ys, SqL.of h3, ?_⟩⟩
  · obtain ⟨g, hg2, rfl⟩ := enD_at hd
    obtain ⟨x, e2, d2⟩ := dpAll_at h4 hg2
    refine ⟨⟨ys, x, SqL.of h3, e2⟩, fun y H' q => ?_⟩
    obtain ⟨T, z, rfl, hT, rfl, q⟩ := q
    have := q ys (SqL.of h3)
    rw [e2] at this
    cases this
    obtain ⟨w2, s2⟩ := w'.new (o := .tup [.int (i : Nat), x]) hT
    exact ⟨_, s2, w2, .tup (.inl (.inl upd_same)) (.cons (.int _) (.cons (dp_up s2 d2) .nil))⟩
  · rw [enD_len, dpAll_len h4]
    exact Nat.le_refl _
end
end
section
/-! zip of two sequences, lists or tuples each -/
/-- b: a list; else a tuple -/
def SqK (b : Bool) (K : Fg) (H : Hp) (a : Addr) (xs : List V) : Prop := match b with
  | true => SqL K H a xs
  | false => SqT K H a xs
def ItA (b : Bool) (h : Heap) (it l : Addr) (i : Nat) : Prop := match b with
  | true => h.IsListIter it l i
  | false => h.IsTupleIter it l i
def HsA (b : Bool) (h : Heap) (l : Addr) (xs : Array Value) : Prop := match b with
  | true => h.IsList l xs
  | false => h.IsTuple l xs
def obA (b : Bool) (l : Addr) : Obj := match b with
  | true => { cls := .type "list_iterator", data := .fields #[.ref l, .int 0 0] }
  | false => { cls := .type "tuple_iterator", data := .fields #[.ref l, .int 0 0] }
theorem drawsA {prog : Program} {w : World} {A : Around} (b : Bool) (hh : A.handled = none) (it l : Addr) (hne : l ≠ it) (items : Array Value) : Draws prog w A it [it, l] items.size (fun i v => items[i]? = some v) (fun i h => ItA b h it l i ∧ HsA b h l items) := by
  cases b
  · exact Draws.tuple hh it l hne items
  · exact Draws.list hh it l hne items
theorem beginsA (b : Bool) (l : Addr) (items : Array Value) : Begins (.ref l) (obA b l) fun h => HsA b h l items := by
  cases b
  · exact begins_tuple l items
  · exact begins_list l items
theorem itA_new {b : Bool} {h : Heap} {it l : Addr} (e : h.get? it = some (obA b l)) : ItA b h it l 0 := by
  cases b
  · exact ⟨_, e, rfl, rfl⟩
  · exact ⟨_, e, rfl, rfl⟩
theorem itA_ob {b : Bool} {h : Heap} {it l : Addr} {i : Nat} (e : ItA b h it l i) : ∃ o, h.get? it = some o ∧ ∀ v, o.data ≠ .cell v := by
  cases b
  · obtain ⟨o, ho, _, hd⟩ := e
    exact ⟨o, ho, fun v q => by rw [hd] at q; cases q⟩
  · obtain ⟨o, ho, _, hd⟩ := e
    exact ⟨o, ho, fun v q => by rw [hd] at q; cases q⟩
theorem itA_at {b : Bool} {h h' : Heap} {it l : Addr} {i : Nat} (e : ItA b h it l i) (k : ∀ o, h.get? it = some o → h'.get? it = some o) : ItA b h' it l i := by
  cases b
  · exact Heap.IsTupleIter.at e k
  · exact Heap.IsListIter.at e k
section
variable {X : Cx} {pins : List (Addr × Obj)} {σ : L2.St} {H : Hp} {s : Shared}
theorem seqA {b : Bool} {a : Addr} {xs : List V} (I : Inv X pins σ H s) (h : SqK b X.K H a xs) : ∃ its : List Value, Vals xs its ∧ HsA b s.heap a its.toArray ∧ a < s.heap.objs.size := by
  cases b
  · obtain ⟨its, rv, p, _⟩ := I.tuple h
    obtain ⟨o, ho, _⟩ := id p
    exact ⟨its, rv, p, Heap.lt_size ho⟩
  · obtain ⟨its, rv, p, _⟩ := I.list h
    exact ⟨its, rv, p.isList, p.lt⟩
theorem seqA_inj {b : Bool} {a : Addr} {xs ys : List V} (I : Inv X pins σ H s) (h : SqK b X.K H a xs) (h' : SqK b X.K H a ys) : xs = ys := by
  cases b
  · exact I.tuple_inj h h'
  · exact I.list_inj h h'
end
/-- the sequences at a and b as they stand at each turn, their items in new pairs -/
def ItzX (b1 b2 : Bool) (K : Fg) (a b : Addr) : It :=
  ⟨fun i H => ∃ (xs ys : List V) (x y : V), SqK b1 K H a xs ∧ SqK b2 K H b ys ∧ xs[i]? = some x ∧ ys[i]? = some y,
    fun i H v H' => ∃ (p : Addr) (x y : V), v = .ref p ∧ H p = none ∧ H' = upd H p (.tup [x, y]) ∧ (∀ xs, SqK b1 K H a xs → xs[i]? = some x) ∧ ∀ ys, SqK b2 K H b ys → ys[i]? = some y,
    fun i H => ∃ xs ys : List V, SqK b1 K H a xs ∧ SqK b2 K H b ys ∧ i ≤ xs.length ∧ i ≤ ys.length ∧ (i = xs.length ∨ i = ys.length)⟩
theorem five {z T O i j c : Addr} (h : c ∈ [z, T, O, i, j]) : c = z ∨ c = T ∨ c = O ∨ c = i ∨ c = j := by simpa using h
theorem turn_zipX {P : Program} {w : World} {K : Fg} {es : List Expr} {kk : Nat} {tp : Pos} {b1 b2 : Bool} {a b z T O i1 i2 : Addr} (S : ZipSep2 z T O i1 i2 [i1, a] [i2, b]) (n1 : a ≠ i1) (n2 : b ≠ i2) :
    Turn P w K (.Tuple es kk tp) (ItzX b1 b2 K a b) [z, T, O, i1, i2] z (fun i h => IsZip h z T O .none ∧ IsTupOf2 h T (.ref i1) (.ref i2) ∧ (∃ x y, IsTupOf2 h O x y) ∧ ItA b1 h i1 a i ∧ ItA b2 h i2 b i) := by
  refine ⟨by simp, fun i h st c hc => ?_, fun i h h' st k => ?_, ?_, ?_, fun A i s Q E st h => wpAny_pyIter_zip st.1 h⟩
  · obtain ⟨hz, hT, ⟨x, y, hO⟩, d1, d2⟩ := st
    rcases five hc with q | q | q | q | q <;> subst q
    · exact ⟨_, hz, fun v q => by cases q⟩
    · exact ⟨_, hT, fun v q => by cases q⟩
    · exact ⟨_, hO, fun v q => by cases q⟩
    · exact itA_ob d1
    · exact itA_ob d2
  · obtain ⟨hz, hT, ⟨x, y, hO⟩, d1, d2⟩ := st
    exact ⟨k z (by simp) _ hz, k T (by simp) _ hT, ⟨x, y, k O (by simp) _ hO⟩, itA_at d1 fun o q => k i1 (by simp) o q, itA_at d2 fun o q => k i2 (by simp) o q⟩
  · intro X hP hw hK hc i pins s σ H E I hf st hg
    subst hP hw hK
    obtain ⟨hz, hT, ⟨x0, y0, hO⟩, d1, d2⟩ := st
    obtain ⟨xs, ys, x, y, hqx, hqy, hx, hy⟩ := hg
    obtain ⟨its, rv, p, _⟩ := seqA I hqx
    obtain ⟨jts, rw', q, _⟩ := seqA I hqy
    obtain ⟨u, hu, ru⟩ := rv.get hx
    obtain ⟨v, hv, rv'⟩ := rw'.get hy
    have hzl : z < s.heap.objs.size := Heap.lt_size hz
    have D1 := drawsA (prog := X.prog) (w := X.w) (A := X.A.in1) b1 (I.ok.hd hc) i1 a n1 its.toArray
    have D2 := drawsA (prog := X.prog) (w := X.w) (A := X.A.in1) b2 (I.ok.hd hc) i2 b n2 jts.toArray
    have l1 : i < its.toArray.size := by rw [List.size_toArray]; exact (List.getElem?_eq_some_iff.mp hu).1
    have l2 : i < jts.toArray.size := by rw [List.size_toArray]; exact (List.getElem?_eq_some_iff.mp hv).1
    refine wpAny_pyNext_zipD2_item S D1 D2 hz hT hO ⟨d1, p⟩ ⟨d2, q⟩ l1 l2 fun x1 x2 h' tk e1 e2 z' O' s1 s2 hN hsz hk => ?_
    have ex : x1 = u := by
      rw [List.getElem?_toArray, hu] at e1
      exact (Option.some.inj e1).symm
    have ey : x2 = v := by
      rw [List.getElem?_toArray, hv] at e2
      exact (Option.some.inj e2).symm
    subst ex ey
    refine ⟨_, rfl, wpAny_letOwnedTupleGo_zip (s := { s with heap := h', toks := tk }) z' fun h2 z2 sb => ?_⟩
    have hN2 := (sb.2 _ (Nat.ne_of_gt hzl)).trans hN
    have new : ObjOk X.prog X.w (upd H s.heap.objs.size (.tup [x, y])) h2 s.heap.objs.size (.tup [x, y]) := ⟨by show 2 ≤ sizeLine; decide, [x1, x2], .cons ru (.cons rv' .nil), ⟨_, hN2, rfl, _, rfl⟩⟩
    have I1 : Inv X pins σ (upd H s.heap.objs.size (.tup [x, y])) { s with heap := h2, toks := tk } :=
      I.turnedNew (ch := [z, T, O, i1, i2]) (fun c ob hb e => (sb.2 c fun y => hb (by rw [y]; simp)).trans (hk c ob (fun y => hb (by rw [y]; simp)) (fun y => hb (by rw [y]; simp)) (fun y => hb (by rw [y]; simp)) (fun y => hb (by rw [y]; simp)) e)) hf (Nat.le_refl _) new
    refine ⟨.ref s.heap.objs.size, _, I1, rfl, ⟨_, x, y, rfl, I.hok.fresh (Nat.le_refl _), rfl, fun l hl => by rw [seqA_inj I hl hqx]; exact hx, fun l hl => by rw [seqA_inj I hl hqy]; exact hy⟩, ⟨z2, ?_, ⟨x1, x2, ?_⟩, ?_, ?_⟩, fun c hcm => ?_⟩
    · exact (sb.2 _ S.TIz).trans (hk _ _ S.TIz S.TITO S.TIi1 S.TIi2 hT)
    · exact (sb.2 _ S.TOz).trans O'
    · exact itA_at s1.1 fun o e => (sb.2 _ S.zi1.symm).trans e
    · exact itA_at s2.1 fun o e => (sb.2 _ S.zi2.symm).trans e
    · have hlt : c < s.heap.objs.size := by
        rcases five hcm with e | e | e | e | e <;> subst e
        · exact hzl
        · exact Heap.lt_size hT
        · exact Heap.lt_size hO
        · obtain ⟨o, e1, _⟩ := itA_ob d1
          exact Heap.lt_size e1
        · obtain ⟨o, e1, _⟩ := itA_ob d2
          exact Heap.lt_size e1
      rw [upd_ne (Nat.ne_of_lt hlt)]
      exact (hf c hcm).1
  · intro X hP hw hK hc i pins s σ H E I hf st hg
    subst hP hw hK
    obtain ⟨hz, hT, ⟨x0, y0, hO⟩, d1, d2⟩ := st
    obtain ⟨xs, ys, hqx, hqy, le1, le2, hend⟩ := hg
    obtain ⟨its, rv, p, _⟩ := seqA I hqx
    obtain ⟨jts, rw', q, _⟩ := seqA I hqy
    have D1 := drawsA (prog := X.prog) (w := X.w) (A := X.A.in1) b1 (I.ok.hd hc) i1 a n1 its.toArray
    have D2 := drawsA (prog := X.prog) (w := X.w) (A := X.A.in1) b2 (I.ok.hd hc) i2 b n2 jts.toArray
    have g1 := rv.length
    have g2 := rw'.length
    refine wpAny_pyNext_zipD2_end S D1 D2 hz hT hO ⟨d1, p⟩ ⟨d2, q⟩ (by rw [List.size_toArray, ← g1]; exact le1) (by rw [List.size_toArray, ← g2]; exact le2) (by rw [List.size_toArray, List.size_toArray, ← g1, ← g2]; exact hend) fun h' tk hk => ?_
    exact ⟨rfl, I.turnedL (t' := tk) (ch := [z, T, O, i1, i2]) (fun c ob hb e => hk c ob (fun y => hb (by rw [y]; simp)) (fun y => hb (by rw [y]; simp)) (fun y => hb (by rw [y]; simp)) (fun y => hb (by rw [y]; simp)) e) hf⟩
theorem sep5 (N a b : Nat) (ha : a < N) (hb : b < N) : ZipSep2 (N + 4) (N + 2) (N + 3) N (N + 1) [N, a] [N + 1, b] := by
  have m2 : ∀ {x y c : Nat}, c ≠ x → c ≠ y → c ∉ [x, y] := fun h1 h2 h => by
    simp only [List.mem_cons, List.not_mem_nil, or_false] at h
    exact h.elim h1 h2
  exact ⟨Nat.ne_of_lt (by omega), Nat.ne_of_lt (by omega), Nat.ne_of_lt (by omega), Nat.ne_of_gt (by omega), List.mem_cons_self, m2 (by omega) (by omega), m2 (by omega) (by omega), Nat.ne_of_gt (by omega), List.mem_cons_self, m2 (by omega) (by omega), m2 (by omega) (by omega), m2 (by omega) (by omega), m2 (by omega) (by omega)⟩
def iZipX (K : Fg) (ta : TA) : TI := fun σ H R => ta σ H fun vs H1 => ∃ b1 b2 a b xs ys, vs = [.ref a, .ref b] ∧ SqK b1 K H1 a xs ∧ SqK b2 K H1 b ys ∧ R (ItzX b1 b2 K a b) H1
theorem pi_zipX {X : Cx} {e e2 : Expr} {ta : TA} {p pos tp : Pos} {es : List Expr} {kk : Nat} (hg : Gl X "zip") (hm : X.mg "zip" = none) (ha : PA X [e, e2] ta)
    (hs : starEach [e, e2] X.env = (false, eval e X.env) :: starEach [e2] X.env := by rfl) (hpl : (backTo pos (starEach [e2] X.env)).any (·.1) = false := by rfl) : PI X (.Tuple es kk tp) (.Call (.Name "zip" p) [e, e2] [] pos) (iZipX X.K ta) := by
  refine ⟨fun pins s σ H R I h => ?_⟩
  refine Call_ (ld_blt I hg hm PyProof.Rows.boot_zip (PyProof.Rows.callWith_type1 (thn (ha.run pos pins s σ H _ I h) fun us s1 ⟨vs, H1, I1, r1, b1, b2, a, b, xs, ys, ex, hqx, hqy, q⟩ => ?_) hs hpl))
  subst ex
  cases r1 with
  | cons r r2 =>
    cases r2 with
    | cons r' r3 =>
      cases r3
      cases r
      cases r'
      obtain ⟨its, rv, p1, la⟩ := seqA I1 hqx
      obtain ⟨jts, rw', p2, lb⟩ := seqA I1 hqy
      refine zip_begins2 (beginsA b1 a its.toArray) (beginsA b2 b jts.toArray) p1 p2 fun h' hz hT hO h1 h2 hsz hk => wpAny_pyIter_zip hz ?_
      have I2 : Inv X pins σ H1 { s1 with heap := h' } := I1.kept (t' := s1.toks) hk
      have sep := sep5 s1.heap.objs.size a b la lb
      refine ⟨s1.heap.objs.size + 4, [s1.heap.objs.size + 4, s1.heap.objs.size + 2, s1.heap.objs.size + 3, s1.heap.objs.size, s1.heap.objs.size + 1], _, _, H1, rfl, I2, turn_zipX sep (Nat.ne_of_lt la) (Nat.ne_of_lt (Nat.lt_succ_of_lt lb)), ⟨hz, hT, ⟨_, _, hO⟩, itA_new h1, itA_new h2⟩, fun c hcm => ?_, q⟩
      have hle : s1.heap.objs.size ≤ c := by
        rcases five hcm with y | y | y | y | y <;> subst y
        · exact Nat.le_add_right _ _
        · exact Nat.le_add_right _ _
        · exact Nat.le_add_right _ _
        · exact Nat.le_refl _
        · exact Nat.le_add_right _ _
      exact I1.fpOk hle (I1.hok.fresh hle)
end
section
/-! containers of things that are known for good -/
def tupK (rs : List Sl) : Fg → Hp → V → Prop := fun K B v => ∃ a xs, v = .ref a ∧ SqT K B a xs ∧ RsOk K B [] xs rs
def lstK (rs : List Sl) : Fg → Hp → V → Prop := fun K B v => ∃ a xs, v = .ref a ∧ B a = some (.lst xs) ∧ RsOk K B [] xs rs
/-- an owned list of such -/
def lsC (rs : List Sl) : Cell := .gn fun K B o _ => ∃ xs, o = .lst xs ∧ RsOk K B [] xs rs
theorem slk_tup {K : Fg} {B : Hp} {as : List Addr} {v : V} {rs : List Sl} (s : SlOk K B as (some v) (.kn (tupK rs))) : ∃ a xs, v = .ref a ∧ SqT K B a xs ∧ RsOk K B as xs rs := by
  obtain ⟨v', B0, e, sb, a, xs, h1, h2, h3⟩ := s
  cases e
  exact ⟨a, xs, h1, sqT_up sb h2, rsOk_up sb (List.nil_prefix) h3⟩
theorem slk_lst {K : Fg} {B : Hp} {as : List Addr} {v : V} {rs : List Sl} (s : SlOk K B as (some v) (.kn (lstK rs))) : ∃ a xs, v = .ref a ∧ B a = some (.lst xs) ∧ RsOk K B as xs rs := by
  obtain ⟨v', B0, e, sb, a, xs, h1, h2, h3⟩ := s
  cases e
  exact ⟨a, xs, h1, sb _ _ h2, rsOk_up sb (List.nil_prefix) h3⟩
theorem slo_lsC {K : Fg} {B F H : Hp} {as : List Addr} {ω : List Cell} {v : V} {k : Nat} {rs : List Sl} (w : Wd K B F H as ω) (s : SlOk K B as (some v) (.own k)) (hc : ω[k]? = some (lsC rs)) : ∃ a xs, v = .ref a ∧ as[k]? = some a ∧ B a = none ∧ H a = some (.lst xs) ∧ RsOk K B as xs rs := by
  obtain ⟨a, h1, h2⟩ := sl_own s
  obtain ⟨hb, B0, o, sb, h3, xs, rfl, h4⟩ := (w.at' k a _ h2 hc).2.2
  exact ⟨a, xs, h1, h2, hb, h3, rsOk_up sb (List.nil_prefix) h4⟩
theorem rs_get {K : Fg} {B : Hp} {as : List Addr} : ∀ {vs : List V} {rs : List Sl} {i : Nat} {r : Sl}, RsOk K B as vs rs → rs[i]? = some r → ∃ v, vs[i]? = some v ∧ SlOk K B as (some v) r
  | _, _, i, r, .nil, e => by simp at e
  | _, _, 0, r, .cons h q, e => by
    simp at e
    subst e
    exact ⟨_, rfl, h⟩
  | _, _, i + 1, r, .cons h q, e => by
    simp at e
    obtain ⟨v, e1, e2⟩ := rs_get q e
    exact ⟨v, by simpa using e1, e2⟩
theorem rs_app {K : Fg} {B : Hp} {as : List Addr} : ∀ {vs ws : List V} {rs ss : List Sl}, RsOk K B as vs rs → RsOk K B as ws ss → RsOk K B as (vs ++ ws) (rs ++ ss)
  | _, _, _, _, .nil, q => q
  | _, _, _, _, .cons h r, q => .cons h (rs_app r q)
theorem rs_unval {K : Fg} {B : Hp} {as : List Addr} {vs : List V} {ds : List D} (h : RsOk K B as vs (ds.map Sl.val)) : DpAll K B vs ds := rsOk_vals h
theorem free_val (ds : List D) : (ds.map Sl.val).all Sl.free = true := by
  rw [List.all_eq_true]
  intro x hx
  obtain ⟨d, _, rfl⟩ := List.mem_map.mp hx
  rfl
theorem rs_nil {K : Fg} {B : Hp} {as : List Addr} {vs : List V} {rs : List Sl} (hf : rs.all Sl.free = true) (h : RsOk K B as vs rs) : RsOk K B [] vs rs := rs_free hf h
/-- sequences, by their items -/
inductive SeqS (ω : List Cell) : Sl → List Sl → Prop
  | tup (ds) : SeqS ω (.val (.tuple ds)) (ds.map Sl.val)
  | lst (ds) : SeqS ω (.val (.list ds)) (ds.map Sl.val)
  | own {k ds} : ω[k]? = some (.lst ds) → SeqS ω (.own k) (ds.map Sl.val)
  | tupK (rs) : SeqS ω (.kn (tupK rs)) rs
  | lstK (rs) : SeqS ω (.kn (lstK rs)) rs
  | lsC {k rs} : ω[k]? = some (lsC rs) → SeqS ω (.own k) rs
theorem SeqS.get {K : Fg} {B F H : Hp} {as : List Addr} {ω : List Cell} {v : V} {r : Sl} {rs : List Sl} (w : Wd K B F H as ω) (q : SeqS ω r rs) (s : SlOk K B as (some v) r) : ∃ b a xs, v = .ref a ∧ SqK b K H a xs ∧ RsOk K B as xs rs := by
  cases q with
  | tup =>
    obtain ⟨a, xs, h1, h2, h3⟩ := slv_tup s w.b
    exact ⟨false, a, xs, h1, h2, rs_of h3⟩
  | lst =>
    obtain ⟨a, xs, h1, h2, h3⟩ := slv_lst s w.b
    exact ⟨true, a, xs, h1, h2, rs_of h3⟩
  | own hc =>
    obtain ⟨a, xs, h1, _, h2, h3⟩ := slo_lst w s hc
    exact ⟨true, a, xs, h1, SqL.of h2, rs_of h3⟩
  | tupK =>
    obtain ⟨a, xs, h1, h2, h3⟩ := slk_tup s
    exact ⟨false, a, xs, h1, sqT_up w.b h2, h3⟩
  | lstK =>
    obtain ⟨a, xs, h1, h2, h3⟩ := slk_lst s
    exact ⟨true, a, xs, h1, SqL.of (w.b _ _ h2), h3⟩
  | lsC hc =>
    obtain ⟨a, xs, h1, _, _, h2, h3⟩ := slo_lsC w s hc
    exact ⟨true, a, xs, h1, SqL.of h2, h3⟩
/-- .. that stay for good -/
inductive SeqF : Sl → List Sl → Prop
  | tup (ds) : SeqF (.val (.tuple ds)) (ds.map Sl.val)
  | lst (ds) : SeqF (.val (.list ds)) (ds.map Sl.val)
  | tupK (rs) : SeqF (.kn (tupK rs)) rs
  | lstK (rs) : SeqF (.kn (lstK rs)) rs
theorem SeqF.get {K : Fg} {B : Hp} {as : List Addr} {v : V} {r : Sl} {rs : List Sl} (q : SeqF r rs) (s : SlOk K B as (some v) r) : ∃ b a xs, v = .ref a ∧ SqK b K B a xs ∧ RsOk K B as xs rs := by
  cases q with
  | tup =>
    obtain ⟨a, xs, h1, h2, h3⟩ := slv_tup s (Same.refl _)
    exact ⟨false, a, xs, h1, h2, rs_of h3⟩
  | lst =>
    obtain ⟨a, xs, h1, h2, h3⟩ := slv_lst s (Same.refl _)
    exact ⟨true, a, xs, h1, h2, rs_of h3⟩
  | tupK =>
    obtain ⟨a, xs, h1, h2, h3⟩ := slk_tup s
    exact ⟨false, a, xs, h1, h2, h3⟩
  | lstK =>
    obtain ⟨a, xs, h1, h2, h3⟩ := slk_lst s
    exact ⟨true, a, xs, h1, SqL.of h2, h3⟩
theorem sqK_up {b : Bool} {K : Fg} {H H' : Hp} {a : Addr} {xs : List V} (e : Same H H') (h : SqK b K H a xs) : SqK b K H' a xs := by
  cases b
  · exact sqT_up e h
  · exact sqL_up e h
theorem sqK_or {b : Bool} {K : Fg} {H : Hp} {a : Addr} {xs : List V} (h : SqK b K H a xs) : SqL K H a xs ∨ SqT K H a xs := by
  cases b
  · exact .inr h
  · exact .inl h

section
variable {X : Cx} {e a b c tg iter elt : Expr} {es ifs : List Expr} {δ : List Sl} {ω : List Cell} {P : PO1} {pos : Pos} {scope : Scope} {own : List (Str × Nat)}
theorem Out.kn {K : Fg} {B F H : Hp} {as : List Addr} {Q : VK} (o : Out K B F as P Q) (w : Wd K B F H as ω) {p : Addr} {u : HO} {q : Fg → Hp → V → Prop} (hp' : H p = none) (hq : q K (upd B p u) (.ref p)) (hp : P (.kn q) ω) : Q (.ref p) (upd H p u) := by
  obtain ⟨w2, sb⟩ := w.new (o := u) hp'
  exact o _ _ _ as (.kn q) ω sb (List.prefix_refl _) w2 ⟨_, _, rfl, Same.refl _, hq⟩ hp
/-- displays -/
theorem de_tupS {x1 : Nat} (h : DA X es δ ω fun rs ω1 => rs.all Sl.free = true ∧ rs.length ≤ sizeLine ∧ P (.kn (tupK rs)) ω1) : DE X (.Tuple es x1 pos) δ ω P := fun B F H as σ w ev Q o =>
  ⟨_, pe_tup pa_w, h B F H as σ w ev _ fun vs B1 H1 as1 rs ω1 e1 p1 w1 s1 ⟨hf, hl, hp⟩ => by
    refine ⟨by rw [rs_len s1]; exact hl, fun p hp' => (o.up e1 p1).kn w1 hp' ?_ hp⟩
    exact ⟨p, vs, rfl, SqT.of upd_same, rsOk_up (w1.new (o := .tup vs) hp').2 (List.prefix_refl _) (rs_free hf s1)⟩⟩
theorem de_lstS (h : DA X es δ ω fun rs ω1 => rs.all Sl.free = true ∧ rs.length ≤ sizeLine ∧ P (.kn (lstK rs)) ω1) : DE X (.List es pos) δ ω P := fun B F H as σ w ev Q o =>
  ⟨_, pe_lst pa_w, h B F H as σ w ev _ fun vs B1 H1 as1 rs ω1 e1 p1 w1 s1 ⟨hf, hl, hp⟩ => by
    refine ⟨by rw [rs_len s1]; exact hl, fun p hp' => (o.up e1 p1).kn w1 hp' ?_ hp⟩
    exact ⟨p, vs, rfl, upd_same, rsOk_up (w1.new (o := .lst vs) hp').2 (List.prefix_refl _) (rs_free hf s1)⟩⟩
/-- items -/
theorem de_ixS (hs : PlainIx b) (h : DE X a δ ω fun x ω1 => DE X b δ ω1 fun y ω2 => ∃ rs i r, y = .val (.int i) ∧ SeqS ω2 x rs ∧ atI rs i = some r ∧ P r ω2) : DE X (.Subscript a b pos) δ ω P := fun B F H as σ w ev Q o => by
  refine ⟨_, pe_ix ix_seq pe_w pe_w hs, ?_⟩
  refine h B F H as σ w ev _ fun x B1 H1 as1 rx ω1 e1 p1 w1 s1 q1 => ?_
  refine q1 B1 F H1 as1 σ w1 (envOk_up e1 p1 ev) _ fun y B2 H2 as2 ry ω2 e2 p2 w2 s2 ⟨rs, i, r, ey, hq, hd, hp⟩ => ?_
  subst ey
  obtain ⟨b, a, xs, rfl, hs, hr⟩ := hq.get w2 (slOk_up e2 p2 s1)
  obtain rfl := dp_int_inv (sl_val s2)
  obtain ⟨j, g1, g2⟩ := atI_len (rs_len hr) hd
  obtain ⟨z, g3, g4⟩ := rs_get hr g2
  have g5 : atI xs i = some z := by
    unfold atI
    rw [g1]
    exact g3
  have hz := oo_sl (o.up (e1.trans e2) (p1.trans p2)) w2 g4 hp
  rcases sqK_or hs with h | h
  · exact .inl ⟨a, xs, i, z, rfl, rfl, h, g5, hz⟩
  · exact .inr (.inl ⟨a, xs, i, z, rfl, rfl, h, g5, hz⟩)
where oo_sl {K : Fg} {B F H : Hp} {as : List Addr} {Q : VK} {r : Sl} {ω : List Cell} {v : V} (o : Out K B F as P Q) (w : Wd K B F H as ω) (s : SlOk K B as (some v) r) (hp : P r ω) : Q v H := o v B H as r ω (Same.refl _) (List.prefix_refl _) w s hp
theorem ra_lenS {r : Sl} {rs : List Sl} (hq : SeqS ω r rs) (hp : P (.val (.int rs.length)) ω) : RA X (fun xs H Q => ∃ p ys, xs = [.ref p] ∧ (SqL X.K H p ys ∨ SqT X.K H p ys) ∧ Q (.int ys.length) H) [r] ω P := fun B F H as vs w s Q o => by
  obtain ⟨v, rfl, s1⟩ := rs1 s
  obtain ⟨b, a, xs, rfl, h, hds⟩ := hq.get w s1
  refine ⟨a, xs, rfl, sqK_or h, ?_⟩
  rw [rs_len hds]
  exact o.here w (.int _) hp
theorem ra_tupleS {r : Sl} {rs : List Sl} (hq : SeqS ω r rs) (hf : rs.all Sl.free = true) (hp : P (.kn (tupK rs)) ω) :
    RA X (fun xs H Q => ∃ p ys, xs = [.ref p] ∧ ((SqL X.K H p ys ∧ ∀ l, H l = none → Q (.ref l) (upd H l (.tup ys))) ∨ (SqT X.K H p ys ∧ Q (.ref p) H))) [r] ω P := fun B F H as vs w s Q o => by
  obtain ⟨v, rfl, s1⟩ := rs1 s
  have new : ∀ {a : Addr} {xs : List V}, SqL X.K H a xs → RsOk X.K B as xs rs → ∃ p ys, [V.ref a] = [.ref p] ∧ ((SqL X.K H p ys ∧ ∀ l, H l = none → Q (.ref l) (upd H l (.tup ys))) ∨ (SqT X.K H p ys ∧ Q (.ref p) H)) := fun {a xs} h2 h3 =>
    ⟨a, xs, rfl, .inl ⟨h2, fun l hl => o.kn w hl ⟨l, xs, rfl, SqT.of upd_same, rsOk_up (w.new (o := .tup xs) hl).2 (List.prefix_refl _) (rs_free hf h3)⟩ hp⟩⟩
  have old : ∀ {a : Addr} {xs : List V}, SqT X.K B a xs → RsOk X.K B as xs rs → ∃ p ys, [V.ref a] = [.ref p] ∧ ((SqL X.K H p ys ∧ ∀ l, H l = none → Q (.ref l) (upd H l (.tup ys))) ∨ (SqT X.K H p ys ∧ Q (.ref p) H)) := fun {a xs} h2 h3 =>
    ⟨a, xs, rfl, .inr ⟨sqT_up w.b h2, o (.ref a) B H as (.kn (tupK rs)) ω (Same.refl _) (List.prefix_refl _) w ⟨_, B, rfl, Same.refl _, a, xs, rfl, h2, rs_free hf h3⟩ hp⟩⟩
  cases hq with
  | tup =>
    obtain ⟨a, xs, rfl, h2, h3⟩ := slv_tup s1 (Same.refl _)
    exact old h2 (rs_of h3)
  | tupK =>
    obtain ⟨a, xs, rfl, h2, h3⟩ := slk_tup s1
    exact old h2 h3
  | lst =>
    obtain ⟨a, xs, rfl, h2, h3⟩ := slv_lst s1 w.b
    exact new h2 (rs_of h3)
  | own hc =>
    obtain ⟨a, xs, rfl, _, h2, h3⟩ := slo_lst w s1 hc
    exact new (SqL.of h2) (rs_of h3)
  | lstK =>
    obtain ⟨a, xs, rfl, h2, h3⟩ := slk_lst s1
    exact new (SqL.of (w.b _ _ h2)) h3
  | lsC hc =>
    obtain ⟨a, xs, rfl, _, _, h2, h3⟩ := slo_lsC w s1 hc
    exact new (SqL.of h2) h3
/-- lists that are tracked as they stand -/
inductive SeqM (ω : List Cell) : Sl → List Sl → Prop
  | own {k ds} : ω[k]? = some (.lst ds) → SeqM ω (.own k) (ds.map Sl.val)
  | lstK (rs) : SeqM ω (.kn (DL.lstK rs)) rs
  | lsC {k rs} : ω[k]? = some (DL.lsC rs) → SeqM ω (.own k) rs
theorem SeqM.get {K : Fg} {B F H : Hp} {as : List Addr} {ω : List Cell} {v : V} {r : Sl} {rs : List Sl} (w : Wd K B F H as ω) (q : SeqM ω r rs) (s : SlOk K B as (some v) r) : ∃ a xs, v = .ref a ∧ H a = some (.lst xs) ∧ RsOk K B as xs rs := by
  cases q with
  | own hc =>
    obtain ⟨a, xs, h1, _, h2, h3⟩ := slo_lst w s hc
    exact ⟨a, xs, h1, h2, rs_of h3⟩
  | lstK =>
    obtain ⟨a, xs, h1, h2, h3⟩ := slk_lst s
    exact ⟨a, xs, h1, w.b _ _ h2, h3⟩
  | lsC hc =>
    obtain ⟨a, xs, h1, _, _, h2, h3⟩ := slo_lsC w s hc
    exact ⟨a, xs, h1, h2, h3⟩
/-- lists of such put together -/
theorem rr_catLS {x y : Sl} {rs ss : List Sl} (h1 : SeqM ω x rs) (h2 : SeqM ω y ss) (f1 : rs.all Sl.free = true) (f2 : ss.all Sl.free = true) (hz : rs.length + ss.length ≤ 1000000) (hp : P (.kn (lstK (rs ++ ss))) ω) : RR X (rPlus X.K) x y ω P := fun B F H as v u w s1 s2 Q o => by
  obtain ⟨a, xs, rfl, g1, g2⟩ := h1.get w s1
  obtain ⟨b, ys, rfl, g3, g4⟩ := h2.get w s2
  exact .inr (.inr ⟨a, b, xs, ys, rfl, rfl, g1, g3, by rw [rs_len g2, rs_len g4]; exact Nat.le_trans hz (by decide), fun p hp' => o.kn w hp' ⟨p, xs ++ ys, rfl, upd_same, rsOk_up (w.new (o := .lst (xs ++ ys)) hp').2 (List.prefix_refl _) (rs_app (rs_free f1 g2) (rs_free f2 g4))⟩ hp⟩)
end
end
section
/-! walks of such containers -/
def ItOkS (K : Fg) (J : It) (B : Hp) (as0 : List Addr) (G : List Cell → Prop) (its : List Sl) : Prop :=
  ∀ B' F H as ω, Same B B' → as0 <+: as → Wd K B' F H as ω → G ω → (∀ i r, its[i]? = some r → J.go i H ∧ ∀ x H', J.yld i H x H' → ∃ B2, Same B' B2 ∧ Wd K B2 F H' as ω ∧ SlOk K B2 as (some x) r) ∧ J.stop its.length H
def DIS (X : Cx) (tg iter : Expr) (δ : List Sl) (ω : List Cell) (P : (List Cell → Prop) → List Sl → List Cell → Prop) : Prop :=
  ∀ B F H as σ, Wd X.K B F H as ω → EnvOk X.K B as σ δ → ∀ R : It → Hp → Prop,
    (∀ J G its B' H' as' ω', Same B B' → as <+: as' → Wd X.K B' F H' as' ω' → ItOkS X.K J B' as' G its → P G its ω' → R J H') → wI X tg iter σ H R
def DGS (X : Cx) (vs : List Nat) (tg : Expr) (r : Sl) (δ : List Sl) (k : List Sl → Prop) : Prop :=
  ∀ B H as σ v, Same B H → EnvOk X.K B as σ δ → SlOk X.K B as (some v) r → ∀ Q, (∀ σ' δ', EnvOk X.K B as σ' δ' → σ'.length = σ.length → (∀ i, i ∉ vs → σ'[i]? = σ[i]?) → k δ' → Q σ' H) → wG X tg v σ H Q
section
variable {X : Cx} {e a b c tg iter elt : Expr} {es ifs : List Expr} {δ : List Sl} {ω : List Cell} {P : PO1} {pos : Pos} {scope : Scope} {own : List (Str × Nat)}
theorem dgs_name {vs : List Nat} {i : Nat} {x : Str} {r : Sl} {k : List Sl → Prop} (hN : X.N.Nodup) (hi : X.N[i]? = some x) (hx : Loc X.env.scope x) (hv : i ∈ vs) (hk : k (δ.set i r))
    (hf : X.fn x = true ∨ X.env.scope.names.lookup x = some .local := by first | exact .inl rfl | exact .inr rfl | assumption) : DGS X vs (.Name x pos) r δ k := fun B H as σ v sb ev hd Q o =>
  ⟨_, pg_name hN hi hx hf, o _ _ (envOk_set hd i ev) (by rw [List.length_set]) (fun j hj => by rw [List.getElem?_set_ne (fun (z : i = j) => hj (z ▸ hv))]) hk⟩
theorem dgs_tup2 {vs : List Nat} {i j : Nat} {x y : Str} {r s : Sl} {p1 p2 : Pos} {kk : Nat} {k : List Sl → Prop} (hc : X.calm = true) (hN : X.N.Nodup) (hi : X.N[i]? = some x) (hj : X.N[j]? = some y) (hx : Loc X.env.scope x) (hy : Loc X.env.scope y) (hv : i ∈ vs) (hw : j ∈ vs)
    (hk : k ((δ.set i r).set j s))
    (hf : X.fn x = true ∨ X.env.scope.names.lookup x = some .local := by first | exact .inl rfl | exact .inr rfl | assumption) (hg : X.fn y = true ∨ X.env.scope.names.lookup y = some .local := by first | exact .inl rfl | exact .inr rfl | assumption)
    (hs1 : (assignEach [.Name x p1, .Name y p2] X.env).map (·.2) = assign (.Name x p1) X.env :: (assignEach [.Name y p2] X.env).map (·.2) := by rfl) (hs2 : (assignEach [.Name y p2] X.env).map (·.2) = assign (.Name y p2) X.env :: (assignEach [] X.env).map (·.2) := by rfl)
    (hn : (assignEach [.Name x p1, .Name y p2] X.env).length = 2 := by rfl) (hst : (assignEach [.Name x p1, .Name y p2] X.env).findIdx? (·.1) = none := by rfl) :
    DGS X vs (.Tuple [.Name x p1, .Name y p2] kk pos) (.kn (tupK [r, s])) δ k := fun B H as σ v sb ev hd Q o => by
  refine ⟨_, pg_tup hc (pgs_cons (pg_name hN hi hx hf) (pgs_cons (pg_name hN hj hy hg) pgs_nil hs2) hs1) hn hst, ?_⟩
  obtain ⟨a, xs, rfl, h1, h2⟩ := slk_tup hd
  cases h2 with
  | cons d1 q =>
    cases q with
    | cons d2 q =>
      cases q
      refine ⟨a, _, rfl, sqT_up sb h1, rfl, _, _, rfl, _, _, rfl, rfl, ?_⟩
      refine o _ _ (envOk_set d2 j (envOk_set d1 i ev)) (by rw [List.length_set, List.length_set]) (fun l hl => ?_) hk
      rw [List.getElem?_set_ne (fun (z : j = l) => hl (z ▸ hw)), List.getElem?_set_ne (fun (z : i = l) => hl (z ▸ hv))]
/-- data as slots -/
theorem dgs_val {vs : List Nat} {d : D} {k : List Sl → Prop} (h : DG X vs tg d δ k) : DGS X vs tg (.val d) δ k := fun B H as σ v sb ev hd Q o => h B H as σ v sb ev (sl_val hd) Q o
/-- sequences that stay for good -/
theorem itS_seq {K : Fg} {B : Hp} {as0 : List Addr} {b : Bool} {a : Addr} {xs : List V} {rs : List Sl} {J : It} (hJ : J = (match b with | true => Itl K a | false => Itt K a)) (h1 : SqK b K B a xs) (h2 : RsOk K B as0 xs rs) : ItOkS K J B as0 (fun _ => True) rs := by
  intro B' F H as ω sb pp w' _
  have h3 := sqK_up (sb.trans w'.b) h1
  have h4 := rsOk_up sb pp h2
  subst hJ
  cases b
  · refine ⟨fun i r hr => ?_, ⟨xs, h3, by rw [rs_len h4]; exact Nat.le_refl _⟩⟩
    obtain ⟨x, e2, d2⟩ := rs_get h4 hr
    refine ⟨⟨xs, x, h3, e2⟩, fun y H' q => ?_⟩
    obtain ⟨rfl, q⟩ := q
    have := q xs h3
    rw [e2] at this
    cases this
    exact ⟨B', Same.refl _, w', d2⟩
  · refine ⟨fun i r hr => ?_, ⟨xs, h3, by rw [rs_len h4]; exact Nat.le_refl _⟩⟩
    obtain ⟨x, e2, d2⟩ := rs_get h4 hr
    refine ⟨⟨xs, x, h3, e2⟩, fun y H' q => ?_⟩
    obtain ⟨rfl, q⟩ := q
    have := q xs h3
    rw [e2] at this
    cases this
    exact ⟨B', Same.refl _, w', d2⟩
theorem dis_lst {P : (List Cell → Prop) → List Sl → List Cell → Prop} (h : DE X e δ ω fun r ω1 => ∃ rs, r = .kn (lstK rs) ∧ P (fun _ => True) rs ω1) : DIS X tg e δ ω P := fun B F H as σ w ev R o => by
  refine ⟨_, pi_list pe_w, ?_⟩
  refine h B F H as σ w ev _ fun v B1 H1 as1 r ω1 e1 p1 w1 s1 ⟨rs, er, hp⟩ => ?_
  subst er
  obtain ⟨a, xs, rfl, h1, h2⟩ := slk_lst s1
  exact ⟨a, rfl, ⟨xs, SqL.of (w1.b _ _ h1)⟩, o _ _ rs B1 H1 as1 ω1 e1 p1 w1 (itS_seq (b := true) rfl (SqL.of h1) h2) hp⟩
theorem dis_tup {P : (List Cell → Prop) → List Sl → List Cell → Prop} (h : DE X e δ ω fun r ω1 => ∃ rs, r = .kn (tupK rs) ∧ P (fun _ => True) rs ω1) : DIS X tg e δ ω P := fun B F H as σ w ev R o => by
  refine ⟨_, pi_tup pe_w, ?_⟩
  refine h B F H as σ w ev _ fun v B1 H1 as1 r ω1 e1 p1 w1 s1 ⟨rs, er, hp⟩ => ?_
  subst er
  obtain ⟨a, xs, rfl, h1, h2⟩ := slk_tup s1
  exact ⟨a, rfl, ⟨xs, sqT_up w1.b h1⟩, o _ _ rs B1 H1 as1 ω1 e1 p1 w1 (itS_seq (b := false) rfl h1 h2) hp⟩
/-- a walk over data -/
theorem dis_of {P : (List Cell → Prop) → List Sl → List Cell → Prop} (h : DI X tg iter δ ω fun its ω1 => P (fun _ => True) (its.map Sl.val) ω1) : DIS X tg iter δ ω P := fun B F H as σ w ev R o =>
  h B F H as σ w ev R fun J its B1 H1 as1 ω1 e1 p1 w1 hit hp => o J _ _ B1 H1 as1 ω1 e1 p1 w1 (fun B' F' H' as' ω' sb pp w' _ => by
    obtain ⟨h1, h2⟩ := hit B' F' H' as' ω' sb w'
    refine ⟨fun i r hr => ?_, by rw [List.length_map]; exact h2⟩
    rw [List.getElem?_map] at hr
    cases hd : its[i]? with
    | none =>
      rw [hd] at hr
      cases hr
    | some d =>
      rw [hd] at hr
      cases hr
      obtain ⟨h3, h4⟩ := h1 i d hd
      exact ⟨h3, fun x H2 q => by
        obtain ⟨B2, q1, q2, q3⟩ := h4 x H2 q
        exact ⟨B2, q1, q2, slv q3⟩⟩) hp
/-- zip: pairs -/
def zipS (rs ss : List Sl) : List Sl := (rs.zip ss).map fun p => .kn (tupK [p.1, p.2])
theorem zipS_at {rs ss : List Sl} {i : Nat} {r : Sl} (h : (zipS rs ss)[i]? = some r) : ∃ x y, rs[i]? = some x ∧ ss[i]? = some y ∧ r = .kn (tupK [x, y]) := by
  unfold zipS at h
  rw [List.getElem?_map] at h
  cases hz : (rs.zip ss)[i]? with
  | none =>
    rw [hz] at h
    cases h
  | some p =>
    rw [hz] at h
    cases h
    obtain ⟨h1, h2⟩ := List.getElem?_zip_eq_some.mp hz
    exact ⟨_, _, h1, h2, rfl⟩
theorem itS_zip {K : Fg} {B : Hp} {as0 : List Addr} {b1 b2 : Bool} {a b : Addr} {xs ys : List V} {rs ss : List Sl} (h1 : SqK b1 K B a xs) (h2 : RsOk K B as0 xs rs) (g1 : SqK b2 K B b ys) (g2 : RsOk K B as0 ys ss) (f1 : rs.all Sl.free = true) (f2 : ss.all Sl.free = true) : ItOkS K (ItzX b1 b2 K a b) B as0 (fun _ => True) (zipS rs ss) := by
  intro B' F H as ω sb pp w' _
  have h3 := sqK_up (sb.trans w'.b) h1
  have g3 := sqK_up (sb.trans w'.b) g1
  have h4 := rsOk_up sb pp h2
  have g4 := rsOk_up sb pp g2
  refine ⟨fun i r hr => ?_, ⟨xs, ys, h3, g3, ?_⟩⟩
  · obtain ⟨x, y, hx, hy, rfl⟩ := zipS_at hr
    obtain ⟨u, e1, d1⟩ := rs_get h4 hx
    obtain ⟨v, e2, d2⟩ := rs_get g4 hy
    refine ⟨⟨xs, ys, u, v, h3, g3, e1, e2⟩, fun z H' q => ?_⟩
    obtain ⟨p, u', v', rfl, hp, rfl, q1, q2⟩ := q
    have q1 := q1 xs h3
    rw [e1] at q1
    cases q1
    have q2 := q2 ys g3
    rw [e2] at q2
    cases q2
    obtain ⟨w2, s2⟩ := w'.new (o := .tup [u, v]) hp
    refine ⟨_, s2, w2, _, _, rfl, Same.refl _, p, _, rfl, SqT.of upd_same, .cons (slOk_up s2 (List.prefix_refl _) (sl_free (List.all_eq_true.mp f1 _ (List.mem_of_getElem? hx)) d1)) (.cons (slOk_up s2 (List.prefix_refl _) (sl_free (List.all_eq_true.mp f2 _ (List.mem_of_getElem? hy)) d2)) .nil)⟩
  · unfold zipS
    rw [List.length_map, List.length_zip, rs_len h4, rs_len g4]
    omega
theorem dis_zip {e2 : Expr} {p tp : Pos} {kk : Nat} {P : (List Cell → Prop) → List Sl → List Cell → Prop} (hg : Gl X "zip") (hm : X.mg "zip" = none)
    (h : DA X [e, e2] δ ω fun qs ω1 => ∃ x y rs ss, qs = [x, y] ∧ SeqF x rs ∧ SeqF y ss ∧ rs.all Sl.free = true ∧ ss.all Sl.free = true ∧ P (fun _ => True) (zipS rs ss) ω1)
    (hs : starEach [e, e2] X.env = (false, eval e X.env) :: starEach [e2] X.env := by rfl) (hpl : (backTo pos (starEach [e2] X.env)).any (·.1) = false := by rfl) : DIS X (.Tuple es kk tp) (.Call (.Name "zip" p) [e, e2] [] pos) δ ω P := fun B F H as σ w ev R o => by
  refine ⟨_, pi_zipX hg hm pa_w hs hpl, ?_⟩
  refine h B F H as σ w ev _ fun vs B1 H1 as1 qs ω1 e1 p1 w1 s1 ⟨x, y, rs, ss, eq, hx, hy, f1, f2, hp⟩ => ?_
  subst eq
  obtain ⟨u, v, rfl, su, sv⟩ := rs2 s1
  obtain ⟨b1, a, xs, rfl, g1, g2⟩ := hx.get su
  obtain ⟨b2, b, ys, rfl, g3, g4⟩ := hy.get sv
  exact ⟨b1, b2, a, b, xs, ys, rfl, sqK_up w1.b g1, sqK_up w1.b g3, o _ _ _ B1 H1 as1 ω1 e1 p1 w1 (itS_zip g1 g2 g3 g4 f1 f2) hp⟩

/-! ### for, comprehensions -/
theorem d1_forS {body : List Stmt} {k : Kd} (hp : PassesOwn (model X.prog X.w) X.A X.env X.xe) (hc : X.calm = true)
    (h : DIS X tg iter δ ω fun G its ω1 => ∃ Iv : Nat → List Sl → List Cell → Prop, (∀ i δ' ω', Iv i δ' ω' → G ω') ∧ Iv 0 δ ω1 ∧
      (∀ i d δ' ω', its[i]? = some d → Iv i δ' ω' → DGS X (List.range δ'.length) tg d δ' fun δ2 => DS X body δ2 ω' { nx := Iv (i + 1), ct := Iv (i + 1), bk := k.nx, rt := k.rt }) ∧ ∀ δ' ω', Iv its.length δ' ω' → k.nx δ' ω')
    (hs : ∀ x, foldedSetIterable iter X.env x = pure x := by intro _; rfl) : D1 X (.For tg iter body [] pos) δ ω k := fun B F H as σ w ev E o => by
  refine ⟨_, ps_for hp hc pi_w pg_w pss_w hs, ?_⟩
  refine h B F H as σ w ev _ fun J G its B1 H1 as1 ω1 e1 p1 w1 hit ⟨Iv, hG, h0, ht, hd⟩ => ?_
  refine ⟨fun i m σ' H' => m = its.length - i ∧ i ≤ its.length ∧ ∃ B' as' δ' ω', Same B1 B' ∧ as1 <+: as' ∧ Wd X.K B' F H' as' ω' ∧ EnvOk X.K B' as' σ' δ' ∧ Iv i δ' ω',
    ⟨its.length, by omega, Nat.zero_le _, B1, as1, δ, ω1, Same.refl _, List.prefix_refl _, w1, envOk_up e1 p1 ev, h0⟩, fun i m σ' H' hW => ?_⟩
  obtain ⟨rfl, hi, B', as', δ', ω', e2, p2, w2, ev2, hI⟩ := hW
  by_cases hlt : i < its.length
  · obtain ⟨hgo, hy⟩ := (hit B' F H' as' ω' e2 p2 w2 (hG _ _ _ hI)).1 i its[i] (List.getElem?_eq_getElem hlt)
    refine .inr ⟨hgo, fun σ3 H3 => ∃ B' as' δ' ω', Same B1 B' ∧ as1 <+: as' ∧ Wd X.K B' F H3 as' ω' ∧ EnvOk X.K B' as' σ3 δ' ∧ Iv (i + 1) δ' ω', fun σ3 H3 q => ⟨its.length - (i + 1), by omega, rfl, hlt, q⟩, fun x H3 q => ?_⟩
    obtain ⟨B2, e3, w3, d3⟩ := hy x H3 q
    refine ht i its[i] δ' ω' (List.getElem?_eq_getElem hlt) hI B2 H3 as' σ' x w3.b (envOk_up e3 (List.prefix_refl _) ev2) d3 _ fun σ4 δ4 ev4 _ _ hb => ?_
    refine hb B2 F H3 as' σ4 w3 ev4 _ ⟨fun σ5 H5 B5 as5 δ5 ω5 e5 p5 w5 ev5 q5 => ?_, ?_, fun σ5 H5 B5 as5 δ5 ω5 e5 p5 w5 ev5 q5 => ?_, ?_⟩
    · exact ⟨B5, as5, δ5, ω5, (e2.trans e3).trans e5, p2.trans p5, w5, ev5, q5⟩
    · exact o.nx.up (((e1.trans e2).trans e3)) (p1.trans p2)
    · exact ⟨B5, as5, δ5, ω5, (e2.trans e3).trans e5, p2.trans p5, w5, ev5, q5⟩
    · exact o.rt.up (((e1.trans e2).trans e3)) (p1.trans p2)
  · have ei : i = its.length := by omega
    subst ei
    exact .inl ⟨(hit B' F H' as' ω' e2 p2 w2 (hG _ _ _ hI)).2, (o.nx.up (e1.trans e2) (p1.trans p2)).here w2 ev2 (hd δ' ω' hI)⟩
def LcTurnS (X : Cx) (scope : Scope) (vs : List Nat) (tg : Expr) (ifs : List Expr) (elt : Expr) (δ : List Sl) (its : List Sl) (Iv : Nat → List Sl → List Cell → Prop) : Prop :=
  ∀ i d acc ω', its[i]? = some d → Iv i acc ω' → Blk X scope fun Y => DGS Y vs tg d (wipeD δ vs) fun δ2 => Blk X scope fun Y => DTs Y ifs δ2 ω' fun b ω2 =>
    if b = true then Blk X scope fun Y => DE Y elt δ2 ω2 fun r ω3 => r.free = true ∧ Iv (i + 1) (acc ++ [r]) ω3 else Iv (i + 1) acc ω2
/-- what a comprehension is worth -/
def LcOut (P : PO1) (acc : List Sl) (ω' : List Cell) : Prop := P (.kn (lstK acc)) ω' ∨ ∃ ds, acc = ds.map Sl.val ∧ (P (.val (.list ds)) ω' ∨ P (.own ω'.length) (ω' ++ [.lst ds]))
theorem lc_readS {vs : List Nat} (h : DIS X tg iter δ ω fun G its ω1 => its.length ≤ 100000 ∧ ∃ Iv : Nat → List Sl → List Cell → Prop, (∀ i acc ω', Iv i acc ω' → G ω') ∧ Iv 0 [] ω1 ∧ LcTurnS X scope vs tg ifs elt δ its Iv ∧ ∀ acc ω', acc.length ≤ its.length → Iv its.length acc ω' → LcOut P acc ω')
    {B F H : Hp} {as : List Addr} {σ : L2.St} (w : Wd X.K B F H as ω) (ev : EnvOk X.K B as σ δ) (Q : VK) (o : Out X.K B F as P Q) :
    tLc (wI X tg iter) (fun v σ H Q => Blk X scope fun Y => wG Y tg v σ H Q) (fun σ H Q => Blk X scope fun Y => wTs Y ifs σ H Q) (fun σ H Q => Blk X scope fun Y => wE Y elt σ H Q) vs σ H Q := by
  refine h B F H as σ w ev _ fun J G its B1 H1 as1 ω1 e1 p1 w1 hit ⟨hlen, Iv, hG, h0, ht, hd⟩ => ?_
  intro Dl hD
  have hF : F Dl = none := w1.freeF hD
  refine ⟨fun i m H' => m = its.length - i ∧ i ≤ its.length ∧ ∃ B' as' acc accV ω', Same B1 B' ∧ as1 <+: as' ∧ Wd X.K B' (upd F Dl (.lst accV)) H' as' ω' ∧ RsOk X.K B' [] accV acc ∧ acc.length ≤ i ∧ Iv i acc ω',
    ⟨its.length, by omega, Nat.zero_le _, B1, as1, [], [], ω1, Same.refl _, List.prefix_refl _, w1.hide hD, .nil, Nat.zero_le _, h0⟩, fun i m H' hW => ?_⟩
  obtain ⟨rfl, hi, B', as', acc, accV, ω', e2, p2, w2, hacc, hal, hI⟩ := hW
  by_cases hlt : i < its.length
  · obtain ⟨hgo, hy⟩ := (hit B' _ H' as' ω' e2 p2 w2 (hG _ _ _ hI)).1 i its[i] (List.getElem?_eq_getElem hlt)
    refine .inr ⟨hgo, fun H3 => ∃ B' as' acc accV ω', Same B1 B' ∧ as1 <+: as' ∧ Wd X.K B' (upd F Dl (.lst accV)) H3 as' ω' ∧ RsOk X.K B' [] accV acc ∧ acc.length ≤ i + 1 ∧ Iv (i + 1) acc ω', fun H3 q => ⟨its.length - (i + 1), by omega, rfl, hlt, q⟩, fun x H3 q => ?_⟩
    obtain ⟨B2, e3, w3, d3⟩ := hy x H3 q
    have ev3 : EnvOk X.K B2 as' (wipe σ vs) (wipeD δ vs) := envOk_wipe (envOk_up ((e1.trans e2).trans e3) (p1.trans p2) ev) vs
    intro s H0 C cl fp
    refine ht i its[i] acc ω' (List.getElem?_eq_getElem hlt) hI s H0 C cl fp B2 H3 as' (wipe σ vs) x w3.b ev3 d3 _ fun σ4 δ4 ev4 hl4 ha4 hb => ?_
    have hwipe : wipe σ4 vs = wipe σ vs := by
      refine wipe_eq (by rw [hl4, wipe_length]) fun j hj => ?_
      rw [ha4 j hj, wipe_get hj]
    refine ⟨hwipe, ?_⟩
    intro s H0 C cl fp
    refine dts_run (hb s H0 C cl fp) w3 ev4 _ fun bb B5 H5 as5 ω5 e5 p5 w5 hq => ?_
    cases bb with
    | true =>
      refine iteT ?_
      intro s H0 C cl fp
      refine hq s H0 C cl fp B5 _ H5 as5 σ4 w5 (envOk_up e5 p5 ev4) _ fun y B6 H6 as6 r ω6 e6 p6 w6 s6 ⟨hfr, hI6⟩ => ?_
      refine ⟨accV, (w6.f Dl _ upd_same).1, ?_, B6, as6, acc ++ [r], accV ++ [y], ω6, ((e2.trans e3).trans e5).trans e6, (p2.trans p5).trans p6, w6.rehide, rs_app (rsOk_up ((e3.trans e5).trans e6) (List.prefix_refl _) hacc) (.cons (sl_free hfr s6) .nil), by rw [List.length_append]; exact Nat.succ_le_succ hal, hI6⟩
      rw [rs_len hacc]
      exact Nat.lt_of_le_of_lt (Nat.le_trans hal (Nat.le_trans hi hlen)) (by decide)
    | false =>
      exact iteF ⟨B5, as5, acc, accV, ω5, (e2.trans e3).trans e5, p2.trans p5, w5, rsOk_up (e3.trans e5) (List.prefix_refl _) hacc, Nat.le_succ_of_le hal, hq⟩
  · have ei : i = its.length := by omega
    subst ei
    refine .inl ⟨(hit B' _ H' as' ω' e2 p2 w2 (hG _ _ _ hI)).2, ?_⟩
    rcases hd acc ω' hal hI with hp | ⟨ds, rfl, hp | hp⟩
    · obtain ⟨w3, s3⟩ := w2.show hF
      exact o _ _ H' as' (.kn (lstK acc)) ω' ((e1.trans e2).trans s3) (p1.trans p2) w3 ⟨_, _, rfl, Same.refl _, Dl, accV, rfl, upd_same, rsOk_up s3 (List.prefix_refl _) hacc⟩ hp
    · obtain ⟨w3, s3⟩ := w2.show hF
      exact o _ _ H' as' _ ω' ((e1.trans e2).trans s3) (p1.trans p2) w3 (slv (.lst (.inl (.inl upd_same)) (dpAll_up s3 (rs_unval hacc)))) hp
    · refine o _ B' H' _ _ _ (e1.trans e2) ((p1.trans p2).trans (List.prefix_append _ _)) (w2.toOwn hF (rs_unval hacc)) (slo ?_) hp
      rw [← w2.len, List.getElem?_append_right (Nat.le_refl _), Nat.sub_self]
      rfl
theorem de_lcS (hc : X.calm = true) (hN : X.N.Nodup) (ok : BlkOk X.N X.env.scope scope own)
    (h : DIS X tg iter δ ω fun G its ω1 => its.length ≤ 100000 ∧ ∃ Iv : Nat → List Sl → List Cell → Prop, (∀ i acc ω', Iv i acc ω' → G ω') ∧ Iv 0 [] ω1 ∧ LcTurnS X scope (own.map (·.2)) tg ifs elt δ its Iv ∧ ∀ acc ω', acc.length ≤ its.length → Iv its.length acc ω' → LcOut P acc ω')
    (hs : ∀ x, foldedSetIterable iter X.env x = pure x := by intro _; rfl) : DE X (.ListComp elt [⟨tg, iter, ifs, 0⟩] scope pos) δ ω P := fun B F H as σ w ev Q o =>
  ⟨_, pe_lc hc hN pi_w ok (fun s H0 C cl fp => ⟨fun pins s1 σ1 H1 v u Q1 I r hw => by obtain ⟨_, p, q⟩ := hw s H0 C cl fp; exact p.run pins s1 σ1 H1 v u Q1 I r q⟩)
    (fun s H0 C cl fp => ⟨fun pins s1 σ1 H1 Q1 I hw => by obtain ⟨_, p, q⟩ := hw s H0 C cl fp; exact p.run pins s1 σ1 H1 Q1 I q⟩)
    (fun s H0 C cl fp => ⟨fun pins s1 σ1 H1 Q1 I hw => by obtain ⟨_, p, q⟩ := hw s H0 C cl fp; exact p.run pins s1 σ1 H1 Q1 I q⟩) hs, lc_readS h w ev Q o⟩
theorem d1_asgLcS {k : Kd} {i : Nat} {y : Str} {py spos : Pos} (hc : X.calm = true) (hN : X.N.Nodup) (hy : X.N[i]? = some y) (hyl : X.env.scope.names.lookup y = some .local) (hsw : swapsWith (.ListComp elt [⟨tg, iter, ifs, 0⟩] scope pos) (some (.Name y py)) spos.line X.env = pure true) (ok : BlkOk X.N X.env.scope scope own)
    (h : DIS X tg iter δ ω fun G its ω1 => its.length ≤ 100000 ∧ ∃ Iv : Nat → List Sl → List Cell → Prop, (∀ i acc ω', Iv i acc ω' → G ω') ∧ Iv 0 [] ω1 ∧ LcTurnS X scope (own.map (·.2)) tg ifs elt δ its Iv ∧ ∀ acc ω', acc.length ≤ its.length → Iv its.length acc ω' → LcOut (fun r ω' => k.nx (δ.set i r) ω') acc ω')
    (hs : ∀ x, foldedSetIterable iter X.env x = pure x := by intro _; rfl) : D1 X (.Assign [.Name y py] (.ListComp elt [⟨tg, iter, ifs, 0⟩] scope pos) spos) δ ω k := fun B F H as σ w ev E o =>
  ⟨_, ps_setLc hc hN hy hyl hsw pi_w ok (fun s H0 C cl fp => ⟨fun pins s1 σ1 H1 v u Q1 I r hw => by obtain ⟨_, p, q⟩ := hw s H0 C cl fp; exact p.run pins s1 σ1 H1 v u Q1 I r q⟩)
    (fun s H0 C cl fp => ⟨fun pins s1 σ1 H1 Q1 I hw => by obtain ⟨_, p, q⟩ := hw s H0 C cl fp; exact p.run pins s1 σ1 H1 Q1 I q⟩)
    (fun s H0 C cl fp => ⟨fun pins s1 σ1 H1 Q1 I hw => by obtain ⟨_, p, q⟩ := hw s H0 C cl fp; exact p.run pins s1 σ1 H1 Q1 I q⟩) hs,
    lc_readS (P := fun r ω1 => k.nx (δ.set i r) ω1) h w ev _ fun v B1 H1 as1 r ω1 e1 p1 w1 s1 hp => (o.nx.up e1 p1).here w1 (envOk_set s1 i (envOk_up e1 p1 ev)) hp⟩
/-- each item gives one -/
theorem lcS_map {vs : List Nat} {its : List Sl} (f : Sl → Sl) (h : ∀ (i : Nat) (d : Sl), its[i]? = some d → Blk X scope fun Y => DGS Y vs tg d (wipeD δ vs) fun δ2 => Blk X scope fun Y => DE Y elt δ2 ω fun r ω3 => r.free = true ∧ r = f d ∧ ω3 = ω) :
    LcTurnS X scope vs tg [] elt δ its fun i acc ω' => ω' = ω ∧ acc = (its.take i).map f := by
  rintro i d acc ω' hd ⟨rfl, rfl⟩ s H C cl fp B H2 as σ v sb ev hv Q o
  refine h i d hd s H C cl fp B H2 as σ v sb ev hv Q fun σ' δ' ev' hl ha hk => o σ' δ' ev' hl ha ?_
  intro s H C cl fp
  refine dts_nil (iteT ?_)
  intro s H C cl fp
  refine (hk s H C cl fp).mono fun r ω3 ⟨hf, er, eω⟩ => ⟨hf, eω, ?_⟩
  rw [er, List.take_add_one, hd, List.map_append]
  rfl
theorem lcS_filt {vs : List Nat} {its : List Sl} (g : Sl → Bool) (f : Sl → Sl) (h : ∀ (i : Nat) (d : Sl), its[i]? = some d → Blk X scope fun Y => DGS Y vs tg d (wipeD δ vs) fun δ2 => (Blk X scope fun Y => DT Y c δ2 ω fun b ω2 => b = g d ∧ ω2 = ω) ∧ (g d = true → Blk X scope fun Y => DE Y elt δ2 ω fun r ω3 => r.free = true ∧ r = f d ∧ ω3 = ω)) :
    LcTurnS X scope vs tg [c] elt δ its fun i acc ω' => ω' = ω ∧ acc = ((its.take i).filter g).map f := by
  rintro i d acc ω' hd ⟨rfl, rfl⟩ s H C cl fp B H2 as σ v sb ev hv Q o
  refine h i d hd s H C cl fp B H2 as σ v sb ev hv Q fun σ' δ' ev' hl ha ⟨hk1, hk2⟩ => o σ' δ' ev' hl ha ?_
  intro s H C cl fp
  show DT _ c δ' ω' _
  refine (hk1 s H C cl fp).mono fun b ω2 ⟨eb, eω⟩ => ?_
  subst eω
  have et : its.take (i + 1) = its.take i ++ [d] := by
    rw [List.take_add_one, hd]
    rfl
  cases hg : g d with
  | true =>
    rw [eb, hg]
    refine iteT ?_
    intro s H C cl fp
    refine (hk2 hg s H C cl fp).mono fun r ω3 ⟨hf, er, eω⟩ => ⟨hf, eω, ?_⟩
    rw [er, et, List.filter_append, List.map_append, List.filter_cons, hg]
    rfl
  | false =>
    rw [eb, hg]
    refine iteF ⟨rfl, ?_⟩
    rw [et, List.filter_append, List.map_append, List.filter_cons, hg]
    exact (List.append_nil _).symm
theorem lcS_mapA {α : Type} {vs : List Nat} {src : List α} (emb f : α → Sl) (h : ∀ (i : Nat) (x : α), src[i]? = some x → Blk X scope fun Y => DGS Y vs tg (emb x) (wipeD δ vs) fun δ2 => Blk X scope fun Y => DE Y elt δ2 ω fun r ω3 => r.free = true ∧ r = f x ∧ ω3 = ω) :
    LcTurnS X scope vs tg [] elt δ (src.map emb) fun i acc ω' => ω' = ω ∧ acc = (src.take i).map f := by
  rintro i d acc ω' hd ⟨rfl, rfl⟩ s H C cl fp B H2 as σ v sb ev hv Q o
  obtain ⟨x, hx, rfl⟩ : ∃ x, src[i]? = some x ∧ d = emb x := by
    rw [List.getElem?_map] at hd
    cases hz : src[i]? with
    | none =>
      rw [hz] at hd
      cases hd
    | some x =>
      rw [hz] at hd
      cases hd
      exact ⟨x, rfl, rfl⟩
  refine h i x hx s H C cl fp B H2 as σ v sb ev hv Q fun σ' δ' ev' hl ha hk => o σ' δ' ev' hl ha ?_
  intro s H C cl fp
  refine dts_nil (iteT ?_)
  intro s H C cl fp
  refine (hk s H C cl fp).mono fun r ω3 ⟨hf, er, eω⟩ => ⟨hf, eω, ?_⟩
  rw [er, List.take_add_one, hx, List.map_append]
  rfl
theorem lcS_filtA {α : Type} {vs : List Nat} {src : List α} (emb : α → Sl) (g : α → Bool) (f : α → Sl) (h : ∀ (i : Nat) (x : α), src[i]? = some x → Blk X scope fun Y => DGS Y vs tg (emb x) (wipeD δ vs) fun δ2 => (Blk X scope fun Y => DT Y c δ2 ω fun b ω2 => b = g x ∧ ω2 = ω) ∧ (g x = true → Blk X scope fun Y => DE Y elt δ2 ω fun r ω3 => r.free = true ∧ r = f x ∧ ω3 = ω)) :
    LcTurnS X scope vs tg [c] elt δ (src.map emb) fun i acc ω' => ω' = ω ∧ acc = ((src.take i).filter g).map f := by
  rintro i d acc ω' hd ⟨rfl, rfl⟩ s H C cl fp B H2 as σ v sb ev hv Q o
  obtain ⟨x, hx, rfl⟩ : ∃ x, src[i]? = some x ∧ d = emb x := by
    rw [List.getElem?_map] at hd
    cases hz : src[i]? with
    | none =>
      rw [hz] at hd
      cases hd
    | some x =>
      rw [hz] at hd
      cases hd
      exact ⟨x, rfl, rfl⟩
  refine h i x hx s H C cl fp B H2 as σ v sb ev hv Q fun σ' δ' ev' hl ha ⟨hk1, hk2⟩ => o σ' δ' ev' hl ha ?_
  intro s H C cl fp
  show DT _ c δ' ω' _
  refine (hk1 s H C cl fp).mono fun b ω2 ⟨eb, eω⟩ => ?_
  subst eω
  have et : src.take (i + 1) = src.take i ++ [x] := by
    rw [List.take_add_one, hx]
    rfl
  cases hg : g x with
  | true =>
    rw [eb, hg]
    refine iteT ?_
    intro s H C cl fp
    refine (hk2 hg s H C cl fp).mono fun r ω3 ⟨hf, er, eω⟩ => ⟨hf, eω, ?_⟩
    rw [er, et, List.filter_append, List.map_append, List.filter_cons, hg]
    rfl
  | false =>
    rw [eb, hg]
    refine iteF ⟨rfl, ?_⟩
    rw [et, List.filter_append, List.map_append, List.filter_cons, hg]
    exact (List.append_nil _).symm
theorem zipS_map {α β : Type} (f : α → Sl) (g : β → Sl) (l : List α) (m : List β) : zipS (l.map f) (m.map g) = (l.zip m).map fun p => .kn (tupK [f p.1, g p.2]) := by
  unfold zipS
  rw [List.zip_map, List.map_map]
  rfl
end
end
section
/-! tuples that are known to be plain: count of what stands in them -/
def tupC (ds : List D) : Cell := .gn fun K B o _ => ∃ ob ys, o = .frz ob (.tup ys) ∧ ob.cls = .type "tuple" ∧ ob.dict = none ∧ DpAll K B ys ds
section
variable {X : Cx} {e o : Expr} {δ : List Sl} {ω : List Cell} {P : Sl → List Cell → Prop} {pos : Pos}
theorem call_tupleF : CallR X (.type "tuple") (fun xs H Q => ∃ p ys, xs = [.ref p] ∧ SqL X.K H p ys ∧ ∀ l ob, H l = none → ob.cls = .type "tuple" → ob.dict = none → Q (.ref l) (upd H l (.frz ob (.tup ys)))) := by
  intro pins s σ H xs us Q I r h
  obtain ⟨p, ys, rfl, hq, q⟩ := h
  obtain ⟨u, rfl, rx⟩ := vals1 r
  cases rx
  obtain ⟨its, r', pl, hz⟩ := I.list hq
  have hlen := r'.length
  refine call_tuple_list pl.isList (fun h' kp => ?_) (by simp only [List.size_toArray] <;> omega)
  have I1 : Inv X pins σ H { s with heap := h' } := I.kept (t' := s.toks) kp
  have I2 : Inv X pins σ (upd H h'.objs.size (.frz { cls := .type "tuple", data := .seq its.toArray } (.tup ys))) { s with heap := h'.push { cls := .type "tuple", data := .seq its.toArray } } :=
    I1.laid (t' := s.toks) (fun b o e => Heap.get?_push_of_some _ e) (Nat.le_refl _) (show ObjOk X.prog X.w _ _ _ (.frz _ (.tup ys)) from ⟨Heap.get?_push_size _ rfl, hz, its, r', IsTup.new _ _⟩)
  exact ⟨.ref h'.objs.size, _, I2, rfl, q _ _ (I1.hok.fresh (Nat.le_refl _)) rfl rfl⟩
theorem ra_tupF {r : Sl} {ds : List D} (hq : Seq ω r ds) (hl : r ≠ .val (.tuple ds)) (hp : P (.own ω.length) (ω ++ [tupC ds])) :
    RA X (fun xs H Q => ∃ p ys, xs = [.ref p] ∧ SqL X.K H p ys ∧ ∀ l ob, H l = none → ob.cls = .type "tuple" → ob.dict = none → Q (.ref l) (upd H l (.frz ob (.tup ys)))) [r] ω P := fun B F H as vs w s Q o => by
  obtain ⟨v, rfl, s1⟩ := rs1 s
  have fin : ∀ ys, DpAll X.K B ys ds → ∀ l ob, H l = none → ob.cls = .type "tuple" → ob.dict = none → Q (.ref l) (upd H l (.frz ob (.tup ys))) := fun ys hd l ob hl hc hn => by
    have w2 := w.own (o := .frz ob (.tup ys)) (c := tupC ds) hl (fun hb => ⟨hb, B, _, Same.refl _, upd_same, ob, ys, rfl, hc, hn, hd⟩)
    refine o _ B _ (as ++ [l]) (.own ω.length) _ (Same.refl _) (List.prefix_append _ _) w2 ⟨l, rfl, ?_⟩ hp
    rw [← w.len, List.getElem?_append_right (Nat.le_refl _), Nat.sub_self]
    rfl
  cases hq with
  | tup => exact absurd rfl hl
  | lst =>
    obtain ⟨a, xs, rfl, h2, h3⟩ := slv_lst s1 w.b
    exact ⟨a, xs, rfl, h2, fun l ob => fin xs h3 l ob⟩
  | own hc =>
    obtain ⟨a, xs, rfl, _, h2, h3⟩ := slo_lst w s1 hc
    exact ⟨a, xs, rfl, SqL.of h2, fun l ob => fin xs h3 l ob⟩
/-! ### count -/
theorem countP_vals {k : V} : ∀ {ys : List V} {its : List Value}, Vals ys its → ys.all flatV = true → its.countP (eqU k) = ys.countP fun y => eqV y k
  | _, _, .nil, _ => rfl
  | y :: ys, z :: its, .cons r q, h => by
    rw [List.all_cons, Bool.and_eq_true] at h
    rw [List.countP_cons, List.countP_cons, countP_vals q h.2, eqU_of r h.1]
def rCntT (K : Fg) : V → List V → Hp → VK → Prop := fun x xs H Q => ∃ (p : Addr) (ys : List V) (k : V), x = .ref p ∧ xs = [k] ∧ flatV k = true ∧ ys.all flatV = true ∧ SqT K H p ys ∧ Q (.int (ys.countP fun y => eqV y k : Nat)) H
theorem mt_tcount : MtR X "tuple.count" (rCntT X.K) := by
  intro pins s σ H x xs v us Q I rx rxs h
  obtain ⟨p, ys, k, rfl, rfl, hk, hys, hs, q⟩ := h
  cases rx
  obtain ⟨u, rfl, ru⟩ := rxs.one
  obtain ⟨its, rv, pl, hz⟩ := I.tuple hs
  obtain ⟨⟨cls, dd, dt, sl⟩, ho, hc, n, hd⟩ := pl
  simp only at hc hd
  subst hc hd
  refine call_meets PySem.F.slot_tuple_count ⟨_, ho, rfl⟩ PySem.F.entry_tuple_count (PySem.F.args_tuple_count_2 _ _)
    (SeqAt.tuple_countAt p its.toArray n dd sl u (eqU k)) ⟨ho, fun y hy => mem_eqAt ru hk rv hys y (by simpa using hy), ?_⟩
  refine ⟨.int (ys.countP fun y => eqV y k : Nat), H, I.tok _, ⟨s.toks, ?_⟩, q⟩
  have ec : its.toArray.toList.countP (eqU k) = ys.countP fun y => eqV y k := countP_vals rv hys
  rw [ec]
def tyF (T : String) (x : V) (H : Hp) : Prop := ∃ p ob u, x = .ref p ∧ H p = some (.frz ob u) ∧ ob.cls = .type T ∧ ob.dict = none
def tBMF (T : String) (r : V → List V → Hp → VK → Prop) (to : TE) (t : TA) : TE := fun σ H Q => to σ H fun x H1 => tyF T x H1 ∧ t σ H1 fun xs H2 => r x xs H2 Q
theorem pe_bmF {es : List Expr} {to : TE} {t : TA} {name : Str} {apos cpos : Pos} {T id : String} {r : V → List V → Hp → VK → Prop} (pa : PlainAttrs T) (slot : Slot T name id) (hty : typeOf (.builtin id) = pure (.type "method_descriptor")) (hm : MtR X id r) (ho : PE X o to) (ha : PA X (e :: es) t)
    (hbase : attributeBase o name X.env (eval o X.env) = eval o X.env := by rfl)
    (hfew : ((backTo cpos (starEach (e :: es) X.env)).all (fun x => !x.1) && (backToKw cpos (keywordEach [] X.env)).all (fun x => x.1.isSome)
      && decide ((e :: es).length + ([] : List Keyword).length + (if ([] : List Keyword).isEmpty then 0 else 1) < 30)) = true := by rfl)
    (hline : (apos.endLine == cpos.line) = true := by rfl) (hs : starEach (e :: es) X.env = (false, eval e X.env) :: starEach es X.env := by rfl) (hplain : (backTo cpos (starEach es X.env)).any (·.1) = false := by rfl) :
    PE X (.Call (.Attribute o name apos) (e :: es) [] cpos) (tBMF T r to t) := by
  refine ⟨fun pins s σ H Q I h => ?_⟩
  refine wpAny_Call_method_late hbase hfew hline rfl (L2.thn (ho.run pins s σ H _ I h) fun v s1 ⟨x, H1, I1, r1, ⟨p, ob, u, hx, hp, hc, hd⟩, q1⟩ => ?_)
  subst hx
  cases r1
  have hg := (I1.hok p _ hp).1
  refine ⟨T, id, pa, slot, hty, ⟨ob, hg, hc⟩, fun a e => ?_, ?_⟩
  · cases e
    exact ⟨ob, hg, hd⟩
  have hA := ha.run cpos pins s1 σ H1 _ I1 q1
  rw [hs] at hA ⊢
  refine Calls.callWith_builtin (by show (false || (backTo cpos (starEach es X.env)).any (·.1)) = false; rw [hplain] <;> rfl) (Calls.evalArgs_plain ?_)
  exact L2.thn hA fun us s2 ⟨vs, H2, I2, r2, q2⟩ => hm pins s2 σ H2 (.ref p) vs _ us Q I2 rfl r2 q2
def cntD (ds : List D) (d : D) : Nat := (ds.map fv).countP fun y => eqV y (fv d)
theorem slo_tupC {K : Fg} {B F H : Hp} {as : List Addr} {v : V} {k : Nat} {ds : List D} (w : Wd K B F H as ω) (s : SlOk K B as (some v) (.own k)) (hc : ω[k]? = some (tupC ds)) : ∃ a ob ys, v = .ref a ∧ H a = some (.frz ob (.tup ys)) ∧ ob.cls = .type "tuple" ∧ ob.dict = none ∧ DpAll K B ys ds := by
  obtain ⟨a, h1, h2⟩ := sl_own s
  obtain ⟨_, B0, o, sb, h3, ob, ys, rfl, h4, h5, h6⟩ := (w.at' k a _ h2 hc).2.2
  exact ⟨a, ob, ys, h1, h3, h4, h5, dpAll_up sb h6⟩
theorem de_countF {apos cpos : Pos} (h : DE X o δ ω fun r ω1 => ∃ kx ds, r = .own kx ∧ ω1[kx]? = some (tupC ds) ∧ DE X e δ ω1 fun s ω2 => ∃ d, s = .val d ∧ flat d = true ∧ ds.all flat = true ∧ ω2[kx]? = some (tupC ds) ∧ P (.val (.int (cntD ds d : Nat))) ω2)
    (hbase : attributeBase o "count" X.env (eval o X.env) = eval o X.env := by rfl)
    (hfew : ((backTo cpos (starEach (e :: []) X.env)).all (fun x => !x.1) && (backToKw cpos (keywordEach [] X.env)).all (fun x => x.1.isSome) && decide ((e :: ([] : List Expr)).length + ([] : List Keyword).length + (if ([] : List Keyword).isEmpty then 0 else 1) < 30)) = true := by rfl)
    (hline : (apos.endLine == cpos.line) = true := by rfl) (hs : starEach (e :: []) X.env = (false, eval e X.env) :: starEach [] X.env := by rfl) (hplain : (backTo cpos (starEach [] X.env)).any (·.1) = false := by rfl) :
    DE X (.Call (.Attribute o "count" apos) [e] [] cpos) δ ω P := fun B F H as σ w ev Q oo => by
  refine ⟨_, pe_bmF PySem.F.plainAttrs_tuple PySem.F.slot_tuple_count PySem.F.type_tuple_count mt_tcount pe_w (pa_cons pe_w pa_nil hs) hbase hfew hline hs hplain, ?_⟩
  refine h B F H as σ w ev _ fun v B1 H1 as1 r ω1 e1 p1 w1 s1 ⟨kx, ds, er, hk, q1⟩ => ?_
  subst er
  obtain ⟨a, ob, xs, rfl, h1, h2, h3, h4⟩ := slo_tupC w1 s1 hk
  refine ⟨⟨a, ob, _, rfl, h1, h2, h3⟩, ?_⟩
  refine q1 B1 F H1 as1 σ w1 (envOk_up e1 p1 ev) _ fun u B2 H2 as2 r2 ω2 e2 p2 w2 s2 ⟨d, er2, hfd, hfa, hk2, hp⟩ => ?_
  subst er2
  obtain ⟨a', ob', ys, ea, h5, h6, h7, h8⟩ := slo_tupC w2 (slOk_up e2 p2 s1) hk2
  cases ea
  obtain ⟨f1, f2⟩ := dp_flat (sl_val s2) hfd
  obtain ⟨f3, f4⟩ := dpAll_flat h8 hfa
  refine ⟨a, ys, u, rfl, rfl, f2, f4, .inl (.inr ⟨_, h5⟩), ?_⟩
  rw [f1, f3]
  exact (oo.up (e1.trans e2) (p1.trans p2)).here w2 (.int _) hp
end
end
section
/-! instances whose attributes are slots -/
abbrev AtS (K : Fg) (B : Hp) : List (Str × V) → List (Str × Sl) → Prop := Paired fun p q => p.1 = q.1 ∧ SlOk K B [] (some p.2) q.2
theorem ats_up {K : Fg} {B B' : Hp} (e : Same B B') : ∀ {a : List (Str × V)} {b : List (Str × Sl)}, AtS K B a b → AtS K B' a b
  | _, _, .nil => .nil
  | _, _, .cons h q => .cons ⟨h.1, slOk_up e (List.prefix_refl _) h.2⟩ (ats_up e q)
theorem ats_get {K : Fg} {B : Hp} {f : Str} {r : Sl} : ∀ {a : List (Str × V)} {b : List (Str × Sl)}, AtS K B a b → b.lookup f = some r → ∃ v, a.lookup f = some v ∧ SlOk K B [] (some v) r
  | _, _, .nil, h => by simp at h
  | (x, v) :: a, (y, c) :: b, .cons h q, e => by
    have hx : x = y := h.1
    subst hx
    by_cases hf : (f == x) = true
    · rw [List.lookup_cons, hf] at e ⊢
      cases e
      exact ⟨v, rfl, h.2⟩
    · rw [List.lookup_cons, Bool.eq_false_iff.mpr hf] at e ⊢
      exact ats_get q e
theorem ats_none {K : Fg} {B : Hp} {f : Str} : ∀ {a : List (Str × V)} {b : List (Str × Sl)}, AtS K B a b → b.lookup f = none → a.lookup f = none
  | _, _, .nil, _ => rfl
  | (x, v) :: a, (y, c) :: b, .cons h q, e => by
    have hx : x = y := h.1
    subst hx
    by_cases hf : (f == x) = true
    · rw [List.lookup_cons, hf] at e
      cases e
    · rw [List.lookup_cons, Bool.eq_false_iff.mpr hf] at e ⊢
      exact ats_none q e
def putS (f : Str) (r : Sl) : List (Str × Sl) → List (Str × Sl)
  | [] => [(f, r)]
  | (g, x) :: l => if g = f then (g, r) :: l else (g, x) :: putS f r l
theorem putS_len (f : Str) (r : Sl) : ∀ fs : List (Str × Sl), (putS f r fs).length ≤ fs.length + 1
  | [] => Nat.le_refl _
  | (g, x) :: l => by
    show (if g = f then (g, r) :: l else (g, x) :: putS f r l).length ≤ _
    by_cases e : g = f
    · rw [if_pos e]
      exact Nat.le_succ _
    · rw [if_neg e]
      exact Nat.succ_le_succ (putS_len f r l)
theorem ats_put {K : Fg} {B : Hp} {f : Str} {v : V} {r : Sl} (hv : SlOk K B [] (some v) r) : ∀ {a : List (Str × V)} {b : List (Str × Sl)}, AtS K B a b → AtS K B (L2.putF f v a) (putS f r b)
  | _, _, .nil => .cons ⟨rfl, hv⟩ .nil
  | (x, u) :: a, (y, c) :: b, .cons h q => by
    have hx : x = y := h.1
    subst hx
    show AtS K B (if x = f then (x, v) :: a else (x, u) :: L2.putF f v a) (if x = f then (x, r) :: b else (x, c) :: putS f r b)
    by_cases e : x = f
    · rw [if_pos e, if_pos e]
      exact .cons ⟨rfl, hv⟩ q
    · rw [if_neg e, if_neg e]
      exact .cons ⟨rfl, h.2⟩ (ats_put hv q)
theorem ats_len {K : Fg} {B : Hp} {a : List (Str × V)} {b : List (Str × Sl)} (h : AtS K B a b) : a.length = b.length := Paired.length h
/-- known for good: an instance; the thing at an address; a tuple as it was made -/
def insI (C : Addr) (fs : List (Str × Sl)) : Fg → Hp → V → Prop := fun K B v => ∃ a dx vs, v = .ref a ∧ B a = some (.ins C dx vs) ∧ AtS K B vs fs
def refK (x : Addr) : Fg → Hp → V → Prop := fun _ _ v => v = .ref x
def ftupK (ds : List D) : Fg → Hp → V → Prop := fun K B v => ∃ a ob ys, v = .ref a ∧ B a = some (.frz ob (.tup ys)) ∧ ob.cls = .type "tuple" ∧ ob.dict = none ∧ DpAll K B ys ds
/-- owned: the instance at x, its dict at dx; the list at x -/
def insA (C dx x : Addr) (fs : List (Str × Sl)) : Cell := .gn fun K B o a => a = x ∧ ∃ vs, o = .ins C dx vs ∧ AtS K B vs fs
def lstA (x : Addr) (ds : List D) : Cell := .gn fun K B o a => a = x ∧ ∃ xs, o = .lst xs ∧ DpAll K B xs ds
theorem slk_insI {K : Fg} {B : Hp} {as : List Addr} {v : V} {C : Addr} {fs : List (Str × Sl)} (s : SlOk K B as (some v) (.kn (insI C fs))) : insI C fs K B v := by
  obtain ⟨v', B0, e, sb, a, dx, vs, h1, h2, h3⟩ := s
  cases e
  exact ⟨a, dx, vs, h1, sb _ _ h2, ats_up sb h3⟩
theorem slk_ref {K : Fg} {B : Hp} {as : List Addr} {v : V} {x : Addr} (s : SlOk K B as (some v) (.kn (refK x))) : v = .ref x := by
  obtain ⟨v', B0, e, sb, h⟩ := s
  cases e
  exact h
theorem slk_ftup {K : Fg} {B : Hp} {as : List Addr} {v : V} {ds : List D} (s : SlOk K B as (some v) (.kn (ftupK ds))) : ftupK ds K B v := by
  obtain ⟨v', B0, e, sb, a, ob, ys, h1, h2, h3, h4, h5⟩ := s
  cases e
  exact ⟨a, ob, ys, h1, sb _ _ h2, h3, h4, dpAll_up sb h5⟩
theorem cell_insA {K : Fg} {B F H : Hp} {as : List Addr} {ω : List Cell} {k : Nat} {C dx x : Addr} {fs : List (Str × Sl)} (w : Wd K B F H as ω) (hc : ω[k]? = some (insA C dx x fs)) : as[k]? = some x ∧ B x = none ∧ ∃ vs, H x = some (.ins C dx vs) ∧ AtS K B vs fs := by
  have hk : k < as.length := by
    rw [w.len]
    exact (List.getElem?_eq_some_iff.mp hc).1
  obtain ⟨hb, B0, o, sb, h3, hx, vs, rfl, h4⟩ := (w.at' k _ _ (List.getElem?_eq_getElem hk) hc).2.2
  have ha := List.getElem?_eq_getElem hk
  rw [hx] at ha hb h3
  exact ⟨ha, hb, vs, h3, ats_up sb h4⟩
theorem cell_lstA {K : Fg} {B F H : Hp} {as : List Addr} {ω : List Cell} {k : Nat} {x : Addr} {ds : List D} (w : Wd K B F H as ω) (hc : ω[k]? = some (lstA x ds)) : as[k]? = some x ∧ B x = none ∧ ∃ xs, H x = some (.lst xs) ∧ DpAll K B xs ds := by
  have hk : k < as.length := by
    rw [w.len]
    exact (List.getElem?_eq_some_iff.mp hc).1
  obtain ⟨hb, B0, o, sb, h3, hx, xs, rfl, h4⟩ := (w.at' k _ _ (List.getElem?_eq_getElem hk) hc).2.2
  have ha := List.getElem?_eq_getElem hk
  rw [hx] at ha hb h3
  exact ⟨ha, hb, xs, h3, dpAll_up sb h4⟩
section
variable {X : Cx} {e o value a b c : Expr} {es : List Expr} {δ : List Sl} {ω : List Cell} {P : PO1} {T : Bool → List Cell → Prop} {pos apos pos' cpos : Pos} {f : Str} {k : Kd}
theorem ref_slot {K : Fg} {B : Hp} {as : List Addr} {x : Addr} : SlOk K B as (some (.ref x)) (.kn (refK x)) := ⟨_, B, rfl, Same.refl _, rfl⟩
/-- a tuple as it was made is a datum -/
theorem DE.asF (h : DE X e δ ω fun r ω1 => ∃ ds, r = .kn (ftupK ds) ∧ P (.val (.tuple ds)) ω1) : DE X e δ ω P := fun B F H as σ w ev Q oo => by
  refine h B F H as σ w ev _ fun v B1 H1 as1 r ω1 e1 p1 w1 s1 ⟨ds, er, hp⟩ => ?_
  subst er
  obtain ⟨a, ob, ys, rfl, h2, _, _, h5⟩ := slk_ftup s1
  exact oo (.ref a) B1 H1 as1 _ ω1 e1 p1 w1 (slv (.tup (.inl (.inr ⟨ob, h2⟩)) h5)) hp
/-- an owned list gets to be known by its address -/
theorem DE.tagL (h : DE X e δ ω fun r ω1 => ∃ (kx : Nat) (ds : List D), r = .own kx ∧ ω1[kx]? = some (.lst ds) ∧ ∀ x, P (.kn (refK x)) (ω1.set kx (lstA x ds))) : DE X e δ ω P := fun B F H as σ w ev Q oo => by
  refine h B F H as σ w ev _ fun v B1 H1 as1 r ω1 e1 p1 w1 s1 ⟨kx, ds, er, hk, hp⟩ => ?_
  subst er
  obtain ⟨a, rfl, ha⟩ := sl_own s1
  obtain ⟨hb, xs, h1, h2⟩ := w1.cellL ha hk
  have hl : kx < ω1.length := (List.getElem?_eq_some_iff.mp hk).1
  have w2 : Wd X.K B1 F H1 as1 (ω1.set kx (lstA a ds)) := by
    refine ⟨w1.b, w1.f, by rw [List.length_set]; exact w1.len, w1.nd, fun j x c e1 e2 => ?_⟩
    by_cases hj : j = kx
    · subst hj
      rw [ha] at e1
      cases e1
      rw [List.getElem?_set_self hl] at e2
      cases e2
      obtain ⟨q1, q2, _⟩ := w1.at' j a _ ha hk
      exact ⟨q1, q2, hb, B1, _, Same.refl _, h1, rfl, xs, rfl, h2⟩
    · rw [List.getElem?_set_ne (Ne.symm hj)] at e2
      exact w1.at' j x c e1 e2
  exact oo (.ref a) B1 H1 as1 _ _ e1 p1 w2 ref_slot (hp a)
/-! ### attributes -/
theorem de_attrI (h : DE X e δ ω fun r ω1 => ∃ C fs d, r = .kn (insI C fs) ∧ Cls X.K C ∧ NoAttr X.K C f ∧ fs.lookup f = some d ∧ P d ω1) (hb : attributeBase e f X.env (eval e X.env) = eval e X.env := by rfl) : DE X (.Attribute e f pos) δ ω P := fun B F H as σ w ev Q oo => by
  refine ⟨_, pe_fld pe_w hb, ?_⟩
  refine h B F H as σ w ev _ fun v B1 H1 as1 r ω1 e1 p1 w1 s1 ⟨C, fs, d, er, c, n, hl, hp⟩ => ?_
  subst er
  obtain ⟨a, dx, vs, rfl, h2, h3⟩ := slk_insI s1
  obtain ⟨u, hu, hd⟩ := ats_get h3 hl
  exact ⟨a, C, dx, vs, u, rfl, w1.b _ _ h2, c, n, hu, oo u B1 H1 as1 _ ω1 e1 p1 w1 (slOk_up (Same.refl _) List.nil_prefix hd) hp⟩
theorem de_attrA (h : DE X e δ ω fun r ω1 => ∃ (kx : Nat) (C dx x : Addr) (fs : List (Str × Sl)) (d : Sl), r = .kn (refK x) ∧ ω1[kx]? = some (insA C dx x fs) ∧ Cls X.K C ∧ NoAttr X.K C f ∧ fs.lookup f = some d ∧ P d ω1) (hb : attributeBase e f X.env (eval e X.env) = eval e X.env := by rfl) : DE X (.Attribute e f pos) δ ω P := fun B F H as σ w ev Q oo => by
  refine ⟨_, pe_fld pe_w hb, ?_⟩
  refine h B F H as σ w ev _ fun v B1 H1 as1 r ω1 e1 p1 w1 s1 ⟨kx, C, dx, x, fs, d, er, hk, c, n, hl, hp⟩ => ?_
  subst er
  obtain rfl := slk_ref s1
  obtain ⟨ha, hb, vs, hh, h3⟩ := cell_insA w1 hk
  obtain ⟨u, hu, hd⟩ := ats_get h3 hl
  exact ⟨x, C, dx, vs, u, rfl, hh, c, n, hu, oo u B1 H1 as1 _ ω1 e1 p1 w1 (slOk_up (Same.refl _) List.nil_prefix hd) hp⟩
theorem d1_setAttrA (h : DE X value δ ω fun rv ω1 => DE X o δ ω1 fun r ω2 => ∃ (kx : Nat) (C dx x : Addr) (fs : List (Str × Sl)), rv.free = true ∧ r = .kn (refK x) ∧ ω2[kx]? = some (insA C dx x fs) ∧ Cls X.K C ∧ NoAttr X.K C f ∧ fs.length < 1000 ∧ k.nx δ (ω2.set kx (insA C dx x (putS f rv fs))))
    (hs : swapsWith value (some (.Attribute o f pos')) pos.line X.env = pure false := by rfl) : D1 X (.Assign [.Attribute o f pos'] value pos) δ ω k := fun B F H as σ w ev E oo => by
  refine ⟨_, ps_fld pe_w pe_w hs, ?_⟩
  refine h B F H as σ w ev _ fun y B1 H1 as1 rv ω1 e1 p1 w1 s1 q1 => ?_
  refine q1 B1 F H1 as1 σ w1 (envOk_up e1 p1 ev) _ fun v B2 H2 as2 r ω2 e2 p2 w2 s2 ⟨kx, C, dx, x, fs, hfr, er, hk, c, n, hz, hp⟩ => ?_
  subst er
  obtain rfl := slk_ref s2
  obtain ⟨ha, hb, vs, hh, h3⟩ := cell_insA w2 hk
  have hd : SlOk X.K B2 [] (some y) rv := sl_free hfr (slOk_up e2 p2 s1)
  refine ⟨x, C, dx, vs, rfl, hh, c, n, by rw [ats_len h3]; exact hz, ?_⟩
  have w3 := w2.write (c' := insA C dx x (putS f rv fs)) (o := .ins C dx (L2.putF f y vs)) ha hk hb ⟨hb, B2, _, Same.refl _, upd_same, rfl, _, rfl, ats_put hd h3⟩
  exact (oo.nx.up (e1.trans e2) (p1.trans p2)).here w3 (envOk_up (e1.trans e2) (p1.trans p2) ev) hp

/-! ### tuples as they are made -/
theorem ra_tupFK {r : Sl} {ds : List D} (hq : Seq ω r ds) (hl : r ≠ .val (.tuple ds)) (hp : P (.kn (ftupK ds)) ω) :
    RA X (fun xs H Q => ∃ p ys, xs = [.ref p] ∧ SqL X.K H p ys ∧ ∀ l ob, H l = none → ob.cls = .type "tuple" → ob.dict = none → Q (.ref l) (upd H l (.frz ob (.tup ys)))) [r] ω P := fun B F H as vs w s Q o => by
  obtain ⟨v, rfl, s1⟩ := rs1 s
  have fin : ∀ ys, DpAll X.K B ys ds → ∀ l ob, H l = none → ob.cls = .type "tuple" → ob.dict = none → Q (.ref l) (upd H l (.frz ob (.tup ys))) := fun ys hd l ob hl hc hn =>
    o.kn w hl ⟨l, ob, ys, rfl, upd_same, hc, hn, dpAll_up (w.new (o := .frz ob (.tup ys)) hl).2 hd⟩ hp
  cases hq with
  | tup => exact absurd rfl hl
  | lst =>
    obtain ⟨a, xs, rfl, h2, h3⟩ := slv_lst s1 w.b
    exact ⟨a, xs, rfl, h2, fun l ob => fin xs h3 l ob⟩
  | own hc =>
    obtain ⟨a, xs, rfl, _, h2, h3⟩ := slo_lst w s1 hc
    exact ⟨a, xs, rfl, SqL.of h2, fun l ob => fin xs h3 l ob⟩
def rIxT (K : Fg) : V → List V → Hp → VK → Prop := fun x xs H Q => ∃ (p : Addr) (ys : List V) (k z : V) (j : Nat), x = .ref p ∧ xs = [k] ∧ flatV k = true ∧ ys.all flatV = true ∧ SqT K H p ys ∧ ys[j]? = some z ∧ eqV z k = true ∧ (∀ m z', m < j → ys[m]? = some z' → eqV z' k = false) ∧ Q (.int (j : Nat)) H
theorem mt_tindex : MtR X "tuple.index" (rIxT X.K) := by
  intro pins s σ H x xs v us Q I rx rxs h
  obtain ⟨p, ys, k, z, j, rfl, rfl, hk, hys, hs, hj, hz, hno, q⟩ := h
  cases rx
  obtain ⟨u, rfl, ru⟩ := rxs.one
  obtain ⟨its, rv, pl, _⟩ := I.tuple hs
  obtain ⟨⟨cls, dd, dt, sl⟩, ho, hc, n, hd⟩ := pl
  simp only at hc hd
  subst hc hd
  have hl : its.toArray.size = ys.length := by rw [List.size_toArray, ← rv.length]
  have hjl : j < its.toArray.size := by rw [hl]; exact (List.getElem?_eq_some_iff.mp hj).1
  have at' : ∀ (m : Nat) (hm : m < its.toArray.size), ∃ y, ys[m]? = some y ∧ eqU k its.toArray[m] = eqV y k := fun m hm => by
    have hm' : m < ys.length := by rw [← hl]; exact hm
    obtain ⟨w, hw, hr⟩ := rv.get (List.getElem?_eq_getElem hm')
    have e := (List.getElem?_eq_some_iff.mp hw).2
    refine ⟨ys[m], List.getElem?_eq_getElem hm', ?_⟩
    have hf : flatV ys[m] = true := List.all_eq_true.mp hys _ (List.getElem_mem _)
    have e2 : its.toArray[m] = w := by rw [← e]; simp
    rw [e2, eqU_of hr hf]
  refine call_meets PySem.F.slot_tuple_index ⟨_, ho, rfl⟩ PySem.F.entry_tuple_index (PySem.F.args_tuple_index_2 _ _) (_root_.TI.tuple_indexAt p its.toArray n dd sl u (eqU k) j hjl ?_ ?_)
    ⟨ho, fun y hy => mem_eqAt ru hk rv hys y (by simpa using hy), ⟨.int (j : Nat), H, I.tok _, ⟨_, rfl⟩, q⟩⟩
  · obtain ⟨y, h1, h2⟩ := at' j hjl
    rw [hj] at h1
    cases h1
    rw [h2, hz]
  · intro m hm hmj
    obtain ⟨y, h1, h2⟩ := at' m hm
    rw [h2]
    exact hno m y hmj h1
theorem de_indexF (h : DE X o δ ω fun r ω1 => ∃ ds, r = .kn (ftupK ds) ∧ DE X e δ ω1 fun s ω2 => ∃ (d z : D) (j : Nat), s = .val d ∧ flat d = true ∧ ds.all flat = true ∧ ds[j]? = some z ∧ eqV (fv z) (fv d) = true ∧ (∀ (m : Nat) (z' : D), m < j → ds[m]? = some z' → eqV (fv z') (fv d) = false) ∧ P (.val (.int (j : Nat))) ω2)
    (hbase : attributeBase o "index" X.env (eval o X.env) = eval o X.env := by rfl)
    (hfew : ((backTo cpos (starEach (e :: []) X.env)).all (fun x => !x.1) && (backToKw cpos (keywordEach [] X.env)).all (fun x => x.1.isSome) && decide ((e :: ([] : List Expr)).length + ([] : List Keyword).length + (if ([] : List Keyword).isEmpty then 0 else 1) < 30)) = true := by rfl)
    (hline : (apos.endLine == cpos.line) = true := by rfl) (hs : starEach (e :: []) X.env = (false, eval e X.env) :: starEach [] X.env := by rfl) (hplain : (backTo cpos (starEach [] X.env)).any (·.1) = false := by rfl) :
    DE X (.Call (.Attribute o "index" apos) [e] [] cpos) δ ω P := fun B F H as σ w ev Q oo => by
  refine ⟨_, pe_bmF PySem.F.plainAttrs_tuple PySem.F.slot_tuple_index PySem.F.type_tuple_index mt_tindex pe_w (pa_cons pe_w pa_nil hs) hbase hfew hline hs hplain, ?_⟩
  refine h B F H as σ w ev _ fun v B1 H1 as1 r ω1 e1 p1 w1 s1 ⟨ds, er, q1⟩ => ?_
  subst er
  obtain ⟨a, ob, ys, rfl, h2, h3, h4, h5⟩ := slk_ftup s1
  refine ⟨⟨a, ob, _, rfl, w1.b _ _ h2, h3, h4⟩, ?_⟩
  refine q1 B1 F H1 as1 σ w1 (envOk_up e1 p1 ev) _ fun u B2 H2 as2 r2 ω2 e2 p2 w2 s2 ⟨d, z, j, er2, hf, hall, hj, hz, hno, hp⟩ => ?_
  subst er2
  obtain ⟨eu, fu⟩ := dp_flat (sl_val s2) hf
  obtain ⟨ey, fy⟩ := dpAll_flat (dpAll_up e2 h5) hall
  subst eu ey
  refine ⟨a, _, fv d, fv z, j, rfl, rfl, fu, fy, .inl (.inr ⟨ob, w2.b _ _ (e2 _ _ h2)⟩), by rw [List.getElem?_map, hj]; rfl, hz, fun m z' hm hz' => ?_, (oo.up (e1.trans e2) (p1.trans p2)).here w2 (.int _) hp⟩
  rw [List.getElem?_map] at hz'
  cases hd : ds[m]? with
  | none =>
    rw [hd] at hz'
    cases hz'
  | some d' =>
    rw [hd] at hz'
    cases hz'
    exact hno m d' hm hd
end
end
section
/-! exceptions: what is wished of one that is let out, beside what is wished of the end -/

/-- class, attributes, slots, cells -/
abbrev RX := Value → List (Str × D) → List Sl → List Cell → Prop
abbrev FsOk (K : Fg) (B : Hp) : List (Str × V) → List (Str × D) → Prop := Paired fun p q => p.1 = q.1 ∧ Dp K B p.2 q.2
def XdOk (K : Fg) (B F H : Hp) (as : List Addr) : Option Addr → List (Str × D) → Prop
  | none, fs => fs = []
  | some dx, fs => B dx = none ∧ F dx = none ∧ dx ∉ as ∧ ∃ vs, H dx = some (.xd vs) ∧ FsOk K B vs fs
def Tk (X : Cx) (B F : Hp) (as : List Addr) (R : RX) : Prop :=
  ∃ W : WX, Takes X W ∧ ∀ cls d σ' B' H' as' δ' ω' fs, Same B B' → as <+: as' → Wd X.K B' F H' as' ω' → EnvOk X.K B' as' σ' δ' → XdOk X.K B' F H' as' d fs → R cls fs δ' ω' → W cls d σ' H'
theorem Tk.up {X : Cx} {B B' F : Hp} {as as' : List Addr} {R : RX} (t : Tk X B F as R) (e : Same B B') (p : as <+: as') : Tk X B' F as' R := by
  obtain ⟨W, h1, h2⟩ := t
  exact ⟨W, h1, fun cls d σ' B2 H' as2 δ' ω' fs e2 p2 => h2 cls d σ' B2 H' as2 δ' ω' fs (e.trans e2) (p.trans p2)⟩
def DSx (X : Cx) (st : List Stmt) (δ : List Sl) (ω : List Cell) (k : Kd) (R : RX) : Prop :=
  ∀ B F H as σ, Wd X.K B F H as ω → EnvOk X.K B as σ δ → ∀ E, Lift X.K B F as k E → Tk X B F as R → wSs X st E σ H
def D1x (X : Cx) (st : Stmt) (δ : List Sl) (ω : List Cell) (k : Kd) (R : RX) : Prop :=
  ∀ B F H as σ, Wd X.K B F H as ω → EnvOk X.K B as σ δ → ∀ E, Lift X.K B F as k E → Tk X B F as R → wS X st E σ H
/-- R: at the slots of where it stands -/
def DEx (X : Cx) (e : Expr) (δ : List Sl) (ω : List Cell) (P : PO1) (R : RX) : Prop :=
  ∀ B F H as σ, Wd X.K B F H as ω → EnvOk X.K B as σ δ → ∀ Q, Out X.K B F as P Q → Tk X B F as R → wE X e σ H Q
section
variable {X : Cx} {e : Expr} {es : List Expr} {δ : List Sl} {ω : List Cell} {P : PO1} {pos : Pos} {R : RX} {k : Kd} {st : Stmt} {rest body orelse : List Stmt}
theorem dsx_of (h : DS X rest δ ω k) : DSx X rest δ ω k R := fun B F H as σ w ev E o _ => h B F H as σ w ev E o
theorem d1x_of (h : D1 X st δ ω k) : D1x X st δ ω k R := fun B F H as σ w ev E o _ => h B F H as σ w ev E o
theorem dex_of (h : DE X e δ ω P) : DEx X e δ ω P R := fun B F H as σ w ev Q o _ => h B F H as σ w ev Q o
theorem dsx_nil (h : k.nx δ ω) : DSx X [] δ ω k R := dsx_of (ds_nil h)
theorem dsx_cons (h : D1x X st δ ω { k with nx := fun δ' ω' => DSx X rest δ' ω' k R } R) : DSx X (st :: rest) δ ω k R := fun B F H as σ w ev E o t =>
  ⟨_, pss_cons ps_w pss_w, h B F H as σ w ev { E with nx := wSs X rest E } ⟨fun σ' H' B' as' δ' ω' e1 p1 w1 ev1 q => q B' F H' as' σ' w1 ev1 E (o.up e1 p1) (t.up e1 p1), o.bk, o.ct, o.rt⟩ t⟩
/-- a statement that lets nothing out -/
theorem dsx_cons0 (h : D1 X st δ ω { k with nx := fun δ' ω' => DSx X rest δ' ω' k R }) : DSx X (st :: rest) δ ω k R := dsx_cons (d1x_of h)
theorem d1x_if {t : Expr} (h : DT X t δ ω fun b ω1 => if b = true then DSx X body δ ω1 k R else DSx X orelse δ ω1 k R) : D1x X (.If t body orelse pos) δ ω k R := fun B F H as σ w ev E o tk => by
  refine ⟨_, ps_if pt_w pss_w pss_w, ?_⟩
  refine h B F H as σ w ev _ fun b B1 H1 as1 ω1 e1 p1 w1 hp => ?_
  cases b with
  | true => exact hp B1 F H1 as1 σ w1 (envOk_up e1 p1 ev) E (o.up e1 p1) (tk.up e1 p1)
  | false => exact hp B1 F H1 as1 σ w1 (envOk_up e1 p1 ev) E (o.up e1 p1) (tk.up e1 p1)
theorem d1x_expr (h : DEx X e δ ω (fun _ ω1 => k.nx δ ω1) R) (hs : swapsWith e none pos.line X.env = pure false := by rfl) : D1x X (.Expr e pos) δ ω k R := fun B F H as σ w ev E o t =>
  ⟨_, ps_expr pe_w hs, h B F H as σ w ev _ (fun v B1 H1 as1 r ω1 e1 p1 w1 s1 hp => (o.nx.up e1 p1).here w1 (envOk_up e1 p1 ev) hp) t⟩
theorem d1x_ret (h : DEx X e δ ω k.rt R) : D1x X (.Return (some e) pos) δ ω k R := fun B F H as σ w ev E o t => ⟨_, ps_ret pe_w, h B F H as σ w ev _ o.rt t⟩
theorem d1x_asg {i : Nat} {x : Str} {p : Pos} (hN : X.N.Nodup) (hi : X.N[i]? = some x) (hx : Loc X.env.scope x) (h : DEx X e δ ω (fun r ω1 => k.nx (δ.set i r) ω1) R) (hs : swapsWith e (some (.Name x p)) pos.line X.env = pure false := by rfl)
    (hf : X.fn x = true ∨ X.env.scope.names.lookup x = some .local := by first | exact .inl rfl | exact .inr rfl | assumption) : D1x X (.Assign [.Name x p] e pos) δ ω k R := fun B F H as σ w ev E o t =>
  ⟨_, ps_set hN hi hx pe_w hs hf, h B F H as σ w ev _ (fun v B1 H1 as1 r ω1 e1 p1 w1 s1 hp => (o.nx.up e1 p1).here w1 (envOk_set s1 i (envOk_up e1 p1 ev)) hp) t⟩
end

/-! ### classes of exceptions, raise -/
/-- an own class of exceptions that derives from ValueError, without own __init__ -/
structure ExcC (K : Fg) (mg : Str → Option Value) (x : Str) (C : Addr) : Prop where
  q : PySem.W.excIn K C [.type "ValueError", .type "Exception", .type "BaseException", .type "object"] "ValueError.__new__" = true
  m : mg x = some (.ref C)
  kp : PySem.W.keepIn K (.ref C) = true
  r1 : PySem.W.subIn K (.ref C) (.type "BaseException") = some true
  r2 : PySem.W.typeIn K (.ref C) = some (.type "type")
/-- what the clause of the class at c says of an exception of the class at C -/
theorem exm_mk {K : Fg} {C c : Addr} {b : Bool} (h1 : PySem.W.subIn K (.ref c) (.type "BaseException") = some true) (h2 : PySem.W.isClsIn K c = true) (h3 : PySem.W.typeIn K (.ref c) = some (.type "type")) (h4 : PySem.W.subIn K (.ref C) (.ref c) = some b) :
    PySem.W.exmOne K (.ref C) (.ref c) = some b := by
  have h2' : (PySem.W.clsIn K c).isSome = true := h2
  unfold PySem.W.exmOne
  rw [h1, if_pos (by rfl)]
  show (if ((PySem.W.clsIn K c).isSome && PySem.W.typeIn K (.ref c) == some (.type "type")) = true then PySem.W.subIn K (.ref C) (.ref c) else none) = some b
  rw [h2', h3, if_pos (by rfl)]
  exact h4
section
variable {X : Cx} {e : Expr} {es : List Expr} {δ : List Sl} {ω : List Cell} {P : PO1} {pos : Pos} {R : RX} {k : Kd} {st : Stmt} {rest body orelse : List Stmt}
theorem pmk_own0 {C : Addr} {x : Str} {p : Pos} (c : ExcC X.K X.mg x C) (hg : Gl X x) (hdb : (x == ("__debug__" : Str)) = false := by decide) : PMk X (.Call (.Name x p) [] [] pos) (fun _ H Q => Q (.ref C) none H) := by
  intro pins s σ H Q I h
  refine wpAny_Call_Name_kw (ld_glob I hg c.m ?_ hdb)
  refine PySem.W.callWith_K0 I.kIn c.kp ?_
  show wpAny _ _ (call (.ref C) []) _ _ _
  obtain ⟨bm, N, nm, qn, bs, hdct, sn, sub, ab, col, dd, k0, k1, k2, k3, k5, mN, hC, hN, hni, T⟩ := exc_obj I.kIn c.q
  refine wpAny_call_exc_subT PySem.F.excBase_ValueError T hC hN hni (fun h' e hm => ?_) (by show 0 ≤ sizeLine; rw [sizeLine_eq]; omega)
  exact mk_of I hm (raises_own c.r1 c.r2) h (I.hok.gone hm.new)
/-- raise x() -/
theorem d1x_raise {C : Addr} {x : Str} {p pos' : Pos} (hc : X.calm = true) (c : ExcC X.K X.mg x C) (hg : Gl X x) (h : R (.ref C) [] δ ω) (hdb : (x == ("__debug__" : Str)) = false := by decide) : D1x X (.Raise (some (.Call (.Name x p) [] [] pos)) none pos') δ ω k R := fun B F H as σ w ev E o t => by
  obtain ⟨W, h1, h2⟩ := t
  exact ⟨_, ps_raise hc h1 (pmk_own0 c hg hdb), h2 _ none σ B H as δ ω [] (Same.refl _) (List.prefix_refl _) w ev rfl h⟩
end

/-! ### the promise of a def that may raise -/
abbrev RC := Value → List (Str × D) → List Cell → Prop
def spX (K : Fg) (φ : List Sl → List Cell → PO1 → RC → Prop) : Sp := fun vs H Q E => ∃ B F as rs ω Pp Rp, Wd K B F H as ω ∧ RsOk K B as vs rs ∧ φ rs ω Pp Rp ∧
  (∀ v B' H' as' r ω', Same B B' → as <+: as' → Wd K B' F H' as' ω' → (∀ c ∈ ω'.drop ω.length, c.live = true) → SlOk K B' as' (some v) r → Pp r ω' → Q v H') ∧
  ∀ cls d B' H' ω' fs, Same B B' → Wd K B' F H' as ω' → XdOk K B' F H' as d fs → Rp cls fs ω' → E cls d H'
structure HasX (P : Program) (w : World) (K : Fg) (mg : Str → Option Value) (base : Heap) (k : Nat) (x : Str) (sp : Sp) : Prop where
  ex : ∃ (f : Addr) (fd : FuncData) (ps : List Str), FnOk P w K mg base (L2.CX P w) k f fd ps sp ∧ mg x = some (.ref f) ∧ PySem.W.keepIn K (.ref f) = true ∧ Binds K fd ps []
theorem xd_take {K : Fg} {B F H : Hp} {as as' : List Addr} (p : as <+: as') {d : Option Addr} {fs : List (Str × D)} (h : XdOk K B F H as' d fs) : XdOk K B F H as d fs := by
  cases d with
  | none => exact h
  | some dx =>
    obtain ⟨h1, h2, h3, h4⟩ := h
    exact ⟨h1, h2, fun z => h3 (p.subset z), h4⟩
section
variable {P : Program} {w : World} {K : Fg} {mg : Str → Option Value} {base : Heap} {x qual : Str} {st : Stmt} {f : Addr} {fd : FuncData} {N ps : List Str} {k : Nat}
abbrev BodyX (P : Program) (w : World) (K : Fg) (mg : Str → Option Value) (base : Heap) (N : List Str) (qual : Str) (st : Stmt) (f : Addr) (k : Nat) (p : Cx → Prop) : Prop :=
  ∀ (cdv : Value) (A : Around) (outer : List Env) (s : Shared) (H : Hp) (E : XK), Room k (A.deeper (envOfC qual (defScope st) s.heap.objs.size f cdv)) → p (cxOf (L2.CX P w) P w K mg base N qual (defScope st) f cdv A outer s H E)
def RetR (n : Nat) (Rp : RC) : RX := fun cls fs _ ω' => Rp cls fs (ω'.take n)
theorem ok_X {φ : List Sl → List Cell → PO1 → RC → Prop} (F : Fun K x qual st f fd) (S : FnScope N ps (defScope st)) (hn : ∀ rs ω Q R, φ rs ω Q R → rs.length = ps.length)
    (hb : ∀ rs ω Q R, φ rs ω Q R → BodyX P w K mg base N qual st f k fun X => DSx X (defBody st) (slots N rs) ω { nx := fun _ ω' => RetU ω.length Q (.val .none) ω', rt := RetU ω.length Q } (RetR ω.length R)) :
    FnOk P w K mg base (L2.CX P w) (k + 1) f fd ps (spX K φ) := by
  refine F.okX S (fun vs H Q E h => ?_) fun cdv A outer s H vs Q E hr h => ?_
  · obtain ⟨B, F', as, rs, ω, P', R', hw, hd, hφ, _⟩ := h
    rw [rsOk_len hd]
    exact hn _ _ _ _ hφ
  · obtain ⟨B, F', as, rs, ω, P', R', hw, hd, hφ, hq, hx⟩ := h
    refine ⟨_, pss_w, hb rs ω P' R' hφ cdv A outer s H E hr B F' H as _ hw (env_start (env_of_rs hd)) _ ⟨fun σ' H' B' as' δ' ω' e1 p1 w1 ev1 q => ?_, fun _ _ _ _ _ _ _ _ _ _ q => q.elim, fun _ _ _ _ _ _ _ _ _ _ q => q.elim, fun v B' H' as' r ω' e1 p1 w1 s1 q => ?_⟩ ?_⟩
    · exact retU_run hw.len hq e1 p1 w1 (slv .non) q
    · exact retU_run hw.len hq e1 p1 w1 s1 q
    · refine ⟨_, takes_of rfl rfl rfl rfl, fun cls d σ' B' H' as' δ' ω' fs e1 p1 w1 ev1 hxd hR => ?_⟩
      obtain ⟨t, ht⟩ := p1
      have hn : ω.length ≤ ω'.length := by rw [← w1.len, ← ht, List.length_append, ← hw.len]; omega
      have hnA : ω.length ≤ as'.length := by rw [w1.len]; exact hn
      have htk : as'.take ω.length = as := by rw [← ht, ← hw.len, List.take_left]
      have w2 := w1.pick (ks := List.range ω.length) (fun i hi => Nat.lt_of_lt_of_le (List.mem_range.mp hi) hn) List.nodup_range
      rw [pk_range hn, pkA_range hnA, htk] at w2
      exact hx cls d B' H' _ fs e1 w2 (xd_take ⟨t, ht⟩ hxd) hR
end
section
variable {X : Cx} {e : Expr} {es : List Expr} {δ : List Sl} {ω : List Cell} {P : PO1} {pos : Pos} {R : RX}
/-- the call of a def that may raise; ks: the cells that it is handed -/
theorem dex_call {x : Str} {p : Pos} {j : Nat} {φ : List Sl → List Cell → PO1 → RC → Prop} (C : HasX X.prog X.w X.K X.mg X.base j x (spX X.K φ)) (hr : Room j X.A) (hg : Gl X x)
    (h : DA X (e :: es) δ ω fun rs ω1 => ∃ (ks : List Nat) (rs' : List Sl), rs = rs'.map (ren ks ω1.length) ∧ (∀ i ∈ ks, i < ω1.length) ∧ ks.Nodup ∧ ownsLt ks.length rs' = true ∧
      φ rs' (pkC ω1 ks) (fun r ω2 => P (ren ks ω1.length r) (putC ω1 ks ω2 ++ ω2.drop ks.length)) (fun cls fs ω2 => ks.length = ω2.length → R cls fs δ (putC ω1 ks ω2)))
    (hdb : (x == ("__debug__" : Str)) = false := by decide) (he : starEach (e :: es) X.env = (false, eval e X.env) :: starEach es X.env := by rfl) (hpl : (backTo pos (starEach es X.env)).any (·.1) = false := by rfl) : DEx X (.Call (.Name x p) (e :: es) [] pos) δ ω P R := fun B F H as σ w ev Q o tk => by
  obtain ⟨f, fd, ps, hf, hm, hk, hb⟩ := C.ex
  obtain ⟨W, tk1, tk2⟩ := tk
  refine ⟨_, pe_callS hf hr hg hm hk hb (passAt tk1) pa_w hdb he hpl, ?_⟩
  refine h B F H as σ w ev _ fun vs B1 H1 as1 rs ω1 e1 p1 w1 s1 ⟨ks, rs', er, hks, hnd, hown, hφ⟩ => ?_
  subst er
  have hka : ∀ i ∈ ks, i < as1.length := fun i hi => by rw [w1.len]; exact hks i hi
  obtain ⟨F', wF, back, fre⟩ := w1.frameL hks hnd
  have hlC : (pkC ω1 ks).length = ks.length := by unfold pkC; rw [List.length_map]
  have hlA : (pkA as1 ks).length = ks.length := by unfold pkA; rw [List.length_map]
  rw [← w1.len] at s1
  refine ⟨B1, F', pkA as1 ks, rs', pkC ω1 ks, _, _, wF, rs_pick hka (ownsLt_mem hown) s1, hφ, fun v B' H' as' r ω' sb pp w' hlv hs hp => ?_, fun cls d B' H' ω' fs sb w' hxd hR => ?_⟩
  · rw [hlC] at hlv
    have w2 := back B' H' as' ω' sb pp w' hlv
    have s2 := sl_unpick hka pp hs
    rw [w1.len] at s2
    exact o v B' H' _ _ _ (e1.trans sb) (p1.trans (List.prefix_append _ _)) w2 s2 hp
  · have hle : ω'.length = ks.length := by rw [← w'.len, hlA]
    have w2 := back B' H' (pkA as1 ks) ω' sb (List.prefix_refl _) w' (by rw [← hle, List.drop_length]; exact nofun)
    rw [← hle, List.drop_length, hle, ← hlA, List.drop_length, List.append_nil, List.append_nil] at w2
    have ev1 := envOk_up sb (List.prefix_refl _) (envOk_up e1 p1 ev)
    refine tk2 cls d σ B' H' as1 δ _ fs (e1.trans sb) p1 w2 ev1 ?_ (hR hle.symm)
    cases d with
    | none => exact hxd
    | some dx =>
      obtain ⟨h1, h2, h3, vs', h4, h5⟩ := hxd
      have hB1 : B1 dx = none := by
        cases q : B1 dx with
        | none => rfl
        | some u =>
          rw [sb _ _ q] at h1
          cases h1
      obtain ⟨f1, f2⟩ := fre dx hB1 h2 h3
      exact ⟨h1, f2, f1, vs', h4, h5⟩
end

/-! ### try .. except x: all that the body lets out is caught -/
section
variable {X : Cx} {δ : List Sl} {ω : List Cell} {k : Kd} {b₀ : Stmt} {body suite : List Stmt} {x : Str} {c : Value} {np pos pos' : Pos}
theorem d1_tryO (hs : X.stack = X.env :: X.outer) (hf : X.env.frame = some X.env.locals) (hc : Names X x c)
    (h : ∀ pn xe, PassesOwn (model X.prog X.w) X.A X.env xe → DSx (X.tr pn xe) body δ ω k fun cls fs δ' ω' => PySem.W.exmOne X.K cls c = some true ∧ ∀ a oe pn, DS (X.suite a ((a, oe) :: pn)) (b₀ :: suite) δ' ω' k) :
    D1 X (.Try body [.ExceptHandler (some (.Name x np)) none (b₀ :: suite) pos'] [] [] pos) δ ω k := fun B F H as σ w ev E o => by
  refine ⟨_, ps_try_only (tb := fun W D σ H => ∀ pn xe, Takes (X.tr pn xe) W → PassesOwn (model X.prog X.w) X.A X.env xe → wSs (X.tr pn xe) body D σ H) (ts := fun a _ _ D σ H => ∀ oe pn, wSs (X.suite a ((a, oe) :: pn)) (b₀ :: suite) D σ H) hs hf hc takes0
    (fun W pn xe tk po => ⟨fun pins s σ H D I q => pss_w.run pins s σ H D I (q pn xe tk po)⟩) (fun a oe cls d pn _ _ => ⟨fun pins s σ H D I q => pss_w.run pins s σ H D I (q oe pn)⟩), ?_⟩
  intro pn xe tk po
  refine h pn xe po B F H as σ w ev E o ⟨_, tk, fun cls d σ' B' H' as' δ' ω' fs e1 p1 w1 ev1 _ ⟨hm, hsu⟩ => ⟨true, hm, fun _ a _ oe pn => ?_, nofun⟩⟩
  exact hsu a oe pn B' F H' as' σ' w1 ev1 E (o.up e1 p1)
end
end
section
/-! instances with slots: made, called, asked -/
theorem HasM.fr {P : Program} {w : World} {K : Fg} {mg : Str → Option Value} {base : Heap} {j : Nat} {g : Addr} {sp : Sp} (M : HasM P w K mg base j g sp) : FnR P w K mg base CX0 j g (fun vs H Q E => sp (vs ++ []) H Q E) := by
  obtain ⟨fd, ps, hf, hb⟩ := M.ex
  exact hf.raw hb .nil
/-- a method's def that may raise -/
structure HasMX (P : Program) (w : World) (K : Fg) (mg : Str → Option Value) (base : Heap) (k : Nat) (g : Addr) (sp : Sp) : Prop where
  ex : ∃ (fd : FuncData) (ps : List Str), FnOk P w K mg base (L2.CX P w) k g fd ps sp ∧ Binds K fd ps []
theorem HasMX.fr {P : Program} {w : World} {K : Fg} {mg : Str → Option Value} {base : Heap} {j : Nat} {g : Addr} {sp : Sp} (M : HasMX P w K mg base j g sp) : FnR P w K mg base (L2.CX P w) j g (fun vs H Q E => sp (vs ++ []) H Q E) := by
  obtain ⟨fd, ps, hf, hb⟩ := M.ex
  exact hf.raw hb .nil
/-- a call that raises nothing after all -/
theorem passX0 {X : Cx} : Passes (L2.CX X.prog X.w) X E0 := by
  rintro pins σ H s e s' _ ⟨a, B, H', cls, d, ea, fl, hok, ub, na, os, ag, he⟩
  exact he.elim
section
variable {K : Fg} {B F H : Hp} {as : List Addr} {ω : List Cell} {vs : List V} {P : PO1} {Q : VK} {E : XK}
theorem spS_at {φ : List Sl → (Sl → Prop) → Prop} {rs : List Sl} (w : Wd K B F H as ω) (o : Out K B F as P Q) (hf : rs.all Sl.free = true) (hr : RsOk K B as vs rs) (hφ : φ rs fun s => s.free = true ∧ P s ω) : spS K φ vs H Q E := by
  obtain ⟨F', wF, _, _, back⟩ := w.frame
  exact ⟨B, F', rs, _, wF, rs_free hf hr, hφ, fun v B' H' r sb w' hs ⟨hrf, hp⟩ => o v B' H' as r ω sb (List.prefix_refl _) (back B' H' sb w') (sl_free hrf hs) hp⟩
theorem spX_at {φ : List Sl → List Cell → PO1 → RC → Prop} {rs' : List Sl} {ks : List Nat} {R : RC} (w : Wd K B F H as ω) (o : Out K B F as P Q) (hks : ∀ i ∈ ks, i < ω.length) (hnd : ks.Nodup) (hown : ownsLt ks.length rs' = true) (hr : RsOk K B as vs (rs'.map (ren ks ω.length)))
    (hφ : φ rs' (pkC ω ks) (fun r ω2 => P (ren ks ω.length r) (putC ω ks ω2 ++ ω2.drop ks.length)) (fun cls fs ω2 => ks.length = ω2.length → R cls fs (putC ω ks ω2)))
    (hx : ∀ cls d B' H' ω' fs, Same B B' → Wd K B' F H' as ω' → XdOk K B' F H' as d fs → R cls fs ω' → E cls d H') : spX K φ vs H Q E := by
  have hka : ∀ i ∈ ks, i < as.length := fun i hi => by rw [w.len]; exact hks i hi
  obtain ⟨F', wF, back, fre⟩ := w.frameL hks hnd
  have hlC : (pkC ω ks).length = ks.length := by unfold pkC; rw [List.length_map]
  have hlA : (pkA as ks).length = ks.length := by unfold pkA; rw [List.length_map]
  rw [← w.len] at hr
  refine ⟨B, F', pkA as ks, rs', pkC ω ks, _, _, wF, rs_pick hka (ownsLt_mem hown) hr, hφ, fun v B' H' as' r ω' sb pp w' hlv hs hp => ?_, fun cls d B' H' ω' fs sb w' hxd hR => ?_⟩
  · rw [hlC] at hlv
    have w2 := back B' H' as' ω' sb pp w' hlv
    have s2 := sl_unpick hka pp hs
    rw [w.len] at s2
    exact o v B' H' _ _ _ sb (List.prefix_append _ _) w2 s2 hp
  · have hle : ω'.length = ks.length := by rw [← w'.len, hlA]
    have w2 := back B' H' (pkA as ks) ω' sb (List.prefix_refl _) w' (by rw [← hle, List.drop_length]; exact nofun)
    rw [← hle, List.drop_length, hle, ← hlA, List.drop_length, List.append_nil, List.append_nil] at w2
    refine hx cls d B' H' _ fs sb w2 ?_ (hR hle.symm)
    cases d with
    | none => exact hxd
    | some dx =>
      obtain ⟨h1, h2, h3, vs', h4, h5⟩ := hxd
      have hB1 : B dx = none := by
        cases q : B dx with
        | none => rfl
        | some u =>
          rw [sb _ _ q] at h1
          cases h1
      obtain ⟨f1, f2⟩ := fre dx hB1 h2 h3
      exact ⟨h1, f2, f1, vs', h4, h5⟩
theorem Wd.madeA (w : Wd K B F H [] []) {C x dx : Addr} (hx : H x = none) (hdx : H dx = none) (hne : dx ≠ x) : Wd K B F (upd (upd H dx (.own x)) x (.ins C dx [])) [dx, x] [ownC x, insA C dx x []] := by
  have w1 : Wd K B F (upd H dx (.own x)) [dx] [ownC x] := w.own hdx fun hb => ⟨hb, upd_same⟩
  have hx1 : upd H dx (.own x) x = none := by rw [upd_ne (Ne.symm hne)]; exact hx
  exact w1.own hx1 fun hb => ⟨hb, B, _, Same.refl _, upd_same, rfl, [], rfl, .nil⟩
theorem madeA_end {F' : Hp} (back : ∀ B' H', Same B B' → Wd K B' F' H' [] [] → Wd K B' F H' as ω) {C x dx : Addr} {fs : List (Str × Sl)} {B' H' : Hp} (sb : Same B B') (w' : Wd K B' F' H' [dx, x] [ownC x, insA C dx x fs]) :
    ∃ B2, Same B B2 ∧ Wd K B2 F H' as ω ∧ insI C fs K B2 (.ref x) := by
  obtain ⟨q1, q2⟩ := (w'.at' 0 dx (ownC x) rfl rfl).2.2
  obtain ⟨_, hb, vs, h3, h4⟩ := cell_insA w' (k := 1) rfl
  obtain ⟨w2, s2⟩ := w'.freezeG (k := 0) rfl q1 q2
  have hne : x ≠ dx := fun z => by
    have := w'.nd
    rw [z] at this
    simp at this
  obtain ⟨w3, s3⟩ := w2.freezeG (k := 1) (a := x) rfl (by rw [upd_ne hne]; exact hb) h3
  have s13 := s2.trans s3
  exact ⟨_, sb.trans s13, back _ H' (sb.trans s13) w3.drop, x, dx, vs, rfl, upd_same, ats_up s13 h4⟩
end
section
variable {X : Cx} {e o : Expr} {es : List Expr} {δ : List Sl} {ω : List Cell} {P : PO1} {pos apos : Pos} {f : Str}
/-- what a run of __init__ that hands back just the instance is worth: it is known for good from then on -/
theorem makeI_run {C g y dx : Addr} {φ : List Sl → List Cell → PO1 → Prop} {B1 F H1 : Hp} {as1 : List Addr} {ω1 : List Cell} {vs : List V} {rs : List Sl} {Q : VK} (w1 : Wd X.K B1 F H1 as1 ω1) (s1 : RsOk X.K B1 as1 vs rs) (hfr : rs.all Sl.free = true) (oo : Out X.K B1 F as1 P Q) (hy : H1 y = none) (hdx : H1 dx = none) (hne : dx ≠ y)
    (hφ : φ (.kn (refK y) :: rs) [ownC y, insA C dx y []] fun r ω2 => r = .val .none ∧ ∃ fs, ω2 = [ownC y, insA C dx y fs] ∧ P (.kn (insI C fs)) ω1) :
    spU X.K φ (.ref y :: (vs ++ [])) (upd (upd H1 dx (.own y)) y (.ins C dx [])) (fun v H2 => v = .non ∧ Q (.ref y) H2) E0 := by
  obtain ⟨F', wF, _, _, back⟩ := w1.frame
  refine ⟨B1, F', [dx, y], .kn (refK y) :: rs, _, _, wF.madeA hy hdx hne, by rw [List.append_nil]; exact .cons ref_slot (rs_free hfr s1), hφ, fun v B' H' as' r ω' sb pp w' hlv hs ⟨er, fs, eω, hp⟩ => ?_⟩
  subst er eω
  obtain ⟨t, ht⟩ := pp
  have hl := w'.len
  have et : t = [] := by
    rw [← ht] at hl
    simpa using hl
  subst et
  have ea : as' = [dx, y] := by rw [← ht]; rfl
  subst ea
  obtain ⟨B2, sb2, w2, hi⟩ := madeA_end back sb w'
  exact ⟨dp_non_inv (sl_val hs), oo (.ref y) B2 H' as1 (.kn (insI C fs)) ω1 sb2 (List.prefix_refl _) w2 ⟨_, B2, rfl, Same.refl _, hi⟩ hp⟩
theorem de_makeI {x : Str} {p : Pos} {C g : Addr} {j : Nat} {φ : List Sl → List Cell → PO1 → Prop} (M : HasM X.prog X.w X.K X.mg X.base j g (spU X.K φ)) (mk : Mk X.K C g) (hr : Room (j + 1) X.A) (hg : Gl X x) (hm : X.mg x = some (.ref C))
    (h : DA X (e :: es) δ ω fun rs ω1 => rs.all Sl.free = true ∧ ∀ y dx, φ (.kn (refK y) :: rs) [ownC y, insA C dx y []] fun r ω2 => r = .val .none ∧ ∃ fs, ω2 = [ownC y, insA C dx y fs] ∧ P (.kn (insI C fs)) ω1)
    (hdb : (x == ("__debug__" : Str)) = false := by decide) (he : starEach (e :: es) X.env = (false, eval e X.env) :: starEach es X.env := by rfl) (hpl : (backTo pos (starEach es X.env)).any (·.1) = false := by rfl) : DE X (.Call (.Name x p) (e :: es) [] pos) δ ω P := fun B F H as σ w ev Q oo => by
  obtain ⟨fd, ps, hf, hbd⟩ := M.ex
  refine ⟨_, pe_make mk hf hr hg hm hbd .nil pass0 pa_w hdb he hpl, ?_⟩
  refine h B F H as σ w ev _ fun vs B1 H1 as1 rs ω1 e1 p1 w1 s1 ⟨hfr, hφ⟩ y dx hy hdx hne => ?_
  exact makeI_run (g := g) w1 s1 hfr (oo.up e1 p1) hy hdx hne (hφ y dx)
theorem de_makeVI {x : Str} {p : Pos} {C g : Addr} {j : Nat} {φ : List Sl → List Cell → PO1 → Prop} (M : HasM X.prog X.w X.K X.mg X.base j g (spU X.K φ)) (mk : Mk X.K C g) (hr : Room (j + 1) X.A)
    (hx : DE X (.Name x p) δ ω fun r0 ω0 => r0 = .kn (clsK C) ∧ DA X (e :: es) δ ω0 fun rs ω1 => rs.all Sl.free = true ∧ ∀ y dx, φ (.kn (refK y) :: rs) [ownC y, insA C dx y []] fun r ω2 => r = .val .none ∧ ∃ fs, ω2 = [ownC y, insA C dx y fs] ∧ P (.kn (insI C fs)) ω1)
    (he : starEach (e :: es) X.env = (false, eval e X.env) :: starEach es X.env := by rfl) (hpl : (backTo pos (starEach es X.env)).any (·.1) = false := by rfl) : DE X (.Call (.Name x p) (e :: es) [] pos) δ ω P := fun B F H as σ w ev Q oo => by
  obtain ⟨fd, ps, hf, hbd⟩ := M.ex
  refine ⟨fun σ H Q => wE X (.Name x p) σ H fun v H0 => v = .ref C ∧ tMake C (spU X.K φ) [] E0 (wA X (e :: es)) σ H0 Q, ⟨fun pins s σ H Q I hh => ?_⟩, ?_⟩
  · refine wpAny_Call_Name_kw (L2.thn (pe_w.run pins s σ H _ I hh) fun u s0 ⟨v, H0, I0, r0, ev0, q0⟩ => ?_)
    subst ev0
    obtain rfl : u = Value.ref C := r0
    refine PySem.W.callWith_K (h₀ := X.base) I0.ok.mod.kin mk.kp (L2.thn (pa_w.run pos pins s0 σ H0 _ I0 q0) fun us s1 ⟨vs, H1, I1, r1, q1⟩ => ⟨I1.kIn, ?_⟩) he hpl
    exact run_make mk hf hr hbd .nil pass0 I1 r1 q1
  · refine hx B F H as σ w ev _ fun v B0 H0 as0 r0 ω0 e0 p0 w0 s0 ⟨er0, h⟩ => ?_
    subst er0
    obtain ⟨v', B9, e9, sb9, hv⟩ := s0
    cases e9
    have hv' : v = .ref C := hv
    subst hv'
    refine ⟨rfl, ?_⟩
    refine h B0 F H0 as0 σ w0 (envOk_up e0 p0 ev) _ fun vs B1 H1 as1 rs ω1 e1 p1 w1 s1 ⟨hfr, hφ⟩ y dx hy hdx hne => ?_
    exact makeI_run (g := g) w1 s1 hfr (oo.up (e0.trans e1) (p0.trans p1)) hy hdx hne (hφ y dx)
/-- e.f, a property of an instance that is known for good -/
theorem de_propI {C p g : Addr} {j : Nat} {φ : List Sl → (Sl → Prop) → Prop} (M : HasM X.prog X.w X.K X.mg X.base j g (spS X.K φ)) (c : Cls X.K C) (hp : PropOf X.K C f p g) (hr : Room (j + 1) X.A)
    (h : DE X e δ ω fun r ω1 => ∃ fs, r = .kn (insI C fs) ∧ φ [r] fun s => s.free = true ∧ P s ω1) (hb : attributeBase e f X.env (eval e X.env) = eval e X.env := by rfl) : DE X (.Attribute e f pos) δ ω P := fun B F H as σ w ev Q oo => by
  obtain ⟨fd, ps, hf, hbd⟩ := M.ex
  refine ⟨_, pe_prop pe_w c hp hf hr hbd .nil pass0 hb, ?_⟩
  refine h B F H as σ w ev _ fun v B1 H1 as1 r ω1 e1 p1 w1 s1 ⟨fs, er, hφ⟩ => ?_
  subst er
  obtain ⟨a, dx, vs, rfl, h2, h3⟩ := slk_insI s1
  exact ⟨a, dx, vs, rfl, w1.b _ _ h2, spS_at w1 (oo.up e1 p1) rfl (.cons s1 .nil) hφ⟩
/-- repr of one -/
theorem de_reprI {p : Pos} {C g : Addr} {j : Nat} {φ : List Sl → (Sl → Prop) → Prop} (hs : PySem.W.findIn X.K (.ref C) "__repr__" = some (some (.ref g))) (hf : PySem.W.isFn X.K (.ref g) = true) (M : HasM X.prog X.w X.K X.mg X.base j g (spS X.K φ)) (hr : Room (j + 1) X.A)
    (hg : Gl X "repr") (hm : X.mg "repr" = none) (h : DE X e δ ω fun r ω1 => ∃ fs, r = .kn (insI C fs) ∧ φ [r] fun s => ∃ y, s = .val (.str y) ∧ P s ω1)
    (he : starEach [e] X.env = (false, eval e X.env) :: starEach [] X.env := by rfl) : DE X (.Call (.Name "repr" p) [e] [] pos) δ ω P := fun B F H as σ w ev Q oo => by
  obtain ⟨fd, ps, hfn, hbd⟩ := M.ex
  refine ⟨_, pe_callB (call_reprO hs hf hfn hbd hr) hg hm PyProof.Rows.boot_repr (pa_cons pe_w pa_nil he) (by decide) (by decide) he rfl, ?_⟩
  refine h B F H as σ w ev _ fun v B1 H1 as1 r ω1 e1 p1 w1 s1 ⟨fs, er, hφ⟩ => ?_
  subst er
  obtain ⟨a, dx, vs, rfl, h2, h3⟩ := slk_insI s1
  obtain ⟨F', wF, _, _, back⟩ := w1.frame
  refine ⟨a, dx, vs, rfl, w1.b _ _ h2, B1, F', _, _, wF, .cons (sl_free rfl s1) .nil, hφ, fun v B' H' r sb w' hs ⟨y, er, hp⟩ => ?_⟩
  subst er
  obtain rfl := dp_str_inv (sl_val hs)
  exact ⟨y, rfl, oo _ B' H' as1 _ ω1 (e1.trans sb) p1 (back B' H' sb w') (sl_free rfl hs) hp⟩
end
end
section
/-! operators, tests, static methods of instances -/
/-! ### != by an own == -/
section
variable {prog : Program} {w : World} {A : Around} {E : Value → Shared → Prop} {s : Shared} {K : PySem.W.Frag} {x C L f : Addr} {h₀ : Heap} {m : Str → Option Value} {ox : Obj} {od : Option Obj} {b tb : Value}
open PySem.W in
theorem bound_bi {M : Model} {name : Str} {g : String} {args : List Value} {Q : Option Value → Shared → Prop} (X : K.In s.heap) (I : InstAt s.heap x ox C od) (hs : findIn K (.ref C) name = some (some (.builtin g))) (hb : bindSpecial (.builtin g) (.ref x) = pure (.builtin g, [.ref x]))
    (h : wpAny M A (call (.builtin g) (.ref x :: args)) (fun v => Q (some v)) E s) : wpAny M A (callSpecialIfBound? (.ref x) name args) Q E s := by
  simp only [bindSpecialIfBound?, callSpecialIfBound?]
  refine wpAny_holding (wpAny_bind (wpAny_bind (wpAny_bind (I.type.here ((looks_findIn X hs).here ?_)))))
  refine wpAny_bind (wpAny_askSetting (wpAny_ite ?_))
  have done : wpAny M A (call (.builtin g) ([.ref x] ++ args) >>= fun v => pure (some v)) Q E s := wpAny_bind (wpAny_mono h (fun v s' z => wpAny_pure z) fun _ _ z => z)
  rw [hb]
  split
  · exact wpAny_bind (wpAny_pure (wpAny_pure (by exact done)))
  · exact wpAny_tryCatch (wpAny_bind (wpAny_pure (wpAny_pure (by exact done))))
theorem ne_plain : plainId "object.__ne__" = true := by decide +kernel
theorem ne_kind : builtinKind "object.__ne__" = some .slot := by decide +kernel
theorem ne_split : splitId "object.__ne__" = some ("object", "__ne__") := by decide +kernel
open PySem.W in
/-- != where == is the program's own: the other truth -/
theorem ne_lib {Q : Value → Shared → Prop} (hu : A.units + 1 < cLine) (F : Fr h₀ L s.heap m) (X₀ : K.In h₀) (I : InstAt s.heap x ox C od) (hb : Looks (model prog w) s.heap (typeOf b) tb) (hn : notFirst K C tb = true) (ho : mroIn K C (.type "object") = some true)
    (hne : findIn K (.ref C) "__ne__" = some (some (.builtin "object.__ne__"))) (hs : findIn K (.ref C) "__eq__" = some (some (.ref f))) (hf : isFn K (.ref f) = true)
    (h : wpAny (model prog w) A.in1 (call (.ref f) [.ref x, b]) (fun v s' => ∃ k, v = .bool k ∧ Q (.bool (!k)) s') E s) : wpAny (model prog w) A (richCompare .NotEq (.ref x) b) Q E s := by
  have X := X₀.keeps F.keep
  have hu0 : A.units < cLine := by omega
  have sub : Looks (model prog w) s.heap (isInstance (.ref x) (.type "object")) true := I.type.andThen (looks_mroIn X ho)
  have one : wpAny (model prog w) A (tryCompare (.ref x) (cmpInfo .NotEq).2.1 b) (fun r s' => ∃ v, r = some v ∧ Q v s') E s := by
    unfold tryCompare
    refine wpAny_bind (bound_bi (name := "__ne__") X I hne (PySem.F.slot_object_ne.bind _) ?_)
    refine wpAny_call (codeAny_call_builtin ne_plain PySem.F.entry_object_ne (@check_slot (model prog w) _ _ s "object.__ne__" "object" "__ne__" (.ref x) [b] [] _ ne_kind ne_split sub (PySem.F.args_object_ne_2 _ _) ?_))
    show wpAny _ _ (Builtin.«object.__ne__» ⟨[.ref x, b], []⟩) _ _ _
    unfold Builtin.«object.__ne__»
    show wpAny _ _ (cRoomFor "comparison" [.ref x, b] >>= _) _ _ _
    refine wpAny_bind (wpAny_cRoomFor (by show A.in1.units < cLine; exact hu) ?_)
    refine wpAny_bind (ifBound_K X I hs hf (wpAny_mono h (fun v s' z => ?_) fun _ _ z => z))
    obtain ⟨k, rfl, q⟩ := z
    show wpAny _ _ (truthy (.bool k) >>= fun t => ret (.bool (!t))) _ _ _
    refine wpAny_bind ?_
    show wpAny _ _ (pure k) _ _ _
    refine wpAny_pure (wpAny_pure ?_)
    exact wpAny_pure ⟨.bool (!k), rfl, q⟩
  unfold richCompare
  simp only [oneThing_ref]
  refine wpAny_holding (wpAny_bind (wpAny_cRoomFor hu0 ?_))
  refine wpAny_bind (I.type.here (wpAny_bind (hb.here ?_)))
  split
  · rename_i q
    have e : subIn K tb (.ref C) = some false := by
      rcases Bool.or_eq_true_iff.mp hn with z | z
      · rw [beq_iff_eq.mp z] at q
        simp at q
      · exact beq_iff_eq.mp z
    refine wpAny_bind ((looks_subIn X e).here ?_)
    simp only [if_false, Bool.false_eq_true]
    refine wpAny_bind (wpAny_mono one (fun r s' z => ?_) fun _ _ z => z)
    obtain ⟨v, rfl, hq⟩ := z
    exact wpAny_pure hq
  · refine wpAny_bind (wpAny_pure ?_)
    simp only [if_false, Bool.false_eq_true]
    refine wpAny_bind (wpAny_mono one (fun r s' z => ?_) fun _ _ z => z)
    obtain ⟨v, rfl, hq⟩ := z
    exact wpAny_pure hq
end
/-! ### types of slots -/
inductive TyS (K : Fg) : Sl → Value → Prop
  | val (d : D) : TyS K (.val d) (.type (tyD d))
  | ins {C : Addr} (fs : List (Str × Sl)) (c : Cls K C) (i : SlX.SIsi K C) : TyS K (.kn (insI C fs)) (.ref C)
  | tup (rs : List Sl) : TyS K (.kn (tupK rs)) (.type "tuple")
  | lst (rs : List Sl) : TyS K (.kn (lstK rs)) (.type "list")
theorem ty_seqT {K : Fg} {H : Hp} {a : Addr} {xs : List V} (h : SqT K H a xs) : TyX K H (.ref a) (.type "tuple") := by
  rcases h with (h | ⟨o, h⟩) | ⟨o, its, n, h1, h2, _⟩
  · exact .base (.tup h)
  · exact .fTuple h
  · exact .kTuple h1 h2
theorem TyS.get {K : Fg} {B F H : Hp} {as : List Addr} {ω : List Cell} {v : V} {r : Sl} {t : Value} (w : Wd K B F H as ω) (y : TyS K r t) (s : SlOk K B as (some v) r) : TyX K H v t := by
  cases y with
  | val d => exact ty_of (dp_up w.b (sl_val s))
  | ins fs c i =>
    obtain ⟨a, dx, vs, rfl, h1, _⟩ := slk_insI s
    exact .base (.ins (w.b _ _ h1) c i.ca i.cn i.ct i.cm)
  | tup rs =>
    obtain ⟨a, xs, rfl, h1, _⟩ := slk_tup s
    exact ty_seqT (sqT_up w.b h1)
  | lst rs =>
    obtain ⟨a, xs, rfl, h1, _⟩ := slk_lst s
    exact .base (.lst (w.b _ _ h1))
section
variable {X : Cx} {e a b c fe : Expr} {es : List Expr} {δ : List Sl} {ω : List Cell} {P : PO1} {T : Bool → List Cell → Prop} {pos : Pos}
theorem de_isiS {x : Str} {Ty : String} {p p2 : Pos} (hg : Gl X "isinstance") (hm : X.mg "isinstance" = none) (hgT : Gl X x) (hmT : X.mg x = none) (hv : bootBuiltins x = some (.type Ty))
    (h : DE X e δ ω fun r ω1 => ∃ t k, TyS X.K r t ∧ PySem.W.kitOne X.K t (.type Ty) = some k ∧ P (.val (.bool k)) ω1) (hn : x ≠ "__name__" := by decide) (hdb : (x == ("__debug__" : Str)) = false := by decide)
    (hs1 : starEach [e, .Name x p2] X.env = (false, eval e X.env) :: starEach [.Name x p2] X.env := by rfl) (hs2 : starEach [.Name x p2] X.env = (false, eval (.Name x p2) X.env) :: starEach [] X.env := by rfl)
    (hpl : (backTo pos (starEach [.Name x p2] X.env)).any (·.1) = false := by rfl) : DE X (.Call (.Name "isinstance" p) [e, .Name x p2] [] pos) δ ω P := fun B F H as σ w ev Q o => by
  refine ⟨_, pe_callB call_isi hg hm boot_isinstance (pa_cons pe_w (pa_cons (pe_bltn (v := .ty Ty) hgT hmT hv rfl hn hdb) pa_nil hs2) hs1) (by decide) (by decide) hs1 hpl, ?_⟩
  refine h B F H as σ w ev _ fun v B1 H1 as1 r ω1 e1 p1 w1 s1 ⟨t, k, ty, hk, hp⟩ => ?_
  exact ⟨v, .ty Ty, t, .type Ty, k, rfl, .ty Ty, ty.get w1 s1, hk, (o.up e1 p1).here w1 (.bl _) hp⟩
theorem de_isiC {x : Str} {C : Addr} {p p2 : Pos} (hg : Gl X "isinstance") (hm : X.mg "isinstance" = none) (hgC : Gl X x) (hmC : X.mg x = some (.ref C))
    (h : DE X e δ ω fun r ω1 => ∃ t k, TyS X.K r t ∧ PySem.W.kitOne X.K t (.ref C) = some k ∧ P (.val (.bool k)) ω1) (hdb : (x == ("__debug__" : Str)) = false := by decide)
    (hs1 : starEach [e, .Name x p2] X.env = (false, eval e X.env) :: starEach [.Name x p2] X.env := by rfl) (hs2 : starEach [.Name x p2] X.env = (false, eval (.Name x p2) X.env) :: starEach [] X.env := by rfl)
    (hpl : (backTo pos (starEach [.Name x p2] X.env)).any (·.1) = false := by rfl) : DE X (.Call (.Name "isinstance" p) [e, .Name x p2] [] pos) δ ω P := fun B F H as σ w ev Q o => by
  refine ⟨_, pe_callB call_isi hg hm boot_isinstance (pa_cons pe_w (pa_cons (pe_glob (v := .ref C) hgC hmC rfl hdb) pa_nil hs2) hs1) (by decide) (by decide) hs1 hpl, ?_⟩
  refine h B F H as σ w ev _ fun v B1 H1 as1 r ω1 e1 p1 w1 s1 ⟨t, k, ty, hk, hp⟩ => ?_
  exact ⟨v, .ref C, t, .ref C, k, rfl, .own C, ty.get w1 s1, hk, (o.up e1 p1).here w1 (.bl _) hp⟩
/-- the truth of a sequence -/
theorem dt_seq (h : DE X e δ ω fun r ω1 => ∃ rs, SeqS ω1 r rs ∧ T (!rs.isEmpty) ω1) (he : ∀ whole, isTrue e X.env whole = (do let v ← whole; standAt e.pos; holding [v] (truthy v)) := by intro _; rfl) : DT X e δ ω T := fun B F H as σ w ev Q o => by
  refine ⟨_, pt_truth pe_w he, ?_⟩
  refine h B F H as σ w ev _ fun v B1 H1 as1 r ω1 e1 p1 w1 s1 ⟨rs, hq, hp⟩ => ?_
  obtain ⟨b, a, xs, rfl, h1, h2⟩ := hq.get w1 s1
  have ee : xs.isEmpty = rs.isEmpty := by cases h2 <;> rfl
  refine ⟨!rs.isEmpty, ?_, o _ B1 H1 as1 ω1 e1 p1 w1 hp⟩
  cases b
  · exact .inr (.inl ⟨xs, h1, by rw [ee]⟩)
  · exact .inl ⟨xs, h1, by rw [ee]⟩

/-! ### operators of one's own -/
/-- x op y: an instance of the class, and another one -/
def rBinO (C : Addr) (sp : Sp) : R2 := fun x y H Q => ∃ a dx fs b dy gs, x = .ref a ∧ y = .ref b ∧ H a = some (.ins C dx fs) ∧ H b = some (.ins C dy gs) ∧ sp ([x, y] ++ []) H Q E0
theorem op_binO {op : Operator} {C g : Addr} {j : Nat} {sp : Sp} (M : HasM X.prog X.w X.K X.mg X.base j g sp) (hc : PySem.W.selfFirst X.K C = true) (hs : PySem.W.findIn X.K (.ref C) (PySem.dunder op.info.2) = some (some (.ref g))) (hf : PySem.W.isFn X.K (.ref g) = true) (hr : Room j X.A) : OpR X (binaryOp op) (rBinO C sp) := by
  intro pins s σ H x y v u Q I rx ry h
  obtain ⟨a, dx, fs, b, dy, gs, rfl, rfl, ha, hb, q⟩ := h
  cases (show v = Value.ref a from rx)
  cases (show u = Value.ref b from ry)
  obtain ⟨mA, O, _⟩ := ins_get I.hok ha
  obtain ⟨od, J, _⟩ := O.look
  obtain ⟨mB, O', _⟩ := ins_get I.hok hb
  obtain ⟨od', J', _⟩ := O'.look
  obtain ⟨m, hF⟩ := I.fr
  refine PySem.W.binop_K hF I.ok.mod.kin J J'.type hc hs hf ?_
  refine wpAny_mono (wpAny_call (run_fnR (us := [.ref a, .ref b]) (vs := [.ref a, .ref b]) M.fr hr pass0 I (.cons rfl (.cons rfl .nil)) q)) (fun w s' z => ?_) fun _ _ x => x
  obtain ⟨z', H', I', rz, qz⟩ := z
  exact SlX.cmpback rz ⟨z', H', I', rz, qz⟩
/-- x op y: an instance of the class, and an int -/
def rBinI (C : Addr) (sp : Sp) : R2 := fun x y H Q => ∃ a dx fs i, x = .ref a ∧ y = .int i ∧ H a = some (.ins C dx fs) ∧ sp ([x, y] ++ []) H Q E0
theorem op_binI {op : Operator} {C g : Addr} {j : Nat} {sp : Sp} {fo ro rc : Option Value} (M : HasM X.prog X.w X.K X.mg X.base j g sp) (hc : PySem.W.selfFirst X.K C = true) (hs : PySem.W.findIn X.K (.ref C) (PySem.dunder op.info.2) = some (some (.ref g))) (hf : PySem.W.isFn X.K (.ref g) = true) (hrr : PySem.W.findIn X.K (.ref C) (dunderR op.info.2) = some rc)
    (hp : rc = none ∨ ∃ g : Addr, rc = some (.ref g)) (h1 : PySem.W.findIn X.K (.type "int") (PySem.dunder op.info.2) = some fo) (h2 : PySem.W.findIn X.K (.type "int") (dunderR op.info.2) = some ro) (hsub : PySem.W.subIn X.K (.type "int") (.ref C) = some false) (hr : Room j X.A) : OpR X (binaryOp op) (rBinI C sp) := by
  intro pins s σ H x y v u Q I rx ry h
  obtain ⟨a, dx, fs, i, rfl, rfl, ha, q⟩ := h
  cases (show v = Value.ref a from rx)
  obtain ⟨t, hu⟩ := (show ∃ t, u = Value.int i t from ry)
  subst hu
  obtain ⟨mA, O, _⟩ := ins_get I.hok ha
  obtain ⟨od, J, _⟩ := O.look
  obtain ⟨m, hF⟩ := I.fr
  refine PySem.W.ksp_binT (T := "int") hF I.ok.mod.kin J rfl hc hs hf hrr hp h1 h2 hsub ?_
  refine wpAny_mono (wpAny_call (run_fnR (us := [.ref a, .int i t]) (vs := [.ref a, .int i]) M.fr hr pass0 I (.cons rfl (.cons ⟨t, rfl⟩ .nil)) q)) (fun w s' z => ?_) fun _ _ x => x
  obtain ⟨z', H', I', rz, qz⟩ := z
  exact SlX.cmpback rz ⟨z', H', I', rz, qz⟩
/-- x == y by the class's own def; y of any type that is not below it -/
def rEqO (K : Fg) (C : Addr) (sp : Sp) : R2 := fun x y H Q => ∃ a dx fs tb, x = .ref a ∧ H a = some (.ins C dx fs) ∧ TyX K H y tb ∧ PySem.W.notFirst K C tb = true ∧ sp ([x, y] ++ []) H Q E0
theorem op_eqO {C g : Addr} {j : Nat} {sp : Sp} (M : HasM X.prog X.w X.K X.mg X.base j g sp) (hs : PySem.W.findIn X.K (.ref C) "__eq__" = some (some (.ref g))) (hf : PySem.W.isFn X.K (.ref g) = true) (hr : Room j X.A) : OpR X (compareOp .Eq) (rEqO X.K C sp) := by
  intro pins s σ H x y v u Q I rx ry h
  obtain ⟨a, dx, fs, tb, rfl, ha, ty, hn, q⟩ := h
  cases (show v = Value.ref a from rx)
  obtain ⟨mA, O, _⟩ := ins_get I.hok ha
  obtain ⟨od, J, _⟩ := O.look
  obtain ⟨m, hF⟩ := I.fr
  obtain ⟨Pt, Z, pz, _⟩ := kit_of I ry ty
  rw [show compareOp .Eq (.ref a) u = richCompare .Eq (.ref a) u from rfl]
  refine PySem.W.cmp_K (op := .Eq) (tb := tb) hr.units0 hF I.ok.mod.kin J (Z.ty _ _ I.kIn pz) hn hs hf ?_
  refine wpAny_mono (wpAny_call (run_fnR (us := [.ref a, u]) (vs := [.ref a, y]) M.fr hr pass0 I (.cons rfl (.cons ry .nil)) q)) (fun w s' z => ?_) fun _ _ x => x
  obtain ⟨z', H', I', rz, qz⟩ := z
  exact SlX.cmpback rz ⟨z', H', I', rz, qz⟩
/-- != -/
def rNeO (K : Fg) (C : Addr) (sp : Sp) : R2 := fun x y H Q => ∃ a dx fs tb, x = .ref a ∧ H a = some (.ins C dx fs) ∧ TyX K H y tb ∧ PySem.W.notFirst K C tb = true ∧ sp ([x, y] ++ []) H (fun z H' => ∃ k, z = .bl k ∧ Q (.bl (!k)) H') E0
theorem op_neO {C g : Addr} {j : Nat} {sp : Sp} (M : HasM X.prog X.w X.K X.mg X.base j g sp) (ho : PySem.W.mroIn X.K C (.type "object") = some true) (hne : PySem.W.findIn X.K (.ref C) "__ne__" = some (some (.builtin "object.__ne__"))) (hs : PySem.W.findIn X.K (.ref C) "__eq__" = some (some (.ref g))) (hf : PySem.W.isFn X.K (.ref g) = true) (hr : Room (j + 1) X.A) : OpR X (compareOp .NotEq) (rNeO X.K C sp) := by
  intro pins s σ H x y v u Q I rx ry h
  obtain ⟨a, dx, fs, tb, rfl, ha, ty, hn, q⟩ := h
  cases (show v = Value.ref a from rx)
  obtain ⟨mA, O, _⟩ := ins_get I.hok ha
  obtain ⟨od, J, _⟩ := O.look
  obtain ⟨m, hF⟩ := I.fr
  obtain ⟨Pt, Z, pz, _⟩ := kit_of I ry ty
  rw [show compareOp .NotEq (.ref a) u = richCompare .NotEq (.ref a) u from rfl]
  refine ne_lib (tb := tb) (hu_of hr) hF I.ok.mod.kin J (Z.ty _ _ I.kIn pz) hn ho hne hs hf ?_
  have hr1 : Room j X.A.in1 := hr.in1
  refine wpAny_mono (wpAny_call (SlX.run_at (us := [.ref a, u]) (ws := [.ref a, y]) M.fr hr1 I.env0.in1 pass0 I (.cons rfl (.cons ry .nil)) q)) (fun w s' z => ?_) fun _ _ x => x
  obtain ⟨z', H', I', rz, k, ek, qz⟩ := z
  subst ek
  exact ⟨k, rz, .bl (!k), H', I', rfl, qz⟩
theorem rs_two {K : Fg} {B : Hp} {as : List Addr} {v u : V} {x y : Sl} (s1 : SlOk K B as (some v) x) (s2 : SlOk K B as (some u) y) : RsOk K B as ([v, u] ++ []) [x, y] := .cons s1 (.cons s2 .nil)
theorem rr_binO {C : Addr} {fs gs : List (Str × Sl)} {φ : List Sl → (Sl → Prop) → Prop} (h : φ [.kn (insI C fs), .kn (insI C gs)] fun s => s.free = true ∧ P s ω) : RR X (rBinO C (spS X.K φ)) (.kn (insI C fs)) (.kn (insI C gs)) ω P := fun B F H as v u w s1 s2 Q o => by
  obtain ⟨a, dx, xs, rfl, h1, _⟩ := slk_insI s1
  obtain ⟨b, dy, ys, rfl, h2, _⟩ := slk_insI s2
  exact ⟨a, dx, xs, b, dy, ys, rfl, rfl, w.b _ _ h1, w.b _ _ h2, spS_at w o rfl (rs_two s1 s2) h⟩
theorem rr_binI {C : Addr} {fs : List (Str × Sl)} {i : Int} {φ : List Sl → (Sl → Prop) → Prop} (h : φ [.kn (insI C fs), .val (.int i)] fun s => s.free = true ∧ P s ω) : RR X (rBinI C (spS X.K φ)) (.kn (insI C fs)) (.val (.int i)) ω P := fun B F H as v u w s1 s2 Q o => by
  obtain ⟨a, dx, xs, rfl, h1, _⟩ := slk_insI s1
  obtain rfl := dp_int_inv (sl_val s2)
  exact ⟨a, dx, xs, i, rfl, rfl, w.b _ _ h1, spS_at w o rfl (rs_two s1 s2) h⟩
theorem rr_eqO {C : Addr} {fs : List (Str × Sl)} {y : Sl} {tb : Value} {φ : List Sl → (Sl → Prop) → Prop} (hy : TyS X.K y tb) (hn : PySem.W.notFirst X.K C tb = true) (hf : y.free = true) (h : φ [.kn (insI C fs), y] fun s => s.free = true ∧ P s ω) : RR X (rEqO X.K C (spS X.K φ)) (.kn (insI C fs)) y ω P := fun B F H as v u w s1 s2 Q o => by
  obtain ⟨a, dx, xs, rfl, h1, _⟩ := slk_insI s1
  exact ⟨a, dx, xs, tb, rfl, w.b _ _ h1, hy.get w s2, hn, spS_at w o (by rw [List.all_cons, List.all_cons, hf]; rfl) (rs_two s1 s2) h⟩
theorem rr_neO {C : Addr} {fs : List (Str × Sl)} {y : Sl} {tb : Value} {φ : List Sl → (Sl → Prop) → Prop} (hy : TyS X.K y tb) (hn : PySem.W.notFirst X.K C tb = true) (hf : y.free = true) (h : φ [.kn (insI C fs), y] fun s => ∃ k, s = .val (.bool k) ∧ P (.val (.bool (!k))) ω) : RR X (rNeO X.K C (spS X.K φ)) (.kn (insI C fs)) y ω P := fun B F H as v u w s1 s2 Q o => by
  obtain ⟨a, dx, xs, rfl, h1, _⟩ := slk_insI s1
  refine ⟨a, dx, xs, tb, rfl, w.b _ _ h1, hy.get w s2, hn, ?_⟩
  obtain ⟨F', wF, _, _, back⟩ := w.frame
  refine ⟨B, F', _, _, wF, rs_free (by rw [List.all_cons, List.all_cons, hf]; rfl) (rs_two s1 s2), h, fun v B' H' r sb w' hs ⟨k, er, hp⟩ => ?_⟩
  subst er
  exact ⟨k, dp_bl_inv (sl_val hs), o (.bl (!k)) B' H' as _ ω sb (List.prefix_refl _) (back B' H' sb w') (slv (.bl _)) hp⟩
/-- e(..), e an instance: its own __call__ -/
theorem de_callI {C g : Addr} {j : Nat} {φ : List Sl → (Sl → Prop) → Prop} (M : HasM X.prog X.w X.K X.mg X.base j g (spS X.K φ)) (cO : StX.CallO X.K C g) (hr : Room j X.A)
    (h : DE X fe δ ω fun r0 ω0 => ∃ fs, r0 = .kn (insI C fs) ∧ DA X (e :: es) δ ω0 fun rs ω1 => rs.all Sl.free = true ∧ φ (.kn (insI C fs) :: rs) fun s => s.free = true ∧ P s ω1)
    (ht : eval (.Call fe (e :: es) [] pos) X.env = (do callWith pos (← eval fe X.env) [] (backTo pos (starEach (e :: es) X.env)) (backToKw pos (keywordEach [] X.env))) := by rfl)
    (he : starEach (e :: es) X.env = (false, eval e X.env) :: starEach es X.env := by rfl) (hpl : (backTo pos (starEach es X.env)).any (·.1) = false := by rfl) : DE X (.Call fe (e :: es) [] pos) δ ω P := fun B F H as σ w ev Q oo => by
  refine ⟨_, StX.pe_callO pe_w cO M.fr hr pass0 pa_w ht he hpl, ?_⟩
  refine h B F H as σ w ev _ fun v B0 H0 as0 r0 ω0 e0 p0 w0 s0 ⟨fs, er, h1⟩ => ?_
  subst er
  obtain ⟨a, dx, xs, rfl, i1, i2⟩ := slk_insI s0
  refine ⟨a, rfl, ?_⟩
  refine h1 B0 F H0 as0 σ w0 (envOk_up e0 p0 ev) _ fun vs B1 H1 as1 rs ω1 e1 p1 w1 s1 ⟨hfr, hφ⟩ => ?_
  refine ⟨.inr ⟨dx, xs, w1.b _ _ (e1 _ _ i1)⟩, ?_⟩
  show spS X.K φ ((V.ref a :: vs) ++ []) H1 Q E0
  rw [List.append_nil]
  exact spS_at w1 (oo.up (e0.trans e1) (p0.trans p1)) (by rw [List.all_cons, hfr]; rfl) (.cons (slOk_up e1 p1 s0) s1) hφ
end
/-! ### static methods read off the class -/
structure SMet (K : Fg) (C : Addr) (mc : Value) (m : Str) (p g : Addr) : Prop where
  at_ : PySem.W.findCls K (.ref C) mc m = some (.get (.builtin "staticmethod.__get__") (.ref p) .none (.ref C))
  rc : ∃ rest, PySem.W.recIn K p "staticmethod" = some (.ref g :: rest)
  kp : PySem.W.keepIn K (.ref g) = true
section
variable {X : Cx} {o e : Expr} {es : List Expr} {m : Str} {pos apos : Pos} {δ : List Sl} {ω : List Cell} {P : PO1}
def tSMeth (C : Addr) (sp : Sp) (E : XK) (ta : TE) (t : TA) : TE := fun σ H Q => ta σ H fun x H1 => x = .ref C ∧ t σ H1 fun vs H2 => sp vs H2 Q E
theorem pe_smeth {CX : CXT} {k : Nat} {C p g : Addr} {mc : Value} {sp : Sp} {E : XK} {ta : TE} {t : TA} {pl : Sem Bool} (he : PE X o ta) (r : ClX.CRead X.K C mc) (c : SMet X.K C mc m p g) (F : FnR X.prog X.w X.K X.mg X.base CX k g sp) (hr : Room k X.A) (hx : Passes CX X E) (ha : PA X (e :: es) t)
    (hst : starEach (e :: es) X.env = (false, eval e X.env) :: starEach es X.env := by rfl) (hpl : (backTo pos (starEach es X.env)).any (·.1) = false := by rfl)
    (ht : eval (.Call (.Attribute o m apos) (e :: es) [] pos) X.env = (do
      let ov ← eval o X.env
      standAt apos.atName
      let (f, first) ← holding [ov] (getMethod ov m pl)
      callWith pos f first (backTo pos (starEach (e :: es) X.env)) (backToKw pos (keywordEach [] X.env))) := by rfl) :
    PE X (.Call (.Attribute o m apos) (e :: es) [] pos) (tSMeth C sp E ta t) := by
  refine ⟨fun pins s σ H Q I h => ?_⟩
  refine PySem.W.methodCall_KW (pl := pl) (thn (he.run pins s σ H _ I h) fun u s1 ⟨x, H1, I1, rx, ex, q⟩ => ?_) ht
  subst ex
  obtain rfl : u = Value.ref C := rx
  obtain ⟨rest, hp⟩ := c.rc
  refine PySem.W.method_cls I1.kIn r.ga (PySem.W.cls_bind I1.kIn r.rd c.at_ (wpAny_call (PySem.W.sm_get (s := { s1 with toks := s1.toks + 1 }) I1.kIn hp (PySem.W.handed_on rfl ?_))))
  have I2 := I1.tok (s1.toks + 1)
  refine PySem.W.callWith_K (h₀ := X.base) I2.ok.mod.kin c.kp (thn (ha.run pos pins _ σ H1 _ I2 q) fun us s3 ⟨vs, H2, I3, rv, q2⟩ => ⟨I3.kIn, ?_⟩) hst hpl
  exact wpAny_call (run_fnR F hr hx I3 rv q2)
theorem de_smeth {C p g : Addr} {mc : Value} {j : Nat} {φ : List Sl → (Sl → Prop) → Prop} (M : HasM X.prog X.w X.K X.mg X.base j g (spS X.K φ)) (r : ClX.CRead X.K C mc) (c : SMet X.K C mc m p g) (hr : Room j X.A)
    (h : DE X o δ ω fun ro ω0 => ro = .kn (clsK C) ∧ DA X (e :: es) δ ω0 fun rs ω1 => rs.all Sl.free = true ∧ φ rs fun s => s.free = true ∧ P s ω1) {pl : Sem Bool}
    (hst : starEach (e :: es) X.env = (false, eval e X.env) :: starEach es X.env := by rfl) (hpl : (backTo pos (starEach es X.env)).any (·.1) = false := by rfl)
    (ht : eval (.Call (.Attribute o m apos) (e :: es) [] pos) X.env = (do
      let ov ← eval o X.env
      standAt apos.atName
      let (f, first) ← holding [ov] (getMethod ov m pl)
      callWith pos f first (backTo pos (starEach (e :: es) X.env)) (backToKw pos (keywordEach [] X.env))) := by rfl) : DE X (.Call (.Attribute o m apos) (e :: es) [] pos) δ ω P := fun B F H as σ w ev Q oo => by
  refine ⟨_, pe_smeth pe_w r c M.fr hr pass0 pa_w hst hpl ht, ?_⟩
  refine h B F H as σ w ev _ fun v B0 H0 as0 ro ω0 e0 p0 w0 s0 ⟨er, h1⟩ => ?_
  subst er
  obtain ⟨v', B9, e9, sb9, hv⟩ := s0
  cases e9
  have hv' : v = .ref C := hv
  subst hv'
  refine ⟨rfl, ?_⟩
  refine h1 B0 F H0 as0 σ w0 (envOk_up e0 p0 ev) _ fun vs B1 H1 as1 rs ω1 e1 p1 w1 s1 ⟨hfr, hφ⟩ => ?_
  show spS X.K φ (vs ++ []) H1 Q E0
  rw [List.append_nil]
  exact spS_at w1 (oo.up (e0.trans e1) (p0.trans p1)) hfr s1 hφ
end
end
section
theorem rr_eqM {X : Cx} {P : Sl → List Cell → Prop} {ω : List Cell} {a b : Nat} (hp : P (.val (.bool (decide (a = b)))) ω) : RR X rEq (.val (nD a)) (.val (nD b)) ω P := fun B F H as v u w s1 s2 Q o => by
  obtain rfl := dp_int_inv (sl_val s1)
  obtain rfl := dp_int_inv (sl_val s2)
  refine ⟨rfl, ?_⟩
  rw [dec_int, show ((a : Int) == (b : Int)) = decide (a = b) by rw [Bool.eq_iff_iff, beq_iff_eq, decide_eq_true_eq]; omega]
  exact o.here w (.bl _) hp
end
section
/-! ### effects: what they are -/
def isR (d : D) (l : List Nat) : Bool := match d with
  | .int i => (decide (0 ≤ i) && decide (i ≤ 5)) && decide (i.toNat ∈ l)
  | _ => false
def isMv (d : D) (l : List Nat) : Bool := match d with
  | .tuple ds => decide (ds.length = l.length) && ds.all fun p => isR p l
  | _ => false
def MvOk (S : Sys) (m : List Nat) : Prop := m.length = (reach S).length ∧ ∀ x ∈ m, x ∈ reach S
def movesOf (S : Sys) (l : List Nat) : List Nat := (reach S).map fun s => endOf S s l
def fixedOf (S : Sys) (m : List Nat) : List Nat := (((reach S).zip m).filter fun p => decide (p.1 = p.2)).map (·.1)
def effF (S : Sys) (m : List Nat) : List (Str × Sl) := [("_system", .val (sysD S)), ("_moves", .val (logD m)), ("_reached", .kn (ftupK ((reach S).map nD)))]
def effS (C : Addr) (S : Sys) (m : List Nat) : Sl := .kn (insI C (effF S m))
theorem effF_put (S : Sys) (m : List Nat) : putS "_reached" (.kn (ftupK ((reach S).map nD))) (putS "_moves" (.val (logD m)) (putS "_system" (.val (sysD S)) [])) = effF S m := by
  have h1 : ¬ (("_system" : Str) = "_moves") := by decide +kernel
  have h2 : ¬ (("_system" : Str) = "_reached") := by decide +kernel
  have h3 : ¬ (("_moves" : Str) = "_reached") := by decide +kernel
  show putS "_reached" _ (if ("_system" : Str) = "_moves" then [(("_system" : Str), Sl.val (logD m))] else (("_system" : Str), Sl.val (sysD S)) :: [(("_moves" : Str), Sl.val (logD m))]) = effF S m
  rw [if_neg h1]
  show (if ("_system" : Str) = "_reached" then _ else (("_system" : Str), Sl.val (sysD S)) :: (if ("_moves" : Str) = "_reached" then _ else (("_moves" : Str), Sl.val (logD m)) :: [(("_reached" : Str), Sl.kn (ftupK ((reach S).map nD)))])) = effF S m
  rw [if_neg h2, if_neg h3]
  rfl
def φ_isr : List D → (D → Prop) → Prop := fun ds P => ∃ d l, ds = [d, logD l] ∧ P (.bool (isR d l))
def φ_isMv : List D → (D → Prop) → Prop := fun ds P => ∃ d l, ds = [d, logD l] ∧ Sm d ∧ l.length ≤ 10 ∧ P (.bool (isMv d l))
theorem isR_nD {x : Nat} {l : List Nat} (h : x ∈ l) (h5 : x ≤ 5) : isR (nD x) l = true := by
  show ((decide ((0 : Int) ≤ (x : Int)) && decide ((x : Int) ≤ 5)) && decide (((x : Int)).toNat ∈ l)) = true
  rw [decide_eq_true (by omega), decide_eq_true (by omega), Int.toNat_natCast, decide_eq_true h]
  rfl
theorem reach_len {S : Sys} (hS : S.Ok) : (reach S).length ≤ 6 := by
  have h1 := List.length_filter_le (fun s => decide (s ∈ (bfs S).map (·.1))) (List.range S.n)
  rw [List.length_range] at h1
  have := hS.n6
  unfold reach
  omega
theorem reach_5 {S : Sys} (hS : S.Ok) {x : Nat} (h : x ∈ reach S) : x ≤ 5 := by
  have h1 := reach_lt h
  have := hS.n6
  omega
theorem isMv_of {S : Sys} (hS : S.Ok) {m : List Nat} (h : MvOk S m) : isMv (logD m) (reach S) = true := by
  show (decide ((m.map nD).length = (reach S).length) && (m.map nD).all fun p => isR p (reach S)) = true
  rw [List.length_map, decide_eq_true h.1, Bool.true_and, List.all_map, List.all_eq_true]
  exact fun x hx => isR_nD (h.2 x hx) (reach_5 hS (h.2 x hx))
theorem mv_log {S : Sys} (hS : S.Ok) {m : List Nat} (h : MvOk S m) : m.length ≤ 6 ∧ ∀ x ∈ m, x ≤ 5 := ⟨by rw [h.1]; exact reach_len hS, fun x hx => reach_5 hS (h.2 x hx)⟩
section
variable {P : Program} {w : World} {K : Fg} {mg : Str → Option Value} {base : Heap} {f : Addr} {fd : FuncData} {k : Nat}
theorem ok_is_reached {t6 : Tok} (F : Fun K "is_reached" "is_reached" s_is_reached f fd) (c1 : Has P w K mg base 2 "is_place" (spP K φ_is_place)) (m6 : mg "MOST_STATES" = some (.int 6 t6)) : FnOk P w K mg base CX0 3 f fd ["thing", "reached"] (spP K φ_isr) := by
  refine ok_P F sc_is_reached (fun ds Q h => ?_) fun ds Q h cdv A outer s H E hr => ?_
  · obtain ⟨d, l, rfl, _⟩ := h
    rfl
  · obtain ⟨d, l, rfl, hq⟩ := h
    have nd := sc_is_reached.nd
    refine ds_cons (d1_ret (de_andB (x := isNum d 0 (6 - 1)) (y := isR d l) (de_call c1 (by walk_at "room") (by rfl) (da_cons (de_var 0 rfl (by nofun) rfl (by walk_at "vis") (da_cons (de_glob (v := .int 6) rfl m6 ⟨_, rfl⟩ (fun _ _ => .int _) (da_nil ⟨[_, _], rfl, d, 6, rfl, rfl, rfl⟩)))))) (fun h1 => ?_) ?_))
    · cases d with
      | int i =>
        have h2 : (decide ((0 : Int) ≤ i) && decide (i ≤ 5)) = true := h1
        rw [Bool.and_eq_true, decide_eq_true_eq, decide_eq_true_eq] at h2
        refine de_one (de_cmp op_in_seq (by rfl) (de_var 0 rfl (by nofun) rfl (by walk_at "vis") (de_var 1 rfl (by nofun) rfl (by walk_at "vis") (rr_in rfl (.tup _) (flat_nD' _) ⟨?_, rfl⟩))))
        show Sl.val (.bool (inD (.int i) (l.map nD))) = .val (.bool ((decide ((0 : Int) ≤ i) && decide (i ≤ 5)) && decide (i.toNat ∈ l)))
        have e : PyData.int i = nD i.toNat := by
          show PyData.int i = PyData.int ((i.toNat : Nat) : Int)
          rw [Int.toNat_of_nonneg h2.1]
        rw [e, inD_map, decide_eq_true h2.1, decide_eq_true h2.2]
        rfl
      | _ => cases h1
    · have e : (isNum d 0 (6 - 1) && isR d l) = isR d l := by
        cases d with
        | int i =>
          show ((decide ((0 : Int) ≤ i) && decide (i ≤ 5)) && ((decide ((0 : Int) ≤ i) && decide (i ≤ 5)) && decide (i.toNat ∈ l))) = ((decide ((0 : Int) ≤ i) && decide (i ≤ 5)) && decide (i.toNat ∈ l))
          cases (decide ((0 : Int) ≤ i) && decide (i ≤ 5)) <;> rfl
        | _ => rfl
      rw [e]
      exact ⟨_, rfl, hq⟩
theorem ok_are_moves (F : Fun K "are_moves" "are_moves" s_are_moves f fd) (c1 : Has P w K mg base 3 "is_reached" (spP K φ_isr)) (mI : mg "isinstance" = none) (mT : mg "tuple" = none) (mL : mg "len" = none) (mA : mg "all" = none) : FnOk P w K mg base CX0 4 f fd ["thing", "reached"] (spP K φ_isMv) := by
  refine ok_P F sc_are_moves (fun ds Q h => ?_) fun ds Q h cdv A outer s H E hr => ?_
  · obtain ⟨d, l, rfl, _⟩ := h
    rfl
  · obtain ⟨d, l, rfl, hz, hl, hq⟩ := h
    have nd := sc_are_moves.nd
    refine ds_cons (d1_if (dt_w (dw_orB (x := !isTup d) (y := !decide (lenD d = (l.length : Int))) (dt_not (dt_val (de_isi (by rfl) mI (by rfl) mT PyProof.Rows.boot_tuple kit_tuple (de_var 0 rfl (by nofun) rfl (by walk_at "vis") ⟨_, rfl, fun hnd => ⟨_, rfl, congrArg (fun b => !b) (isi_tuple d hnd), rfl⟩⟩)))) (fun h1 => ?_) ?_)))
    · cases d with
      | tuple es =>
        refine dw_or1 (dt_cmp op_ne (nomark _) (de_callB call_len_seq (by rfl) mL PySem.boot_len (da_cons (de_var 0 rfl (by nofun) rfl (by walk_at "vis") (da_nil (ra_len (.tup _) (de_callB call_len_seq (by rfl) mL PySem.boot_len (da_cons (de_var 1 rfl (by nofun) rfl (by walk_at "vis") (da_nil (ra_len (.tup _) (rr_neN (a := es.length) (b := (l.map nD).length) ⟨_, rfl, ?_, rfl⟩))))))))))))
        rw [List.length_map]
        show (!decide (es.length = l.length)) = !decide ((es.length : Int) = (l.length : Int))
        congr 1
        rw [decide_eq_decide]
        omega
      | _ => cases h1
    · cases d with
      | tuple es =>
        show if (false || !decide ((es.length : Int) = (l.length : Int))) = true then _ else _
        rw [Bool.false_or]
        refine ite2 (fun hc => ?_) (fun hc => ds_nil ?_)
        · refine ds_cons (d1_ret (de_bool ⟨_, rfl, ?_⟩))
          have e : isMv (.tuple es) l = false := by
            show (decide (es.length = l.length) && _) = false
            rw [decide_eq_false (fun z => by rw [Bool.not_eq_true', decide_eq_false_iff_not] at hc; omega), Bool.false_and]
          rw [e] at hq
          exact hq
        · refine ds_cons (d1_ret (de_callB (cr_all rfl) (by rfl) mA PyProof.Rows.boot_all (da_cons ?_)))
          refine de_lc rfl nd (blkOk_by (own := [("part", 2)]) (N := n_are_moves) (sc := defScope s_are_moves) (by decide +kernel)) (di_tup (de_var 0 rfl (by nofun) rfl (by walk_at "vis") ⟨es, rfl, ?_⟩))
          refine ⟨sm_len hz, _, ⟨rfl, rfl⟩, lc_map (fun d => .bool (isR d l)) (fun j d hd s H C cl fp => ?_), fun acc ω' hacc ⟨ew, ea⟩ => .inl ?_⟩
          · refine dg_name (i := 2) nd rfl (.inl rfl) (by decide) ?_
            intro s H C cl fp
            exact de_call c1 (by walk_at "room") (by rfl) (da_cons (de_var 2 rfl (by nofun) rfl (by walk_at "vis") (da_cons (de_var 1 rfl (by nofun) rfl (by walk_at "vis") (da_nil ⟨[_, _], rfl, d, l, rfl, rfl, rfl⟩)))))
          · rw [List.take_length, (all_map es _).1] at ea
            subst ew ea
            refine da_nil (ra_all ⟨_, rfl, ?_⟩)
            rw [(all_map es _).2]
            have e : isMv (.tuple es) l = es.all fun p => isR p l := by
              show (decide (es.length = l.length) && _) = _
              rw [decide_eq_true (by simp only [Bool.not_eq_true', Bool.not_eq_false, decide_eq_true_eq] at hc; omega), Bool.true_and]
            rw [e] at hq
            exact hq
      | dict kv =>
        refine iteT (ds_cons (d1_ret (de_bool ⟨_, rfl, hq⟩)))
      | _ => exact iteT (ds_cons (d1_ret (de_bool ⟨_, rfl, hq⟩)))
end
end
section
/-! ### the class Effect -/
structure EffT (K : Fg) (mg : Str → Option Value) (C : Addr) : Prop where
  cl : Cls K C
  n1 : NoAttr K C "_system"
  n2 : NoAttr K C "_moves"
  n3 : NoAttr K C "_reached"
  mc : mg "Effect" = some (.ref C)
  isi : SlX.SIsi K C
  kit : PySem.W.kitOne K (.ref C) (.ref C) = some true
def φ_einit (C : Addr) : List Sl → List Cell → PO1 → Prop := fun rs ω P => ∃ S m y dx, rs = [.kn (refK y), .val (sysD S), .val (logD m)] ∧ S.Ok ∧ MvOk S m ∧ ω = [ownC y, insA C dx y []] ∧ P (.val .none) [ownC y, insA C dx y (effF S m)]
def φ_eof (C : Addr) : List Sl → (Sl → Prop) → Prop := fun rs P => ∃ S l, rs = [.kn (clsK C), .val (sysD S), .val (logD l)] ∧ S.Ok ∧ LogOk S l ∧ l.length ≤ 1000 ∧ P (effS C S (movesOf S l))
def φ_eget (C : Addr) (f : Str) : List Sl → (Sl → Prop) → Prop := fun rs P => ∃ S m d, rs = [effS C S m] ∧ (effF S m).lookup f = some (.val d) ∧ P (.val d)
def φ_efix (C : Addr) : List Sl → (Sl → Prop) → Prop := fun rs P => ∃ S m, rs = [effS C S m] ∧ S.Ok ∧ MvOk S m ∧ P (.val (logD (fixedOf S m)))
def effStr (n k : Nat) : Str := ((((("Effect(" : Str) ++ toString (n : Int)) ++ (" states, " : Str)) ++ toString (k : Int)) ++ (" fixed)" : Str))
def φ_erepr (C : Addr) : List Sl → (Sl → Prop) → Prop := fun rs P => ∃ S m, rs = [effS C S m] ∧ S.Ok ∧ MvOk S m ∧ P (.val (.str (effStr m.length (fixedOf S m).length)))
def φ_reachF : List Sl → (Sl → Prop) → Prop := fun rs P => ∃ S, rs = [.val (sysD S)] ∧ S.Ok ∧ P (.kn (ftupK ((reach S).map nD)))
theorem sm_mv {S : Sys} (hS : S.Ok) {m : List Nat} (h : MvOk S m) : Sm (logD m) := by
  have h1 := (mv_log hS h).1
  show (logD m).bulk ≤ 100000
  rw [bulk_log]
  omega
theorem fixed_len (S : Sys) (m : List Nat) : (fixedOf S m).length ≤ (reach S).length := by
  unfold fixedOf
  rw [List.length_map]
  refine Nat.le_trans (List.length_filter_le _ _) ?_
  rw [List.length_zip]
  omega
theorem mv_of {S : Sys} (hS : S.Ok) {l : List Nat} (hl : LogOk S l) : MvOk S (movesOf S l) := by
  refine ⟨List.length_map _, fun x hx => ?_⟩
  obtain ⟨s, hs, rfl⟩ := List.mem_map.mp hx
  exact closed_end (reach_closed hS).1 l s hl hs
section
variable {P : Program} {w : World} {K : Fg} {mg : Str → Option Value} {base : Heap} {f C : Addr} {fd : FuncData} {k : Nat}
theorem ok_reachF (F : Fun K "reachable" "reachable" s_reachable f fd) (c1 : Has P w K mg base 6 "check_system" (spP K φ_check_system)) (c2 : Has P w K mg base 1 "first_paths" (spD K φ_paths)) (mR : mg "range" = none) (mT : mg "tuple" = none) : FnOk P w K mg base CX0 7 f fd ["system"] (spS K φ_reachF) := by
  refine ok_S F sc_reachable (fun rs Q h => ?_) fun rs Q h cdv A outer s H E hr => ?_
  · obtain ⟨S, rfl, _⟩ := h
    rfl
  · obtain ⟨S, rfl, hS, hq⟩ := h
    have nd := sc_reachable.nd
    have hu := hu_of hr
    have h6 := hS.n6
    refine ds_cons (d1_expr (de_call c1 (by walk_at "room") (by rfl) (da_cons (de_var 0 rfl (by nofun) rfl (by walk_at "vis") (da_nil ⟨[_], rfl, _, rfl, sm_sys hS, isSys_of hS, ?_⟩)))))
    refine ds_cons (d1_asg (i := 1) nd rfl (by walk_at "loc") (de_callD c2 (by walk_at "room") (by rfl) (da_cons (de_var 0 rfl (by nofun) rfl (by walk_at "vis") (da_nil ⟨[_], rfl, S, rfl, hS, ?_⟩)))))
    refine ds_cons (d1_ret (de_callTy call_tupleF (by rfl) mT PyProof.Rows.boot_tuple (da_cons ?_)))
    refine de_lc rfl nd (blkOk_by (own := [("state", 2)]) (N := n_reachable) (sc := defScope s_reachable) (by decide +kernel)) (di_rng1 (by rfl) mR (de_ix (fun _ _ => rfl) (de_var 0 rfl (by nofun) rfl (by walk_at "vis") (de_int ⟨_, _, _, rfl, (by walk_at "seq"), rfl, _, rfl, by omega, by omega, ?_⟩))))
    refine ⟨by rw [rgD_len]; omega, _, ⟨rfl, rfl⟩, lc_filt (fun d => match d with | .int s => decide (s.toNat ∈ (bfs S).map (·.1)) | _ => false) (fun d => d) (fun x d hd => ?_), fun acc ω3 hacc ⟨ew, ea⟩ => .inl ?_⟩
    · intro s H C cl fp
      obtain ⟨hx, rfl⟩ := rgD_at hd
      refine dg_name (i := 2) nd rfl (.inl rfl) (by decide) ⟨?_, fun _ => ?_⟩
      · intro s H C cl fp
        refine dt_din hu (de_var 2 rfl (by nofun) rfl (by walk_at "vis") (de_var 1 rfl (by nofun) rfl (by walk_at "vis") ⟨0, _, .inl ((x : Nat) : Int), rfl, rfl, ?_, ?_, rfl⟩))
        · rw [Int.zero_add]
          rfl
        · rw [isB, Int.zero_add]
          rfl
      · intro s H C cl fp
        exact de_var 2 rfl (by nofun) rfl (by walk_at "vis") ⟨rfl, rfl⟩
    · rw [List.take_length] at ea
      subst ew ea
      refine da_nil (ra_tupFK (.lst _) nofun ⟨rfl, ?_⟩)
      have e : ((rgD 0 (S.n : Int)).filter (fun d => match d with | .int s => decide (s.toNat ∈ (bfs S).map (·.1)) | _ => false)).map (fun d => d) = (reach S).map nD := by
        rw [List.map_id', rgD0, List.filter_map]
        rfl
      show Q (.kn (ftupK (((rgD 0 (S.n : Int)).filter _).map _)))
      rw [e]
      exact hq
theorem ok_einit (T : EffT K mg C) (F : Fun K "__init__" "Effect.__init__" s_Effect_init f fd) (c1 : Has P w K mg base 7 "reachable" (spS K φ_reachF)) (c2 : Has P w K mg base 4 "are_moves" (spP K φ_isMv)) : FnOk P w K mg base CX0 8 f fd ["self", "system", "moves"] (spU K (φ_einit C)) := by
  refine ok_U F sc_Effect_init (fun rs ω Q h => ?_) fun rs ω Q h cdv A outer s H E hr => ?_
  · obtain ⟨S, m, y, dx, rfl, _⟩ := h
    rfl
  · obtain ⟨S, m, y, dx, rfl, hS, hm, rfl, hq⟩ := h
    have nd := sc_Effect_init.nd
    refine ds_cons (d1_asg (i := 3) nd rfl (by walk_at "loc") (de_callS c1 (by walk_at "room") (by rfl) (da_cons (de_var 1 rfl (by nofun) rfl (by walk_at "vis") (da_nil ⟨rfl, S, rfl, hS, rfl, ?_⟩)))))
    refine ds_cons (d1_if (dt_not (dt_val (de_call c2 (by walk_at "room") (by rfl) (da_cons (de_var 2 rfl (by nofun) rfl (by walk_at "vis") (da_cons (DE.asF (de_var 3 rfl (by nofun) rfl (by walk_at "vis") ⟨_, rfl, (da_nil ⟨[_, _], rfl, logD m, reach S, rfl, sm_mv hS hm, by have := reach_len hS; omega, _, rfl, ?_⟩)⟩)))))))))
    rw [isMv_of hS hm]
    refine iteF (ds_nil ?_)
    refine ds_cons (d1_setAttrA (de_var 1 rfl (by nofun) rfl (by walk_at "vis") (de_var 0 rfl (by nofun) rfl (by walk_at "vis") ⟨1, C, dx, y, [], rfl, rfl, rfl, T.cl, T.n1, by decide, ?_⟩)))
    refine ds_cons (d1_setAttrA (de_var 2 rfl (by nofun) rfl (by walk_at "vis") (de_var 0 rfl (by nofun) rfl (by walk_at "vis") ⟨1, C, dx, y, _, rfl, rfl, rfl, T.cl, T.n2, by have := putS_len "_system" (.val (sysD S)) []; simp only [List.length_nil] at this; omega, ?_⟩)))
    refine ds_cons (d1_setAttrA (de_var 3 rfl (by nofun) rfl (by walk_at "vis") (de_var 0 rfl (by nofun) rfl (by walk_at "vis") ⟨1, C, dx, y, _, rfl, rfl, rfl, T.cl, T.n3, by have := putS_len "_system" (.val (sysD S)) []; have := putS_len "_moves" (.val (logD m)) (putS "_system" (.val (sysD S)) []); simp only [List.length_nil] at *; omega, ?_⟩)))
    refine ds_nil (.inl ⟨nofun, ?_⟩)
    rw [effF_put]
    exact hq
theorem ok_eget (T : EffT K mg C) {x q : Str} {st : Stmt} {fl : Str} {p1 p2 p3 : Pos} (F : Fun K x q st f fd) (sc : FnScope ["self"] ["self"] (defScope st)) (hb : defBody st = [.Return (some (.Attribute (.Name "self" p1) fl p2)) p3]) (n : NoAttr K C fl) : FnOk P w K mg base CX0 1 f fd ["self"] (spS K (φ_eget C fl)) := by
  refine ok_S F sc (fun rs Q h => ?_) fun rs Q h cdv A outer s H E hr => ?_
  · obtain ⟨S, m, d, rfl, _⟩ := h
    rfl
  · obtain ⟨S, m, d, rfl, hl, hq⟩ := h
    rw [hb]
    refine ds_cons (d1_ret (de_attrI (de_var 0 rfl (by nofun) rfl ?_ ⟨C, effF S m, .val d, rfl, T.cl, n, hl, rfl, hq⟩)))
    exact (sc.par "self" (List.Mem.head _)).elim (fun z => .inl z) (fun z => .inr (.inl z))
theorem ok_efix (T : EffT K mg C) (F : Fun K "fixed" "Effect.fixed" s_Effect_fixed f fd) (mZ : mg "zip" = none) (mT : mg "tuple" = none) : FnOk P w K mg base CX0 1 f fd ["self"] (spS K (φ_efix C)) := by
  refine ok_S F sc_Effect_fixed (fun rs Q h => ?_) fun rs Q h cdv A outer s H E hr => ?_
  · obtain ⟨S, m, rfl, _⟩ := h
    rfl
  · obtain ⟨S, m, rfl, hS, hm, hq⟩ := h
    have nd := sc_Effect_fixed.nd
    have hl6 := reach_len hS
    refine ds_cons (d1_ret (de_callTy call_tuple_of (by rfl) mT PyProof.Rows.boot_tuple (da_cons ?_)))
    refine de_lcS rfl nd (blkOk_by (own := [("state", 1), ("target", 2)]) (N := n_Effect_fixed) (sc := defScope s_Effect_fixed) (by decide +kernel)) (dis_zip (by rfl) mZ (da_cons (DE.asF (de_attrI (de_var 0 rfl (by nofun) rfl (by walk_at "vis") ⟨C, effF S m, _, rfl, T.cl, T.n3, rfl, _, rfl, (da_cons (de_attrI (de_var 0 rfl (by nofun) rfl (by walk_at "vis") ⟨C, effF S m, _, rfl, T.cl, T.n2, rfl, (da_nil ⟨_, _, _, _, rfl, .tup _, .tup _, free_val _, free_val _, ?_⟩)⟩)))⟩)))))
    rw [List.map_map, List.map_map, zipS_map]
    refine ⟨by rw [List.length_map, List.length_zip]; omega, _, fun _ _ _ _ => trivial, ⟨rfl, rfl⟩, lcS_filtA _ (fun p : Nat × Nat => decide (p.1 = p.2)) (fun p : Nat × Nat => .val (nD p.1)) (fun j p hp s H C cl fp => ?_), fun acc ω' hacc ⟨ew, ea⟩ => .inr ?_⟩
    · refine dgs_tup2 (i := 1) (j := 2) rfl nd rfl rfl (.inl rfl) (.inl rfl) (by decide) (by decide) ⟨?_, fun _ => ?_⟩
      · intro s H C cl fp
        exact dt_cmp op_eq (nomark _) (de_var 1 rfl (by nofun) rfl (by walk_at "vis") (de_var 2 rfl (by nofun) rfl (by walk_at "vis") (rr_eqM ⟨_, rfl, rfl, rfl⟩)))
      · intro s H C cl fp
        exact de_var 1 rfl (by nofun) rfl (by walk_at "vis") ⟨rfl, rfl, rfl⟩
    · rw [List.length_map, List.take_length] at ea
      subst ew ea
      refine ⟨(fixedOf S m).map nD, ?_, .inl (da_nil (ra_tuple (.lst _) ⟨rfl, hq⟩))⟩
      unfold fixedOf
      rw [List.map_map, List.map_map]
      rfl
theorem small_6 {i : Nat} (h : i ≤ 9) : ((i : Int)).natAbs.log2 < 1920 := small_log h
theorem ok_erepr (T : EffT K mg C) {pF gF : Addr} (F : Fun K "__repr__" "Effect.__repr__" s_Effect_repr f fd) (c1 : HasM P w K mg base 1 gF (spS K (φ_efix C))) (pf : PropOf K C "fixed" pF gF) (mL : mg "len" = none) : FnOk P w K mg base CX0 3 f fd ["self"] (spS K (φ_erepr C)) := by
  refine ok_S F sc_Effect_repr (fun rs Q h => ?_) fun rs Q h cdv A outer s H E hr => ?_
  · obtain ⟨S, m, rfl, _⟩ := h
    rfl
  · obtain ⟨S, m, rfl, hS, hm, hq⟩ := h
    have nd := sc_Effect_repr.nd
    have hl6 := (mv_log hS hm).1
    have hf6 := fixed_len S m
    have hr6 := reach_len hS
    have e1 : (strN m.length).length = 1 := strN_len (by omega)
    have e2 : (strN (fixedOf S m).length).length = 1 := strN_len (by omega)
    have k1 : ("Effect(" : Str).length = 7 := by decide +kernel
    have k2 : (" states, " : Str).length = 9 := by decide +kernel
    have k3 : (" fixed)" : Str).length = 7 := by decide +kernel
    refine ds_cons (d1_ret (de_joined (de_str ⟨_, rfl, ?_, (de_fmtI (de_callB call_len_seq (by rfl) mL PySem.boot_len (da_cons (de_attrI (de_var 0 rfl (by nofun) rfl (by walk_at "vis") ⟨C, effF S m, .val (logD m), rfl, T.cl, T.n2, rfl, (da_nil (ra_len (.tup _) ⟨_, rfl, ?_, _, rfl, ?_, (de_str ⟨_, rfl, ?_, ?_⟩)⟩))⟩)))))⟩)))
    · rw [empty_app1, k1]
      decide
    · rw [List.length_map]
      exact small_log (by omega)
    · rw [List.length_map, empty_app, toStr_nD, app_len, k1, e1]
      decide
    · rw [List.length_map, empty_app, toStr_nD, app_len, app_len, k1, e1, k2]
      decide
    rw [List.length_map, empty_app, toStr_nD]
    refine de_fmtI (de_callB call_len_seq (by rfl) mL PySem.boot_len (da_cons (de_propI c1 T.cl pf (by walk_at "room") (de_var 0 rfl (by nofun) rfl (by walk_at "vis") ⟨effF S m, rfl, S, m, rfl, hS, hm, rfl, (da_nil (ra_len (.tup _) ⟨_, rfl, ?_, _, rfl, ?_, (de_str ⟨_, rfl, ?_, ?_⟩)⟩))⟩))))
    · rw [List.length_map]
      exact small_log (by omega)
    · rw [List.length_map, toStr_nD, app_len, app_len, app_len, k1, e1, k2, e2]
      decide
    · rw [List.length_map, toStr_nD, app_len, app_len, app_len, app_len, k1, e1, k2, e2, k3]
      decide
    rw [List.length_map, toStr_nD]
    exact ⟨rfl, hq⟩
theorem ok_eof (T : EffT K mg C) {gI : Addr} (F : Fun K "of" "Effect.of" s_Effect_of f fd) (c1 : Has P w K mg base 6 "check_system" (spP K φ_check_system)) (c2 : Has P w K mg base 5 "check_log" (spP K φ_check_log)) (c3 : Has P w K mg base 7 "reachable" (spP K φ_reach)) (c4 : Has P w K mg base 1 "end_of" (spP K φ_end_of))
    (cI : HasM P w K mg base 8 gI (spU K (φ_einit C))) (mk : Mk K C gI) (mT : mg "tuple" = none) : FnOk P w K mg base CX0 10 f fd ["cls", "system", "log"] (spS K (φ_eof C)) := by
  refine ok_S F sc_Effect_of (fun rs Q h => ?_) fun rs Q h cdv A outer s H E hr => ?_
  · obtain ⟨S, l, rfl, _⟩ := h
    rfl
  · obtain ⟨S, l, rfl, hS, hl, hz, hq⟩ := h
    have nd := sc_Effect_of.nd
    have hl6 := reach_len hS
    refine ds_cons (d1_expr (de_call c1 (by walk_at "room") (by rfl) (da_cons (de_var 1 rfl (by nofun) rfl (by walk_at "vis") (da_nil ⟨[_], rfl, _, rfl, sm_sys hS, isSys_of hS, ?_⟩)))))
    refine ds_cons (d1_expr (de_call c2 (by walk_at "room") (by rfl) (da_cons (de_var 1 rfl (by nofun) rfl (by walk_at "vis") (da_cons (de_var 2 rfl (by nofun) rfl (by walk_at "vis") (da_nil ⟨[_, _], rfl, S, _, rfl, sm_log (by omega), isLog_of hl, ?_⟩)))))))
    refine ds_cons (d1_asg (i := 3) nd rfl (by walk_at "loc") (de_callTy call_tuple_of (by rfl) mT PyProof.Rows.boot_tuple (da_cons ?_)))
    refine de_lc rfl nd (blkOk_by (own := [("state", 4)]) (N := n_Effect_of) (sc := defScope s_Effect_of) (by decide +kernel)) (di_tup (de_call c3 (by walk_at "room") (by rfl) (da_cons (de_var 1 rfl (by nofun) rfl (by walk_at "vis") (da_nil ⟨[_], rfl, S, rfl, hS, _, rfl, ?_⟩)))))
    refine ⟨by rw [List.length_map]; omega, _, ⟨rfl, rfl⟩, lc_map (fun d => match d with | .int i => nD (endOf S i.toNat l) | _ => .none) (fun j d hd s H C cl fp => ?_), fun acc ω' hacc ⟨ew, ea⟩ => .inl ?_⟩
    · obtain ⟨x, hx, rfl⟩ := map_at hd
      refine dg_name (i := 4) nd rfl (.inl rfl) (by decide) ?_
      intro s H C cl fp
      exact de_call c4 (by walk_at "room") (by rfl) (da_cons (de_var 1 rfl (by nofun) rfl (by walk_at "vis") (da_cons (de_var 4 rfl (by nofun) rfl (by walk_at "vis") (da_cons (de_var 2 rfl (by nofun) rfl (by walk_at "vis") (da_nil ⟨[_, _, _], rfl, S, x, l, rfl, hS, reach_lt (List.mem_of_getElem? hx), hl, rfl, rfl⟩)))))))
    · rw [List.take_length] at ea
      subst ew ea
      have e : ((reach S).map nD).map (fun d => match d with | .int i => nD (endOf S i.toNat l) | _ => .none) = (movesOf S l).map nD := by
        unfold movesOf
        rw [List.map_map, List.map_map]
        rfl
      rw [e]
      refine da_nil (ra_tuple (.lst _) ?_)
      exact ds_cons (d1_ret (de_makeVI cI mk (by walk_at "room") (de_var 0 rfl (by nofun) rfl (by walk_at "vis") ⟨rfl, (da_cons (de_var 1 rfl (by nofun) rfl (by walk_at "vis") (da_cons (de_var 3 rfl (by nofun) rfl (by walk_at "vis") (da_nil ⟨rfl, fun y dx => ⟨S, movesOf S l, y, dx, rfl, hS, mv_of hS hl, rfl, rfl, effF S (movesOf S l), rfl, rfl, hq⟩⟩)))))⟩)))
end
end
section
/-! ### what can be shown, texts too -/
mutual
def shX : D → Bool
  | .none => true
  | .bool _ => true
  | .int i => decide (-999999999999 ≤ i ∧ i ≤ 1000000000000)
  | .str x => x.cps.toList.all fun c => decide (c < 16 ^ 8)
  | .list xs => shXAll xs
  | .tuple xs => shXAll xs
  | .dict _ => false
def shXAll : List D → Bool
  | [] => true
  | x :: xs => shX x && shXAll xs
end
theorem log2_smallX {i : Int} (h1 : -999999999999 ≤ i) (h2 : i ≤ 1000000000000) : i.natAbs.log2 < 1920 := by
  have hn : i.natAbs < 2 ^ 44 := by
    have : (2 : Nat) ^ 44 = 17592186044416 := by decide
    omega
  have h3 : i.natAbs.log2 < 44 := by
    by_cases hz : i.natAbs = 0
    · rw [hz]
      decide
    · exact (Nat.log2_lt hz).mpr hn
  omega
theorem shown_13 {i : Int} (h1 : -999999999999 ≤ i) (h2 : i ≤ 1000000000000) : (PySem.PyData.shown (.int i)).length ≤ 13 := by
  by_cases h : i ≤ 999999999999
  · exact PySem.PyData.shown_int_le2 h1 h
  · obtain rfl : i = 1000000000000 := by omega
    decide +kernel
mutual
theorem shX_ok : ∀ d : D, shX d = true → d.showable = true ∧ d.hasDict = false ∧ d.leavesShort 13 = true
  | .none, _ => ⟨rfl, rfl, rfl⟩
  | .bool _, _ => ⟨rfl, rfl, rfl⟩
  | .int i, h => by
    have h := of_decide_eq_true (show decide (-999999999999 ≤ i ∧ i ≤ 1000000000000) = true from h)
    exact ⟨decide_eq_true (log2_smallX h.1 h.2), rfl, decide_eq_true (shown_13 h.1 h.2)⟩
  | .str _, h => ⟨rfl, rfl, h⟩
  | .list xs, h => by
    have q := shXAll_ok xs h
    exact ⟨q.1, q.2.1, q.2.2⟩
  | .tuple xs, h => by
    have q := shXAll_ok xs h
    exact ⟨q.1, q.2.1, q.2.2⟩
  | .dict _, h => by cases h
theorem shXAll_ok : ∀ xs : List D, shXAll xs = true → PyData.showableAll xs = true ∧ PyData.hasDictAll xs = false ∧ PyData.leavesShortAll 13 xs = true
  | [], _ => ⟨rfl, rfl, rfl⟩
  | x :: xs, h => by
    have h : (shX x && shXAll xs) = true := h
    rw [Bool.and_eq_true] at h
    have q1 := shX_ok x h.1
    have q2 := shXAll_ok xs h.2
    refine ⟨?_, ?_, ?_⟩
    · show (x.showable && PyData.showableAll xs) = true
      rw [q1.1, q2.1]
      rfl
    · show (x.hasDict || PyData.hasDictAll xs) = false
      rw [q1.2.1, q2.2.1]
      rfl
    · show (x.leavesShort 13 && PyData.leavesShortAll 13 xs) = true
      rw [q1.2.2, q2.2.2]
      rfl
end
theorem Shows.ofX {d : D} (h : shX d = true) (hp : d.depth ≤ 40) (hb : d.bulk ≤ 1000000) : Shows d := by
  have q := shX_ok d h
  exact ⟨q.1, q.2.1, hp, PyData.shown_fits_bulk (B := 13) (by decide) (by decide) q.2.2 (Nat.le_trans hb (by decide))⟩
mutual
theorem shX_of : ∀ d : D, shD d = true → shX d = true
  | .none, _ => rfl
  | .bool _, _ => rfl
  | .int i, h => by
    have h := of_decide_eq_true (show decide (-999999999999 ≤ i ∧ i ≤ 999999999999) = true from h)
    exact decide_eq_true ⟨h.1, by omega⟩
  | .str _, h => by cases h
  | .list xs, h => shXAll_of xs h
  | .tuple xs, h => shXAll_of xs h
  | .dict _, h => by cases h
theorem shXAll_of : ∀ xs : List D, shAll xs = true → shXAll xs = true
  | [], _ => rfl
  | x :: xs, h => by
    have h : (shD x && shAll xs) = true := h
    rw [Bool.and_eq_true] at h
    show (shX x && shXAll xs) = true
    rw [shX_of x h.1, shXAll_of xs h.2]
    rfl
end
theorem shXAll_iff (xs : List D) : shXAll xs = xs.all shX := by
  induction xs with
  | nil => rfl
  | cons x xs ih =>
    show (shX x && shXAll xs) = _
    rw [ih, List.all_cons]
end
section
/-! ### effects: the law's own defs -/
def seenE (S : Sys) (m : List Nat) : D := .list [sysD S, logD m, logD (fixedOf S m), .str (effStr m.length (fixedOf S m).length)]
theorem effStr_sh : ∀ n, n < 7 → ∀ k, k < 7 → (shX (.str (effStr n k)) = true ∧ (effStr n k).length ≤ 40) := by decide +kernel
theorem bulkAll_cons (x : D) (xs : List D) : PyData.bulkAll (x :: xs) = x.bulk + 1 + PyData.bulkAll xs := rfl
theorem fixed_mem {S : Sys} {m : List Nat} : ∀ x ∈ fixedOf S m, x ∈ reach S := fun x hx => by
  unfold fixedOf at hx
  obtain ⟨⟨a, b⟩, hp, rfl⟩ := List.mem_map.mp hx
  exact (List.of_mem_zip (List.mem_filter.mp hp).1).1
theorem seenE_shX {S : Sys} (hS : S.Ok) {m : List Nat} (hm : MvOk S m) : shX (seenE S m) = true := by
  have h1 := mv_log hS hm
  have h2 := fixed_len S m
  have h3 := reach_len hS
  have e := (effStr_sh m.length (by omega) (fixedOf S m).length (by omega)).1
  show (shX (sysD S) && (shX (logD m) && (shX (logD (fixedOf S m)) && (shX (.str (effStr m.length (fixedOf S m).length)) && true)))) = true
  rw [e, shX_of _ (sh_sys hS), shX_of _ (sh_log fun i hi => by have := h1.2 i hi; omega), shX_of _ (sh_log fun i hi => by have := reach_5 hS (fixed_mem i hi); omega)]
  rfl
theorem seen_depth (S : Sys) (m : List Nat) : (seenE S m).depth ≤ 4 := by
  show PyData.depthAll _ + 1 ≤ 4
  have := depthAll_le (n := 3) (l := [sysD S, logD m, logD (fixedOf S m), .str (effStr m.length (fixedOf S m).length)]) fun x hx => by
    simp only [List.mem_cons, List.not_mem_nil, or_false] at hx
    rcases hx with rfl | rfl | rfl | rfl
    · exact depth_sys S
    · exact Nat.le_trans (depth_log _) (by decide)
    · exact Nat.le_trans (depth_log _) (by decide)
    · exact Nat.zero_le _
  omega
theorem seen_bulk {S : Sys} (hS : S.Ok) {m : List Nat} (hm : MvOk S m) : (seenE S m).bulk ≤ 200 := by
  have h1 := mv_log hS hm
  have h2 := fixed_len S m
  have h3 := reach_len hS
  have e := (effStr_sh m.length (by omega) (fixedOf S m).length (by omega)).2
  show PyData.bulkAll _ ≤ 200
  rw [bulkAll_cons, bulkAll_cons, bulkAll_cons, bulkAll_cons, bulk_log, bulk_log]
  have hb := bulk_sys hS
  show (sysD S).bulk + 1 + (m.length + 1 + ((fixedOf S m).length + 1 + ((effStr m.length (fixedOf S m).length).length + 1 + 0))) ≤ 200
  omega
def φ_lmoves : List D → (D → Prop) → Prop := fun ds P => ∃ S l, ds = [sysD S, logD l] ∧ S.Ok ∧ LogOk S l ∧ P (logD (movesOf S l))
def φ_ldue : List D → (D → Prop) → Prop := fun ds P => ∃ S m, ds = [sysD S, logD m] ∧ S.Ok ∧ MvOk S m ∧ P (seenE S m)
def φ_lseen (C : Addr) : List Sl → (Sl → Prop) → Prop := fun rs P => ∃ S m, rs = [effS C S m] ∧ S.Ok ∧ MvOk S m ∧ P (.val (seenE S m))
def φ_any : List D → List D → (D → List D → Prop) → Prop := fun cs ds P => ∃ (c : Int) (S : Sys), PenOk c cs ∧ ds = [sysD S] ∧ S.Ok ∧ c ≤ 900000 ∧ ∀ (m : List Nat) cs', MvOk S m → PenOk (c + 6) cs' → P (logD m) cs'
section
variable {P : Program} {w : World} {K : Fg} {mg : Str → Option Value} {base : Heap} {f C : Addr} {fd : FuncData} {k : Nat}
end
end
section
/-! dicts whose keys are tuples of numbers and texts: the object is named -/
abbrev REnt := List Key × Addr × Value
abbrev TdV : List TEnt → List REnt → Prop := Paired fun (t : TEnt) (y : REnt) => t.1 = y.1 ∧ t.2.1 = y.2.1 ∧ RelV t.2.2 y.2.2
def TdRaw (P : Program) (w : World) (o : Obj) (ts : List TEnt) : Prop :=
  ∃ ys : List REnt, TdV ts ys ∧ ∃ es ep, o.ExactDict ∧ o.data = .dict es ep ∧ es.toList = ys.map (entryOfKey (tupleKind (mixKind P w))) ∧ (ys.map (·.1)).Nodup
def TDO (P : Program) (w : World) (o : Obj) (ts : List TEnt) (a : Addr) : HO := .ext fun h => ts.length ≤ sizeLine ∧ (a == sysModules) = false ∧ h.get? a = some o ∧ TdRaw P w o ts
theorem td_ok {P : Program} {w : World} {H : Hp} {h : Heap} {a : Addr} {o : Obj} {ts : List TEnt} (z : ts.length ≤ sizeLine) (hd : (a == sysModules) = false) (ho : h.get? a = some o) (r : TdRaw P w o ts) : ObjOk P w H h a (TDO P w o ts a) :=
  ⟨⟨z, hd, ho, r⟩, ⟨o, ho⟩, fun _ _ q hk => ⟨q.1, q.2.1, hk _ q.2.2.1, q.2.2.2⟩⟩
theorem td_rd {P : Program} {w : World} {H : Hp} {h : Heap} {a : Addr} {o : Obj} {ts : List TEnt} (hok : HOk P w H h) (e : H a = some (TDO P w o ts a)) : ts.length ≤ sizeLine ∧ (a == sysModules) = false ∧ h.get? a = some o ∧ TdRaw P w o ts := (hok a _ e).1
def valT (ts : List TEnt) (k : List Key) : Option V := (ts.find? fun t => decide (t.1 = k)).map (·.2.2)
def putT (ts : List TEnt) (k : List Key) (b : Addr) (v : V) : List TEnt := if (valT ts k).isSome then ts.map (fun t => if t.1 = k then (t.1, t.2.1, v) else t) else ts ++ [(k, b, v)]
theorem tdv_get {k : List Key} : ∀ {ts : List TEnt} {ys : List REnt}, TdV ts ys → (valT ts k = none ∧ atKey ys k = none) ∨ ∃ v p, valT ts k = some v ∧ atKey ys k = some p ∧ RelV v p.2
  | _, _, .nil => .inl ⟨rfl, rfl⟩
  | t :: ts, y :: ys, .cons h q => by
    unfold valT atKey
    rw [List.find?_cons, List.find?_cons, h.1]
    by_cases e : y.1 = k
    · rw [decide_eq_true e]
      exact .inr ⟨_, _, rfl, rfl, h.2.2⟩
    · rw [decide_eq_false e]
      exact tdv_get q
theorem tdv_isSome {k : List Key} {ts : List TEnt} {ys : List REnt} (h : TdV ts ys) : (valT ts k).isSome = (atKey ys k).isSome := by
  rcases tdv_get (k := k) h with ⟨e1, e2⟩ | ⟨v, p, e1, e2, _⟩
  · rw [e1, e2] <;> rfl
  · rw [e1, e2] <;> rfl
theorem tdv_map {k : List Key} {v : V} {u : Value} (r : RelV v u) : ∀ {ts : List TEnt} {ys : List REnt}, TdV ts ys → TdV (ts.map fun t => if t.1 = k then (t.1, t.2.1, v) else t) (ys.map (putAt k u))
  | _, _, .nil => .nil
  | t :: ts, y :: ys, .cons h q => by
    refine .cons ?_ (tdv_map r q)
    unfold putAt
    dsimp only
    by_cases e : y.1 = k
    · rw [if_pos (h.1.trans e), if_pos e]
      exact ⟨h.1, h.2.1, r⟩
    · rw [if_neg fun z => e (h.1.symm.trans z), if_neg e]
      exact h
theorem tdv_snoc {t : TEnt} {y : REnt} (r : t.1 = y.1 ∧ t.2.1 = y.2.1 ∧ RelV t.2.2 y.2.2) : ∀ {ts : List TEnt} {ys : List REnt}, TdV ts ys → TdV (ts ++ [t]) (ys ++ [y])
  | _, _, .nil => .cons r .nil
  | _, _, .cons h q => .cons h (tdv_snoc r q)
theorem tdv_put {k : List Key} {b : Addr} {v : V} {u : Value} (r : RelV v u) {ts : List TEnt} {ys : List REnt} (h : TdV ts ys) : TdV (putT ts k b v) (storedH ys k b u) := by
  unfold putT storedH
  rw [tdv_isSome h]
  split
  · exact tdv_map r h
  · exact tdv_snoc ⟨rfl, rfl, r⟩ h
theorem putT_len (ts : List TEnt) (k : List Key) (b : Addr) (v : V) : (putT ts k b v).length ≤ ts.length + 1 := by
  unfold putT
  split
  · rw [List.length_map]
    omega
  · rw [List.length_append]
    exact Nat.le_refl _
section
variable {X : Cx} {pins : List (Addr × Obj)} {σ : L2.St} {H : Hp} {s : Shared} {a b : Addr} {A : Around} {E : Value → Shared → Prop} {o : Obj} {ts : List TEnt} {k : List Key}
theorem key_sq (I : Inv X pins σ H s) (h : SqT X.K H b (k.map kV)) : (tupleKind (mixKind X.prog X.w)).is s.heap k b := by
  obtain ⟨its, r, ⟨o, ho, hc, n, hd⟩, _⟩ := I.tuple h
  exact ⟨o, its.toArray, n, ho, hc, hd, by simpa using items_are r⟩
/-- all keys' tuples are there -/
def KeysAt (K : Fg) (H : Hp) (ts : List TEnt) : Prop := ∀ t ∈ ts, SqT K H t.2.1 (t.1.map kV)
theorem tdv_keys {P : List Key → Addr → Prop} : ∀ {ts : List TEnt} {ys : List REnt}, TdV ts ys → (∀ t ∈ ts, P t.1 t.2.1) → ∀ y ∈ ys, P y.1 y.2.1
  | _, _, .nil, _, y, hy => nomatch hy
  | t :: ts, y :: ys, .cons h q, ht, z, hz => by
    rcases List.mem_cons.mp hz with rfl | hz
    · rw [← h.1, ← h.2.1]
      exact ht t List.mem_cons_self
    · exact tdv_keys q (fun u hu => ht u (List.mem_cons_of_mem _ hu)) z hz
theorem td_full (I : Inv X pins σ H s) (hD : H a = some (TDO X.prog X.w o ts a)) (hk : KeysAt X.K H ts) : ts.length ≤ sizeLine ∧ (a == sysModules) = false ∧ ∃ ys, TdV ts ys ∧ s.heap.DictOfH (tupleKind (mixKind X.prog X.w)) a ys := by
  obtain ⟨z, hs, ho, ys, r, es, ep, h1, h2, h3, h4⟩ := td_rd I.hok hD
  exact ⟨z, hs, ys, r, o, es, ep, ho, h1, h2, h3, fun y hy => tdv_keys (P := fun k b => (tupleKind (mixKind X.prog X.w)).is s.heap k b) r (fun t ht => key_sq I (hk t ht)) y hy, h4⟩
theorem td_getItem {v : V} {Q : Value → Shared → Prop} (hu : A.units + 1 < cLine) (I : Inv X pins σ H s) (hD : H a = some (TDO X.prog X.w o ts a)) (hk : KeysAt X.K H ts) (hb : SqT X.K H b (k.map kV)) (hv : valT ts k = some v) (h : ∀ w' s', Inv X pins σ H s' → RelV v w' → Q w' s') :
    wpAny (model X.prog X.w) A (getItem (.ref a) (.ref b)) Q E s := by
  obtain ⟨z, hs, ys, r, dd⟩ := td_full I hD hk
  rcases tdv_get (k := k) r with ⟨e1, _⟩ | ⟨v', p, e1, e2, rv⟩
  · rw [e1] at hv
    cases hv
  · rw [e1] at hv
    cases hv
    exact wpAny_getItem_heap (tupleKind_room_in1 hu) (key_sq I hb) dd e2 (h _ _ (I.tok _) rv)
theorem td_in {Q : Value → Shared → Prop} (hu : A.units + 1 < cLine) (I : Inv X pins σ H s) (hD : H a = some (TDO X.prog X.w o ts a)) (hk : KeysAt X.K H ts) (hb : SqT X.K H b (k.map kV)) (h : ∀ s', Inv X pins σ H s' → Q (.bool (valT ts k).isSome) s') :
    wpAny (model X.prog X.w) A (compareOp .In (.ref b) (.ref a)) Q E s := by
  obtain ⟨z, hs, ys, r, dd⟩ := td_full I hD hk
  refine wpAny_in_heap (tupleKind_room_in1 hu) (key_sq I hb) hs dd ?_
  rw [← tdv_isSome r]
  exact h _ (I.tok _)
theorem td_notIn {Q : Value → Shared → Prop} (hu : A.units + 1 < cLine) (I : Inv X pins σ H s) (hD : H a = some (TDO X.prog X.w o ts a)) (hk : KeysAt X.K H ts) (hb : SqT X.K H b (k.map kV)) (h : ∀ s', Inv X pins σ H s' → Q (.bool (!(valT ts k).isSome)) s') :
    wpAny (model X.prog X.w) A (compareOp .NotIn (.ref b) (.ref a)) Q E s := by
  obtain ⟨z, hs, ys, r, dd⟩ := td_full I hD hk
  refine wpAny_notIn_heap (tupleKind_room_in1 hu) (key_sq I hb) hs dd ?_
  rw [← tdv_isSome r]
  exact h _ (I.tok _)
theorem td_get2 {d : V} {rr : Value} {Q : Value → Shared → Prop} (hu : A.units + 1 < cLine) (I : Inv X pins σ H s) (hD : H a = some (TDO X.prog X.w o ts a)) (hk : KeysAt X.K H ts) (hb : SqT X.K H b (k.map kV)) (rd : RelV d rr) (h : ∀ w' s', Inv X pins σ H s' → RelV ((valT ts k).getD d) w' → Q w' s') :
    wpAny (model X.prog X.w) A (call (.builtin "dict.get") [.ref a, .ref b, rr]) Q E s := by
  obtain ⟨z, hs, ys, r, dd⟩ := td_full I hD hk
  refine call_meetsIn PySem.F.slot_dict_get dd.typeIs PySem.F.entry_dict_get (PySem.F.args_dict_get_3 _ _ _) (meetsH_dict_get_default (tupleKind (mixKind X.prog X.w)) a b hs rr) ⟨tupleKind_room_in1 hu, k, ys, key_sq I hb, dd, h _ _ (I.tok _) ?_⟩
  rcases tdv_get (k := k) r with ⟨e1, e2⟩ | ⟨v', p, e1, e2, rv⟩
  · rw [e1, e2]
    exact rd
  · rw [e1, e2]
    exact rv
/-- what a store leaves -/
theorem td_stored (I : Inv X pins σ H s) (hD : H a = some (TDO X.prog X.w o ts a)) {ys : List REnt} {h' : Heap} {v : V} {u : Value} {n : Nat} (hs : (a == sysModules) = false) (hz : ts.length < sizeLine) (r : TdV ts ys) (rv : RelV v u) (dd : h'.DictOfH (tupleKind (mixKind X.prog X.w)) a (storedH ys k b u)) (hb : Heap.SameBut a s.heap h') :
    ∃ o', Inv X pins σ (upd H a (TDO X.prog X.w o' (putT ts k b v) a)) { s with heap := h', toks := n } := by
  obtain ⟨o', es, ep, ho, h1, h2, h3, _, h4⟩ := dd
  have hl := putT_len ts k b v
  exact ⟨o', d_write I (by rw [hD]; exact True.intro) hb ⟨o', ho⟩ (td_ok (by omega) hs ho ⟨_, tdv_put rv r, es, ep, h1, h2, h3, h4⟩)⟩
theorem td_setItem {v : V} {u : Value} {Q : Unit → Shared → Prop} (hu : A.units + 1 < cLine) (I : Inv X pins σ H s) (hD : H a = some (TDO X.prog X.w o ts a)) (hk : KeysAt X.K H ts) (hb : SqT X.K H b (k.map kV)) (hz : ts.length < sizeLine) (rv : RelV v u)
    (h : ∀ o' s', Inv X pins σ (upd H a (TDO X.prog X.w o' (putT ts k b v) a)) s' → Q () s') : wpAny (model X.prog X.w) A (setItem (.ref a) (.ref b) u) Q E s := by
  obtain ⟨z, hs, ys, r, dd⟩ := td_full I hD hk
  have hy : ys.length ≤ sizeLine := by rw [← Paired.length r]; exact z
  refine wpAny_setItem_heap (hsz := hy) (tupleKind_room_in1 hu) (key_sq I hb) dd fun h' dd' hsb => ?_
  obtain ⟨o', I'⟩ := td_stored (n := s.toks + (tupleKind (mixKind X.prog X.w)).draws k) I hD hs hz r rv dd' hsb
  exact h o' _ I'
end
/-! ### as readings -/
section
variable {X : Cx} {o i e f value : Expr} {pos pos' apos cpos : Pos} {td ty tv tx : TE}
def TAt (X : Cx) (H : Hp) (x y : V) (a b : Addr) (ob : Obj) (ts : List TEnt) (k : List Key) : Prop := x = .ref a ∧ y = .ref b ∧ H a = some (TDO X.prog X.w ob ts a) ∧ KeysAt X.K H ts ∧ SqT X.K H b (k.map kV)
theorem td_type {pins : List (Addr × Obj)} {σ : L2.St} {H : Hp} {s : Shared} {a : Addr} {ob : Obj} {ts : List TEnt} (I : Inv X pins σ H s) (hD : H a = some (TDO X.prog X.w ob ts a)) :
    s.TypeIs (.ref a) "dict" ∧ ∀ b, Value.ref a = .ref b → ∃ q, s.heap.get? b = some q ∧ q.dict = none := by
  obtain ⟨_, _, ho, _, _, _, _, h1, _⟩ := td_rd I.hok hD
  refine ⟨⟨ob, ho, h1.1⟩, fun b q => ?_⟩
  cases q
  exact ⟨ob, ho, h1.2.1⟩
theorem pe_tdget (hu : X.A.units + 1 < cLine) (ho : PE X o td) (hi : PE X i ty) (hs : NoSl i) : PE X (.Subscript o i pos) (fun σ H Q => td σ H fun x H1 => ty σ H1 fun y H2 => ∃ a b ob ts k v, TAt X H2 x y a b ob ts k ∧ valT ts k = some v ∧ Q v H2) := by
  refine ⟨fun pins s σ H Q I h => ?_⟩
  refine subD_of PySem.F.slot_dict_getitem.lookup hs (thn (ho.run pins s σ H _ I h) fun u s1 ⟨x, H1, I1, rx, q1⟩ => thn (hi.run pins s1 σ H1 _ I1 q1) fun iv s2 ⟨y, H2, I2, ry, a, b, ob, ts, k, v, ⟨ex, ey, hD, hk, hb⟩, hv, q2⟩ => ?_)
  subst ex ey
  obtain rfl : u = Value.ref a := rx
  obtain rfl : iv = Value.ref b := ry
  exact ⟨(td_type I2 hD).1, td_getItem hu I2 hD hk hb hv fun w' s3 I3 rw' => ⟨v, H2, I3, rw', q2⟩⟩
theorem pc_tdin (hu : X.A.units + 1 < cLine) (hi : PE X i ty) (ho : PE X o td) : PC X .In i o (fun σ H Q => ty σ H fun y H1 => td σ H1 fun x H2 => ∃ a b ob ts k, TAt X H2 x y a b ob ts k ∧ Q (.bl (valT ts k).isSome) H2) := by
  refine ⟨fun pins s σ H Q I h => ?_⟩
  refine thn (hi.run pins s σ H _ I h) fun iv s1 ⟨y, H1, I1, ry, q1⟩ => thn (ho.run pins s1 σ H1 _ I1 q1) fun u s2 ⟨x, H2, I2, rx, a, b, ob, ts, k, ⟨ex, ey, hD, hk, hb⟩, q2⟩ => ?_
  subst ex ey
  obtain rfl : u = Value.ref a := rx
  obtain rfl : iv = Value.ref b := ry
  exact td_in hu I2 hD hk hb fun s3 I3 => ⟨.bl (valT ts k).isSome, H2, I3, rfl, q2⟩
theorem pc_tdnotin (hu : X.A.units + 1 < cLine) (hi : PE X i ty) (ho : PE X o td) : PC X .NotIn i o (fun σ H Q => ty σ H fun y H1 => td σ H1 fun x H2 => ∃ a b ob ts k, TAt X H2 x y a b ob ts k ∧ Q (.bl (!(valT ts k).isSome)) H2) := by
  refine ⟨fun pins s σ H Q I h => ?_⟩
  refine thn (hi.run pins s σ H _ I h) fun iv s1 ⟨y, H1, I1, ry, q1⟩ => thn (ho.run pins s1 σ H1 _ I1 q1) fun u s2 ⟨x, H2, I2, rx, a, b, ob, ts, k, ⟨ex, ey, hD, hk, hb⟩, q2⟩ => ?_
  subst ex ey
  obtain rfl : u = Value.ref a := rx
  obtain rfl : iv = Value.ref b := ry
  exact td_notIn hu I2 hD hk hb fun s3 I3 => ⟨.bl (!(valT ts k).isSome), H2, I3, rfl, q2⟩
theorem pe_tdget2 (hu : X.A.units + 1 < cLine) (ho : PE X o td) (he : PE X e ty) (hf : PE X f tx) (m : M2 X o "get" apos e f cpos) : PE X (.Call (.Attribute o "get" apos) [e, f] [] cpos)
    (fun σ H Q => td σ H fun x H1 => ∃ a ob ts, x = .ref a ∧ H1 a = some (TDO X.prog X.w ob ts a) ∧ ty σ H1 fun y H2 => tx σ H2 fun z H3 => ∃ b ob ts k, TAt X H3 x y a b ob ts k ∧ Q ((valT ts k).getD z) H3) := by
  refine ⟨fun pins s σ H Q I h => ?_⟩
  refine wpAny_Call_method m.base m.few m.line PySem.F.plainAttrs_dict PySem.F.slot_dict_get PySem.F.type_dict_get (thn (ho.run pins s σ H _ I h) fun u s1 ⟨x, H1, I1, rx, a, ob, ts, ex, hD, q1⟩ => ?_)
  subst ex
  obtain rfl : u = Value.ref a := rx
  obtain ⟨t1, t2⟩ := td_type I1 hD
  refine ⟨t1, t2, ?_⟩
  rw [m.trees]
  refine Calls.callWith_builtin rfl (Calls.evalArgs_plain (Calls.spliced_cons (thn (he.run pins s1 σ H1 _ I1 q1) fun iv s2 ⟨y, H2, I2, ry, q2⟩ =>
    Calls.spliced_cons (thn (hf.run pins s2 σ H2 _ I2 q2) fun fv s3 ⟨z, H3, I3, rz, b, ob, ts, k, ⟨_, ey, hD3, hk, hb⟩, q3⟩ => Calls.spliced_nil ?_))))
  subst ey
  obtain rfl : iv = Value.ref b := ry
  exact td_get2 hu I3 hD3 hk hb rz fun w' s4 I4 rw' => ⟨_, H3, I4, rw', q3⟩
theorem ps_tdput (hu : X.A.units + 1 < cLine) (ho : PE X o td) (hi : PE X i ty) (hv : PE X value tv) (hs : swapsWith value (some (.Subscript o i pos')) pos.line X.env = pure false) :
    PS X (.Assign [.Subscript o i pos'] value pos) (fun D σ H => tv σ H fun v H1 => td σ H1 fun x H2 => ty σ H2 fun y H3 => ∃ a b ob ts k, TAt X H3 x y a b ob ts k ∧ ts.length < sizeLine ∧ ∀ o', D.nx σ (upd H3 a (TDO X.prog X.w o' (putT ts k b v) a))) := by
  refine ⟨fun pins s σ H D I h => ?_⟩
  refine wpAny_Assign_Subscript (thn (hv.run pins s σ H _ I h) fun r s1 ⟨v, H1, I1, rv, q1⟩ => thn (ho.run pins s1 σ H1 _ I1 q1) fun u s2 ⟨x, H2, I2, rx, q2⟩ => thn (hi.run pins s2 σ H2 _ I2 q2) fun iv s3 ⟨y, H3, I3, ry, a, b, ob, ts, k, ⟨ex, ey, hD, hk, hb⟩, hz, q3⟩ => ?_) hs
  subst ex ey
  obtain rfl : u = Value.ref a := rx
  obtain rfl : iv = Value.ref b := ry
  exact td_setItem hu I3 hD hk hb hz rv fun o' s4 I4 => ⟨σ, _, I4, q3 o'⟩
theorem td_empty {P : Program} {w : World} {H : Hp} (h : Heap) (hb : sysModules < h.objs.size) : ObjOk P w H (h.push { cls := .type "dict", data := .dict #[] }) h.objs.size (TDO P w { cls := .type "dict", data := .dict #[] } [] h.objs.size) :=
  td_ok (Nat.zero_le _) (beq_eq_false_iff_ne.mpr (Nat.ne_of_gt hb)) (Heap.get?_push_size _ rfl) ⟨[], .nil, #[], 0, ⟨rfl, rfl, rfl⟩, rfl, rfl, List.nodup_nil⟩
abbrev newD : Obj := { cls := .type "dict", data := .dict #[] }
theorem pe_tdnew : PE X (.Dict [] [] pos) (fun _ H Q => ∀ p, H p = none → Q (.ref p) (upd H p (TDO X.prog X.w newD [] p))) := ⟨fun pins s σ H Q I h =>
  wpAny_Dict_empty ⟨.ref s.heap.objs.size, _, I.laid (a := s.heap.objs.size) (o := TDO X.prog X.w newD [] s.heap.objs.size) (t' := s.toks) (fun _ _ q => Heap.get?_push_of_some _ q) (Nat.le_refl _) (td_empty s.heap I.big), rfl, h _ (I.hok.fresh (Nat.le_refl _))⟩⟩
end
end
section
/-! the same told by data -/
/-! ### walking the keys -/
def ItTd (P : Program) (w : World) (a : Addr) (o : Obj) (ts : List TEnt) : It :=
  ⟨fun i H => H a = some (TDO P w o ts a) ∧ i < ts.length, fun i H x H' => H' = H ∧ ∃ t, ts[i]? = some t ∧ x = V.ref t.2.1, fun i H => H a = some (TDO P w o ts a) ∧ ts.length ≤ i⟩
theorem tdv_at : ∀ {ts : List TEnt} {ys : List REnt} {i : Nat} {t : TEnt}, TdV ts ys → ts[i]? = some t → ∃ y, ys[i]? = some y ∧ t.2.1 = y.2.1
  | _, _, i, t, .nil, h => by simp at h
  | _, _, 0, t, .cons h q, e => by
    simp at e
    subst e
    exact ⟨_, rfl, h.2.1⟩
  | _, _, i + 1, t, .cons h q, e => by
    simp at e
    obtain ⟨y, e1, e2⟩ := tdv_at q e
    exact ⟨y, by simpa using e1, e2⟩
theorem turn_td {P : Program} {w : World} {K : Fg} {tg : Expr} {a it : Addr} {o : Obj} {ts : List TEnt} {es : Array DictEntry} {ep : Nat} (hod : o.data = .dict es ep) : Turn P w K tg (ItTd P w a o ts) [it] it (fun i h => h.IsKeyIter it a i ts.length ep) where
  mem := by simp
  obj := fun i h st b hb => by
    have e : b = it := by simpa using hb
    subst e
    obtain ⟨oi, e, c, dd⟩ := st
    exact ⟨oi, e, fun v z => by rw [dd] at z; cases z⟩
  keep := fun i h h' st k => st.at fun oi e => k it (by simp) oi e
  item := by
    intro X hP hw hK hc i pins s σ H E I hf st hg
    subst hP hw hK
    obtain ⟨hd, hi⟩ := hg
    obtain ⟨f0, f1, f2, f3, f4, f5⟩ := hf it (by simp)
    obtain ⟨_, hs, hgd, ys, r, es', ep', hx, hdt, hsz, _⟩ := td_rd I.hok hd
    obtain ⟨rfl, rfl⟩ := dict_ep hod hdt
    obtain ⟨t, ht⟩ : ∃ t, ts[i]? = some t := ⟨ts[i], List.getElem?_eq_getElem hi⟩
    obtain ⟨y, hy, hty⟩ := tdv_at r ht
    have hen := entry_at hsz i
    rw [hy] at hen
    have hsize : es'.size = ts.length := by rw [size_of_entries hsz, Paired.length r]
    refine next_key_item st hgd hdt hsize hen fun h' st' sb => ?_
    have I1 : Inv X pins σ H { s with heap := h' } := I.turned (t' := s.toks) (fun b ob hb e => (sb.2 b hb).trans e) f0 f1 f3 f4 f5
    obtain ⟨oi, e, c, dd⟩ := id st'
    refine ⟨_, rfl, go_of (s := { s with heap := h' }) e c dd (by decide) ⟨.ref t.2.1, H, I1, ?_, ⟨rfl, t, ht, rfl⟩, st', fun b hb => (hf b hb).1⟩⟩
    rw [hty]
    rfl
  done := by
    intro X hP hw hK hc i pins s σ H E I hf st hg
    subst hP hw hK
    obtain ⟨hd, hi⟩ := hg
    obtain ⟨f0, f1, f2, f3, f4, f5⟩ := hf it (by simp)
    obtain ⟨_, hs, hgd, ys, r, es', ep', hx, hdt, hsz, _⟩ := td_rd I.hok hd
    obtain ⟨rfl, rfl⟩ := dict_ep hod hdt
    have hsize : es'.size = ts.length := by rw [size_of_entries hsz, Paired.length r]
    exact next_key_end (I.ok.hd hc) st hgd hdt hsize hi fun h' eb => ⟨rfl, I.turned (t' := s.toks) (fun b ob hb e => eb b ob hb e) f0 f1 f3 f4 f5⟩
  self := fun A i s Q E st h => by
    refine wpAny_pyIter_slot st.typeIs F.slot_dict_keyiterator_iter (wpAny_call_entry F.slot_dict_keyiterator_iter st.typeIs F.entry_dict_keyiterator_iter ?_ (F.args_dict_keyiterator_iter_1 _))
    show wpAny _ _ (ret (.ref it)) _ _ s
    exact wpAny_pure ⟨_, rfl, "dict_keyiterator", _, st.typeIs, F.slot_dict_keyiterator_next.lookup, h⟩
theorem pi_td {X : Cx} {tg e : Expr} {te : TE} (he : PE X e te) : PI X tg e (fun σ H R => te σ H fun x H1 => ∃ a o ts, x = V.ref a ∧ H1 a = some (TDO X.prog X.w o ts a) ∧ R (ItTd X.prog X.w a o ts) H1) := by
  refine ⟨fun pins s σ H R I h => ?_⟩
  refine thn (he.run pins s σ H _ I h) fun u s1 ⟨x, H1, I1, rx, a, o, ts, ex, hd, q⟩ => ?_
  subst ex
  obtain rfl : u = Value.ref a := rx
  obtain ⟨_, hs, hgd, ys, r, es, ep, hx, hdt, hsz, _⟩ := td_rd I1.hok hd
  have hsize : es.size = ts.length := by rw [size_of_entries hsz, Paired.length r]
  refine iter_keys hs hgd hx hdt (pi_one (tk := s1.toks) I1 _ (turn_td hdt) ⟨_, Heap.get?_push_size _ rfl, rfl, ?_⟩ q)
  rw [hsize] <;> rfl
/-! ### data -/
def getT (kvs : List (List Key × D)) (k : List Key) : Option D := (kvs.find? fun q => decide (q.1 = k)).map (·.2)
def setT (kvs : List (List Key × D)) (k : List Key) (d : D) : List (List Key × D) := if (getT kvs k).isSome then kvs.map (fun q => if q.1 = k then (q.1, d) else q) else kvs ++ [(k, d)]
def tkD (k : List Key) : D := .tuple (k.map keyD)
section
variable {K : Fg} {B F H : Hp} {as : List Addr} {ω : List Cell}
theorem tdok_get {k : List Key} : ∀ {ts : List TEnt} {kvs : List (List Key × D)}, TdOk K B ts kvs → (valT ts k = none ∧ getT kvs k = none) ∨ ∃ v d, valT ts k = some v ∧ getT kvs k = some d ∧ Dp K B v d
  | _, _, .nil => .inl ⟨rfl, rfl⟩
  | t :: ts, q :: kvs, .cons h r => by
    unfold valT getT
    rw [List.find?_cons, List.find?_cons, h.1]
    by_cases e : q.1 = k
    · rw [decide_eq_true e]
      exact .inr ⟨_, _, rfl, rfl, h.2.2⟩
    · rw [decide_eq_false e]
      exact tdok_get r
theorem tdok_some {k : List Key} {ts : List TEnt} {kvs : List (List Key × D)} (h : TdOk K B ts kvs) : (valT ts k).isSome = (getT kvs k).isSome := by
  rcases tdok_get (k := k) h with ⟨e1, e2⟩ | ⟨v, d, e1, e2, _⟩
  · rw [e1, e2] <;> rfl
  · rw [e1, e2] <;> rfl
theorem tdok_map {k : List Key} {v : V} {d : D} (hv : Dp K B v d) : ∀ {ts : List TEnt} {kvs : List (List Key × D)}, TdOk K B ts kvs → TdOk K B (ts.map fun t => if t.1 = k then (t.1, t.2.1, v) else t) (kvs.map fun q => if q.1 = k then (q.1, d) else q)
  | _, _, .nil => .nil
  | t :: ts, q :: kvs, .cons h r => by
    refine .cons ?_ (tdok_map hv r)
    dsimp only
    by_cases e : q.1 = k
    · rw [if_pos (h.1.trans e), if_pos e]
      exact ⟨h.1, h.2.1, hv⟩
    · rw [if_neg fun z => e (h.1.symm.trans z), if_neg e]
      exact h
theorem tdok_snoc {t : TEnt} {q : List Key × D} (r : t.1 = q.1 ∧ Dp K B (.ref t.2.1) (.tuple (q.1.map keyD)) ∧ Dp K B t.2.2 q.2) : ∀ {ts : List TEnt} {kvs : List (List Key × D)}, TdOk K B ts kvs → TdOk K B (ts ++ [t]) (kvs ++ [q])
  | _, _, .nil => .cons r .nil
  | _, _, .cons h q => .cons h (tdok_snoc r q)
theorem tdok_put {k : List Key} {b : Addr} {v : V} {d : D} (hb : Dp K B (.ref b) (tkD k)) (hv : Dp K B v d) {ts : List TEnt} {kvs : List (List Key × D)} (h : TdOk K B ts kvs) : TdOk K B (putT ts k b v) (setT kvs k d) := by
  unfold putT setT
  rw [tdok_some h]
  split
  · exact tdok_map hv h
  · exact tdok_snoc ⟨rfl, hb, hv⟩ h
theorem keys_of {k : List Key} : ∀ {xs : List V}, DpAll K B xs (k.map keyD) → xs = k.map kV := by
  induction k with
  | nil =>
    intro xs h
    cases h
    rfl
  | cons k r ih =>
    intro xs h
    cases h with
    | cons h q => rw [List.map_cons, dp_key h, ih q]
theorem key_sqt {v : V} {k : List Key} (h : Dp K B v (tkD k)) (sb : Same B H) : ∃ b, v = .ref b ∧ SqT K H b (k.map kV) := by
  obtain ⟨a, xs, rfl, h1, h2⟩ := dp_tup_inv h
  rw [keys_of h2] at h1
  exact ⟨a, rfl, sqT_up sb h1⟩
theorem tdok_keys (sb : Same B H) : ∀ {ts : List TEnt} {kvs : List (List Key × D)}, TdOk K B ts kvs → KeysAt K H ts
  | _, _, .nil => nofun
  | t :: ts, q :: kvs, .cons h r => fun z hz => by
    rcases List.mem_cons.mp hz with rfl | hz
    · obtain ⟨b, e, hb⟩ := key_sqt (k := q.1) h.2.1 sb
      cases e
      rw [h.1]
      exact hb
    · exact tdok_keys sb r z hz
theorem tdok_len {ts : List TEnt} {kvs : List (List Key × D)} (h : TdOk K B ts kvs) : ts.length = kvs.length := Paired.length h
theorem slo_tdc {v : V} {k : Nat} {f : List TEnt → Addr → HO} {kvs : List (List Key × D)} (w : Wd K B F H as ω) (s : SlOk K B as (some v) (.own k)) (hc : ω[k]? = some (.tdc f kvs)) : ∃ a ts, v = .ref a ∧ as[k]? = some a ∧ B a = none ∧ H a = some (f ts a) ∧ TdOk K B ts kvs := by
  obtain ⟨a, e, ha⟩ := s
  cases e
  obtain ⟨_, _, h1, ts, h2, h3⟩ := w.at' k a _ ha hc
  exact ⟨a, ts, rfl, ha, h1, h2, h3⟩
/-- an owned dict becomes known for good -/
theorem Wd.freezeT (w : Wd K B F H as ω) {k : Nat} {a : Addr} {f : List TEnt → Addr → HO} {kvs : List (List Key × D)} (ha : as[k]? = some a) (hc : ω[k]? = some (.tdc f kvs)) :
    ∃ B' ts, Same B B' ∧ Wd K B' F H as (ω.set k .dead) ∧ B' a = some (f ts a) ∧ TdOk K B' ts kvs := by
  obtain ⟨q1, q2, q3, ts, q4, q5⟩ := w.at' k a _ ha hc
  have sb : Same B (upd B a (f ts a)) := same_new q3
  refine ⟨upd B a (f ts a), ts, sb, ⟨fun b x e => ?_, fun b x e => ?_, by rw [List.length_set]; exact w.len, w.nd, fun j b d e1 e2 => ?_⟩, upd_same, td_up sb q5⟩
  · by_cases hb : b = a
    · subst hb
      rw [upd_same] at e
      cases e
      exact q4
    · rw [upd_ne hb] at e
      exact w.b _ _ e
  · have hb : b ≠ a := fun z => by
      rw [z, q1] at e
      cases e
    rw [upd_ne hb]
    exact w.f _ _ e
  · by_cases hj : j = k
    · subst hj
      rw [ha] at e1
      cases e1
      have hk : j < ω.length := (List.getElem?_eq_some_iff.mp hc).1
      rw [List.getElem?_set_self hk] at e2
      cases e2
      exact ⟨q1, q2, by show upd B a (f ts a) a ≠ none; rw [upd_same]; simp⟩
    · rw [List.getElem?_set_ne (Ne.symm hj)] at e2
      have hb : b ≠ a := fun z => hj (nodup_at w.nd (z ▸ e1) ha)
      obtain ⟨r1, r2, r3⟩ := w.at' j b d e1 e2
      exact ⟨r1, r2, cell_up r3 sb (fun z => by rw [upd_ne hb]; exact z) rfl⟩
theorem Wd.toTdc {p : Addr} {f : List TEnt → Addr → HO} {ts : List TEnt} {kvs : List (List Key × D)} (w : Wd K B (upd F p (f ts p)) H as ω) (hF : F p = none) (h : TdOk K B ts kvs) : Wd K B F H (as ++ [p]) (ω ++ [.tdc f kvs]) := by
  obtain ⟨w2, hn, hH, hB⟩ := w.lessF hF
  exact w2.addOwn hF hn (by rw [hH]; simp) ⟨hB, ts, hH, h⟩
end
end
section
/-! dicts with tuples for keys: the rules by data -/
abbrev tdF (X : Cx) (o : Obj) : List TEnt → Addr → HO := fun ts a => TDO X.prog X.w o ts a
theorem tdok_at {K : Fg} {B : Hp} : ∀ {ts : List TEnt} {kvs : List (List Key × D)} {i : Nat} {t : TEnt} {q : List Key × D}, TdOk K B ts kvs → ts[i]? = some t → kvs[i]? = some q → Dp K B (.ref t.2.1) (tkD q.1)
  | _, _, i, t, q, .nil, h, _ => by simp at h
  | _, _, 0, t, q, .cons h r, e, f => by
    simp at e f
    subst e f
    exact h.2.1
  | _, _, i + 1, t, q, .cons h r, e, f => by
    simp at e f
    exact tdok_at r e f
theorem cell_tdc {K : Fg} {B H : Hp} {a : Addr} {f : List TEnt → Addr → HO} {ts : List TEnt} {kvs : List (List Key × D)} (hb : B a = none) (hH : H a = some (f ts a)) (h : TdOk K B ts kvs) : CellOk K B H a (.tdc f kvs) := ⟨hb, ts, hH, h⟩
section
variable {X : Cx} {o i e f value : Expr} {pos pos' apos cpos : Pos} {δ : List Sl} {ω : List Cell} {P : PO1} {T : Bool → List Cell → Prop} {k : Kd}
theorem de_tdget (hu : X.A.units + 1 < cLine) (hs : NoSl i) (h : DE X o δ ω fun r1 ω1 => DE X i δ ω1 fun r2 ω2 => ∃ kx ob kvs key d, r1 = .own kx ∧ ω2[kx]? = some (.tdc (tdF X ob) kvs) ∧ r2 = .val (tkD key) ∧ getT kvs key = some d ∧ P (.val d) ω2) : DE X (.Subscript o i pos) δ ω P := fun B F H as σ w ev Q oo => by
  refine ⟨_, pe_tdget hu pe_w pe_w hs, ?_⟩
  refine h B F H as σ w ev _ fun v B1 H1 as1 r ω1 e1 p1 w1 s1 q1 => ?_
  refine q1 B1 F H1 as1 σ w1 (envOk_up e1 p1 ev) _ fun u B2 H2 as2 r2 ω2 e2 p2 w2 s2 ⟨kx, ob, kvs, key, d, er, hk, er2, hd, hp⟩ => ?_
  subst er er2
  obtain ⟨a, ts, rfl, ha, hb, hh, hkv⟩ := slo_tdc w2 (slOk_up e2 p2 s1) hk
  obtain ⟨b, rfl, hsq⟩ := key_sqt (sl_val s2) w2.b
  rcases tdok_get (k := key) hkv with ⟨_, z⟩ | ⟨y, d', hy, hd', hdy⟩
  · rw [z] at hd
    cases hd
  · rw [hd] at hd'
    cases hd'
    refine ⟨a, b, ob, ts, key, y, ⟨rfl, rfl, hh, tdok_keys w2.b hkv, hsq⟩, hy, ?_⟩
    exact oo y B2 H2 as2 _ ω2 (e1.trans e2) (p1.trans p2) w2 (slv hdy) hp
theorem dt_tdin (hu : X.A.units + 1 < cLine) (h : DE X i δ ω fun r1 ω1 => DE X o δ ω1 fun r2 ω2 => ∃ kx ob kvs key, r2 = .own kx ∧ ω2[kx]? = some (.tdc (tdF X ob) kvs) ∧ r1 = .val (tkD key) ∧ T (getT kvs key).isSome ω2) (h1 : behindInMarks .In o = false := by first | exact nobehind _ (by decide) (by decide) | rfl) : DT X (.Compare i [.In] [o] pos) δ ω T := fun B F H as σ w ev Q oo => by
  refine ⟨_, pt_cmp (pc_tdin hu pe_w pe_w) h1, ?_⟩
  refine h B F H as σ w ev _ fun v B1 H1 as1 r ω1 e1 p1 w1 s1 q1 => ?_
  refine q1 B1 F H1 as1 σ w1 (envOk_up e1 p1 ev) _ fun u B2 H2 as2 r2 ω2 e2 p2 w2 s2 ⟨kx, ob, kvs, key, er, hk, er2, hp⟩ => ?_
  subst er er2
  obtain ⟨a, ts, rfl, ha, hb, hh, hkv⟩ := slo_tdc w2 s2 hk
  obtain ⟨b, rfl, hsq⟩ := key_sqt (sl_val (slOk_up e2 p2 s1)) w2.b
  refine ⟨a, b, ob, ts, key, ⟨rfl, rfl, hh, tdok_keys w2.b hkv, hsq⟩, _, rfl, ?_⟩
  rw [tdok_some hkv]
  exact oo _ B2 H2 as2 ω2 (e1.trans e2) (p1.trans p2) w2 hp
theorem dt_tdnotin (hu : X.A.units + 1 < cLine) (h : DE X i δ ω fun r1 ω1 => DE X o δ ω1 fun r2 ω2 => ∃ kx ob kvs key, r2 = .own kx ∧ ω2[kx]? = some (.tdc (tdF X ob) kvs) ∧ r1 = .val (tkD key) ∧ T (!(getT kvs key).isSome) ω2) (h1 : behindInMarks .NotIn o = false := by first | exact nobehind _ (by decide) (by decide) | rfl) : DT X (.Compare i [.NotIn] [o] pos) δ ω T := fun B F H as σ w ev Q oo => by
  refine ⟨_, pt_cmp (pc_tdnotin hu pe_w pe_w) h1, ?_⟩
  refine h B F H as σ w ev _ fun v B1 H1 as1 r ω1 e1 p1 w1 s1 q1 => ?_
  refine q1 B1 F H1 as1 σ w1 (envOk_up e1 p1 ev) _ fun u B2 H2 as2 r2 ω2 e2 p2 w2 s2 ⟨kx, ob, kvs, key, er, hk, er2, hp⟩ => ?_
  subst er er2
  obtain ⟨a, ts, rfl, ha, hb, hh, hkv⟩ := slo_tdc w2 s2 hk
  obtain ⟨b, rfl, hsq⟩ := key_sqt (sl_val (slOk_up e2 p2 s1)) w2.b
  refine ⟨a, b, ob, ts, key, ⟨rfl, rfl, hh, tdok_keys w2.b hkv, hsq⟩, _, rfl, ?_⟩
  rw [tdok_some hkv]
  exact oo _ B2 H2 as2 ω2 (e1.trans e2) (p1.trans p2) w2 hp
theorem de_tdget2 (hu : X.A.units + 1 < cLine) (m : M2 X o "get" apos e f cpos) (h : DE X o δ ω fun r1 ω1 => ∃ kx ob kvs, r1 = .own kx ∧ ω1[kx]? = some (.tdc (tdF X ob) kvs) ∧ DE X e δ ω1 fun r2 ω2 => DE X f δ ω2 fun r3 ω3 => ∃ key d, ω3[kx]? = some (.tdc (tdF X ob) kvs) ∧ r2 = .val (tkD key) ∧ r3 = .val d ∧ P (.val ((getT kvs key).getD d)) ω3) :
    DE X (.Call (.Attribute o "get" apos) [e, f] [] cpos) δ ω P := fun B F H as σ w ev Q oo => by
  refine ⟨_, pe_tdget2 hu pe_w pe_w pe_w m, ?_⟩
  refine h B F H as σ w ev _ fun v B1 H1 as1 r ω1 e1 p1 w1 s1 ⟨kx, ob, kvs, er, hk, q1⟩ => ?_
  subst er
  obtain ⟨a, ts, rfl, ha, hb, hh, hkv⟩ := slo_tdc w1 s1 hk
  refine ⟨a, ob, ts, rfl, hh, ?_⟩
  refine q1 B1 F H1 as1 σ w1 (envOk_up e1 p1 ev) _ fun y B2 H2 as2 r2 ω2 e2 p2 w2 s2 q2 => ?_
  refine q2 B2 F H2 as2 σ w2 (envOk_up (e1.trans e2) (p1.trans p2) ev) _ fun z B3 H3 as3 r3 ω3 e3 p3 w3 s3 ⟨key, d, hk3, er2, er3, hp⟩ => ?_
  subst er2 er3
  obtain ⟨a', ts', ea, ha', hb', hh', hkv'⟩ := slo_tdc w3 (slOk_up (e2.trans e3) (p2.trans p3) s1) hk3
  cases ea
  obtain ⟨b, rfl, hsq⟩ := key_sqt (sl_val (slOk_up e3 p3 s2)) w3.b
  refine ⟨b, ob, ts', key, ⟨rfl, rfl, hh', tdok_keys w3.b hkv', hsq⟩, ?_⟩
  refine oo _ B3 H3 as3 _ ω3 ((e1.trans e2).trans e3) ((p1.trans p2).trans p3) w3 (slv ?_) hp
  rcases tdok_get (k := key) hkv' with ⟨z1, z2⟩ | ⟨y', d', hy, hd', hdy⟩
  · rw [z1, z2]
    exact sl_val s3
  · rw [hy, hd']
    exact hdy
theorem d1_tdput (hu : X.A.units + 1 < cLine) (h : DE X value δ ω fun rv ω1 => DE X o δ ω1 fun r1 ω2 => DE X i δ ω2 fun r2 ω3 => ∃ kx ob kvs key d, rv = .val d ∧ r1 = .own kx ∧ ω3[kx]? = some (.tdc (tdF X ob) kvs) ∧ r2 = .val (tkD key) ∧ kvs.length < 100000 ∧ ∀ o', k.nx δ (ω3.set kx (.tdc (tdF X o') (setT kvs key d))))
    (hs : swapsWith value (some (.Subscript o i pos')) pos.line X.env = pure false := by rfl) : D1 X (.Assign [.Subscript o i pos'] value pos) δ ω k := fun B F H as σ w ev E oo => by
  refine ⟨_, ps_tdput hu pe_w pe_w pe_w hs, ?_⟩
  refine h B F H as σ w ev _ fun v B1 H1 as1 r ω1 e1 p1 w1 s1 q1 => ?_
  refine q1 B1 F H1 as1 σ w1 (envOk_up e1 p1 ev) _ fun u B2 H2 as2 r2 ω2 e2 p2 w2 s2 q2 => ?_
  refine q2 B2 F H2 as2 σ w2 (envOk_up (e1.trans e2) (p1.trans p2) ev) _ fun y B3 H3 as3 r3 ω3 e3 p3 w3 s3 ⟨kx, ob, kvs, key, d, er, er1, hk, er2, hz, hp⟩ => ?_
  subst er er1 er2
  obtain ⟨a, ts, rfl, ha, hb, hh, hkv⟩ := slo_tdc w3 (slOk_up e3 p3 s2) hk
  obtain ⟨b, rfl, hsq⟩ := key_sqt (sl_val s3) w3.b
  have hd := dp_up (e2.trans e3) (sl_val s1)
  have hset := tdok_put (sl_val s3) hd hkv
  have hl := tdok_len hkv
  refine ⟨a, b, ob, ts, key, ⟨rfl, rfl, hh, tdok_keys w3.b hkv, hsq⟩, by rw [hl, sizeLine_eq]; omega, fun o' => ?_⟩
  exact (oo.nx.up ((e1.trans e2).trans e3) ((p1.trans p2).trans p3)).here (w3.write ha hk hb (cell_tdc (f := tdF X o') hb upd_same hset)) (envOk_up ((e1.trans e2).trans e3) ((p1.trans p2).trans p3) ev) (hp o')
theorem de_tdnew (h : P (.own ω.length) (ω ++ [.tdc (tdF X newD) []])) : DE X (.Dict [] [] pos) δ ω P := fun B F H as σ w ev Q oo => by
  refine ⟨_, pe_tdnew, fun p hp => ?_⟩
  have w0 : Wd X.K B F (upd H p (TDO X.prog X.w newD [] p)) (as ++ [p]) (ω ++ [.tdc (tdF X newD) []]) := w.own hp fun hb => ⟨hb, [], upd_same, .nil⟩
  refine oo _ B _ _ _ _ (Same.refl _) (List.prefix_append _ _) w0 (slo ?_) h
  rw [← w.len, List.getElem?_append_right (Nat.le_refl _), Nat.sub_self]
  rfl
/-- for k in d: the dict is given up -/
theorem di_td {tg : Expr} {P : List D → List Cell → Prop} (h : DE X e δ ω fun r ω1 => ∃ kx ob kvs, r = .own kx ∧ ω1[kx]? = some (.tdc (tdF X ob) kvs) ∧ P (kvs.map fun q => tkD q.1) (ω1.set kx .dead)) : DI X tg e δ ω P := fun B F H as σ w ev R oo => by
  refine ⟨_, pi_td pe_w, ?_⟩
  refine h B F H as σ w ev _ fun v B1 H1 as1 r ω1 e1 p1 w1 s1 ⟨kx, ob, kvs, er, hk, hp⟩ => ?_
  subst er
  obtain ⟨a, ts, rfl, ha, hb, hh, hkv⟩ := slo_tdc w1 s1 hk
  obtain ⟨B2, ts', e2, w2, hB, hkv2⟩ := w1.freezeT ha hk
  refine ⟨a, ob, ts', rfl, w2.b a _ hB, ?_⟩
  refine oo _ _ B2 H1 as1 _ (e1.trans e2) p1 w2 (fun B' F' H' as' ω' sb w' => ?_) hp
  have hH : H' a = some (TDO X.prog X.w ob ts' a) := w'.b a _ (sb a _ hB)
  have hl := tdok_len hkv2
  refine ⟨fun i d hd => ?_, hH, by rw [List.length_map, hl]; exact Nat.le_refl _⟩
  rw [List.getElem?_map] at hd
  obtain ⟨q, hq, rfl⟩ := Option.map_eq_some_iff.mp hd
  have hi : i < ts'.length := by rw [hl]; exact (List.getElem?_eq_some_iff.mp hq).1
  refine ⟨⟨hH, hi⟩, fun x H2 ⟨eH, t, ht, ex⟩ => ⟨B', Same.refl _, by rw [eH]; exact w', ?_⟩⟩
  rw [ex]
  exact dp_up sb (tdok_at hkv2 ht hq)
end
end
section
/-! dict comprehensions whose keys are tuples -/
def tTV (P : Program) (w : World) (K : Fg) (Dl : Addr) (tk tv : TE) : L2.St → Hp → (Hp → Prop) → Prop := fun σ H Q => tk σ H fun y H1 => tv σ H1 fun z H2 => ∃ b ob ts k, y = .ref b ∧ H2 Dl = some (TDO P w ob ts Dl) ∧ KeysAt K H2 ts ∧ SqT K H2 b (k.map kV) ∧ ts.length < sizeLine ∧ ∀ o', Q (upd H2 Dl (TDO P w o' (putT ts k b z) Dl))
theorem pkv_td {X : Cx} {kx vx : Expr} {Dl : Addr} {tk tv : TE} (hu : X.A.units + 1 < cLine) (hk : PE X kx tk) (hv : PE X vx tv) : PKV X kx vx Dl (tTV X.prog X.w X.K Dl tk tv) := ⟨fun pins s σ H Q I h => by
  refine thn (hk.run pins s σ H _ I h) fun a s1 ⟨y, H1, I1, r1, q1⟩ => thn (hv.run pins s1 σ H1 _ I1 q1) fun c s2 ⟨z, H2, I2, r2, b, ob, ts, k, ey, hD, hka, hb, hz, q⟩ => ?_
  subst ey
  obtain rfl : a = Value.ref b := r1
  obtain ⟨_, hs, ys, r, dd⟩ := td_full I2 hD hka
  have hy : ys.length ≤ sizeLine := by rw [← Paired.length r]; omega
  refine wpAny_dictSet_heap (hsz := hy) (show X.A.units < cLine by omega) (key_sq I2 hb) dd fun h' dd' hsb => ?_
  obtain ⟨o', I'⟩ := td_stored (n := _) I2 hD hs hz r r2 dd' hsb
  exact ⟨_, I', q o'⟩⟩
def setsT (ps : List (List Key × D)) : List (List Key × D) := ps.foldl (fun acc q => setT acc q.1 q.2) []
theorem setsT_snoc (ps : List (List Key × D)) (q : List Key × D) : setsT (ps ++ [q]) = setT (setsT ps) q.1 q.2 := by
  unfold setsT
  rw [List.foldl_append]
  rfl
theorem setT_len (a : List (List Key × D)) (k : List Key) (d : D) : (setT a k d).length ≤ a.length + 1 := by
  unfold setT
  split
  · rw [List.length_map]
    omega
  · rw [List.length_append]
    exact Nat.le_refl _
theorem setsT_len : ∀ ps : List (List Key × D), (setsT ps).length ≤ ps.length := fun ps => by
  have gen : ∀ (ps : List (List Key × D)) (a : List (List Key × D)), (ps.foldl (fun acc q => setT acc q.1 q.2) a).length ≤ a.length + ps.length := by
    intro ps
    induction ps with
    | nil => exact fun a => Nat.le_refl _
    | cons q r ih =>
      intro a
      have h1 := ih (setT a q.1 q.2)
      have h2 := setT_len a q.1 q.2
      rw [List.foldl_cons, List.length_cons]
      omega
  have := gen ps []
  rwa [List.length_nil, Nat.zero_add] at this
section
variable {X : Cx} {tg iter kx vx : Expr} {δ : List Sl} {ω : List Cell} {P : Sl → List Cell → Prop} {pos : Pos} {scope : Scope} {own : List (Str × Nat)}
def DtTurn (X : Cx) (scope : Scope) (vs : List Nat) (tg kx vx : Expr) (δ : List Sl) (ω : List Cell) (its : List D) (ps : List (List Key × D)) : Prop :=
  ∀ (i : Nat) (d : D) (q : List Key × D), its[i]? = some d → ps[i]? = some q → Blk X scope fun Y => DG Y vs tg d (wipeD δ vs) fun δ2 => Blk X scope fun Y => DE Y kx δ2 ω fun r ω2 => r = .val (tkD q.1) ∧ DE Y vx δ2 ω2 fun r2 ω3 => r2 = .val q.2 ∧ ω3 = ω
theorem dtc_read {vs : List Nat} (hu : X.A.units + 1 < cLine) (h : DI X tg iter δ ω fun its ω1 => its.length < 100000 ∧ ∃ ps, ps.length = its.length ∧ DtTurn X scope vs tg kx vx δ ω1 its ps ∧ ∀ ob, P (.own ω1.length) (ω1 ++ [.tdc (tdF X ob) (setsT ps)]))
    {B F H : Hp} {as : List Addr} {σ : L2.St} (w : Wd X.K B F H as ω) (ev : EnvOk X.K B as σ δ) (Q : VK) (o : Out X.K B F as P Q) :
    tDX (fun a => TDO X.prog X.w newD [] a) (wI X tg iter) (fun v σ H Q => Blk X scope fun Y => wG Y tg v σ H Q) (fun σ H Q => Blk X scope fun Y => wTs Y [] σ H Q) (fun D σ H Q => Blk X scope fun Y => wKV Y kx vx D σ H Q) vs σ H Q := by
  refine h B F H as σ w ev _ fun J its B1 H1 as1 ω1 e1 p1 w1 hit ⟨hlen, ps, hps, ht, hP⟩ => ?_
  intro Dl hD
  have hF : F Dl = none := w1.freeF hD
  refine ⟨fun i m H' => m = its.length - i ∧ i ≤ its.length ∧ ∃ B' as' ob ts, Same B1 B' ∧ as1 <+: as' ∧ TdOk X.K B' ts (setsT (ps.take i)) ∧ Wd X.K B' (upd F Dl (TDO X.prog X.w ob ts Dl)) H' as' ω1,
    ⟨its.length, by omega, Nat.zero_le _, B1, as1, newD, [], Same.refl _, List.prefix_refl _, .nil, w1.hide hD⟩, fun i m H' hW => ?_⟩
  obtain ⟨rfl, hi, B', as', ob, ts, e2, p2, td2, w2⟩ := hW
  by_cases hlt : i < its.length
  · obtain ⟨hgo, hy⟩ := (hit B' _ H' as' ω1 e2 w2).1 i its[i] (List.getElem?_eq_getElem hlt)
    have hlp : i < ps.length := by omega
    have hq : ps[i]? = some ps[i] := List.getElem?_eq_getElem hlp
    refine .inr ⟨hgo, fun H3 => ∃ B' as' ob ts, Same B1 B' ∧ as1 <+: as' ∧ TdOk X.K B' ts (setsT (ps.take (i + 1))) ∧ Wd X.K B' (upd F Dl (TDO X.prog X.w ob ts Dl)) H3 as' ω1, fun H3 q => ⟨its.length - (i + 1), by omega, rfl, hlt, q⟩, fun x H3 q => ?_⟩
    obtain ⟨B2, e3, w3, d3⟩ := hy x H3 q
    have ev3 : EnvOk X.K B2 as' (wipe σ vs) (wipeD δ vs) := envOk_wipe (envOk_up ((e1.trans e2).trans e3) (p1.trans p2) ev) vs
    intro s H0 C cl fp
    refine ht i its[i] ps[i] (List.getElem?_eq_getElem hlt) hq s H0 C cl fp B2 H3 as' (wipe σ vs) x w3.b ev3 d3 _ fun σ4 δ4 ev4 hl4 ha4 hb => ?_
    have hwipe : wipe σ4 vs = wipe σ vs := by
      refine wipe_eq (by rw [hl4, wipe_length]) fun j hj => ?_
      rw [ha4 j hj, wipe_get hj]
    refine ⟨hwipe, ?_⟩
    intro s H0 C cl fp
    have hts : DTs (X.blk s H0 scope (compEnvC scope cl C X.env) fp) [] δ4 ω1 (fun b ω' => b = true ∧ ω' = ω1) := ⟨rfl, rfl⟩
    refine dts_run hts w3 ev4 _ fun bb B5 H5 as5 ω5 e5 p5 w5 ⟨hb1, hω⟩ => ?_
    subst hb1 hω
    refine iteT ?_
    intro s H0 C cl fp
    refine ⟨_, pkv_td hu pe_w pe_w, ?_⟩
    refine hb s H0 C cl fp B5 _ H5 as5 σ4 w5 (envOk_up e5 p5 ev4) _ fun y B6 H6 as6 r ω6 e6 p6 w6 s6 ⟨er, hv⟩ => ?_
    subst er
    refine hv B6 _ H6 as6 σ4 w6 (envOk_up (e5.trans e6) (p5.trans p6) ev4) _ fun z B7 H7 as7 r2 ω7 e7 p7 w7 s7 ⟨er2, eω⟩ => ?_
    subst er2 eω
    have hput : setsT (ps.take (i + 1)) = setT (setsT (ps.take i)) ps[i].1 ps[i].2 := by
      rw [List.take_add_one, hq]
      show setsT (ps.take i ++ [ps[i]]) = _
      rw [setsT_snoc]
    have e27 : Same B' B7 := ((e3.trans e5).trans e6).trans e7
    have td7 := td_up e27 td2
    obtain ⟨b, rfl, hsq⟩ := key_sqt (sl_val (slOk_up e7 p7 s6)) w7.b
    refine ⟨b, ob, ts, ps[i].1, rfl, (w7.f Dl _ upd_same).1, tdok_keys w7.b td7, hsq, ?_, fun o' => ⟨B7, as7, o', putT ts ps[i].1 b z, e2.trans e27, ((p2.trans p5).trans p6).trans p7, ?_, w7.rehide⟩⟩
    · have h1 := setsT_len (ps.take i)
      have h2 := List.length_take_le i ps
      have h3 := tdok_len td7
      rw [sizeLine_eq]
      omega
    · rw [hput]
      exact tdok_put (sl_val (slOk_up e7 p7 s6)) (sl_val s7) td7
  · have ei : i = its.length := by omega
    subst ei
    refine .inl ⟨(hit B' _ H' as' ω1 e2 w2).2, ?_⟩
    rw [← hps, List.take_length] at td2
    refine o _ B' H' _ _ _ (e1.trans e2) ((p1.trans p2).trans (List.prefix_append _ _)) (w2.toTdc (f := tdF X ob) hF td2) (slo ?_) (hP ob)
    rw [← w2.len, List.getElem?_append_right (Nat.le_refl _), Nat.sub_self]
    rfl
theorem de_dcT (hu : X.A.units + 1 < cLine) (hc : X.calm = true) (hN : X.N.Nodup) (ok : BlkOk X.N X.env.scope scope own)
    (h : DI X tg iter δ ω fun its ω1 => its.length < 100000 ∧ ∃ ps, ps.length = its.length ∧ DtTurn X scope (own.map (·.2)) tg kx vx δ ω1 its ps ∧ ∀ ob, P (.own ω1.length) (ω1 ++ [.tdc (tdF X ob) (setsT ps)]))
    (hs : ∀ x, foldedSetIterable iter X.env x = pure x := by intro _; rfl) : DE X (.DictComp kx vx [⟨tg, iter, [], 0⟩] scope pos) δ ω P := fun B F H as σ w ev Q o =>
  ⟨_, pe_dx (fun H h hb => td_empty h hb) hc hN pi_w ok (fun s H0 C cl fp => ⟨fun pins s1 σ1 H1 v u Q1 I r hw => by obtain ⟨_, p, q⟩ := hw s H0 C cl fp; exact p.run pins s1 σ1 H1 v u Q1 I r q⟩)
    (fun s H0 C cl fp => ⟨fun pins s1 σ1 H1 Q1 I hw => by obtain ⟨_, p, q⟩ := hw s H0 C cl fp; exact p.run pins s1 σ1 H1 Q1 I q⟩)
    (fun D s H0 C cl fp => ⟨fun pins s1 σ1 H1 Q1 I hw => by obtain ⟨_, p, q⟩ := hw s H0 C cl fp; exact p.run pins s1 σ1 H1 Q1 I q⟩) hs, dtc_read hu h w ev Q o⟩
theorem ps_setDx {i : Nat} {y : Str} {py : Pos} {ifs : List Expr} {spos : Pos} {emp : Addr → HO} {wi : TI} {g : TG} {tt : TT} {t : Addr → L2.St → Hp → (Hp → Prop) → Prop}
    (hemp : ∀ (H : Hp) (h : Heap), sysModules < h.objs.size → ObjOk X.prog X.w H (h.push { cls := .type "dict", data := .dict #[] }) h.objs.size (emp h.objs.size))
    (hc : X.calm = true) (hN : X.N.Nodup) (hy : X.N[i]? = some y) (hyl : X.env.scope.names.lookup y = some .local) (hsw : swapsWith (.DictComp kx vx [⟨tg, iter, ifs, 0⟩] scope pos) (some (.Name y py)) spos.line X.env = pure true) (hi : PI X tg iter wi) (ok : BlkOk X.N X.env.scope scope own)
    (hg : ∀ (s : Shared) (H : Hp) (C : Addr) (cl : List (Str × Addr)) (fp : List Addr), PG (X.blk s H scope (compEnvC scope cl C X.env) fp) tg g) (ht : ∀ (s : Shared) (H : Hp) (C : Addr) (cl : List (Str × Addr)) (fp : List Addr), PTs (X.blk s H scope (compEnvC scope cl C X.env) fp) ifs tt)
    (hkv : ∀ (D : Addr) (s : Shared) (H : Hp) (C : Addr) (cl : List (Str × Addr)) (fp : List Addr), PKV (X.blk s H scope (compEnvC scope cl C X.env) fp) kx vx D (t D)) (hs : ∀ x, foldedSetIterable iter X.env x = pure x) :
    PS X (.Assign [.Name y py] (.DictComp kx vx [⟨tg, iter, ifs, 0⟩] scope pos) spos) (tAsg (tDX emp wi g tt t (own.map (·.2))) (gName i)) := by
  refine ⟨fun pins s σ H D I h => ?_⟩
  rw [exec_Assign_Name_used _ _ _ _ hsw]
  refine wpAny_bind (wpAny_standAt (wpAny_bind ?_))
  show wpAny _ X.A (do let _ ← comprehension (.DictComp kx vx [⟨tg, iter, ifs, 0⟩] scope pos) scope X.env (firstIterPos [⟨tg, iter, ifs, 0⟩] pos) newDict false (eval iter X.env) (some (assign (.Name y py) X.env))) _ _ s
  have h : tDX emp wi g tt t (own.map (·.2)) σ H (fun x H1 => gName i x σ H1 D.nx) := h
  refine wpAny_bind (thn (dx_core (Qf := fun _ s' => SP X pins D .next s') hemp hc hN I hi ok hg ht hkv hs h fun L C s' m H' J q hn f => ?_) fun _ s' hq => wpAny_pure (wpAny_pure hq))
  show wpAny _ _ (assign (.Name y py) X.env (.ref L)) _ _ _
  refine wpAny_assign_Name (store_ok2 (v := L2.V.ref L) J hN hy (.inl hyl) rfl (fun s2 I2 ⟨a, sb, ha⟩ => ?_) (.inr hyl))
  obtain ⟨f0, f1, f2, f3, f4, f5⟩ := f
  have haC : C ≠ a := by
    rcases ha with z | z
    · rw [z]
      exact f1
    · exact fun e => f4 y a z e.symm
  exact ⟨m, hn.sameBut sb haC, fun h3 sb3 => ⟨_, H', I2.turned (t' := s2.toks) (fun b o hb e => (sb3.2 b hb).trans e) f0 f1 f3 f4 f5, q⟩⟩
theorem d1_asgDcT {k : Kd} {i : Nat} {y : Str} {py spos : Pos} (hu : X.A.units + 1 < cLine) (hc : X.calm = true) (hN : X.N.Nodup) (hy : X.N[i]? = some y) (hyl : X.env.scope.names.lookup y = some .local) (hsw : swapsWith (.DictComp kx vx [⟨tg, iter, [], 0⟩] scope pos) (some (.Name y py)) spos.line X.env = pure true) (ok : BlkOk X.N X.env.scope scope own)
    (h : DI X tg iter δ ω fun its ω1 => its.length < 100000 ∧ ∃ ps, ps.length = its.length ∧ DtTurn X scope (own.map (·.2)) tg kx vx δ ω1 its ps ∧ ∀ ob, k.nx (δ.set i (.own ω1.length)) (ω1 ++ [.tdc (tdF X ob) (setsT ps)]))
    (hs : ∀ x, foldedSetIterable iter X.env x = pure x := by intro _; rfl) : D1 X (.Assign [.Name y py] (.DictComp kx vx [⟨tg, iter, [], 0⟩] scope pos) spos) δ ω k := fun B F H as σ w ev E o =>
  ⟨_, ps_setDx (fun H h hb => td_empty h hb) hc hN hy hyl hsw pi_w ok (fun s H0 C cl fp => ⟨fun pins s1 σ1 H1 v u Q1 I r hw => by obtain ⟨_, p, q⟩ := hw s H0 C cl fp; exact p.run pins s1 σ1 H1 v u Q1 I r q⟩)
    (fun s H0 C cl fp => ⟨fun pins s1 σ1 H1 Q1 I hw => by obtain ⟨_, p, q⟩ := hw s H0 C cl fp; exact p.run pins s1 σ1 H1 Q1 I q⟩)
    (fun D s H0 C cl fp => ⟨fun pins s1 σ1 H1 Q1 I hw => by obtain ⟨_, p, q⟩ := hw s H0 C cl fp; exact p.run pins s1 σ1 H1 Q1 I q⟩) hs,
    dtc_read (P := fun r ω1 => k.nx (δ.set i r) ω1) hu h w ev _ fun v B1 H1 as1 r ω1 e1 p1 w1 s1 hp => (o.nx.up e1 p1).here w1 (envOk_set s1 i (envOk_up e1 p1 ev)) hp⟩
end
end
section
/-! a tuple of numbers in a list of such -/
def iT (ns : List Int) : D := .tuple (ns.map PyData.int)
theorem ints_inj : ∀ {ms ns : List Int} {its : List Value}, Vals (ms.map V.int) its → Vals (ns.map V.int) its → ms = ns
  | [], [], _, _, _ => rfl
  | [], n :: ns, _, h1, h2 => by
    cases h1
    cases h2
  | m :: ms, [], _, h1, h2 => by
    cases h2
    cases h1
  | m :: ms, n :: ns, _, .cons h q, .cons h' q' => by
    obtain ⟨t, e⟩ := h
    obtain ⟨t', e'⟩ := h'
    rw [e] at e'
    cases e'
    rw [ints_inj q q']
theorem tupIs_det {h : Heap} {a : Addr} {xs ys : List Value} (h1 : h.IsTuple a xs.toArray) (h2 : h.IsTuple a ys.toArray) : xs = ys := by
  obtain ⟨o, e, _, n, d⟩ := h1
  obtain ⟨o', e', _, n', d'⟩ := h2
  rw [e] at e'
  cases e'
  rw [d] at d'
  cases d'
  rfl
theorem vals_int {ms : List Int} {xs : List Value} (r : Vals (ms.map V.int) xs) {j : Nat} (h : j < xs.length) : ∃ m t, ms[j]? = some m ∧ xs[j]? = some (.int m t) := by
  have hl : j < ms.length := by
    have := Paired.length r
    rw [List.length_map] at this
    omega
  obtain ⟨u, hu, t, e⟩ := Vals.get r (i := j) (x := V.int ms[j]) (by rw [List.getElem?_map, List.getElem?_eq_getElem hl]; rfl)
  exact ⟨ms[j], t, List.getElem?_eq_getElem hl, by rw [hu, e]⟩
theorem tup_eqAt {A : Around} {s : Shared} {a b : Addr} {ms ns : List Int} {xs ys : List Value} (hu : A.units < cLine) (hb : s.heap.IsTuple b xs.toArray) (ha : s.heap.IsTuple a ys.toArray) (rb : Vals (ms.map V.int) xs) (ra : Vals (ns.map V.int) ys) : SeqAt.EqAt A s (.ref b) (.ref a) (decide (ms = ns)) := by
  by_cases e : b = a
  · subst e
    have exy := tupIs_det hb ha
    subst exy
    rw [decide_eq_true (ints_inj rb ra)]
    exact SeqAt.EqAt.same _
  · have lb : ms.length = xs.length := by have := Paired.length rb; rwa [List.length_map] at this
    have la : ns.length = ys.length := by have := Paired.length ra; rwa [List.length_map] at this
    have key := SeqAt.RcAt.tuples (A := A) (s := s) (e := fun j => decide (ms[j]? = ns[j]?)) hb ha hu fun j h1 h2 => by
      have h1' : j < xs.length := by simpa using h1
      have h2' : j < ys.length := by simpa using h2
      obtain ⟨m, t, e1, e2⟩ := vals_int rb h1'
      obtain ⟨n, t', f1, f2⟩ := vals_int ra h2'
      have g1 : xs.toArray[j] = .int m t := by
        have := List.getElem?_eq_some_iff.mp e2
        simpa using this.2
      have g2 : ys.toArray[j] = .int n t' := by
        have := List.getElem?_eq_some_iff.mp f2
        simpa using this.2
      rw [g1, g2]
      show SeqAt.EqAt A.in1 s _ _ (decide (ms[j]? = ns[j]?))
      rw [e1, f1]
      have : decide ((some m : Option Int) = some n) = (m == n) := by
        by_cases q : m = n
        · subst q
          simp
        · simp [q]
      rw [this]
      exact SeqAt.EqAt.int_int m t n t'
    refine SeqAt.EqAt.of_refs e ?_
    have ee : ((List.range (min xs.toArray.size ys.toArray.size)).all (fun j => decide (ms[j]? = ns[j]?)) && xs.toArray.size == ys.toArray.size) = decide (ms = ns) := by
      rw [Bool.eq_iff_iff, Bool.and_eq_true, List.all_eq_true, decide_eq_true_iff, beq_iff_eq, List.size_toArray, List.size_toArray]
      constructor
      · rintro ⟨h1, h2⟩
        refine List.ext_getElem? fun j => ?_
        by_cases hj : j < xs.length
        · exact of_decide_eq_true (h1 j (List.mem_range.mpr (by omega)))
        · rw [List.getElem?_eq_none (by omega), List.getElem?_eq_none (by omega)]
      · intro h
        subst h
        exact ⟨fun j _ => decide_eq_true rfl, by omega⟩
    rw [← ee]
    exact key
/-- what a value's tuple holds -/
def intsAt (s : Shared) (ns : List Int) (y : Value) : Prop := ∃ b its, y = .ref b ∧ s.heap.IsTuple b its.toArray ∧ Vals (ns.map V.int) its
noncomputable def isIts (s : Shared) (ns : List Int) (y : Value) : Bool := @decide (intsAt s ns y) (Classical.propDecidable _)
abbrev TupsAt (K : Fg) (H : Hp) : List V → List (List Int) → Prop := Paired fun (v : V) (ms : List Int) => ∃ b, v = V.ref b ∧ SqT K H b (ms.map V.int)
def rInP (K : Fg) (neg : Bool) : R2 := fun x y H Q => ∃ p a xs ns mss, x = .ref a ∧ y = .ref p ∧ (SqL K H p xs ∨ SqT K H p xs) ∧ SqT K H a (ns.map V.int) ∧ TupsAt K H xs mss ∧ Q (.bl (if neg then !decide (ns ∈ mss) else decide (ns ∈ mss))) H
section
variable {X : Cx} {pins : List (Addr × Obj)} {σ : L2.St} {H : Hp} {s : Shared}
theorem its_any (I : Inv X pins σ H s) {ns : List Int} : ∀ {xs : List V} {its : List Value} {mss : List (List Int)}, Vals xs its → TupsAt X.K H xs mss → (∀ y ∈ its, ∃ b ms xs', y = .ref b ∧ s.heap.IsTuple b (List.toArray xs') ∧ Vals (ms.map V.int) xs' ∧ isIts s ns y = decide (ms = ns)) ∧ its.any (isIts s ns) = decide (ns ∈ mss)
  | _, _, _, .nil, .nil => ⟨nofun, by simp⟩
  | _, _, _, .cons (a := v) (b := y) r q, .cons (b := ms) h q' => by
    obtain ⟨b, ev, hb⟩ := h
    subst ev
    obtain rfl : y = Value.ref b := r
    obtain ⟨xs', r', pl, _⟩ := I.tuple hb
    have e1 : isIts s ns (.ref b) = decide (ms = ns) := by
      unfold isIts
      by_cases e : ms = ns
      · subst e
        rw [decide_eq_true rfl]
        exact @decide_eq_true _ (Classical.propDecidable _) ⟨b, xs', rfl, pl, r'⟩
      · rw [decide_eq_false e]
        refine @decide_eq_false _ (Classical.propDecidable _) ?_
        rintro ⟨b', its', eb, h1, h2⟩
        cases eb
        have := tupIs_det pl h1
        subst this
        exact e (ints_inj r' h2)
    obtain ⟨i1, i2⟩ := its_any I (ns := ns) q q'
    refine ⟨fun z hz => ?_, ?_⟩
    · rcases List.mem_cons.mp hz with rfl | hz
      · exact ⟨b, ms, xs', rfl, pl, r', e1⟩
      · exact i1 z hz
    · rw [List.any_cons, i2, e1, Bool.eq_iff_iff, Bool.or_eq_true, decide_eq_true_iff, decide_eq_true_iff, decide_eq_true_iff, List.mem_cons]
      constructor
      · rintro (h | h)
        · exact .inl h.symm
        · exact .inr h
      · rintro (h | h)
        · exact .inl h.symm
        · exact .inr h
theorem op_inP (hu : X.A.units + 1 < cLine) : OpR X (compareOp .In) (rInP X.K false) := by
  intro pins s σ H x y v u Q I rx ry h
  obtain ⟨p, a, xs, ns, mss, rfl, rfl, hq, ha, ht, q⟩ := h
  cases rx
  cases ry
  obtain ⟨ys, ra, pa, _⟩ := I.tuple ha
  rcases hq with hq | hq
  · obtain ⟨its, r, pl, hz⟩ := I.list hq
    obtain ⟨i1, i2⟩ := its_any I (ns := ns) r ht
    refine SeqAt.in_listAt (isIts s ns) pl.isList (fun w hw => ?_) ⟨.bl _, H, I, rfl, ?_⟩
    · obtain ⟨b, ms, xs', rfl, hb, rb, e⟩ := i1 w (by simpa using hw)
      rw [e]
      exact tup_eqAt hu hb pa rb ra
    · rw [show its.toArray.any (isIts s ns) = its.any (isIts s ns) by simp, i2]
      exact q
  · obtain ⟨its, r, pl, hz⟩ := I.tuple hq
    obtain ⟨i1, i2⟩ := its_any I (ns := ns) r ht
    refine SeqAt.in_tupleAt (isIts s ns) pl (fun w hw => ?_) ⟨.bl _, H, I, rfl, ?_⟩
    · obtain ⟨b, ms, xs', rfl, hb, rb, e⟩ := i1 w (by simpa using hw)
      rw [e]
      exact tup_eqAt hu hb pa rb ra
    · rw [show its.toArray.any (isIts s ns) = its.any (isIts s ns) by simp, i2]
      exact q
theorem tups_of {K : Fg} {B H : Hp} (sb : Same B H) : ∀ {xs : List V} {mss : List (List Int)}, DpAll K B xs (mss.map iT) → TupsAt K H xs mss
  | [], [], .nil => .nil
  | _, ms :: mss, .cons h q => by
    obtain ⟨a, ys, e, h1, h2⟩ := dp_tup_inv h
    rw [ints_of h2] at h1
    exact .cons ⟨a, e, sqT_up sb h1⟩ (tups_of sb q)
theorem rr_inP {ω : List Cell} {P : PO1} {neg : Bool} {ns : List Int} {r : Sl} {mss : List (List Int)} (hq : Seq ω r (mss.map iT)) (hp : P (.val (.bool (if neg then !decide (ns ∈ mss) else decide (ns ∈ mss)))) ω) : RR X (rInP X.K neg) (.val (iT ns)) r ω P := fun B F H as v u w s1 s2 Q o => by
  obtain ⟨p, xs, rfl, h, hds⟩ := hq.get w s2
  obtain ⟨a, ys, rfl, h1, h2⟩ := dp_tup_inv (sl_val s1)
  rw [ints_of h2] at h1
  exact ⟨p, a, xs, ns, mss, rfl, rfl, h, sqT_up w.b h1, tups_of w.b hds, o.here w (.bl _) hp⟩
end
end
section
/-! promises about dicts whose keys are tuples -/
abbrev tdP (P : Program) (w : World) (o : Obj) : List TEnt → Addr → HO := fun ts a => TDO P w o ts a
/-- data in, behind them something that is owned and stays as it is; a datum out -/
def spC (K : Fg) (φ : List D → Cell → (D → Prop) → Prop) : Sp := fun vs H Q _ => ∃ B F a front c ds Pp, vs = front ++ [.ref a] ∧ Wd K B F H [a] [c] ∧ DpAll K B front ds ∧ φ ds c Pp ∧ ∀ v B' H' d, Same B B' → Wd K B' F H' [a] [c] → Dp K B' v d → Pp d → Q v H'
/-- data in, a new dict out that the caller owns -/
def spT (P : Program) (w : World) (K : Fg) (φ : List D → (List (List Key × D) → Prop) → Prop) : Sp := fun vs H Q _ => ∃ B F ds Pp, Wd K B F H [] [] ∧ DpAll K B vs ds ∧ φ ds Pp ∧ ∀ a B' H' ob kvs, Same B B' → Wd K B' F H' [a] [.tdc (tdP P w ob) kvs] → Pp kvs → Q (.ref a) H'
section
variable {P : Program} {w : World} {K : Fg} {mg : Str → Option Value} {base : Heap} {x qual : Str} {st : Stmt} {f : Addr} {fd : FuncData} {N ps : List Str} {k : Nat}
theorem ok_C {φ : List D → Cell → (D → Prop) → Prop} (F : Fun K x qual st f fd) (S : FnScope N ps (defScope st)) (hn : ∀ ds c Q, φ ds c Q → ds.length + 1 = ps.length)
    (hb : ∀ ds c Q, φ ds c Q → Body P w K mg base N qual st f k fun X => DS X (defBody st) (slots N (ds.map Sl.val ++ [.own 0])) [c] { nx := fun _ _ => False, rt := fun r ω' => ∃ d, r = .val d ∧ ω'[0]? = some c ∧ Q d }) :
    FnOk P w K mg base CX0 (k + 1) f fd ps (spC K φ) := by
  refine F.ok S (fun vs H Q E h => ?_) fun cdv A outer s H vs Q E hr h => ?_
  · obtain ⟨B, F', a, front, c, ds, P', rfl, hw, hd, hφ, _⟩ := h
    rw [List.length_append, dpAll_len hd]
    exact hn _ _ _ hφ
  · obtain ⟨B, F', a, front, c, ds, P', rfl, hw, hd, hφ, hq⟩ := h
    have ev : EnvOk K B [a] ((front ++ [V.ref a]).map some) (ds.map Sl.val ++ [.own 0]) := by
      rw [List.map_append]
      exact envOk_app (envOk_vals hd) (.cons (slo rfl) .nil)
    refine ⟨_, pss_w, hb ds c P' hφ cdv A outer s H E hr B F' H [a] _ hw (env_start ev) _ ⟨fun _ _ _ _ _ _ _ _ _ _ q => q.elim, fun _ _ _ _ _ _ _ _ _ _ q => q.elim, fun _ _ _ _ _ _ _ _ _ _ q => q.elim, fun v B' H' as' r ω' e1 p1 w1 s1 q => ?_⟩⟩
    obtain ⟨d, rfl, h0, q⟩ := q
    exact hq v B' H' d e1 (w1.head p1 h0) (sl_val s1) q
theorem ok_T {φ : List D → (List (List Key × D) → Prop) → Prop} (F : Fun K x qual st f fd) (S : FnScope N ps (defScope st)) (hn : ∀ ds Q, φ ds Q → ds.length = ps.length)
    (hb : ∀ ds Q, φ ds Q → Body P w K mg base N qual st f k fun X => DS X (defBody st) (slots N (ds.map Sl.val)) [] { nx := fun _ _ => False, rt := fun r ω' => ∃ j ob kvs, r = .own j ∧ ω'[j]? = some (.tdc (tdP P w ob) kvs) ∧ Q kvs }) : FnOk P w K mg base CX0 (k + 1) f fd ps (spT P w K φ) := by
  refine F.ok S (fun vs H Q E h => ?_) fun cdv A outer s H vs Q E hr h => ?_
  · obtain ⟨B, F', ds, P', hw, hd, hφ, _⟩ := h
    rw [dpAll_len hd]
    exact hn _ _ hφ
  · obtain ⟨B, F', ds, P', hw, hd, hφ, hq⟩ := h
    refine ⟨_, pss_w, hb ds P' hφ cdv A outer s H E hr B F' H [] _ hw (env_start (envOk_vals hd)) _ ⟨fun _ _ _ _ _ _ _ _ _ _ q => q.elim, fun _ _ _ _ _ _ _ _ _ _ q => q.elim, fun _ _ _ _ _ _ _ _ _ _ q => q.elim, fun v B' H' as' r ω' e1 p1 w1 s1 q => ?_⟩⟩
    obtain ⟨j, ob, kvs, rfl, h0, q⟩ := q
    obtain ⟨a, rfl, ha⟩ := sl_own s1
    exact hq a B' H' ob kvs e1 (w1.only ha h0) q
end
section
variable {X : Cx} {e : Expr} {es : List Expr} {δ : List Sl} {ω : List Cell} {P : PO1} {pos : Pos}
theorem rs_last {K : Fg} {B : Hp} {as : List Addr} {r : Sl} : ∀ {rs : List Sl} {vs : List V}, RsOk K B as vs (rs ++ [r]) → ∃ front v, vs = front ++ [v] ∧ RsOk K B as front rs ∧ SlOk K B as (some v) r
  | [], _, .cons h .nil => ⟨[], _, rfl, .nil, h⟩
  | _ :: rs, _, .cons h q => by
    obtain ⟨front, v, e, h1, h2⟩ := rs_last q
    exact ⟨_ :: front, v, by rw [e]; rfl, .cons h h1, h2⟩
theorem set_same {ω : List Cell} {k : Nat} {c : Cell} (h : ω[k]? = some c) : ω.set k c = ω := by
  apply List.ext_getElem?
  intro i
  by_cases hi : k = i
  · subst hi
    rw [List.getElem?_set_self (List.getElem?_eq_some_iff.mp h).1, h]
  · rw [List.getElem?_set_ne hi]
/-- a call that reads something that is owned -/
theorem de_callC {x : Str} {p : Pos} {j : Nat} {φ : List D → Cell → (D → Prop) → Prop} (C : Has X.prog X.w X.K X.mg X.base j x (spC X.K φ)) (hr : Room j X.A) (hg : Gl X x) (h : DA X (e :: es) δ ω fun rs ω1 => ∃ kx c ds, rs = ds.map Sl.val ++ [.own kx] ∧ ω1[kx]? = some c ∧ c ≠ .dead ∧ φ ds c fun d => P (.val d) ω1)
    (hdb : (x == ("__debug__" : Str)) = false := by decide) (he : starEach (e :: es) X.env = (false, eval e X.env) :: starEach es X.env := by rfl) (hpl : (backTo pos (starEach es X.env)).any (·.1) = false := by rfl) : DE X (.Call (.Name x p) (e :: es) [] pos) δ ω P := fun B F H as σ w ev Q o => by
  obtain ⟨f, fd, ps, hf, hm, hk, hb⟩ := C.ex
  refine ⟨_, pe_call hf hr hg hm hk hb .nil pass0 pa_w hdb he hpl, ?_⟩
  refine h B F H as σ w ev _ fun vs B1 H1 as1 rs ω1 e1 p1 w1 s1 ⟨kx, c, ds, er, hc, hdd, hφ⟩ => ?_
  subst er
  obtain ⟨front, v, rfl, g2, g1⟩ := rs_last s1
  obtain ⟨a, rfl, ha⟩ := sl_own g1
  obtain ⟨F', wF, back⟩ := w1.frame1 ha hc hdd
  refine ⟨B1, F', a, front, c, ds, _, by rw [List.append_nil], wF, rsOk_vals g2, hφ, fun v B' H' d sb w' hd hp => ?_⟩
  have w2 := back B' H' _ sb w'
  rw [set_same hc] at w2
  exact o v B' H' as1 _ _ (e1.trans sb) p1 w2 (slv hd) hp
/-- a call that gives a new dict -/
theorem de_callT {x : Str} {p : Pos} {j : Nat} {φ : List D → (List (List Key × D) → Prop) → Prop} (C : Has X.prog X.w X.K X.mg X.base j x (spT X.prog X.w X.K φ)) (hr : Room j X.A) (hg : Gl X x) (h : DA X (e :: es) δ ω fun rs ω1 => ∃ ds, rs = ds.map Sl.val ∧ φ ds fun kvs => ∀ ob, P (.own ω1.length) (ω1 ++ [.tdc (tdP X.prog X.w ob) kvs]))
    (hdb : (x == ("__debug__" : Str)) = false := by decide) (he : starEach (e :: es) X.env = (false, eval e X.env) :: starEach es X.env := by rfl) (hpl : (backTo pos (starEach es X.env)).any (·.1) = false := by rfl) : DE X (.Call (.Name x p) (e :: es) [] pos) δ ω P := fun B F H as σ w ev Q o => by
  obtain ⟨f, fd, ps, hf, hm, hk, hb⟩ := C.ex
  refine ⟨_, pe_call hf hr hg hm hk hb .nil pass0 pa_w hdb he hpl, ?_⟩
  refine h B F H as σ w ev _ fun vs B1 H1 as1 rs ω1 e1 p1 w1 s1 ⟨ds, er, hφ⟩ => ?_
  subst er
  obtain ⟨F', wF, hFF, hlive, back⟩ := w1.frame
  refine ⟨B1, F', ds, _, wF, by rw [List.append_nil]; exact rsOk_vals s1, hφ, fun a B' H' ob kvs sb w' hp => ?_⟩
  have w2 := back B' H' sb w'.drop
  obtain ⟨q1, q2, q3, ts, q4, q5⟩ := w'.at' 0 a _ rfl rfl
  have hnot : a ∉ as1 := fun hm2 => by
    obtain ⟨i, hi, ei⟩ := List.mem_iff_getElem.mp hm2
    have e1' : as1[i]? = some a := by rw [List.getElem?_eq_getElem hi, ei]
    have hi2 : i < ω1.length := by rw [← w1.len]; exact hi
    cases hB : B1 a with
    | some oo =>
      rw [sb _ _ hB] at q3
      cases q3
    | none =>
      obtain ⟨_, n2, n3⟩ := w1.at' i a _ e1' (List.getElem?_eq_getElem hi2)
      rw [hlive i a _ e1' (List.getElem?_eq_getElem hi2) hB] at q1
      exact n2 q1
  have hFa : F a = none := by
    cases hq : F a with
    | none => rfl
    | some oo =>
      rw [hFF a oo hq] at q1
      cases q1
  have w3 := w2.addOwn (c := .tdc (tdP X.prog X.w ob) kvs) hFa hnot q2 ⟨q3, ts, q4, q5⟩
  refine o _ B' H' _ _ _ (e1.trans sb) (p1.trans (List.prefix_append _ _)) w3 (slo ?_) (hp ob)
  rw [← w1.len, List.getElem?_append_right (Nat.le_refl _), Nat.sub_self]
  rfl
theorem sw_dct {kx vx : Expr} {gs : List Comprehension} {scope : Scope} {pos py : Pos} {y : Str} {l : Nat} {env : Env} (hk : env.scope.kind = .function) (hy : env.scope.names.lookup y = some .local) (hl : (py.line == pos.line) = true)
    (ha : (scope.names.any fun (n, k) => n == y && (k == .local || k == .cell)) = false) : swapsWith (.DictComp kx vx gs scope pos) (some (.Name y py)) l env = pure true := by
  have ky : env.kindOf y = some .local := hy
  have hb : env.blockKind = .function := by
    unfold Env.blockKind
    rw [hk]
    rfl
  unfold swapsWith
  simp only [hb, ky, ha, Expr.pos, hl]
  rfl
/-- if xs: a list of data -/
theorem dt_lstV {T : Bool → List Cell → Prop} (h : DE X e δ ω fun r ω1 => ∃ ds, r = .val (.list ds) ∧ T (!ds.isEmpty) ω1) (he : ∀ whole, isTrue e X.env whole = (do let v ← whole; standAt e.pos; holding [v] (truthy v)) := by intro _; rfl) : DT X e δ ω T := fun B F H as σ w ev Q o => by
  refine ⟨_, pt_truth pe_w he, ?_⟩
  refine h B F H as σ w ev _ fun v B1 H1 as1 r ω1 e1 p1 w1 s1 ⟨ds, er, hp⟩ => ?_
  subst er
  obtain ⟨a, xs, rfl, h1, h2⟩ := slv_lst s1 w1.b
  have ee : xs.isEmpty = ds.isEmpty := by cases h2 <;> rfl
  refine ⟨!ds.isEmpty, .inl ⟨xs, h1, by rw [ee]⟩, o _ B1 H1 as1 ω1 e1 p1 w1 hp⟩
end
end
section
/-! dict comprehensions with plain keys; dicts that are known for good from now on -/
def tKK (Dl : Addr) (tk tv : TE) : L2.St → Hp → (Hp → Prop) → Prop := fun σ H Q => tk σ H fun y H1 => tv σ H1 fun z H2 => ∃ kvs k, y = kV k ∧ H2 Dl = some (.dK kvs) ∧ kvs.length < sizeLine ∧ Q (upd H2 Dl (.dK (putK kvs k z)))
theorem pkv_k {X : Cx} {kx vx : Expr} {Dl : Addr} {tk tv : TE} (hk : PE X kx tk) (hv : PE X vx tv) : PKV X kx vx Dl (tKK Dl tk tv) := ⟨fun pins s σ H Q I h => by
  refine thn (hk.run pins s σ H _ I h) fun a s1 ⟨y, H1, I1, r1, q1⟩ => thn (hv.run pins s1 σ H1 _ I1 q1) fun b s2 ⟨z, H2, I2, r2, kvs, k, ey, hD, hz, q⟩ => ?_
  subst ey
  exact d_dictSet I2 hD hz r1 r2 fun s3 I3 => ⟨_, I3, q⟩⟩
theorem dk_empty {P : Program} {w : World} {H : Hp} (h : Heap) (hb : sysModules < h.objs.size) : ObjOk P w H (h.push { cls := .type "dict", data := .dict #[] }) h.objs.size (.dK []) :=
  dk_new (Nat.zero_le _) (beq_eq_false_iff_ne.mpr (Nat.ne_of_gt hb)) .nil (Heap.DictOf.new h)
def setsK (ps : List (Key × D)) : List (Key × D) := ps.foldl (fun acc q => setK acc q.1 q.2) []
theorem setsK_snoc (ps : List (Key × D)) (q : Key × D) : setsK (ps ++ [q]) = setK (setsK ps) q.1 q.2 := by
  unfold setsK
  rw [List.foldl_append]
  rfl
theorem setK_len (a : List (Key × D)) (k : Key) (d : D) : (setK a k d).length ≤ a.length + 1 := by
  unfold setK
  split
  · rw [List.length_map]
    omega
  · rw [List.length_append]
    exact Nat.le_refl _
theorem setsK_len : ∀ ps : List (Key × D), (setsK ps).length ≤ ps.length := fun ps => by
  have gen : ∀ (ps : List (Key × D)) (a : List (Key × D)), (ps.foldl (fun acc q => setK acc q.1 q.2) a).length ≤ a.length + ps.length := by
    intro ps
    induction ps with
    | nil => exact fun a => Nat.le_refl _
    | cons q r ih =>
      intro a
      have h1 := ih (setK a q.1 q.2)
      have h2 := setK_len a q.1 q.2
      rw [List.foldl_cons, List.length_cons]
      omega
  have := gen ps []
  rwa [List.length_nil, Nat.zero_add] at this
theorem Wd.toDct {K : Fg} {B F H : Hp} {as : List Addr} {ω : List Cell} {p : Addr} {kv : List (Key × V)} {kvs : List (Key × D)} (w : Wd K B (upd F p (.dK kv)) H as ω) (hF : F p = none) (hd : KvOk K B kv kvs) : Wd K B F H (as ++ [p]) (ω ++ [.dct kvs]) := by
  obtain ⟨w2, hn, hH, hB⟩ := w.lessF hF
  exact w2.addOwn hF hn (by rw [hH]; simp) ⟨hB, kv, hH, hd⟩
section
variable {X : Cx} {tg iter kx vx : Expr} {δ : List Sl} {ω : List Cell} {P : Sl → List Cell → Prop} {pos : Pos} {scope : Scope} {own : List (Str × Nat)}
def DkTurn (X : Cx) (scope : Scope) (vs : List Nat) (tg kx vx : Expr) (δ : List Sl) (ω : List Cell) (its : List D) (ps : List (Key × D)) : Prop :=
  ∀ (i : Nat) (d : D) (q : Key × D), its[i]? = some d → ps[i]? = some q → Blk X scope fun Y => DG Y vs tg d (wipeD δ vs) fun δ2 => Blk X scope fun Y => DE Y kx δ2 ω fun r ω2 => r = .val (keyD q.1) ∧ DE Y vx δ2 ω2 fun r2 ω3 => r2 = .val q.2 ∧ ω3 = ω
theorem dkc_read {vs : List Nat} (h : DI X tg iter δ ω fun its ω1 => its.length < 100000 ∧ ∃ ps, ps.length = its.length ∧ DkTurn X scope vs tg kx vx δ ω1 its ps ∧ P (.own ω1.length) (ω1 ++ [.dct (setsK ps)]))
    {B F H : Hp} {as : List Addr} {σ : L2.St} (w : Wd X.K B F H as ω) (ev : EnvOk X.K B as σ δ) (Q : VK) (o : Out X.K B F as P Q) :
    tDX (fun _ => .dK []) (wI X tg iter) (fun v σ H Q => Blk X scope fun Y => wG Y tg v σ H Q) (fun σ H Q => Blk X scope fun Y => wTs Y [] σ H Q) (fun D σ H Q => Blk X scope fun Y => wKV Y kx vx D σ H Q) vs σ H Q := by
  refine h B F H as σ w ev _ fun J its B1 H1 as1 ω1 e1 p1 w1 hit ⟨hlen, ps, hps, ht, hP⟩ => ?_
  intro Dl hD
  have hF : F Dl = none := w1.freeF hD
  refine ⟨fun i m H' => m = its.length - i ∧ i ≤ its.length ∧ ∃ B' as' kv, Same B1 B' ∧ as1 <+: as' ∧ KvOk X.K B' kv (setsK (ps.take i)) ∧ Wd X.K B' (upd F Dl (.dK kv)) H' as' ω1,
    ⟨its.length, by omega, Nat.zero_le _, B1, as1, [], Same.refl _, List.prefix_refl _, .nil, w1.hide hD⟩, fun i m H' hW => ?_⟩
  obtain ⟨rfl, hi, B', as', kv, e2, p2, td2, w2⟩ := hW
  by_cases hlt : i < its.length
  · obtain ⟨hgo, hy⟩ := (hit B' _ H' as' ω1 e2 w2).1 i its[i] (List.getElem?_eq_getElem hlt)
    have hlp : i < ps.length := by omega
    have hq : ps[i]? = some ps[i] := List.getElem?_eq_getElem hlp
    refine .inr ⟨hgo, fun H3 => ∃ B' as' kv, Same B1 B' ∧ as1 <+: as' ∧ KvOk X.K B' kv (setsK (ps.take (i + 1))) ∧ Wd X.K B' (upd F Dl (.dK kv)) H3 as' ω1, fun H3 q => ⟨its.length - (i + 1), by omega, rfl, hlt, q⟩, fun x H3 q => ?_⟩
    obtain ⟨B2, e3, w3, d3⟩ := hy x H3 q
    have ev3 : EnvOk X.K B2 as' (wipe σ vs) (wipeD δ vs) := envOk_wipe (envOk_up ((e1.trans e2).trans e3) (p1.trans p2) ev) vs
    intro s H0 C cl fp
    refine ht i its[i] ps[i] (List.getElem?_eq_getElem hlt) hq s H0 C cl fp B2 H3 as' (wipe σ vs) x w3.b ev3 d3 _ fun σ4 δ4 ev4 hl4 ha4 hb => ?_
    have hwipe : wipe σ4 vs = wipe σ vs := by
      refine wipe_eq (by rw [hl4, wipe_length]) fun j hj => ?_
      rw [ha4 j hj, wipe_get hj]
    refine ⟨hwipe, ?_⟩
    intro s H0 C cl fp
    have hts : DTs (X.blk s H0 scope (compEnvC scope cl C X.env) fp) [] δ4 ω1 (fun b ω' => b = true ∧ ω' = ω1) := ⟨rfl, rfl⟩
    refine dts_run hts w3 ev4 _ fun bb B5 H5 as5 ω5 e5 p5 w5 ⟨hb1, hω⟩ => ?_
    subst hb1 hω
    refine iteT ?_
    intro s H0 C cl fp
    refine ⟨_, pkv_k pe_w pe_w, ?_⟩
    refine hb s H0 C cl fp B5 _ H5 as5 σ4 w5 (envOk_up e5 p5 ev4) _ fun y B6 H6 as6 r ω6 e6 p6 w6 s6 ⟨er, hv⟩ => ?_
    subst er
    refine hv B6 _ H6 as6 σ4 w6 (envOk_up (e5.trans e6) (p5.trans p6) ev4) _ fun z B7 H7 as7 r2 ω7 e7 p7 w7 s7 ⟨er2, eω⟩ => ?_
    subst er2 eω
    have hput : setsK (ps.take (i + 1)) = setK (setsK (ps.take i)) ps[i].1 ps[i].2 := by
      rw [List.take_add_one, hq]
      show setsK (ps.take i ++ [ps[i]]) = _
      rw [setsK_snoc]
    have e27 : Same B' B7 := ((e3.trans e5).trans e6).trans e7
    have td7 := kv_up e27 td2
    refine ⟨kv, ps[i].1, dp_key (sl_val (slOk_up e7 p7 s6)), (w7.f Dl _ upd_same).1, ?_, B7, as7, putK kv ps[i].1 z, e2.trans e27, ((p2.trans p5).trans p6).trans p7, ?_, w7.rehide⟩
    · have h1 := setsK_len (ps.take i)
      have h2 := List.length_take_le i ps
      have h3 : kv.length = _ := Paired.length td7
      rw [sizeLine_eq]
      omega
    · rw [hput]
      exact kv_set (sl_val s7) td7
  · have ei : i = its.length := by omega
    subst ei
    refine .inl ⟨(hit B' _ H' as' ω1 e2 w2).2, ?_⟩
    rw [← hps, List.take_length] at td2
    refine o _ B' H' _ _ _ (e1.trans e2) ((p1.trans p2).trans (List.prefix_append _ _)) (w2.toDct hF td2) (slo ?_) hP
    rw [← w2.len, List.getElem?_append_right (Nat.le_refl _), Nat.sub_self]
    rfl
theorem de_dcK (hc : X.calm = true) (hN : X.N.Nodup) (ok : BlkOk X.N X.env.scope scope own)
    (h : DI X tg iter δ ω fun its ω1 => its.length < 100000 ∧ ∃ ps, ps.length = its.length ∧ DkTurn X scope (own.map (·.2)) tg kx vx δ ω1 its ps ∧ P (.own ω1.length) (ω1 ++ [.dct (setsK ps)]))
    (hs : ∀ x, foldedSetIterable iter X.env x = pure x := by intro _; rfl) : DE X (.DictComp kx vx [⟨tg, iter, [], 0⟩] scope pos) δ ω P := fun B F H as σ w ev Q o =>
  ⟨_, pe_dx (fun H h hb => dk_empty h hb) hc hN pi_w ok (fun s H0 C cl fp => ⟨fun pins s1 σ1 H1 v u Q1 I r hw => by obtain ⟨_, p, q⟩ := hw s H0 C cl fp; exact p.run pins s1 σ1 H1 v u Q1 I r q⟩)
    (fun s H0 C cl fp => ⟨fun pins s1 σ1 H1 Q1 I hw => by obtain ⟨_, p, q⟩ := hw s H0 C cl fp; exact p.run pins s1 σ1 H1 Q1 I q⟩)
    (fun D s H0 C cl fp => ⟨fun pins s1 σ1 H1 Q1 I hw => by obtain ⟨_, p, q⟩ := hw s H0 C cl fp; exact p.run pins s1 σ1 H1 Q1 I q⟩) hs, dkc_read h w ev Q o⟩
theorem d1_asgDcK {k : Kd} {i : Nat} {y : Str} {py spos : Pos} (hc : X.calm = true) (hN : X.N.Nodup) (hy : X.N[i]? = some y) (hyl : X.env.scope.names.lookup y = some .local) (hsw : swapsWith (.DictComp kx vx [⟨tg, iter, [], 0⟩] scope pos) (some (.Name y py)) spos.line X.env = pure true) (ok : BlkOk X.N X.env.scope scope own)
    (h : DI X tg iter δ ω fun its ω1 => its.length < 100000 ∧ ∃ ps, ps.length = its.length ∧ DkTurn X scope (own.map (·.2)) tg kx vx δ ω1 its ps ∧ k.nx (δ.set i (.own ω1.length)) (ω1 ++ [.dct (setsK ps)]))
    (hs : ∀ x, foldedSetIterable iter X.env x = pure x := by intro _; rfl) : D1 X (.Assign [.Name y py] (.DictComp kx vx [⟨tg, iter, [], 0⟩] scope pos) spos) δ ω k := fun B F H as σ w ev E o =>
  ⟨_, ps_setDx (fun H h hb => dk_empty h hb) hc hN hy hyl hsw pi_w ok (fun s H0 C cl fp => ⟨fun pins s1 σ1 H1 v u Q1 I r hw => by obtain ⟨_, p, q⟩ := hw s H0 C cl fp; exact p.run pins s1 σ1 H1 v u Q1 I r q⟩)
    (fun s H0 C cl fp => ⟨fun pins s1 σ1 H1 Q1 I hw => by obtain ⟨_, p, q⟩ := hw s H0 C cl fp; exact p.run pins s1 σ1 H1 Q1 I q⟩)
    (fun D s H0 C cl fp => ⟨fun pins s1 σ1 H1 Q1 I hw => by obtain ⟨_, p, q⟩ := hw s H0 C cl fp; exact p.run pins s1 σ1 H1 Q1 I q⟩) hs,
    dkc_read (P := fun r ω1 => k.nx (δ.set i r) ω1) h w ev _ fun v B1 H1 as1 r ω1 e1 p1 w1 s1 hp => (o.nx.up e1 p1).here w1 (envOk_set s1 i (envOk_up e1 p1 ev)) hp⟩
end

/-! ### a dict that is known for good from now on -/
def fdC (kvs : List (Key × D)) : Cell := .kn fun K B a => ∃ od kv, B a = some (.frz od (.dK kv)) ∧ KvOk K B kv kvs
theorem Wd.lockD {K : Fg} {B F H : Hp} {as : List Addr} {ω : List Cell} (w : Wd K B F H as ω) {k : Nat} {a : Addr} {kv : List (Key × V)} {kvs : List (Key × D)} (od : Obj) (ha : as[k]? = some a) (hc : ω[k]? = some (.dct kvs)) (hH : H a = some (.dK kv)) :
    Wd K (upd B a (.frz od (.dK kv))) F (upd H a (.frz od (.dK kv))) as (ω.set k (fdC kvs)) ∧ Same B (upd B a (.frz od (.dK kv))) := by
  obtain ⟨q1, q2, q3, kv', q4, q5⟩ := w.at' k a _ ha hc
  rw [hH] at q4
  cases q4
  have sb : Same B (upd B a (.frz od (.dK kv))) := same_new q3
  refine ⟨⟨fun b x e => ?_, fun b x e => ?_, by rw [List.length_set]; exact w.len, w.nd, fun j b d e1 e2 => ?_⟩, sb⟩
  · by_cases hb : b = a
    · subst hb
      rw [upd_same] at e ⊢
      exact e
    · rw [upd_ne hb] at e ⊢
      exact w.b _ _ e
  · have hb : b ≠ a := fun z => by
      rw [z, q1] at e
      cases e
    rw [upd_ne hb, upd_ne hb]
    exact w.f _ _ e
  · by_cases hj : j = k
    · subst hj
      rw [ha] at e1
      cases e1
      have hk : j < ω.length := (List.getElem?_eq_some_iff.mp hc).1
      rw [List.getElem?_set_self hk] at e2
      cases e2
      exact ⟨q1, by rw [upd_same]; simp, by rw [upd_same]; simp, _, Same.refl _, od, kv, upd_same, kv_up sb q5⟩
    · rw [List.getElem?_set_ne (Ne.symm hj)] at e2
      have hb : b ≠ a := fun z => hj (nodup_at w.nd (z ▸ e1) ha)
      obtain ⟨r1, r2, r3⟩ := w.at' j b d e1 e2
      exact ⟨r1, by rw [upd_ne hb]; exact r2, cell_up r3 sb (fun z => by rw [upd_ne hb]; exact z) (upd_ne hb)⟩
def tLockG (t : TS) : TS := fun D σ H => ∃ d u, H d = some u ∧ Mut (some u) ∧ ∀ od, t D σ (upd H d (.frz od u))
theorem pss_lockG {X : Cx} {st : List Stmt} {t : TS} (h : PSs X st t) : PSs X st (tLockG t) := ⟨fun pins s σ H D I hw => by
  obtain ⟨d, u, hd, mu, hw⟩ := hw
  obtain ⟨od, I1⟩ := I.lock hd mu
  exact h.run pins s σ _ _ I1 (hw od)⟩
section
variable {X : Cx} {rest : List Stmt} {δ : List Sl} {ω : List Cell} {k : Kd} {P : PO1} {pos : Pos} {e o i : Expr}
/-- a ghost step -/
theorem ds_lockD {i kx : Nat} {kvs : List (Key × D)} (hδ : δ[i]? = some (.own kx)) (hc : ω[kx]? = some (.dct kvs)) (h : DS X rest δ (ω.set kx (fdC kvs)) k) : DS X rest δ ω k := fun B F H as σ w ev E o => by
  obtain ⟨ov, h1, h2⟩ := envOk_get ev hδ
  obtain ⟨a, rfl, ha⟩ := h2
  obtain ⟨hb, kv, hH, hkv⟩ := w.cellD ha hc
  refine ⟨_, pss_lockG pss_w, a, _, hH, trivial, fun od => ?_⟩
  obtain ⟨w2, sb⟩ := w.lockD od ha hc hH
  exact h _ F _ as σ w2 (envOk_up sb (List.prefix_refl _) ev) E (o.up sb (List.prefix_refl _))
theorem slo_fd {K : Fg} {B F H : Hp} {as : List Addr} {v : V} {k : Nat} {kvs : List (Key × D)} (w : Wd K B F H as ω) (s : SlOk K B as (some v) (.own k)) (hc : ω[k]? = some (fdC kvs)) : ∃ a od kv, v = .ref a ∧ as[k]? = some a ∧ B a = some (.frz od (.dK kv)) ∧ KvOk K B kv kvs := by
  obtain ⟨a, h1, h2⟩ := sl_own s
  obtain ⟨_, B0, sb, od, kv, h3, h4⟩ := (w.at' k a _ h2 hc).2.2
  exact ⟨a, od, kv, h1, h2, sb _ _ h3, kv_up sb h4⟩
theorem de_fdget (hu : X.A.units + 1 < cLine) (hs : NoSl i) (h : DE X o δ ω fun r1 ω1 => DE X i δ ω1 fun r2 ω2 => ∃ kx kvs key d, r1 = .own kx ∧ ω2[kx]? = some (fdC kvs) ∧ r2 = .val (keyD key) ∧ getK kvs key = some d ∧ P (.val d) ω2) : DE X (.Subscript o i pos) δ ω P := fun B F H as σ w ev Q oo => by
  refine ⟨_, pe_dget hu pe_w pe_w hs, ?_⟩
  refine h B F H as σ w ev _ fun v B1 H1 as1 r ω1 e1 p1 w1 s1 q1 => ?_
  refine q1 B1 F H1 as1 σ w1 (envOk_up e1 p1 ev) _ fun u B2 H2 as2 r2 ω2 e2 p2 w2 s2 ⟨kx, kvs, key, d, er, hk, er2, hd, hp⟩ => ?_
  subst er er2
  obtain ⟨a, od, kv, rfl, ha, hB, hkv⟩ := slo_fd w2 (slOk_up e2 p2 s1) hk
  obtain ⟨y, hy, hdy⟩ := (kv_get key hkv).1 d hd
  refine ⟨a, y, rfl, .inl ⟨kv, key, .inr ⟨od, w2.b _ _ hB⟩, dp_key (sl_val s2), hy.symm⟩, ?_⟩
  exact oo y B2 H2 as2 _ ω2 (e1.trans e2) (p1.trans p2) w2 (slv hdy) hp
theorem kv_at {K : Fg} {B : Hp} : ∀ {a : List (Key × V)} {b : List (Key × D)} {i : Nat} {p : Key × V} {q : Key × D}, KvOk K B a b → a[i]? = some p → b[i]? = some q → p.1 = q.1 ∧ Dp K B p.2 q.2
  | _, _, i, t, q, .nil, h, _ => by simp at h
  | _, _, 0, t, q, .cons h r, e, f => by
    simp at e f
    subst e f
    exact h
  | _, _, i + 1, t, q, .cons h r, e, f => by
    simp at e f
    exact kv_at r e f
theorem dp_keyD {K : Fg} {B : Hp} (k : Key) : Dp K B (kV k) (keyD k) := by
  cases k with
  | inl i => exact .int i
  | inr x => exact .str x
/-- for k in d, d known for good -/
theorem di_fd {tg : Expr} {P : List D → List Cell → Prop} (h : DE X e δ ω fun r ω1 => ∃ kx kvs, r = .own kx ∧ ω1[kx]? = some (fdC kvs) ∧ P (kvs.map fun q => keyD q.1) ω1) : DI X tg e δ ω P := fun B F H as σ w ev R oo => by
  refine ⟨_, pi_keys pe_w, ?_⟩
  refine h B F H as σ w ev _ fun v B1 H1 as1 r ω1 e1 p1 w1 s1 ⟨kx, kvs, er, hk, hp⟩ => ?_
  subst er
  obtain ⟨a, od, kv, rfl, ha, hB, hkv⟩ := slo_fd w1 s1 hk
  refine ⟨a, od, rfl, .inl ⟨kv, w1.b _ _ hB, ?_⟩⟩
  have hl : kv.length = kvs.length := Paired.length hkv
  refine oo _ _ B1 H1 as1 _ e1 p1 w1 (fun B' F' H' as' ω' sb w' => ?_) hp
  have hH : H' a = some (.frz od (.dK kv)) := w'.b a _ (sb a _ hB)
  refine ⟨fun i d hd => ?_, hH, by rw [List.length_map, hl]; exact Nat.le_refl _⟩
  rw [List.getElem?_map] at hd
  obtain ⟨q, hq, rfl⟩ := Option.map_eq_some_iff.mp hd
  have hi : i < kv.length := by rw [hl]; exact (List.getElem?_eq_some_iff.mp hq).1
  refine ⟨⟨hH, hi⟩, fun x H2 ⟨eH, kk, vv, ht, ex⟩ => ⟨B', Same.refl _, by rw [eH]; exact w', ?_⟩⟩
  obtain ⟨h1, _⟩ := kv_at hkv ht hq
  rw [ex, show kk = q.1 from h1]
  exact dp_keyD _
end
end
section
/-! dict(zip(a, b)) of two sequences -/
section
variable {prog : Program} {w : World} {A : Around} {E : Value → Shared → Prop} {s : Shared} {z T O q i1 i2 : Addr} {fa fb : List Addr} {n1 n2 i : Nat} {P1 P2 : Nat → Value → Prop} {S1 S2 : Nat → Heap → Prop} {fl : Bool} {oq : Obj}
theorem heldD_item {Q : Value → Shared → Prop} (Sp : ZipSep2 z T O i1 i2 fa fb) (D1 : Draws prog w A i1 fa n1 P1 S1) (D2 : Draws prog w A i2 fb n2 P2 S2) (gz : IsZipHeld s.heap z T O q fl) (gq : s.heap.get? q = some oq) (gT : IsTupOf2 s.heap T (.ref i1) (.ref i2)) (g1 : S1 i s.heap) (g2 : S2 i s.heap) (l1 : i < n1) (l2 : i < n2)
    (k : ∀ x y h' tk, P1 i x → P2 i y → IsZipHeld h' z T O q true → S1 (i + 1) h' → S2 (i + 1) h' → IsTupOf2 h' s.heap.objs.size x y → (∀ c o, c ≠ z → c ≠ i1 → c ≠ i2 → s.heap.get? c = some o → h'.get? c = some o) → Q (.ref s.heap.objs.size) { s with heap := h', toks := tk }) :
    wpAny (model prog w) A (Builtin.«zip.__next__» ⟨[.ref z], []⟩) (fun fin s' => ∃ v, fin = .done (.ret v) ∧ Q v s') E s := by
  obtain ⟨hp, gg, dd, tk0, oo⟩ := s
  show wpAny _ _ (field (.ref z) 2 >>= _) _ _ _
  refine wpAny_bind (wpAny_field gz rfl (x := .bool false) rfl ?_)
  show wpAny _ _ (field (.ref z) 3 >>= _) _ _ _
  refine wpAny_bind (wpAny_field gz rfl (x := .ref T) rfl ?_)
  refine wpAny_bind (wpAny_seqItems gT rfl ?_)
  show wpAny _ _ (Builtin.SmallTypes.ownedTupleIsFree (.ref z) >>= _) _ _ _
  refine wpAny_bind (wpAny_tupleHeld_zip gz gq fun ha az sa => ?_)
  simp only [Bool.false_eq_true, if_false]
  refine wpAny_bind ?_
  rw [← Array.forIn_toList]
  simp only [List.forIn_cons, List.forIn_nil]
  have d1a := D1.over g1 sa Sp.zf1
  have d2a := D2.over g2 sa Sp.zf2
  refine wpAny_bind (wpAny_bind (wpAny_holding ?_))
  show wpAny _ _ (Builtin.SmallTypes.nextOf (.ref i1) >>= _) _ _ _
  refine wpAny_bind (D1.item i ⟨ha, gg, dd, tk0, oo⟩ _ _ l1 d1a fun x hb tb px d1b sb => wpAny_pure ?_)
  have d2b := D2.over d2a sb Sp.sep1_2
  refine wpAny_pure ?_
  refine wpAny_bind (wpAny_bind (wpAny_holding ?_))
  show wpAny _ _ (Builtin.SmallTypes.nextOf (.ref i2) >>= _) _ _ _
  refine wpAny_bind (D2.item i ⟨hb, gg, dd, tb, oo⟩ _ _ l2 d2b fun y hc tc py d2c sc => wpAny_pure ?_)
  have d1c := D1.over d1b sc Sp.sep2_1
  refine wpAny_pure (wpAny_pure ?_)
  show wpAny _ _ (newTuple [x, y] >>= _) _ _ _
  refine wpAny_bind (wpAny_newTuple ?_)
  have esz : hc.objs.size = hp.objs.size := by rw [sc.1, sb.1, sa.1]
  have z4 : IsZipHeld hc z T O q true := sc.extBut _ _ Sp.zi2 (sb.extBut _ _ Sp.zi1 az)
  refine wpAny_pure ⟨_, rfl, ?_⟩
  show Q (.ref hc.objs.size) _
  have hpu : IsTupOf2 (hc.push { cls := .type "tuple", data := .seq #[x, y] }) hc.objs.size x y := Heap.get?_push_size _ rfl
  rw [esz] at hpu ⊢
  exact k x y _ _ px py (Heap.get?_push_of_some _ z4) (D1.frame _ _ _ d1c fun b _ o e => Heap.get?_push_of_some _ e) (D2.frame _ _ _ d2c fun b _ o e => Heap.get?_push_of_some _ e) hpu fun c o c1 c2 c3 e => Heap.get?_push_of_some _ (sc.extBut _ _ c3 (sb.extBut _ _ c2 (sa.extBut _ _ c1 e)))
theorem heldD_end {Q : Fin → Shared → Prop} (Sp : ZipSep2 z T O i1 i2 fa fb) (D1 : Draws prog w A i1 fa n1 P1 S1) (D2 : Draws prog w A i2 fb n2 P2 S2) (gz : IsZipHeld s.heap z T O q fl) (gq : s.heap.get? q = some oq) (gT : IsTupOf2 s.heap T (.ref i1) (.ref i2)) (g1 : S1 i s.heap) (g2 : S2 i s.heap) (le1 : i ≤ n1) (le2 : i ≤ n2) (hend : i = n1 ∨ i = n2)
    (k : ∀ h' tk e, (∀ c o, c ≠ z → c ≠ i1 → c ≠ i2 → s.heap.get? c = some o → h'.get? c = some o) → (∃ o, h'.get? e = some o ∧ o.cls = .type "StopIteration") → E (.ref e) { s with heap := h', toks := tk }) :
    wpAny (model prog w) A (Builtin.«zip.__next__» ⟨[.ref z], []⟩) Q E s := by
  obtain ⟨hp, gg, dd, tk0, oo⟩ := s
  show wpAny _ _ (field (.ref z) 2 >>= _) _ _ _
  refine wpAny_bind (wpAny_field gz rfl (x := .bool false) rfl ?_)
  show wpAny _ _ (field (.ref z) 3 >>= _) _ _ _
  refine wpAny_bind (wpAny_field gz rfl (x := .ref T) rfl ?_)
  refine wpAny_bind (wpAny_seqItems gT rfl ?_)
  show wpAny _ _ (Builtin.SmallTypes.ownedTupleIsFree (.ref z) >>= _) _ _ _
  refine wpAny_bind (wpAny_tupleHeld_zip gz gq fun ha az sa => ?_)
  simp only [Bool.false_eq_true, if_false]
  refine wpAny_bind ?_
  rw [← Array.forIn_toList]
  simp only [List.forIn_cons, List.forIn_nil]
  have d1a := D1.over g1 sa Sp.zf1
  have d2a := D2.over g2 sa Sp.zf2
  refine wpAny_bind (wpAny_bind (wpAny_holding ?_))
  show wpAny _ _ (Builtin.SmallTypes.nextOf (.ref i1) >>= _) _ _ _
  by_cases hz : i = n1
  · subst hz
    exact wpAny_bind (D1.done ⟨ha, gg, dd, tk0, oo⟩ _ _ d1a fun hb e eb he => k hb _ e (fun c o c1 c2 _ x => eb _ _ c2 (sa.extBut _ _ c1 x)) he)
  · have hz2 : i = n2 := hend.resolve_left hz
    refine wpAny_bind (D1.item i ⟨ha, gg, dd, tk0, oo⟩ _ _ (by omega) d1a fun x hb tb px d1b sb => wpAny_pure ?_)
    have d2b := D2.over d2a sb Sp.sep1_2
    refine wpAny_pure ?_
    refine wpAny_bind (wpAny_bind (wpAny_holding ?_))
    show wpAny _ _ (Builtin.SmallTypes.nextOf (.ref i2) >>= _) _ _ _
    subst hz2
    exact wpAny_bind (D2.done ⟨hb, gg, dd, tb, oo⟩ _ _ d2b fun hc e eb he => k hc _ e (fun c o c1 c2 c3 x => eb _ _ c3 (sb.extBut _ _ c2 (sa.extBut _ _ c1 x))) he)
theorem pyNext_heldD_item {Q : Option Value → Shared → Prop} (Sp : ZipSep2 z T O i1 i2 fa fb) (D1 : Draws prog w A.in1 i1 fa n1 P1 S1) (D2 : Draws prog w A.in1 i2 fb n2 P2 S2) (gz : IsZipHeld s.heap z T O q fl) (gq : s.heap.get? q = some oq) (gT : IsTupOf2 s.heap T (.ref i1) (.ref i2)) (g1 : S1 i s.heap) (g2 : S2 i s.heap) (l1 : i < n1) (l2 : i < n2)
    (k : ∀ x y h' tk, P1 i x → P2 i y → IsZipHeld h' z T O q true → S1 (i + 1) h' → S2 (i + 1) h' → IsTupOf2 h' s.heap.objs.size x y → (∀ c o, c ≠ z → c ≠ i1 → c ≠ i2 → s.heap.get? c = some o → h'.get? c = some o) → Q (some (.ref s.heap.objs.size)) { s with heap := h', toks := tk }) :
    wpAny (model prog w) A (pyNext (.ref z)) Q E s := by
  have ty : s.TypeIs (.ref z) "zip" := ⟨_, gz, rfl⟩
  unfold pyNext
  exact wpAny_bind (wpAny_attempt (wpAny_callSpecial?_slot (name := Str.ofString "__next__") ty F.slot_zip_next
    (wpAny_call_entry F.slot_zip_next ty F.entry_zip_next (heldD_item Sp D1 D2 gz gq gT g1 g2 l1 l2 fun x y h' tk a1 a2 a3 a4 a5 a6 a7 => wpAny_pure (k x y h' tk a1 a2 a3 a4 a5 a6 a7)) (F.args_zip_next_1 _))))
theorem pyNext_heldD_end {Q : Option Value → Shared → Prop} (Sp : ZipSep2 z T O i1 i2 fa fb) (D1 : Draws prog w A.in1 i1 fa n1 P1 S1) (D2 : Draws prog w A.in1 i2 fb n2 P2 S2) (gz : IsZipHeld s.heap z T O q fl) (gq : s.heap.get? q = some oq) (gT : IsTupOf2 s.heap T (.ref i1) (.ref i2)) (g1 : S1 i s.heap) (g2 : S2 i s.heap) (le1 : i ≤ n1) (le2 : i ≤ n2) (hend : i = n1 ∨ i = n2)
    (k : ∀ h' tk, (∀ c o, c ≠ z → c ≠ i1 → c ≠ i2 → s.heap.get? c = some o → h'.get? c = some o) → Q none { s with heap := h', toks := tk }) : wpAny (model prog w) A (pyNext (.ref z)) Q E s := by
  have ty : s.TypeIs (.ref z) "zip" := ⟨_, gz, rfl⟩
  unfold pyNext
  refine wpAny_bind (wpAny_attempt (wpAny_callSpecial?_slot (name := Str.ofString "__next__") ty F.slot_zip_next
    (wpAny_call_entry F.slot_zip_next ty F.entry_zip_next (heldD_end Sp D1 D2 gz gq gT g1 g2 le1 le2 hend fun h' tk e hk he => ?_) (F.args_zip_next_1 _))))
  obtain ⟨o, ho, hc⟩ := he
  refine wpAny_bind (wpAny_isInstance (T := "StopIteration") (b := true) ⟨o, ho, hc⟩ isSubtype_stop ?_)
  exact wpAny_pure (k _ _ hk)
end
theorem pairArgD {prog : Program} {w : World} {z T O i1 i2 : Addr} {a b : Addr} {k1 k2 : Bool} (Sp : ZipSep2 z T O i1 i2 [i1, a] [i2, b]) (ha : a ≠ i1) (hb : b ≠ i2) (xs ys : Array Value) (hl : xs.size = ys.size) :
    PairArg prog w "zip" z [z, T, O, i1, i2, a, b] [z, O, i1, i2] xs.size (fun i k v => xs[i]? = some k ∧ ys[i]? = some v)
      (fun h => IsZip h z T O .none ∧ IsTupOf2 h T (.ref i1) (.ref i2) ∧ (∃ x y, IsTupOf2 h O x y) ∧ (ItA k1 h i1 a 0 ∧ HsA k1 h a xs) ∧ (ItA k2 h i2 b 0 ∧ HsA k2 h b ys)) := by
  have dr1 : ∀ {A : Around}, A.handled = none → _ := fun {A} hA => drawsA (prog := prog) (w := w) (A := A) k1 hA i1 a ha xs
  have dr2 : ∀ {A : Around}, A.handled = none → _ := fun {A} hA => drawsA (prog := prog) (w := w) (A := A) k2 hA i2 b hb ys
  have hsx : ∀ {h : Heap}, HsA k1 h a xs → ∃ o, h.get? a = some o := fun {h} e => by
    cases k1 <;> exact let ⟨o, ho, _⟩ := e; ⟨o, ho⟩
  have hsy : ∀ {h : Heap}, HsA k2 h b ys → ∃ o, h.get? b = some o := fun {h} e => by
    cases k2 <;> exact let ⟨o, ho, _⟩ := e; ⟨o, ho⟩
  have hsat : ∀ {k : Bool} {h h' : Heap} {c : Addr} {us : Array Value}, HsA k h c us → (∀ o, h.get? c = some o → h'.get? c = some o) → HsA k h' c us := fun {k h h' c us} e q => by
    cases k
    · exact Heap.IsTuple.at e q
    · exact Heap.IsList.at e q
  refine ⟨fun s ok => ⟨_, ok.1, rfl⟩, by decide, fun h h' ok hk => ?_, fun h ok c hc => ?_, fun c hc => ?_, fun A s Q E hA ok h => getAttrOr_miss_zip ok.1 rfl rfl rfl zip_no_keys (by decide +kernel) hA h, fun A s d Q E hA ok hd hdf h => ?_⟩
  · obtain ⟨o1, o2, ⟨x, y, o3⟩, ⟨o4, o5⟩, ⟨o6, o7⟩⟩ := ok
    exact ⟨hk _ _ o1, hk _ _ o2, ⟨x, y, hk _ _ o3⟩, ⟨itA_at o4 fun o e => hk _ o e, hsat o5 fun o e => hk _ o e⟩, ⟨itA_at o6 fun o e => hk _ o e, hsat o7 fun o e => hk _ o e⟩⟩
  · obtain ⟨o1, o2, ⟨x, y, o3⟩, ⟨o4, o5⟩, ⟨o6, o7⟩⟩ := ok
    simp only [List.mem_cons, List.not_mem_nil, or_false] at hc
    obtain ⟨u1, v1, _⟩ := itA_ob o4
    obtain ⟨u2, v2, _⟩ := itA_ob o6
    obtain ⟨u3, v3⟩ := hsx o5
    obtain ⟨u4, v4⟩ := hsy o7
    rcases hc with e | e | e | e | e | e | e <;> subst e
    · exact ⟨_, o1⟩
    · exact ⟨_, o2⟩
    · exact ⟨_, o3⟩
    · exact ⟨_, v1⟩
    · exact ⟨_, v2⟩
    · exact ⟨_, v3⟩
    · exact ⟨_, v4⟩
  · simp only [List.mem_cons, List.not_mem_nil, or_false] at hc ⊢
    rcases hc with e | e | e | e <;> subst e <;> simp
  · obtain ⟨o1, o2, ⟨x, y, o3⟩, o4, o5⟩ := ok
    simp only [List.mem_cons, List.not_mem_nil, or_false, not_or] at hdf
    obtain ⟨dz, dT, dO, d1, d2, da, db⟩ := hdf
    refine wpAny_pyIter_zip o1 (h z [z, O, i1, i2] (fun i h => IsTupOf2 h T (.ref i1) (.ref i2) ∧ (ItA k1 h i1 a i ∧ HsA k1 h a xs) ∧ (ItA k2 h i2 b i ∧ HsA k2 h b ys) ∧
      ((IsZip h z T O .none ∧ ∃ x y, IsTupOf2 h O x y) ∨ ∃ p fl op, IsZipHeld h z T O p fl ∧ h.get? p = some op ∧ p ≠ z ∧ p ≠ i1 ∧ p ≠ i2 ∧ p ≠ d)) s.heap s.toks ?_ ⟨o2, o4, o5, .inl ⟨o1, x, y, o3⟩⟩ (fun _ _ e => e) fun c hc => .inl hc)
    refine ⟨fun hm => ?_, fun i h1 h2 st hk => ?_, fun i s1 Q1 E1 hi st hds k => ?_, fun s1 Q1 E1 st k => ?_⟩
    · simp only [List.mem_cons, List.not_mem_nil, or_false] at hm
      rcases hm with e | e | e | e
      · exact dz e
      · exact dO e
      · exact d1 e
      · exact d2 e
    · obtain ⟨q1, ⟨q2, q3⟩, ⟨q4, q5⟩, q6⟩ := st
      refine ⟨hk _ _ (Ne.symm dT) q1, ⟨itA_at q2 fun o e => hk _ o (Ne.symm d1) e, hsat q3 fun o e => hk _ o (Ne.symm da) e⟩, ⟨itA_at q4 fun o e => hk _ o (Ne.symm d2) e, hsat q5 fun o e => hk _ o (Ne.symm db) e⟩, ?_⟩
      rcases q6 with ⟨q6, x, y, q7⟩ | ⟨p, fl, op, q6, q7, r1, r2, r3, r4⟩
      · exact .inl ⟨hk _ _ (Ne.symm dz) q6, x, y, hk _ _ (Ne.symm dO) q7⟩
      · exact .inr ⟨p, fl, op, hk _ _ (Ne.symm dz) q6, hk _ _ r4 q7, r1, r2, r3, r4⟩
    · obtain ⟨q1, q2, q4, q6⟩ := st
      have lt : ∀ {c o}, s1.heap.get? c = some o → s1.heap.objs.size ≠ c := fun e => Nat.ne_of_gt (Heap.lt_size e)
      obtain ⟨u1, v1, _⟩ := itA_ob q2.1
      obtain ⟨u2, v2, _⟩ := itA_ob q4.1
      rcases q6 with ⟨q6, x0, y0, q7⟩ | ⟨p, fl, op, q6, q7, r1, r2, r3, r4⟩
      · refine wpAny_pyNext_zipD2_item Sp (dr1 hA) (dr2 hA) q6 q1 q7 q2 q4 hi (by omega) fun x1 x2 h' tk e1 e2 z' O' s1' s2' hN hsz hk => ?_
        exact k s1.heap.objs.size _ _ h' tk ⟨e1, e2⟩ (.inl ⟨_, hN, rfl, _, rfl⟩) ⟨hk _ _ Sp.TIz Sp.TITO Sp.TIi1 Sp.TIi2 q1, s1', s2', .inr ⟨s1.heap.objs.size, false, _, z', hN, lt q6, lt v1, lt v2, Nat.ne_of_gt hds⟩⟩
          fun c o hc e => hk c o (fun y => hc (by rw [y]; simp)) (fun y => hc (by rw [y]; simp)) (fun y => hc (by rw [y]; simp)) (fun y => hc (by rw [y]; simp)) e
      · refine pyNext_heldD_item Sp (dr1 hA) (dr2 hA) q6 q7 q1 q2 q4 hi (by omega) fun x1 x2 h' tk e1 e2 z' s1' s2' hN hk => ?_
        exact k s1.heap.objs.size _ _ h' tk ⟨e1, e2⟩ (.inl ⟨_, hN, rfl, _, rfl⟩) ⟨hk _ _ Sp.TIz Sp.TIi1 Sp.TIi2 q1, s1', s2', .inr ⟨p, true, op, z', hk _ _ r1 r2 r3 q7, r1, r2, r3, r4⟩⟩
          fun c o hc e => hk c o (fun y => hc (by rw [y]; simp)) (fun y => hc (by rw [y]; simp)) (fun y => hc (by rw [y]; simp)) e
    · obtain ⟨q1, q2, q4, q6⟩ := st
      rcases q6 with ⟨q6, x0, y0, q7⟩ | ⟨p, fl, op, q6, q7, r1, r2, r3, r4⟩
      · exact wpAny_pyNext_zipD2_end Sp (dr1 hA) (dr2 hA) q6 q1 q7 q2 q4 (Nat.le_refl _) (Nat.le_of_eq hl) (.inl rfl) fun h' tk hk => k h' tk fun c o hc e => hk c o (fun y => hc (by rw [y]; simp)) (fun y => hc (by rw [y]; simp)) (fun y => hc (by rw [y]; simp)) (fun y => hc (by rw [y]; simp)) e
      · exact pyNext_heldD_end Sp (dr1 hA) (dr2 hA) q6 q7 q1 q2 q4 (Nat.le_refl _) (Nat.le_of_eq hl) (.inl rfl) fun h' tk hk => k h' tk fun c o hc e => hk c o (fun y => hc (by rw [y]; simp)) (fun y => hc (by rw [y]; simp)) (fun y => hc (by rw [y]; simp)) e
theorem pairs_rel {P : Program} {w : World} : ∀ {ks : List Key} {ys : List V} {us vs : List Value}, Vals (ks.map kV) us → Vals ys vs → ks.length = ys.length → ∃ prs : List (Key × Value), KV (ks.zip ys) prs ∧ PairsHave (mixKind P w) us.length (fun i k v => us.toArray[i]? = some k ∧ vs.toArray[i]? = some v) prs
  | [], [], _, _, .nil, .nil, _ => ⟨[], .nil, rfl, fun i k v h => by simp at h⟩
  | k :: ks, y :: ys, _, _, .cons hk rk, .cons hy ry, hl => by
    obtain ⟨prs, r, hz, hp⟩ := pairs_rel (P := P) (w := w) rk ry (by simpa using hl)
    refine ⟨(k, _) :: prs, .cons ⟨rfl, hy⟩ r, by rw [List.length_cons, List.length_cons, hz], fun i a b h => ?_⟩
    cases i with
    | zero =>
      obtain ⟨h1, h2⟩ := h
      have h1 := Option.some.inj (show some _ = some a by simpa using h1)
      have h2 := Option.some.inj (show some _ = some b by simpa using h2)
      subst h1 h2
      exact ⟨k, rfl, kV_is (P := P) (w := w) hk⟩
    | succ i =>
      obtain ⟨h1, h2⟩ := h
      obtain ⟨q, e1, e2⟩ := hp i a b ⟨by simpa using h1, by simpa using h2⟩
      exact ⟨q, by simpa using e1, e2⟩
def tDz (K : Fg) (ta : TA) : TE := fun σ H Q => ta σ H fun vs H1 => ∃ (b1 b2 : Bool) (a b : Addr) (ks : List Key) (ys : List V), vs = [.ref a, .ref b] ∧ SqK b1 K H1 a (ks.map kV) ∧ SqK b2 K H1 b ys ∧ ks.length = ys.length ∧ ks.length ≤ 100000 ∧ ∀ p, H1 p = none → Q (.ref p) (upd H1 p (.dK (mergeK [] (ks.zip ys))))
theorem pe_dictZip {X : Cx} {e e2 : Expr} {ta : TA} {p p2 pos pos2 : Pos} (hcalm : X.calm = true) (hg : Gl X "dict") (hm : X.mg "dict" = none) (hg2 : Gl X "zip") (hm2 : X.mg "zip" = none) (ha : PA X [e, e2] ta)
    (hs0 : starEach [.Call (.Name "zip" p2) [e, e2] [] pos2] X.env = (false, eval (.Call (.Name "zip" p2) [e, e2] [] pos2) X.env) :: starEach [] X.env := by rfl)
    (hs : starEach [e, e2] X.env = (false, eval e X.env) :: starEach [e2] X.env := by rfl) (hpl : (backTo pos2 (starEach [e2] X.env)).any (·.1) = false := by rfl) :
    PE X (.Call (.Name "dict" p) [.Call (.Name "zip" p2) [e, e2] [] pos2] [] pos) (tDz X.K ta) := by
  refine ⟨fun pins s σ H Q I h => ?_⟩
  refine Call_ (ld_blt I hg hm boot_dict (PyProof.Rows.callWith_type1 (PyProof.Rows.args_cons ?_ hs0) hs0 rfl))
  refine Call_ (ld_blt I hg2 hm2 PyProof.Rows.boot_zip (PyProof.Rows.callWith_type1 (thn (ha.run pos2 pins s σ H _ I h) fun us s1 ⟨vs, H1, I1, r1, b1, b2, a, b, ks, ys, ex, hqx, hqy, hl, hz, q⟩ => ?_) hs hpl))
  subst ex
  cases r1 with
  | cons r r2 =>
    cases r2 with
    | cons r' r3 =>
      cases r3
      cases r
      cases r'
      obtain ⟨its, rv, p1, la⟩ := seqA I1 hqx
      obtain ⟨jts, rw', p2, lb⟩ := seqA I1 hqy
      refine zip_begins2 (beginsA b1 a its.toArray) (beginsA b2 b jts.toArray) p1 p2 fun h' hz' hT hO h1 h2 hsz hk => PyProof.Rows.args_nil ?_
      have sep := sep5 s1.heap.objs.size a b la lb
      have hsat : ∀ {k : Bool} {h h' : Heap} {c : Addr} {us : Array Value}, HsA k h c us → (∀ o, h.get? c = some o → h'.get? c = some o) → HsA k h' c us := fun {k h h' c us} e q => by
        cases k
        · exact Heap.IsTuple.at e q
        · exact Heap.IsList.at e q
      obtain ⟨prs, rel, hph⟩ := pairs_rel (P := X.prog) (w := X.w) rv rw' hl
      have el : its.toArray.size = jts.toArray.size := by
        rw [List.size_toArray, List.size_toArray, ← rv.length, ← rw'.length, List.length_map, hl]
      have elu : its.length = ks.length := by rw [← rv.length, List.length_map]
      have PA := pairArgD (prog := X.prog) (w := X.w) (k1 := b1) (k2 := b2) sep (Nat.ne_of_lt la) (Nat.ne_of_lt (Nat.lt_succ_of_lt lb)) its.toArray jts.toArray el
      refine PySem.call_dict_pairs (knd := mixKind X.prog X.w) (kvs := prs) PA (I1.ok.hd hcalm) ⟨hz', hT, ⟨_, _, hO⟩, ⟨itA_new h1, hsat p1 fun o e => hk _ o e⟩, ⟨itA_new h2, hsat p2 fun o e => hk _ o e⟩⟩ (by rw [List.size_toArray]; exact hph) (by rw [List.size_toArray, elu]; exact Nat.le_trans hz (by decide)) fun h2 tk hd hk2 => ?_
      have old : ∀ b o, s1.heap.get? b = some o → h2.get? b = some o := fun b o e => by
        have hb := Heap.lt_size e
        refine hk2 b o (fun hm => ?_) (hk b o e)
        have : s1.heap.objs.size ≤ b := by
          simp only [List.mem_cons, List.not_mem_nil, or_false] at hm
          rcases hm with y | y | y | y <;> subst y
          · exact Nat.le_add_right _ _
          · exact Nat.le_add_right _ _
          · exact Nat.le_refl _
          · exact Nat.le_add_right _ _
        exact absurd (Nat.lt_of_lt_of_le hb this) (Nat.lt_irrefl _)
      have hle : s1.heap.objs.size ≤ h'.objs.size := by
        rw [hsz]
        exact Nat.le_add_right _ _
      have hms : (h'.objs.size == sysModules) = false := beq_eq_false_iff_ne.mpr (Nat.ne_of_gt (Nat.lt_of_lt_of_le I1.big hle))
      have hlen : (mergeK [] (ks.zip ys)).length ≤ sizeLine := by
        refine Nat.le_trans (length_mergeK (ks.zip ys) []) ?_
        rw [List.length_nil, Nat.zero_add, List.length_zip]
        exact Nat.le_trans (Nat.min_le_left _ _) (Nat.le_trans hz (by decide))
      exact ⟨.ref h'.objs.size, upd H1 h'.objs.size (.dK (mergeK [] (ks.zip ys))), I1.laid (t' := tk) old hle (show ObjOk X.prog X.w _ _ _ (.dK (mergeK [] (ks.zip ys))) from ⟨hlen, hms, merged [] prs, KV.merge rel .nil, hd⟩), rfl, q _ (I1.hok.fresh hle)⟩
section
variable {X : Cx} {e e2 : Expr} {δ : List Sl} {ω : List Cell} {P : PO1}
theorem kvs_merge {K : Fg} {B : Hp} : ∀ {a : List (Key × V)} {b acc : List (Key × D)} {accV : List (Key × V)}, KvOk K B a b → KvOk K B accV acc → KvOk K B (mergeK accV a) (b.foldl (fun acc q => setK acc q.1 q.2) acc)
  | _, _, _, _, .nil, h => h
  | p :: r, q :: s, acc, accV, .cons h t, h0 => by
    have e : p.1 = q.1 := h.1
    show KvOk K B (mergeK (putK accV p.1 p.2) r) (s.foldl _ (setK acc q.1 q.2))
    rw [e]
    exact kvs_merge t (kv_set h.2 h0)
theorem keysD_of {K : Fg} {B : Hp} : ∀ {vs : List V} {ks : List Key}, DpAll K B vs (ks.map keyD) → vs = ks.map kV
  | _, [], .nil => rfl
  | _, k :: ks, .cons h t => by rw [List.map_cons, dp_key h, keysD_of t]
theorem kv_zip {K : Fg} {B : Hp} : ∀ {ks : List Key} {ys : List V} {ds : List D}, DpAll K B ys ds → ks.length = ds.length → KvOk K B (ks.zip ys) (ks.zip ds)
  | [], _, _, _, _ => by
    rw [List.zip_nil_left, List.zip_nil_left]
    exact .nil
  | k :: ks, _, _, .cons h t, e => .cons ⟨rfl, h⟩ (kv_zip t (by simpa using e))
/-- dict(zip(a, b)): a new dict -/
theorem de_dictZip {p p2 pos pos2 : Pos} (hcalm : X.calm = true) (hg : Gl X "dict") (hm : X.mg "dict" = none) (hg2 : Gl X "zip") (hm2 : X.mg "zip" = none)
    (h : DA X [e, e2] δ ω fun rs ω1 => ∃ (x y : Sl) (ks : List Key) (ds : List D), rs = [x, y] ∧ Seq ω1 x (ks.map keyD) ∧ Seq ω1 y ds ∧ ks.length = ds.length ∧ ks.length ≤ 100000 ∧ P (.own ω1.length) (ω1 ++ [.dct (setsK (ks.zip ds))]))
    (hs0 : starEach [.Call (.Name "zip" p2) [e, e2] [] pos2] X.env = (false, eval (.Call (.Name "zip" p2) [e, e2] [] pos2) X.env) :: starEach [] X.env := by rfl)
    (hs : starEach [e, e2] X.env = (false, eval e X.env) :: starEach [e2] X.env := by rfl) (hpl : (backTo pos2 (starEach [e2] X.env)).any (·.1) = false := by rfl) :
    DE X (.Call (.Name "dict" p) [.Call (.Name "zip" p2) [e, e2] [] pos2] [] pos) δ ω P := fun B F H as σ w ev Q o => by
  refine ⟨_, pe_dictZip hcalm hg hm hg2 hm2 pa_w hs0 hs hpl, ?_⟩
  refine h B F H as σ w ev _ fun vs B1 H1 as1 rs ω1 e1 p1 w1 s1 ⟨x, y, ks, ds, er, hx, hy, hl, hz, hp⟩ => ?_
  subst er
  obtain ⟨u, v, rfl, su, sv⟩ := rs2 s1
  obtain ⟨a, xs, rfl, g1, g2⟩ := hx.get w1 su
  obtain ⟨b, ys, rfl, g3, g4⟩ := hy.get w1 sv
  have ek := keysD_of g2
  subst ek
  have toK : ∀ {c : Addr} {zs : List V}, (SqL X.K H1 c zs ∨ SqT X.K H1 c zs) → ∃ k, SqK k X.K H1 c zs := fun q => q.elim (fun q => ⟨true, q⟩) fun q => ⟨false, q⟩
  obtain ⟨k1, q1⟩ := toK g1
  obtain ⟨k2, q2⟩ := toK g3
  refine ⟨k1, k2, a, b, ks, ys, rfl, q1, q2, by rw [dpAll_len g4]; exact hl, hz, fun d hd => ?_⟩
  have kv : KvOk X.K B1 (mergeK [] (ks.zip ys)) (setsK (ks.zip ds)) := kvs_merge (kv_zip g4 hl) .nil
  have w2 : Wd X.K B1 F (upd H1 d (.dK (mergeK [] (ks.zip ys)))) (as1 ++ [d]) (ω1 ++ [.dct (setsK (ks.zip ds))]) := w1.own hd fun hb => ⟨hb, _, upd_same, kv⟩
  refine o (.ref d) B1 _ _ (.own ω1.length) _ e1 (p1.trans (List.prefix_append _ _)) w2 (slo ?_) hp
  rw [← w1.len, List.getElem?_append_right (Nat.le_refl _), Nat.sub_self]
  rfl
end
end
section
/-! ### effects: put together -/
def folS (r m l : List Nat) : List Nat := m.map fun x => l.getD (r.idxOf x) 0
def φ_foll : List D → (D → Prop) → Prop := fun ds P => ∃ r m l, ds = [logD r, logD m, logD l] ∧ r.Nodup ∧ l.length = r.length ∧ (∀ x ∈ m, x ∈ r) ∧ r.length ≤ 10 ∧ m.length ≤ 10 ∧ P (logD (folS r m l))
def kI (i : Nat) : Key := .inl (i : Int)
theorem kI_inj {i j : Nat} (h : kI i = kI j) : i = j := by
  have : (i : Int) = (j : Int) := Sum.inl.inj h
  omega
theorem setK_new {kvs : List (Key × D)} {k : Key} {d : D} (h : k ∉ kvs.map (·.1)) : setK kvs k d = kvs ++ [(k, d)] := by
  unfold setK
  rw [if_neg]
  intro hc
  obtain ⟨p, hp, e⟩ := List.any_eq_true.mp hc
  exact h (List.mem_map.mpr ⟨p, hp, of_decide_eq_true e⟩)
theorem foldl_setK : ∀ (ps acc : List (Key × D)), ((acc ++ ps).map (·.1)).Nodup → ps.foldl (fun acc q => setK acc q.1 q.2) acc = acc ++ ps
  | [], acc, _ => by
    rw [List.append_nil]
    rfl
  | q :: r, acc, h => by
    have e : setK acc q.1 q.2 = acc ++ [q] := setK_new fun hm => by
      rw [List.map_append, List.map_cons] at h
      exact (List.nodup_append.mp h).2.2 _ hm _ List.mem_cons_self rfl
    show r.foldl _ (setK acc q.1 q.2) = _
    rw [e, foldl_setK r (acc ++ [q]) (by rw [List.append_assoc]; exact h), List.append_assoc]
    rfl
theorem setsK_nodup {ps : List (Key × D)} (h : (ps.map (·.1)).Nodup) : setsK ps = ps := foldl_setK ps [] h
theorem getK_zip : ∀ {r l : List Nat} {x : Nat}, l.length = r.length → x ∈ r → getK ((r.map kI).zip (l.map nD)) (kI x) = some (nD (l.getD (r.idxOf x) 0))
  | a :: r, b :: l, x, hl, hx => by
    show Option.map _ (List.find? _ ((kI a, nD b) :: (r.map kI).zip (l.map nD))) = _
    rw [List.find?_cons]
    by_cases e : a = x
    · subst e
      rw [decide_eq_true rfl, List.idxOf_cons_self]
      rfl
    · rw [decide_eq_false fun z => e (kI_inj z)]
      have h1 := getK_zip (r := r) (l := l) (x := x) (by simpa using hl) ((List.mem_cons.mp hx).resolve_left (Ne.symm e))
      have h2 : (a :: r).idxOf x = r.idxOf x + 1 := by
        rw [List.idxOf_cons, cond_eq_if, if_neg]
        simpa using e
      rw [h2]
      exact h1
theorem nodup_kI {r : List Nat} (h : r.Nodup) : (r.map kI).Nodup := by
  rw [List.Nodup, List.pairwise_map]
  exact h.imp fun hne z => hne (kI_inj z)
theorem zip_fst {α β : Type} : ∀ {a : List α} {b : List β}, b.length = a.length → (a.zip b).map (·.1) = a
  | [], [], _ => rfl
  | x :: a, y :: b, h => by
    show x :: (a.zip b).map (·.1) = _
    rw [zip_fst (by simpa using h)]
theorem folS_mem {r m l : List Nat} {p : Nat → Prop} (hl : l.length = r.length) (hm : ∀ x ∈ m, x ∈ r) (hp : ∀ y ∈ l, p y) : ∀ y ∈ folS r m l, p y := fun y hy => by
  obtain ⟨x, hx, rfl⟩ := List.mem_map.mp hy
  have h1 := List.idxOf_lt_length_of_mem (hm x hx)
  rw [List.getD_eq_getElem?_getD, List.getElem?_eq_getElem (by omega)]
  exact hp _ (List.getElem_mem _)
theorem reach_nodup (S : Sys) : (reach S).Nodup := by
  unfold reach
  exact List.Pairwise.filter _ List.nodup_range
theorem mv_fol {S : Sys} {m l : List Nat} (hm : MvOk S m) (hl : MvOk S l) : MvOk S (folS (reach S) m l) := ⟨by unfold folS; rw [List.length_map, hm.1], folS_mem hl.1 hm.2 hl.2⟩
theorem mv_reach (S : Sys) : MvOk S (reach S) := ⟨rfl, fun _ h => h⟩
section
variable {P : Program} {w : World} {K : Fg} {mg : Str → Option Value} {base : Heap} {f C : Addr} {fd : FuncData} {k : Nat}
theorem ok_followed (F : Fun K "followed" "followed" s_followed f fd) (mD : mg "dict" = none) (mZ : mg "zip" = none) (mT : mg "tuple" = none) : FnOk P w K mg base CX0 1 f fd ["reached", "moves", "later"] (spP K φ_foll) := by
  refine ok_P F sc_followed (fun ds Q h => ?_) fun ds Q h cdv A outer s H E hr => ?_
  · obtain ⟨r, m, l, rfl, _⟩ := h
    rfl
  · obtain ⟨r, m, l, rfl, hnd, hl, hm, hr10, hm10, hq⟩ := h
    have nd := sc_followed.nd
    have er : r.map nD = (r.map kI).map keyD := by
      rw [List.map_map]
      rfl
    refine ds_cons (d1_asg (i := 3) nd rfl (by walk_at "loc") (de_dictZip rfl (by rfl) mD (by rfl) mZ (da_cons (de_var 0 rfl (by nofun) rfl (by walk_at "vis") (da_cons (de_var 2 rfl (by nofun) rfl (by walk_at "vis") (da_nil ⟨_, _, r.map kI, l.map nD, rfl, ?_, .tup _, by rw [List.length_map, List.length_map, hl], by rw [List.length_map]; omega, ?_⟩)))))))
    · rw [← er]
      exact .tup _
    have es : setsK ((r.map kI).zip (l.map nD)) = (r.map kI).zip (l.map nD) := setsK_nodup (by rw [zip_fst (by rw [List.length_map, List.length_map, hl])]; exact nodup_kI hnd)
    refine ds_cons (d1_ret (de_callTy call_tuple_of (by rfl) mT PyProof.Rows.boot_tuple (da_cons ?_)))
    refine de_lc rfl nd (blkOk_by (own := [("state", 4)]) (N := n_followed) (sc := defScope s_followed) (by decide +kernel)) (di_tup (de_var 1 rfl (by nofun) rfl (by walk_at "vis") ⟨_, rfl, ?_⟩))
    refine ⟨by rw [List.length_map]; omega, _, ⟨rfl, rfl⟩, lc_map (fun d => match d with | .int i => nD (l.getD (r.idxOf i.toNat) 0) | _ => .none) (fun j d hd s H C cl fp => ?_), fun acc ω' hacc ⟨ew, ea⟩ => .inl ?_⟩
    · obtain ⟨x, hx, rfl⟩ := map_at hd
      refine dg_name (i := 4) nd rfl (.inl rfl) (by decide) ?_
      intro s H C cl fp
      refine de_dget (hu_of hr) (fun _ _ => rfl) (de_var 3 rfl (by nofun) rfl (by walk_at "vis") (de_var 4 rfl (by nofun) rfl (by walk_at "vis") ⟨0, _, kI x, _, rfl, rfl, rfl, ?_, rfl, rfl⟩))
      rw [es]
      exact getK_zip hl (hm x (List.mem_of_getElem? hx))
    · rw [List.take_length] at ea
      subst ew ea
      refine da_nil (ra_tuple (.lst _) ⟨_, rfl, ?_⟩)
      have e : (m.map nD).map (fun d => match d with | .int i => nD (l.getD (r.idxOf i.toNat) 0) | _ => .none) = (folS r m l).map nD := by
        unfold folS
        rw [List.map_map, List.map_map]
        rfl
      rw [e]
      exact hq
end
end
section
/-! ### equal data -/
mutual
theorem lay_of : ∀ d : PyData, shD d = true → d.canLay0 = true
  | .none, _ => rfl
  | .bool _, _ => rfl
  | .int _, _ => rfl
  | .str _, h => by cases h
  | .list xs, h => layAll_of xs h
  | .tuple xs, h => layAll_of xs h
  | .dict _, h => by cases h
theorem layAll_of : ∀ xs : List PyData, shAll xs = true → PyData.canLayAll0 xs = true
  | [], _ => rfl
  | x :: xs, h => by
    have h : (shD x && shAll xs) = true := h
    rw [Bool.and_eq_true] at h
    show (x.canLay0 && PyData.canLayAll0 xs) = true
    rw [lay_of x h.1, layAll_of xs h.2]
    rfl
end
theorem shp_of {d : PyData} (h : shD d = true) (hp : d.depth ≤ 64) : SeqAt.shaped d = true := by
  show (d.canLay0 && decide (d.depth ≤ 64)) = true
  rw [lay_of d h, decide_eq_true hp]
  rfl
theorem eqv_nD (a b : Nat) : PyData.eqv (nD a) (nD b) = decide (a = b) := by
  show ((a : Int) == (b : Int)) = decide (a = b)
  rw [Bool.eq_iff_iff, beq_iff_eq, decide_eq_true_eq]
  omega
theorem eqvAll_n : ∀ l m : List Nat, PyData.eqvAll (l.map nD) (m.map nD) = decide (l = m)
  | [], [] => rfl
  | [], _ :: _ => rfl
  | _ :: _, [] => rfl
  | a :: l, b :: m => by
    show (PyData.eqv (nD a) (nD b) && PyData.eqvAll (l.map nD) (m.map nD)) = _
    rw [eqv_nD, eqvAll_n l m, Bool.eq_iff_iff, Bool.and_eq_true, decide_eq_true_eq, decide_eq_true_eq, decide_eq_true_eq, List.cons.injEq]
theorem eqv_log (l m : List Nat) : PyData.eqv (logD l) (logD m) = decide (l = m) := eqvAll_n l m
theorem shp_log {S : Sys} (h : S.Ok) {l : List Nat} (hl : LogOk S l) : SeqAt.shaped (logD l) = true := shp_of (sh_log (log_small h hl)) (by have := depth_log l; omega)
theorem ones_sh : ∀ l : List PyData, shAll (l.map fun _ => PyData.int 1) = true
  | [] => rfl
  | x :: r => by
    show (shD (.int 1) && shAll (r.map fun _ => PyData.int 1)) = true
    rw [ones_sh r]
    rfl
theorem ones_depth (l : List PyData) : PyData.depthAll (l.map fun _ => PyData.int 1) ≤ 0 := depth_map fun _ _ => Nat.le_refl _
theorem shp_ones (l : List PyData) : SeqAt.shaped (.list (l.map fun _ => PyData.int 1)) = true := shp_of (ones_sh l) (by
  have := ones_depth l
  show PyData.depthAll (l.map fun _ => PyData.int 1) + 1 ≤ 64
  omega)
theorem eqv_nil (l : List PyData) : PyData.eqv (.list l) (.list []) = l.isEmpty := by cases l <;> rfl
end
section
/-! ### effects: together, times, called, equal -/
mutual
theorem eqv_self : ∀ d : D, shD d = true → PyData.eqv d d = true
  | .none, _ => rfl
  | .bool b, _ => by cases b <;> rfl
  | .int i, _ => by
    show (i == i) = true
    exact beq_self_eq_true _
  | .str _, h => by cases h
  | .list xs, h => eqvAll_self xs h
  | .tuple xs, h => eqvAll_self xs h
  | .dict _, h => by cases h
theorem eqvAll_self : ∀ xs : List D, shAll xs = true → PyData.eqvAll xs xs = true
  | [], _ => rfl
  | x :: xs, h => by
    have h : (shD x && shAll xs) = true := h
    rw [Bool.and_eq_true] at h
    show (PyData.eqv x x && PyData.eqvAll xs xs) = true
    rw [eqv_self x h.1, eqvAll_self xs h.2]
    rfl
end
theorem shp_sys {S : Sys} (hS : S.Ok) : SeqAt.shaped (sysD S) = true := shp_of (sh_sys hS) (by have := depth_sys S; omega)
theorem eqv_sys {S : Sys} (hS : S.Ok) : PyData.eqv (sysD S) (sysD S) = true := eqv_self _ (sh_sys hS)
theorem shp_mv {S : Sys} (hS : S.Ok) {m : List Nat} (h : MvOk S m) : SeqAt.shaped (logD m) = true := shp_of (sh_log fun i hi => by have := (mv_log hS h).2 i hi; omega) (by have := depth_log m; omega)
def stp (r m : List Nat) : Nat → Nat := fun x => m.getD (r.idxOf x) 0
def itN (f : Nat → Nat) : Nat → Nat → Nat
  | 0, x => x
  | n + 1, x => itN f n (f x)
def timS (r m : List Nat) (n : Nat) : List Nat := r.map (itN (stp r m) n)
theorem itN_add (f : Nat → Nat) : ∀ (a b x : Nat), itN f (a + b) x = itN f b (itN f a x)
  | 0, b, x => by
    rw [Nat.zero_add]
    rfl
  | a + 1, b, x => by
    rw [Nat.add_right_comm]
    exact itN_add f a b (f x)
theorem itN_mem {r : List Nat} {f : Nat → Nat} (h : ∀ x ∈ r, f x ∈ r) : ∀ (n : Nat) {x : Nat}, x ∈ r → itN f n x ∈ r
  | 0, _, hx => hx
  | n + 1, _, hx => itN_mem h n (h _ hx)
theorem stp_mem {r m : List Nat} (hl : m.length = r.length) (hm : ∀ x ∈ m, x ∈ r) : ∀ x ∈ r, stp r m x ∈ r := fun x hx => by
  have h1 := List.idxOf_lt_length_of_mem hx
  unfold stp
  rw [List.getD_eq_getElem?_getD, List.getElem?_eq_getElem (by omega)]
  exact hm _ (List.getElem_mem _)
theorem stp_map {r : List Nat} (g : Nat → Nat) {x : Nat} (hx : x ∈ r) : stp r (r.map g) x = g x := by
  have h1 := List.idxOf_lt_length_of_mem hx
  unfold stp
  rw [List.getD_eq_getElem?_getD, List.getElem?_map, List.getElem?_eq_getElem h1, List.getElem_idxOf h1]
  rfl
theorem map_stp : ∀ {r m : List Nat}, r.Nodup → m.length = r.length → r.map (stp r m) = m
  | [], [], _, _ => rfl
  | a :: r, b :: m, hn, hl => by
    have e1 : stp (a :: r) (b :: m) a = b := by
      unfold stp
      rw [List.idxOf_cons_self]
      rfl
    have e2 : r.map (stp (a :: r) (b :: m)) = r.map (stp r m) := List.map_congr_left fun x hx => by
      have hne : ¬ a = x := fun z => (List.nodup_cons.mp hn).1 (z ▸ hx)
      unfold stp
      rw [List.idxOf_cons, cond_eq_if, if_neg (by simpa using hne)]
      rfl
    rw [List.map_cons, e1, e2, map_stp (List.nodup_cons.mp hn).2 (by simpa using hl)]
theorem fol_maps {r : List Nat} {g h : Nat → Nat} (hh : ∀ x ∈ r, h x ∈ r) : folS r (r.map h) (r.map g) = r.map fun x => g (h x) := by
  unfold folS
  rw [List.map_map]
  exact List.map_congr_left fun x hx => stp_map g (hh x hx)
theorem fol_it {r m : List Nat} (hl : m.length = r.length) (hm : ∀ x ∈ m, x ∈ r) (a b : Nat) : folS r (timS r m a) (timS r m b) = timS r m (a + b) := by
  unfold timS
  rw [fol_maps fun x hx => itN_mem (stp_mem hl hm) a hx]
  exact List.map_congr_left fun x _ => (itN_add _ a b x).symm
theorem tim_0 (r m : List Nat) : timS r m 0 = r := List.map_id' r
theorem tim_1 {r m : List Nat} (hn : r.Nodup) (hl : m.length = r.length) : timS r m 1 = m := map_stp hn hl
theorem mv_tim {S : Sys} {m : List Nat} (hm : MvOk S m) (n : Nat) : MvOk S (timS (reach S) m n) := by
  refine ⟨List.length_map _, fun x hx => ?_⟩
  obtain ⟨s, hs, rfl⟩ := List.mem_map.mp hx
  exact itN_mem (stp_mem hm.1 hm.2) n hs
/-- one log of moves behind another -/
def folAll (r : List Nat) : List Nat → List (List Nat) → List Nat
  | m, [] => m
  | m, l :: ls => folAll r (folS r m l) ls
theorem folAll_snoc (r : List Nat) (x : List Nat) : ∀ (ls : List (List Nat)) (m : List Nat), folAll r m (ls ++ [x]) = folS r (folAll r m ls) x
  | [], m => rfl
  | l :: ls, m => folAll_snoc r x ls (folS r m l)
theorem mv_folAll {S : Sys} : ∀ {ls : List (List Nat)} {m : List Nat}, MvOk S m → (∀ l ∈ ls, MvOk S l) → MvOk S (folAll (reach S) m ls)
  | [], _, h, _ => h
  | l :: ls, m, h, hs => by
    show MvOk S (folAll (reach S) (folS (reach S) m l) ls)
    exact mv_folAll (ls := ls) (mv_fol h (hs l List.mem_cons_self)) fun x hx => hs x (List.mem_cons_of_mem _ hx)
theorem fol_reach {S : Sys} {m : List Nat} (hm : MvOk S m) : folS (reach S) (reach S) m = m := map_stp (reach_nodup S) hm.1
def φ_rep : List D → (D → Prop) → Prop := fun ds P => ∃ S m n, ds = [logD (reach S), logD m, nD n] ∧ S.Ok ∧ MvOk S m ∧ n ≤ 1000000000000 ∧ P (logD (timS (reach S) m n))
def φ_chk (C : Addr) : List Sl → (Sl → Prop) → Prop := fun rs P => ∃ S ms, rs = [.kn (tupK (ms.map (effS C S)))] ∧ S.Ok ∧ ms ≠ [] ∧ ms.length ≤ 100 ∧ P (.val .none)
def φ_joined (C : Addr) : List Sl → (Sl → Prop) → Prop := fun rs P => ∃ S ms, rs = [.kn (tupK (ms.map (effS C S)))] ∧ S.Ok ∧ (∀ m ∈ ms, MvOk S m) ∧ ms ≠ [] ∧ ms.length ≤ 100 ∧ P (effS C S (folAll (reach S) (reach S) ms))
def φ_eadd (C : Addr) : List Sl → (Sl → Prop) → Prop := fun rs P => ∃ S m l, rs = [effS C S m, effS C S l] ∧ S.Ok ∧ MvOk S m ∧ MvOk S l ∧ P (effS C S (folS (reach S) m l))
def φ_emul (C : Addr) : List Sl → (Sl → Prop) → Prop := fun rs P => ∃ S m n, rs = [effS C S m, .val (nD n)] ∧ S.Ok ∧ MvOk S m ∧ n ≤ 1000000000000 ∧ P (effS C S (timS (reach S) m n))
def φ_ecall (C : Addr) : List Sl → (Sl → Prop) → Prop := fun rs P => ∃ S m x, rs = [effS C S m, .val (nD x)] ∧ S.Ok ∧ MvOk S m ∧ x ∈ reach S ∧ P (.val (nD (stp (reach S) m x)))
def φ_eeq (C : Addr) : List Sl → (Sl → Prop) → Prop := fun rs P => ∃ S m l, rs = [effS C S m, effS C S l] ∧ S.Ok ∧ MvOk S m ∧ MvOk S l ∧ P (.val (.bool (decide (m = l))))
theorem idx_hit {r : List Nat} {x : Nat} (h : x ∈ r) : (r.map nD)[r.idxOf x]? = some (nD x) ∧ eqV (fv (nD x)) (fv (nD x)) = true ∧ ∀ (m : Nat) (z' : D), m < r.idxOf x → (r.map nD)[m]? = some z' → eqV (fv z') (fv (nD x)) = false := by
  have h1 := List.idxOf_lt_length_of_mem h
  refine ⟨by rw [List.getElem?_map, List.getElem?_eq_getElem h1, List.getElem_idxOf h1]; rfl, ?_, fun m z' hm hz => ?_⟩
  · show (((x : Nat) : Int) == ((x : Nat) : Int)) = true
    exact beq_self_eq_true _
  · obtain ⟨y, hy, rfl⟩ := map_at hz
    show (((y : Nat) : Int) == ((x : Nat) : Int)) = false
    rw [beq_eq_false_iff_ne]
    intro z
    have e : y = x := by omega
    subst e
    have h3 := (List.getElem?_eq_some_iff.mp hy)
    obtain ⟨h4, h5⟩ := h3
    have h6 := List.not_of_lt_findIdx (p := (· == y)) (xs := r) (i := m) hm
    rw [h5] at h6
    simp at h6
section
variable {P : Program} {w : World} {K : Fg} {mg : Str → Option Value} {base : Heap} {f C : Addr} {fd : FuncData} {k : Nat}
theorem ok_repeated (F : Fun K "repeated" "repeated" s_repeated f fd) (c1 : Has P w K mg base 1 "followed" (spP K φ_foll)) : FnOk P w K mg base CX0 2 f fd ["reached", "moves", "many"] (spP K φ_rep) := by
  refine ok_P F sc_repeated (fun ds Q h => ?_) fun ds Q h cdv A outer s H E hr => ?_
  · obtain ⟨S, m, n, rfl, _⟩ := h
    rfl
  · obtain ⟨S, m, n, rfl, hS, hm, hn, hq⟩ := h
    have nd := sc_repeated.nd
    have hl6 := reach_len hS
    refine ds_cons (d1_asg (i := 3) nd rfl (by walk_at "loc") (de_var 0 rfl (by nofun) rfl (by walk_at "vis") ?_))
    refine ds_cons (d1_while PassesOwn.never (fun v δ' ω' => ∃ a b, a + b * v = n ∧ 0 < b ∧ ω' = [] ∧ δ' = [.val (logD (reach S)), .val (logD (timS (reach S) m b)), .val (nD v), .val (logD (timS (reach S) m a))]) n ⟨0, 1, by omega, by decide, rfl, by rw [tim_0, tim_1 (reach_nodup S) hm.1]; rfl⟩ ?_)
    rintro v δ' ω' ⟨a, b, hv, hb0, rfl, rfl⟩
    have ha := mv_tim hm a
    have hb := mv_tim hm b
    refine dt_cmp op_gt (nomark _) (de_var 2 rfl (by nofun) rfl (by walk_at "vis") (de_int (rr_I0 (fun _ _ => .bl _) ⟨_, rfl, ?_⟩)))
    refine ite2 (fun hc => ?_) (fun hc => ?_)
    · have hv0 : 0 < v := by
        have h1 := decide_eq_true_eq.mp hc
        omega
      have e2 : ((v : Int) / 2) = ((v / 2 : Nat) : Int) := by omega
      refine ds_cut (fun δ2 ω2 => ω2 = [] ∧ δ2 = [.val (logD (reach S)), .val (logD (timS (reach S) m b)), .val (nD v), .val (logD (timS (reach S) m (a + b * (v % 2))))]) (d1_if (dt_cmp op_eq (nomark _) (de_mod (de_var 2 rfl (by nofun) rfl (by walk_at "vis") ⟨_, rfl, de_int ⟨_, rfl, by decide, de_int (rr_eqI ⟨_, rfl, ?_⟩)⟩⟩)))) ?_
      · refine ite2 (fun hc2 => ?_) (fun hc2 => ds_nil ?_)
        · have e1 : v % 2 = 1 := by
            have h1 := beq_iff_eq.mp hc2
            omega
          refine ds_cons (d1_asg (i := 3) nd rfl (by walk_at "loc") (de_call c1 (by walk_at "room") (by rfl) (da_cons (de_var 0 rfl (by nofun) rfl (by walk_at "vis") (da_cons (de_var 3 rfl (by nofun) rfl (by walk_at "vis") (da_cons (de_var 1 rfl (by nofun) rfl (by walk_at "vis") (da_nil ⟨[_, _, _], rfl, reach S, _, _, rfl, reach_nodup S, hb.1, ha.2, by omega, by have := ha.1; omega, ?_⟩)))))))))
          rw [fol_it hm.1 hm.2, e1, Nat.mul_one]
          exact ds_nil ⟨rfl, rfl⟩
        · have e1 : v % 2 = 0 := by
            have h1 : ¬ ((v : Int) % 2 = 1) := fun z => hc2 (beq_iff_eq.mpr z)
            omega
          rw [e1, Nat.mul_zero, Nat.add_zero]
          exact ⟨rfl, rfl⟩
      · rintro δ2 ω2 ⟨rfl, rfl⟩
        refine ds_cons (d1_asg (i := 1) nd rfl (by walk_at "loc") (de_call c1 (by walk_at "room") (by rfl) (da_cons (de_var 0 rfl (by nofun) rfl (by walk_at "vis") (da_cons (de_var 1 rfl (by nofun) rfl (by walk_at "vis") (da_cons (de_var 1 rfl (by nofun) rfl (by walk_at "vis") (da_nil ⟨[_, _, _], rfl, reach S, _, _, rfl, reach_nodup S, hb.1, hb.2, by omega, by have := hb.1; omega, ?_⟩)))))))))
        rw [fol_it hm.1 hm.2]
        refine ds_cons (d1_asg (i := 2) nd rfl (by walk_at "loc") (de_fdiv (de_var 2 rfl (by nofun) rfl (by walk_at "vis") ⟨_, rfl, de_int ⟨_, rfl, ⟨by decide, by decide⟩, ?_⟩⟩)))
        rw [e2]
        refine ds_nil ⟨v / 2, by omega, a + b * (v % 2), b + b, ?_, by omega, rfl, rfl⟩
        have h1 := Nat.div_add_mod v 2
        have h2 : b * v = b * (2 * (v / 2)) + b * (v % 2) := by rw [← Nat.mul_add, h1]
        have h3 : b * (2 * (v / 2)) = (b + b) * (v / 2) := by rw [← Nat.mul_assoc, Nat.mul_two]
        omega
    · have hv0 : v = 0 := by
        have h1 : ¬ ((0 : Int) < (v : Int)) := fun z => hc (decide_eq_true_eq.mpr z)
        omega
      subst hv0
      have ea : a = n := by omega
      subst ea
      exact ds_cons (d1_ret (de_var 3 rfl (by nofun) rfl (by walk_at "vis") ⟨_, rfl, hq⟩))
theorem ok_check_effects {pS gS : Addr} (T : EffT K mg C) (F : Fun K "check_effects" "check_effects" s_check_effects f fd) (cS : HasM P w K mg base 1 gS (spS K (φ_eget C "_system"))) (qS : PropOf K C "system" pS gS) (mI : mg "isinstance" = none) (mT : mg "tuple" = none) (mA : mg "all" = none) : FnOk P w K mg base CX0 3 f fd ["thing"] (spS K (φ_chk C)) := by
  refine ok_S F sc_check_effects (fun rs Q h => ?_) fun rs Q h cdv A outer s H E hr => ?_
  · obtain ⟨S, ms, rfl, _⟩ := h
    rfl
  · obtain ⟨S, ms, rfl, hS, hne, hl, hq⟩ := h
    have nd := sc_check_effects.nd
    have e0 : (ms.map (effS C S)).isEmpty = false := by
      cases ms with
      | nil => exact absurd rfl hne
      | cons => rfl
    refine ds_cons (d1_if (dt_w (dw_or (dt_not (dt_val (de_isiS (by rfl) mI (by rfl) mT PyProof.Rows.boot_tuple (de_var 0 rfl (by nofun) rfl (by walk_at "vis") ⟨_, _, .tup _, kit_ty (by decide +kernel : kitB "tuple" "tuple" = some true), _, rfl, ?_⟩)))))))
    refine iteF (dw_or1 (dt_not (dt_seq (de_var 0 rfl (by nofun) rfl (by walk_at "vis") ⟨_, .tupK _, ?_⟩))))
    rw [e0]
    refine iteF (ds_nil ?_)
    refine ds_cons (d1_if (dt_not (dt_val (de_callB (cr_all rfl) (by rfl) mA PyProof.Rows.boot_all (da_cons ?_)))))
    refine de_lcS rfl nd (blkOk_by (own := [("part", 1)]) (N := n_check_effects) (sc := defScope s_check_effects) (by decide +kernel)) (dis_tup (de_var 0 rfl (by nofun) rfl (by walk_at "vis") ⟨_, rfl, ?_⟩))
    refine ⟨by rw [List.length_map]; omega, _, fun _ _ _ _ => trivial, ⟨rfl, rfl⟩, lcS_mapA _ (fun _ => .val (.bool true)) (fun j p hp s H C' cl fp => ?_), fun acc ω' hacc ⟨ew, ea⟩ => .inr ?_⟩
    · refine dgs_name (i := 1) nd rfl (.inl rfl) (by decide) ?_
      intro s H C' cl fp
      exact de_isiC (by rfl) mI (by rfl) T.mc (de_var 1 rfl (by nofun) rfl (by walk_at "vis") ⟨_, _, .ins _ T.cl T.isi, T.kit, rfl, rfl, rfl⟩)
    rw [List.length_map, List.take_length] at ea
    subst ew ea
    refine ⟨(ms.map fun _ => true).map PyData.bool, by rw [List.map_map, List.map_map]; rfl, .inl (da_nil (ra_all ⟨_, rfl, ?_⟩))⟩
    rw [show (ms.map fun _ => true).all id = true by rw [List.all_map, List.all_eq_true]; exact fun _ _ => rfl]
    refine iteF (ds_nil ?_)
    refine ds_cons (d1_if (dt_not (dt_val (de_callB (cr_all rfl) (by rfl) mA PyProof.Rows.boot_all (da_cons ?_)))))
    refine de_lcS rfl nd (blkOk_by (own := [("part", 1)]) (N := n_check_effects) (sc := defScope s_check_effects) (by decide +kernel)) (dis_tup (de_var 0 rfl (by nofun) rfl (by walk_at "vis") ⟨_, rfl, ?_⟩))
    refine ⟨by rw [List.length_map]; omega, _, fun _ _ _ _ => trivial, ⟨rfl, rfl⟩, lcS_mapA _ (fun _ => .val (.bool true)) (fun j p hp s H C' cl fp => ?_), fun acc ω' hacc ⟨ew, ea⟩ => .inr ?_⟩
    · refine dgs_name (i := 1) nd rfl (.inl rfl) (by decide) ?_
      intro s H C' cl fp
      obtain ⟨m0, ms', rfl⟩ : ∃ m0 ms', ms = m0 :: ms' := by
        cases ms with
        | nil => exact absurd rfl hne
        | cons a b => exact ⟨a, b, rfl⟩
      refine de_cmp (op_eqD (Room.units hr)) (nomark _) (de_propI cS T.cl qS (by walk_at "room") (de_var 1 rfl (by nofun) rfl (by walk_at "vis") ⟨effF S p, rfl, S, p, sysD S, rfl, rfl, rfl, ?_⟩))
      refine de_propI cS T.cl qS (by walk_at "room") (de_ixS (fun _ _ => rfl) (de_var 0 rfl (by nofun) rfl (by walk_at "vis") (de_int ⟨_, ((0 : Nat) : Int), effS _ S m0, rfl, .tupK _, atI_nat rfl, effF S m0, rfl, S, m0, sysD S, rfl, rfl, rfl, ?_⟩)))
      refine rr_eqD (shp_sys hS) (shp_sys hS) ?_
      rw [eqv_sys hS]
      exact ⟨rfl, rfl, rfl⟩
    rw [List.length_map, List.take_length] at ea
    subst ew ea
    refine ⟨(ms.map fun _ => true).map PyData.bool, by rw [List.map_map, List.map_map]; rfl, .inl (da_nil (ra_all ⟨_, rfl, ?_⟩))⟩
    rw [show (ms.map fun _ => true).all id = true by rw [List.all_map, List.all_eq_true]; exact fun _ _ => rfl]
    refine iteF (ds_nil (ds_nil ?_))
    exact hq
theorem ok_eadd (T : EffT K mg C) {pM gM gI : Addr} (F : Fun K "__add__" "Effect.__add__" s_Effect_add f fd) (cC : Has P w K mg base 3 "check_effects" (spS K (φ_chk C))) (cF : Has P w K mg base 1 "followed" (spP K φ_foll)) (cM : HasM P w K mg base 1 gM (spS K (φ_eget C "_moves"))) (qM : PropOf K C "moves" pM gM)
    (cI : HasM P w K mg base 8 gI (spU K (φ_einit C))) (mk : Mk K C gI) : FnOk P w K mg base CX0 10 f fd ["self", "other"] (spS K (φ_eadd C)) := by
  refine ok_S F sc_Effect_add (fun rs Q h => ?_) fun rs Q h cdv A outer s H E hr => ?_
  · obtain ⟨S, m, l, rfl, _⟩ := h
    rfl
  · obtain ⟨S, m, l, rfl, hS, hm, hl, hq⟩ := h
    have nd := sc_Effect_add.nd
    have hl6 := reach_len hS
    refine ds_cons (d1_expr (de_callS cC (by walk_at "room") (by rfl) (da_cons (de_tupS (da_cons (de_var 0 rfl (by nofun) rfl (by walk_at "vis") (da_cons (de_var 1 rfl (by nofun) rfl (by walk_at "vis") (da_nil ⟨rfl, by walk_at "sz", da_nil ⟨rfl, S, [m, l], rfl, hS, nofun, by walk_at "sz", rfl, ?_⟩⟩)))))))))
    refine ds_cons (d1_ret (de_makeI cI mk (by walk_at "room") (by rfl) T.mc (da_cons (de_attrI (de_var 0 rfl (by nofun) rfl (by walk_at "vis") ⟨C, effF S m, _, rfl, T.cl, T.n1, rfl, ?_⟩)))))
    refine da_cons (de_call cF (by walk_at "room") (by rfl) (da_cons (DE.asF (de_attrI (de_var 0 rfl (by nofun) rfl (by walk_at "vis") ⟨C, effF S m, _, rfl, T.cl, T.n3, rfl, _, rfl, ?_⟩)))))
    refine da_cons (de_attrI (de_var 0 rfl (by nofun) rfl (by walk_at "vis") ⟨C, effF S m, _, rfl, T.cl, T.n2, rfl, ?_⟩))
    refine da_cons (de_propI cM T.cl qM (by walk_at "room") (de_var 1 rfl (by nofun) rfl (by walk_at "vis") ⟨effF S l, rfl, S, l, logD l, rfl, rfl, rfl, ?_⟩))
    refine da_nil ⟨[_, _, _], rfl, reach S, m, l, rfl, reach_nodup S, hl.1, hm.2, by omega, by have := hm.1; omega, ?_⟩
    exact da_nil ⟨rfl, fun y dx => ⟨S, _, y, dx, rfl, hS, mv_fol hm hl, rfl, rfl, effF S _, rfl, rfl, hq⟩⟩
theorem ok_emul (T : EffT K mg C) {gI : Addr} {t6 : Tok} (F : Fun K "__mul__" "Effect.__mul__" s_Effect_mul f fd) (cN : Has P w K mg base 1 "is_number" (spP K φ_is_number)) (cR : Has P w K mg base 2 "repeated" (spP K φ_rep))
    (cI : HasM P w K mg base 8 gI (spU K (φ_einit C))) (mk : Mk K C gI) (m6 : mg "MOST_TIMES" = some (.int 1000000000000 t6)) : FnOk P w K mg base CX0 10 f fd ["self", "other"] (spS K (φ_emul C)) := by
  refine ok_S F sc_Effect_mul (fun rs Q h => ?_) fun rs Q h cdv A outer s H E hr => ?_
  · obtain ⟨S, m, n, rfl, _⟩ := h
    rfl
  · obtain ⟨S, m, n, rfl, hS, hm, hn, hq⟩ := h
    have nd := sc_Effect_mul.nd
    refine ds_cons (d1_if (dt_not (dt_val (de_call cN (by walk_at "room") (by rfl) (da_cons (de_var 1 rfl (by nofun) rfl (by walk_at "vis") (da_cons (de_int (da_cons (de_glob (v := .int 1000000000000) rfl m6 ⟨_, rfl⟩ (fun _ _ => .int _) (da_nil ⟨[_, _, _], rfl, nD n, 0, 1000000000000, rfl, _, rfl, ?_⟩)))))))))))
    rw [show isNum (nD n) 0 1000000000000 = true by show (decide ((0 : Int) ≤ (n : Int)) && decide ((n : Int) ≤ 1000000000000)) = true; rw [decide_eq_true (by omega), decide_eq_true (by omega)]; rfl]
    refine iteF (ds_nil ?_)
    refine ds_cons (d1_ret (de_makeI cI mk (by walk_at "room") (by rfl) T.mc (da_cons (de_attrI (de_var 0 rfl (by nofun) rfl (by walk_at "vis") ⟨C, effF S m, _, rfl, T.cl, T.n1, rfl, ?_⟩)))))
    refine da_cons (de_call cR (by walk_at "room") (by rfl) (da_cons (DE.asF (de_attrI (de_var 0 rfl (by nofun) rfl (by walk_at "vis") ⟨C, effF S m, _, rfl, T.cl, T.n3, rfl, _, rfl, ?_⟩)))))
    refine da_cons (de_attrI (de_var 0 rfl (by nofun) rfl (by walk_at "vis") ⟨C, effF S m, _, rfl, T.cl, T.n2, rfl, ?_⟩))
    refine da_cons (de_var 1 rfl (by nofun) rfl (by walk_at "vis") (da_nil ⟨[_, _, _], rfl, S, m, n, rfl, hS, hm, hn, ?_⟩))
    exact da_nil ⟨rfl, fun y dx => ⟨S, _, y, dx, rfl, hS, mv_tim hm n, rfl, rfl, effF S _, rfl, rfl, hq⟩⟩
theorem ok_ecall (T : EffT K mg C) (F : Fun K "__call__" "Effect.__call__" s_Effect_call f fd) (cR : Has P w K mg base 3 "is_reached" (spP K φ_isr)) : FnOk P w K mg base CX0 4 f fd ["self", "state"] (spS K (φ_ecall C)) := by
  refine ok_S F sc_Effect_call (fun rs Q h => ?_) fun rs Q h cdv A outer s H E hr => ?_
  · obtain ⟨S, m, x, rfl, _⟩ := h
    rfl
  · obtain ⟨S, m, x, rfl, hS, hm, hx, hq⟩ := h
    have nd := sc_Effect_call.nd
    refine ds_cons (d1_if (dt_not (dt_val (de_call cR (by walk_at "room") (by rfl) (da_cons (de_var 1 rfl (by nofun) rfl (by walk_at "vis") (da_cons (DE.asF (de_attrI (de_var 0 rfl (by nofun) rfl (by walk_at "vis") ⟨C, effF S m, _, rfl, T.cl, T.n3, rfl, _, rfl, da_nil ⟨[_, _], rfl, nD x, reach S, rfl, _, rfl, ?_⟩⟩))))))))))
    rw [isR_nD hx (reach_5 hS hx)]
    refine iteF (ds_nil ?_)
    obtain ⟨i1, i2, i3⟩ := idx_hit hx
    have i4 : (m.map nD)[(reach S).idxOf x]? = some (nD (stp (reach S) m x)) := by
      have h1 := List.idxOf_lt_length_of_mem hx
      have h2 := hm.1
      unfold stp
      rw [List.getElem?_map, List.getD_eq_getElem?_getD, List.getElem?_eq_getElem (by omega)]
      rfl
    refine ds_cons (d1_ret (de_ix (fun _ _ => rfl) (de_attrI (de_var 0 rfl (by nofun) rfl (by walk_at "vis") ⟨C, effF S m, _, rfl, T.cl, T.n2, rfl, ?_⟩))))
    refine de_indexF (de_attrI (de_var 0 rfl (by nofun) rfl (by walk_at "vis") ⟨C, effF S m, _, rfl, T.cl, T.n3, rfl, _, rfl, de_var 1 rfl (by nofun) rfl (by walk_at "vis") ⟨nD x, nD x, (reach S).idxOf x, rfl, rfl, flat_nD' _, i1, i2, i3, ?_⟩⟩))
    exact ⟨m.map nD, _, _, rfl, .tup _, atI_nat i4, rfl, hq⟩
theorem ok_eeq (T : EffT K mg C) {pS gS pM gM : Addr} (F : Fun K "__eq__" "Effect.__eq__" s_Effect_eq f fd) (cS : HasM P w K mg base 1 gS (spS K (φ_eget C "_system"))) (qS : PropOf K C "system" pS gS) (cM : HasM P w K mg base 1 gM (spS K (φ_eget C "_moves"))) (qM : PropOf K C "moves" pM gM) (mI : mg "isinstance" = none) : FnOk P w K mg base CX0 3 f fd ["self", "other"] (spS K (φ_eeq C)) := by
  refine ok_S F sc_Effect_eq (fun rs Q h => ?_) fun rs Q h cdv A outer s H E hr => ?_
  · obtain ⟨S, m, l, rfl, _⟩ := h
    rfl
  · obtain ⟨S, m, l, rfl, hS, hm, hl, hq⟩ := h
    have nd := sc_Effect_eq.nd
    refine ds_cons (d1_ret (de_andB (x := true) (y := decide (m = l)) (de_isiC (by rfl) mI (by rfl) T.mc (de_var 1 rfl (by nofun) rfl (by walk_at "vis") ⟨_, _, .ins _ T.cl T.isi, T.kit, rfl, rfl⟩)) (fun _ => ?_) ?_))
    · refine de_andB (x := true) (y := decide (m = l)) (de_cmp (op_eqD (Room.units hr)) (nomark _) (de_attrI (de_var 0 rfl (by nofun) rfl (by walk_at "vis") ⟨C, effF S m, _, rfl, T.cl, T.n1, rfl, de_propI cS T.cl qS (by walk_at "room") (de_var 1 rfl (by nofun) rfl (by walk_at "vis") ⟨effF S l, rfl, S, l, sysD S, rfl, rfl, rfl, ?_⟩)⟩))) (fun _ => ?_) ?_
      · refine rr_eqD (shp_sys hS) (shp_sys hS) ?_
        rw [eqv_sys hS]
        exact ⟨rfl, rfl⟩
      · refine de_one (de_cmp (op_eqD (Room.units hr)) (nomark _) (de_attrI (de_var 0 rfl (by nofun) rfl (by walk_at "vis") ⟨C, effF S m, _, rfl, T.cl, T.n2, rfl, de_propI cM T.cl qM (by walk_at "room") (de_var 1 rfl (by nofun) rfl (by walk_at "vis") ⟨effF S l, rfl, S, l, logD l, rfl, rfl, rfl, ?_⟩)⟩)))
        refine rr_eqD (shp_mv hS hm) (shp_mv hS hl) ?_
        rw [eqv_log]
        exact ⟨rfl, rfl⟩
      · exact ⟨rfl, rfl⟩
    · exact ⟨rfl, hq⟩
theorem ok_joined (T : EffT K mg C) {pS gS pM gM gI : Addr} (F : Fun K "joined" "Effect.joined" s_Effect_joined f fd) (cC : Has P w K mg base 3 "check_effects" (spS K (φ_chk C))) (cR : Has P w K mg base 7 "reachable" (spP K φ_reach)) (cF : Has P w K mg base 1 "followed" (spP K φ_foll)) (cS : HasM P w K mg base 1 gS (spS K (φ_eget C "_system"))) (qS : PropOf K C "system" pS gS) (cM : HasM P w K mg base 1 gM (spS K (φ_eget C "_moves"))) (qM : PropOf K C "moves" pM gM)
    (cI : HasM P w K mg base 8 gI (spU K (φ_einit C))) (mk : Mk K C gI) : FnOk P w K mg base CX0 10 f fd ["effects"] (spS K (φ_joined C)) := by
  refine ok_S F sc_Effect_joined (fun rs Q h => ?_) fun rs Q h cdv A outer s H E hr => ?_
  · obtain ⟨S, ms, rfl, _⟩ := h
    rfl
  · obtain ⟨S, ms, rfl, hS, hms, hne, hz, hq⟩ := h
    have nd := sc_Effect_joined.nd
    have hl6 := reach_len hS
    obtain ⟨m0, ms', e0⟩ : ∃ m0 ms', ms = m0 :: ms' := by
      cases ms with
      | nil => exact absurd rfl hne
      | cons a b => exact ⟨a, b, rfl⟩
    refine ds_cons (d1_expr (de_callS cC (by walk_at "room") (by rfl) (da_cons (de_var 0 rfl (by nofun) rfl (by walk_at "vis") (da_nil ⟨rfl, S, ms, rfl, hS, hne, hz, rfl, ?_⟩)))))
    refine ds_cons (d1_asg (i := 1) nd rfl (by walk_at "loc") (de_propI cS T.cl qS (by walk_at "room") (de_ixS (fun _ _ => rfl) (de_var 0 rfl (by nofun) rfl (by walk_at "vis") (de_int ⟨_, ((0 : Nat) : Int), effS _ S m0, rfl, .tupK _, atI_nat (by rw [e0]; rfl), effF S m0, rfl, S, m0, sysD S, rfl, rfl, rfl, ?_⟩)))))
    refine ds_cons (d1_asg (i := 2) nd rfl (by walk_at "loc") (de_call cR (by walk_at "room") (by rfl) (da_cons (de_var 1 rfl (by nofun) rfl (by walk_at "vis") (da_nil ⟨[_], rfl, S, rfl, hS, ?_⟩)))))
    refine ds_cons (d1_asg (i := 3) nd rfl (by walk_at "loc") (de_var 2 rfl (by nofun) rfl (by walk_at "vis") ?_))
    refine ds_cons (d1_forS PassesOwn.never rfl (dis_tup (de_var 0 rfl (by nofun) rfl (by walk_at "vis") ⟨_, rfl, ?_⟩)))
    refine ⟨fun i δ' ω' => ω' = [] ∧ ∃ s4, δ' = [.kn (tupK (ms.map (effS C S))), .val (sysD S), .val (logD (reach S)), .val (logD (folAll (reach S) (reach S) (ms.take i))), s4], fun _ _ _ _ => trivial, ⟨rfl, _, rfl⟩, ?_, ?_⟩
    · rintro i d δ' ω' hd ⟨rfl, s4, rfl⟩
      rw [List.getElem?_map] at hd
      obtain ⟨m, hm, rfl⟩ : ∃ m, ms[i]? = some m ∧ d = effS C S m := by
        cases hz : ms[i]? with
        | none =>
          rw [hz] at hd
          cases hd
        | some x =>
          rw [hz] at hd
          cases hd
          exact ⟨x, rfl, rfl⟩
      have hmo := hms m (List.mem_of_getElem? hm)
      have hfo : MvOk S (folAll (reach S) (reach S) (ms.take i)) := mv_folAll (mv_reach S) fun x hx => hms x (List.mem_of_mem_take hx)
      refine dgs_name (i := 4) nd rfl (by walk_at "loc") (by walk_at "mr") ?_
      refine ds_cons (d1_asg (i := 3) nd rfl (by walk_at "loc") (de_call cF (by walk_at "room") (by rfl) (da_cons (de_var 2 rfl (by nofun) rfl (by walk_at "vis") (da_cons (de_var 3 rfl (by nofun) rfl (by walk_at "vis") (da_cons (de_propI cM T.cl qM (by walk_at "room") (de_var 4 rfl (by nofun) rfl (by walk_at "vis") ⟨effF S m, rfl, S, m, logD m, rfl, rfl, rfl, ?_⟩)))))))))
      refine da_nil ⟨[_, _, _], rfl, reach S, _, m, rfl, reach_nodup S, hmo.1, hfo.2, by omega, by have := hfo.1; omega, ?_⟩
      refine ds_nil ⟨rfl, effS C S m, ?_⟩
      rw [show ms.take (i + 1) = ms.take i ++ [m] by rw [List.take_add_one, hm]; rfl, folAll_snoc]
      rfl
    · rintro δ' ω' ⟨rfl, s4, rfl⟩
      rw [List.length_map, List.take_length]
      refine ds_cons (d1_ret (de_makeI cI mk (by walk_at "room") (by rfl) T.mc (da_cons (de_var 1 rfl (by nofun) rfl (by walk_at "vis") (da_cons (de_var 3 rfl (by nofun) rfl (by walk_at "vis") (da_nil ⟨rfl, fun y dx => ⟨S, _, y, dx, rfl, hS, mv_folAll (mv_reach S) hms, rfl, rfl, effF S _, rfl, rfl, hq⟩⟩)))))))
end
end
section
/-! tuple * int, any tuple of tuples' own class and any small count -/
theorem mul_same (l : Addr) (items : Array Value) (n : Nat) (dd : Option Addr) (sl : Array (Option Value)) (x : Int) (u : Tok) (g0 : (decide (x < -(2 ^ 63)) || decide (x ≥ 2 ^ 63)) = false) (g1 : (items.isEmpty || x == 1) = true) :
    Meets (Builtin.«tuple.__mul__» ⟨[.ref l, .int x u], []⟩) (fun _ R s => s.heap.get? l = some { cls := .type "tuple", dict := dd, data := .seq items n, slots := sl } ∧ R (.ok (.ret (.ref l))) s) :=
  .of_wp fun prog w A R s h => by
    obtain ⟨hp, g, d, tk, os⟩ := s
    obtain ⟨hl, h⟩ := h
    have f1 := AutoSeq1.idx_int
    wp_walk using wpAny_loadPart' hl
    repeat (first
      | (refine wpAny_ite_false (decide_eq_false (by rw [g0]; exact Bool.false_ne_true)) ?_; wp_walk using wpAny_loadPart' hl)
      | (refine wpAny_ite_true (decide_eq_true (by rw [g1])) ?_; wp_walk using wpAny_loadPart' hl))
    exact ⟨_, rfl, h⟩
theorem mul_none (l : Addr) (items : Array Value) (n : Nat) (dd : Option Addr) (sl : Array (Option Value)) (x : Int) (u : Tok) (g0 : (decide (x < -(2 ^ 63)) || decide (x ≥ 2 ^ 63)) = false) (g1 : (items.isEmpty || x == 1) = false) (g2 : (decide (x ≤ 0) || items.isEmpty) = true) :
    Meets (Builtin.«tuple.__mul__» ⟨[.ref l, .int x u], []⟩) (fun _ R s => s.heap.get? l = some { cls := .type "tuple", dict := dd, data := .seq items n, slots := sl } ∧ R (.ok (.ret (Value.ref s.heap.objs.size))) { s with heap := s.heap.push { cls := Value.type "tuple", data := Data.seq #[] }, toks := s.toks }) :=
  .of_wp fun prog w A R s h => by
    obtain ⟨hp, g, d, tk, os⟩ := s
    obtain ⟨hl, h⟩ := h
    have f1 := AutoSeq1.idx_int
    wp_walk using wpAny_loadPart' hl
    repeat (first
      | (refine wpAny_ite_false (decide_eq_false (by rw [g0]; exact Bool.false_ne_true)) ?_; wp_walk using wpAny_loadPart' hl)
      | (refine wpAny_ite_false (decide_eq_false (by rw [g1]; exact Bool.false_ne_true)) ?_; wp_walk using wpAny_loadPart' hl)
      | (refine wpAny_ite_true (decide_eq_true (by rw [g2])) ?_; wp_walk using wpAny_loadPart' hl))
    exact ⟨_, rfl, h⟩
def rRepA (K : PySem.W.Frag) : R2 := fun x y H Q => ∃ l k xs, x = .ref l ∧ y = .int k ∧ SqT K H l xs ∧ 0 ≤ k ∧ k ≤ 1000 ∧ xs.length ≤ 1000 ∧
  (((xs = [] ∨ k = 1) ∧ Q (.ref l) H) ∨ (¬ (xs = [] ∨ k = 1) ∧ ∀ p, H p = none → Q (.ref p) (upd H p (.tup (List.replicate k.toNat xs).flatten))))
section
variable {X : Cx} {a b : Expr} {δ : List Sl} {ω : List Cell} {P : PO1} {pos : Pos}
theorem op_repA : OpR X (binaryOp .Mult) (rRepA X.K) := by
  intro pins s σ H x y v u Q I rx ry h
  obtain ⟨l, k, xs, ex, ey, hT, k0, k1, hz, q⟩ := h
  subst ex ey
  by_cases hbig : 2 ≤ k ∧ xs ≠ []
  · rcases q with ⟨q1, _⟩ | ⟨_, q⟩
    · rcases q1 with z | z
      · exact absurd z hbig.2
      · omega
    · exact op_repT pins s σ H _ _ v u Q I rx ry ⟨l, k, xs, rfl, rfl, hT, hbig.2, hbig.1, k1, hz, q⟩
  · cases (show v = Value.ref l from rx)
    obtain ⟨t, hu⟩ := (show ∃ t, u = Value.int k t from ry)
    subst hu
    obtain ⟨its, r, ⟨⟨cls, dd, data, sl⟩, ho, hc, n, hd⟩, hs⟩ := I.tuple hT
    simp only at hc hd
    subst hc hd
    have hle : its.length = xs.length := r.length.symm
    have g0 : (decide (k < -(2 ^ 63)) || decide (k ≥ 2 ^ 63)) = false := by
      rw [decide_eq_false (by omega), decide_eq_false (by omega)] <;> rfl
    have road : ∀ {R : Value → Shared → Prop}, wpAny (model X.prog X.w) X.A (call (.builtin "tuple.__mul__") [.ref l, .int k t]) R X.xe s → wpAny (model X.prog X.w) X.A (binaryOp .Mult (.ref l) (.int k t)) R X.xe s := fun hcall =>
      wpAny_binaryOp_repeat_ref (T := "tuple") (U := "int") (by decide) ⟨_, ho, rfl⟩ (fun s' => typeIs_int s' k t) noFill_tuple_mul F.fills_int_mul F.slot_int_rmul repeat_tuple F.slot_int_index.lookup
        (call_meets F.slot_int_rmul (typeIs_int s k t) F.entry_int_rmul (F.args_int_rmul_2 _ _) (int_rmul_tuple k t l its.toArray n dd sl) ⟨ho, rfl, ⟨_, ho, rfl⟩, hcall⟩)
    have he : its.toArray.isEmpty = decide (xs = []) := by
      cases its with
      | nil =>
        cases xs with
        | nil => rfl
        | cons a b => simp at hle
      | cons a b =>
        cases xs with
        | nil => simp at hle
        | cons c d => rfl
    by_cases hsame : xs = [] ∨ k = 1
    · rcases q with ⟨_, q⟩ | ⟨z, _⟩
      · refine road (call_meets F.slot_tuple_mul ⟨_, ho, rfl⟩ F.entry_tuple_mul (F.args_tuple_mul_2 _ _) (mul_same l its.toArray n dd sl k t g0 ?_) ⟨ho, ?_⟩)
        · rw [he]
          rcases hsame with z | z
          · rw [decide_eq_true z]
            rfl
          · subst z
            rw [Bool.or_comm]
            rfl
        · exact ⟨.ref l, H, I, rfl, q⟩
      · exact absurd hsame z
    · rcases q with ⟨z, _⟩ | ⟨_, q⟩
      · exact absurd z hsame
      · have hk : k = 0 := by
          have h1 : ¬ xs = [] := fun z => hsame (.inl z)
          have h2 : ¬ k = 1 := fun z => hsame (.inr z)
          have h3 : ¬ 2 ≤ k := fun z => hbig ⟨z, h1⟩
          omega
        subst hk
        have h1 : ¬ xs = [] := fun z => hsame (.inl z)
        refine road (call_meets F.slot_tuple_mul ⟨_, ho, rfl⟩ F.entry_tuple_mul (F.args_tuple_mul_2 _ _) (mul_none l its.toArray n dd sl 0 t g0 ?_ rfl) ⟨ho, ?_⟩)
        · rw [he, decide_eq_false h1]
          rfl
        · refine ⟨.ref s.heap.objs.size, _, I.laid (t' := s.toks) (o := .tup []) (fun b ob q => Heap.get?_push_of_some _ q) (Nat.le_refl _) ?_, rfl, q _ (I.hok.fresh (Nat.le_refl _))⟩
          exact ⟨by decide, _, .nil, IsTup.new _ _⟩
theorem rep_one {α : Type} {l : List α} {n : Nat} (h : l = [] ∨ n = 1) : (List.replicate n l).flatten = l := by
  rcases h with h | h
  · subst h
    induction n with
    | zero => rfl
    | succ n ih =>
      rw [List.replicate_succ, List.flatten_cons, ih]
      rfl
  · subst h
    exact List.append_nil l
theorem rr_repV {ds : List D} {n : Nat} (hn : n ≤ 1000) (hz : ds.length ≤ 1000) (hp : P (.val (.tuple (repD n ds))) ω) : RR X (rRepA X.K) (.val (.tuple ds)) (.val (.int (n : Int))) ω P := fun B F H as v u w s1 s2 Q o => by
  obtain ⟨l, xs, rfl, h1, hd⟩ := slv_tup s1 w.b
  have hl := dpAll_len hd
  refine ⟨l, (n : Int), xs, rfl, dp_int_inv (sl_val s2), h1, by omega, by omega, by omega, ?_⟩
  by_cases hs : xs = [] ∨ (n : Int) = 1
  · refine .inl ⟨hs, o (.ref l) B H as _ ω (Same.refl _) (List.prefix_refl _) w ?_ hp⟩
    have e : repD n ds = ds := by
      refine rep_one ?_
      rcases hs with z | z
      · subst z
        cases hd
        exact .inl rfl
      · exact .inr (by omega)
    rw [e]
    exact s1
  · refine .inr ⟨hs, fun p hp' => o.tup w hp' ?_ hp⟩
    rw [Int.toNat_natCast]
    exact dp_rep hd n
theorem rs_rep {K : Fg} {B : Hp} {as : List Addr} {vs : List V} {rs : List Sl} (h : RsOk K B as vs rs) : ∀ n : Nat, RsOk K B as (List.replicate n vs).flatten (List.replicate n rs).flatten
  | 0 => .nil
  | n + 1 => by
    rw [List.replicate_succ, List.replicate_succ, List.flatten_cons, List.flatten_cons]
    exact rs_app h (rs_rep h n)
theorem rr_repS {rs : List Sl} {n : Nat} (hne : rs ≠ []) (hn : 2 ≤ n ∧ n ≤ 1000) (hz : rs.length ≤ 1000) (hf : rs.all Sl.free = true) (hp : P (.kn (tupK (List.replicate n rs).flatten)) ω) : RR X (rRepA X.K) (.kn (tupK rs)) (.val (.int (n : Int))) ω P := fun B F H as v u w s1 s2 Q o => by
  obtain ⟨l, xs, rfl, h1, hd⟩ := slk_tup s1
  have hl := rs_len hd
  have hx : ¬ (xs = [] ∨ (n : Int) = 1) := by
    rintro (z | z)
    · subst z
      cases hd
      exact hne rfl
    · omega
  refine ⟨l, (n : Int), xs, rfl, dp_int_inv (sl_val s2), sqT_up w.b h1, by omega, by omega, by omega, .inr ⟨hx, fun p hp' => ?_⟩⟩
  rw [Int.toNat_natCast]
  exact o.kn w hp' ⟨p, _, rfl, SqT.of upd_same, rs_rep (rsOk_up (w.new (o := .tup (List.replicate n xs).flatten) hp').2 (List.prefix_refl _) (rs_free hf hd)) n⟩ hp
end
end
section
section
variable {P : Program} {w : World} {K : Fg} {mg : Str → Option Value} {base : Heap} {f : Addr} {fd : FuncData} {k : Nat}
theorem ok_run (F : Fun K "run" "run" s_run f fd) (c1 : Has P w K mg base 6 "check_system" (spP K φ_check_system)) (c2 : Has P w K mg base 2 "is_place" (spP K φ_is_place)) (c3 : Has P w K mg base 5 "check_log" (spP K φ_check_log)) (c4 : Has P w K mg base 1 "end_of" (spP K φ_end_of)) :
    FnOk P w K mg base CX0 7 f fd ["system", "state", "log"] (spP K φ_run) := by
  refine ok_P F sc_run (fun ds Q h => ?_) fun ds Q h cdv A outer s H E hr => ?_
  · obtain ⟨S, s, l, rfl, _⟩ := h
    rfl
  · obtain ⟨S, st, l, rfl, hS, hs, hl, hz, hq⟩ := h
    refine ds_cons (d1_expr (de_call c1 (by walk_at "room") (by rfl) (da_cons (de_var 0 rfl (by nofun) rfl (by walk_at "vis") (da_nil ⟨[_], rfl, _, rfl, sm_sys hS, isSys_of hS, ?_⟩)))))
    refine ds_cons (d1_if (dt_not (dt_val (de_call c2 (by walk_at "room") (by rfl) (da_cons (de_var 1 rfl (by nofun) rfl (by walk_at "vis") (da_cons (de_ix (fun _ _ => rfl) (de_var 0 rfl (by nofun) rfl (by walk_at "vis") (de_int ⟨_, _, _, rfl, (by walk_at "seq"), rfl, (da_nil ⟨[_, _], rfl, _, _, rfl, _, rfl, ?_⟩)⟩))))))))))
    rw [isNum_nD (by omega) (by omega)]
    refine iteF (ds_nil ?_)
    refine ds_cons (d1_expr (de_call c3 (by walk_at "room") (by rfl) (da_cons (de_var 0 rfl (by nofun) rfl (by walk_at "vis") (da_cons (de_var 2 rfl (by nofun) rfl (by walk_at "vis") (da_nil ⟨[_, _], rfl, _, _, rfl, sm_log hz, isLog_of hl, ?_⟩)))))))
    exact ds_cons (d1_ret (de_call c4 (by walk_at "room") (by rfl) (da_cons (de_var 0 rfl (by nofun) rfl (by walk_at "vis") (da_cons (de_var 1 rfl (by nofun) rfl (by walk_at "vis") (da_cons (de_var 2 rfl (by nofun) rfl (by walk_at "vis") (da_nil ⟨[_, _, _], rfl, S, st, l, rfl, hS, hs, hl, _, rfl, hq⟩)))))))))
end
end
section
section
variable {P : Program} {w : World} {K : Fg} {mg : Str → Option Value} {base : Heap} {f : Addr} {fd : FuncData} {k : Nat}
theorem ok_outcome (F : Fun K "outcome" "outcome" s_outcome f fd) (c1 : Has P w K mg base 6 "check_system" (spP K φ_check_system)) (c3 : Has P w K mg base 5 "check_log" (spP K φ_check_log)) (c4 : Has P w K mg base 1 "end_of" (spP K φ_end_of)) :
    FnOk P w K mg base CX0 7 f fd ["system", "log"] (spP K φ_outcome) := by
  refine ok_P F sc_outcome (fun ds Q h => ?_) fun ds Q h cdv A outer s H E hr => ?_
  · obtain ⟨S, l, rfl, _⟩ := h
    rfl
  · obtain ⟨S, l, rfl, hS, hl, hz, hq⟩ := h
    refine ds_cons (d1_expr (de_call c1 (by walk_at "room") (by rfl) (da_cons (de_var 0 rfl (by nofun) rfl (by walk_at "vis") (da_nil ⟨[_], rfl, _, rfl, sm_sys hS, isSys_of hS, ?_⟩)))))
    refine ds_cons (d1_expr (de_call c3 (by walk_at "room") (by rfl) (da_cons (de_var 0 rfl (by nofun) rfl (by walk_at "vis") (da_cons (de_var 1 rfl (by nofun) rfl (by walk_at "vis") (da_nil ⟨[_, _], rfl, _, _, rfl, sm_log hz, isLog_of hl, ?_⟩)))))))
    exact ds_cons (d1_ret (de_call c4 (by walk_at "room") (by rfl) (da_cons (de_var 0 rfl (by nofun) rfl (by walk_at "vis") (da_cons (de_ix (fun _ _ => rfl) (de_var 0 rfl (by nofun) rfl (by walk_at "vis") (de_int ⟨_, _, _, rfl, (by walk_at "seq"), rfl, (da_cons (de_var 1 rfl (by nofun) rfl (by walk_at "vis") (da_nil ⟨[_, _, _], rfl, S, S.st, l, rfl, hS, hS.st, hl, _, rfl, hq⟩)))⟩))))))))
end
end
section
/-! ### what tells whether kinds are right -/
def pairsL (n : Nat) : List (List Nat) := (List.range n).flatMap fun a => (List.range n).map fun b => [a, b]
def triplesL (n : Nat) : List (List Nat) := (List.range n).flatMap fun a => (List.range n).flatMap fun m => (List.range n).map fun b => [a, m, b]
def isForm (S : Sys) : List Nat → Bool
  | [a, b] => !decide (kk S a = none) && decide (kk S b = kk S a)
  | [a, m, b] => !decide (kk S a = none) && decide (kk S b = kk S a) && !decide (kk S m = kk S a)
  | _ => false
def tellL (S : Sys) : List (List Nat) := (pairsL S.ops.length ++ triplesL S.ops.length).filter (isForm S)
def bad (S : Sys) (s : Nat) (l : List Nat) : Bool := !decide (endOf S s l = endOf S s (l.drop 1))
def faultAt (S : Sys) (s : Nat) : Option (Nat × List Nat) := ((tellL S).find? (bad S s)).map fun l => (s, l)
def faultS (S : Sys) : Option (Nat × List Nat) := (reach S).findSome? (faultAt S)
def fD : Option (Nat × List Nat) → PyData
  | none => .none
  | some p => .tuple [nD p.1, logD p.2]
theorem mem_pairs {n : Nat} {l : List Nat} (h : l ∈ pairsL n) : ∃ a b, l = [a, b] ∧ a < n ∧ b < n := by
  unfold pairsL at h
  obtain ⟨a, ha, h⟩ := List.mem_flatMap.mp h
  obtain ⟨b, hb, rfl⟩ := List.mem_map.mp h
  exact ⟨a, b, rfl, List.mem_range.mp ha, List.mem_range.mp hb⟩
theorem mem_triples {n : Nat} {l : List Nat} (h : l ∈ triplesL n) : ∃ a m b, l = [a, m, b] ∧ a < n ∧ m < n ∧ b < n := by
  unfold triplesL at h
  obtain ⟨a, ha, h⟩ := List.mem_flatMap.mp h
  obtain ⟨m, hm, h⟩ := List.mem_flatMap.mp h
  obtain ⟨b, hb, rfl⟩ := List.mem_map.mp h
  exact ⟨a, m, b, rfl, List.mem_range.mp ha, List.mem_range.mp hm, List.mem_range.mp hb⟩
theorem mem_both {n : Nat} {l : List Nat} (h : l ∈ pairsL n ++ triplesL n) : (∃ a b, l = [a, b] ∧ a < n ∧ b < n) ∨ ∃ a m b, l = [a, m, b] ∧ a < n ∧ m < n ∧ b < n :=
  (List.mem_append.mp h).elim (fun h => .inl (mem_pairs h)) fun h => .inr (mem_triples h)
theorem mem_tell {S : Sys} {l : List Nat} (h : l ∈ tellL S) : LogOk S l ∧ l.length ≤ 3 ∧ isForm S l = true := by
  obtain ⟨h1, h2⟩ := List.mem_filter.mp h
  refine ⟨?_, ?_, h2⟩
  · rcases mem_both h1 with ⟨a, b, rfl, ha, hb⟩ | ⟨a, m, b, rfl, ha, hm, hb⟩
    · intro e he
      simp at he
      rcases he with rfl | rfl <;> assumption
    · intro e he
      simp at he
      rcases he with rfl | rfl | rfl <;> assumption
  · rcases mem_both h1 with ⟨a, b, rfl, _, _⟩ | ⟨a, m, b, rfl, _, _, _⟩
    · show 2 ≤ 3
      decide
    · show 3 ≤ 3
      decide
theorem len_flatMap_le {α β : Type} (f : α → List β) (c : Nat) : ∀ l : List α, (∀ x ∈ l, (f x).length ≤ c) → (l.flatMap f).length ≤ l.length * c
  | [], _ => by
    show 0 ≤ _
    omega
  | x :: r, h => by
    have h1 := len_flatMap_le f c r fun y hy => h y (List.mem_cons_of_mem _ hy)
    have h2 := h x List.mem_cons_self
    rw [List.flatMap_cons, List.length_append, List.length_cons, Nat.succ_mul]
    omega
theorem len_pairs {n : Nat} (h : n ≤ 6) : (pairsL n).length ≤ 36 := by
  have h1 := len_flatMap_le (fun a => (List.range n).map fun b => [a, b]) 6 (List.range n) fun a _ => by
    rw [List.length_map, List.length_range]
    exact h
  rw [List.length_range] at h1
  unfold pairsL
  have : n * 6 ≤ 6 * 6 := Nat.mul_le_mul_right 6 h
  omega
theorem len_triples {n : Nat} (h : n ≤ 6) : (triplesL n).length ≤ 216 := by
  have h0 : ∀ a, ((List.range n).flatMap fun m => (List.range n).map fun b => [a, m, b]).length ≤ 36 := fun a => by
    have h1 := len_flatMap_le (fun m => (List.range n).map fun b => [a, m, b]) 6 (List.range n) fun m _ => by
      rw [List.length_map, List.length_range]
      exact h
    rw [List.length_range] at h1
    have : n * 6 ≤ 6 * 6 := Nat.mul_le_mul_right 6 h
    omega
  have h1 := len_flatMap_le (fun a => (List.range n).flatMap fun m => (List.range n).map fun b => [a, m, b]) 36 (List.range n) fun a _ => h0 a
  rw [List.length_range] at h1
  unfold triplesL
  have : n * 36 ≤ 6 * 36 := Nat.mul_le_mul_right 36 h
  omega
theorem flat_map_map {α β γ : Type} (f : α → List β) (g : β → γ) (l : List α) : (l.map fun x => (f x).map g).flatten = (l.flatMap f).map g := by
  induction l with
  | nil => rfl
  | cons x r ih =>
    rw [List.map_cons, List.flatten_cons, ih, List.flatMap_cons, List.map_append]
theorem tuple_at {α : Type} {f : Nat → α} {n i : Nat} {x : α} (h : ((List.range n).map f)[i]? = some x) : i < n ∧ x = f i := by
  rw [List.getElem?_map] at h
  have hi : i < n := by
    by_cases h1 : i < n
    · exact h1
    · rw [List.getElem?_eq_none (by rw [List.length_range]; omega)] at h
      cases h
  rw [List.getElem?_range hi] at h
  exact ⟨hi, (Option.some.inj h).symm⟩
theorem findSome_at {α β : Type} {g : α → Option β} {x : α} {y : β} : ∀ {l : List α} {i : Nat}, l[i]? = some x → (∀ z ∈ l.take i, g z = none) → g x = some y → l.findSome? g = some y
  | z :: r, 0, h, _, hp => by
    have e : z = x := Option.some.inj h
    subst e
    rw [List.findSome?_cons, hp]
  | z :: r, i + 1, h, ht, hp => by
    rw [List.findSome?_cons, ht z (by rw [List.take_succ_cons]; exact List.mem_cons_self)]
    exact findSome_at (i := i) h (fun y hy => ht y (by rw [List.take_succ_cons]; exact List.mem_cons_of_mem _ hy)) hp
theorem findSome_no {α β : Type} {g : α → Option β} {l : List α} (h : ∀ z ∈ l, g z = none) : l.findSome? g = none := List.findSome?_eq_none_iff.mpr h
end
section
def φ_form : List PyData → (PyData → Prop) → Prop := fun ds P => ∃ S l, ds = [.tuple (S.kn.map kD), logD l] ∧ S.Ok ∧ LogOk S l ∧ (l.length = 2 ∨ l.length = 3) ∧ P (.bool (isForm S l))
def φ_tell : List PyData → (PyData → Prop) → Prop := fun ds P => ∃ S, ds = [sysD S] ∧ S.Ok ∧ P (.list ((tellL S).map logD))
def φ_bad : List PyData → (PyData → Prop) → Prop := fun ds P => ∃ S s l, ds = [sysD S, nD s, logD l] ∧ S.Ok ∧ s < S.n ∧ LogOk S l ∧ P (.bool (bad S s l))
def φ_fault : List PyData → (PyData → Prop) → Prop := fun ds P => ∃ S, ds = [sysD S] ∧ S.Ok ∧ P (fD (faultS S))
theorem rr_neK {X : Cx} {P : Sl → List Cell → Prop} {ω : List Cell} {a b : Option Nat} (hp : P (.val (.bool (!decide (a = b)))) ω) : RR X rNe (.val (kD a)) (.val (kD b)) ω P := fun B F H as v u w s1 s2 Q o => by
  have key : ∀ (i j : Nat), decide (V.int (i : Int) = V.int (j : Int)) = decide (some i = some j) := fun i j => by
    rw [dec_int, Bool.eq_iff_iff, beq_iff_eq, decide_eq_true_eq, Option.some.injEq]
    omega
  cases a with
  | none =>
    obtain rfl := dp_non_inv (sl_val s1)
    cases b with
    | none =>
      obtain rfl := dp_non_inv (sl_val s2)
      refine ⟨rfl, ?_⟩
      exact o.here w (.bl _) (by rw [decide_eq_true rfl] at hp ⊢; exact hp)
    | some j =>
      obtain rfl := dp_int_inv (sl_val s2)
      refine ⟨rfl, ?_⟩
      rw [decide_eq_false (by nofun)] at hp ⊢
      exact o.here w (.bl _) hp
  | some i =>
    obtain rfl := dp_int_inv (sl_val s1)
    cases b with
    | none =>
      obtain rfl := dp_non_inv (sl_val s2)
      refine ⟨rfl, ?_⟩
      rw [decide_eq_false (by nofun)] at hp ⊢
      exact o.here w (.bl _) hp
    | some j =>
      obtain rfl := dp_int_inv (sl_val s2)
      refine ⟨rfl, ?_⟩
      rw [key]
      exact o.here w (.bl _) hp
section
variable {P : Program} {w : World} {K : Fg} {mg : Str → Option Value} {base : Heap} {f : Addr} {fd : FuncData} {k : Nat}
theorem ok_has_form (F : Fun K "has_form" "has_form" s_has_form f fd) (mL : mg "len" = none) : FnOk P w K mg base CX0 (k + 1) f fd ["kinds", "log"] (spP K φ_form) := by
  refine ok_P F sc_has_form (fun ds Q h => ?_) fun ds Q h cdv A outer s H E hr => ?_
  · obtain ⟨S, l, rfl, _⟩ := h
    rfl
  · obtain ⟨S, l, rfl, hS, hl, hz, hq⟩ := h
    have nd := sc_has_form.nd
    obtain ⟨a, b, h0, h1, hab⟩ : ∃ a b, atI (l.map nD) 0 = some (nD a) ∧ atI (l.map nD) (-1) = some (nD b) ∧ ((l = [a, b]) ∨ ∃ m, l = [a, m, b]) := by
      match l, hz with
      | [a, b], _ => exact ⟨a, b, rfl, rfl, .inl rfl⟩
      | [a, m, b], _ => exact ⟨a, b, rfl, rfl, .inr ⟨m, rfl⟩⟩
      | [], h => simp at h
      | [_], h => simp at h
      | _ :: _ :: _ :: _ :: _, h => simp at h
    have ha : a < S.ops.length := hl a (by rcases hab with rfl | ⟨m, rfl⟩ <;> simp)
    have hb : b < S.ops.length := hl b (by rcases hab with rfl | ⟨m, rfl⟩ <;> simp)
    refine ds_cons (d1_asg (i := 2) nd rfl (by walk_at "loc") (de_ix (fun _ _ => rfl) (de_var 0 rfl (by nofun) rfl (by walk_at "vis") (de_ix (fun _ _ => rfl) (de_var 1 rfl (by nofun) rfl (by walk_at "vis") (de_int ⟨_, _, _, rfl, .tup _, h0, _, _, _, rfl, .tup _, kk_at hS ha, ?_⟩))))))
    refine ds_cons (d1_if (dt_w (dw_or (dt_cmp op_isN (nomark _) (de_var 2 rfl (by nofun) rfl (by walk_at "vis") (de_none (rr_isN ⟨_, rfl, ?_⟩)))))))
    rw [isNon_kD]
    by_cases hn : kk S a = none
    · rw [decide_eq_true hn]
      have e : isForm S l = false := by
        rcases hab with rfl | ⟨m, rfl⟩
        · show (!decide (kk S a = none) && _) = false
          rw [decide_eq_true hn]
          rfl
        · show (!decide (kk S a = none) && _ && _) = false
          rw [decide_eq_true hn]
          rfl
      rw [e] at hq
      exact iteT (iteT (ds_cons (d1_ret (de_bool ⟨_, rfl, hq⟩))))
    rw [decide_eq_false hn]
    refine iteF ?_
    refine dw_or1 (dt_cmp op_ne (nomark _) (de_ix (fun _ _ => rfl) (de_var 0 rfl (by nofun) rfl (by walk_at "vis") (de_ix (fun _ _ => rfl) (de_var 1 rfl (by nofun) rfl (by walk_at "vis") (de_neg (de_int ⟨_, rfl, _, _, _, rfl, .tup _, h1, _, _, _, rfl, .tup _, kk_at hS hb, (de_var 2 rfl (by nofun) rfl (by walk_at "vis") (rr_neK ⟨_, rfl, ?_⟩))⟩)))))))
    by_cases hk : kk S b = kk S a
    · rw [decide_eq_true hk]
      refine iteF (ds_nil ?_)
      rcases hab with rfl | ⟨m, rfl⟩
      · have e : isForm S [a, b] = true := by
          show (!decide (kk S a = none) && decide (kk S b = kk S a)) = true
          rw [decide_eq_false hn, decide_eq_true hk]
          rfl
        rw [e] at hq
        exact ds_cons (d1_ret (de_or (de_cmp op_eq (nomark _) (de_callB call_len_seq (by rfl) (by assumption) PySem.boot_len (da_cons (de_var 1 rfl (by nofun) rfl (by walk_at "vis") (da_nil (ra_len (.tup _) (de_int (rr_eqI ⟨_, rfl, (iteT ⟨_, rfl, hq⟩)⟩))))))))))
      · have hm : m < S.ops.length := hl m (by simp)
        have e : isForm S [a, m, b] = !decide (kk S m = kk S a) := by
          show (!decide (kk S a = none) && decide (kk S b = kk S a) && !decide (kk S m = kk S a)) = _
          rw [decide_eq_false hn, decide_eq_true hk]
          rfl
        rw [e] at hq
        refine ds_cons (d1_ret (de_or (de_cmp op_eq (nomark _) (de_callB call_len_seq (by rfl) (by assumption) PySem.boot_len (da_cons (de_var 1 rfl (by nofun) rfl (by walk_at "vis") (da_nil (ra_len (.tup _) (de_int (rr_eqI ⟨_, rfl, (iteF ?_)⟩))))))))))
        exact de_one (de_cmp op_ne (nomark _) (de_ix (fun _ _ => rfl) (de_var 0 rfl (by nofun) rfl (by walk_at "vis") (de_ix (fun _ _ => rfl) (de_var 1 rfl (by nofun) rfl (by walk_at "vis") (de_int ⟨_, _, _, rfl, .tup _, rfl, _, _, _, rfl, .tup _, kk_at hS hm, (de_var 2 rfl (by nofun) rfl (by walk_at "vis") (rr_neK ⟨_, rfl, hq⟩))⟩))))))
    · rw [decide_eq_false hk]
      have e : isForm S l = false := by
        rcases hab with rfl | ⟨m, rfl⟩
        · show (!decide (kk S a = none) && decide (kk S b = kk S a)) = false
          rw [decide_eq_false hk, Bool.and_false]
        · show (!decide (kk S a = none) && decide (kk S b = kk S a) && _) = false
          rw [decide_eq_false hk, Bool.and_false, Bool.false_and]
      rw [e] at hq
      exact iteT (ds_cons (d1_ret (de_bool ⟨_, rfl, hq⟩)))
theorem ok_is_fault_at (F : Fun K "is_fault_at" "is_fault_at" s_is_fault_at f fd) (c1 : Has P w K mg base 1 "end_of" (spP K φ_end_of)) : FnOk P w K mg base CX0 2 f fd ["system", "state", "log"] (spP K φ_bad) := by
  refine ok_P F sc_is_fault_at (fun ds Q h => ?_) fun ds Q h cdv A outer s H E hr => ?_
  · obtain ⟨S, s, l, rfl, _⟩ := h
    rfl
  · obtain ⟨S, st, l, rfl, hS, hst, hl, hq⟩ := h
    have nd := sc_is_fault_at.nd
    refine ds_cons (d1_ret (de_cmp op_ne (nomark _) (de_call c1 (by walk_at "room") (by rfl) (da_cons (de_var 0 rfl (by nofun) rfl (by walk_at "vis") (da_cons (de_var 1 rfl (by nofun) rfl (by walk_at "vis") (da_cons (de_var 2 rfl (by nofun) rfl (by walk_at "vis") (da_nil ⟨[_, _, _], rfl, S, st, l, rfl, hS, hst, hl, ?_⟩))))))))))
    refine de_call c1 (by walk_at "room") (by rfl) (da_cons (de_var 0 rfl (by nofun) rfl (by walk_at "vis") (da_cons (de_var 1 rfl (by nofun) rfl (by walk_at "vis") (da_cons (de_sliceT (de_var 2 rfl (by nofun) rfl (by walk_at "vis") ⟨_, rfl, (de_int ⟨_, rfl, ?_⟩)⟩)))))))
    have e1 : cutD (l.map nD) (some 1) none = (l.drop 1).map nD := cutHi l 1
    show DA _ _ _ _ _
    rw [e1]
    exact da_nil ⟨[_, _, _], rfl, S, st, l.drop 1, rfl, hS, hst, logOk_drop hl 1, rr_neN ⟨_, rfl, hq⟩⟩
end
end
section
theorem outs_pairs (n : Nat) : (((List.range n).map fun a => (List.range n).map fun b => logD [a, b])).flatten = (pairsL n).map logD := by
  unfold pairsL
  rw [← flat_map_map]
  congr 1
  refine List.map_congr_left fun a _ => ?_
  rw [List.map_map]
  rfl
theorem outs_in2 (a m n : Nat) : ((List.range n).map fun b => [logD [a, m, b]]).flatten = (List.range n).map fun b => logD [a, m, b] := by
  induction (List.range n) with
  | nil => rfl
  | cons x r ih =>
    rw [List.map_cons, List.flatten_cons, ih]
    rfl
theorem outs_in1 (a n : Nat) : ((List.range n).map fun b => [logD [a, b]]).flatten = (List.range n).map fun b => logD [a, b] := by
  induction (List.range n) with
  | nil => rfl
  | cons x r ih =>
    rw [List.map_cons, List.flatten_cons, ih]
    rfl
theorem outs_mid (a n : Nat) : ((List.range n).map fun m => (List.range n).map fun b => logD [a, m, b]).flatten = ((List.range n).flatMap fun m => (List.range n).map fun b => [a, m, b]).map logD := by
  rw [← flat_map_map]
  congr 1
  refine List.map_congr_left fun m _ => ?_
  rw [List.map_map]
  rfl
theorem outs_triples (n : Nat) : ((List.range n).map fun a => ((List.range n).flatMap fun m => (List.range n).map fun b => [a, m, b]).map logD).flatten = (triplesL n).map logD := by
  unfold triplesL
  rw [← flat_map_map]
theorem rgD_in {n i : Nat} {d : PyData} (h : (rgD 0 (n : Int))[i]? = some d) : i < n ∧ d = nD i := by
  obtain ⟨h1, rfl⟩ := rgD_at h
  refine ⟨by omega, ?_⟩
  rw [Int.zero_add]
  rfl
theorem rgD_n (n : Nat) : (rgD 0 (n : Int)).length = n := by
  rw [rgD_len]
  omega
section
variable {P : Program} {w : World} {K : Fg} {mg : Str → Option Value} {base : Heap} {f : Addr} {fd : FuncData} {k : Nat}
theorem ok_telling_logs (F : Fun K "telling_logs" "telling_logs" s_telling_logs f fd) (c1 : Has P w K mg base 1 "has_form" (spP K φ_form)) (mR : mg "range" = none) (mL : mg "len" = none) : FnOk P w K mg base CX0 2 f fd ["system"] (spP K φ_tell) := by
  refine ok_P F sc_telling_logs (fun ds Q h => ?_) fun ds Q h cdv A outer s H E hr => ?_
  · obtain ⟨S, rfl, _⟩ := h
    rfl
  · obtain ⟨S, rfl, hS, hq⟩ := h
    have nd := sc_telling_logs.nd
    have h6 := hS.o6
    refine ds_cons (d1_asg (i := 1) nd rfl (by walk_at "loc") (de_ix (fun _ _ => rfl) (de_var 0 rfl (by nofun) rfl (by walk_at "vis") (de_int ⟨_, _, _, rfl, (by walk_at "seq"), rfl, ?_⟩))))
    refine ds_cons (d1_asg (i := 2) nd rfl (by walk_at "loc") (de_callTy cr_rangeV (by rfl) mR PyProof.Rows.boot_range (da_cons (de_callB call_len_seq (by rfl) mL PySem.boot_len (da_cons (de_var 1 rfl (by nofun) rfl (by walk_at "vis") (da_nil (ra_len (.tup _) (da_nil (ra_rngV ?_))))))))))
    rw [List.length_map, hS.kl]
    generalize hn : S.ops.length = n at *
    have bn : -(2 ^ 62) ≤ (n : Int) ∧ (n : Int) < 2 ^ 62 := ⟨by omega, by omega⟩
    have b0 : -(2 ^ 62) ≤ (0 : Int) ∧ (0 : Int) < 2 ^ 62 := ⟨by omega, by omega⟩
    refine ds_cons (d1_asgLx (i := 3) (V := [6]) (body := fun Dl env => nxt _ _ _ _ _ 1 (.ref Dl) env) (fun Dl env => turn20 _ _ _ _ _ _ _ _ _) rfl nd rfl rfl (sw_true rfl rfl rfl (by decide +kernel)) (blkOk_by (own := [("first", 5), ("last", 6)]) (N := n_telling_logs) (sc := defScope s_telling_logs) (by decide +kernel)) (by decide) (di_rngV (de_var 2 rfl (by nofun) rfl (by walk_at "vis") ⟨0, 0, n, rfl, rfl, b0.1, b0.2, bn.1, bn.2, ?_⟩)))
    refine ⟨(List.range n).map fun a => (List.range n).map fun b => logD [a, b], by rw [List.length_map, List.length_range, rgD_n], ?_, fun i d o hd ho Dl => ?_, .inr ?_⟩
    · rw [outs_pairs, List.length_map]
      have := len_pairs h6
      omega
    · obtain ⟨hi, rfl⟩ := rgD_in hd
      obtain ⟨_, rfl⟩ := tuple_at ho
      intro s H C cl fp
      refine dg_name (i := 5) nd rfl (.inl rfl) (by decide) ?_
      intro s H C cl fp
      refine db_cl (V1 := []) rfl (fun _ _ h => h) (turn21 _ _ _ _ _ _ _ _ _) rfl (fun _ => rfl) (by decide) (di_rngV (de_var 2 rfl (by nofun) rfl (by walk_at "vis") ⟨0, 0, n, rfl, rfl, b0.1, b0.2, bn.1, bn.2, ?_⟩))
      refine ⟨rfl, (List.range n).map fun b => [logD [i, b]], by rw [List.length_map, List.length_range, rgD_n], outs_in1 i n, fun j d o hd ho => ?_⟩
      obtain ⟨hj, rfl⟩ := rgD_in hd
      obtain ⟨_, rfl⟩ := tuple_at ho
      refine dg_name (i := 6) nd rfl (.inl rfl) (by decide) ?_
      exact db_app (fun _ _ h => h) (de_tup (da_cons (de_var 5 rfl (by nofun) rfl (by walk_at "vis") (da_cons (de_var 6 rfl (by nofun) rfl (by walk_at "vis") (da_nil ⟨[_, _], rfl, by walk_at "sz", rfl, rfl⟩))))))
    rw [outs_pairs]
    refine ds_cons (d1_asgLx (i := 4) (V := [7, 6]) (body := fun Dl env => nxt _ _ _ _ _ 1 (.ref Dl) env) (fun Dl env => turn30 _ _ _ _ _ _ _ _ _ _ _) rfl nd rfl rfl (sw_true rfl rfl rfl (by decide +kernel)) (blkOk_by (own := [("first", 5), ("between", 7), ("last", 6)]) (N := n_telling_logs) (sc := defScope s_telling_logs) (by decide +kernel)) (by decide) (di_rngV (de_var 2 rfl (by nofun) rfl (by walk_at "vis") ⟨0, 0, n, rfl, rfl, b0.1, b0.2, bn.1, bn.2, ?_⟩)))
    refine ⟨(List.range n).map fun a => ((List.range n).flatMap fun m => (List.range n).map fun b => [a, m, b]).map logD, by rw [List.length_map, List.length_range, rgD_n], ?_, fun i d o hd ho Dl => ?_, .inr ?_⟩
    · rw [outs_triples, List.length_map]
      have := len_triples h6
      omega
    · obtain ⟨hi, rfl⟩ := rgD_in hd
      obtain ⟨_, rfl⟩ := tuple_at ho
      intro s H C cl fp
      refine dg_name (i := 5) nd rfl (.inl rfl) (by decide) ?_
      intro s H C cl fp
      refine db_cl (V1 := [6]) rfl (fun _ _ h => h) (turn31 _ _ _ _ _ _ _ _ _ _ _) rfl (fun _ => rfl) (by decide) (di_rngV (de_var 2 rfl (by nofun) rfl (by walk_at "vis") ⟨0, 0, n, rfl, rfl, b0.1, b0.2, bn.1, bn.2, ?_⟩))
      refine ⟨rfl, (List.range n).map fun m => (List.range n).map fun b => logD [i, m, b], by rw [List.length_map, List.length_range, rgD_n], outs_mid i n, fun j d o hd ho => ?_⟩
      obtain ⟨hj, rfl⟩ := rgD_in hd
      obtain ⟨_, rfl⟩ := tuple_at ho
      refine dg_name (i := 7) nd rfl (.inl rfl) (by decide) ?_
      refine db_cl (V1 := []) rfl (fun _ _ h => h) (turn32 _ _ _ _ _ _ _ _ _ _ _) rfl (fun _ => rfl) (by decide) (di_rngV (de_var 2 rfl (by nofun) rfl (by walk_at "vis") ⟨0, 0, n, rfl, rfl, b0.1, b0.2, bn.1, bn.2, ?_⟩))
      refine ⟨rfl, (List.range n).map fun b => [logD [i, j, b]], by rw [List.length_map, List.length_range, rgD_n], outs_in2 i j n, fun q d o hd ho => ?_⟩
      obtain ⟨hq', rfl⟩ := rgD_in hd
      obtain ⟨_, rfl⟩ := tuple_at ho
      refine dg_name (i := 6) nd rfl (.inl rfl) (by decide) ?_
      exact db_app (fun _ _ h => h) (de_tup (da_cons (de_var 5 rfl (by nofun) rfl (by walk_at "vis") (da_cons (de_var 7 rfl (by nofun) rfl (by walk_at "vis") (da_cons (de_var 6 rfl (by nofun) rfl (by walk_at "vis") (da_nil ⟨[_, _, _], rfl, by walk_at "sz", rfl, rfl⟩))))))))
    rw [outs_triples]
    have hpl := len_pairs h6
    have htl := len_triples h6
    refine ds_cons (d1_ret ?_)
    refine de_lc rfl nd (blkOk_by (own := [("log", 8)]) (N := n_telling_logs) (sc := defScope s_telling_logs) (by decide +kernel)) (di_lst (de_bin op_plus (de_var 3 rfl (by nofun) rfl (by walk_at "vis") (de_var 4 rfl (by nofun) rfl (by walk_at "vis") (rr_catO (kx := 1) (ky := 2) rfl rfl (by rw [List.length_map, List.length_map]; omega) ⟨_, rfl, ?_⟩)))))
    rw [← List.map_append]
    refine ⟨by rw [List.length_map, List.length_append]; omega, _, ⟨rfl, rfl⟩, lc_filt (fun d => match d with | .tuple ds => isForm S (ds.map fun z => match z with | .int i => i.toNat | _ => 0) | _ => false) (fun d => d) (fun x d hd => ?_), fun acc ω3 hacc ⟨ew, ea⟩ => .inl ?_⟩
    · obtain ⟨l, hl, rfl⟩ := map_at hd
      have hlm := List.mem_of_getElem? hl
      have hlo : LogOk S l ∧ (l.length = 2 ∨ l.length = 3) := by
        rcases mem_both hlm with ⟨a, b, rfl, ha, hb⟩ | ⟨a, m, b, rfl, ha, hm, hb⟩
        · refine ⟨fun e he => ?_, .inl rfl⟩
          simp at he
          rw [hn]
          rcases he with rfl | rfl <;> assumption
        · refine ⟨fun e he => ?_, .inr rfl⟩
          simp at he
          rw [hn]
          rcases he with rfl | rfl | rfl <;> assumption
      have hback : (l.map nD).map (fun z => match z with | .int i => i.toNat | _ => 0) = l := by
        rw [List.map_map]
        exact List.map_id _
      intro s H C cl fp
      refine dg_name (i := 8) nd rfl (.inl rfl) (by decide) ⟨?_, fun _ => ?_⟩
      · intro s H C cl fp
        refine dt_val (de_call c1 (by walk_at "room") (by rfl) (da_cons (de_var 1 rfl (by nofun) rfl (by walk_at "vis") (da_cons (de_var 8 rfl (by nofun) rfl (by walk_at "vis") (da_nil ⟨[_, _], rfl, S, l, rfl, hS, hlo.1, hlo.2, _, rfl, ?_, rfl⟩))))))
        exact congrArg (isForm S) hback.symm
      · intro s H C cl fp
        exact de_var 8 rfl (by nofun) rfl (by walk_at "vis") ⟨rfl, rfl⟩
    · rw [List.take_length] at ea
      subst ew ea
      refine ⟨_, rfl, ?_⟩
      have e : (((pairsL n ++ triplesL n).map logD).filter fun d => match d with | .tuple ds => isForm S (ds.map fun z => match z with | .int i => i.toNat | _ => 0) | _ => false).map (fun d => d) = (tellL S).map logD := by
        unfold tellL
        rw [List.filter_map, List.map_map, hn]
        have e2 : (pairsL n ++ triplesL n).filter ((fun d => match d with | .tuple ds => isForm S (ds.map fun z => match z with | .int i => i.toNat | _ => 0) | _ => false) ∘ logD) = (pairsL n ++ triplesL n).filter (isForm S) := by
          refine List.filter_congr fun l _ => ?_
          show isForm S ((l.map nD).map _) = _
          congr 1
          rw [List.map_map]
          exact List.map_id _
        rw [e2]
        rfl
      rw [e]
      exact hq
theorem ok_fault (F : Fun K "fault" "fault" s_fault f fd) (c1 : Has P w K mg base 6 "check_system" (spP K φ_check_system)) (c2 : Has P w K mg base 2 "telling_logs" (spP K φ_tell)) (c3 : Has P w K mg base 7 "reachable" (spP K φ_reach)) (c4 : Has P w K mg base 2 "is_fault_at" (spP K φ_bad)) :
    FnOk P w K mg base CX0 8 f fd ["system"] (spP K φ_fault) := by
  refine ok_P F sc_fault (fun ds Q h => ?_) fun ds Q h cdv A outer s H E hr => ?_
  · obtain ⟨S, rfl, _⟩ := h
    rfl
  · obtain ⟨S, rfl, hS, hq⟩ := h
    have nd := sc_fault.nd
    refine ds_cons (d1_expr (de_call c1 (by walk_at "room") (by rfl) (da_cons (de_var 0 rfl (by nofun) rfl (by walk_at "vis") (da_nil ⟨[_], rfl, _, rfl, sm_sys hS, isSys_of hS, ?_⟩)))))
    refine ds_cons (d1_asg (i := 1) nd rfl (by walk_at "loc") (de_call c2 (by walk_at "room") (by rfl) (da_cons (de_var 0 rfl (by nofun) rfl (by walk_at "vis") (da_nil ⟨[_], rfl, S, rfl, hS, ?_⟩)))))
    refine ds_cons (d1_for PassesOwn.never rfl (di_tup (de_call c3 (by walk_at "room") (by rfl) (da_cons (de_var 0 rfl (by nofun) rfl (by walk_at "vis") (da_nil ⟨[_], rfl, S, rfl, hS, _, rfl, ?_⟩))))))
    refine ⟨fun i δ' ω' => ∃ s2 s3, δ' = [.val (sysD S), .val (.list ((tellL S).map logD)), s2, s3] ∧ ∀ s ∈ (reach S).take i, faultAt S s = none, ⟨.no, .no, rfl, nofun⟩, ?_, ?_⟩
    · rintro i d δ' ω' hd ⟨s2, s3, rfl, ht⟩
      obtain ⟨st, hst, rfl⟩ := map_at hd
      have hlt := reach_lt (List.mem_of_getElem? hst)
      refine dg_name (i := 2) nd rfl (by walk_at "loc") (by walk_at "mr") ?_
      refine ds_cons (d1_for PassesOwn.never rfl (di_lst (de_var 1 rfl (by nofun) rfl (by walk_at "vis") ⟨_, rfl, ?_⟩)))
      refine ⟨fun j δ' ω2 => ∃ s3, δ' = [.val (sysD S), .val (.list ((tellL S).map logD)), .val (nD st), s3] ∧ ∀ l ∈ (tellL S).take j, bad S st l = false, ⟨_, rfl, nofun⟩, ?_, ?_⟩
      · rintro j d δ' ω2 hd ⟨s3, rfl, hl⟩
        obtain ⟨l, hlj, rfl⟩ := map_at hd
        have hlo := (mem_tell (List.mem_of_getElem? hlj)).1
        refine dg_name (i := 3) nd rfl (by walk_at "loc") (by walk_at "mr") ?_
        refine ds_cons (d1_if (dt_val (de_call c4 (by walk_at "room") (by rfl) (da_cons (de_var 0 rfl (by nofun) rfl (by walk_at "vis") (da_cons (de_var 2 rfl (by nofun) rfl (by walk_at "vis") (da_cons (de_var 3 rfl (by nofun) rfl (by walk_at "vis") (da_nil ⟨[_, _, _], rfl, S, st, l, rfl, hS, hlt, hlo, _, rfl, ?_⟩))))))))))
        refine ite2 (fun hc => ?_) (fun hc => ?_)
        · have e1 : faultAt S st = some (st, l) := by
            unfold faultAt
            rw [find_at hlj hl hc]
            rfl
          have e : faultS S = some (st, l) := findSome_at hst ht e1
          rw [e] at hq
          exact ds_cons (d1_ret (de_tup (da_cons (de_var 2 rfl (by nofun) rfl (by walk_at "vis") (da_cons (de_var 3 rfl (by nofun) rfl (by walk_at "vis") (da_nil ⟨[_, _], rfl, by walk_at "sz", _, rfl, hq⟩)))))))
        · exact ds_nil (ds_nil ⟨_, rfl, take_more hlj hl (Bool.eq_false_iff.mpr hc)⟩)
      · rintro δ' ω2 ⟨s3, rfl, hl⟩
        rw [List.length_map, List.take_length] at hl
        refine ds_nil ⟨_, _, rfl, take_more hst ht ?_⟩
        unfold faultAt
        rw [find_no hl]
        rfl
    · rintro δ' ω' ⟨s2, s3, rfl, ht⟩
      rw [List.length_map, List.take_length] at ht
      have e : faultS S = none := findSome_no ht
      rw [e] at hq
      exact ds_cons (d1_ret (de_none ⟨_, rfl, hq⟩))
end
end
section
def φ_cmp : List D → (D → Prop) → Prop := fun ds P => ∃ S l, ds = [sysD S, logD l] ∧ S.Ok ∧ LogOk S l ∧ l.length ≤ 100000 ∧ P (logD (cmp S l))
section
variable {P : Program} {w : World} {K : Fg} {mg : Str → Option Value} {base : Heap} {f : Addr} {fd : FuncData} {k : Nat}
theorem ok_compacted (F : Fun K "compacted" "compacted" s_compacted f fd) (c1 : Has P w K mg base 6 "check_system" (spP K φ_check_system)) (c2 : Has P w K mg base 5 "check_log" (spP K φ_check_log)) (mE : mg "enumerate" = none) (mT : mg "tuple" = none) : FnOk P w K mg base CX0 7 f fd ["system", "log"] (spP K φ_cmp) := by
  refine ok_P F sc_compacted (fun ds Q h => ?_) fun ds Q h cdv A outer s H E hr => ?_
  · obtain ⟨S, l, rfl, _⟩ := h
    rfl
  · obtain ⟨S, l, rfl, hS, hl, hz, hq⟩ := h
    have nd := sc_compacted.nd
    refine ds_cons (d1_expr (de_call c1 (by walk_at "room") (by rfl) (da_cons (de_var 0 rfl (by nofun) rfl (by walk_at "vis") (da_nil ⟨[_], rfl, _, rfl, sm_sys hS, isSys_of hS, ?_⟩)))))
    refine ds_cons (d1_expr (de_call c2 (by walk_at "room") (by rfl) (da_cons (de_var 0 rfl (by nofun) rfl (by walk_at "vis") (da_cons (de_var 1 rfl (by nofun) rfl (by walk_at "vis") (da_nil ⟨[_, _], rfl, _, _, rfl, sm_log hz, isLog_of hl, ?_⟩)))))))
    refine ds_cons (d1_asg (i := 2) nd rfl (by walk_at "loc") (de_ix (fun _ _ => rfl) (de_var 0 rfl (by nofun) rfl (by walk_at "vis") (de_int ⟨_, _, _, rfl, (by walk_at "seq"), rfl, ?_⟩))))
    refine ds_cons (d1_asg (i := 3) nd rfl (by walk_at "loc") (de_dcN rfl nd (blkOk_by (own := [("at", 4), ("entry", 5)]) (N := n_compacted) (sc := defScope s_compacted) (by decide +kernel)) (di_enU (by rfl) mE (de_var 1 rfl (by nofun) rfl (by walk_at "vis") ⟨_, rfl, ?_⟩))))
    refine ⟨by rw [enD_len, List.length_map]; exact hz, lastP S l, ?_, fun i d q hd hps => ?_, ?_⟩
    · unfold lastP
      rw [enD_len, List.length_map, List.length_map, List.length_zipIdx]
    · obtain ⟨g, hg, rfl⟩ := enD_at hd
      obtain ⟨e, he, rfl⟩ := map_at hg
      obtain rfl : q = (okey (kk S e), (i : Int)) := by
        unfold lastP at hps
        rw [List.getElem?_map, List.getElem?_zipIdx, he, Nat.zero_add] at hps
        exact (Option.some.inj hps).symm
      intro s H C cl fp
      refine dg_tup2 (i := 4) (j := 5) rfl nd rfl rfl (.inl rfl) (.inl rfl) (by decide) (by decide) ?_
      intro s H C cl fp
      have hel := hl e (List.mem_of_getElem? he)
      refine de_ix (fun _ _ => rfl) (de_var 2 rfl (by nofun) rfl (by walk_at "vis") (de_var 5 rfl (by nofun) rfl (by walk_at "vis") ⟨_, _, _, rfl, .tup _, kk_at hS hel, ?_, ?_⟩))
      · rw [okD_okey]
      · exact de_var 4 rfl (by nofun) rfl (by walk_at "vis") ⟨rfl, rfl⟩
    refine ds_cons (d1_ret (de_callTy call_tuple_of (by rfl) mT PyProof.Rows.boot_tuple (da_cons ?_)))
    refine de_lc rfl nd (blkOk_by (own := [("at", 4), ("entry", 5)]) (N := n_compacted) (sc := defScope s_compacted) (by decide +kernel)) (di_enU (by rfl) mE (de_var 1 rfl (by nofun) rfl (by walk_at "vis") ⟨_, rfl, ?_⟩))
    refine ⟨by rw [enD_len, List.length_map]; exact hz, _, ⟨rfl, rfl⟩, lc_filt (fun d => match d with | .tuple [.int i, .int e] => keepAt S l (e.toNat, i.toNat) | _ => false) (fun d => match d with | .tuple [_, e] => e | _ => .none) (fun x d hd => ?_), fun acc ω3 hacc ⟨ew, ea⟩ => .inl ?_⟩
    · obtain ⟨g, hg, rfl⟩ := enD_at hd
      obtain ⟨e, he, rfl⟩ := map_at hg
      have hel := hl e (List.mem_of_getElem? he)
      obtain ⟨j, hj, hjx⟩ := lastP_at (S := S) he
      intro s H C cl fp
      refine dg_tup2 (i := 4) (j := 5) rfl nd rfl rfl (.inl rfl) (.inl rfl) (by decide) (by decide) ⟨?_, fun _ => ?_⟩
      · intro s H C cl fp
        have hkp : keepAt S l (e, x) = (decide (kk S e = none) || decide (j = x)) := by
          unfold keepAt keeps
          rw [hjx]
        refine dt_w (dw_or (dt_cmp op_isN (nomark _) (de_ix (fun _ _ => rfl) (de_var 2 rfl (by nofun) rfl (by walk_at "vis") (de_var 5 rfl (by nofun) rfl (by walk_at "vis") ⟨_, _, _, rfl, .tup _, kk_at hS hel, (de_none (rr_isN ⟨_, rfl, ?_⟩))⟩)))))
        rw [isNon_kD]
        by_cases hn : kk S e = none
        · rw [decide_eq_true hn]
          refine iteT ⟨?_, rfl⟩
          show true = keepAt S l (e, x)
          rw [hkp, decide_eq_true hn]
          rfl
        · rw [decide_eq_false hn]
          refine iteF ?_
          refine dw_or1 (dt_cmp op_eq (nomark _) (de_ndget (fun _ _ => rfl) (de_var 3 rfl (by nofun) rfl (by walk_at "vis") (de_ix (fun _ _ => rfl) (de_var 2 rfl (by nofun) rfl (by walk_at "vis") (de_var 5 rfl (by nofun) rfl (by walk_at "vis") ⟨_, _, _, rfl, .tup _, kk_at hS hel, 0, putsN (lastP S l), okey (kk S e), (j : Int), rfl, rfl, by rw [okD_okey], hj, (de_var 4 rfl (by nofun) rfl (by walk_at "vis") (rr_eqI ⟨_, rfl, ?_, rfl⟩))⟩))))))
          show ((j : Int) == (x : Int)) = keepAt S l (e, x)
          rw [hkp, decide_eq_false hn, Bool.false_or, Bool.eq_iff_iff, beq_iff_eq, decide_eq_true_eq]
          omega
      · intro s H C cl fp
        exact de_var 5 rfl (by nofun) rfl (by walk_at "vis") ⟨rfl, rfl⟩
    · rw [List.take_length] at ea
      subst ew ea
      refine da_nil (ra_tuple (.lst _) ⟨_, rfl, ?_⟩)
      have e : ((enD (l.map nD)).filter fun d => match d with | .tuple [.int i, .int e] => keepAt S l (e.toNat, i.toNat) | _ => false).map (fun d => match d with | .tuple [_, e] => e | _ => .none) = (cmp S l).map nD := by
        unfold enD
        rw [List.zipIdx_map, List.map_map, List.filter_map, List.map_map, ← cmp_all S l, List.map_map]
        rfl
      rw [e]
      exact hq
end
end
section
/-! ### pairs of states, logs between -/
abbrev Pr := Nat × Nat
def stepP (S : Sys) (e : Nat) (p : Pr) : Pr := (step S e p.1, step S e p.2)
def runP (S : Sys) (l : List Nat) (p : Pr) : Pr := l.foldl (fun q e => stepP S e q) p
theorem runP_snoc (S : Sys) (l : List Nat) (e : Nat) (p : Pr) : runP S (l ++ [e]) p = stepP S e (runP S l p) := by
  unfold runP
  rw [List.foldl_append]
  rfl
theorem runP_app (S : Sys) (l m : List Nat) (p : Pr) : runP S (l ++ m) p = runP S m (runP S l p) := by
  unfold runP
  rw [List.foldl_append]
def PrOk (n : Nat) (p : Pr) : Prop := p.1 < n ∧ p.2 < n
theorem stepP_ok {S : Sys} (hS : S.Ok) {e : Nat} (he : e < S.ops.length) {p : Pr} (h : PrOk S.n p) : PrOk S.n (stepP S e p) := ⟨(step_at hS he h.1).1, (step_at hS he h.2).1⟩
/-- the place of a log in order: shorter ones first, then by entries -/
def keyL (c : Nat) (l : List Nat) : Nat := l.foldl (fun a e => a * c + e + 1) 0
theorem keyL_snoc (c : Nat) (l : List Nat) (e : Nat) : keyL c (l ++ [e]) = keyL c l * c + e + 1 := by
  unfold keyL
  rw [List.foldl_append]
  rfl
theorem key_up {c a b e f : Nat} (h : a < b) (he : e < c) : a * c + e + 1 < b * c + f + 1 := by
  have h1 : (a + 1) * c ≤ b * c := Nat.mul_le_mul_right c h
  rw [Nat.add_mul, Nat.one_mul] at h1
  omega
theorem snoc_ind {α : Type} {p : List α → Prop} (h0 : p []) (h1 : ∀ l x, p l → p (l ++ [x])) : ∀ l, p l := by
  intro l
  have : ∀ r : List α, p r.reverse := by
    intro r
    induction r with
    | nil => exact h0
    | cons x r ih =>
      rw [List.reverse_cons]
      exact h1 _ _ ih
  have h := this l.reverse
  rwa [List.reverse_reverse] at h
theorem snoc_cas {α : Type} : ∀ l : List α, l = [] ∨ ∃ m x, l = m ++ [x] := fun l => by
  refine snoc_ind (p := fun l => l = [] ∨ ∃ m x, l = m ++ [x]) (.inl rfl) (fun l x _ => .inr ⟨l, x, rfl⟩) l
theorem key_len {c : Nat} : ∀ (m l : List Nat), (∀ e ∈ l, e < c) → (∀ e ∈ m, e < c) → l.length < m.length → keyL c l < keyL c m := by
  intro m
  refine snoc_ind (p := fun m => ∀ l : List Nat, (∀ e ∈ l, e < c) → (∀ e ∈ m, e < c) → l.length < m.length → keyL c l < keyL c m) ?_ ?_ m
  · intro l _ _ h
    exact absurd h (Nat.not_lt_zero _)
  · intro m e ih l hl hm h
    rw [keyL_snoc]
    rcases snoc_cas l with rfl | ⟨l', f, rfl⟩
    · show 0 < _
      omega
    · rw [keyL_snoc]
      rw [List.length_append, List.length_append] at h
      have h' : l'.length < m.length := by
        have e1 : [f].length = 1 := rfl
        have e2 : [e].length = 1 := rfl
        omega
      exact key_up (ih l' (fun x hx => hl x (List.mem_append_left _ hx)) (fun x hx => hm x (List.mem_append_left _ hx)) h') (hl f (List.mem_append_right _ List.mem_cons_self))
theorem key_inj {c : Nat} : ∀ (l m : List Nat), (∀ e ∈ l, e < c) → (∀ e ∈ m, e < c) → keyL c l = keyL c m → l = m := by
  intro l
  refine snoc_ind (p := fun l => ∀ m : List Nat, (∀ e ∈ l, e < c) → (∀ e ∈ m, e < c) → keyL c l = keyL c m → l = m) ?_ ?_ l
  · intro m _ _ h
    rcases snoc_cas m with rfl | ⟨m', f, rfl⟩
    · rfl
    · rw [keyL_snoc] at h
      have : keyL c [] = 0 := rfl
      omega
  · intro l e ih m hl hm h
    rcases snoc_cas m with rfl | ⟨m', f, rfl⟩
    · rw [keyL_snoc] at h
      have : keyL c [] = 0 := rfl
      omega
    · rw [keyL_snoc, keyL_snoc] at h
      have he := hl e (List.mem_append_right _ List.mem_cons_self)
      have hf := hm f (List.mem_append_right _ List.mem_cons_self)
      have hk : keyL c l = keyL c m' := by
        rcases Nat.lt_trichotomy (keyL c l) (keyL c m') with q | q | q
        · have := key_up (f := f) q he
          omega
        · exact q
        · have := key_up (f := e) q hf
          omega
      rw [hk] at h
      have ef : e = f := by omega
      rw [ih m' (fun x hx => hl x (List.mem_append_left _ hx)) (fun x hx => hm x (List.mem_append_left _ hx)) hk, ef]
def Hits (S : Sys) (ps W : List Pr) (l : List Nat) : Prop := ∃ p ∈ ps, runP S l p ∈ W
def IsFirst (S : Sys) (ps W : List Pr) : Option (List Nat) → Prop
  | none => ∀ m, LogOk S m → ¬ Hits S ps W m
  | some l => LogOk S l ∧ Hits S ps W l ∧ ∀ m, LogOk S m → Hits S ps W m → keyL S.ops.length l ≤ keyL S.ops.length m
theorem isFirst_unique {S : Sys} {ps W : List Pr} : ∀ {r t : Option (List Nat)}, IsFirst S ps W r → IsFirst S ps W t → r = t
  | none, none, _, _ => rfl
  | none, some l, h1, h2 => absurd h2.2.1 (h1 l h2.1)
  | some l, none, h1, h2 => absurd h1.2.1 (h2 l h1.1)
  | some l, some m, h1, h2 => congrArg some (key_inj l m h1.1 h2.1 (Nat.le_antisymm (h1.2.2 m h2.1 h2.2.1) (h2.2.2 l h1.1 h1.2.1)))
theorem isFirst_mem {S : Sys} {ps ps' W W' : List Pr} (hp : ∀ p, p ∈ ps ↔ p ∈ ps') (hw : ∀ p, p ∈ W ↔ p ∈ W') {r : Option (List Nat)} (h : IsFirst S ps W r) : IsFirst S ps' W' r := by
  have hh : ∀ m, Hits S ps W m ↔ Hits S ps' W' m := fun m => ⟨fun ⟨p, h1, h2⟩ => ⟨p, (hp p).mp h1, (hw _).mp h2⟩, fun ⟨p, h1, h2⟩ => ⟨p, (hp p).mpr h1, (hw _).mpr h2⟩⟩
  cases r with
  | none => exact fun m hm q => h m hm ((hh m).mpr q)
  | some l => exact ⟨h.1, (hh l).mp h.2.1, fun m hm q => h.2.2 m hm ((hh m).mpr q)⟩
/-! the walk -/
def nubP (l : List Pr) : List Pr := l.foldl (fun acc p => if p ∈ acc then acc else acc ++ [p]) []
theorem nubP_snoc (l : List Pr) (p : Pr) : nubP (l ++ [p]) = if p ∈ nubP l then nubP l else nubP l ++ [p] := by
  unfold nubP
  rw [List.foldl_append]
  rfl
theorem mem_nubP : ∀ {l : List Pr} {p : Pr}, p ∈ nubP l ↔ p ∈ l := by
  intro l
  refine snoc_ind (p := fun l => ∀ {p : Pr}, p ∈ nubP l ↔ p ∈ l) ?_ ?_ l
  · intro p
    exact Iff.rfl
  · intro l x ih p
    rw [nubP_snoc]
    by_cases h : x ∈ nubP l
    · rw [if_pos h, ih, List.mem_append]
      constructor
      · exact .inl
      · rintro (q | q)
        · exact q
        · rw [List.mem_singleton.mp q]
          exact ih.mp h
    · rw [if_neg h, List.mem_append, List.mem_append, ih]
theorem nodup_nubP : ∀ l : List Pr, (nubP l).Nodup := fun l => by
  refine snoc_ind (p := fun l => (nubP l).Nodup) ?_ ?_ l
  · exact List.nodup_nil
  · intro l x ih
    rw [nubP_snoc]
    by_cases h : x ∈ nubP l
    · rw [if_pos h]
      exact ih
    · rw [if_neg h, List.nodup_append]
      refine ⟨ih, by simp, fun a ha b hb z => ?_⟩
      rw [List.mem_singleton.mp hb] at z
      exact h (z ▸ ha)
theorem lenPr {n : Nat} (hn : n ≤ 6) {l : List Pr} (nd : l.Nodup) (h : ∀ p ∈ l, PrOk n p) : l.length ≤ 36 := by
  have h1 : (l.map fun p => p.1 * 6 + p.2).Nodup := by
    refine List.Pairwise.map _ (R := fun a b => a ∈ l ∧ b ∈ l ∧ a ≠ b) (fun a b ⟨ha, hb, hab⟩ z => hab ?_) ?_
    · have ⟨a1, a2⟩ := h a ha
      have ⟨b1, b2⟩ := h b hb
      have z' : a.1 * 6 + a.2 = b.1 * 6 + b.2 := z
      exact Prod.ext (by omega) (by omega)
    · refine List.Pairwise.imp_of_mem ?_ nd
      exact fun ha hb q => ⟨ha, hb, q⟩
  have h2 := nodup_lt (n := 36) h1 fun x hx => by
    obtain ⟨p, hp, rfl⟩ := List.mem_map.mp hx
    have ⟨a, b⟩ := h p hp
    show p.1 * 6 + p.2 < 36
    omega
  rwa [List.length_map] at h2
abbrev GEnt := List Nat × List Pr
def freshS (S : Sys) (e : Nat) (g seen : List Pr) : List Pr := (nubP (g.map (stepP S e))).filter fun p => !decide (p ∈ seen)
theorem mem_fresh {S : Sys} {e : Nat} {g seen : List Pr} {p : Pr} : p ∈ freshS S e g seen ↔ (∃ q ∈ g, stepP S e q = p) ∧ p ∉ seen := by
  unfold freshS
  rw [List.mem_filter, mem_nubP, List.mem_map, Bool.not_eq_true', decide_eq_false_iff_not]
/-- where the walk stands: a entries done, of the next one the first e operations -/
structure BI (S : Sys) (ps W : List Pr) (a e : Nat) (L : List GEnt) (seen : List Pr) : Prop where
  h0 : L[0]? = some ([], ps)
  snd : ∀ x ∈ L, LogOk S x.1 ∧ ∀ q ∈ x.2, PrOk S.n q ∧ ∃ p ∈ ps, runP S x.1 p = q
  asc : L.Pairwise fun x y : GEnt => keyL S.ops.length x.1 < keyL S.ops.length y.1
  sn : ∀ q, q ∈ seen ↔ ∃ x ∈ L, q ∈ x.2
  nd : seen.Nodup
  dn : ∀ (i : Nat) (x : GEnt), L[i]? = some x → (i < a → ∀ q ∈ x.2, q ∉ W) ∧ ∀ f, (i < a ∨ i = a ∧ f < e) → f < S.ops.length → ∀ q ∈ x.2, ∃ y ∈ L, stepP S f q ∈ y.2 ∧ keyL S.ops.length y.1 ≤ keyL S.ops.length x.1 * S.ops.length + f + 1
  top : ∀ y : GEnt, L[a]? = some y → ∀ x ∈ L, keyL S.ops.length x.1 ≤ keyL S.ops.length y.1 * S.ops.length + e
  cnt : L.length ≤ seen.length + 1
  ln : ∀ (i : Nat) (x : GEnt), L[i]? = some x → x.1.length ≤ i
  gz : ∀ x ∈ L, x.2.length ≤ ps.length + 36
theorem BI.start {S : Sys} (hS : S.Ok) {ps W seen : List Pr} (hp : ∀ p ∈ ps, PrOk S.n p) (hs : seen = nubP ps) : BI S ps W 0 0 [([], ps)] seen := by
  subst hs
  have one : ∀ x ∈ [(([] : List Nat), ps)], x = ([], ps) := fun x hx => List.mem_singleton.mp hx
  refine ⟨rfl, fun x hx => ?_, by simp, fun q => ?_, nodup_nubP _, fun i x hx => ⟨fun h => absurd h (Nat.not_lt_zero _), fun f h => ?_⟩, fun y hy x hx => ?_, by show 1 ≤ _; omega, fun i x hx => ?_, fun x hx => ?_⟩
  · rw [one x hx]
    exact ⟨nofun, fun q hq => ⟨hp q hq, q, hq, rfl⟩⟩
  · rw [mem_nubP]
    exact ⟨fun h => ⟨_, List.mem_cons_self, h⟩, fun ⟨x, hx, h⟩ => by rw [one x hx] at h; exact h⟩
  · omega
  · rw [one x hx]
    show 0 ≤ _
    omega
  · rw [one x (List.mem_of_getElem? hx)]
    exact Nat.zero_le _
  · rw [one x hx]
    exact Nat.le_add_right _ _
theorem BI.lt {S : Sys} {ps W seen : List Pr} {a e : Nat} {L : List GEnt} (h : BI S ps W a e L seen) : ∀ q ∈ seen, PrOk S.n q := fun q hq => by
  obtain ⟨x, hx, hq'⟩ := (h.sn q).mp hq
  exact ((h.snd x hx).2 q hq').1
theorem BI.len {S : Sys} (hS : S.Ok) {ps W seen : List Pr} {a e : Nat} {L : List GEnt} (h : BI S ps W a e L seen) : seen.length ≤ 36 := lenPr hS.n6 h.nd h.lt
theorem get_snoc {α : Type} {L : List α} {z : α} {i : Nat} {x : α} (h : (L ++ [z])[i]? = some x) : L[i]? = some x ∨ i = L.length ∧ x = z := by
  by_cases hi : i < L.length
  · rw [List.getElem?_append_left hi] at h
    exact .inl h
  · have h1 := (List.getElem?_eq_some_iff.mp h).1
    rw [List.length_append] at h1
    have e1 : [z].length = 1 := rfl
    have hi2 : i = L.length := by omega
    subst hi2
    rw [List.getElem?_append_right (Nat.le_refl _), Nat.sub_self] at h
    exact .inr ⟨rfl, (Option.some.inj h).symm⟩
theorem BI.step {S : Sys} (hS : S.Ok) {ps W seen : List Pr} {a e : Nat} {L : List GEnt} (h : BI S ps W a e L seen) {x : GEnt} (hx : L[a]? = some x) (he : e < S.ops.length) :
    BI S ps W a (e + 1) (if freshS S e x.2 seen = [] then L else L ++ [(x.1 ++ [e], freshS S e x.2 seen)]) (seen ++ freshS S e x.2 seen) := by
  have hxm := List.mem_of_getElem? hx
  have ha : a < L.length := (List.getElem?_eq_some_iff.mp hx).1
  obtain ⟨hx1, hx2⟩ := h.snd x hxm
  have nd' : (seen ++ freshS S e x.2 seen).Nodup := by
    rw [List.nodup_append]
    refine ⟨h.nd, List.Pairwise.filter _ (nodup_nubP _), fun p hp q hq z => ?_⟩
    subst z
    exact (mem_fresh.mp hq).2 hp
  by_cases hf : freshS S e x.2 seen = []
  · rw [if_pos hf, hf, List.append_nil]
    refine ⟨h.h0, h.snd, h.asc, h.sn, h.nd, fun i y hy => ⟨(h.dn i y hy).1, fun f hfe hfo q hq => ?_⟩, fun y hy z hz => Nat.le_succ_of_le (h.top y hy z hz), h.cnt, h.ln, h.gz⟩
    by_cases hn : i = a ∧ f = e
    · obtain ⟨rfl, rfl⟩ := hn
      rw [hx] at hy
      cases hy
      have hm : stepP S f q ∈ seen := by
        refine Classical.byContradiction fun hn => ?_
        have : stepP S f q ∈ freshS S f x.2 seen := mem_fresh.mpr ⟨⟨q, hq, rfl⟩, hn⟩
        rw [hf] at this
        cases this
      obtain ⟨y, hy, hq'⟩ := (h.sn _).mp hm
      exact ⟨y, hy, hq', Nat.le_succ_of_le (h.top x hx y hy)⟩
    · exact (h.dn i y hy).2 f (by omega) hfo q hq
  · rw [if_neg hf]
    have hkey : keyL S.ops.length (x.1 ++ [e]) = keyL S.ops.length x.1 * S.ops.length + e + 1 := keyL_snoc _ _ _
    have htop := h.top x hx
    have hga : (L ++ [(x.1 ++ [e], freshS S e x.2 seen)])[a]? = some x := by rw [List.getElem?_append_left ha, hx]
    refine ⟨?_, fun y hy => ?_, ?_, fun q => ?_, nd', fun i y hy => ?_, fun y hy z hz => ?_, ?_, fun i y hy => ?_, fun y hy => ?_⟩
    · rw [List.getElem?_append_left (by omega)]
      exact h.h0
    · rcases List.mem_append.mp hy with hy | hy
      · exact h.snd y hy
      · rw [List.mem_singleton.mp hy]
        refine ⟨snoc_all hx1 he, fun q hq => ?_⟩
        obtain ⟨⟨r, hr, rfl⟩, _⟩ := mem_fresh.mp hq
        obtain ⟨hro, p, hp, hrp⟩ := hx2 r hr
        exact ⟨stepP_ok hS he hro, p, hp, by rw [runP_snoc, hrp]⟩
    · rw [List.pairwise_append]
      refine ⟨h.asc, by simp, fun y hy z hz => ?_⟩
      rw [List.mem_singleton.mp hz]
      show _ < keyL S.ops.length (x.1 ++ [e])
      rw [hkey]
      exact Nat.lt_succ_of_le (htop y hy)
    · rw [List.mem_append, h.sn]
      constructor
      · rintro (⟨y, hy, hq⟩ | hq)
        · exact ⟨y, List.mem_append_left _ hy, hq⟩
        · exact ⟨_, List.mem_append_right _ List.mem_cons_self, hq⟩
      · rintro ⟨y, hy, hq⟩
        rcases List.mem_append.mp hy with hy | hy
        · exact .inl ⟨y, hy, hq⟩
        · rw [List.mem_singleton.mp hy] at hq
          exact .inr hq
    · rcases get_snoc hy with hz | ⟨rfl, rfl⟩
      · refine ⟨(h.dn i y hz).1, fun f hfe hfo q hq => ?_⟩
        by_cases hn : i = a ∧ f = e
        · obtain ⟨rfl, rfl⟩ := hn
          rw [hx] at hz
          cases hz
          by_cases hm : stepP S f q ∈ seen
          · obtain ⟨y, hy, hq'⟩ := (h.sn _).mp hm
            exact ⟨y, List.mem_append_left _ hy, hq', Nat.le_succ_of_le (htop y hy)⟩
          · exact ⟨_, List.mem_append_right _ List.mem_cons_self, mem_fresh.mpr ⟨⟨q, hq, rfl⟩, hm⟩, Nat.le_of_eq hkey⟩
        · obtain ⟨z, hzm, hz1, hz2⟩ := (h.dn i y hz).2 f (by omega) hfo q hq
          exact ⟨z, List.mem_append_left _ hzm, hz1, hz2⟩
      · refine ⟨fun hla => absurd hla (by omega), fun f hfe => absurd hfe (by omega)⟩
    · rw [hga] at hy
      cases hy
      rcases List.mem_append.mp hz with hz | hz
      · exact Nat.le_succ_of_le (htop z hz)
      · rw [List.mem_singleton.mp hz]
        show keyL S.ops.length (x.1 ++ [e]) ≤ _
        rw [hkey]
        exact Nat.le_refl _
    · have h1 := h.cnt
      have h2 : 0 < (freshS S e x.2 seen).length := List.length_pos_iff.mpr hf
      rw [List.length_append, List.length_append]
      show L.length + 1 ≤ _
      omega
    · rcases get_snoc hy with hy | ⟨rfl, rfl⟩
      · exact h.ln i y hy
      · have := h.ln a x hx
        show (x.1 ++ [e]).length ≤ _
        rw [List.length_append]
        show _ + 1 ≤ _
        omega
    · rcases List.mem_append.mp hy with hy | hy
      · exact h.gz y hy
      · rw [List.mem_singleton.mp hy]
        have := lenPr hS.n6 (l := freshS S e x.2 seen) (List.Pairwise.filter _ (nodup_nubP _)) fun q hq => by
          obtain ⟨⟨r, hr, rfl⟩, _⟩ := mem_fresh.mp hq
          exact stepP_ok hS he (hx2 r hr).1
        exact Nat.le_trans this (Nat.le_add_left _ _)
theorem BI.next {S : Sys} {ps W seen : List Pr} {a : Nat} {L : List GEnt} (h : BI S ps W a S.ops.length L seen) {x : GEnt} (hx : L[a]? = some x) (hn : ∀ q ∈ x.2, q ∉ W) : BI S ps W (a + 1) 0 L seen := by
  refine ⟨h.h0, h.snd, h.asc, h.sn, h.nd, fun i y hy => ⟨fun hi => ?_, fun f hf hfo => ?_⟩, fun y hy z hz => ?_, h.cnt, h.ln, h.gz⟩
  · by_cases hia : i = a
    · subst hia
      rw [hx] at hy
      cases hy
      exact hn
    · exact (h.dn i y hy).1 (by omega)
  · exact (h.dn i y hy).2 f (by omega) hfo
  · have h1 := h.top x hx z hz
    have hlt : keyL S.ops.length x.1 < keyL S.ops.length y.1 := by
      obtain ⟨i1, e1⟩ := List.getElem?_eq_some_iff.mp hx
      obtain ⟨i2, e2⟩ := List.getElem?_eq_some_iff.mp hy
      have := List.pairwise_iff_getElem.mp h.asc a (a + 1) i1 i2 (Nat.lt_succ_self a)
      rwa [e1, e2] at this
    have h2 : (keyL S.ops.length x.1 + 1) * S.ops.length ≤ keyL S.ops.length y.1 * S.ops.length := Nat.mul_le_mul_right _ hlt
    rw [Nat.add_mul, Nat.one_mul] at h2
    omega
/-- what the walk has told so far -/
theorem BI.reach {S : Sys} {ps W seen : List Pr} {a : Nat} {L : List GEnt} (h : BI S ps W a 0 L seen) {k : Nat} (hk : ∀ i x, L[i]? = some x → a ≤ i → k ≤ keyL S.ops.length x.1) {p : Pr} (hp : p ∈ ps) :
    ∀ m, LogOk S m → k ≤ keyL S.ops.length m ∨ ∃ x ∈ L, runP S m p ∈ x.2 ∧ keyL S.ops.length x.1 ≤ keyL S.ops.length m := by
  intro m
  refine snoc_ind (p := fun m => LogOk S m → k ≤ keyL S.ops.length m ∨ ∃ x ∈ L, runP S m p ∈ x.2 ∧ keyL S.ops.length x.1 ≤ keyL S.ops.length m) ?_ ?_ m
  · intro _
    exact .inr ⟨_, List.mem_of_getElem? h.h0, hp, Nat.le_refl _⟩
  · intro m e ih hm
    have he : e < S.ops.length := hm e (List.mem_append_right _ List.mem_cons_self)
    have key := keyL_snoc S.ops.length m e
    have mono : keyL S.ops.length m ≤ keyL S.ops.length m * S.ops.length := Nat.le_mul_of_pos_right _ (by omega)
    rcases ih (fun x hx => hm x (List.mem_append_left _ hx)) with q | ⟨x, hx, hr, hkx⟩
    · refine .inl ?_
      omega
    · obtain ⟨i, hi, e1⟩ := List.mem_iff_getElem.mp hx
      have hix : L[i]? = some x := by rw [List.getElem?_eq_getElem hi, e1]
      by_cases hia : i < a
      · obtain ⟨y, hy, hs, hky⟩ := (h.dn i x hix).2 e (.inl hia) he _ hr
        have hmul : keyL S.ops.length x.1 * S.ops.length ≤ keyL S.ops.length m * S.ops.length := Nat.mul_le_mul_right _ hkx
        exact .inr ⟨y, hy, by rw [runP_snoc]; exact hs, by omega⟩
      · have := hk i x hix (by omega)
        refine .inl ?_
        omega
theorem BI.hit {S : Sys} {ps W seen : List Pr} {a : Nat} {L : List GEnt} (h : BI S ps W a 0 L seen) {x : GEnt} (hx : L[a]? = some x) {q : Pr} (hq : q ∈ x.2) (hw : q ∈ W) : IsFirst S ps W (some x.1) := by
  have hxm := List.mem_of_getElem? hx
  obtain ⟨h1, h2⟩ := h.snd x hxm
  obtain ⟨_, p, hp, hrp⟩ := h2 q hq
  have later : ∀ i y, L[i]? = some y → a ≤ i → keyL S.ops.length x.1 ≤ keyL S.ops.length y.1 := fun i y hy hi => by
    by_cases hia : i = a
    · subst hia
      rw [hx] at hy
      cases hy
      exact Nat.le_refl _
    · obtain ⟨i1, e1⟩ := List.getElem?_eq_some_iff.mp hx
      obtain ⟨i2, e2⟩ := List.getElem?_eq_some_iff.mp hy
      have := List.pairwise_iff_getElem.mp h.asc a i i1 i2 (by omega)
      rw [e1, e2] at this
      exact Nat.le_of_lt this
  refine ⟨h1, ⟨p, hp, by rw [hrp]; exact hw⟩, fun m hm ⟨p', hp', hmw⟩ => ?_⟩
  rcases h.reach later hp' m hm with r | ⟨y, hy, hr, hky⟩
  · exact r
  · obtain ⟨i, hi, e1⟩ := List.mem_iff_getElem.mp hy
    have hiy : L[i]? = some y := by rw [List.getElem?_eq_getElem hi, e1]
    by_cases hia : i < a
    · exact absurd hmw ((h.dn i y hiy).1 hia _ hr)
    · exact Nat.le_trans (later i y hiy (by omega)) hky
theorem BI.none {S : Sys} {ps W seen : List Pr} {a : Nat} {L : List GEnt} (h : BI S ps W a 0 L seen) (hl : L.length ≤ a) : IsFirst S ps W none := by
  rintro m hm ⟨p, hp, hw⟩
  have no : ∀ k i (x : GEnt), L[i]? = some x → a ≤ i → k ≤ keyL S.ops.length x.1 := fun k i x hx hi => by
    have := (List.getElem?_eq_some_iff.mp hx).1
    omega
  rcases h.reach (no (keyL S.ops.length m + 1)) hp m hm with r | ⟨y, hy, hr, _⟩
  · omega
  · obtain ⟨i, hi, e1⟩ := List.mem_iff_getElem.mp hy
    have hiy : L[i]? = some y := by rw [List.getElem?_eq_getElem hi, e1]
    exact (h.dn i y hiy).1 (by omega) _ hr hw
end
section
/-! ### how far a pair is from an end -/
def Dst (S : Sys) (W : List Pr) (k : Nat) (p : Pr) : Prop := (∃ m, LogOk S m ∧ m.length = k ∧ runP S m p ∈ W) ∧ ∀ m, LogOk S m → runP S m p ∈ W → k ≤ m.length
theorem dst_least {S : Sys} {W : List Pr} {p : Pr} : ∀ (n : Nat) (m : List Nat), m.length ≤ n → LogOk S m → runP S m p ∈ W → ∃ k, k ≤ m.length ∧ Dst S W k p := by
  intro n
  induction n with
  | zero =>
    intro m hz hm hw
    exact ⟨m.length, Nat.le_refl _, ⟨m, hm, rfl, hw⟩, fun _ _ _ => by omega⟩
  | succ n ih =>
    intro m hz hm hw
    by_cases h : ∃ m', LogOk S m' ∧ runP S m' p ∈ W ∧ m'.length < m.length
    · obtain ⟨m', h1, h2, h3⟩ := h
      obtain ⟨k, hk, hd⟩ := ih m' (by omega) h1 h2
      exact ⟨k, by omega, hd⟩
    · refine ⟨m.length, Nat.le_refl _, ⟨m, hm, rfl, hw⟩, fun m' h1 h2 => ?_⟩
      refine Classical.byContradiction fun hn => h ⟨m', h1, h2, by omega⟩
theorem dst_uniq {S : Sys} {W : List Pr} {p : Pr} {a b : Nat} (h : Dst S W a p) (g : Dst S W b p) : a = b := by
  obtain ⟨⟨m, m1, m2, m3⟩, hm⟩ := h
  obtain ⟨⟨n, n1, n2, n3⟩, hn⟩ := g
  have := hm n n1 n3
  have := hn m m1 m3
  omega
theorem logOk_cons {S : Sys} {e : Nat} {m : List Nat} (he : e < S.ops.length) (hm : LogOk S m) : LogOk S (e :: m) := fun x hx => by
  rcases List.mem_cons.mp hx with rfl | hx
  · exact he
  · exact hm x hx
theorem dst_pred {S : Sys} {W : List Pr} {p : Pr} {k : Nat} (h : Dst S W (k + 1) p) : ∃ e, e < S.ops.length ∧ Dst S W k (stepP S e p) := by
  obtain ⟨⟨m, h1, h2, h3⟩, hmin⟩ := h
  cases m with
  | nil => cases h2
  | cons e m =>
    have he := h1 e List.mem_cons_self
    refine ⟨e, he, ⟨m, fun x hx => h1 x (List.mem_cons_of_mem _ hx), Nat.succ.inj h2, h3⟩, fun n hn hw => ?_⟩
    have := hmin (e :: n) (logOk_cons he hn) hw
    exact Nat.le_of_succ_le_succ this
theorem dst_succ {S : Sys} {W : List Pr} {p : Pr} {k e : Nat} (he : e < S.ops.length) (h : Dst S W k (stepP S e p)) (hno : ∀ j, j ≤ k → ¬ Dst S W j p) : Dst S W (k + 1) p := by
  obtain ⟨⟨m, h1, h2, h3⟩, hmin⟩ := h
  refine ⟨⟨e :: m, logOk_cons he h1, by rw [List.length_cons, h2], h3⟩, fun n hn hw => ?_⟩
  obtain ⟨j, hj, hd⟩ := dst_least n.length n (Nat.le_refl _) hn hw
  refine Classical.byContradiction fun hc => hno j (by omega) hd
abbrev Far := List (Pr × Nat)
def getF (F : Far) (p : Pr) : Option Nat := (F.find? fun x => decide (x.1 = p)).map (·.2)
theorem getF_snoc {F : Far} {p q : Pr} {k : Nat} (h : getF F p = none) : getF (F ++ [(p, k)]) q = if p = q then some k else getF F q := by
  unfold getF at h ⊢
  rw [List.find?_append]
  have h1 : F.find? (fun x => decide (x.1 = p)) = none := Option.map_eq_none_iff.mp h
  by_cases e : p = q
  · subst e
    rw [if_pos rfl, h1]
    simp
  · rw [if_neg e]
    cases hf : F.find? (fun x => decide (x.1 = q)) with
    | some x => rfl
    | none => simp [e]
/-- lap i, the pairs of `done` already looked at -/
structure FarAt (S : Sys) (W : List Pr) (i : Nat) (done : List Pr) (F : Far) : Prop where
  all : ∀ p k, PrOk S.n p → (getF F p = some k ↔ Dst S W k p ∧ (k ≤ i ∨ k = i + 1 ∧ p ∈ done))
  ok : ∀ x ∈ F, PrOk S.n x.1
  nd : (F.map (·.1)).Nodup
theorem FarAt.len {S : Sys} (hS : S.Ok) {W done : List Pr} {i : Nat} {F : Far} (h : FarAt S W i done F) : F.length ≤ 36 := by
  have := lenPr hS.n6 h.nd fun p hp => by
    obtain ⟨x, hx, rfl⟩ := List.mem_map.mp hp
    exact h.ok x hx
  rwa [List.length_map] at this
theorem getF_none {F : Far} {p : Pr} : getF F p = none ↔ p ∉ F.map (·.1) := by
  unfold getF
  rw [Option.map_eq_none_iff, List.find?_eq_none]
  constructor
  · intro h hm
    obtain ⟨x, hx, e⟩ := List.mem_map.mp hm
    exact h x hx (decide_eq_true e)
  · intro h x hx hd
    exact h (List.mem_map.mpr ⟨x, hx, of_decide_eq_true hd⟩)
def growsAt (S : Sys) (i : Nat) (p : Pr) (F : Far) : Bool := (getF F p).isNone && (List.range S.ops.length).any fun e => decide (getF F (stepP S e p) = some i)
theorem FarAt.step {S : Sys} (hS : S.Ok) {W done : List Pr} {i : Nat} {F : Far} (h : FarAt S W i done F) {p : Pr} (hp : PrOk S.n p) : FarAt S W i (done ++ [p]) (if growsAt S i p F = true then F ++ [(p, i + 1)] else F) := by
  by_cases hg : growsAt S i p F = true
  · rw [if_pos hg]
    unfold growsAt at hg
    rw [Bool.and_eq_true, List.any_eq_true, Option.isNone_iff_eq_none] at hg
    obtain ⟨hn, e, he, hd⟩ := hg
    have he' := List.mem_range.mp he
    have hdi := ((h.all _ i (stepP_ok hS he' hp)).mp (of_decide_eq_true hd)).1
    have hno : ∀ j, j ≤ i → ¬ Dst S W j p := fun j hj q => by
      have := (h.all p j hp).mpr ⟨q, .inl hj⟩
      rw [hn] at this
      cases this
    have hD := dst_succ he' hdi hno
    refine ⟨fun q k hq => ?_, fun x hx => ?_, ?_⟩
    · rw [getF_snoc hn]
      by_cases epq : p = q
      · subst epq
        rw [if_pos rfl]
        constructor
        · intro z
          cases z
          exact ⟨hD, .inr ⟨rfl, List.mem_append_right _ List.mem_cons_self⟩⟩
        · rintro ⟨z, _⟩
          rw [dst_uniq hD z]
      · rw [if_neg epq, h.all q k hq, List.mem_append, List.mem_singleton]
        constructor
        · rintro ⟨a, b | ⟨b, c⟩⟩
          · exact ⟨a, .inl b⟩
          · exact ⟨a, .inr ⟨b, .inl c⟩⟩
        · rintro ⟨a, b | ⟨b, c | c⟩⟩
          · exact ⟨a, .inl b⟩
          · exact ⟨a, .inr ⟨b, c⟩⟩
          · exact absurd c.symm epq
    · rcases List.mem_append.mp hx with hx | hx
      · exact h.ok x hx
      · rw [List.mem_singleton.mp hx]
        exact hp
    · rw [List.map_append, List.nodup_append]
      refine ⟨h.nd, by simp, fun a ha b hb z => ?_⟩
      have hb' : b = p := List.mem_singleton.mp hb
      subst z hb'
      exact getF_none.mp hn ha
  · rw [if_neg hg]
    refine ⟨fun q k hq => ?_, h.ok, h.nd⟩
    rw [h.all q k hq, List.mem_append, List.mem_singleton]
    constructor
    · rintro ⟨a, b | ⟨b, c⟩⟩
      · exact ⟨a, .inl b⟩
      · exact ⟨a, .inr ⟨b, .inl c⟩⟩
    · rintro ⟨a, b | ⟨b, c | c⟩⟩
      · exact ⟨a, .inl b⟩
      · exact ⟨a, .inr ⟨b, c⟩⟩
      · subst b c
        refine ⟨a, ?_⟩
        cases hv : getF F q with
        | some j =>
          have hj := (h.all q j hq).mp hv
          have e := dst_uniq a hj.1
          rcases hj.2 with z | ⟨_, z⟩
          · exact .inl (by omega)
          · exact .inr ⟨rfl, z⟩
        | none =>
          obtain ⟨e, he, hd⟩ := dst_pred a
          have hv2 := (h.all _ i (stepP_ok hS he hq)).mpr ⟨hd, .inl (Nat.le_refl _)⟩
          refine absurd ?_ hg
          unfold growsAt
          rw [Bool.and_eq_true, List.any_eq_true, hv]
          exact ⟨rfl, e, List.mem_range.mpr he, decide_eq_true hv2⟩
theorem FarAt.lap {S : Sys} {W done : List Pr} {i : Nat} {F : Far} (h : FarAt S W i done F) (hd : ∀ p, PrOk S.n p → p ∈ done) : FarAt S W (i + 1) [] F := by
  refine ⟨fun p k hp => ?_, h.ok, h.nd⟩
  rw [h.all p k hp]
  constructor
  · rintro ⟨a, b | ⟨b, _⟩⟩
    · exact ⟨a, .inl (by omega)⟩
    · exact ⟨a, .inl (by omega)⟩
  · rintro ⟨a, b | ⟨_, c⟩⟩
    · by_cases hk : k ≤ i
      · exact ⟨a, .inl hk⟩
      · exact ⟨a, .inr ⟨by omega, hd p hp⟩⟩
    · cases c
def FarAll (S : Sys) (W : List Pr) (F : Far) : Prop := ∀ p k, PrOk S.n p → (getF F p = some k ↔ Dst S W k p)
theorem far_all {S : Sys} (hS : S.Ok) {W : List Pr} {i : Nat} {F : Far} (h : FarAt S W i [] F) (h' : FarAt S W (i + 1) [] F) : FarAll S W F := by
  have no1 : ∀ p, PrOk S.n p → ¬ Dst S W (i + 1) p := fun p hp q => by
    have := (h.all p (i + 1) hp).mp ((h'.all p (i + 1) hp).mpr ⟨q, .inl (Nat.le_refl _)⟩)
    rcases this.2 with z | ⟨_, z⟩
    · omega
    · cases z
  have no : ∀ j p, PrOk S.n p → ¬ Dst S W (i + 1 + j) p := by
    intro j
    induction j with
    | zero => exact no1
    | succ j ih =>
      intro p hp q
      obtain ⟨e, he, hd⟩ := dst_pred (k := i + 1 + j) q
      exact ih _ (stepP_ok hS he hp) hd
  intro p k hp
  rw [h.all p k hp]
  constructor
  · exact fun z => z.1
  · intro z
    by_cases hk : k ≤ i
    · exact ⟨z, .inl hk⟩
    · refine absurd z ?_
      have := no (k - (i + 1)) p hp
      rwa [show i + 1 + (k - (i + 1)) = k by omega] at this
/-! the way back -/
structure WAt (S : Sys) (ps W : List Pr) (K : Nat) (l : List Nat) (left : Nat) (now : List Pr) : Prop where
  lo : LogOk S l
  ln : l.length + left = K
  mn : ∀ m, LogOk S m → Hits S ps W m → K ≤ m.length
  me : ∀ q, q ∈ now ↔ (∃ p ∈ ps, runP S l p = q) ∧ Dst S W left q
  ne : now ≠ []
  le : ∀ m, LogOk S m → Hits S ps W m → m.length = K → keyL S.ops.length l < keyL S.ops.length (m.take l.length) ∨ l = m.take l.length
theorem WAt.fin {S : Sys} {ps W : List Pr} {K : Nat} {l : List Nat} {now : List Pr} (h : WAt S ps W K l 0 now) : IsFirst S ps W (some l) := by
  refine ⟨h.lo, ?_, fun m hm hh => ?_⟩
  · obtain ⟨q, r, e⟩ := List.exists_cons_of_ne_nil h.ne
    have hq : q ∈ now := by rw [e]; exact List.mem_cons_self
    obtain ⟨⟨p, hp, hr⟩, ⟨⟨m, _, m2, m3⟩, _⟩⟩ := (h.me q).mp hq
    have em : m = [] := List.length_eq_zero_iff.mp m2
    subst em
    exact ⟨p, hp, by rw [hr]; exact m3⟩
  · have h1 := h.mn m hm hh
    have h2 := h.ln
    by_cases hk : m.length = K
    · have e : m.take l.length = m := List.take_of_length_le (by omega)
      rcases h.le m hm hh hk with z | z
      · rw [e] at z
        exact Nat.le_of_lt z
      · rw [e] at z
        rw [z]
        exact Nat.le_refl _
    · exact Nat.le_of_lt (key_len m l h.lo hm (by omega))
theorem dst_on {S : Sys} {ps W : List Pr} {K : Nat} {l : List Nat} {left : Nat} (lo : LogOk S l) (ln : l.length + left = K) (mn : ∀ m, LogOk S m → Hits S ps W m → K ≤ m.length) {p : Pr} (hp : p ∈ ps) {m : List Nat} (hm : LogOk S m) (hz : m.length = left) (hw : runP S m (runP S l p) ∈ W) : Dst S W left (runP S l p) := by
  refine ⟨⟨m, hm, hz, hw⟩, fun n hn hw => ?_⟩
  have := mn (l ++ n) (fun x hx => (List.mem_append.mp hx).elim (lo x) (hn x)) ⟨p, hp, by rw [runP_app]; exact hw⟩
  rw [List.length_append] at this
  omega
theorem take_snoc {l m : List Nat} {k : Nat} (h : l.length < m.length) : ∃ f, m[l.length]? = some f ∧ m.take (l ++ [k]).length = m.take l.length ++ [f] := by
  refine ⟨m[l.length], List.getElem?_eq_getElem h, ?_⟩
  rw [List.length_append]
  show m.take (l.length + 1) = _
  rw [List.take_add_one, List.getElem?_eq_getElem h]
  rfl
theorem WAt.some {S : Sys} {ps W : List Pr} {K : Nat} {l : List Nat} {left : Nat} {now : List Pr} (h : WAt S ps W K l (left + 1) now) : ∃ e, e < S.ops.length ∧ ∃ q ∈ now, Dst S W left (stepP S e q) := by
  obtain ⟨q, r, e⟩ := List.exists_cons_of_ne_nil h.ne
  have hq : q ∈ now := by rw [e]; exact List.mem_cons_self
  obtain ⟨e, he, hd⟩ := dst_pred ((h.me q).mp hq).2
  exact ⟨e, he, q, hq, hd⟩
theorem WAt.step {S : Sys} {ps W : List Pr} {K : Nat} {l : List Nat} {left : Nat} {now now' : List Pr} (h : WAt S ps W K l (left + 1) now) {e : Nat} (he : e < S.ops.length) (hne : now' ≠ []) (hno : ∀ f, f < e → ∀ q ∈ now, ¬ Dst S W left (stepP S f q)) (hn : ∀ q, q ∈ now' ↔ (∃ r ∈ now, stepP S e r = q) ∧ Dst S W left q) : WAt S ps W K (l ++ [e]) left now' := by
  have hln := h.ln
  refine ⟨snoc_all h.lo he, by rw [List.length_append]; show _ + 1 + _ = _; omega, h.mn, fun q => ?_, hne, fun m hm hh hK => ?_⟩
  · rw [hn q]
    constructor
    · rintro ⟨⟨r, hr, rfl⟩, hd⟩
      obtain ⟨⟨p, hp, e1⟩, _⟩ := (h.me r).mp hr
      exact ⟨⟨p, hp, by rw [runP_snoc, e1]⟩, hd⟩
    · rintro ⟨⟨p, hp, rfl⟩, hd⟩
      refine ⟨⟨runP S l p, (h.me _).mpr ⟨⟨p, hp, rfl⟩, ?_⟩, (runP_snoc _ _ _ _).symm⟩, hd⟩
      obtain ⟨⟨m, m1, m2, m3⟩, _⟩ := hd
      rw [runP_snoc] at m3
      exact dst_on h.lo hln h.mn hp (m := e :: m) (logOk_cons he m1) (by rw [List.length_cons, m2]) m3
  · have hl : l.length < m.length := by omega
    obtain ⟨f, hf, et⟩ := take_snoc (k := e) hl
    have hfo : f < S.ops.length := hm f (List.mem_of_getElem? hf)
    rw [et, keyL_snoc, keyL_snoc]
    rcases h.le m hm hh hK with z | z
    · exact .inl (key_up z he)
    · obtain ⟨p, hp, hw⟩ := hh
      have em : m = l ++ (f :: m.drop (l.length + 1)) := by
        have h1 : m = m.take l.length ++ m.drop l.length := (List.take_append_drop _ _).symm
        have h2 : m.drop l.length = f :: m.drop (l.length + 1) := by
          obtain ⟨i, e1⟩ := List.getElem?_eq_some_iff.mp hf
          rw [List.drop_eq_getElem_cons i, e1]
        rw [← h2, ← z] at *
        rw [z]
        exact h1
      have hrest : LogOk S (m.drop (l.length + 1)) := fun x hx => hm x (List.mem_of_mem_drop hx)
      have hzr : (m.drop (l.length + 1)).length = left := by
        rw [List.length_drop]
        omega
      have hwr : runP S (m.drop (l.length + 1)) (stepP S f (runP S l p)) ∈ W := by
        rw [em, runP_app] at hw
        exact hw
      have hin : runP S l p ∈ now := (h.me _).mpr ⟨⟨p, hp, rfl⟩, dst_on h.lo hln h.mn hp (m := f :: m.drop (l.length + 1)) (logOk_cons hfo hrest) (by rw [List.length_cons, hzr]) hwr⟩
      have hd : Dst S W left (stepP S f (runP S l p)) := by
        have := dst_on (l := l ++ [f]) (left := left) (snoc_all h.lo hfo) (by rw [List.length_append]; show _ + 1 + _ = _; omega) h.mn hp (m := m.drop (l.length + 1)) hrest hzr (by rw [runP_snoc]; exact hwr)
        rwa [runP_snoc] at this
      have hef : ¬ f < e := fun q => hno f q _ hin hd
      rw [← z]
      by_cases q : e = f
      · exact .inr (by rw [q])
      · exact .inl (by omega)
theorem WAt.start {S : Sys} {ps W : List Pr} {K : Nat} {now : List Pr} (hK : ∃ p ∈ ps, Dst S W K p) (hmin : ∀ p ∈ ps, ∀ k, Dst S W k p → K ≤ k) (hn : ∀ q, q ∈ now ↔ q ∈ ps ∧ Dst S W K q) : WAt S ps W K [] K now := by
  refine ⟨nofun, by show 0 + _ = _; omega, fun m hm ⟨p, hp, hw⟩ => ?_, fun q => ?_, fun z => ?_, fun m _ _ _ => .inr rfl⟩
  · obtain ⟨k, hk, hd⟩ := dst_least m.length m (Nat.le_refl _) hm hw
    exact Nat.le_trans (hmin p hp k hd) hk
  · rw [hn q]
    constructor
    · exact fun ⟨a, b⟩ => ⟨⟨q, a, rfl⟩, b⟩
    · rintro ⟨⟨p, hp, rfl⟩, b⟩
      exact ⟨hp, b⟩
  · obtain ⟨p, hp, hd⟩ := hK
    have := (hn p).mpr ⟨hp, hd⟩
    rw [z] at this
    cases this
theorem no_first {S : Sys} {ps W : List Pr} (h : ∀ p ∈ ps, ∀ k, ¬ Dst S W k p) : IsFirst S ps W none := by
  rintro m hm ⟨p, hp, hw⟩
  obtain ⟨k, _, hd⟩ := dst_least m.length m (Nat.le_refl _) hm hw
  exact h p hp k hd
end
section
/-! ### logs between, the program's -/
def pD (p : Pr) : D := .tuple [nD p.1, nD p.2]
def pK (p : Pr) : List Key := [.inl (p.1 : Int), .inl (p.2 : Int)]
theorem tk_pK (p : Pr) : tkD (pK p) = pD p := rfl
theorem pK_inj {p q : Pr} : pK p = pK q ↔ p = q := by
  constructor
  · intro h
    unfold pK at h
    injection h with h1 h2
    injection h2 with h2 _
    injection h1 with h1
    injection h2 with h2
    exact Prod.ext (by omega) (by omega)
  · rintro rfl
    rfl
def seenD (l : List Pr) : List (List Key × D) := l.map fun p => (pK p, PyData.bool true)
theorem getT_map {α : Type} (key : α → Pr) (val : α → D) (p : Pr) : ∀ L : List α, getT (L.map fun x => (pK (key x), val x)) (pK p) = (L.find? fun x => decide (key x = p)).map val
  | [] => rfl
  | x :: r => by
    have ih := getT_map key val p r
    unfold getT at ih ⊢
    rw [List.map_cons, List.find?_cons, List.find?_cons]
    by_cases h : key x = p
    · rw [decide_eq_true h, decide_eq_true (pK_inj.mpr h)]
      rfl
    · rw [decide_eq_false h, decide_eq_false (fun z => h (pK_inj.mp z))]
      exact ih
theorem seen_get (l : List Pr) (p : Pr) : (getT (seenD l) (pK p)).isSome = decide (p ∈ l) := by
  unfold seenD
  rw [getT_map (fun p : Pr => p) (fun _ => PyData.bool true) p l]
  rw [Bool.eq_iff_iff, Option.isSome_map, List.find?_isSome, decide_eq_true_iff]
  constructor
  · rintro ⟨x, hx, h⟩
    rw [← of_decide_eq_true h]
    exact hx
  · exact fun h => ⟨p, h, decide_eq_true rfl⟩
theorem setT_seen (l : List Pr) (p : Pr) : setT (seenD l) (pK p) (.bool true) = seenD (if p ∈ l then l else l ++ [p]) := by
  unfold setT
  rw [seen_get]
  by_cases h : p ∈ l
  · rw [decide_eq_true h, if_pos h, if_pos rfl]
    unfold seenD
    rw [List.map_map]
    refine List.map_congr_left fun q _ => ?_
    show (if pK q = pK p then _ else _) = _
    split
    · rfl
    · rfl
  · rw [decide_eq_false h, if_neg h, if_neg (by decide)]
    unfold seenD
    rw [List.map_append]
    rfl
theorem setsT_seen (l : List Pr) : setsT (l.map fun p => (pK p, PyData.bool true)) = seenD (nubP l) := by
  refine snoc_ind (p := fun l => setsT (l.map fun p => (pK p, PyData.bool true)) = seenD (nubP l)) rfl (fun l p ih => ?_) l
  rw [List.map_append]
  show setsT (_ ++ [_]) = _
  rw [setsT_snoc, ih, nubP_snoc]
  exact setT_seen _ _
theorem seenD_len (l : List Pr) : (seenD l).length = l.length := List.length_map _
theorem nub_len (l : List Pr) : (nubP l).length ≤ l.length := by
  have h := setsT_len (l.map fun p => (pK p, PyData.bool true))
  rw [setsT_seen, seenD_len, List.length_map] at h
  exact h
def prOf : D → Pr
  | .tuple [.int a, .int b] => (a.toNat, b.toNat)
  | _ => (0, 0)
theorem prOf_pD (p : Pr) : prOf (pD p) = p := rfl
theorem filt_pD (g : Pr → Bool) (l : List Pr) : ((l.map pD).filter fun d => g (prOf d)).map (fun d => d) = (l.filter g).map pD := by
  rw [List.map_id', List.filter_map]
  rfl
def φ_check_op : List D → (D → Prop) → Prop := fun ds P => ∃ S e, ds = [sysD S, nD e] ∧ e < S.ops.length ∧ P .none
def φ_fresh (P : Program) (w : World) : List D → Cell → (D → Prop) → Prop := fun ds c Pp => ∃ (S : Sys) (e : Nat) (op : List Nat) (g seen : List Pr) (ob : Obj), S.Ok ∧ e < S.ops.length ∧ S.ops[e]? = some op ∧ (∀ q ∈ g, PrOk S.n q) ∧ g.length ≤ 1000 ∧ ds = [opD op, .list (g.map pD)] ∧ c = .tdc (tdP P w ob) (seenD seen) ∧ Pp (.list ((freshS S e g seen).map pD))
theorem op_pair {S : Sys} (hS : S.Ok) {e : Nat} (he : e < S.ops.length) {op : List Nat} (ho : S.ops[e]? = some op) {p : Pr} (hp : PrOk S.n p) : atI (op.map nD) (p.1 : Int) = some (nD (stepP S e p).1) ∧ atI (op.map nD) (p.2 : Int) = some (nD (stepP S e p).2) := by
  obtain ⟨_, o1, g1, g2⟩ := step_at hS he hp.1
  obtain ⟨_, o2, h1, h2⟩ := step_at hS he hp.2
  rw [ho] at g1 h1
  cases g1
  cases h1
  exact ⟨atI_nat (by rw [List.getElem?_map, g2]; rfl), atI_nat (by rw [List.getElem?_map, h2]; rfl)⟩
section
variable {P : Program} {w : World} {K : Fg} {mg : Str → Option Value} {base : Heap} {f : Addr} {fd : FuncData} {k : Nat}
theorem ok_fresh_pairs (F : Fun K "fresh_pairs" "fresh_pairs" s_fresh_pairs f fd) : FnOk P w K mg base CX0 1 f fd ["operation", "pairs", "seen"] (spC K (φ_fresh P w)) := by
  refine ok_C F sc_fresh_pairs (fun ds c Q h => ?_) fun ds c Q h cdv A outer s H E hr => ?_
  · obtain ⟨S, e, op, g, seen, ob, _, _, _, _, _, rfl, _⟩ := h
    rfl
  · obtain ⟨S, e, op, g, seen, ob, hS, he, ho, hg, hz, rfl, rfl, hq⟩ := h
    have nd := sc_fresh_pairs.nd
    have hu := hu_of hr
    refine ds_cons (d1_asgDcT (i := 3) hu rfl nd rfl rfl (sw_dct rfl rfl rfl (by decide +kernel)) (blkOk_by (own := [("one", 4), ("other", 5)]) (N := n_fresh_pairs) (sc := defScope s_fresh_pairs) (by decide +kernel)) (di_lst (de_var 1 rfl (by nofun) rfl (by walk_at "vis") ⟨_, rfl, ?_⟩)))
    refine ⟨by rw [List.length_map]; omega, (g.map (stepP S e)).map fun p => (pK p, PyData.bool true), by rw [List.length_map, List.length_map, List.length_map], fun i d q hd hq s H C cl fp => ?_, fun ob2 => ?_⟩
    · obtain ⟨p, hp, rfl⟩ := map_at hd
      rw [List.getElem?_map, List.getElem?_map, hp] at hq
      obtain rfl := (Option.some.inj hq).symm
      have hpo := hg p (List.mem_of_getElem? hp)
      obtain ⟨h1, h2⟩ := op_pair hS he ho hpo
      refine dg_tup2 (i := 4) (j := 5) rfl nd rfl rfl (.inl rfl) (.inl rfl) (by decide) (by decide) ?_
      intro s H C cl fp
      refine de_tup (da_cons (de_ix (fun _ _ => rfl) (de_var 0 rfl (by nofun) rfl (by walk_at "vis") (de_var 4 rfl (by nofun) rfl (by walk_at "vis") ⟨_, _, _, rfl, .tup _, h1, ?_⟩))))
      refine da_cons (de_ix (fun _ _ => rfl) (de_var 0 rfl (by nofun) rfl (by walk_at "vis") (de_var 5 rfl (by nofun) rfl (by walk_at "vis") ⟨_, _, _, rfl, .tup _, h2, ?_⟩)))
      exact da_nil ⟨[_, _], rfl, by walk_at "sz", rfl, de_bool ⟨rfl, rfl⟩⟩
    · rw [setsT_seen]
      refine ds_cons (d1_ret (de_lc rfl nd (blkOk_by (own := [("pair", 6)]) (N := n_fresh_pairs) (sc := defScope s_fresh_pairs) (by decide +kernel)) (di_td (de_var 3 rfl (by nofun) rfl (by walk_at "vis") ⟨1, ob2, _, rfl, rfl, ?_⟩))))
      have em : (seenD (nubP (g.map (stepP S e)))).map (fun q => tkD q.1) = (nubP (g.map (stepP S e))).map pD := by
        unfold seenD
        rw [List.map_map]
        rfl
      rw [em]
      have hnl := nub_len (g.map (stepP S e))
      rw [List.length_map] at hnl
      refine ⟨by rw [List.length_map]; omega, _, ⟨rfl, rfl⟩, lc_filt (fun d => !decide (prOf d ∈ seen)) (fun d => d) (fun x d hd => ?_), fun acc ω3 hacc ⟨ew, ea⟩ => .inl ?_⟩
      · intro s H C cl fp
        obtain ⟨p, hp, rfl⟩ := map_at hd
        refine dg_name (i := 6) nd rfl (.inl rfl) (by decide) ⟨?_, fun _ => ?_⟩
        · intro s H C cl fp
          refine dt_tdnotin hu (de_var 6 rfl (by nofun) rfl (by walk_at "vis") (de_var 2 rfl (by nofun) rfl (by walk_at "vis") ⟨0, ob, _, pK p, rfl, rfl, rfl, ?_, rfl⟩))
          rw [seen_get]
          rfl
        · intro s H C cl fp
          exact de_var 6 rfl (by nofun) rfl (by walk_at "vis") ⟨rfl, rfl⟩
      · rw [List.take_length] at ea
        subst ew ea
        refine ⟨_, rfl, rfl, ?_⟩
        rw [filt_pD (fun p => !decide (p ∈ seen))]
        exact hq
end
end
section
/-! ### the order of two operations -/
def oD : Option (List Nat) → PyData
  | none => .none
  | some l => logD l
def opL (n : Nat) : List (List Nat) := (List.range n).flatMap fun a => ((List.range n).filter fun b => decide (a < b)).map fun b => [a, b]
theorem mem_op {n : Nat} {l : List Nat} : l ∈ opL n ↔ ∃ a b, l = [a, b] ∧ a < n ∧ b < n ∧ a < b := by
  unfold opL
  rw [List.mem_flatMap]
  constructor
  · rintro ⟨a, ha, h⟩
    obtain ⟨b, hb, rfl⟩ := List.mem_map.mp h
    obtain ⟨h1, h2⟩ := List.mem_filter.mp hb
    exact ⟨a, b, rfl, List.mem_range.mp ha, List.mem_range.mp h1, of_decide_eq_true h2⟩
  · rintro ⟨a, b, rfl, ha, hb, hab⟩
    exact ⟨a, List.mem_range.mpr ha, List.mem_map.mpr ⟨b, List.mem_filter.mpr ⟨List.mem_range.mpr hb, decide_eq_true hab⟩, rfl⟩⟩
theorem len_op {n : Nat} (h : n ≤ 6) : (opL n).length ≤ 36 := by
  match n, h with
  | 0, _ | 1, _ | 2, _ | 3, _ | 4, _ | 5, _ | 6, _ => decide
  | n + 7, h => omega
theorem flat_ifs {α β : Type} (p : α → Bool) (f : α → β) : ∀ l : List α, (l.map fun b => if p b = true then [f b] else []).flatten = (l.filter p).map f
  | [] => rfl
  | x :: r => by
    rw [List.map_cons, List.flatten_cons, flat_ifs p f r, List.filter_cons]
    split <;> rfl
theorem outs_op (n : Nat) : ((List.range n).map fun a => ((List.range n).filter fun b => decide (a < b)).map fun b => logD [a, b]).flatten = (opL n).map logD := by
  unfold opL
  rw [List.map_flatMap]
  show _ = ((List.range n).map _).flatten
  congr 1
  refine List.map_congr_left fun a _ => ?_
  rw [List.map_map]
  rfl
def obad (S : Sys) (s : Nat) (l : List Nat) : Bool := !decide (endOf S s l = endOf S s l.reverse)
def ofaultAt (S : Sys) (s : Nat) : Option (List Nat) := ((opL S.ops.length).find? (obad S s)).map fun l => s :: l
def ofaultS (S : Sys) : Option (List Nat) := (reach S).findSome? (ofaultAt S)
def φ_ofault : List D → (D → Prop) → Prop := fun ds P => ∃ S, ds = [sysD S] ∧ S.Ok ∧ P (oD (ofaultS S))
theorem ofault_mem {S : Sys} {l : List Nat} (h : ofaultS S = some l) : ∃ s a b, l = [s, a, b] ∧ s ∈ reach S ∧ a < S.ops.length ∧ b < S.ops.length ∧ a < b ∧ endOf S s [a, b] ≠ endOf S s [b, a] := by
  obtain ⟨s, hs, h1⟩ := List.exists_of_findSome?_eq_some h
  unfold ofaultAt at h1
  cases hf : (opL S.ops.length).find? (obad S s) with
  | none =>
    rw [hf] at h1
    cases h1
  | some m =>
    rw [hf] at h1
    obtain rfl := Option.some.inj h1
    obtain ⟨a, b, rfl, ha, hb, hab⟩ := mem_op.mp (List.mem_of_find?_eq_some hf)
    have hp : obad S s [a, b] = true := List.find?_some hf
    unfold obad at hp
    exact ⟨s, a, b, rfl, hs, ha, hb, hab, not_dec hp⟩
theorem ofault_none {S : Sys} (h : ofaultS S = none) : ∀ s ∈ reach S, ∀ a b, a < S.ops.length → b < S.ops.length → endOf S s [a, b] = endOf S s [b, a] := by
  have key : ∀ s ∈ reach S, ∀ a b, a < S.ops.length → b < S.ops.length → a < b → endOf S s [a, b] = endOf S s [b, a] := by
    intro s hs a b ha hb hab
    have h1 := List.findSome?_eq_none_iff.mp h s hs
    unfold ofaultAt at h1
    have h2 := Option.map_eq_none_iff.mp h1
    have h3 : ¬ obad S s [a, b] = true := List.find?_eq_none.mp h2 [a, b] (mem_op.mpr ⟨a, b, rfl, ha, hb, hab⟩)
    unfold obad at h3
    exact yes_dec h3
  intro s hs a b ha hb
  rcases Nat.lt_trichotomy a b with q | q | q
  · exact key s hs a b ha hb q
  · rw [q]
  · exact (key s hs b a hb ha q).symm
theorem logOk_two {S : Sys} {a b : Nat} (ha : a < S.ops.length) (hb : b < S.ops.length) : LogOk S [a, b] := fun x hx => by
  rcases List.mem_cons.mp hx with rfl | hx
  · exact ha
  · rw [List.mem_singleton.mp hx]
    exact hb
section
variable {P : Program} {w : World} {K : Fg} {mg : Str → Option Value} {base : Heap} {f : Addr} {fd : FuncData} {k : Nat}
end
end
section
def gD (x : GEnt) : D := .tuple [logD x.1, .list (x.2.map pD)]
def φ_flb : List D → (D → Prop) → Prop := fun ds Pp => ∃ (S : Sys) (ps W : List Pr), ds = [sysD S, .list (ps.map pD), .list (W.map pD)] ∧ S.Ok ∧ (∀ p ∈ ps, PrOk S.n p) ∧ ps.length ≤ 500 ∧ ∀ r, IsFirst S ps W r → (∀ l, r = some l → l.length ≤ 40) → Pp (oD r)
theorem pD_iT (p : Pr) : pD p = iT [(p.1 : Int), (p.2 : Int)] := rfl
theorem map_iT (W : List Pr) : W.map pD = (W.map fun p => [(p.1 : Int), (p.2 : Int)]).map iT := by
  rw [List.map_map]
  rfl
theorem mem_pr {p : Pr} {W : List Pr} : [(p.1 : Int), (p.2 : Int)] ∈ (W.map fun p => [(p.1 : Int), (p.2 : Int)]) ↔ p ∈ W := by
  rw [List.mem_map]
  constructor
  · rintro ⟨q, hq, e⟩
    injection e with e1 e2
    injection e2 with e2 _
    have : q = p := Prod.ext (by omega) (by omega)
    rwa [← this]
  · exact fun h => ⟨p, h, rfl⟩
theorem gdrop_one {L : List GEnt} {a : Nat} {p : GEnt} (h : L[a]? = some p) : L.drop a = p :: L.drop (a + 1) := by
  obtain ⟨h1, h2⟩ := List.getElem?_eq_some_iff.mp h
  rw [List.drop_eq_getElem_cons h1, h2]
section
variable {P : Program} {w : World} {K : Fg} {mg : Str → Option Value} {base : Heap} {f : Addr} {fd : FuncData} {k : Nat}
theorem ok_first_log_between (F : Fun K "first_log_between" "first_log_between" s_first_log_between f fd) (c1 : Has P w K mg base 1 "fresh_pairs" (spC K (φ_fresh P w))) (mE : mg "enumerate" = none) (mA : mg "any" = none) : FnOk P w K mg base CX0 2 f fd ["system", "pairs", "wanted"] (spP K φ_flb) := by
  refine ok_P F sc_first_log_between (fun ds Q h => ?_) fun ds Q h cdv A outer s H E hr => ?_
  · obtain ⟨S, ps, W, rfl, _⟩ := h
    rfl
  · obtain ⟨S, ps, W, rfl, hS, hps, hz, hq⟩ := h
    have nd := sc_first_log_between.nd
    have hu := hu_of hr
    have h6 := hS.o6
    refine ds_cons (d1_asgDcT (i := 3) hu rfl nd rfl rfl (sw_dct rfl rfl rfl (by decide +kernel)) (blkOk_by (own := [("pair", 10)]) (N := n_first_log_between) (sc := defScope s_first_log_between) (by decide +kernel)) (di_lst (de_var 1 rfl (by nofun) rfl (by walk_at "vis") ⟨_, rfl, ?_⟩)))
    refine ⟨by rw [List.length_map]; omega, ps.map fun p => (pK p, PyData.bool true), by rw [List.length_map, List.length_map], fun i d q hd hq s H C cl fp => ?_, fun ob => ?_⟩
    · obtain ⟨p, hp, rfl⟩ := map_at hd
      rw [List.getElem?_map, hp] at hq
      obtain rfl := (Option.some.inj hq).symm
      refine dg_name (i := 10) nd rfl (.inl rfl) (by decide) ?_
      intro s H C cl fp
      exact de_var 10 rfl (by nofun) rfl (by walk_at "vis") ⟨rfl, de_bool ⟨rfl, rfl⟩⟩
    · rw [setsT_seen]
      refine ds_cons (d1_asg (i := 4) nd rfl (by walk_at "loc") (de_lstO (da_cons (de_tup (da_cons (de_tup (da_nil ⟨[], rfl, by decide, da_cons (de_var 1 rfl (by nofun) rfl (by walk_at "vis") (da_nil ⟨[_, _], rfl, by walk_at "sz", da_nil ⟨[_], rfl, by walk_at "sz", ?_⟩⟩))⟩)))))))
      refine ds_cons (d1_while PassesOwn.never (fun m δ' ω' => ∃ a L seen ob s5 s6 s7 s8 s9 s10, BI S ps W a 0 L seen ∧ m = L.length + (36 - seen.length) - a ∧ ω' = [.tdc (tdF _ ob) (seenD seen), .lst ((L.drop a).map gD)] ∧ δ' = [.val (sysD S), .val (.list (ps.map pD)), .val (.list (W.map pD)), .own 0, .own 1, s5, s6, s7, s8, s9, s10]) _ ⟨0, [([], ps)], nubP ps, ob, .no, .no, .no, .no, .no, .no, .start hS hps rfl, rfl, rfl, rfl⟩ ?_)
      rintro m δ' ω' ⟨a, L, seen, ob, s5, s6, s7, s8, s9, s10, hb, rfl, rfl, rfl⟩
      refine dt_own (de_var 4 rfl (by nofun) rfl (by walk_at "vis") ⟨1, _, rfl, rfl, ?_⟩)
      cases hp : L[a]? with
      | none =>
        have hl : L.length ≤ a := List.getElem?_eq_none_iff.mp hp
        rw [List.drop_eq_nil_of_le hl]
        exact iteF (ds_cons (d1_ret (de_none ⟨_, rfl, hq none (hb.none hl) nofun⟩)))
      | some x =>
        have hlt : a < L.length := (List.getElem?_eq_some_iff.mp hp).1
        have hxm := List.mem_of_getElem? hp
        have hsl := hb.len hS
        have hcnt := hb.cnt
        have hxl := hb.ln a x hp
        obtain ⟨hx1, hx2⟩ := hb.snd x hxm
        have hgz := hb.gz x hxm
        rw [gdrop_one hp]
        refine iteT ?_
        refine ds_cons (d1_unp rfl (pgs_cons (pg_name (i := 5) nd rfl (by walk_at "loc")) (pgs_cons (pg_name (i := 6) nd rfl (by walk_at "loc")) pgs_nil)) (.cons (.cons .nil)) (de_popAt (de_var 4 rfl (by nofun) rfl (by walk_at "vis") ⟨1, _, rfl, rfl, (de_int ⟨0, _, 0, gD x, rfl, rfl, by decide, by decide, seq0 _, rfl, ?_⟩)⟩)))
        refine ⟨_, rfl, rfl, ?_⟩
        refine ds_cons (d1_if (dt_val (de_callB (cr_any rfl) (by rfl) (by assumption) PyProof.Rows.boot_any (da_cons ?_))))
        refine de_lc rfl nd (blkOk_by (own := [("pair", 10)]) (N := n_first_log_between) (sc := defScope s_first_log_between) (by decide +kernel)) (di_lst (de_var 6 rfl (by nofun) rfl (by walk_at "vis") ⟨_, rfl, ?_⟩))
        refine ⟨by rw [List.length_map]; omega, _, ⟨rfl, rfl⟩, lc_map (fun d => .bool (decide (prOf d ∈ W))) (fun j d hd s H C cl fp => ?_), fun acc ω3 hacc ⟨ew, ea⟩ => .inl ?_⟩
        · obtain ⟨p, hpj, rfl⟩ := map_at hd
          refine dg_name (i := 10) nd rfl (.inl rfl) (by decide) ?_
          intro s H C cl fp
          refine de_cmp (op_inP hu) (by rfl) (de_var 10 rfl (by nofun) rfl (by walk_at "vis") (de_var 2 rfl (by nofun) rfl (by walk_at "vis") ?_))
          rw [map_iT]
          refine rr_inP (ns := [(p.1 : Int), (p.2 : Int)]) (.lst _) ⟨?_, rfl⟩
          rw [if_neg (by decide)]
          congr 2
          rw [Bool.eq_iff_iff, decide_eq_true_iff, decide_eq_true_iff]
          exact mem_pr
        rw [List.take_length, (all_map _ _).1] at ea
        subst ew ea
        refine da_nil (ra_any ⟨_, rfl, ?_⟩)
        have eh : ((x.2.map pD).map fun d => decide (prOf d ∈ W)).any id = x.2.any fun q => decide (q ∈ W) := by
          rw [List.any_map, List.any_map]
          rfl
        rw [eh]
        by_cases hh : x.2.any (fun q => decide (q ∈ W)) = true
        · rw [hh]
          obtain ⟨q, hqm, hqw⟩ := List.any_eq_true.mp hh
          refine iteT (ds_cons (d1_ret (de_var 5 rfl (by nofun) rfl (by walk_at "vis") ⟨_, rfl, ?_⟩)))
          exact hq (some x.1) (hb.hit hp hqm (of_decide_eq_true hqw)) fun l e => by
            cases e
            omega
        · rw [Bool.not_eq_true] at hh
          rw [hh]
          have hno : ∀ q ∈ x.2, q ∉ W := fun q hqm hw => by
            have := List.any_eq_false.mp hh q hqm
            exact this (decide_eq_true hw)
          refine iteF (ds_nil ?_)
          refine ds_cons (d1_for PassesOwn.never rfl (di_enU (by rfl) mE (de_ix (fun _ _ => rfl) (de_var 0 rfl (by nofun) rfl (by walk_at "vis") (de_int ⟨_, _, _, rfl, (by walk_at "seq"), rfl, _, rfl, ?_⟩)))))
          refine ⟨fun i δ' ω' => ∃ L' seen' ob s7 s8 s9 s10, BI S ps W a i L' seen' ∧ L'[a]? = some x ∧ L'.length + (36 - seen'.length) ≤ L.length + (36 - seen.length) ∧ δ' = [.val (sysD S), .val (.list (ps.map pD)), .val (.list (W.map pD)), .own 0, .own 1, .val (logD x.1), .val (.list (x.2.map pD)), s7, s8, s9, s10] ∧ ω' = [.tdc (tdF _ ob) (seenD seen'), .lst ((L'.drop (a + 1)).map gD)], ⟨L, seen, ob, _, _, _, _, hb, hp, Nat.le_refl _, rfl, rfl⟩, ?_, ?_⟩
          · rintro i d δ' ω' hd ⟨L', seen', ob, s7, s8, s9, s10, hb', hp', hm', rfl, rfl⟩
            obtain ⟨g, hg, rfl⟩ := enD_at hd
            have hi : i < S.ops.length := by
              have := (List.getElem?_eq_some_iff.mp hg).1
              rwa [List.length_map] at this
            rw [List.getElem?_map, List.getElem?_eq_getElem hi] at hg
            obtain rfl := (Option.some.inj hg).symm
            have hsl' := hb'.len hS
            have hcnt' := hb'.cnt
            have hst := hb'.step hS hp' hi
            have hsl2 := hst.len hS
            rw [List.length_append] at hsl2
            generalize hfr : freshS S i x.2 seen' = fr at *
            refine dg_tup2 (i := 7) (j := 8) rfl nd rfl rfl (by walk_at "loc") (by walk_at "loc") (by walk_at "mr") (by walk_at "mr") ?_
            refine ds_cons (d1_asg (i := 9) nd rfl (by walk_at "loc") (de_callC c1 (by walk_at "room") (by rfl) (da_cons (de_var 8 rfl (by nofun) rfl (by walk_at "vis") (da_cons (de_var 6 rfl (by nofun) rfl (by walk_at "vis") (da_cons (de_var 3 rfl (by nofun) rfl (by walk_at "vis") (da_nil ⟨0, _, [_, _], rfl, rfl, nofun, S, i, S.ops[i], x.2, seen', ob, hS, hi, List.getElem?_eq_getElem hi, fun q hq => (hx2 q hq).1, by omega, rfl, rfl, ?_⟩)))))))))
            rw [hfr]
            refine ds_cons (d1_for PassesOwn.never rfl (di_lst (de_var 9 rfl (by nofun) rfl (by walk_at "vis") ⟨_, rfl, ?_⟩)))
            refine ⟨fun j δ' ω' => ∃ ob s10, δ' = [.val (sysD S), .val (.list (ps.map pD)), .val (.list (W.map pD)), .own 0, .own 1, .val (logD x.1), .val (.list (x.2.map pD)), .val (nD i), .val (opD S.ops[i]), .val (.list (fr.map pD)), s10] ∧ ω' = [.tdc (tdF _ ob) (seenD (seen' ++ fr.take j)), .lst ((L'.drop (a + 1)).map gD)], ⟨ob, _, rfl, by rw [List.take_zero, List.append_nil]⟩, ?_, ?_⟩
            · rintro j d δ' ω' hd ⟨ob, s10, rfl, rfl⟩
              obtain ⟨p, hpj, rfl⟩ := map_at hd
              refine dg_name (i := 10) nd rfl (by walk_at "loc") (by walk_at "mr") ?_
              have hle : (seen' ++ fr.take j).length ≤ 36 := by
                have := List.length_take_le' j fr
                rw [List.length_append]
                omega
              refine ds_cons (d1_tdput hu (de_bool (de_var 3 rfl (by nofun) rfl (by walk_at "vis") (de_var 10 rfl (by nofun) rfl (by walk_at "vis") ⟨0, ob, _, pK p, .bool true, rfl, rfl, rfl, rfl, by rw [seenD_len]; omega, fun o' => ds_nil ⟨o', _, rfl, ?_⟩⟩))))
              rw [setT_seen]
              have hn : p ∉ seen' ++ fr.take j := by
                have h1 := hst.nd
                have h2 : (seen' ++ fr.take j) ++ fr.drop j = seen' ++ fr := by rw [List.append_assoc, List.take_append_drop]
                rw [← h2, List.nodup_append] at h1
                intro hm
                refine h1.2.2 p hm p ?_ rfl
                obtain ⟨i1, e1⟩ := List.getElem?_eq_some_iff.mp hpj
                rw [List.drop_eq_getElem_cons i1, e1]
                exact List.mem_cons_self
              rw [if_neg hn, List.append_assoc, List.take_add_one, hpj]
              rfl
            · rintro δ' ω' ⟨ob, s10, rfl, rfl⟩
              rw [List.length_map, List.take_length]
              refine ds_cons (d1_if (dt_lstV (de_var 9 rfl (by nofun) rfl (by walk_at "vis") ⟨_, rfl, ?_⟩)))
              by_cases hf : fr = []
              · subst hf
                rw [if_pos rfl] at hst
                refine iteF (ds_nil (ds_nil ⟨L', _, ob, _, _, _, _, hst, hp', ?_, rfl, rfl⟩))
                rw [List.append_nil]
                exact hm'
              · rw [if_neg hf] at hst
                have hf2 : (!(fr.map pD).isEmpty) = true := by
                  cases fr with
                  | nil => exact absurd rfl hf
                  | cons y r => rfl
                have hfl : 0 < fr.length := List.length_pos_iff.mpr hf
                have hla : a < L'.length := (List.getElem?_eq_some_iff.mp hp').1
                rw [hf2]
                refine iteT ?_
                refine ds_cons (d1_expr (de_append (de_var 4 rfl (by nofun) rfl (by walk_at "vis") ⟨1, _, rfl, rfl, (de_tup (da_cons (de_plus (de_var 5 rfl (by nofun) rfl (by walk_at "vis") (de_tup (da_cons (de_var 7 rfl (by nofun) rfl (by walk_at "vis") (da_nil ⟨[_], rfl, by walk_at "sz", (.tup (by walk_at "sz") ?_)⟩))))))))⟩)))
                refine da_cons (de_var 9 rfl (by nofun) rfl (by walk_at "vis") (da_nil ⟨[_, _], rfl, by walk_at "sz", _, _, rfl, rfl, ?_, ?_⟩))
                · rw [List.length_map, List.length_drop]
                  omega
                refine ds_nil (ds_nil ⟨_, _, ob, _, _, _, _, hst, ?_, ?_, rfl, ?_⟩)
                · rw [List.getElem?_append_left hla, hp']
                · rw [List.length_append, List.length_append]
                  show L'.length + 1 + _ ≤ _
                  omega
                · rw [List.drop_append_of_le_length (by omega), List.map_append, snoc_map]
                  rfl
          · rintro δ' ω' ⟨L', seen', ob, s7, s8, s9, s10, hb', hp', hm', rfl, rfl⟩
            rw [enD_len, List.length_map] at hb'
            refine ds_nil ⟨L'.length + (36 - seen'.length) - (a + 1), ?_, a + 1, L', seen', ob, _, _, _, _, _, _, hb'.next hp' hno, rfl, rfl, rfl⟩
            omega
end
end
section
def firstPairs (S : Sys) (a : Nat) (rs : List Nat) : List Pr := rs.map fun s => (step S a s, s)
def unlikeL (S : Sys) (b : Nat) : List Pr := (List.range S.n).flatMap fun x => ((List.range S.n).filter fun y => !decide (step S b x = step S b y)).map fun y => (x, y)
theorem mem_unlike {S : Sys} {b : Nat} {p : Pr} : p ∈ unlikeL S b ↔ PrOk S.n p ∧ step S b p.1 ≠ step S b p.2 := by
  unfold unlikeL
  rw [List.mem_flatMap]
  constructor
  · rintro ⟨x, hx, h⟩
    obtain ⟨y, hy, rfl⟩ := List.mem_map.mp h
    obtain ⟨h1, h2⟩ := List.mem_filter.mp hy
    rw [Bool.not_eq_true', decide_eq_false_iff_not] at h2
    exact ⟨⟨List.mem_range.mp hx, List.mem_range.mp h1⟩, h2⟩
  · rintro ⟨⟨h1, h2⟩, h3⟩
    refine ⟨p.1, List.mem_range.mpr h1, List.mem_map.mpr ⟨p.2, List.mem_filter.mpr ⟨List.mem_range.mpr h2, ?_⟩, rfl⟩⟩
    rw [Bool.not_eq_true', decide_eq_false_iff_not]
    exact h3
theorem outs_unlike (S : Sys) (b : Nat) : ((List.range S.n).map fun x => ((List.range S.n).filter fun y => !decide (step S b x = step S b y)).map fun y => pD (x, y)).flatten = (unlikeL S b).map pD := by
  unfold unlikeL
  rw [List.map_flatMap]
  show _ = ((List.range S.n).map _).flatten
  congr 1
  refine List.map_congr_left fun a _ => ?_
  rw [List.map_map]
  rfl
theorem len_unlike {S : Sys} (h : S.n ≤ 6) (b : Nat) : (unlikeL S b).length ≤ 36 := by
  have h1 := len_flatMap_le (fun x => ((List.range S.n).filter fun y => !decide (step S b x = step S b y)).map fun y => (x, y)) 6 (List.range S.n) fun l _ => by
    rw [List.length_map]
    have := List.length_filter_le (fun y => !decide (step S b l = step S b y)) (List.range S.n)
    rw [List.length_range] at this
    omega
  rw [List.length_range] at h1
  unfold unlikeL
  omega
def φ_telling : List D → (D → Prop) → Prop := fun ds Pp => ∃ (S : Sys) (rs : List Nat) (a b : Nat), ds = [sysD S, logD rs, nD a, nD b] ∧ S.Ok ∧ a < S.ops.length ∧ b < S.ops.length ∧ (∀ s ∈ rs, s < S.n) ∧ rs.length ≤ 500 ∧ ∀ r, IsFirst S (firstPairs S a rs) (unlikeL S b) r → (∀ l, r = some l → l.length ≤ 40) → Pp (oD r)
def φ_unc : List D → (D → Prop) → Prop := fun ds Pp => ∃ (S : Sys) (a b : Nat), ds = [sysD S, nD a, nD b] ∧ S.Ok ∧ a < S.ops.length ∧ b < S.ops.length ∧ ∀ r, IsFirst S (firstPairs S a (reach S)) (unlikeL S b) r → (∀ l, r = some l → l.length ≤ 40) → Pp (oD r)
theorem ops_at {S : Sys} {e : Nat} {op : List Nat} (h : S.ops[e]? = some op) : atI (S.ops.map opD) (e : Int) = some (opD op) := atI_nat (by rw [List.getElem?_map, h]; rfl)
theorem op_at {S : Sys} (hS : S.Ok) {e s : Nat} (he : e < S.ops.length) (hs : s < S.n) {op : List Nat} (h : S.ops[e]? = some op) : atI (op.map nD) (s : Int) = some (nD (step S e s)) := by
  obtain ⟨_, o1, g1, g2⟩ := step_at hS he hs
  rw [h] at g1
  cases g1
  exact atI_nat (by rw [List.getElem?_map, g2]; rfl)
theorem firstPairs_ok {S : Sys} (hS : S.Ok) {a : Nat} (ha : a < S.ops.length) {rs : List Nat} (h : ∀ s ∈ rs, s < S.n) : ∀ p ∈ firstPairs S a rs, PrOk S.n p := fun p hp => by
  obtain ⟨s, hs, rfl⟩ := List.mem_map.mp hp
  exact ⟨(step_at hS ha (h s hs)).1, h s hs⟩
section
variable {P : Program} {w : World} {K : Fg} {mg : Str → Option Value} {base : Heap} {f : Addr} {fd : FuncData} {k : Nat}
theorem ok_telling_log (F : Fun K "telling_log" "telling_log" s_telling_log f fd) (c1 : Has P w K mg base 2 "first_log_between" (spP K φ_flb)) (mR : mg "range" = none) : FnOk P w K mg base CX0 3 f fd ["system", "reached", "first", "second"] (spP K φ_telling) := by
  refine ok_P F sc_telling_log (fun ds Q h => ?_) fun ds Q h cdv A outer s H E hr => ?_
  · obtain ⟨S, rs, a, b, rfl, _⟩ := h
    rfl
  · obtain ⟨S, rs, a, b, rfl, hS, ha, hb, hrs, hz, hq⟩ := h
    have nd := sc_telling_log.nd
    have h6 := hS.n6
    have ea := List.getElem?_eq_getElem ha
    have eb := List.getElem?_eq_getElem hb
    generalize hoa : S.ops[a] = oa at *
    generalize hob : S.ops[b] = ob at *
    refine ds_cons (d1_asg (i := 4) nd rfl (by walk_at "loc") (de_ix (fun _ _ => rfl) (de_ix (fun _ _ => rfl) (de_var 0 rfl (by nofun) rfl (by walk_at "vis") (de_int ⟨_, _, _, rfl, (by walk_at "seq"), rfl, (de_var 2 rfl (by nofun) rfl (by walk_at "vis") ⟨_, _, _, rfl, .tup _, ops_at ea, ?_⟩)⟩)))))
    refine ds_cons (d1_asg (i := 5) nd rfl (by walk_at "loc") (de_ix (fun _ _ => rfl) (de_ix (fun _ _ => rfl) (de_var 0 rfl (by nofun) rfl (by walk_at "vis") (de_int ⟨_, _, _, rfl, (by walk_at "seq"), rfl, (de_var 3 rfl (by nofun) rfl (by walk_at "vis") ⟨_, _, _, rfl, .tup _, ops_at eb, ?_⟩)⟩)))))
    refine ds_cons (d1_asg (i := 6) nd rfl (by walk_at "loc") (de_callTy cr_rangeV (by rfl) mR PyProof.Rows.boot_range (da_cons (de_ix (fun _ _ => rfl) (de_var 0 rfl (by nofun) rfl (by walk_at "vis") (de_int ⟨_, _, _, rfl, (by walk_at "seq"), rfl, (da_nil (ra_rngV ?_))⟩))))))
    refine ds_cons (d1_asgLc (i := 7) rfl nd rfl rfl (sw_true rfl rfl rfl (by decide +kernel)) (blkOk_by (own := [("state", 9)]) (N := n_telling_log) (sc := defScope s_telling_log) (by decide +kernel)) (di_tup (de_var 1 rfl (by nofun) rfl (by walk_at "vis") ⟨_, rfl, ?_⟩)))
    refine ⟨by rw [List.length_map]; omega, _, ⟨rfl, rfl⟩, lc_map (fun d => match d with | .int s => pD (step S a s.toNat, s.toNat) | _ => .none) (fun j d hd s H C cl fp => ?_), fun acc ω3 hacc ⟨ew, eacc⟩ => .inl ?_⟩
    · obtain ⟨st, hst, rfl⟩ := map_at hd
      have hlt := hrs st (List.mem_of_getElem? hst)
      refine dg_name (i := 9) nd rfl (.inl rfl) (by decide) ?_
      intro s H C cl fp
      exact de_tup (da_cons (de_ix (fun _ _ => rfl) (de_var 4 rfl (by nofun) rfl (by walk_at "vis") (de_var 9 rfl (by nofun) rfl (by walk_at "vis") ⟨_, _, _, rfl, .tup _, op_at hS ha hlt ea, (da_cons (de_var 9 rfl (by nofun) rfl (by walk_at "vis") (da_nil ⟨[_, _], rfl, by walk_at "sz", rfl, rfl⟩)))⟩))))
    rw [List.take_length] at eacc
    subst ew eacc
    have ep : (rs.map nD).map (fun d => match d with | .int s => pD (step S a s.toNat, s.toNat) | _ => .none) = (firstPairs S a rs).map pD := by
      unfold firstPairs
      rw [List.map_map, List.map_map]
      rfl
    rw [ep]
    have bn : -(2 ^ 62) ≤ (S.n : Int) ∧ (S.n : Int) < 2 ^ 62 := ⟨by omega, by omega⟩
    have b0 : -(2 ^ 62) ≤ (0 : Int) ∧ (0 : Int) < 2 ^ 62 := ⟨by omega, by omega⟩
    refine ds_cons (d1_asgLx (i := 8) (V := [11]) (body := fun Dl env => nxt _ _ _ _ _ 1 (.ref Dl) env) (fun Dl env => turn20i _ _ _ _ _ _ _ _ _ _) rfl nd rfl rfl (sw_true rfl rfl rfl (by decide +kernel)) (blkOk_by (own := [("one", 10), ("other", 11)]) (N := n_telling_log) (sc := defScope s_telling_log) (by decide +kernel)) (by decide) (di_rngV (de_var 6 rfl (by nofun) rfl (by walk_at "vis") ⟨0, 0, S.n, rfl, rfl, b0.1, b0.2, bn.1, bn.2, ?_⟩)))
    refine ⟨(List.range S.n).map fun x => ((List.range S.n).filter fun y => !decide (step S b x = step S b y)).map fun y => pD (x, y), by rw [List.length_map, List.length_range, rgD_n], ?_, fun i d o hd ho Dl => ?_, .inl ?_⟩
    · rw [outs_unlike, List.length_map]
      have := len_unlike h6 b
      omega
    · obtain ⟨hi, rfl⟩ := rgD_in hd
      obtain ⟨_, rfl⟩ := tuple_at ho
      intro s H C cl fp
      refine dg_name (i := 10) nd rfl (.inl rfl) (by decide) ?_
      intro s H C cl fp
      refine db_cl (V1 := []) rfl (fun _ _ h => h) (turn21i _ _ _ _ _ _ _ _ _ _) rfl (fun _ => rfl) (by decide) (di_rngV (de_var 6 rfl (by nofun) rfl (by walk_at "vis") ⟨0, 0, S.n, rfl, rfl, b0.1, b0.2, bn.1, bn.2, ?_⟩))
      refine ⟨rfl, (List.range S.n).map fun y => if (!decide (step S b i = step S b y)) = true then [pD (i, y)] else [], by rw [List.length_map, List.length_range, rgD_n], flat_ifs _ _ _, fun j d o hd ho => ?_⟩
      obtain ⟨hj, rfl⟩ := rgD_in hd
      obtain ⟨_, rfl⟩ := tuple_at ho
      refine dg_name (i := 11) nd rfl (.inl rfl) (by decide) ?_
      refine db_appF (fun _ _ h => h) (dt_cmp op_ne (nomark _) (de_ix (fun _ _ => rfl) (de_var 5 rfl (by nofun) rfl (by walk_at "vis") (de_var 10 rfl (by nofun) rfl (by walk_at "vis") ⟨_, _, _, rfl, .tup _, op_at hS hb hi eb, (de_ix (fun _ _ => rfl) (de_var 5 rfl (by nofun) rfl (by walk_at "vis") (de_var 11 rfl (by nofun) rfl (by walk_at "vis") ⟨_, _, _, rfl, .tup _, op_at hS hb hj eb, rr_neN ⟨_, rfl, rfl, rfl⟩⟩)))⟩)))) fun _ => ?_
      exact de_tup (da_cons (de_var 10 rfl (by nofun) rfl (by walk_at "vis") (da_cons (de_var 11 rfl (by nofun) rfl (by walk_at "vis") (da_nil ⟨[_, _], rfl, by walk_at "sz", rfl, rfl⟩)))))
    rw [outs_unlike]
    refine ds_cons (d1_ret (de_call c1 (by walk_at "room") (by rfl) (da_cons (de_var 0 rfl (by nofun) rfl (by walk_at "vis") (da_cons (de_var 7 rfl (by nofun) rfl (by walk_at "vis") (da_cons (de_var 8 rfl (by nofun) rfl (by walk_at "vis") (da_nil ⟨[_, _, _], rfl, ?_⟩)))))))))
    refine ⟨S, firstPairs S a rs, unlikeL S b, rfl, hS, firstPairs_ok hS ha hrs, ?_, fun r h1 h2 => ⟨_, rfl, hq r h1 h2⟩⟩
    unfold firstPairs
    rw [List.length_map]
    exact hz
end
end
section
theorem isNon_oD (o : Option (List Nat)) : isNon (oD o) = decide (o = none) := by cases o <;> rfl
end
section
noncomputable def covered (S : Sys) (a b : Nat) : Bool := @decide (IsFirst S (firstPairs S a (reach S)) (unlikeL S b) none) (Classical.propDecidable _)
theorem covered_of {S : Sys} {a b : Nat} {r : Option (List Nat)} (h : IsFirst S (firstPairs S a (reach S)) (unlikeL S b) r) : decide (r = none) = covered S a b := by
  unfold covered
  by_cases e : r = none
  · subst e
    rw [decide_eq_true rfl]
    exact (@decide_eq_true _ (Classical.propDecidable _) h).symm
  · rw [decide_eq_false e]
    exact (@decide_eq_false _ (Classical.propDecidable _) fun z => e (isFirst_unique h z)).symm
noncomputable def rowD (S : Sys) (a : Nat) : D := .tuple ((List.range S.ops.length).map fun b => PyData.bool (covered S a b))
noncomputable def covD (S : Sys) : D := .tuple ((List.range S.ops.length).map (rowD S))
def φ_row : List D → (D → Prop) → Prop := fun ds Pp => ∃ (S : Sys) (a : Nat), ds = [sysD S, logD (reach S), nD a] ∧ S.Ok ∧ a < S.ops.length ∧ Pp (rowD S a)
def φ_cov : List D → (D → Prop) → Prop := fun ds Pp => ∃ S, ds = [sysD S] ∧ S.Ok ∧ Pp (covD S)
theorem reach_six {S : Sys} (hS : S.Ok) : (reach S).length ≤ 6 := by
  have h1 : (reach S).length ≤ (List.range S.n).length := List.length_filter_le _ _
  have h2 := hS.n6
  rw [List.length_range] at h1
  omega
section
variable {P : Program} {w : World} {K : Fg} {mg : Str → Option Value} {base : Heap} {f : Addr} {fd : FuncData} {k : Nat}
theorem ok_coverage_row (F : Fun K "coverage_row" "coverage_row" s_coverage_row f fd) (c1 : Has P w K mg base 3 "telling_log" (spP K φ_telling)) (mT : mg "tuple" = none) (mR : mg "range" = none) (mL : mg "len" = none) : FnOk P w K mg base CX0 4 f fd ["system", "reached", "first"] (spP K φ_row) := by
  refine ok_P F sc_coverage_row (fun ds Q h => ?_) fun ds Q h cdv A outer s H E hr => ?_
  · obtain ⟨S, a, rfl, _⟩ := h
    rfl
  · obtain ⟨S, a, rfl, hS, ha, hq⟩ := h
    have nd := sc_coverage_row.nd
    have h6 := hS.o6
    refine ds_cons (d1_ret (de_callTy call_tuple_of (by rfl) (by assumption) PyProof.Rows.boot_tuple (da_cons ?_)))
    refine de_lc rfl nd (blkOk_by (own := [("second", 3)]) (N := n_coverage_row) (sc := defScope s_coverage_row) (by decide +kernel)) (di_rng1 (by rfl) mR (de_callB call_len_seq (by rfl) mL PySem.boot_len (da_cons (de_ix (fun _ _ => rfl) (de_var 0 rfl (by nofun) rfl (by walk_at "vis") (de_int ⟨_, _, _, rfl, (by walk_at "seq"), rfl, (da_nil (ra_len (.tup _) ?_))⟩))))))
    rw [List.length_map]
    refine ⟨_, rfl, by omega, by omega, ?_⟩
    refine ⟨by rw [rgD_n]; omega, _, ⟨rfl, rfl⟩, lc_map (fun d => match d with | .int e => .bool (covered S a e.toNat) | _ => .none) (fun x d hd s H C cl fp => ?_), fun acc ω3 hacc ⟨ew, ea⟩ => .inl ?_⟩
    · obtain ⟨hx, rfl⟩ := rgD_in hd
      refine dg_name (i := 3) nd rfl (.inl rfl) (by decide) ?_
      intro s H C cl fp
      refine de_cmp op_isN (nomark _) (de_call c1 (by walk_at "room") (by rfl) (da_cons (de_var 0 rfl (by nofun) rfl (by walk_at "vis") (da_cons (de_var 1 rfl (by nofun) rfl (by walk_at "vis") (da_cons (de_var 2 rfl (by nofun) rfl (by walk_at "vis") (da_cons (de_var 3 rfl (by nofun) rfl (by walk_at "vis") (da_nil ⟨[_, _, _, _], rfl, S, reach S, a, x, rfl, hS, ha, hx, fun s hs => reach_lt hs, Nat.le_trans (reach_six hS) (by decide), fun r h1 _ => (de_none (rr_isN ?_))⟩))))))))))
      rw [isNon_oD, covered_of h1]
      exact ⟨rfl, rfl⟩
    · rw [List.take_length] at ea
      subst ew ea
      have e : (rgD 0 (S.ops.length : Int)).map (fun d => match d with | .int e => PyData.bool (covered S a e.toNat) | _ => .none) = (List.range S.ops.length).map fun b => PyData.bool (covered S a b) := by
        rw [rgD0, List.map_map]
        rfl
      rw [e]
      exact da_nil (ra_tuple (.lst _) ⟨_, rfl, hq⟩)
theorem ok_coverage (F : Fun K "coverage" "coverage" s_coverage f fd) (c1 : Has P w K mg base 7 "reachable" (spP K φ_reach)) (c2 : Has P w K mg base 4 "coverage_row" (spP K φ_row)) (mT : mg "tuple" = none) (mR : mg "range" = none) (mL : mg "len" = none) : FnOk P w K mg base CX0 8 f fd ["system"] (spP K φ_cov) := by
  refine ok_P F sc_coverage (fun ds Q h => ?_) fun ds Q h cdv A outer s H E hr => ?_
  · obtain ⟨S, rfl, _⟩ := h
    rfl
  · obtain ⟨S, rfl, hS, hq⟩ := h
    have nd := sc_coverage.nd
    have h6 := hS.o6
    refine ds_cons (d1_asg (i := 1) nd rfl (by walk_at "loc") (de_call c1 (by walk_at "room") (by rfl) (da_cons (de_var 0 rfl (by nofun) rfl (by walk_at "vis") (da_nil ⟨[_], rfl, S, rfl, hS, ?_⟩)))))
    refine ds_cons (d1_ret (de_callTy call_tuple_of (by rfl) (by assumption) PyProof.Rows.boot_tuple (da_cons ?_)))
    refine de_lc rfl nd (blkOk_by (own := [("first", 2)]) (N := n_coverage) (sc := defScope s_coverage) (by decide +kernel)) (di_rng1 (by rfl) mR (de_callB call_len_seq (by rfl) mL PySem.boot_len (da_cons (de_ix (fun _ _ => rfl) (de_var 0 rfl (by nofun) rfl (by walk_at "vis") (de_int ⟨_, _, _, rfl, (by walk_at "seq"), rfl, (da_nil (ra_len (.tup _) ?_))⟩))))))
    rw [List.length_map]
    refine ⟨_, rfl, by omega, by omega, ?_⟩
    refine ⟨by rw [rgD_n]; omega, _, ⟨rfl, rfl⟩, lc_map (fun d => match d with | .int e => rowD S e.toNat | _ => .none) (fun x d hd s H C cl fp => ?_), fun acc ω3 hacc ⟨ew, ea⟩ => .inl ?_⟩
    · obtain ⟨hx, rfl⟩ := rgD_in hd
      refine dg_name (i := 2) nd rfl (.inl rfl) (by decide) ?_
      intro s H C cl fp
      exact de_call c2 (by walk_at "room") (by rfl) (da_cons (de_var 0 rfl (by nofun) rfl (by walk_at "vis") (da_cons (de_var 1 rfl (by nofun) rfl (by walk_at "vis") (da_cons (de_var 2 rfl (by nofun) rfl (by walk_at "vis") (da_nil ⟨[_, _, _], rfl, S, x, rfl, hS, hx, rfl, rfl⟩)))))))
    · rw [List.take_length] at ea
      subst ew ea
      have e : (rgD 0 (S.ops.length : Int)).map (fun d => match d with | .int e => rowD S e.toNat | _ => .none) = (List.range S.ops.length).map (rowD S) := by
        rw [rgD0, List.map_map]
        rfl
      rw [e]
      exact da_nil (ra_tuple (.lst _) ⟨_, rfl, hq⟩)
end
end
section
/-! ### thinning -/
def thn (c : Nat → Nat → Bool) : List Nat → List Nat
  | [] => []
  | e :: r => if r.any (c e) = true then thn c r else e :: thn c r
theorem thn_sub (c : Nat → Nat → Bool) : ∀ l : List Nat, ∀ e ∈ thn c l, e ∈ l
  | [], _, h => h
  | x :: r, e, h => by
    unfold thn at h
    split at h
    · exact List.mem_cons_of_mem _ (thn_sub c r e h)
    · rcases List.mem_cons.mp h with rfl | h
      · exact List.mem_cons_self
      · exact List.mem_cons_of_mem _ (thn_sub c r e h)
theorem thn_log {S : Sys} {c : Nat → Nat → Bool} {l : List Nat} (h : LogOk S l) : LogOk S (thn c l) := fun e he => h e (thn_sub c l e he)
theorem thn_len (c : Nat → Nat → Bool) : ∀ l : List Nat, (thn c l).length ≤ l.length
  | [] => Nat.le_refl _
  | x :: r => by
    have := thn_len c r
    unfold thn
    split
    · rw [List.length_cons]
      omega
    · rw [List.length_cons, List.length_cons]
      omega
/-- by positions -/
def staysAt (c : Nat → Nat → Bool) (l : List Nat) (p : Nat × Nat) : Bool := !(l.drop (p.2 + 1)).any (c p.1)
theorem thn_pos (c : Nat → Nat → Bool) (l : List Nat) : ∀ (pre suf : List Nat), l = pre ++ suf → ((suf.zipIdx pre.length).filter (staysAt c l)).map (·.1) = thn c suf
  | pre, [], _ => rfl
  | pre, e :: r, h => by
    have ih := thn_pos c l (pre ++ [e]) r (by rw [h, List.append_assoc]; rfl)
    rw [List.length_append] at ih
    have hd : l.drop (pre.length + 1) = r := by
      rw [h, show pre ++ e :: r = (pre ++ [e]) ++ r by rw [List.append_assoc]; rfl, show pre.length + 1 = (pre ++ [e]).length by rw [List.length_append]; rfl, List.drop_left]
    have hk : staysAt c l (e, pre.length) = !r.any (c e) := by
      unfold staysAt
      rw [hd]
    rw [List.zipIdx_cons, List.filter_cons, hk]
    unfold thn
    cases r.any (c e) with
    | true =>
      rw [if_pos rfl]
      exact ih
    | false =>
      show List.map (·.1) ((e, pre.length) :: List.filter (staysAt c l) (r.zipIdx (pre.length + 1))) = e :: thn c r
      rw [List.map_cons]
      exact congrArg _ ih
theorem thn_all (c : Nat → Nat → Bool) (l : List Nat) : (l.zipIdx.filter (staysAt c l)).map (·.1) = thn c l := thn_pos c l [] l rfl
/-! the last place of an entry -/
def lsp (l : List Nat) (x : Nat) : Nat := l.length - 1 - l.reverse.idxOf x
theorem lsp_snoc (l : List Nat) (y x : Nat) : lsp (l ++ [y]) x = if y = x then l.length else lsp l x := by
  unfold lsp
  rw [List.reverse_append, List.length_append, List.reverse_singleton, List.singleton_append, List.idxOf_cons]
  show l.length + 1 - 1 - _ = _
  by_cases h : y = x
  · subst h
    rw [if_pos rfl, beq_self_eq_true]
    rfl
  · rw [if_neg h, show (y == x) = false from beq_eq_false_iff_ne.mpr h]
    show l.length + 1 - 1 - (l.reverse.idxOf x + 1) = _
    omega
theorem lsp_drop {x a : Nat} : ∀ l : List Nat, x ∈ l → (a < lsp l x ↔ x ∈ l.drop (a + 1)) := by
  refine snoc_ind (fun h => by cases h) (fun l y ih h => ?_)
  rw [lsp_snoc]
  by_cases ha : a + 1 ≤ l.length
  · rw [List.drop_append_of_le_length ha, List.mem_append, List.mem_singleton]
    by_cases e : y = x
    · rw [if_pos e]
      exact ⟨fun _ => .inr e.symm, fun _ => by omega⟩
    · rw [if_neg e]
      rcases List.mem_append.mp h with h | h
      · rw [ih h]
        exact ⟨.inl, fun z => z.resolve_right fun q => e q.symm⟩
      · exact absurd (List.mem_singleton.mp h).symm e
  · rw [List.drop_eq_nil_of_le (by rw [List.length_append]; show l.length + 1 ≤ _; omega)]
    have hl : lsp l x ≤ l.length := by
      unfold lsp
      omega
    constructor
    · intro z
      split at z <;> omega
    · intro z
      cases z
def lastD (l : List Nat) : List (Key × D) := (fst l).map fun x : Nat => ((Sum.inl (x : Int) : Key), nD (lsp l x))
theorem fst_snoc (l : List Nat) (e : Nat) : fst (l ++ [e]) = fstep (fst l) e := by
  unfold fst
  rw [List.foldl_append]
  rfl
theorem fst_memA : ∀ l : List Nat, ∀ x, x ∈ fst l ↔ x ∈ l := by
  refine snoc_ind (fun _ => Iff.rfl) (fun l y ih' x => ?_)
  have ih := ih' x
  rw [fst_snoc]
  unfold fstep
  rw [List.mem_append, List.mem_singleton]
  split
  · next h =>
    rw [ih]
    refine ⟨.inl, fun z => z.elim id fun q => ?_⟩
    rw [q]
    exact (ih' y).mp h
  · rw [List.mem_append, List.mem_singleton, ih]
theorem fst_mem {x : Nat} (l : List Nat) : x ∈ fst l ↔ x ∈ l := fst_memA l x
theorem keyI_inj {a b : Nat} : ((Sum.inl (a : Int) : Key) = Sum.inl (b : Int)) ↔ a = b := by
  constructor
  · intro h
    injection h with h
    omega
  · rintro rfl
    rfl
theorem getK_map {f : Nat → D} {x : Nat} : ∀ L : List Nat, getK (L.map fun y : Nat => ((Sum.inl (y : Int) : Key), f y)) (.inl (x : Int)) = if x ∈ L then some (f x) else none
  | [] => rfl
  | y :: r => by
    have ih := getK_map (f := f) (x := x) r
    unfold getK at ih ⊢
    rw [List.map_cons, List.find?_cons]
    by_cases h : y = x
    · subst h
      rw [decide_eq_true rfl, if_pos List.mem_cons_self]
      rfl
    · rw [decide_eq_false (fun z => h (keyI_inj.mp z))]
      show Option.map _ (List.find? _ _) = _
      rw [ih]
      by_cases hm : x ∈ r
      · rw [if_pos hm, if_pos (List.mem_cons_of_mem _ hm)]
      · rw [if_neg hm, if_neg fun z => (List.mem_cons.mp z).elim (fun q => h q.symm) hm]
theorem lastD_get {l : List Nat} {x : Nat} (h : x ∈ l) : getK (lastD l) (.inl (x : Int)) = some (nD (lsp l x)) := by
  unfold lastD
  rw [getK_map, if_pos ((fst_mem l).mpr h)]
theorem lastD_of : ∀ l : List Nat, setsK (l.zipIdx.map fun p => ((Sum.inl (p.1 : Int) : Key), nD p.2)) = lastD l := by
  refine snoc_ind (by rfl) (fun l y ih => ?_)
  rw [List.zipIdx_append, List.map_append]
  show setsK (_ ++ [_]) = _
  rw [setsK_snoc, ih]
  show setK (lastD l) (.inl (y : Int)) (nD (0 + l.length)) = _
  rw [Nat.zero_add]
  have ha : ((lastD l).any fun p => decide (p.1 = (Sum.inl (y : Int) : Key))) = decide (y ∈ fst l) := by
    unfold lastD
    rw [List.any_map, Bool.eq_iff_iff, List.any_eq_true, decide_eq_true_iff]
    constructor
    · rintro ⟨x, hx, h⟩
      rw [← keyI_inj.mp (of_decide_eq_true h)]
      exact hx
    · exact fun h => ⟨y, h, decide_eq_true rfl⟩
  unfold setK
  rw [ha]
  unfold lastD
  rw [fst_snoc]
  unfold fstep
  by_cases h : y ∈ fst l
  · rw [decide_eq_true h, if_pos rfl, if_pos h, List.map_map]
    refine List.map_congr_left fun x _ => ?_
    show (if (Sum.inl (x : Int) : Key) = Sum.inl (y : Int) then _ else _) = _
    rw [lsp_snoc]
    by_cases e : x = y
    · subst e
      rw [if_pos rfl, if_pos rfl]
    · rw [if_neg fun z => e (keyI_inj.mp z), if_neg fun z => e z.symm]
  · rw [decide_eq_false h, if_neg (by decide), if_neg h, List.map_append]
    congr 1
    · refine List.map_congr_left fun x hx => ?_
      have hne : y ≠ x := fun z => h (by rw [z]; exact hx)
      rw [lsp_snoc, if_neg hne]
    · rw [List.map_singleton, lsp_snoc, if_pos rfl]
theorem covers_last (c : Nat → Nat → Bool) (l : List Nat) (e a : Nat) : ((fst l).any fun x => c e x && decide ((a : Int) < (lsp l x : Int))) = (l.drop (a + 1)).any (c e) := by
  rw [Bool.eq_iff_iff, List.any_eq_true, List.any_eq_true]
  constructor
  · rintro ⟨x, hx, h⟩
    rw [Bool.and_eq_true, decide_eq_true_iff] at h
    exact ⟨x, (lsp_drop l ((fst_mem l).mp hx)).mp (by omega), h.1⟩
  · rintro ⟨x, hx, h⟩
    have hm := List.mem_of_mem_drop hx
    have := (lsp_drop l hm).mpr hx
    refine ⟨x, (fst_mem l).mpr hm, ?_⟩
    rw [h, Bool.true_and]
    exact decide_eq_true (by omega)
theorem stays_take {c : Nat → Nat → Bool} {l : List Nat} {i e : Nat} (h : l[i]? = some e) : ((l.zipIdx.take (i + 1)).filter (staysAt c l)).map (·.1) = ((l.zipIdx.take i).filter (staysAt c l)).map (·.1) ++ if staysAt c l (e, i) = true then [e] else [] := by
  have hz : l.zipIdx[i]? = some (e, i) := by
    rw [List.getElem?_zipIdx, h, Nat.zero_add]
    rfl
  rw [List.take_add_one, hz, List.filter_append, List.map_append]
  congr 1
  show List.map _ (List.filter _ [(e, i)]) = _
  rw [List.filter_cons]
  cases staysAt c l (e, i) <;> rfl
end
section
/-! ### thinning, the program's -/
theorem row_at {S : Sys} {e : Nat} (he : e < S.ops.length) : atI ((List.range S.ops.length).map (rowD S)) (e : Int) = some (rowD S e) := by
  refine atI_nat ?_
  rw [List.getElem?_map, List.getElem?_range he]
  rfl
theorem cov_at {S : Sys} {e x : Nat} (hx : x < S.ops.length) : atI ((List.range S.ops.length).map fun b => PyData.bool (covered S e b)) (x : Int) = some (.bool (covered S e x)) := by
  refine atI_nat ?_
  rw [List.getElem?_map, List.getElem?_range hx]
  rfl
theorem fst_len2 (l : List Nat) : (lastD l).length ≤ l.length := by
  unfold lastD
  rw [List.length_map]
  exact fst_len l
def φ_iscov : List Sl → List Cell → PO1 → Prop := fun rs ω Pp => ∃ (S : Sys) (e a : Nat) (l : List Nat), rs = [.val (rowD S e), .own 0, .val (nD a)] ∧ ω = [fdC (lastD l)] ∧ LogOk S l ∧ l.length ≤ 90000 ∧ Pp (.val (.bool ((l.drop (a + 1)).any (covered S e)))) ω
def φ_thin : List D → (D → Prop) → Prop := fun ds P => ∃ S l, ds = [sysD S, logD l] ∧ S.Ok ∧ LogOk S l ∧ l.length ≤ 90000 ∧ P (logD (thn (covered S) l))
section
variable {P : Program} {w : World} {K : Fg} {mg : Str → Option Value} {base : Heap} {f : Addr} {fd : FuncData} {k : Nat}
theorem ok_is_covered (F : Fun K "is_covered" "is_covered" s_is_covered f fd) (mA : mg "any" = none) : FnOk P w K mg base CX0 1 f fd ["row", "last", "at"] (spU K φ_iscov) := by
  refine ok_U F sc_is_covered (fun rs ω Q h => ?_) fun rs ω Q h cdv A outer s H E hr => ?_
  · obtain ⟨S, e, a, l, rfl, _⟩ := h
    rfl
  · obtain ⟨S, e, a, l, rfl, rfl, hl, hz, hq⟩ := h
    have nd := sc_is_covered.nd
    have hu := hu_of hr
    refine ds_cons (d1_ret (de_callB (cr_any rfl) (by rfl) (by assumption) PyProof.Rows.boot_any (da_cons ?_)))
    refine de_lc rfl nd (blkOk_by (own := [("entry", 3)]) (N := n_is_covered) (sc := defScope s_is_covered) (by decide +kernel)) (di_fd (de_var 1 rfl (by nofun) rfl (by walk_at "vis") ⟨0, _, rfl, rfl, ?_⟩))
    have hlen := fst_len2 l
    refine ⟨by rw [List.length_map]; omega, _, ⟨rfl, rfl⟩, lc_map (fun d => match d with | .int x => .bool (covered S e x.toNat && decide ((a : Int) < (lsp l x.toNat : Int))) | _ => .none) (fun i d hd s H C cl fp => ?_), fun acc ω3 hacc ⟨ew, ea⟩ => .inl ?_⟩
    · have hd2 : ((lastD l).map fun q => keyD q.1)[i]? = some d := hd
      have em : ((lastD l).map fun q => keyD q.1) = (fst l).map nD := by
        unfold lastD
        rw [List.map_map]
        rfl
      rw [em] at hd2
      obtain ⟨x, hx, rfl⟩ := map_at hd2
      have hxl : x ∈ l := (fst_mem l).mp (List.mem_of_getElem? hx)
      have hxm := hl x hxl
      refine dg_name (i := 3) nd rfl (.inl rfl) (by decide) ?_
      intro s H C cl fp
      refine de_andB (x := covered S e x) (y := decide ((a : Int) < (lsp l x : Int))) (de_ix (fun _ _ => rfl) (de_var 0 rfl (by nofun) rfl (by walk_at "vis") (de_var 3 rfl (by nofun) rfl (by walk_at "vis") ⟨_, _, _, rfl, .tup _, cov_at hxm, rfl, rfl⟩))) (fun _ => ?_) ⟨rfl, rfl⟩
      exact de_one (de_cmp op_gt (nomark _) (de_fdget hu (fun _ _ => rfl) (de_var 1 rfl (by nofun) rfl (by walk_at "vis") (de_var 3 rfl (by nofun) rfl (by walk_at "vis") ⟨0, _, .inl (x : Int), _, rfl, rfl, rfl, lastD_get hxl, (de_var 2 rfl (by nofun) rfl (by walk_at "vis") (rr_I0 (fun _ _ => .bl _) ⟨rfl, rfl⟩))⟩))))
    · rw [List.take_length] at ea
      subst ew ea
      have e2 : ((lastD l).map fun q => keyD q.1).map (fun d => match d with | .int x => PyData.bool (covered S e x.toNat && decide ((a : Int) < (lsp l x.toNat : Int))) | _ => .none) = ((fst l).map fun x => covered S e x && decide ((a : Int) < (lsp l x : Int))).map PyData.bool := by
        unfold lastD
        rw [List.map_map, List.map_map, List.map_map]
        rfl
      rw [e2]
      refine da_nil (ra_any (.inl ⟨nofun, ?_⟩))
      have e3 : (((fst l).map fun x => covered S e x && decide ((a : Int) < (lsp l x : Int))).any id) = (l.drop (a + 1)).any (covered S e) := by
        rw [← covers_last (covered S) l e a, List.any_map]
        rfl
      rw [e3]
      exact hq
theorem ok_thinned (F : Fun K "thinned" "thinned" s_thinned f fd) (c1 : Has P w K mg base 6 "check_system" (spP K φ_check_system)) (c2 : Has P w K mg base 5 "check_log" (spP K φ_check_log)) (c3 : Has P w K mg base 8 "coverage" (spP K φ_cov)) (c4 : Has P w K mg base 1 "is_covered" (spU K φ_iscov)) (mE : mg "enumerate" = none) (mT : mg "tuple" = none) : FnOk P w K mg base CX0 9 f fd ["system", "log"] (spP K φ_thin) := by
  refine ok_P F sc_thinned (fun ds Q h => ?_) fun ds Q h cdv A outer s H E hr => ?_
  · obtain ⟨S, l, rfl, _⟩ := h
    rfl
  · obtain ⟨S, l, rfl, hS, hl, hz, hq⟩ := h
    have nd := sc_thinned.nd
    refine ds_cons (d1_expr (de_call c1 (by walk_at "room") (by rfl) (da_cons (de_var 0 rfl (by nofun) rfl (by walk_at "vis") (da_nil ⟨[_], rfl, _, rfl, sm_sys hS, isSys_of hS, ?_⟩)))))
    refine ds_cons (d1_expr (de_call c2 (by walk_at "room") (by rfl) (da_cons (de_var 0 rfl (by nofun) rfl (by walk_at "vis") (da_cons (de_var 1 rfl (by nofun) rfl (by walk_at "vis") (da_nil ⟨[_, _], rfl, _, _, rfl, sm_log (by omega), isLog_of hl, ?_⟩)))))))
    refine ds_cons (d1_asg (i := 2) nd rfl (by walk_at "loc") (de_call c3 (by walk_at "room") (by rfl) (da_cons (de_var 0 rfl (by nofun) rfl (by walk_at "vis") (da_nil ⟨[_], rfl, S, rfl, hS, ?_⟩)))))
    refine ds_cons (d1_asg (i := 3) nd rfl (by walk_at "loc") (de_dcK rfl nd (blkOk_by (own := [("at", 4), ("entry", 5)]) (N := n_thinned) (sc := defScope s_thinned) (by decide +kernel)) (di_enU (by rfl) mE (de_var 1 rfl (by nofun) rfl (by walk_at "vis") ⟨_, rfl, ?_⟩))))
    refine ⟨by rw [enD_len, List.length_map]; omega, l.zipIdx.map fun p => ((Sum.inl (p.1 : Int) : Key), nD p.2), by rw [enD_len, List.length_map, List.length_map, List.length_zipIdx], fun i d q hd hps => ?_, ?_⟩
    · obtain ⟨g, hg, rfl⟩ := enD_at hd
      obtain ⟨e, he, rfl⟩ := map_at hg
      obtain rfl : q = ((Sum.inl (e : Int) : Key), nD i) := by
        rw [List.getElem?_map, List.getElem?_zipIdx, he, Nat.zero_add] at hps
        exact (Option.some.inj hps).symm
      intro s H C cl fp
      refine dg_tup2 (i := 4) (j := 5) rfl nd rfl rfl (.inl rfl) (.inl rfl) (by decide) (by decide) ?_
      intro s H C cl fp
      exact de_var 5 rfl (by nofun) rfl (by walk_at "vis") ⟨rfl, de_var 4 rfl (by nofun) rfl (by walk_at "vis") ⟨rfl, rfl⟩⟩
    rw [lastD_of]
    refine ds_lockD (i := 3) (kx := 0) rfl rfl ?_
    refine ds_cons (d1_ret (de_callTy call_tuple_of (by rfl) mT PyProof.Rows.boot_tuple (da_cons ?_)))
    refine de_lc rfl nd (blkOk_by (own := [("at", 4), ("entry", 5)]) (N := n_thinned) (sc := defScope s_thinned) (by decide +kernel)) (di_enU (by rfl) mE (de_var 1 rfl (by nofun) rfl (by walk_at "vis") ⟨_, rfl, ?_⟩))
    refine ⟨by rw [enD_len, List.length_map]; omega, _, ⟨rfl, rfl⟩, lc_filt (fun d => match d with | .tuple [.int i, .int e] => staysAt (covered S) l (e.toNat, i.toNat) | _ => false) (fun d => match d with | .tuple [_, e] => e | _ => .none) (fun x d hd => ?_), fun acc ω3 hacc ⟨ew, ea⟩ => .inl ?_⟩
    · obtain ⟨g, hg, rfl⟩ := enD_at hd
      obtain ⟨e, he, rfl⟩ := map_at hg
      have hel := hl e (List.mem_of_getElem? he)
      intro s H C cl fp
      refine dg_tup2 (i := 4) (j := 5) rfl nd rfl rfl (.inl rfl) (.inl rfl) (by decide) (by decide) ⟨?_, fun _ => ?_⟩
      · intro s H C cl fp
        refine dt_not (dt_val (de_callU c4 (by walk_at "room") (by rfl) (da_cons (de_ix (fun _ _ => rfl) (de_var 2 rfl (by nofun) rfl (by walk_at "vis") (de_var 5 rfl (by nofun) rfl (by walk_at "vis") ⟨_, _, _, rfl, .tup _, row_at hel, da_cons (de_var 3 rfl (by nofun) rfl (by walk_at "vis") (da_cons (de_var 4 rfl (by nofun) rfl (by walk_at "vis") (da_nil ?_))))⟩))))))
        exact ⟨[0], [.val (rowD S e), .own 0, .val (nD x)], rfl, by simp, by decide, rfl, S, e, x, l, rfl, rfl, hl, hz, _, rfl, rfl, rfl⟩
      · intro s H C cl fp
        exact de_var 5 rfl (by nofun) rfl (by walk_at "vis") ⟨rfl, rfl⟩
    · rw [List.take_length] at ea
      subst ew ea
      refine da_nil (ra_tuple (.lst _) ⟨_, rfl, ?_⟩)
      have e : ((enD (l.map nD)).filter fun d => match d with | .tuple [.int i, .int e] => staysAt (covered S) l (e.toNat, i.toNat) | _ => false).map (fun d => match d with | .tuple [_, e] => e | _ => .none) = (thn (covered S) l).map nD := by
        unfold enD
        rw [List.zipIdx_map, List.map_map, List.filter_map, List.map_map, ← thn_all (covered S) l, List.map_map]
        rfl
      rw [e]
      exact hq
end
end
section
/-! ### what covers what -/
theorem endOf_appC (S : Sys) (s : Nat) (l m : List Nat) : endOf S s (l ++ m) = endOf S (endOf S s l) m := by
  unfold endOf
  rw [List.foldl_append]
theorem runP_end (S : Sys) : ∀ (l : List Nat) (x y : Nat), runP S l (x, y) = (endOf S x l, endOf S y l)
  | [], _, _ => rfl
  | e :: r, x, y => runP_end S r (step S e x) (step S e y)
def Cov (S : Sys) (a b : Nat) : Prop := ∀ v, LogOk S v → ∀ s ∈ reach S, endOf S (step S a s) (v ++ [b]) = endOf S s (v ++ [b])
theorem covered_iff {S : Sys} (hS : S.Ok) {a b : Nat} (ha : a < S.ops.length) : covered S a b = true ↔ Cov S a b := by
  refine Iff.trans (@decide_eq_true_iff _ (Classical.propDecidable _)) ?_
  constructor
  · intro h v hv s hs
    have h1 := h v hv
    rw [endOf_snoc, endOf_snoc]
    by_cases e : step S b (endOf S (step S a s) v) = step S b (endOf S s v)
    · exact e
    · refine absurd ⟨(step S a s, s), List.mem_map.mpr ⟨s, hs, rfl⟩, ?_⟩ h1
      rw [runP_end, mem_unlike]
      have hl := reach_lt hs
      exact ⟨⟨endOf_lt hS hv (step_at hS ha hl).1, endOf_lt hS hv hl⟩, e⟩
  · rintro h m hm ⟨p, hp, hw⟩
    obtain ⟨s, hs, rfl⟩ := List.mem_map.mp hp
    rw [runP_end, mem_unlike] at hw
    have h2 := h m hm s hs
    rw [endOf_snoc, endOf_snoc] at h2
    exact hw.2 h2
theorem cov_trans {S : Sys} (hS : S.Ok) {a b c : Nat} (ha : a < S.ops.length) (hb : b < S.ops.length) (hc : c < S.ops.length) (h1 : Cov S a b) (h2 : Cov S b c) : Cov S a c := by
  obtain ⟨cl, _⟩ := reach_closed hS
  intro v hv s hs
  have hsa : step S a s ∈ reach S := cl s hs a ha
  have ins : ∀ t ∈ reach S, endOf S t (v ++ [c]) = endOf S t (v ++ [b] ++ [c]) := fun t ht => by
    have q := h2 [] nofun (endOf S t v) (closed_end cl v t hv ht)
    rw [endOf_snoc, endOf_snoc, endOf_snoc]
    exact q.symm
  rw [ins _ hsa, ins s hs, endOf_snoc, endOf_snoc S s, h1 v hv s hs]
theorem covered_trans {S : Sys} (hS : S.Ok) {a b c : Nat} (ha : a < S.ops.length) (hb : b < S.ops.length) (hc : c < S.ops.length) (h1 : covered S a b = true) (h2 : covered S b c = true) : covered S a c = true :=
  (covered_iff hS ha).mpr (cov_trans hS ha hb hc ((covered_iff hS ha).mp h1) ((covered_iff hS hb).mp h2))
end
section
theorem endOf_app (S : Sys) (s : Nat) (l m : List Nat) : endOf S s (l ++ m) = endOf S (endOf S s l) m := endOf_appC S s l m
end
section
/-! ### right kinds: compacting changes no outcome -/
def RightAt (S : Sys) (s : Nat) : Prop := ∀ l ∈ tellL S, endOf S s l = endOf S s (l.drop 1)
theorem right_of {S : Sys} (h : faultS S = none) : ∀ s ∈ reach S, RightAt S s := fun s hs l hl => by
  have h1 := List.findSome?_eq_none_iff.mp h s hs
  unfold faultAt at h1
  have h2 := List.find?_eq_none.mp (Option.map_eq_none_iff.mp h1) l hl
  unfold bad at h2
  exact of_decide_eq_true (by simpa using h2)
theorem tell2 {S : Sys} {a b : Nat} (ha : a < S.ops.length) (hb : b < S.ops.length) (h1 : kk S a ≠ none) (h2 : kk S b = kk S a) : [a, b] ∈ tellL S := by
  refine List.mem_filter.mpr ⟨List.mem_append_left _ (List.mem_flatMap.mpr ⟨a, List.mem_range.mpr ha, List.mem_map.mpr ⟨b, List.mem_range.mpr hb, rfl⟩⟩), ?_⟩
  show (!decide (kk S a = none) && decide (kk S b = kk S a)) = true
  rw [decide_eq_false h1, decide_eq_true h2]
  rfl
theorem tell3 {S : Sys} {a m b : Nat} (ha : a < S.ops.length) (hm : m < S.ops.length) (hb : b < S.ops.length) (h1 : kk S a ≠ none) (h2 : kk S b = kk S a) (h3 : kk S m ≠ kk S a) : [a, m, b] ∈ tellL S := by
  refine List.mem_filter.mpr ⟨List.mem_append_right _ (List.mem_flatMap.mpr ⟨a, List.mem_range.mpr ha, List.mem_flatMap.mpr ⟨m, List.mem_range.mpr hm, List.mem_map.mpr ⟨b, List.mem_range.mpr hb, rfl⟩⟩⟩), ?_⟩
  show (!decide (kk S a = none) && decide (kk S b = kk S a) && !decide (kk S m = kk S a)) = true
  rw [decide_eq_false h1, decide_eq_true h2, decide_eq_false h3]
  rfl
/-- f may be left out before w g where w has none of its kind -/
theorem skip_first {S : Sys} {R : Nat → Prop} (hc : Closed S R) (hr : ∀ s, R s → RightAt S s) {f g : Nat} (hf : f < S.ops.length) (hg : g < S.ops.length) (h1 : kk S f ≠ none) (h2 : kk S g = kk S f) :
    ∀ (w : List Nat) (s : Nat), R s → LogOk S w → (∀ x ∈ w, kk S x ≠ kk S f) → endOf S s (f :: w ++ [g]) = endOf S s (w ++ [g])
  | [], s, hs, _, _ => hr s hs _ (tell2 hf hg h1 h2)
  | [x], s, hs, hw, hk => hr s hs _ (tell3 hf (hw x (by simp)) hg h1 h2 (hk x (by simp)))
  | x :: y :: r, s, hs, hw, hk => by
    have hx := hw x (by simp)
    have hw2 : LogOk S (y :: r) := fun e he => hw e (List.mem_cons_of_mem _ he)
    have hk2 : ∀ e ∈ y :: r, kk S e ≠ kk S f := fun e he => hk e (List.mem_cons_of_mem _ he)
    have hsf := hc s hs f hf
    have hsfx := hc _ hsf x hx
    have hsx := hc s hs x hx
    have i1 := skip_first hc hr hf hg h1 h2 (y :: r) (step S x (step S f s)) hsfx hw2 hk2
    have i2 := skip_first hc hr hf hg h1 h2 (y :: r) (step S x s) hsx hw2 hk2
    have i3 := hr s hs _ (tell3 hf hx hf h1 rfl (hk x (by simp)))
    have e3 : step S f (step S x (step S f s)) = step S f (step S x s) := i3
    show endOf S (step S x (step S f s)) ((y :: r) ++ [g]) = endOf S (step S x s) ((y :: r) ++ [g])
    rw [← i1, ← i2]
    show endOf S (step S f (step S x (step S f s))) _ = endOf S (step S f (step S x s)) _
    rw [e3]
/-- an entry that compacting leaves out may be left out -/
theorem skip_one {S : Sys} {R : Nat → Prop} (hc : Closed S R) (hr : ∀ s, R s → RightAt S s) {f : Nat} (hf : f < S.ops.length) (h1 : kk S f ≠ none) {r : List Nat} (hl : LogOk S r) (hm : kk S f ∈ r.map (kk S)) {s : Nat} (hs : R s) : endOf S s (f :: r) = endOf S s r := by
  have key : ∀ r : List Nat, kk S f ∈ r.map (kk S) → ∃ w g t, r = w ++ g :: t ∧ kk S g = kk S f ∧ ∀ x ∈ w, kk S x ≠ kk S f := by
    intro r
    induction r with
    | nil => exact fun h => nomatch h
    | cons x r ih =>
      intro h
      by_cases hx : kk S x = kk S f
      · exact ⟨[], x, r, rfl, hx, nofun⟩
      · rw [List.map_cons, List.mem_cons] at h
        obtain ⟨w, g, t, rfl, hg, hw⟩ := ih (h.resolve_left fun z => hx z.symm)
        refine ⟨x :: w, g, t, rfl, hg, fun y hy => ?_⟩
        rcases List.mem_cons.mp hy with rfl | hy
        · exact hx
        · exact hw y hy
  obtain ⟨w, g, t, rfl, hg, hw⟩ := key r hm
  have a1 := skip_first hc hr hf (hl g (by simp)) h1 hg w s hs (fun e he => hl e (List.mem_append_left _ he)) hw
  have a2 : f :: (w ++ g :: t) = (f :: w ++ [g]) ++ t := by simp
  have a3 : w ++ g :: t = (w ++ [g]) ++ t := by simp
  rw [a2, a3, endOf_app, endOf_app S s (w ++ [g]), a1]
theorem right_cmp {S : Sys} {R : Nat → Prop} (hc : Closed S R) (hr : ∀ s, R s → RightAt S s) : ∀ (l : List Nat) (s : Nat), LogOk S l → R s → endOf S s (cmp S l) = endOf S s l
  | [], _, _, _ => rfl
  | e :: r, s, hl, hs => by
    have hr2 : LogOk S r := fun x hx => hl x (List.mem_cons_of_mem _ hx)
    have he := hl e List.mem_cons_self
    show endOf S s (if keeps S e r = true then e :: cmp S r else cmp S r) = _
    split
    · exact right_cmp hc hr r (step S e s) hr2 (hc s hs e he)
    · next hk =>
      have h1 : kk S e ≠ none := fun z => hk (by unfold keeps; rw [decide_eq_true z]; rfl)
      have h2 : kk S e ∈ r.map (kk S) := by
        unfold keeps at hk
        rw [decide_eq_false h1, Bool.false_or] at hk
        cases hd : decide (kk S e ∈ r.map (kk S)) with
        | true => exact of_decide_eq_true hd
        | false =>
          rw [hd] at hk
          exact absurd rfl hk
      rw [right_cmp hc hr r s hr2 hs]
      exact (skip_one hc hr he h1 hr2 h2 hs).symm
end
section
/-! ### thinning keeps the outcome -/
theorem thn_end {S : Sys} (hS : S.Ok) : ∀ (l : List Nat) (s : Nat), LogOk S l → s ∈ reach S → endOf S s (thn (covered S) l) = endOf S s l
  | [], _, _, _ => rfl
  | e :: r, s, hl, hs => by
    obtain ⟨cl, _⟩ := reach_closed hS
    have he := hl e List.mem_cons_self
    have hlr : LogOk S r := fun x hx => hl x (List.mem_cons_of_mem _ hx)
    unfold thn
    cases hany : r.any (covered S e) with
    | false =>
      rw [if_neg (by decide)]
      exact thn_end hS r (step S e s) hlr (cl s hs e he)
    | true =>
      rw [if_pos rfl, thn_end hS r s hlr hs]
      obtain ⟨g, hg, hc⟩ := List.any_eq_true.mp hany
      obtain ⟨v, u, rfl⟩ := List.append_of_mem hg
      have hv : LogOk S v := fun x hx => hlr x (List.mem_append_left _ hx)
      have q := (covered_iff hS he).mp hc v hv s hs
      rw [show v ++ g :: u = v ++ [g] ++ u by rw [List.append_assoc]; rfl]
      show endOf S s (v ++ [g] ++ u) = endOf S (step S e s) (v ++ [g] ++ u)
      rw [endOf_appC S s (v ++ [g]) u, endOf_appC S (step S e s) (v ++ [g]) u, q]
theorem thn_thn (c : Nat → Nat → Bool) : ∀ l : List Nat, thn c (thn c l) = thn c l
  | [] => rfl
  | e :: r => by
    have ih := thn_thn c r
    show thn c (if r.any (c e) = true then thn c r else e :: thn c r) = if r.any (c e) = true then thn c r else e :: thn c r
    cases hany : r.any (c e) with
    | true => exact ih
    | false =>
      have h2 : (thn c r).any (c e) = false := by
        rw [List.any_eq_false] at hany ⊢
        exact fun x hx => hany x (thn_sub c r x hx)
      show (if (thn c r).any (c e) = true then _ else _) = _
      rw [h2, ih]
end
section
def apartS (S : Sys) (l m : List Nat) : Option Nat := (reach S).find? fun s => !decide (endOf S s l = endOf S s m)
theorem apartS_symm (S : Sys) (l m : List Nat) : apartS S l m = apartS S m l := by
  unfold apartS
  congr 1
  funext s
  congr 1
  rw [Bool.eq_iff_iff, decide_eq_true_eq, decide_eq_true_eq]
  exact eq_comm
def φ_apart : List D → (D → Prop) → Prop := fun ds P => ∃ S l m, ds = [sysD S, logD l, logD m] ∧ S.Ok ∧ LogOk S l ∧ LogOk S m ∧ l.length ≤ 100000 ∧ m.length ≤ 100000 ∧ P (kD (apartS S l m))
def φ_near : List D → List D → (D → List D → Prop) → Prop := fun cs ds P => ∃ (c : Int) (S : Sys) (l : List Nat), PenOk c cs ∧ ds = [sysD S, logD l] ∧ S.Ok ∧ LogOk S l ∧ l.length ≤ 1000 ∧ c ≤ 900000 ∧ ∀ (m : List Nat) cs', LogOk S m → m.length ≤ l.length + 1 → PenOk (c + 3) cs' → P (logD m) cs'
theorem shows_tri {S : Sys} (h : S.Ok) {l m : List Nat} (hl : LogOk S l) (hm : LogOk S m) (hz : l.length ≤ 1000) (hy : m.length ≤ 1000) : Shows (.tuple [sysD S, logD l, logD m]) := by
  refine .of ?_ ?_ ?_
  · show (shD (sysD S) && (shD (logD l) && (shD (logD m) && true))) = true
    rw [sh_sys h, sh_log (log_small h hl), sh_log (log_small h hm)]
    rfl
  · have h1 := depth_sys S
    have h2 := depth_log l
    have h3 := depth_log m
    show max (sysD S).depth (max (logD l).depth (max (logD m).depth 0)) + 1 ≤ 40
    omega
  · have h1 := bulk_sys h
    show (sysD S).bulk + 1 + ((logD l).bulk + 1 + ((logD m).bulk + 1 + 0)) ≤ 1000000
    rw [bulk_log, bulk_log]
    omega
theorem apartS_lt {S : Sys} (hS : S.Ok) {l m : List Nat} : ∀ i, apartS S l m = some i → i ≤ 1000000 := fun i h => by
  have h1 := reach_lt (List.mem_of_find?_eq_some h)
  have h2 := hS.n6
  omega
section
variable {P : Program} {w : World} {K : Fg} {mg : Str → Option Value} {base : Heap} {f : Addr} {fd : FuncData} {k : Nat}
theorem ok_apart (F : Fun K "apart" "apart" s_apart f fd) (c1 : Has P w K mg base 6 "check_system" (spP K φ_check_system)) (c2 : Has P w K mg base 5 "check_log" (spP K φ_check_log)) (c3 : Has P w K mg base 7 "reachable" (spP K φ_reach)) (c4 : Has P w K mg base 1 "end_of" (spP K φ_end_of)) :
    FnOk P w K mg base CX0 8 f fd ["system", "one", "other"] (spP K φ_apart) := by
  refine ok_P F sc_apart (fun ds Q h => ?_) fun ds Q h cdv A outer s H E hr => ?_
  · obtain ⟨S, l, m, rfl, _⟩ := h
    rfl
  · obtain ⟨S, l, m, rfl, hS, hl, hm, hzl, hzm, hq⟩ := h
    have nd := sc_apart.nd
    refine ds_cons (d1_expr (de_call c1 (by walk_at "room") (by rfl) (da_cons (de_var 0 rfl (by nofun) rfl (by walk_at "vis") (da_nil ⟨[_], rfl, _, rfl, sm_sys hS, isSys_of hS, ?_⟩)))))
    refine ds_cons (d1_expr (de_call c2 (by walk_at "room") (by rfl) (da_cons (de_var 0 rfl (by nofun) rfl (by walk_at "vis") (da_cons (de_var 1 rfl (by nofun) rfl (by walk_at "vis") (da_nil ⟨[_, _], rfl, _, _, rfl, sm_log hzl, isLog_of hl, ?_⟩)))))))
    refine ds_cons (d1_expr (de_call c2 (by walk_at "room") (by rfl) (da_cons (de_var 0 rfl (by nofun) rfl (by walk_at "vis") (da_cons (de_var 2 rfl (by nofun) rfl (by walk_at "vis") (da_nil ⟨[_, _], rfl, _, _, rfl, sm_log hzm, isLog_of hm, ?_⟩)))))))
    refine ds_cons (d1_for PassesOwn.never rfl (di_tup (de_call c3 (by walk_at "room") (by rfl) (da_cons (de_var 0 rfl (by nofun) rfl (by walk_at "vis") (da_nil ⟨[_], rfl, S, rfl, hS, _, rfl, ?_⟩))))))
    refine ⟨fun i δ' ω' => ∃ s3, δ' = [.val (sysD S), .val (logD l), .val (logD m), s3] ∧ ∀ s ∈ (reach S).take i, (!decide (endOf S s l = endOf S s m)) = false, ⟨.no, rfl, nofun⟩, ?_, ?_⟩
    · rintro i d δ' ω' hd ⟨s3, rfl, ht⟩
      obtain ⟨st, hst, rfl⟩ := map_at hd
      have hlt := reach_lt (List.mem_of_getElem? hst)
      refine dg_name (i := 3) nd rfl (by walk_at "loc") (by walk_at "mr") ?_
      refine ds_cons (d1_if (dt_cmp op_ne (nomark _) (de_call c4 (by walk_at "room") (by rfl) (da_cons (de_var 0 rfl (by nofun) rfl (by walk_at "vis") (da_cons (de_var 3 rfl (by nofun) rfl (by walk_at "vis") (da_cons (de_var 1 rfl (by nofun) rfl (by walk_at "vis") (da_nil ⟨[_, _, _], rfl, S, st, l, rfl, hS, hlt, hl, ?_⟩))))))))))
      refine de_call c4 (by walk_at "room") (by rfl) (da_cons (de_var 0 rfl (by nofun) rfl (by walk_at "vis") (da_cons (de_var 3 rfl (by nofun) rfl (by walk_at "vis") (da_cons (de_var 2 rfl (by nofun) rfl (by walk_at "vis") (da_nil ⟨[_, _, _], rfl, S, st, m, rfl, hS, hlt, hm, ?_⟩)))))))
      refine rr_neN ⟨_, rfl, ?_⟩
      refine ite2 (fun hc => ?_) (fun hc => ?_)
      · refine ds_cons (d1_ret (de_var 3 rfl (by nofun) rfl (by walk_at "vis") ⟨_, rfl, ?_⟩))
        have e : apartS S l m = some st := find_at (p := fun s => !decide (endOf S s l = endOf S s m)) hst ht hc
        rw [e] at hq
        exact hq
      · exact ds_nil (ds_nil ⟨_, rfl, take_more hst ht (Bool.eq_false_iff.mpr hc)⟩)
    · rintro δ' ω' ⟨s3, rfl, ht⟩
      rw [List.length_map, List.take_length] at ht
      have e : apartS S l m = none := find_no ht
      rw [e] at hq
      exact ds_cons (d1_ret (de_none ⟨_, rfl, hq⟩))
end
end
section
theorem rr_neB {X : Cx} {P : Sl → List Cell → Prop} {ω : List Cell} {a b : Bool} (hp : P (.val (.bool (!(a == b)))) ω) : RR X rNe (.val (.bool a)) (.val (.bool b)) ω P := fun B F H as v u w s1 s2 Q o => by
  obtain rfl := dp_bl_inv (sl_val s1)
  obtain rfl := dp_bl_inv (sl_val s2)
  refine ⟨rfl, ?_⟩
  rw [dec_bl]
  exact o.here w (.bl _) hp
end
section
section
variable {P : Program} {w : World} {K : Fg} {mg : Str → Option Value} {base : Heap} {f : Addr} {fd : FuncData} {k : Nat}
theorem ok_log (F : Fun K "_law_log" "_law_log" s_l_log f fd) (cD : Has P w K mg base 1 "_law_draw" (spL K φ_draw)) (mL : mg "len" = none) (mR : mg "range" = none) (mT : mg "tuple" = none) : FnOk P w K mg base CX0 2 f fd ["_law_pen_here", "_law_system_here", "_law_cap"] (spL K φ_log) := by
  refine ok_L F sc_l_log (fun cs ds Q h => ?_) fun cs ds Q h cdv A outer s H E hr => ?_
  · obtain ⟨c, S, cap, _, rfl, _⟩ := h
    rfl
  · obtain ⟨c, S, cap, hp, rfl, hS, hcap, hc, hq⟩ := h
    have nd := sc_l_log.nd
    have hO1 := hS.o1
    have hO6 := hS.o6
    refine ds_cons (d1_ret (de_callTy call_tuple_of (by rfl) (by assumption) PyProof.Rows.boot_tuple (da_cons ?_)))
    refine de_lc rfl nd (blkOk_by (own := [("_law_lap", 3)]) (N := n_l_log) (sc := defScope s_l_log) (by decide +kernel)) (di_rng1 (by rfl) (by assumption) (de_callL (by assumption) (by walk_at "room") (by rfl) (da_cons (de_var 0 rfl (by nofun) rfl (by walk_at "vis") (da_cons (de_plus (de_var 2 rfl (by nofun) rfl (by walk_at "vis") (de_int (.int ?_)))))))))
    refine da_nil ⟨_, _, [_], rfl, rfl, ?_⟩
    refine ⟨c, _, hp, rfl, by omega, by omega, by omega, fun n cs hn hp => ?_⟩
    refine ⟨_, rfl, by omega, by omega, ?_⟩
    refine ⟨by rw [rgD_len]; omega, fun j acc ω' => ∃ l cs, acc = l.map nD ∧ l.length = j ∧ LogOk S l ∧ PenOk (c + 1 + j) cs ∧ ω' = [.lst cs], ⟨[], _, rfl, rfl, nofun, hp.mono (by omega), rfl⟩, ?_, ?_⟩
    · rintro j d acc ω' hd ⟨l, cs, rfl, hl, hlo, hp, rfl⟩ s H C cl fp
      obtain ⟨hj, rfl⟩ := rgD_at hd
      refine dg_name (i := 3) nd rfl (.inl rfl) (by decide) ?_
      intro s H C cl fp
      refine dts_nil ?_
      dsimp only
      rw [if_pos rfl]
      intro s H C cl fp
      refine de_callL (by assumption) (by walk_at "room") (by rfl) (da_cons (de_var 0 rfl (by nofun) rfl (by walk_at "vis") (da_cons (de_callB call_len_seq (by rfl) (by assumption) PySem.boot_len (da_cons (de_ix (fun _ _ => rfl) (de_var 1 rfl (by nofun) rfl (by walk_at "vis") (de_int ⟨_, _, _, rfl, .tup _, rfl, da_nil (ra_len (.tup _) (da_nil ⟨_, _, [_], rfl, rfl, ?_⟩))⟩))))))))
      rw [List.length_map]
      refine ⟨_, _, hp, rfl, by omega, by omega, by omega, fun r cs hr' hp => ?_⟩
      exact ⟨_, rfl, l ++ [r], cs, snoc_map nD l r, by rw [List.length_append, hl]; rfl, snoc_all hlo (by omega), hp.mono (by omega), rfl⟩
    · rintro acc ω' _ ⟨l, cs, rfl, hl, hlo, hp, rfl⟩
      rw [rgD_len] at hl hp
      exact .inl (da_nil (ra_tuple (.lst _) ⟨_, _, rfl, rfl, hq l cs hlo (by omega) (hp.mono (by omega))⟩))
end
end
section
/-! ### the law of effects and logs -/
theorem mv_app {S : Sys} (hS : S.Ok) {a b : List Nat} (ha : LogOk S a) : movesOf S (a ++ b) = folS (reach S) (movesOf S a) (movesOf S b) := by
  unfold movesOf
  rw [fol_maps fun x hx => closed_end (reach_closed hS).1 a x ha hx]
  exact List.map_congr_left fun x _ => endOf_app S x a b
theorem mv_none {S : Sys} {a b : List Nat} : decide (movesOf S a = movesOf S b) = (apartS S a b).isNone := by
  unfold movesOf apartS
  rw [Bool.eq_iff_iff, decide_eq_true_eq, Option.isNone_iff_eq_none, List.find?_eq_none]
  constructor
  · intro h x hx
    have h1 := List.map_inj_left.mp h x hx
    rw [h1, decide_eq_true rfl]
    exact Bool.false_ne_true
  · intro h
    refine List.map_congr_left fun x hx => ?_
    have h1 := h x hx
    by_cases e : endOf S x a = endOf S x b
    · exact e
    · rw [decide_eq_false e] at h1
      exact absurd rfl h1
def repN (n : Nat) (l : List Nat) : List Nat := (List.replicate n l).flatten
theorem repN_D (n : Nat) (l : List Nat) : repD n (l.map nD) = (repN n l).map nD := by
  unfold repD repN
  induction n with
  | zero => rfl
  | succ n ih =>
    rw [List.replicate_succ, List.flatten_cons, ih, List.replicate_succ, List.flatten_cons, List.map_append]
theorem repN_ok {S : Sys} {l : List Nat} (h : LogOk S l) (n : Nat) : LogOk S (repN n l) := by
  unfold repN
  intro e he
  obtain ⟨m, hm, he⟩ := List.mem_flatten.mp he
  rw [List.eq_of_mem_replicate hm] at he
  exact h e he
theorem repN_len (n : Nat) (l : List Nat) : (repN n l).length = n * l.length := by
  unfold repN
  induction n with
  | zero => rw [Nat.zero_mul]; rfl
  | succ n ih => rw [List.replicate_succ, List.flatten_cons, List.length_append, ih, Nat.succ_mul, Nat.add_comm]
theorem mv_repN {S : Sys} (hS : S.Ok) {l : List Nat} (hl : LogOk S l) (n : Nat) : movesOf S (repN n l) = timS (reach S) (movesOf S l) n := by
  have key : ∀ (n : Nat) (x : Nat), x ∈ reach S → endOf S x (repN n l) = itN (stp (reach S) (movesOf S l)) n x := by
    intro n
    induction n with
    | zero => exact fun _ _ => rfl
    | succ n ih =>
      intro x hx
      have e1 : repN (n + 1) l = l ++ repN n l := by
        unfold repN
        rw [List.replicate_succ, List.flatten_cons]
      have e2 : stp (reach S) (movesOf S l) x = endOf S x l := stp_map (fun s => endOf S s l) hx
      rw [e1, endOf_app]
      show _ = itN (stp (reach S) (movesOf S l)) n (stp (reach S) (movesOf S l) x)
      rw [e2]
      exact ih _ (closed_end (reach_closed hS).1 l x hl hx)
  exact List.map_congr_left fun x hx => key n x hx
theorem fol_3 {S : Sys} {m : List Nat} (hm : MvOk S m) : folAll (reach S) (reach S) [m, m, m] = timS (reach S) m 3 := by
  have h0 : reach S = timS (reach S) m 0 := (tim_0 _ _).symm
  have h1 : m = timS (reach S) m 1 := (tim_1 (reach_nodup S) hm.1).symm
  show folS (reach S) (folS (reach S) (folS (reach S) (reach S) m) m) m = _
  rw [fol_reach hm]
  calc folS (reach S) (folS (reach S) m m) m = folS (reach S) (folS (reach S) (timS (reach S) m 1) (timS (reach S) m 1)) (timS (reach S) m 1) := by rw [← h1]
    _ = timS (reach S) m 3 := by rw [fol_it hm.1 hm.2, fol_it hm.1 hm.2]
theorem eqv_logL (m : List Nat) : (!PyData.eqv (.list (m.map nD)) (.list (m.map nD))) = false := by
  show (!PyData.eqvAll (m.map nD) (m.map nD)) = false
  rw [eqvAll_n, decide_eq_true rfl]
  rfl
theorem shp_ends {S : Sys} (hS : S.Ok) {m : List Nat} (h : MvOk S m) : SeqAt.shaped (.list (m.map nD)) = true := by
  have h1 := shp_mv hS h
  exact h1
section
variable {P : Program} {w : World} {K : Fg} {mg : Str → Option Value} {base : Heap} {f C : Addr} {fd : FuncData} {k : Nat}
theorem ok_law {gO pO gA gM gC gE pJ gJ : Addr} {mc : Value} {fo ro rc : Option Value} (F : Fun K "law" "law" s_law f fd) (T : EffT K mg C) (cPen : Has P w K mg base 1 "_law_pen" (spN K φ_pen)) (cCell : Has P w K mg base 1 "_law_cell_at" (spP K φ_cell)) (cSys : Has P w K mg base 4 "_law_system" (spL K (φ_gen 60))) (cLog : Has P w K mg base 2 "_law_log" (spL K φ_log))
    (cDraw : Has P w K mg base 1 "_law_draw" (spL K φ_draw)) (cRe : Has P w K mg base 7 "reachable" (spP K φ_reach)) (cRun : Has P w K mg base 7 "run" (spP K φ_run)) (cOut : Has P w K mg base 7 "outcome" (spP K φ_outcome)) (cAp : Has P w K mg base 8 "apart" (spP K φ_apart)) (cTh : Has P w K mg base 9 "thinned" (spP K φ_thin)) (cCm : Has P w K mg base 7 "compacted" (spP K φ_cmp)) (cFa : Has P w K mg base 8 "fault" (spP K φ_fault))
    (cO : HasM P w K mg base 10 gO (spS K (φ_eof C))) (cA : HasM P w K mg base 10 gA (spS K (φ_eadd C))) (cM : HasM P w K mg base 10 gM (spS K (φ_emul C))) (cC : HasM P w K mg base 4 gC (spS K (φ_ecall C))) (cE : HasM P w K mg base 3 gE (spS K (φ_eeq C))) (cJ : HasM P w K mg base 10 gJ (spS K (φ_joined C)))
    (rd : ClX.CRead K C mc) (qO : ClX.CMet K C mc "of" pO gO) (qJ : SMet K C mc "joined" pJ gJ) (hself : PySem.W.selfFirst K C = true) (hA : PySem.W.findIn K (.ref C) "__add__" = some (some (.ref gA))) (fA : PySem.W.isFn K (.ref gA) = true) (hM : PySem.W.findIn K (.ref C) "__mul__" = some (some (.ref gM))) (fM : PySem.W.isFn K (.ref gM) = true) (hMr : PySem.W.findIn K (.ref C) "__rmul__" = some rc) (hp2 : rc = none ∨ ∃ g : Addr, rc = some (.ref g)) (hi1 : PySem.W.findIn K (.type "int") "__mul__" = some fo) (hi2 : PySem.W.findIn K (.type "int") "__rmul__" = some ro) (hsub : PySem.W.subIn K (.type "int") (.ref C) = some false)
    (kC : StX.CallO K C gC) (hmro : PySem.W.mroIn K C (.type "object") = some true) (hne : PySem.W.findIn K (.ref C) "__ne__" = some (some (.builtin "object.__ne__"))) (heq : PySem.W.findIn K (.ref C) "__eq__" = some (some (.ref gE))) (fE : PySem.W.isFn K (.ref gE) = true) (hnf : PySem.W.notFirst K C (.ref C) = true)
    (mr : mg "range" = none) (mM : mg "max" = none) (mm : mg "min" = none) (mL : mg "len" = none) : FnG P w K mg base 12 f fd ["_law_script"] (spP K φLaw) := by
  refine ok_G F sc_law (fun ds Q h => ?_) fun ds Q h cdv A outer s H E hgd hr => ?_
  · obtain ⟨ns, rfl, _⟩ := h
    rfl
  · obtain ⟨ns, rfl, hns, hq⟩ := h
    have nd := sc_law.nd
    rw [show ("__add__" : Str) = PySem.dunder Operator.Add.info.2 by decide +kernel] at hA
    rw [show ("__mul__" : Str) = PySem.dunder Operator.Mult.info.2 by decide +kernel] at hM hi1
    rw [show ("__rmul__" : Str) = dunderR Operator.Mult.info.2 by decide +kernel] at hMr hi2
    refine ds_cons (d1_for PassesOwn.never rfl (di_rng1 (by rfl) (by assumption) (de_callB (call_max2 rfl) (by rfl) (by assumption) PyProof.Rows.boot_max (da_cons (de_int (da_cons (de_callB (call_min2 rfl) (by rfl) (by assumption) PyProof.Rows.boot_min (da_cons (de_callB call_len_seq (by rfl) mL PySem.boot_len (da_cons (de_var 0 rfl (by nofun) rfl (by walk_at "vis") (da_nil (ra_len (.lst _) (da_cons (de_int (da_nil (ra_min2 (da_nil (ra_max2 ?_)))))))))))))))))))
    rw [List.length_map]
    refine ⟨_, rfl, by split <;> split <;> omega, by split <;> split <;> omega, ?_⟩
    refine ⟨fun i δ' ω' => ∃ s1 s2 s3 s4 s5 s6 s7 s8 s9 s10 s11 s12 s13, δ' = [.val (.list (ns.map PyData.int)), s1, s2, s3, s4, s5, s6, s7, s8, s9, s10, s11, s12, s13], ⟨.no, .no, .no, .no, .no, .no, .no, .no, .no, .no, .no, .no, .no, rfl⟩, ?_, ?_⟩
    rotate_left
    · rintro δ' ω' ⟨s1, s2, s3, s4, s5, s6, s7, s8, s9, s10, s11, s12, s13, rfl⟩
      exact ds_cons (d1_ret (de_bool ⟨_, rfl, hq⟩))
    rintro i d δ' ω' hd ⟨s1, s2, s3, s4, s5, s6, s7, s8, s9, s10, s11, s12, s13, rfl⟩
    obtain ⟨_, rfl⟩ := rgD_at hd
    refine dg_name (i := 1) nd rfl (by walk_at "loc") (by walk_at "mr") ?_
    rw [Int.zero_add]
    refine ds_cons (d1_asg (i := 2) nd rfl (by walk_at "loc") (de_callN cPen (hr.mono (by decide)) (by rfl) (da_cons (de_call cCell (by walk_at "room") (by rfl) (da_cons (de_var 0 rfl (by nofun) rfl (by walk_at "vis") (da_cons (de_var 1 rfl (by nofun) rfl (by walk_at "vis") (da_nil ⟨[_, _], rfl, ns, i, rfl, fun z => ?_⟩)))))))))
    refine da_nil ⟨[_], rfl, z, rfl, fun cs hp => ?_⟩
    refine ds_cons (d1_for PassesOwn.never rfl (di_rng1 (by rfl) (by assumption) (de_int ⟨_, rfl, by omega, by omega, ?_⟩)))
    refine ⟨fun j δ' ω2 => ∃ cs s3 s4 s5 s6 s7 s8 s9 s10 s11 s12 s13, ω2 = ω' ++ [.lst cs] ∧ PenOk (200 * j) cs ∧ δ' = [.val (.list (ns.map PyData.int)), .val (.int (i : Int)), .own ω'.length, s3, s4, s5, s6, s7, s8, s9, s10, s11, s12, s13], ⟨cs, _, _, _, _, _, _, _, _, _, _, _, rfl, hp.mono (by omega), rfl⟩, ?_, ?_⟩
    rotate_left
    · rintro δ' ω2 ⟨cs, s3, s4, s5, s6, s7, s8, s9, s10, s11, s12, s13, rfl, hp, rfl⟩
      exact ds_nil ⟨_, _, _, _, _, _, _, _, _, _, _, _, _, rfl⟩
    rintro j d δ' ω2 hd ⟨cs, s3, s4, s5, s6, s7, s8, s9, s10, s11, s12, s13, rfl, hp, rfl⟩
    obtain ⟨hj, rfl⟩ := rgD_at hd
    have hj : j < 4 := hj
    refine dg_name (i := 3) nd rfl (by walk_at "loc") (by walk_at "mr") ?_
    refine ds_cons (d1_asg (i := 4) nd rfl (by walk_at "loc") (de_callLast cSys (hr.mono (by decide)) (by rfl) (da_cons (de_var 2 rfl (by nofun) rfl (by walk_at "vis") (da_nil ⟨_, _, [], rfl, rfl, ?_⟩)))))
    refine ⟨_, hp, rfl, by omega, fun S cs hS hp => ?_⟩
    have hl6 := reach_len hS
    refine ds_cons (d1_for PassesOwn.never rfl (di_rng1 (by rfl) (by assumption) (de_int ⟨_, rfl, by omega, by omega, ?_⟩)))
    refine ⟨fun x δ' ω2 => ∃ cs s5 s6 s7 s8 s9 s10 s11 s12 s13, ω2 = ω' ++ [.lst cs] ∧ PenOk (200 * j + 60 + 20 * x) cs ∧ δ' = [.val (.list (ns.map PyData.int)), .val (.int (i : Int)), .own ω'.length, .val (.int (0 + (j : Int))), .val (sysD S), s5, s6, s7, s8, s9, s10, s11, s12, s13], ⟨cs, _, _, _, _, _, _, _, _, _, rfl, hp.mono (by omega), rfl⟩, ?_, ?_⟩
    rotate_left
    · rintro δ' ω2 ⟨cs, s5, s6, s7, s8, s9, s10, s11, s12, s13, rfl, hp, rfl⟩
      exact ds_nil ⟨cs, _, _, _, _, _, _, _, _, _, _, _, rfl, hp.mono (by have : (rgD 0 4).length = 4 := rfl; omega), rfl⟩
    rintro x d δ' ω2 hd ⟨cs, s5, s6, s7, s8, s9, s10, s11, s12, s13, rfl, hp, rfl⟩
    obtain ⟨hx, rfl⟩ := rgD_at hd
    have hx : x < 4 := hx
    refine dg_name (i := 5) nd rfl (by walk_at "loc") (by walk_at "mr") ?_
    refine ds_cons (d1_tupA rfl (pgs_cons (pg_name (i := 6) nd rfl (by walk_at "loc")) (pgs_cons (pg_name (i := 7) nd rfl (by walk_at "loc")) (pgs_nil))) (.cons (.cons (.nil))) (da_cons (de_callLast cLog (hr.mono (by decide)) (by rfl) (da_cons (de_var 2 rfl (by nofun) rfl (by walk_at "vis") (da_cons (de_var 4 rfl (by nofun) rfl (by walk_at "vis") (da_cons (de_int (da_nil ⟨_, _, [_, _], rfl, rfl, _, S, 6, hp, rfl, hS, by decide, by omega, fun l1 cs hl1 hz1 hp => ?_⟩))))))))))
    refine da_cons (de_callLast cLog (hr.mono (by decide)) (by rfl) (da_cons (de_var 2 rfl (by nofun) rfl (by walk_at "vis") (da_cons (de_var 4 rfl (by nofun) rfl (by walk_at "vis") (da_cons (de_int (da_nil ⟨_, _, [_, _], rfl, rfl, _, S, 6, hp, rfl, hS, by decide, by omega, fun l2 cs hl2 hz2 hp => ?_⟩))))))))
    refine da_nil ⟨rfl, by walk_at "sz", ?_⟩
    have hl12 : LogOk S (l1 ++ l2) := fun e he => (List.mem_append.mp he).elim (hl1 e) (hl2 e)
    have hz12 : (l1 ++ l2).length ≤ 12 := by rw [List.length_append]; omega
    have hm1 := mv_of hS hl1
    have hm2 := mv_of hS hl2
    have hm12 := mv_of hS hl12
    have hsm : ∀ l : List Nat, l.length ≤ 100 → l.length ≤ 100000 := fun _ h => by omega
    refine ds_cons (d1_tupA rfl (pgs_cons (pg_name (i := 8) nd rfl (by walk_at "loc")) (pgs_cons (pg_name (i := 9) nd rfl (by walk_at "loc")) (pgs_nil))) (.cons (.cons (.nil))) (da_cons (de_cmeth cO rd qO (by walk_at "room") (de_cls (by rfl) T.mc ⟨rfl, da_cons (de_var 4 rfl (by nofun) rfl (by walk_at "vis") (da_cons (de_var 6 rfl (by nofun) rfl (by walk_at "vis") (da_nil ⟨rfl, S, l1, rfl, hS, hl1, by omega, rfl, ?_⟩))))⟩))))
    refine da_cons (de_cmeth cO rd qO (by walk_at "room") (de_cls (by rfl) T.mc ⟨rfl, da_cons (de_var 4 rfl (by nofun) rfl (by walk_at "vis") (da_cons (de_var 7 rfl (by nofun) rfl (by walk_at "vis") (da_nil ⟨rfl, S, l2, rfl, hS, hl2, by omega, rfl, da_nil ⟨rfl, by walk_at "sz", ?_⟩⟩))))⟩))
    refine ds_cons (d1_if (dt_cmp (op_neO cE hmro hne heq fE (by walk_at "room")) (nomark _) (de_bin (op_binO cA hself hA fA (by walk_at "room")) (de_var 8 rfl (by nofun) rfl (by walk_at "vis") (de_var 9 rfl (by nofun) rfl (by walk_at "vis") (rr_binO ⟨S, _, _, rfl, hS, hm1, hm2, rfl, ?_⟩))))))
    refine de_cmeth cO rd qO (by walk_at "room") (de_cls (by rfl) T.mc ⟨rfl, da_cons (de_var 4 rfl (by nofun) rfl (by walk_at "vis") (da_cons (de_bin op_plus (de_var 6 rfl (by nofun) rfl (by walk_at "vis") (de_var 7 rfl (by nofun) rfl (by walk_at "vis") (rr_plus (.tup (by walk_at "sz") ?_)))))))⟩)
    rw [← List.map_append]
    refine da_nil ⟨rfl, S, l1 ++ l2, rfl, hS, hl12, by omega, rfl, rr_neO (.ins _ T.cl T.isi) hnf rfl ⟨S, _, _, rfl, hS, mv_fol hm1 hm2, hm12, _, rfl, _, rfl, ?_⟩⟩
    rw [mv_app hS hl1, decide_eq_true rfl]
    refine iteF (ds_nil ?_)
    refine ds_cons (d1_if (dt_cmp op_ne (nomark _) (de_cmp (op_eqO cE heq fE (by walk_at "room")) (nomark _) (de_var 8 rfl (by nofun) rfl (by walk_at "vis") (de_var 9 rfl (by nofun) rfl (by walk_at "vis") (rr_eqO (.ins _ T.cl T.isi) hnf rfl ⟨S, _, _, rfl, hS, hm1, hm2, rfl, ?_⟩))))))
    refine de_cmp op_isN (nomark _) (de_call cAp (by walk_at "room") (by rfl) (da_cons (de_var 4 rfl (by nofun) rfl (by walk_at "vis") (da_cons (de_var 6 rfl (by nofun) rfl (by walk_at "vis") (da_cons (de_var 7 rfl (by nofun) rfl (by walk_at "vis") (da_nil ⟨[_, _, _], rfl, S, l1, l2, rfl, hS, hl1, hl2, by omega, by omega, de_none (rr_isN (rr_neB ⟨_, rfl, ?_⟩))⟩))))))))
    rw [isNon_kD, mv_none, show decide (apartS S l1 l2 = none) = (apartS S l1 l2).isNone by cases apartS S l1 l2 <;> rfl, beq_self_eq_true]
    refine iteF (ds_nil ?_)
    refine ds_cons (d1_asg (i := 10) nd rfl (by walk_at "loc") (de_callLast cDraw (hr.mono (by decide)) (by rfl) (da_cons (de_var 2 rfl (by nofun) rfl (by walk_at "vis") (da_cons (de_int (da_nil ⟨_, _, [_], rfl, rfl, _, 6, hp, rfl, by decide, by decide, by omega, fun n cs hn hp => ?_⟩)))))))
    have hn6 : n ≤ 5 := by omega
    refine ds_cons (d1_if (dt_w (dw_or (dt_cmp (op_neO cE hmro hne heq fE (by walk_at "room")) (nomark _) (de_bin (op_binI cM hself hM fM hMr hp2 hi1 hi2 hsub (by walk_at "room")) (de_var 8 rfl (by nofun) rfl (by walk_at "vis") (de_var 10 rfl (by nofun) rfl (by walk_at "vis") (rr_binI ⟨S, _, n, rfl, hS, hm1, by omega, rfl, ?_⟩))))))))
    refine de_cmeth cO rd qO (by walk_at "room") (de_cls (by rfl) T.mc ⟨rfl, da_cons (de_var 4 rfl (by nofun) rfl (by walk_at "vis") (da_cons (de_bin op_repA (de_var 6 rfl (by nofun) rfl (by walk_at "vis") (de_var 10 rfl (by nofun) rfl (by walk_at "vis") (rr_repV (by omega) (by rw [List.length_map]; omega) ?_))))))⟩)
    rw [repN_D]
    have hrz : (repN n l1).length ≤ 36 := by
      rw [repN_len]
      have := Nat.mul_le_mul hn6 hz1
      omega
    refine da_nil ⟨rfl, S, repN n l1, rfl, hS, repN_ok hl1 n, by omega, rfl, rr_neO (.ins _ T.cl T.isi) hnf rfl ⟨S, _, _, rfl, hS, mv_tim hm1 n, mv_of hS (repN_ok hl1 n), _, rfl, _, rfl, ?_⟩⟩
    rw [mv_repN hS hl1, decide_eq_true rfl]
    refine iteF (dw_or1 (dt_cmp (op_neO cE hmro hne heq fE (by walk_at "room")) (nomark _) ?_))
    refine de_smeth cJ rd qJ (by walk_at "room") (de_cls (by rfl) T.mc ⟨rfl, da_cons (de_bin op_repA (de_tupS (da_cons (de_var 8 rfl (by nofun) rfl (by walk_at "vis") (da_nil ⟨rfl, by walk_at "sz", de_int (rr_repS (n := 3) nofun (by decide) (by walk_at "sz") rfl ?_)⟩)))))⟩)
    refine da_nil ⟨rfl, S, [movesOf S l1, movesOf S l1, movesOf S l1], rfl, hS, ?_, nofun, by walk_at "sz", rfl, ?_⟩
    · intro m hm
      simp only [List.mem_cons, List.not_mem_nil, or_false] at hm
      rcases hm with rfl | rfl | rfl <;> exact hm1
    refine de_bin (op_binI cM hself hM fM hMr hp2 hi1 hi2 hsub (by walk_at "room")) (de_var 8 rfl (by nofun) rfl (by walk_at "vis") (de_int (rr_binI ⟨S, _, 3, rfl, hS, hm1, by omega, rfl, ?_⟩)))
    refine rr_neO (.ins _ T.cl T.isi) hnf rfl ⟨S, _, _, rfl, hS, mv_folAll (mv_reach S) ?_, mv_tim hm1 3, _, rfl, _, rfl, ?_⟩
    · intro m hm
      simp only [List.mem_cons, List.not_mem_nil, or_false] at hm
      rcases hm with rfl | rfl | rfl <;> exact hm1
    rw [fol_3 hm1, decide_eq_true rfl]
    refine iteF (ds_nil ?_)
    have el : ((reach S).map nD).map (fun d => match d with | .int i => nD (stp (reach S) (movesOf S l1) i.toNat) | _ => .none) = (movesOf S l1).map nD := by
      rw [List.map_map]
      exact (List.map_map (f := stp (reach S) (movesOf S l1)) (g := nD)).symm.trans (by rw [map_stp (reach_nodup S) hm1.1])
    have er : ((reach S).map nD).map (fun d => match d with | .int i => nD (endOf S i.toNat l1) | _ => .none) = (movesOf S l1).map nD := by
      unfold movesOf
      rw [List.map_map, List.map_map]
      rfl
    refine ds_cons (d1_if (dt_cmp (op_neD (Room.units hr)) (nomark _) ?_))
    refine de_lc rfl nd (blkOk_by (own := [("_law_state", 12)]) (N := n_law) (sc := defScope s_law) (by decide +kernel)) (di_tup (de_call cRe (by walk_at "room") (by rfl) (da_cons (de_var 4 rfl (by nofun) rfl (by walk_at "vis") (da_nil ⟨[_], rfl, S, rfl, hS, _, rfl, ?_⟩)))))
    refine ⟨by rw [List.length_map]; omega, _, ⟨rfl, rfl⟩, lc_map (fun d => match d with | .int i => nD (stp (reach S) (movesOf S l1) i.toNat) | _ => .none) (fun j d hd s H C' cl fp => ?_), fun acc ω' hacc ⟨ew, ea⟩ => .inl ?_⟩
    · obtain ⟨y, hy, rfl⟩ := map_at hd
      refine dg_name (i := 12) nd rfl (.inl rfl) (by decide) ?_
      intro s H C' cl fp
      exact de_callI cC kC (by walk_at "room") (de_var 8 rfl (by nofun) rfl (by walk_at "vis") ⟨effF S (movesOf S l1), rfl, da_cons (de_var 12 rfl (by nofun) rfl (by walk_at "vis") (da_nil ⟨rfl, S, _, y, rfl, hS, hm1, List.mem_of_getElem? hy, rfl, rfl, rfl⟩))⟩)
    rw [List.take_length] at ea
    subst ew ea
    rw [el]
    refine de_lc rfl nd (blkOk_by (own := [("_law_state", 12)]) (N := n_law) (sc := defScope s_law) (by decide +kernel)) (di_tup (de_call cRe (by walk_at "room") (by rfl) (da_cons (de_var 4 rfl (by nofun) rfl (by walk_at "vis") (da_nil ⟨[_], rfl, S, rfl, hS, _, rfl, ?_⟩)))))
    refine ⟨by rw [List.length_map]; omega, _, ⟨rfl, rfl⟩, lc_map (fun d => match d with | .int i => nD (endOf S i.toNat l1) | _ => .none) (fun j d hd s H C' cl fp => ?_), fun acc ω' hacc ⟨ew, ea⟩ => .inl ?_⟩
    · obtain ⟨y, hy, rfl⟩ := map_at hd
      refine dg_name (i := 12) nd rfl (.inl rfl) (by decide) ?_
      intro s H C' cl fp
      exact de_call cRun (by walk_at "room") (by rfl) (da_cons (de_var 4 rfl (by nofun) rfl (by walk_at "vis") (da_cons (de_var 12 rfl (by nofun) rfl (by walk_at "vis") (da_cons (de_var 6 rfl (by nofun) rfl (by walk_at "vis") (da_nil ⟨[_, _, _], rfl, S, y, l1, rfl, hS, reach_lt (List.mem_of_getElem? hy), hl1, by omega, rfl, rfl⟩)))))))
    rw [List.take_length] at ea
    subst ew ea
    rw [er]
    refine rr_neD (shp_ends hS hm1) (shp_ends hS hm1) ⟨_, rfl, ?_⟩
    rw [eqv_logL]
    refine iteF (ds_nil ?_)
    have hst := (reach_closed hS).2
    have hT : LogOk S (thn (covered S) (l1 ++ l2)) ∧ (thn (covered S) (l1 ++ l2)).length ≤ 12 ∧ endOf S S.st (thn (covered S) (l1 ++ l2)) = endOf S S.st (l1 ++ l2) := ⟨thn_log hl12, Nat.le_trans (thn_len _ _) hz12, thn_end hS (l1 ++ l2) S.st hl12 hst⟩
    refine ds_cut (fun δ2 ω2 => ∃ sh : List (List Nat), (∀ l ∈ sh, LogOk S l ∧ l.length ≤ 12 ∧ endOf S S.st l = endOf S S.st (l1 ++ l2)) ∧ sh.length ≤ 2 ∧ ω2 = ω' ++ [.lst cs] ∧ δ2 = [.val (.list (ns.map PyData.int)), .val (.int (i : Int)), .own ω'.length, .val (.int (0 + (j : Int))), .val (sysD S), .val (.int (0 + (x : Int))), .val (logD l1), .val (logD l2), effS C S (movesOf S l1), effS C S (movesOf S l2), .val (nD n), .kn (lstK (sh.map fun l => .val (logD l))), s12, s13])
      (d1_asg (i := 11) nd rfl (by walk_at "loc") (de_bin op_plus (de_lstS (da_cons (de_call cTh (by walk_at "room") (by rfl) (da_cons (de_var 4 rfl (by nofun) rfl (by walk_at "vis") (da_cons (de_bin op_plus (de_var 6 rfl (by nofun) rfl (by walk_at "vis") (de_var 7 rfl (by nofun) rfl (by walk_at "vis") (rr_plus (.tup (by walk_at "sz") ?_))))))))))))) ?_
    · rw [← List.map_append]
      refine da_nil ⟨[_, _], rfl, S, l1 ++ l2, rfl, hS, hl12, by omega, da_nil ⟨rfl, by walk_at "sz", ?_⟩⟩
      refine de_if (dt_cmp op_isN (nomark _) (de_call cFa (by walk_at "room") (by rfl) (da_cons (de_var 4 rfl (by nofun) rfl (by walk_at "vis") (da_nil ⟨[_], rfl, S, rfl, hS, de_none (rr_isN ⟨_, rfl, ?_⟩)⟩)))))
      rw [show isNon (fD (faultS S)) = decide (faultS S = none) by cases faultS S <;> rfl]
      refine ite2 (fun hc => ?_) (fun hc => ?_)
      · have hf := decide_eq_true_eq.mp hc
        refine de_lstS (da_cons (de_call cCm (by walk_at "room") (by rfl) (da_cons (de_var 4 rfl (by nofun) rfl (by walk_at "vis") (da_cons (de_bin op_plus (de_var 6 rfl (by nofun) rfl (by walk_at "vis") (de_var 7 rfl (by nofun) rfl (by walk_at "vis") (rr_plus (.tup (by walk_at "sz") ?_))))))))))
        rw [← List.map_append]
        refine da_nil ⟨[_, _], rfl, S, l1 ++ l2, rfl, hS, hl12, by omega, da_nil ⟨rfl, by walk_at "sz", rr_catLS (.lstK _) (.lstK _) rfl rfl (by walk_at "sz") ⟨[thn (covered S) (l1 ++ l2), cmp S (l1 ++ l2)], ?_, by walk_at "sz", rfl, rfl⟩⟩⟩
        intro l hl
        simp only [List.mem_cons, List.not_mem_nil, or_false] at hl
        rcases hl with rfl | rfl
        · exact hT
        · exact ⟨cmp_log hl12, Nat.le_trans (cmp_len _ _) hz12, right_cmp (reach_closed hS).1 (right_of hf) (l1 ++ l2) S.st hl12 hst⟩
      · refine de_lstS (da_nil ⟨rfl, by walk_at "sz", rr_catLS (.lstK _) (.lstK _) rfl rfl (by walk_at "sz") ⟨[thn (covered S) (l1 ++ l2)], ?_, by walk_at "sz", rfl, rfl⟩⟩)
        intro l hl
        rw [List.mem_singleton] at hl
        subst hl
        exact hT
    rintro δ2 ω2 ⟨sh, hsh, hshl, rfl, rfl⟩
    refine ds_cons (d1_if (dt_cmp (op_neD (Room.units hr)) (nomark _) ?_))
    refine de_lcS rfl nd (blkOk_by (own := [("_law_log_here", 13)]) (N := n_law) (sc := defScope s_law) (by decide +kernel)) (dis_lst (de_var 11 rfl (by nofun) rfl (by walk_at "vis") ⟨_, rfl, ?_⟩))
    refine ⟨by rw [List.length_map]; omega, _, fun _ _ _ _ => trivial, ⟨rfl, rfl⟩, lcS_filtA (fun l => Sl.val (logD l)) (fun _ => false) (fun _ => Sl.val (.int 1)) (fun j l hl s H C' cl fp => ?_), fun acc ω' hacc ⟨ew, ea⟩ => .inr ?_⟩
    · obtain ⟨g1, g2, g3⟩ := hsh l (List.mem_of_getElem? hl)
      refine dgs_name (i := 13) nd rfl (.inl rfl) (by decide) ⟨?_, fun hc => by cases hc⟩
      intro s H C' cl fp
      refine dt_cmp op_ne (nomark _) (de_callI cC kC (by walk_at "room") (de_cmeth cO rd qO (by walk_at "room") (de_cls (by rfl) T.mc ⟨rfl, da_cons (de_var 4 rfl (by nofun) rfl (by walk_at "vis") (da_cons (de_var 13 rfl (by nofun) rfl (by walk_at "vis") (da_nil ⟨rfl, S, l, rfl, hS, g1, by omega, rfl, effF S (movesOf S l), rfl, ?_⟩))))⟩)))
      refine da_cons (de_ix (fun _ _ => rfl) (de_var 4 rfl (by nofun) rfl (by walk_at "vis") (de_int ⟨_, ((1 : Nat) : Int), nD S.st, rfl, .tup _, atI_nat rfl, da_nil ⟨rfl, S, movesOf S l, S.st, rfl, hS, mv_of hS g1, hst, rfl, ?_⟩⟩)))
      refine de_call cOut (by walk_at "room") (by rfl) (da_cons (de_var 4 rfl (by nofun) rfl (by walk_at "vis") (da_cons (de_bin op_plus (de_var 6 rfl (by nofun) rfl (by walk_at "vis") (de_var 7 rfl (by nofun) rfl (by walk_at "vis") (rr_plus (.tup (by walk_at "sz") ?_))))))))
      rw [← List.map_append]
      refine da_nil ⟨[_, _], rfl, S, l1 ++ l2, rfl, hS, hl12, by omega, rr_neN ⟨_, rfl, ?_, rfl⟩⟩
      rw [show stp (reach S) (movesOf S l) S.st = endOf S S.st l from stp_map (fun s => endOf S s l) hst, g3, decide_eq_true rfl]
      rfl
    rw [List.length_map, List.take_length, List.filter_eq_nil_iff.mpr (fun _ _ => Bool.false_ne_true)] at ea
    subst ew ea
    refine ⟨[], rfl, .inl (de_lst (da_nil ⟨[], rfl, by walk_at "sz", rr_neD rfl rfl ⟨_, rfl, iteF (ds_nil ?_)⟩⟩))⟩
    exact ds_nil ⟨cs, _, _, _, _, _, _, _, _, _, rfl, hp.mono (by omega), rfl⟩
end
end
section
open PySem.W in
structure Def (K : Fg) (x : Str) (st : Stmt) : Prop where
  ex : ∃ (f : Addr) (fd : FuncData), Fun K x x st f fd ∧ nsIn K mainGlobals x = some (some (.ref f))
open PySem.W in
theorem Def.here {K : Fg} {x : Str} {st : Stmt} {f : Addr} {oc : Value} {od an : Option Addr} {sl : Array (Option Value)} {kV dc pm cd ct : Value} (a : nsIn K mainGlobals x = some (some (.ref f)))
    (l : K.lookup f = some ⟨oc, od, .func (fnOf x x (defArgs st) (defBody st) (defScope st) .none kV dc pm an cd ct), sl⟩) (c : codeIn K cd x = true) (k : keepIn K (.ref f) = true) : Def K x st :=
  ⟨f, _, fun_mk l c k, a⟩
section
variable {P : Program} {w : World} {K : Fg} {mg : Str → Option Value} {base h : Heap} {x : Str} {st : Stmt} {ps : List Str} {sp : Sp} {k : Nat}
theorem Has.of (D : Def K x st) (X : K.In h) (G : h.Ns mainGlobals mg) (ok : ∀ {f : Addr} {fd : FuncData}, Fun K x x st f fd → FnOk P w K mg base CX0 k f fd ps sp) (b : ∀ {f : Addr} {fd : FuncData}, Fun K x x st f fd → Binds K fd ps []) : Has P w K mg base k x sp := by
  obtain ⟨f, fd, F, a⟩ := D.ex
  exact ⟨f, fd, ps, ok F, PySem.W.mg_of X G a, F.kp, b F⟩
theorem HasG.of (D : Def K x st) (X : K.In h) (G : h.Ns mainGlobals mg) (ok : ∀ {f : Addr} {fd : FuncData}, Fun K x x st f fd → FnG P w K mg base k f fd ps sp) (b : ∀ {f : Addr} {fd : FuncData}, Fun K x x st f fd → Binds K fd ps []) : HasG P w K mg base k x sp := by
  obtain ⟨f, fd, F, a⟩ := D.ex
  exact ⟨f, fd, ps, ok F, PySem.W.mg_of X G a, F.kp, b F⟩
end
open PySem.W in
structure DefM (K : Fg) (x q : Str) (st : Stmt) (g : Addr) : Prop where
  ex : ∃ fd : FuncData, Fun K x q st g fd
open PySem.W in
theorem DefM.here {K : Fg} {x q : Str} {st : Stmt} {f : Addr} {oc : Value} {od an : Option Addr} {sl : Array (Option Value)} {kV dc pm cd ct : Value}
    (l : K.lookup f = some ⟨oc, od, .func (fnOf x q (defArgs st) (defBody st) (defScope st) .none kV dc pm an cd ct), sl⟩) (c : codeIn K cd q = true) (k : keepIn K (.ref f) = true) : DefM K x q st f :=
  ⟨_, fun_mk l c k⟩
theorem HasM.of {P : Program} {w : World} {K : Fg} {mg : Str → Option Value} {base : Heap} {x q : Str} {st : Stmt} {ps : List Str} {sp : Sp} {k : Nat} {g : Addr} (D : DefM K x q st g) (ok : ∀ {fd : FuncData}, Fun K x q st g fd → FnOk P w K mg base CX0 k g fd ps sp) (b : ∀ {fd : FuncData}, Fun K x q st g fd → Binds K fd ps []) : HasM P w K mg base k g sp := by
  obtain ⟨fd, F⟩ := D.ex
  exact ⟨fd, ps, ok F, b F⟩
open PySem.W in
theorem all_mk {P : Program} {w : World} {K : Fg} {h : Heap} {mg : Str → Option Value} {fa f0 : Addr} (X : K.In h) (G : h.Ns mainGlobals mg) (hfa : mg "law" = some (.ref fa))
    {oc : Value} {od an : Option Addr} {sl : Array (Option Value)} {kV dc pm cd ct : Value} {t1 t2 t3 t4 : Tok}
    {C_Effect g_Effect_init g_Effect_of p_Effect_Effect_of g_Effect_joined p_Effect_Effect_joined g_Effect_system p_Effect_Effect_system g_Effect_moves p_Effect_Effect_moves g_Effect_add g_Effect_mul g_Effect_call g_Effect_eq : Addr} {rest_Effect_Effect_of : List Value} {rest_Effect_Effect_joined : List Value} {rest_Effect_Effect_system : List Value} {rest_Effect_Effect_moves : List Value} {fo : Option Value} {ro : Option Value} (a_Effect : nsIn K mainGlobals "Effect" = some (some (.ref C_Effect))) (pg_Effect : plainGet K C_Effect Str.empty = true) (hd_Effect : hasDictIn K C_Effect = true) (po_Effect : plainOver K C_Effect = true) (sa_Effect : findIn K (.ref C_Effect) "__setattr__" = some (some (.builtin "object.__setattr__"))) (mk_Effect : makesIn K C_Effect = true) (kp_Effect : keepIn K (.ref C_Effect) = true) (na_Effect__system : findIn K (.ref C_Effect) "_system" = some none) (na_Effect__moves : findIn K (.ref C_Effect) "_moves" = some none) (na_Effect__reached : findIn K (.ref C_Effect) "_reached" = some none) (f_Effect_Effect_init : findIn K (.ref C_Effect) "__init__" = some (some (.ref g_Effect_init))) (i_Effect_Effect_init : isFn K (.ref g_Effect_init) = true) (d_Effect_init : DL.DefM K "__init__" "Effect.__init__" s_Effect_init g_Effect_init) (rd_Effect_Effect_of : readsIn K C_Effect (.type "type") = true) (ga_Effect_Effect_of : specialIn K (.ref C_Effect) "__getattribute__" = some (some (.builtin "type.__getattribute__"))) (f_Effect_Effect_of : findCls K (.ref C_Effect) (.type "type") "of" = some (.get (.builtin "classmethod.__get__") (.ref p_Effect_Effect_of) .none (.ref C_Effect))) (r_Effect_Effect_of : recIn K p_Effect_Effect_of "classmethod" = some (.ref g_Effect_of :: rest_Effect_Effect_of)) (i_Effect_Effect_of : fnIn K g_Effect_of = true) (d_Effect_of : DL.DefM K "of" "Effect.of" s_Effect_of g_Effect_of) (rd_Effect_Effect_joined : readsIn K C_Effect (.type "type") = true) (ga_Effect_Effect_joined : specialIn K (.ref C_Effect) "__getattribute__" = some (some (.builtin "type.__getattribute__"))) (f_Effect_Effect_joined : findCls K (.ref C_Effect) (.type "type") "joined" = some (.get (.builtin "staticmethod.__get__") (.ref p_Effect_Effect_joined) .none (.ref C_Effect))) (r_Effect_Effect_joined : recIn K p_Effect_Effect_joined "staticmethod" = some (.ref g_Effect_joined :: rest_Effect_Effect_joined)) (i_Effect_Effect_joined : keepIn K (.ref g_Effect_joined) = true) (d_Effect_joined : DL.DefM K "joined" "Effect.joined" s_Effect_joined g_Effect_joined) (f_Effect_Effect_system : findIn K (.ref C_Effect) "system" = some (some (.ref p_Effect_Effect_system))) (g1_Effect_Effect_system : specialIn K (.ref p_Effect_Effect_system) "__get__" = some (some (.builtin "property.__get__"))) (t_Effect_Effect_system : takesIn K (.ref p_Effect_Effect_system) = some true) (r_Effect_Effect_system : recIn K p_Effect_Effect_system "property" = some (.ref g_Effect_system :: rest_Effect_Effect_system)) (d_Effect_system : DL.DefM K "system" "Effect.system" s_Effect_system g_Effect_system) (f_Effect_Effect_moves : findIn K (.ref C_Effect) "moves" = some (some (.ref p_Effect_Effect_moves))) (g1_Effect_Effect_moves : specialIn K (.ref p_Effect_Effect_moves) "__get__" = some (some (.builtin "property.__get__"))) (t_Effect_Effect_moves : takesIn K (.ref p_Effect_Effect_moves) = some true) (r_Effect_Effect_moves : recIn K p_Effect_Effect_moves "property" = some (.ref g_Effect_moves :: rest_Effect_Effect_moves)) (d_Effect_moves : DL.DefM K "moves" "Effect.moves" s_Effect_moves g_Effect_moves) (f_Effect_Effect_add : findIn K (.ref C_Effect) "__add__" = some (some (.ref g_Effect_add))) (i_Effect_Effect_add : isFn K (.ref g_Effect_add) = true) (d_Effect_add : DL.DefM K "__add__" "Effect.__add__" s_Effect_add g_Effect_add) (f_Effect_Effect_mul : findIn K (.ref C_Effect) "__mul__" = some (some (.ref g_Effect_mul))) (i_Effect_Effect_mul : isFn K (.ref g_Effect_mul) = true) (d_Effect_mul : DL.DefM K "__mul__" "Effect.__mul__" s_Effect_mul g_Effect_mul) (f_Effect_Effect_call : findIn K (.ref C_Effect) "__call__" = some (some (.ref g_Effect_call))) (i_Effect_Effect_call : isFn K (.ref g_Effect_call) = true) (fi_Effect_Effect_call : fnIn K g_Effect_call = true) (d_Effect_call : DL.DefM K "__call__" "Effect.__call__" s_Effect_call g_Effect_call) (f_Effect_Effect_eq : findIn K (.ref C_Effect) "__eq__" = some (some (.ref g_Effect_eq))) (i_Effect_Effect_eq : isFn K (.ref g_Effect_eq) = true) (d_Effect_eq : DL.DefM K "__eq__" "Effect.__eq__" s_Effect_eq g_Effect_eq) (ca_Effect : findIn K (.ref C_Effect) "__class__" = some (some (.builtin "object.__class__"))) (cn_Effect : specialIn K (.builtin "object.__class__") "__get__" = some (some (.builtin "getset_descriptor.__get__"))) (ct_Effect : takesIn K (.builtin "object.__class__") = some true) (cm_Effect : mroIn K C_Effect (.type "object") = some true) (self_Effect : selfFirst K C_Effect = true) (rm_Effect : findIn K (.ref C_Effect) "__rmul__" = some none) (im_Effect : findIn K (.type "int") "__mul__" = some fo) (ir_Effect : findIn K (.type "int") "__rmul__" = some ro) (sub_Effect : subIn K (.type "int") (.ref C_Effect) = some false) (ne_Effect : findIn K (.ref C_Effect) "__ne__" = some (some (.builtin "object.__ne__")))
    (a : nsIn K mainGlobals "law" = some (some (.ref f0))) (l : K.lookup f0 = some ⟨oc, od, .func (fnOf "law" "law" (defArgs s_law) (defBody s_law) (defScope s_law) .none kV dc pm an cd ct), sl⟩) (c : codeIn K cd "law" = true) (k : keepIn K (.ref f0) = true)
    (d0 : Def K "_law_pen" s_l_pen) (d1 : Def K "_law_cell_at" s_l_cell_at) (d2 : Def K "_law_draw" s_l_draw) (d3 : Def K "_law_pick" s_l_pick) (d4 : Def K "_law_drawn" s_l_drawn) (d5 : Def K "_law_cells" s_l_cells) (d6 : Def K "_law_marks" s_l_marks) (d7 : Def K "_law_turns" s_l_turns) (d8 : Def K "_law_system" s_l_system) (d9 : Def K "_law_log" s_l_log) (d10 : Def K "is_number" s_is_number) (d11 : Def K "is_place" s_is_place) (d12 : Def K "are_places" s_are_places) (d13 : Def K "are_operations" s_are_operations) (d14 : Def K "are_kinds" s_are_kinds) (d15 : Def K "is_system" s_is_system) (d16 : Def K "is_log" s_is_log) (d17 : Def K "check_system" s_check_system) (d18 : Def K "check_log" s_check_log) (d19 : Def K "end_of" s_end_of) (d20 : Def K "run" s_run) (d21 : Def K "outcome" s_outcome) (d22 : Def K "first_paths" s_first_paths) (d23 : Def K "reachable" s_reachable) (d24 : Def K "apart" s_apart) (d25 : Def K "has_form" s_has_form) (d26 : Def K "telling_logs" s_telling_logs) (d27 : Def K "is_fault_at" s_is_fault_at) (d28 : Def K "fault" s_fault) (d29 : Def K "compacted" s_compacted) (d30 : Def K "is_reached" s_is_reached) (d31 : Def K "are_moves" s_are_moves) (d32 : Def K "reachable" s_reachable) (d33 : Def K "followed" s_followed) (d34 : Def K "repeated" s_repeated) (d37 : Def K "check_effects" s_check_effects) (d45 : Def K "fresh_pairs" s_fresh_pairs) (d46 : Def K "first_log_between" s_first_log_between) (d47 : Def K "telling_log" s_telling_log) (d48 : Def K "coverage_row" s_coverage_row) (d49 : Def K "coverage" s_coverage) (d50 : Def K "is_covered" s_is_covered) (d51 : Def K "thinned" s_thinned)
    (nst : nsIn K mainGlobals "MOST_STATES" = some (some (.int 6 t1))) (nops : nsIn K mainGlobals "MOST_OPERATIONS" = some (some (.int 6 t2))) (nkind : nsIn K mainGlobals "GREATEST_KIND" = some (some (.int 9 t3))) (nmt : nsIn K mainGlobals "MOST_TIMES" = some (some (.int 1000000000000 t4)))
     (z0 : nsIn K mainGlobals "all" = some none) (z1 : nsIn K mainGlobals "any" = some none) (z2 : nsIn K mainGlobals "bool" = some none) (z3 : nsIn K mainGlobals "dict" = some none) (z4 : nsIn K mainGlobals "enumerate" = some none) (z5 : nsIn K mainGlobals "int" = some none) (z6 : nsIn K mainGlobals "isinstance" = some none) (z7 : nsIn K mainGlobals "len" = some none) (z8 : nsIn K mainGlobals "list" = some none) (z9 : nsIn K mainGlobals "max" = some none) (z10 : nsIn K mainGlobals "min" = some none) (z11 : nsIn K mainGlobals "range" = some none) (z12 : nsIn K mainGlobals "sum" = some none) (z13 : nsIn K mainGlobals "tuple" = some none) (z14 : nsIn K mainGlobals "zip" = some none) :
    ∃ fd : FuncData, (∀ (s : Shared) (u : Value), BindsTo s fd ⟨[u], []⟩ [("_law_script", u)]) ∧ ∀ base : Heap, K.In base → base.Ns mainGlobals mg → FnG P w K mg base 12 fa fd ["_law_script"] (spP K φLaw) := by
  have e := hfa.symm.trans (mg_of X G a)
  cases e
  have ball := mg_none_of X G z0
  have bany := mg_none_of X G z1
  have bbool := mg_none_of X G z2
  have bdict := mg_none_of X G z3
  have benumerate := mg_none_of X G z4
  have bint := mg_none_of X G z5
  have bisinstance := mg_none_of X G z6
  have blen := mg_none_of X G z7
  have blist := mg_none_of X G z8
  have bmax := mg_none_of X G z9
  have bmin := mg_none_of X G z10
  have brange := mg_none_of X G z11
  have bsum := mg_none_of X G z12
  have btuple := mg_none_of X G z13
  have bzip := mg_none_of X G z14
  refine ⟨fnOf "law" "law" (defArgs s_law) (defBody s_law) (defScope s_law) .none kV dc pm an cd ct, fun s v => .of_eq rfl, fun base _ _ => ?_⟩
  have cls_Effect : Cls K C_Effect := ⟨pg_Effect, hd_Effect, po_Effect, sa_Effect⟩
  have mg_Effect := mg_of X G a_Effect
  have mk_Effect_ : Mk K C_Effect g_Effect_init := ⟨mk_Effect, f_Effect_Effect_init, i_Effect_Effect_init, kp_Effect⟩
  have rd_Effect_Effect_of_ : ClX.CRead K C_Effect (.type "type") := ⟨rd_Effect_Effect_of, ga_Effect_Effect_of⟩
  have q_Effect_Effect_of : ClX.CMet K C_Effect (.type "type") "of" p_Effect_Effect_of g_Effect_of := ⟨f_Effect_Effect_of, ⟨_, r_Effect_Effect_of⟩, i_Effect_Effect_of⟩
  have rd_Effect_Effect_joined_ : ClX.CRead K C_Effect (.type "type") := ⟨rd_Effect_Effect_joined, ga_Effect_Effect_joined⟩
  have q_Effect_Effect_joined : SMet K C_Effect (.type "type") "joined" p_Effect_Effect_joined g_Effect_joined := ⟨f_Effect_Effect_joined, ⟨_, r_Effect_Effect_joined⟩, i_Effect_Effect_joined⟩
  have q_Effect_Effect_system : PropOf K C_Effect "system" p_Effect_Effect_system g_Effect_system := ⟨f_Effect_Effect_system, g1_Effect_Effect_system, t_Effect_Effect_system, ⟨_, r_Effect_Effect_system⟩⟩
  have q_Effect_Effect_moves : PropOf K C_Effect "moves" p_Effect_Effect_moves g_Effect_moves := ⟨f_Effect_Effect_moves, g1_Effect_Effect_moves, t_Effect_Effect_moves, ⟨_, r_Effect_Effect_moves⟩⟩
  have co_Effect_Effect_call : StX.CallO K C_Effect g_Effect_call := ⟨f_Effect_Effect_call, i_Effect_Effect_call, fi_Effect_Effect_call⟩
  have isi_Effect : SlX.SIsi K C_Effect := ⟨ca_Effect, cn_Effect, ct_Effect, cm_Effect⟩
  have kit_Effect : PySem.W.kitOne K (.ref C_Effect) (.ref C_Effect) = some true := by simp [PySem.W.kitOne]
  have T : EffT K mg C_Effect := ⟨cls_Effect, na_Effect__system, na_Effect__moves, na_Effect__reached, mg_Effect, isi_Effect, kit_Effect⟩
  have hnf : PySem.W.notFirst K C_Effect (.ref C_Effect) = true := by simp [PySem.W.notFirst]
  have c__law_pen : Has P w K mg base 1 "_law_pen" (spN K φ_pen) := Has.of d0 X G (fun F => ok_pen F bmax) (fun F => F.binds fun _ _ _ _ _ _ us hl => match us, hl with | [_], _ => rfl)
  have c__law_cell_at : Has P w K mg base 1 "_law_cell_at" (spP K φ_cell) := Has.of d1 X G (fun F => ok_cell F blen) (fun F => F.binds fun _ _ _ _ _ _ us hl => match us, hl with | [_, _], _ => rfl)
  have c__law_draw : Has P w K mg base 1 "_law_draw" (spL K φ_draw) := Has.of d2 X G (fun F => ok_draw F) (fun F => F.binds fun _ _ _ _ _ _ us hl => match us, hl with | [_, _], _ => rfl)
  have c__law_pick : Has P w K mg base 2 "_law_pick" (spL K φ_pick) := Has.of d3 X G (fun F => ok_pick F c__law_draw blen) (fun F => F.binds fun _ _ _ _ _ _ us hl => match us, hl with | [_, _], _ => rfl)
  have c__law_drawn : Has P w K mg base 3 "_law_drawn" (spL K (φ_gen 50)) := Has.of d4 X G (fun F => ok_drawn F c__law_draw c__law_pick brange btuple) (fun F => F.binds fun _ _ _ _ _ _ us hl => match us, hl with | [_], _ => rfl)
  have c__law_cells : Has P w K mg base 3 "_law_cells" (spL K (φ_gen 50)) := Has.of d5 X G (fun F => ok_cells F c__law_draw c__law_pick brange btuple) (fun F => F.binds fun _ _ _ _ _ _ us hl => match us, hl with | [_], _ => rfl)
  have c__law_marks : Has P w K mg base 3 "_law_marks" (spL K (φ_gen 50)) := Has.of d6 X G (fun F => ok_marks F c__law_draw c__law_pick brange btuple bsum) (fun F => F.binds fun _ _ _ _ _ _ us hl => match us, hl with | [_], _ => rfl)
  have c__law_turns : Has P w K mg base 3 "_law_turns" (spL K (φ_gen 50)) := Has.of d7 X G (fun F => ok_turns F c__law_draw c__law_pick brange btuple bmax blist) (fun F => F.binds fun _ _ _ _ _ _ us hl => match us, hl with | [_], _ => rfl)
  have c__law_system : Has P w K mg base 4 "_law_system" (spL K (φ_gen 60)) := Has.of d8 X G (fun F => ok_system F c__law_draw c__law_drawn c__law_cells c__law_marks c__law_turns blen) (fun F => F.binds fun _ _ _ _ _ _ us hl => match us, hl with | [_], _ => rfl)
  have c__law_log : Has P w K mg base 2 "_law_log" (spL K φ_log) := Has.of d9 X G (fun F => ok_log F c__law_draw blen brange btuple) (fun F => F.binds fun _ _ _ _ _ _ us hl => match us, hl with | [_, _, _], _ => rfl)
  have c_is_number : Has P w K mg base 1 "is_number" (spP K φ_is_number) := Has.of d10 X G (fun F => ok_is_number F bisinstance bint bbool) (fun F => F.binds fun _ _ _ _ _ _ us hl => match us, hl with | [_, _, _], _ => rfl)
  have c_is_place : Has P w K mg base 2 "is_place" (spP K φ_is_place) := Has.of d11 X G (fun F => ok_is_place F c_is_number) (fun F => F.binds fun _ _ _ _ _ _ us hl => match us, hl with | [_, _], _ => rfl)
  have c_are_places : Has P w K mg base 3 "are_places" (spP K φ_are_places) := Has.of d12 X G (fun F => ok_are_places F c_is_place bisinstance btuple ball) (fun F => F.binds fun _ _ _ _ _ _ us hl => match us, hl with | [_, _], _ => rfl)
  have c_are_operations : Has P w K mg base 4 "are_operations" (spP K φ_are_operations) := Has.of d13 X G (fun F => ok_are_operations F c_are_places bisinstance btuple ball blen (mg_of X G nops)) (fun F => F.binds fun _ _ _ _ _ _ us hl => match us, hl with | [_, _], _ => rfl)
  have c_are_kinds : Has P w K mg base 4 "are_kinds" (spP K φ_are_kinds) := Has.of d14 X G (fun F => ok_are_kinds F c_is_number bisinstance btuple ball blen (mg_of X G nkind)) (fun F => F.binds fun _ _ _ _ _ _ us hl => match us, hl with | [_, _], _ => rfl)
  have c_is_system : Has P w K mg base 5 "is_system" (spP K φ_is_system) := Has.of d15 X G (fun F => ok_is_system F c_is_number c_is_place c_are_operations c_are_kinds bisinstance btuple blen (mg_of X G nst)) (fun F => F.binds fun _ _ _ _ _ _ us hl => match us, hl with | [_], _ => rfl)
  have c_is_log : Has P w K mg base 4 "is_log" (spP K φ_is_log) := Has.of d16 X G (fun F => ok_is_log F c_are_places blen) (fun F => F.binds fun _ _ _ _ _ _ us hl => match us, hl with | [_, _], _ => rfl)
  have c_check_system : Has P w K mg base 6 "check_system" (spP K φ_check_system) := Has.of d17 X G (fun F => ok_check_system F c_is_system) (fun F => F.binds fun _ _ _ _ _ _ us hl => match us, hl with | [_], _ => rfl)
  have c_check_log : Has P w K mg base 5 "check_log" (spP K φ_check_log) := Has.of d18 X G (fun F => ok_check_log F c_is_log) (fun F => F.binds fun _ _ _ _ _ _ us hl => match us, hl with | [_, _], _ => rfl)
  have c_end_of : Has P w K mg base 1 "end_of" (spP K φ_end_of) := Has.of d19 X G (fun F => ok_end_of F) (fun F => F.binds fun _ _ _ _ _ _ us hl => match us, hl with | [_, _, _], _ => rfl)
  have c_run : Has P w K mg base 7 "run" (spP K φ_run) := Has.of d20 X G (fun F => ok_run F c_check_system c_is_place c_check_log c_end_of) (fun F => F.binds fun _ _ _ _ _ _ us hl => match us, hl with | [_, _, _], _ => rfl)
  have c_outcome : Has P w K mg base 7 "outcome" (spP K φ_outcome) := Has.of d21 X G (fun F => ok_outcome F c_check_system c_check_log c_end_of) (fun F => F.binds fun _ _ _ _ _ _ us hl => match us, hl with | [_, _], _ => rfl)
  have c_first_paths : Has P w K mg base 1 "first_paths" (spD K φ_paths) := Has.of d22 X G (fun F => ok_first_paths F benumerate) (fun F => F.binds fun _ _ _ _ _ _ us hl => match us, hl with | [_], _ => rfl)
  have c_reachable : Has P w K mg base 7 "reachable" (spP K φ_reach) := Has.of d23 X G (fun F => ok_reachable F c_check_system c_first_paths brange btuple) (fun F => F.binds fun _ _ _ _ _ _ us hl => match us, hl with | [_], _ => rfl)
  have c_apart : Has P w K mg base 8 "apart" (spP K φ_apart) := Has.of d24 X G (fun F => ok_apart F c_check_system c_check_log c_reachable c_end_of) (fun F => F.binds fun _ _ _ _ _ _ us hl => match us, hl with | [_, _, _], _ => rfl)
  have c_has_form : Has P w K mg base 1 "has_form" (spP K φ_form) := Has.of d25 X G (fun F => ok_has_form F blen) (fun F => F.binds fun _ _ _ _ _ _ us hl => match us, hl with | [_, _], _ => rfl)
  have c_telling_logs : Has P w K mg base 2 "telling_logs" (spP K φ_tell) := Has.of d26 X G (fun F => ok_telling_logs F c_has_form brange blen) (fun F => F.binds fun _ _ _ _ _ _ us hl => match us, hl with | [_], _ => rfl)
  have c_is_fault_at : Has P w K mg base 2 "is_fault_at" (spP K φ_bad) := Has.of d27 X G (fun F => ok_is_fault_at F c_end_of) (fun F => F.binds fun _ _ _ _ _ _ us hl => match us, hl with | [_, _, _], _ => rfl)
  have c_fault : Has P w K mg base 8 "fault" (spP K φ_fault) := Has.of d28 X G (fun F => ok_fault F c_check_system c_telling_logs c_reachable c_is_fault_at) (fun F => F.binds fun _ _ _ _ _ _ us hl => match us, hl with | [_], _ => rfl)
  have c_compacted : Has P w K mg base 7 "compacted" (spP K φ_cmp) := Has.of d29 X G (fun F => ok_compacted F c_check_system c_check_log benumerate btuple) (fun F => F.binds fun _ _ _ _ _ _ us hl => match us, hl with | [_, _], _ => rfl)
  have c_is_reached : Has P w K mg base 3 "is_reached" (spP K φ_isr) := Has.of d30 X G (fun F => ok_is_reached F c_is_place (mg_of X G nst)) (fun F => F.binds fun _ _ _ _ _ _ us hl => match us, hl with | [_, _], _ => rfl)
  have c_are_moves : Has P w K mg base 4 "are_moves" (spP K φ_isMv) := Has.of d31 X G (fun F => ok_are_moves F c_is_reached bisinstance btuple blen ball) (fun F => F.binds fun _ _ _ _ _ _ us hl => match us, hl with | [_, _], _ => rfl)
  have c_reachF : Has P w K mg base 7 "reachable" (spS K φ_reachF) := Has.of d32 X G (fun F => ok_reachF F c_check_system c_first_paths brange btuple) (fun F => F.binds fun _ _ _ _ _ _ us hl => match us, hl with | [_], _ => rfl)
  have c_followed : Has P w K mg base 1 "followed" (spP K φ_foll) := Has.of d33 X G (fun F => ok_followed F bdict bzip btuple) (fun F => F.binds fun _ _ _ _ _ _ us hl => match us, hl with | [_, _, _], _ => rfl)
  have c_repeated : Has P w K mg base 2 "repeated" (spP K φ_rep) := Has.of d34 X G (fun F => ok_repeated F c_followed) (fun F => F.binds fun _ _ _ _ _ _ us hl => match us, hl with | [_, _, _], _ => rfl)
  have m_Effect_system : HasM P w K mg base 1 g_Effect_system (spS K (φ_eget C_Effect "_system")) := HasM.of d_Effect_system (fun F => ok_eget T F sc_Effect_system rfl na_Effect__system) (fun F => F.binds fun _ _ _ _ _ _ us hl => match us, hl with | [_], _ => rfl)
  have m_Effect_moves : HasM P w K mg base 1 g_Effect_moves (spS K (φ_eget C_Effect "_moves")) := HasM.of d_Effect_moves (fun F => ok_eget T F sc_Effect_moves rfl na_Effect__moves) (fun F => F.binds fun _ _ _ _ _ _ us hl => match us, hl with | [_], _ => rfl)
  have c_check_effects : Has P w K mg base 3 "check_effects" (spS K (φ_chk C_Effect)) := Has.of d37 X G (fun F => ok_check_effects T F m_Effect_system q_Effect_Effect_system bisinstance btuple ball) (fun F => F.binds fun _ _ _ _ _ _ us hl => match us, hl with | [_], _ => rfl)
  have m_Effect_init : HasM P w K mg base 8 g_Effect_init (spU K (φ_einit C_Effect)) := HasM.of d_Effect_init (fun F => ok_einit T F c_reachF c_are_moves) (fun F => F.binds fun _ _ _ _ _ _ us hl => match us, hl with | [_, _, _], _ => rfl)
  have m_Effect_add : HasM P w K mg base 10 g_Effect_add (spS K (φ_eadd C_Effect)) := HasM.of d_Effect_add (fun F => ok_eadd T F c_check_effects c_followed m_Effect_moves q_Effect_Effect_moves m_Effect_init mk_Effect_) (fun F => F.binds fun _ _ _ _ _ _ us hl => match us, hl with | [_, _], _ => rfl)
  have m_Effect_mul : HasM P w K mg base 10 g_Effect_mul (spS K (φ_emul C_Effect)) := HasM.of d_Effect_mul (fun F => ok_emul T F c_is_number c_repeated m_Effect_init mk_Effect_ (mg_of X G nmt)) (fun F => F.binds fun _ _ _ _ _ _ us hl => match us, hl with | [_, _], _ => rfl)
  have m_Effect_call : HasM P w K mg base 4 g_Effect_call (spS K (φ_ecall C_Effect)) := HasM.of d_Effect_call (fun F => ok_ecall T F c_is_reached) (fun F => F.binds fun _ _ _ _ _ _ us hl => match us, hl with | [_, _], _ => rfl)
  have m_Effect_eq : HasM P w K mg base 3 g_Effect_eq (spS K (φ_eeq C_Effect)) := HasM.of d_Effect_eq (fun F => ok_eeq T F m_Effect_system q_Effect_Effect_system m_Effect_moves q_Effect_Effect_moves bisinstance) (fun F => F.binds fun _ _ _ _ _ _ us hl => match us, hl with | [_, _], _ => rfl)
  have m_Effect_joined : HasM P w K mg base 10 g_Effect_joined (spS K (φ_joined C_Effect)) := HasM.of d_Effect_joined (fun F => ok_joined T F c_check_effects c_reachable c_followed m_Effect_system q_Effect_Effect_system m_Effect_moves q_Effect_Effect_moves m_Effect_init mk_Effect_) (fun F => F.binds fun _ _ _ _ _ _ us hl => match us, hl with | [_], _ => rfl)
  have m_Effect_of : HasM P w K mg base 10 g_Effect_of (spS K (φ_eof C_Effect)) := HasM.of d_Effect_of (fun F => ok_eof T F c_check_system c_check_log c_reachable c_end_of m_Effect_init mk_Effect_ btuple) (fun F => F.binds fun _ _ _ _ _ _ us hl => match us, hl with | [_, _, _], _ => rfl)
  have c_fresh_pairs : Has P w K mg base 1 "fresh_pairs" (spC K (φ_fresh P w)) := Has.of d45 X G (fun F => ok_fresh_pairs F) (fun F => F.binds fun _ _ _ _ _ _ us hl => match us, hl with | [_, _, _], _ => rfl)
  have c_first_log_between : Has P w K mg base 2 "first_log_between" (spP K φ_flb) := Has.of d46 X G (fun F => ok_first_log_between F c_fresh_pairs benumerate bany) (fun F => F.binds fun _ _ _ _ _ _ us hl => match us, hl with | [_, _, _], _ => rfl)
  have c_telling_log : Has P w K mg base 3 "telling_log" (spP K φ_telling) := Has.of d47 X G (fun F => ok_telling_log F c_first_log_between brange) (fun F => F.binds fun _ _ _ _ _ _ us hl => match us, hl with | [_, _, _, _], _ => rfl)
  have c_coverage_row : Has P w K mg base 4 "coverage_row" (spP K φ_row) := Has.of d48 X G (fun F => ok_coverage_row F c_telling_log btuple brange blen) (fun F => F.binds fun _ _ _ _ _ _ us hl => match us, hl with | [_, _, _], _ => rfl)
  have c_coverage : Has P w K mg base 8 "coverage" (spP K φ_cov) := Has.of d49 X G (fun F => ok_coverage F c_reachable c_coverage_row btuple brange blen) (fun F => F.binds fun _ _ _ _ _ _ us hl => match us, hl with | [_], _ => rfl)
  have c_is_covered : Has P w K mg base 1 "is_covered" (spU K φ_iscov) := Has.of d50 X G (fun F => ok_is_covered F bany) (fun F => F.binds fun _ _ _ _ _ _ us hl => match us, hl with | [_, _, _], _ => rfl)
  have c_thinned : Has P w K mg base 9 "thinned" (spP K φ_thin) := Has.of d51 X G (fun F => ok_thinned F c_check_system c_check_log c_coverage c_is_covered benumerate btuple) (fun F => F.binds fun _ _ _ _ _ _ us hl => match us, hl with | [_, _], _ => rfl)
  exact ok_law (fun_mk l c k) T c__law_pen c__law_cell_at c__law_system c__law_log c__law_draw c_reachable c_run c_outcome c_apart c_thinned c_compacted c_fault m_Effect_of m_Effect_add m_Effect_mul m_Effect_call m_Effect_eq m_Effect_joined rd_Effect_Effect_of_ q_Effect_Effect_of q_Effect_Effect_joined self_Effect f_Effect_Effect_add i_Effect_Effect_add f_Effect_Effect_mul i_Effect_Effect_mul rm_Effect (.inl rfl) im_Effect ir_Effect sub_Effect co_Effect_Effect_call cm_Effect ne_Effect f_Effect_Effect_eq i_Effect_Effect_eq hnf brange bmax bmin blen
end
end DL
open PySem PySem.W PyProof.Rows
local macro_rules | `(tactic| walk_at "def") => `(tactic| (refine' DL.Def.here ?a ?l ?c ?k; (case a => k_is); (case l => k_is); (case c => k_is); (case k => k_is)))
local macro_rules | `(tactic| walk_at "defm") => `(tactic| (refine' DL.DefM.here ?l ?c ?k; (case l => k_is); (case c => k_is); (case k => k_is)))
set_option maxHeartbeats 0 in
theorem PySem.Challenge.cw_lastofkind_k37_whole_effects_and_logs_holds : PySem.Challenge.rw_lastofkind_k37_whole_effects_and_logs.Holds := by
  w_on; o_law; k_head; (case hw => w_witness2)
  k_fill
  refine DL.end_of (l := PySem.Challenge.rw_lastofkind_k37_whole_effects_and_logs) (k := 12) (x := "_law_script") rfl rfl ⟨rfl, by decide, by decide⟩ (fun w h Y => PySem.W.kIn_of Y) ?F
  case F =>
    intro w mg fa h KX G hmg
    refine' DL.all_mk KX G hmg ?a_Effect ?pg_Effect ?hd_Effect ?po_Effect ?sa_Effect ?mk_Effect ?kp_Effect ?na_Effect__system ?na_Effect__moves ?na_Effect__reached ?f_Effect_Effect_init ?i_Effect_Effect_init ?d_Effect_init ?rd_Effect_Effect_of ?ga_Effect_Effect_of ?f_Effect_Effect_of ?r_Effect_Effect_of ?i_Effect_Effect_of ?d_Effect_of ?rd_Effect_Effect_joined ?ga_Effect_Effect_joined ?f_Effect_Effect_joined ?r_Effect_Effect_joined ?i_Effect_Effect_joined ?d_Effect_joined ?f_Effect_Effect_system ?g1_Effect_Effect_system ?t_Effect_Effect_system ?r_Effect_Effect_system ?d_Effect_system ?f_Effect_Effect_moves ?g1_Effect_Effect_moves ?t_Effect_Effect_moves ?r_Effect_Effect_moves ?d_Effect_moves ?f_Effect_Effect_add ?i_Effect_Effect_add ?d_Effect_add ?f_Effect_Effect_mul ?i_Effect_Effect_mul ?d_Effect_mul ?f_Effect_Effect_call ?i_Effect_Effect_call ?fi_Effect_Effect_call ?d_Effect_call ?f_Effect_Effect_eq ?i_Effect_Effect_eq ?d_Effect_eq ?ca_Effect ?cn_Effect ?ct_Effect ?cm_Effect ?self_Effect ?rm_Effect ?im_Effect ?ir_Effect ?sub_Effect ?ne_Effect ?a ?l ?c ?k ?d0 ?d1 ?d2 ?d3 ?d4 ?d5 ?d6 ?d7 ?d8 ?d9 ?d10 ?d11 ?d12 ?d13 ?d14 ?d15 ?d16 ?d17 ?d18 ?d19 ?d20 ?d21 ?d22 ?d23 ?d24 ?d25 ?d26 ?d27 ?d28 ?d29 ?d30 ?d31 ?d32 ?d33 ?d34 ?d37 ?d45 ?d46 ?d47 ?d48 ?d49 ?d50 ?d51 ?n1 ?n2 ?n3 ?n4   ?z0 ?z1 ?z2 ?z3 ?z4 ?z5 ?z6 ?z7 ?z8 ?z9 ?z10 ?z11 ?z12 ?z13 ?z14
    (case a_Effect => k_is)
    (case pg_Effect => k_is)
    (case hd_Effect => k_is)
    (case po_Effect => k_is)
    (case sa_Effect => k_is)
    (case mk_Effect => k_is)
    (case kp_Effect => k_is)
    (case na_Effect__system => k_is)
    (case na_Effect__moves => k_is)
    (case na_Effect__reached => k_is)
    (case f_Effect_Effect_init => k_is)
    (case i_Effect_Effect_init => k_is)
    (case d_Effect_init => walk_at "defm")
    (case rd_Effect_Effect_of => k_is)
    (case ga_Effect_Effect_of => k_is)
    (case f_Effect_Effect_of => k_is)
    (case r_Effect_Effect_of => k_is)
    (case i_Effect_Effect_of => k_is)
    (case d_Effect_of => walk_at "defm")
    (case rd_Effect_Effect_joined => k_is)
    (case ga_Effect_Effect_joined => k_is)
    (case f_Effect_Effect_joined => k_is)
    (case r_Effect_Effect_joined => k_is)
    (case i_Effect_Effect_joined => k_is)
    (case d_Effect_joined => walk_at "defm")
    (case f_Effect_Effect_system => k_is)
    (case g1_Effect_Effect_system => k_is)
    (case t_Effect_Effect_system => k_is)
    (case r_Effect_Effect_system => k_is)
    (case d_Effect_system => walk_at "defm")
    (case f_Effect_Effect_moves => k_is)
    (case g1_Effect_Effect_moves => k_is)
    (case t_Effect_Effect_moves => k_is)
    (case r_Effect_Effect_moves => k_is)
    (case d_Effect_moves => walk_at "defm")
    (case f_Effect_Effect_add => k_is)
    (case i_Effect_Effect_add => k_is)
    (case d_Effect_add => walk_at "defm")
    (case f_Effect_Effect_mul => k_is)
    (case i_Effect_Effect_mul => k_is)
    (case d_Effect_mul => walk_at "defm")
    (case f_Effect_Effect_call => k_is)
    (case i_Effect_Effect_call => k_is)
    (case fi_Effect_Effect_call => k_is)
    (case d_Effect_call => walk_at "defm")
    (case f_Effect_Effect_eq => k_is)
    (case i_Effect_Effect_eq => k_is)
    (case d_Effect_eq => walk_at "defm")
    (case ca_Effect => k_is)
    (case cn_Effect => k_is)
    (case ct_Effect => k_is)
    (case cm_Effect => k_is)
    (case self_Effect => k_is)
    (case rm_Effect => k_is)
    (case im_Effect => k_is)
    (case ir_Effect => k_is)
    (case sub_Effect => k_is)
    (case ne_Effect => k_is)
    (case a => k_is); (case l => k_is); (case c => k_is); (case k => k_is)
    (case d0 => walk_at "def")
    (case d1 => walk_at "def")
    (case d2 => walk_at "def")
    (case d3 => walk_at "def")
    (case d4 => walk_at "def")
    (case d5 => walk_at "def")
    (case d6 => walk_at "def")
    (case d7 => walk_at "def")
    (case d8 => walk_at "def")
    (case d9 => walk_at "def")
    (case d10 => walk_at "def")
    (case d11 => walk_at "def")
    (case d12 => walk_at "def")
    (case d13 => walk_at "def")
    (case d14 => walk_at "def")
    (case d15 => walk_at "def")
    (case d16 => walk_at "def")
    (case d17 => walk_at "def")
    (case d18 => walk_at "def")
    (case d19 => walk_at "def")
    (case d20 => walk_at "def")
    (case d21 => walk_at "def")
    (case d22 => walk_at "def")
    (case d23 => walk_at "def")
    (case d24 => walk_at "def")
    (case d25 => walk_at "def")
    (case d26 => walk_at "def")
    (case d27 => walk_at "def")
    (case d28 => walk_at "def")
    (case d29 => walk_at "def")
    (case d30 => walk_at "def")
    (case d31 => walk_at "def")
    (case d32 => walk_at "def")
    (case d33 => walk_at "def")
    (case d34 => walk_at "def")
    (case d37 => walk_at "def")
    (case d45 => walk_at "def")
    (case d46 => walk_at "def")
    (case d47 => walk_at "def")
    (case d48 => walk_at "def")
    (case d49 => walk_at "def")
    (case d50 => walk_at "def")
    (case d51 => walk_at "def")
    (case n1 => k_is); (case n2 => k_is); (case n3 => k_is); (case n4 => k_is)

    (case z0 => k_is); (case z1 => k_is); (case z2 => k_is); (case z3 => k_is); (case z4 => k_is); (case z5 => k_is); (case z6 => k_is); (case z7 => k_is); (case z8 => k_is); (case z9 => k_is); (case z10 => k_is); (case z11 => k_is); (case z12 => k_is); (case z13 => k_is); (case z14 => k_is)
