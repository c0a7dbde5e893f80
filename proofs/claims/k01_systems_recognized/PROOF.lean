import PyProof.Rows.All
import KE.KSuper
import HandS.FStrTup
import PyProof.ReprLen
import Wide.All
import OpenK.AllK
import Wide.FinOn
import HandS.ForMost
import HandS.ForExc
import HandS.DictComp
import HandS.IsInst
import HandS.Zip
import HandS.TupAny
import HandS.Conv
import HandS.Wide
import HandS.Style
import HandS.TupMul
import HandS.Rev
import KE.GoesEnum
import HandS.SortInts
import HandS.NoneIn
import HandS.TupSets
import HandS.SetKeys
import HandS.SetFor
import HandS.FStr
import HandS.Text
import HandS.DeepEq
import KE.DataMinMax
import HandS.TryOnly
import HandS.ExcOwn
import HandS.WordsExc
import HandS.GenList
import HandS.GenCall
import KE.DataFind
import HandS.Property
import HandS.ClsMeth
import HandS.Star
import HandS.More
import HandS.Strs
import HandS.SlotsOwn
import KE.KOpsOwn
import KE.KDictZip
import PyProof.ExcBaseAll.ValueError
import HandS.MakeKw
import HandS.Defaults
import HandS.Lambda
import HandS.EndBits
import HandS.ExcInit
import HandS.ExcIs
import HandS.HotCalls
import HandS.ExcField
import KE.DataEq
import KE.KTypeName
import KE.KIsNot
import KE.KExcIs
import KE.OsRunLaw
import PySem.Challenge.RW_lastofkind_k01_systems_recognized
set_option Elab.async false
set_option linter.all false
set_option maxRecDepth 100000
set_option maxHeartbeats 4000000
namespace DL
open PySem PySem.Spec PyProof.Rows L2
section
/-! Data-level judgements: a def's body told by plain data (PyData) and a list of owned cells; no address is seen. -/

abbrev D := PyData
abbrev Fg := PySem.W.Frag

/-! ### weakest readings -/
def wE (X : Cx) (e : Expr) : TE := fun σ H Q => ∃ t, PE X e t ∧ t σ H Q
def wT (X : Cx) (e : Expr) : TT := fun σ H Q => ∃ t, PT X e t ∧ t σ H Q
def wW (X : Cx) (e : Expr) : TT := fun σ H Q => ∃ t, PW X e t ∧ t σ H Q
def wA (X : Cx) (es : List Expr) : TA := fun σ H Q => ∃ t, PA X es t ∧ t σ H Q
def wS (X : Cx) (st : Stmt) : TS := fun K σ H => ∃ t, PS X st t ∧ t K σ H
def wSs (X : Cx) (st : List Stmt) : TS := fun K σ H => ∃ t, PSs X st t ∧ t K σ H
section
variable {X : Cx}
theorem pe_w {e : Expr} : PE X e (wE X e) := ⟨fun pins s σ H Q I h => by
  obtain ⟨_, p, q⟩ := h
  exact p.run pins s σ H Q I q⟩
theorem pt_w {e : Expr} : PT X e (wT X e) := ⟨fun pins s σ H Q I h => by
  obtain ⟨_, p, q⟩ := h
  exact p.run pins s σ H Q I q⟩
theorem pw_w {e : Expr} : PW X e (wW X e) := ⟨fun wh pins s σ H Q I h => by
  obtain ⟨_, p, q⟩ := h
  exact p.run wh pins s σ H Q I q⟩
theorem pa_w {es : List Expr} : PA X es (wA X es) := ⟨fun po pins s σ H Q I h => by
  obtain ⟨_, p, q⟩ := h
  exact p.run po pins s σ H Q I q⟩
theorem ps_w {st : Stmt} : PS X st (wS X st) := ⟨fun pins s σ H K I h => by
  obtain ⟨_, p, q⟩ := h
  exact p.run pins s σ H K I q⟩
theorem pss_w {st : List Stmt} : PSs X st (wSs X st) := ⟨fun pins s σ H K I h => by
  obtain ⟨_, p, q⟩ := h
  exact p.run pins s σ H K I q⟩
end

/-! ### data that is read stays data -/
theorem rd_up {H H' : Hp} {a : Addr} {u : HO} (e : Same H H') (h : Rd H a u) : Rd H' a u := by
  rcases h with h | ⟨o, h⟩
  · exact .inl (e _ _ h)
  · exact .inr ⟨o, e _ _ h⟩
theorem sqL_up {K : Fg} {H H' : Hp} {a : Addr} {xs : List V} (e : Same H H') (h : SqL K H a xs) : SqL K H' a xs := by
  rcases h with h | h
  · exact .inl (rd_up e h)
  · exact .inr h
theorem sqT_up {K : Fg} {H H' : Hp} {a : Addr} {xs : List V} (e : Same H H') (h : SqT K H a xs) : SqT K H' a xs := by
  rcases h with h | h
  · exact .inl (rd_up e h)
  · exact .inr h
mutual
theorem dp_up {K : Fg} {H H' : Hp} (e : Same H H') : ∀ {v : V} {d : D}, Dp K H v d → Dp K H' v d
  | _, _, .non => .non
  | _, _, .bl b => .bl b
  | _, _, .int i => .int i
  | _, _, .str x => .str x
  | _, _, .lst h q => .lst (sqL_up e h) (dpAll_up e q)
  | _, _, .tup h q => .tup (sqT_up e h) (dpAll_up e q)
theorem dpAll_up {K : Fg} {H H' : Hp} (e : Same H H') : ∀ {vs : List V} {ds : List D}, DpAll K H vs ds → DpAll K H' vs ds
  | _, _, .nil => .nil
  | _, _, .cons h q => .cons (dp_up e h) (dpAll_up e q)
end
theorem dpAll_len {K : Fg} {H : Hp} : ∀ {vs : List V} {ds : List D}, DpAll K H vs ds → vs.length = ds.length
  | _, _, .nil => rfl
  | _, _, .cons _ q => by rw [List.length_cons, List.length_cons, dpAll_len q]
theorem dpAll_get {K : Fg} {H : Hp} : ∀ {vs : List V} {ds : List D} {i : Nat} {v : V}, DpAll K H vs ds → vs[i]? = some v → ∃ d, ds[i]? = some d ∧ Dp K H v d
  | _, _, i, v, .nil, h => by simp at h
  | _, _, 0, v, .cons h q, e => by
    simp at e
    subst e
    exact ⟨_, rfl, h⟩
  | _, _, i + 1, v, .cons h q, e => by
    simp at e
    obtain ⟨d, e1, e2⟩ := dpAll_get q e
    exact ⟨d, by simpa using e1, e2⟩
theorem dpAll_at {K : Fg} {H : Hp} : ∀ {vs : List V} {ds : List D} {i : Nat} {d : D}, DpAll K H vs ds → ds[i]? = some d → ∃ v, vs[i]? = some v ∧ Dp K H v d
  | _, _, i, v, .nil, h => by simp at h
  | _, _, 0, v, .cons h q, e => by
    simp at e
    subst e
    exact ⟨_, rfl, h⟩
  | _, _, i + 1, v, .cons h q, e => by
    simp at e
    obtain ⟨w, e1, e2⟩ := dpAll_at q e
    exact ⟨w, by simpa using e1, e2⟩
theorem dpAll_app {K : Fg} {H : Hp} : ∀ {vs ws : List V} {ds es : List D}, DpAll K H vs ds → DpAll K H ws es → DpAll K H (vs ++ ws) (ds ++ es)
  | _, _, _, _, .nil, q => q
  | _, _, _, _, .cons h r, q => .cons h (dpAll_app r q)
theorem dpAll_set {K : Fg} {H : Hp} {v : V} {d : D} (h0 : Dp K H v d) : ∀ {vs : List V} {ds : List D} (i : Nat), DpAll K H vs ds → DpAll K H (vs.set i v) (ds.set i d)
  | _, _, _, .nil => .nil
  | _, _, 0, .cons _ r => .cons h0 r
  | _, _, i + 1, .cons h r => .cons h (dpAll_set h0 i r)
theorem dpAll_take {K : Fg} {H : Hp} : ∀ {vs : List V} {ds : List D} (n : Nat), DpAll K H vs ds → DpAll K H (vs.take n) (ds.take n)
  | _, _, 0, _ => .nil
  | _, _, _ + 1, .nil => .nil
  | _, _, n + 1, .cons h r => .cons h (dpAll_take n r)
theorem dpAll_drop {K : Fg} {H : Hp} : ∀ {vs : List V} {ds : List D} (n : Nat), DpAll K H vs ds → DpAll K H (vs.drop n) (ds.drop n)
  | _, _, 0, h => h
  | _, _, _ + 1, .nil => .nil
  | _, _, n + 1, .cons _ r => dpAll_drop n r
theorem dp_tup_inv {K : Fg} {H : Hp} {v : V} {ds : List D} (h : Dp K H v (.tuple ds)) : ∃ a xs, v = .ref a ∧ SqT K H a xs ∧ DpAll K H xs ds := by
  cases h with
  | tup h q => exact ⟨_, _, rfl, h, q⟩
theorem dp_lst_inv {K : Fg} {H : Hp} {v : V} {ds : List D} (h : Dp K H v (.list ds)) : ∃ a xs, v = .ref a ∧ SqL K H a xs ∧ DpAll K H xs ds := by
  cases h with
  | lst h q => exact ⟨_, _, rfl, h, q⟩
theorem dp_int_inv {K : Fg} {H : Hp} {v : V} {i : Int} (h : Dp K H v (.int i)) : v = .int i := by
  cases h; rfl
theorem dp_bl_inv {K : Fg} {H : Hp} {v : V} {b : Bool} (h : Dp K H v (.bool b)) : v = .bl b := by
  cases h; rfl
theorem dp_str_inv {K : Fg} {H : Hp} {v : V} {x : Str} (h : Dp K H v (.str x)) : v = .str x := by
  cases h; rfl
theorem dp_non_inv {K : Fg} {H : Hp} {v : V} (h : Dp K H v .none) : v = .non := by
  cases h; rfl
theorem same_new {H : Hp} {p : Addr} {o : HO} (h : H p = none) : Same H (upd H p o) := fun b x e => by
  rw [upd_ne (ne_of_none e h)]
  exact e

/-! ### owned cells -/
def keyD : Key → D
  | .inl i => .int i
  | .inr x => .str x
/-- what a dict with tuple keys holds: key, the key's own tuple, value -/
abbrev TEnt := List Key × Addr × V
inductive Cell where
  | lst (ds : List D)
  | dct (kvs : List (Key × D))
  | oth (o : Addr → HO)
  | tdc (f : List TEnt → Addr → HO) (kvs : List (List Key × D))
  | dead
  /-- something that is known for good; something owned: by what is true of it -/
  | kn (p : Fg → Hp → Addr → Prop)
  | gn (p : Fg → Hp → HO → Addr → Prop)
abbrev TdOk (K : Fg) (B : Hp) : List TEnt → List (List Key × D) → Prop := Paired fun (t : TEnt) (q : List Key × D) => t.1 = q.1 ∧ Dp K B (.ref t.2.1) (.tuple (q.1.map keyD)) ∧ Dp K B t.2.2 q.2
abbrev KvOk (K : Fg) (B : Hp) : List (Key × V) → List (Key × D) → Prop := Paired fun (p : Key × V) (q : Key × D) => p.1 = q.1 ∧ Dp K B p.2 q.2
def CellOk (K : Fg) (B H : Hp) (a : Addr) : Cell → Prop
  | .lst ds => B a = none ∧ ∃ xs, H a = some (.lst xs) ∧ DpAll K B xs ds
  | .dct kvs => B a = none ∧ ∃ kv, H a = some (.dK kv) ∧ KvOk K B kv kvs
  | .oth o => B a = none ∧ H a = some (o a)
  | .tdc f kvs => B a = none ∧ ∃ ts, H a = some (f ts a) ∧ TdOk K B ts kvs
  | .dead => B a ≠ none
  | .kn p => B a ≠ none ∧ ∃ B0, Same B0 B ∧ p K B0 a
  | .gn p => B a = none ∧ ∃ B0 o, Same B0 B ∧ H a = some o ∧ p K B0 o a
theorem td_up {K : Fg} {B B' : Hp} (e : Same B B') : ∀ {a : List TEnt} {b : List (List Key × D)}, TdOk K B a b → TdOk K B' a b
  | _, _, .nil => .nil
  | _, _, .cons h q => .cons ⟨h.1, dp_up e h.2.1, dp_up e h.2.2⟩ (td_up e q)
theorem kv_up {K : Fg} {B B' : Hp} (e : Same B B') : ∀ {a : List (Key × V)} {b : List (Key × D)}, KvOk K B a b → KvOk K B' a b
  | _, _, .nil => .nil
  | _, _, .cons h q => .cons ⟨h.1, dp_up e h.2⟩ (kv_up e q)

/-- B: what is known for good; F: what others own; as, ω: the owned cells -/
structure Wd (K : Fg) (B F H : Hp) (as : List Addr) (ω : List Cell) : Prop where
  b : Same B H
  f : ∀ a o, F a = some o → H a = some o ∧ B a = none
  len : as.length = ω.length
  nd : as.Nodup
  at' : ∀ (k : Nat) (a : Addr) (c : Cell), as[k]? = some a → ω[k]? = some c → F a = none ∧ H a ≠ none ∧ CellOk K B H a c

theorem nodup_at {as : List Addr} (h : as.Nodup) {i j : Nat} {a : Addr} (e1 : as[i]? = some a) (e2 : as[j]? = some a) : i = j := by
  obtain ⟨h1, x1⟩ := List.getElem?_eq_some_iff.mp e1
  obtain ⟨h2, x2⟩ := List.getElem?_eq_some_iff.mp e2
  exact (List.getElem_inj h).mp (x1.trans x2.symm)
section
variable {K : Fg} {B F H : Hp} {as : List Addr} {ω : List Cell}
theorem Wd.freeB (w : Wd K B F H as ω) {p : Addr} (h : H p = none) : B p = none := w.b.free h
theorem Wd.freeF (w : Wd K B F H as ω) {p : Addr} (h : H p = none) : F p = none := by
  cases q : F p with
  | none => rfl
  | some o =>
    rw [(w.f _ _ q).1] at h
    cases h
theorem Wd.freeA (w : Wd K B F H as ω) {p : Addr} (h : H p = none) : p ∉ as := fun hm => by
  obtain ⟨k, hk, e⟩ := List.mem_iff_getElem.mp hm
  have e1 : as[k]? = some p := by rw [List.getElem?_eq_getElem hk, e]
  have hk2 : k < ω.length := by rw [← w.len]; exact hk
  exact (w.at' k p ω[k] e1 (List.getElem?_eq_getElem hk2)).2.1 h
theorem cell_up {B' H' : Hp} {a : Addr} {c : Cell} (h : CellOk K B H a c) (e : Same B B') (hb : B a = none → B' a = none) (hh : H' a = H a) : CellOk K B' H' a c := by
  cases c with
  | lst ds =>
    obtain ⟨h1, xs, h2, h3⟩ := h
    exact ⟨hb h1, xs, hh.trans h2, dpAll_up e h3⟩
  | oth o => exact ⟨hb h.1, hh.trans h.2⟩
  | tdc f kvs =>
    obtain ⟨h1, ts, h2, h3⟩ := h
    exact ⟨hb h1, ts, hh.trans h2, td_up e h3⟩
  | dct kvs =>
    obtain ⟨h1, xs, h2, h3⟩ := h
    exact ⟨hb h1, xs, hh.trans h2, kv_up e h3⟩
  | dead =>
    obtain ⟨o, ho⟩ := Option.ne_none_iff_exists'.mp h
    show B' a ≠ none
    rw [e _ _ ho]
    simp
  | kn p =>
    obtain ⟨h1, B0, h2, h3⟩ := h
    obtain ⟨o, ho⟩ := Option.ne_none_iff_exists'.mp h1
    exact ⟨by rw [e _ _ ho]; simp, B0, h2.trans e, h3⟩
  | gn p =>
    obtain ⟨h1, B0, o, h2, h3, h4⟩ := h
    exact ⟨hb h1, B0, o, h2.trans e, hh.trans h3, h4⟩
theorem cell_keep {B' H' : Hp} {a : Addr} {c : Cell} (h : CellOk K B H a c) (hB : B a ≠ none) (e : Same B B') : CellOk K B' H' a c := by
  obtain ⟨o, ho⟩ := Option.ne_none_iff_exists'.mp hB
  have hB' : B' a ≠ none := by
    rw [e _ _ ho]
    simp
  cases c with
  | lst ds => exact absurd h.1 hB
  | oth o => exact absurd h.1 hB
  | tdc f kvs => exact absurd h.1 hB
  | dct kvs => exact absurd h.1 hB
  | gn p => exact absurd h.1 hB
  | dead => exact hB'
  | kn p =>
    obtain ⟨h1, B0, h2, h3⟩ := h
    exact ⟨hB', B0, h2.trans e, h3⟩
/-- a new thing, known for good -/
theorem Wd.new (w : Wd K B F H as ω) {p : Addr} {o : HO} (h : H p = none) : Wd K (upd B p o) F (upd H p o) as ω ∧ Same B (upd B p o) := by
  have hB := w.freeB h
  have hF := w.freeF h
  have hA := w.freeA h
  have sb : Same B (upd B p o) := same_new hB
  refine ⟨⟨fun b x e => ?_, fun b x e => ?_, w.len, w.nd, fun k a c e1 e2 => ?_⟩, sb⟩
  · by_cases hb : b = p
    · subst hb
      rw [upd_same] at e ⊢
      exact e
    · rw [upd_ne hb] at e ⊢
      exact w.b _ _ e
  · have hb : b ≠ p := fun z => by
      rw [z, hF] at e
      cases e
    rw [upd_ne hb, upd_ne hb]
    exact w.f _ _ e
  · have ha : a ≠ p := fun z => hA (z ▸ List.mem_of_getElem? e1)
    obtain ⟨q1, q2, q3⟩ := w.at' k a c e1 e2
    refine ⟨q1, by rw [upd_ne ha]; exact q2, cell_up q3 sb (fun z => by rw [upd_ne ha]; exact z) (upd_ne ha)⟩
/-- a new thing, owned -/
theorem Wd.own (w : Wd K B F H as ω) {p : Addr} {o : HO} {c : Cell} (h : H p = none) (hc : B p = none → CellOk K B (upd H p o) p c) : Wd K B F (upd H p o) (as ++ [p]) (ω ++ [c]) := by
  have hB := w.freeB h
  have hF := w.freeF h
  have hA := w.freeA h
  refine ⟨fun b x e => ?_, fun b x e => ?_, by rw [List.length_append, List.length_append, w.len]; rfl, ?_, fun k a c' e1 e2 => ?_⟩
  · have hb : b ≠ p := fun z => by
      rw [z, hB] at e
      cases e
    rw [upd_ne hb]
    exact w.b _ _ e
  · have hb : b ≠ p := fun z => by
      rw [z, hF] at e
      cases e
    rw [upd_ne hb]
    exact w.f _ _ e
  · rw [List.nodup_append]
    refine ⟨w.nd, by simp, fun x hx y hy => ?_⟩
    have : y = p := by simpa using hy
    subst this
    exact fun z => hA (z ▸ hx)
  · by_cases hk : k < as.length
    · rw [List.getElem?_append_left hk] at e1
      rw [List.getElem?_append_left (by rw [← w.len]; exact hk)] at e2
      have ha : a ≠ p := fun z => hA (z ▸ List.mem_of_getElem? e1)
      obtain ⟨q1, q2, q3⟩ := w.at' k a c' e1 e2
      exact ⟨q1, by rw [upd_ne ha]; exact q2, cell_up q3 (Same.refl _) (fun z => z) (upd_ne ha)⟩
    · have hk2 : k = as.length := by
        have := (List.getElem?_eq_some_iff.mp e1).1
        rw [List.length_append] at this
        simp at this
        omega
      subst hk2
      rw [List.getElem?_append_right (Nat.le_refl _), Nat.sub_self] at e1
      rw [w.len, List.getElem?_append_right (Nat.le_refl _), Nat.sub_self] at e2
      simp at e1 e2
      subst e1 e2
      exact ⟨hF, by rw [upd_same]; simp, hc hB⟩
/-- an owned thing is changed -/
theorem Wd.write (w : Wd K B F H as ω) {k : Nat} {a : Addr} {o : HO} {c c' : Cell} (ha : as[k]? = some a) (hc : ω[k]? = some c) (hd : B a = none) (hn : CellOk K B (upd H a o) a c') : Wd K B F (upd H a o) as (ω.set k c') := by
  obtain ⟨q1, q2, q3⟩ := w.at' k a c ha hc
  refine ⟨fun b x e => ?_, fun b x e => ?_, by rw [List.length_set]; exact w.len, w.nd, fun j b d e1 e2 => ?_⟩
  · have hb : b ≠ a := fun z => by
      rw [z, hd] at e
      cases e
    rw [upd_ne hb]
    exact w.b _ _ e
  · have hb : b ≠ a := fun z => by
      rw [z, q1] at e
      cases e
    rw [upd_ne hb]
    exact w.f _ _ e
  · by_cases hj : j = k
    · subst hj
      rw [ha] at e1
      cases e1
      have hk : j < ω.length := (List.getElem?_eq_some_iff.mp hc).1
      rw [List.getElem?_set_self hk] at e2
      cases e2
      exact ⟨q1, by rw [upd_same]; simp, hn⟩
    · rw [List.getElem?_set_ne (Ne.symm hj)] at e2
      have hb : b ≠ a := fun z => hj (nodup_at w.nd (z ▸ e1) ha)
      obtain ⟨r1, r2, r3⟩ := w.at' j b d e1 e2
      exact ⟨r1, by rw [upd_ne hb]; exact r2, cell_up r3 (Same.refl _) (fun z => z) (upd_ne hb)⟩
/-- an owned list becomes known for good -/
theorem Wd.freeze (w : Wd K B F H as ω) {k : Nat} {a : Addr} {ds : List D} (ha : as[k]? = some a) (hc : ω[k]? = some (.lst ds)) :
    ∃ B', Same B B' ∧ Wd K B' F H as (ω.set k .dead) ∧ Dp K B' (.ref a) (.list ds) := by
  obtain ⟨q1, q2, q3, xs, q4, q5⟩ := w.at' k a _ ha hc
  have sb : Same B (upd B a (.lst xs)) := same_new q3
  refine ⟨upd B a (.lst xs), sb, ⟨fun b x e => ?_, fun b x e => ?_, by rw [List.length_set]; exact w.len, w.nd, fun j b d e1 e2 => ?_⟩, .lst (.inl (.inl upd_same)) (dpAll_up sb q5)⟩
  · by_cases hb : b = a
    · subst hb
      rw [upd_same] at e
      cases e
      exact q4
    · rw [upd_ne hb] at e
      exact w.b _ _ e
  · have hb : b ≠ a := fun z => by
      rw [z, q1] at e
      cases e
    rw [upd_ne hb]
    exact w.f _ _ e
  · by_cases hj : j = k
    · subst hj
      rw [ha] at e1
      cases e1
      have hk : j < ω.length := (List.getElem?_eq_some_iff.mp hc).1
      rw [List.getElem?_set_self hk] at e2
      cases e2
      exact ⟨q1, q2, by show upd B a (.lst xs) a ≠ none; rw [upd_same]; simp⟩
    · rw [List.getElem?_set_ne (Ne.symm hj)] at e2
      have hb : b ≠ a := fun z => hj (nodup_at w.nd (z ▸ e1) ha)
      obtain ⟨r1, r2, r3⟩ := w.at' j b d e1 e2
      exact ⟨r1, r2, cell_up r3 sb (fun z => by rw [upd_ne hb]; exact z) rfl⟩
theorem Wd.cellL (w : Wd K B F H as ω) {k : Nat} {a : Addr} {ds : List D} (ha : as[k]? = some a) (hc : ω[k]? = some (.lst ds)) : B a = none ∧ ∃ xs, H a = some (.lst xs) ∧ DpAll K B xs ds := (w.at' k a _ ha hc).2.2
theorem Wd.cellD (w : Wd K B F H as ω) {k : Nat} {a : Addr} {kvs : List (Key × D)} (ha : as[k]? = some a) (hc : ω[k]? = some (.dct kvs)) : B a = none ∧ ∃ xs, H a = some (.dK xs) ∧ KvOk K B xs kvs := (w.at' k a _ ha hc).2.2
end

/-! ### slots -/
inductive Sl where
  | no
  | val (d : D)
  | own (k : Nat)
  /-- a value that is known for good, by what is true of it -/
  | kn (p : Fg → Hp → V → Prop)
def SlOk (K : Fg) (B : Hp) (as : List Addr) : Option V → Sl → Prop
  | _, .no => True
  | o, .val d => ∃ v, o = some v ∧ Dp K B v d
  | o, .own k => ∃ a, o = some (.ref a) ∧ as[k]? = some a
  | o, .kn p => ∃ v B0, o = some v ∧ Same B0 B ∧ p K B0 v
theorem slv {K : Fg} {B : Hp} {as : List Addr} {v : V} {d : D} (h : Dp K B v d) : SlOk K B as (some v) (.val d) := ⟨v, rfl, h⟩
theorem slo {K : Fg} {B : Hp} {as : List Addr} {a : Addr} {k : Nat} (h : as[k]? = some a) : SlOk K B as (some (.ref a)) (.own k) := ⟨a, rfl, h⟩
abbrev EnvOk (K : Fg) (B : Hp) (as : List Addr) : List (Option V) → List Sl → Prop := Paired (SlOk K B as)
section
variable {K : Fg} {B B' : Hp} {as as' : List Addr}
theorem pre_get {as as' : List Addr} (p : as <+: as') {k : Nat} {a : Addr} (h : as[k]? = some a) : as'[k]? = some a := by
  obtain ⟨t, rfl⟩ := p
  rw [List.getElem?_append_left (List.getElem?_eq_some_iff.mp h).1]
  exact h
theorem slOk_up (e : Same B B') (p : as <+: as') {o : Option V} {s : Sl} (h : SlOk K B as o s) : SlOk K B' as' o s := by
  cases s with
  | no => trivial
  | val d =>
    obtain ⟨v, h1, h2⟩ := h
    exact ⟨v, h1, dp_up e h2⟩
  | own k =>
    obtain ⟨a, h1, h2⟩ := h
    exact ⟨a, h1, pre_get p h2⟩
  | kn q =>
    obtain ⟨v, B0, h1, h2, h3⟩ := h
    exact ⟨v, B0, h1, h2.trans e, h3⟩
theorem envOk_up (e : Same B B') (p : as <+: as') : ∀ {σ : List (Option V)} {δ : List Sl}, EnvOk K B as σ δ → EnvOk K B' as' σ δ
  | _, _, .nil => .nil
  | _, _, .cons h q => .cons (slOk_up e p h) (envOk_up e p q)
theorem envOk_get : ∀ {σ : List (Option V)} {δ : List Sl} {i : Nat} {s : Sl}, EnvOk K B as σ δ → δ[i]? = some s → ∃ o, σ[i]? = some o ∧ SlOk K B as o s
  | _, _, i, s, .nil, e => by simp at e
  | _, _, 0, s, .cons h q, e => by
    simp at e
    subst e
    exact ⟨_, rfl, h⟩
  | _, _, i + 1, s, .cons h q, e => by
    simp at e
    obtain ⟨o, e1, e2⟩ := envOk_get q e
    exact ⟨o, by simpa using e1, e2⟩
theorem envOk_set {o : Option V} {s : Sl} (h0 : SlOk K B as o s) : ∀ {σ : List (Option V)} {δ : List Sl} (i : Nat), EnvOk K B as σ δ → EnvOk K B as (σ.set i o) (δ.set i s)
  | _, _, _, .nil => .nil
  | _, _, 0, .cons h q => .cons h0 q
  | _, _, i + 1, .cons h q => .cons h (envOk_set h0 i q)
theorem envOk_len : ∀ {σ : List (Option V)} {δ : List Sl}, EnvOk K B as σ δ → σ.length = δ.length
  | _, _, .nil => rfl
  | _, _, .cons _ q => by rw [List.length_cons, List.length_cons, envOk_len q]
theorem envOk_app : ∀ {σ σ2 : List (Option V)} {δ δ2 : List Sl}, EnvOk K B as σ δ → EnvOk K B as σ2 δ2 → EnvOk K B as (σ ++ σ2) (δ ++ δ2)
  | _, _, _, _, .nil, q => q
  | _, _, _, _, .cons h r, q => .cons h (envOk_app r q)
theorem envOk_vals : ∀ {vs : List V} {ds : List D}, DpAll K B vs ds → EnvOk K B as (vs.map some) (ds.map Sl.val)
  | _, _, .nil => .nil
  | _, _, .cons h q => .cons ⟨_, rfl, h⟩ (envOk_vals q)
theorem envOk_none : ∀ n : Nat, EnvOk K B as (List.replicate n none) (List.replicate n Sl.no)
  | 0 => .nil
  | n + 1 => .cons trivial (envOk_none n)
end

/-! ### what an expression comes to -/
abbrev PO1 := Sl → List Cell → Prop
/-- all ends at which P holds are wanted ends -/
def Out (K : Fg) (B F : Hp) (as : List Addr) (P : PO1) (Q : VK) : Prop :=
  ∀ v B' H' as' r ω', Same B B' → as <+: as' → Wd K B' F H' as' ω' → SlOk K B' as' (some v) r → P r ω' → Q v H'
def OutB (K : Fg) (B F : Hp) (as : List Addr) (P : Bool → List Cell → Prop) (Q : Bool → Hp → Prop) : Prop :=
  ∀ b B' H' as' ω', Same B B' → as <+: as' → Wd K B' F H' as' ω' → P b ω' → Q b H'
/-- results of an argument list -/
inductive RsOk (K : Fg) (B : Hp) (as : List Addr) : List V → List Sl → Prop
  | nil : RsOk K B as [] []
  | cons {v vs r rs} : SlOk K B as (some v) r → RsOk K B as vs rs → RsOk K B as (v :: vs) (r :: rs)
def OutA (K : Fg) (B F : Hp) (as : List Addr) (P : List Sl → List Cell → Prop) (Q : List V → Hp → Prop) : Prop :=
  ∀ vs B' H' as' rs ω', Same B B' → as <+: as' → Wd K B' F H' as' ω' → RsOk K B' as' vs rs → P rs ω' → Q vs H'
def DE (X : Cx) (e : Expr) (δ : List Sl) (ω : List Cell) (P : PO1) : Prop :=
  ∀ B F H as σ, Wd X.K B F H as ω → EnvOk X.K B as σ δ → ∀ Q, Out X.K B F as P Q → wE X e σ H Q
def DT (X : Cx) (e : Expr) (δ : List Sl) (ω : List Cell) (P : Bool → List Cell → Prop) : Prop :=
  ∀ B F H as σ, Wd X.K B F H as ω → EnvOk X.K B as σ δ → ∀ Q, OutB X.K B F as P Q → wT X e σ H Q
def DW (X : Cx) (e : Expr) (δ : List Sl) (ω : List Cell) (P : Bool → List Cell → Prop) : Prop :=
  ∀ B F H as σ, Wd X.K B F H as ω → EnvOk X.K B as σ δ → ∀ Q, OutB X.K B F as P Q → wW X e σ H Q
def DA (X : Cx) (es : List Expr) (δ : List Sl) (ω : List Cell) (P : List Sl → List Cell → Prop) : Prop :=
  ∀ B F H as σ, Wd X.K B F H as ω → EnvOk X.K B as σ δ → ∀ Q, OutA X.K B F as P Q → wA X es σ H Q
theorem Out.up {K : Fg} {B B' F : Hp} {as as' : List Addr} {P : PO1} {Q : VK} (h : Out K B F as P Q) (e : Same B B') (p : as <+: as') : Out K B' F as' P Q :=
  fun v B2 H2 as2 r ω2 e2 p2 => h v B2 H2 as2 r ω2 (e.trans e2) (p.trans p2)
theorem OutB.up {K : Fg} {B B' F : Hp} {as as' : List Addr} {P : Bool → List Cell → Prop} {Q : Bool → Hp → Prop} (h : OutB K B F as P Q) (e : Same B B') (p : as <+: as') : OutB K B' F as' P Q :=
  fun v B2 H2 as2 ω2 e2 p2 => h v B2 H2 as2 ω2 (e.trans e2) (p.trans p2)
theorem OutA.up {K : Fg} {B B' F : Hp} {as as' : List Addr} {P : List Sl → List Cell → Prop} {Q : List V → Hp → Prop} (h : OutA K B F as P Q) (e : Same B B') (p : as <+: as') : OutA K B' F as' P Q :=
  fun v B2 H2 as2 rs ω2 e2 p2 => h v B2 H2 as2 rs ω2 (e.trans e2) (p.trans p2)
theorem rsOk_up {K : Fg} {B B' : Hp} {as as' : List Addr} (e : Same B B') (p : as <+: as') : ∀ {vs : List V} {rs : List Sl}, RsOk K B as vs rs → RsOk K B' as' vs rs
  | _, _, .nil => .nil
  | _, _, .cons h q => .cons (slOk_up e p h) (rsOk_up e p q)
theorem rsOk_vals {K : Fg} {B : Hp} {as : List Addr} : ∀ {vs : List V} {ds : List D}, RsOk K B as vs (ds.map Sl.val) → DpAll K B vs ds
  | _, [], .nil => .nil
  | _, d :: ds, .cons h q => by
    obtain ⟨v, e, hd⟩ := h
    cases e
    exact .cons hd (rsOk_vals q)

section
variable {X : Cx} {e a b c : Expr} {es : List Expr} {δ : List Sl} {ω : List Cell} {P P' : PO1} {pos : Pos}
theorem DE.mono (h : DE X e δ ω P) (hp : ∀ r ω', P r ω' → P' r ω') : DE X e δ ω P' :=
  fun B F H as σ w ev Q o => h B F H as σ w ev Q fun v B' H' as' r ω' e1 e2 e3 e4 e5 => o v B' H' as' r ω' e1 e2 e3 e4 (hp _ _ e5)
theorem DT.mono {P P' : Bool → List Cell → Prop} (h : DT X e δ ω P) (hp : ∀ r ω', P r ω' → P' r ω') : DT X e δ ω P' :=
  fun B F H as σ w ev Q o => h B F H as σ w ev Q fun v B' H' as' ω' e1 e2 e3 e5 => o v B' H' as' ω' e1 e2 e3 (hp _ _ e5)
/-- an owned list that is handed on as data -/
theorem DE.frz (h : DE X e δ ω (fun r ω1 => (∃ d, r = .val d ∧ P (.val d) ω1) ∨ ∃ k ds, r = .own k ∧ ω1[k]? = some (.lst ds) ∧ P (.val (.list ds)) (ω1.set k .dead))) : DE X e δ ω P :=
  fun B F H as σ w ev Q o => h B F H as σ w ev Q fun v B' H' as' r ω' e1 e2 e3 e4 e5 => by
    rcases e5 with ⟨d, rfl, q⟩ | ⟨k, ds, rfl, hk, q⟩
    · exact o v B' H' as' _ ω' e1 e2 e3 e4 q
    · obtain ⟨a, ea, hka⟩ := e4
      cases ea
      obtain ⟨B2, s2, w2, d2⟩ := e3.freeze hka hk
      exact o _ B2 H' as' _ _ (e1.trans s2) e2 w2 (slv d2) q

/-! ### names and constants -/
theorem de_var (i : Nat) {x : Str} {d : Sl} (hδ : δ[i]? = some d) (hs : d ≠ .no) (hN : X.N[i]? = some x) (hv : Vis X.env.scope x) (hp : P d ω) (hd : (x == ("__debug__" : Str)) = false := by decide)
    (hcd : (x == ("__classdict__" : Str)) = false := by decide) : DE X (.Name x pos) δ ω P := fun B F H as σ w ev Q o => by
  refine ⟨_, pe_var hN hv hd hcd, ?_⟩
  obtain ⟨ov, h1, h2⟩ := envOk_get ev hδ
  cases d with
  | no => exact absurd rfl hs
  | val d =>
    obtain ⟨v, rfl, h3⟩ := h2
    exact ⟨v, h1, o v B H as _ ω (Same.refl _) (List.prefix_refl _) w (slv h3) hp⟩
  | own k =>
    obtain ⟨v, rfl, h3⟩ := h2
    exact ⟨_, h1, o _ B H as _ ω (Same.refl _) (List.prefix_refl _) w (slo h3) hp⟩
  | kn q =>
    obtain ⟨v, B0, rfl, h3, h4⟩ := h2
    exact ⟨v, h1, o v B H as (.kn q) ω (Same.refl _) (List.prefix_refl _) w ⟨v, B0, rfl, h3, h4⟩ hp⟩
/-- a constant term -/
theorem de_tC {t : TE} {v : V} {d : D} (ht : PE X e t) (et : ∀ σ H Q, Q v H → t σ H Q) (hd : ∀ K B, Dp K B v d) (hp : P (.val d) ω) : DE X e δ ω P := fun B F H as σ w ev Q o =>
  ⟨_, ht, et _ _ _ (o v B H as _ ω (Same.refl _) (List.prefix_refl _) w (slv (hd _ _)) hp)⟩
theorem de_int {i : Int} {j : Nat} (hp : P (.val (.int i)) ω) : DE X (.Constant (.int i) j pos) δ ω P := de_tC pe_int (fun _ _ _ q => q) (fun _ _ => .int i) hp
theorem de_bool {i : Bool} {j : Nat} (hp : P (.val (.bool i)) ω) : DE X (.Constant (.bool i) j pos) δ ω P := de_tC pe_bl (fun _ _ _ q => q) (fun _ _ => .bl i) hp
theorem de_none {j : Nat} (hp : P (.val .none) ω) : DE X (.Constant .none j pos) δ ω P := de_tC pe_non (fun _ _ _ q => q) (fun _ _ => .non) hp
theorem de_str {i : Str} {j : Nat} (hp : P (.val (.str i)) ω) : DE X (.Constant (.str i) j pos) δ ω P := de_tC pe_str (fun _ _ _ q => q) (fun _ _ => .str i) hp
/-- a module's constant -/
theorem de_glob {x : Str} {v : V} {u : Value} {d : D} (hg : Gl X x) (hm : X.mg x = some u) (r : RelV v u) (hd' : ∀ K B, Dp K B v d) (hp : P (.val d) ω) (hd : (x == ("__debug__" : Str)) = false := by decide) : DE X (.Name x pos) δ ω P :=
  de_tC (pe_glob hg hm r hd) (fun _ _ _ q => q) hd' hp

/-! ### operators by values -/
/-- the two operands' results x, y; what the operator makes of them -/
def RR (X : Cx) (r : R2) (x y : Sl) (ω : List Cell) (P : PO1) : Prop :=
  ∀ B F H as v u, Wd X.K B F H as ω → SlOk X.K B as (some v) x → SlOk X.K B as (some u) y → ∀ Q, Out X.K B F as P Q → r v u H Q
theorem de_bin {op : Operator} {r : R2} (ho : OpR X (binaryOp op) r) (h : DE X a δ ω fun x ω1 => DE X b δ ω1 fun y ω2 => RR X r x y ω2 P) : DE X (.BinOp a op b pos) δ ω P := fun B F H as σ w ev Q o => by
  refine ⟨_, pe_op ho pe_w pe_w, ?_⟩
  refine h B F H as σ w ev _ fun x B1 H1 as1 rx ω1 e1 p1 w1 s1 q1 => ?_
  refine q1 B1 F H1 as1 σ w1 (envOk_up e1 p1 ev) _ fun y B2 H2 as2 ry ω2 e2 p2 w2 s2 q2 => ?_
  exact q2 B2 F H2 as2 x y w2 (slOk_up e2 p2 s1) s2 Q (o.up (e1.trans e2) (p1.trans p2))
theorem de_cmp {op : CmpOp} {r : R2} (ho : OpR X (compareOp op) r) (hm : behindInMarks op b = false) (h : DE X a δ ω fun x ω1 => DE X b δ ω1 fun y ω2 => RR X r x y ω2 P) : DE X (.Compare a [op] [b] pos) δ ω P := fun B F H as σ w ev Q o => by
  refine ⟨_, pe_cmpR ho pe_w pe_w hm, ?_⟩
  refine h B F H as σ w ev _ fun x B1 H1 as1 rx ω1 e1 p1 w1 s1 q1 => ?_
  refine q1 B1 F H1 as1 σ w1 (envOk_up e1 p1 ev) _ fun y B2 H2 as2 ry ω2 e2 p2 w2 s2 q2 => ?_
  exact q2 B2 F H2 as2 x y w2 (slOk_up e2 p2 s1) s2 Q (o.up (e1.trans e2) (p1.trans p2))
theorem de_un {op : UnaryOp} {r : V → Hp → VK → Prop} (ho : UnR X (unaryOp op) r) (h : DE X a δ ω fun x ω1 => RR X (fun v _ H Q => r v H Q) x .no ω1 P) : DE X (.UnaryOp op a pos) δ ω P := fun B F H as σ w ev Q o => by
  refine ⟨_, pe_un ho pe_w, ?_⟩
  refine h B F H as σ w ev _ fun x B1 H1 as1 rx ω1 e1 p1 w1 s1 q1 => ?_
  exact q1 B1 F H1 as1 x .non w1 s1 trivial Q (o.up e1 p1)
/-- the same state, a plain value -/
theorem Out.here {K : Fg} {B F H : Hp} {as : List Addr} {Q : VK} (o : Out K B F as P Q) (w : Wd K B F H as ω) {v : V} {d : D} (hd : Dp K B v d) (hp : P (.val d) ω) : Q v H :=
  o v B H as _ ω (Same.refl _) (List.prefix_refl _) w (slv hd) hp
/-- a new tuple, a new list that is known for good -/
theorem Out.tup {K : Fg} {B F H : Hp} {as : List Addr} {Q : VK} (o : Out K B F as P Q) (w : Wd K B F H as ω) {p : Addr} (hp' : H p = none) {vs : List V} {ds : List D} (hd : DpAll K B vs ds) (hp : P (.val (.tuple ds)) ω) : Q (.ref p) (upd H p (.tup vs)) := by
  obtain ⟨w2, s2⟩ := w.new (o := .tup vs) hp'
  exact o _ _ _ as _ ω s2 (List.prefix_refl _) w2 (slv (.tup (.inl (.inl upd_same)) (dpAll_up s2 hd))) hp
theorem Out.lst {K : Fg} {B F H : Hp} {as : List Addr} {Q : VK} (o : Out K B F as P Q) (w : Wd K B F H as ω) {p : Addr} (hp' : H p = none) {vs : List V} {ds : List D} (hd : DpAll K B vs ds) (hp : P (.val (.list ds)) ω) : Q (.ref p) (upd H p (.lst vs)) := by
  obtain ⟨w2, s2⟩ := w.new (o := .lst vs) hp'
  exact o _ _ _ as _ ω s2 (List.prefix_refl _) w2 (slv (.lst (.inl (.inl upd_same)) (dpAll_up s2 hd))) hp
theorem Out.own {K : Fg} {B F H : Hp} {as : List Addr} {Q : VK} (o : Out K B F as P Q) (w : Wd K B F H as ω) {p : Addr} (hp' : H p = none) {vs : List V} {ds : List D} (hd : DpAll K B vs ds) (hp : P (.own ω.length) (ω ++ [.lst ds])) : Q (.ref p) (upd H p (.lst vs)) := by
  have w2 := w.own (o := .lst vs) (c := .lst ds) hp' fun hb => ⟨hb, vs, upd_same, hd⟩
  refine o _ _ _ _ _ _ (Same.refl _) (List.prefix_append _ _) w2 (slo ?_) hp
  rw [← w.len, List.getElem?_append_right (Nat.le_refl _), Nat.sub_self]
  rfl
theorem sl_val {K : Fg} {B : Hp} {as : List Addr} {v : V} {d : D} (h : SlOk K B as (some v) (.val d)) : Dp K B v d := by
  obtain ⟨w, e, h⟩ := h
  cases e
  exact h
theorem sl_own {K : Fg} {B : Hp} {as : List Addr} {v : V} {k : Nat} (h : SlOk K B as (some v) (.own k)) : ∃ a, v = .ref a ∧ as[k]? = some a := by
  obtain ⟨w, e, h⟩ := h
  cases e
  exact ⟨_, rfl, h⟩
theorem rr_I0 {g : Int → Int → V} {i j : Int} {d : D} (hd : ∀ K B, Dp K B (g i j) d) (hp : P (.val d) ω) : RR X (rI0 g) (.val (.int i)) (.val (.int j)) ω P := fun B F H as v u w s1 s2 Q o =>
  ⟨i, j, dp_int_inv (sl_val s1), dp_int_inv (sl_val s2), o.here w (hd _ _) hp⟩
theorem rr_I {C : Int → Int → Prop} {g : Int → Int → V} {i j : Int} {d : D} (hc : C i j) (hd : ∀ K B, Dp K B (g i j) d) (hp : P (.val d) ω) : RR X (rI C g) (.val (.int i)) (.val (.int j)) ω P := fun B F H as v u w s1 s2 Q o =>
  ⟨i, j, dp_int_inv (sl_val s1), dp_int_inv (sl_val s2), hc, o.here w (hd _ _) hp⟩
theorem de_add (h : DE X a δ ω fun x ω1 => ∃ i, x = .val (.int i) ∧ DE X b δ ω1 fun y ω2 => ∃ j, y = .val (.int j) ∧ P (.val (.int (i + j))) ω2) : DE X (.BinOp a .Add b pos) δ ω P :=
  de_bin op_add (h.mono fun x ω1 ⟨i, e, q⟩ => q.mono fun y ω2 ⟨j, e2, hp⟩ => by subst e e2; exact rr_I0 (fun _ _ => .int _) hp)
theorem de_sub (h : DE X a δ ω fun x ω1 => ∃ i, x = .val (.int i) ∧ DE X b δ ω1 fun y ω2 => ∃ j, y = .val (.int j) ∧ P (.val (.int (i - j))) ω2) : DE X (.BinOp a .Sub b pos) δ ω P :=
  de_bin op_sub (h.mono fun x ω1 ⟨i, e, q⟩ => q.mono fun y ω2 ⟨j, e2, hp⟩ => by subst e e2; exact rr_I0 (fun _ _ => .int _) hp)
theorem de_mul (h : DE X a δ ω fun x ω1 => ∃ i, x = .val (.int i) ∧ DE X b δ ω1 fun y ω2 => ∃ j, y = .val (.int j) ∧ CMul i j ∧ P (.val (.int (i * j))) ω2) : DE X (.BinOp a .Mult b pos) δ ω P :=
  de_bin op_mul (h.mono fun x ω1 ⟨i, e, q⟩ => q.mono fun y ω2 ⟨j, e2, hc, hp⟩ => by subst e e2; exact rr_I hc (fun _ _ => .int _) hp)
theorem de_mod (h : DE X a δ ω fun x ω1 => ∃ i, x = .val (.int i) ∧ DE X b δ ω1 fun y ω2 => ∃ j, y = .val (.int j) ∧ 0 < j ∧ P (.val (.int (i % j))) ω2) : DE X (.BinOp a .Mod b pos) δ ω P :=
  de_bin op_mod (h.mono fun x ω1 ⟨i, e, q⟩ => q.mono fun y ω2 ⟨j, e2, hc, hp⟩ => by subst e e2; exact rr_I hc (fun _ _ => .int _) hp)
theorem de_fdiv (h : DE X a δ ω fun x ω1 => ∃ i, x = .val (.int i) ∧ DE X b δ ω1 fun y ω2 => ∃ j, y = .val (.int j) ∧ CDiv i j ∧ P (.val (.int (i / j))) ω2) : DE X (.BinOp a .FloorDiv b pos) δ ω P :=
  de_bin op_fdiv (h.mono fun x ω1 ⟨i, e, q⟩ => q.mono fun y ω2 ⟨j, e2, hc, hp⟩ => by subst e e2; exact rr_I hc (fun _ _ => .int _) hp)
theorem de_pow (h : DE X a δ ω fun x ω1 => ∃ i, x = .val (.int i) ∧ DE X b δ ω1 fun y ω2 => ∃ j, y = .val (.int j) ∧ CPow i j ∧ P (.val (.int (i ^ j.toNat))) ω2) : DE X (.BinOp a .Pow b pos) δ ω P :=
  de_bin op_pow (h.mono fun x ω1 ⟨i, e, q⟩ => q.mono fun y ω2 ⟨j, e2, hc, hp⟩ => by subst e e2; exact rr_I hc (fun _ _ => .int _) hp)
theorem de_neg (h : DE X a δ ω fun x ω1 => ∃ i, x = .val (.int i) ∧ P (.val (.int (-i))) ω1) : DE X (.UnaryOp .USub a pos) δ ω P :=
  de_un un_neg (h.mono fun x ω1 ⟨i, e, hp⟩ => by
    subst e
    exact fun B F H as v u w s1 _ Q o => ⟨i, dp_int_inv (sl_val s1), o.here w (.int _) hp⟩)
end
end
section
section
variable {X : Cx} {e a b c : Expr} {es : List Expr} {δ : List Sl} {ω : List Cell} {P P' : PO1} {pos : Pos}

/-! ### argument lists, displays -/
theorem da_nil {P : List Sl → List Cell → Prop} (hp : P [] ω) : DA X [] δ ω P := fun B F H as σ w ev Q o =>
  ⟨_, pa_nil, o [] B H as [] ω (Same.refl _) (List.prefix_refl _) w .nil hp⟩
theorem da_cons {P : List Sl → List Cell → Prop} (h : DE X e δ ω fun r ω1 => DA X es δ ω1 fun rs ω2 => P (r :: rs) ω2) (hs : starEach (e :: es) X.env = (false, eval e X.env) :: starEach es X.env := by rfl) : DA X (e :: es) δ ω P := fun B F H as σ w ev Q o => by
  refine ⟨_, pa_cons pe_w pa_w hs, ?_⟩
  refine h B F H as σ w ev _ fun x B1 H1 as1 rx ω1 e1 p1 w1 s1 q1 => ?_
  refine q1 B1 F H1 as1 σ w1 (envOk_up e1 p1 ev) _ fun vs B2 H2 as2 rs ω2 e2 p2 w2 s2 q2 => ?_
  exact o _ B2 H2 as2 _ ω2 (e1.trans e2) (p1.trans p2) w2 (.cons (slOk_up e2 p2 s1) s2) q2
theorem DA.mono {P P' : List Sl → List Cell → Prop} (h : DA X es δ ω P) (hp : ∀ r ω', P r ω' → P' r ω') : DA X es δ ω P' :=
  fun B F H as σ w ev Q o => h B F H as σ w ev Q fun v B' H' as' r ω' e1 e2 e3 e4 e5 => o v B' H' as' r ω' e1 e2 e3 e4 (hp _ _ e5)
theorem dp_len {K : Fg} {B : Hp} {as : List Addr} {vs : List V} {ds : List D} (h : RsOk K B as vs (ds.map Sl.val)) : vs.length = ds.length := dpAll_len (rsOk_vals h)
theorem de_tup {x1 : Nat} (h : DA X es δ ω fun rs ω1 => ∃ ds, rs = ds.map Sl.val ∧ ds.length ≤ sizeLine ∧ P (.val (.tuple ds)) ω1) : DE X (.Tuple es x1 pos) δ ω P := fun B F H as σ w ev Q o =>
  ⟨_, pe_tup pa_w, h B F H as σ w ev _ fun vs B1 H1 as1 rs ω1 e1 p1 w1 s1 ⟨ds, e, hl, hp⟩ => by
    subst e
    exact ⟨by rw [dp_len s1]; exact hl, fun p hp' => (o.up e1 p1).tup w1 hp' (rsOk_vals s1) hp⟩⟩
/-- a list that is known for good -/
theorem de_lst (h : DA X es δ ω fun rs ω1 => ∃ ds, rs = ds.map Sl.val ∧ ds.length ≤ sizeLine ∧ P (.val (.list ds)) ω1) : DE X (.List es pos) δ ω P := fun B F H as σ w ev Q o =>
  ⟨_, pe_lst pa_w, h B F H as σ w ev _ fun vs B1 H1 as1 rs ω1 e1 p1 w1 s1 ⟨ds, e, hl, hp⟩ => by
    subst e
    exact ⟨by rw [dp_len s1]; exact hl, fun p hp' => (o.up e1 p1).lst w1 hp' (rsOk_vals s1) hp⟩⟩
/-- a list that will be changed -/
theorem de_lstO (h : DA X es δ ω fun rs ω1 => ∃ ds, rs = ds.map Sl.val ∧ ds.length ≤ sizeLine ∧ P (.own ω1.length) (ω1 ++ [.lst ds])) : DE X (.List es pos) δ ω P := fun B F H as σ w ev Q o =>
  ⟨_, pe_lst pa_w, h B F H as σ w ev _ fun vs B1 H1 as1 rs ω1 e1 p1 w1 s1 ⟨ds, e, hl, hp⟩ => by
    subst e
    exact ⟨by rw [dp_len s1]; exact hl, fun p hp' => (o.up e1 p1).own w1 hp' (rsOk_vals s1) hp⟩⟩

/-! ### more operators, by values -/
theorem slv_tup {K : Fg} {B H : Hp} {as : List Addr} {v : V} {ds : List D} (s : SlOk K B as (some v) (.val (.tuple ds))) (sb : Same B H) : ∃ a xs, v = .ref a ∧ SqT K H a xs ∧ DpAll K B xs ds := by
  obtain ⟨a, xs, h1, h2, h3⟩ := dp_tup_inv (sl_val s)
  exact ⟨a, xs, h1, sqT_up sb h2, h3⟩
theorem slv_lst {K : Fg} {B H : Hp} {as : List Addr} {v : V} {ds : List D} (s : SlOk K B as (some v) (.val (.list ds))) (sb : Same B H) : ∃ a xs, v = .ref a ∧ SqL K H a xs ∧ DpAll K B xs ds := by
  obtain ⟨a, xs, h1, h2, h3⟩ := dp_lst_inv (sl_val s)
  exact ⟨a, xs, h1, sqL_up sb h2, h3⟩
theorem slo_lst {K : Fg} {B F H : Hp} {as : List Addr} {v : V} {k : Nat} {ds : List D} (w : Wd K B F H as ω) (s : SlOk K B as (some v) (.own k)) (hc : ω[k]? = some (.lst ds)) : ∃ a xs, v = .ref a ∧ as[k]? = some a ∧ H a = some (.lst xs) ∧ DpAll K B xs ds := by
  obtain ⟨a, h1, h2⟩ := sl_own s
  obtain ⟨_, xs, h3, h4⟩ := w.cellL h2 hc
  exact ⟨a, xs, h1, h2, h3, h4⟩
/-- what is read as a list or tuple of data -/
inductive Seq (ω : List Cell) : Sl → List D → Prop
  | tup (ds) : Seq ω (.val (.tuple ds)) ds
  | lst (ds) : Seq ω (.val (.list ds)) ds
  | own {k ds} : ω[k]? = some (.lst ds) → Seq ω (.own k) ds
theorem Seq.get {K : Fg} {B F H : Hp} {as : List Addr} {v : V} {r : Sl} {ds : List D} (w : Wd K B F H as ω) (q : Seq ω r ds) (s : SlOk K B as (some v) r) : ∃ a xs, v = .ref a ∧ (SqL K H a xs ∨ SqT K H a xs) ∧ DpAll K B xs ds := by
  cases q with
  | tup =>
    obtain ⟨a, xs, h1, h2, h3⟩ := slv_tup s w.b
    exact ⟨a, xs, h1, .inr h2, h3⟩
  | lst =>
    obtain ⟨a, xs, h1, h2, h3⟩ := slv_lst s w.b
    exact ⟨a, xs, h1, .inl h2, h3⟩
  | own hc =>
    obtain ⟨a, xs, h1, _, h2, h3⟩ := slo_lst w s hc
    exact ⟨a, xs, h1, .inl (SqL.of h2), h3⟩
theorem atI_len {α β : Type} {xs : List α} {ys : List β} (h : xs.length = ys.length) {i : Int} {y : β} (e : atI ys i = some y) : ∃ j, ixN xs.length i = some j ∧ ys[j]? = some y := by
  unfold atI at e
  rw [← h] at e
  cases q : ixN xs.length i with
  | none =>
    rw [q] at e
    cases e
  | some j =>
    rw [q] at e
    exact ⟨j, rfl, e⟩
theorem rr_ix {x : Sl} {ds : List D} {i : Int} {d : D} (hq : Seq ω x ds) (hd : atI ds i = some d) (hp : P (.val d) ω) : RR X (rIx X.K) x (.val (.int i)) ω P := fun B F H as v u w s1 s2 Q o => by
  obtain ⟨a, xs, rfl, h, hds⟩ := hq.get w s1
  obtain rfl := dp_int_inv (sl_val s2)
  obtain ⟨j, e1, e2⟩ := atI_len (dpAll_len hds) hd
  obtain ⟨z, e3, e4⟩ := dpAll_at hds e2
  have e5 : atI xs i = some z := by
    unfold atI
    rw [e1]
    exact e3
  rcases h with h | h
  · exact .inl ⟨a, xs, i, z, rfl, rfl, h, e5, o.here w e4 hp⟩
  · exact .inr (.inl ⟨a, xs, i, z, rfl, rfl, h, e5, o.here w e4 hp⟩)
theorem de_ix (hs : PlainIx b) (h : DE X a δ ω fun x ω1 => DE X b δ ω1 fun y ω2 => ∃ ds i d, y = .val (.int i) ∧ Seq ω2 x ds ∧ atI ds i = some d ∧ P (.val d) ω2) : DE X (.Subscript a b pos) δ ω P := fun B F H as σ w ev Q o => by
  refine ⟨_, pe_ix ix_seq pe_w pe_w hs, ?_⟩
  refine h B F H as σ w ev _ fun x B1 H1 as1 rx ω1 e1 p1 w1 s1 q1 => ?_
  refine q1 B1 F H1 as1 σ w1 (envOk_up e1 p1 ev) _ fun y B2 H2 as2 ry ω2 e2 p2 w2 s2 ⟨ds, i, d, ey, hq, hd, hp⟩ => ?_
  subst ey
  exact rr_ix hq hd hp B2 F H2 as2 x y w2 (slOk_up e2 p2 s1) s2 Q (o.up (e1.trans e2) (p1.trans p2))
/-- == and != of data -/
theorem rr_eqD {d f : D} (h1 : SeqAt.shaped d = true) (h2 : SeqAt.shaped f = true) (hp : P (.val (.bool (PyData.eqv d f))) ω) : RR X (rEqD X.K) (.val d) (.val f) ω P := fun B F H as v u w s1 s2 Q o =>
  ⟨d, f, dp_up w.b (sl_val s1), dp_up w.b (sl_val s2), h1, h2, o.here w (.bl _) hp⟩
theorem rr_neD {d f : D} (h1 : SeqAt.shaped d = true) (h2 : SeqAt.shaped f = true) (hp : P (.val (.bool (!PyData.eqv d f))) ω) : RR X (rNeD X.K) (.val d) (.val f) ω P := fun B F H as v u w s1 s2 Q o =>
  ⟨d, f, dp_up w.b (sl_val s1), dp_up w.b (sl_val s2), h1, h2, o.here w (.bl _) hp⟩
/-- is None -/
def isNon : D → Bool
  | .none => true
  | _ => false
theorem dp_isNon {K : Fg} {H : Hp} {v : V} {d : D} (h : Dp K H v d) : decide (v = .non) = isNon d := by
  cases h <;> rfl
theorem rr_isN {d : D} (hp : P (.val (.bool (isNon d))) ω) : RR X (fun x y H Q => y = .non ∧ Q (.bl (decide (x = .non))) H) (.val d) (.val .none) ω P := fun B F H as v u w s1 s2 Q o => by
  refine ⟨dp_non_inv (sl_val s2), ?_⟩
  rw [dp_isNon (sl_val s1)]
  exact o.here w (.bl _) hp
theorem rr_notN {d : D} (hp : P (.val (.bool (!isNon d))) ω) : RR X (fun x y H Q => y = .non ∧ Q (.bl (!decide (x = .non))) H) (.val d) (.val .none) ω P := fun B F H as v u w s1 s2 Q o => by
  refine ⟨dp_non_inv (sl_val s2), ?_⟩
  rw [dp_isNon (sl_val s1)]
  exact o.here w (.bl _) hp
/-- flat data and its value -/
def fv : D → V
  | .bool b => .bl b
  | .int i => .int i
  | .str x => .str x
  | _ => .non
def flat : D → Bool
  | .none => true
  | .bool _ => true
  | .int _ => true
  | .str _ => true
  | _ => false
theorem dp_flat {K : Fg} {H : Hp} {v : V} {d : D} (h : Dp K H v d) (hf : flat d = true) : v = fv d ∧ flatV v = true := by
  cases h <;> first | exact ⟨rfl, rfl⟩ | cases hf
theorem dpAll_flat {K : Fg} {H : Hp} : ∀ {vs : List V} {ds : List D}, DpAll K H vs ds → ds.all flat = true → vs = ds.map fv ∧ vs.all flatV = true
  | _, _, .nil, _ => ⟨rfl, rfl⟩
  | _, _, .cons h q, hf => by
    rw [List.all_cons, Bool.and_eq_true] at hf
    obtain ⟨e1, e2⟩ := dp_flat h hf.1
    obtain ⟨e3, e4⟩ := dpAll_flat q hf.2
    exact ⟨by rw [List.map_cons, ← e1, ← e3], by rw [List.all_cons, e2, e4]; rfl⟩
def inD (x : D) (ds : List D) : Bool := inV (fv x) (ds.map fv)
theorem rr_in {neg : Bool} {x : D} {r : Sl} {ds : List D} (hx : flat x = true) (hq : Seq ω r ds) (hf : ds.all flat = true) (hp : P (.val (.bool (if neg then !inD x ds else inD x ds))) ω) : RR X (rIn X.K neg) (.val x) r ω P := fun B F H as v u w s1 s2 Q o => by
  obtain ⟨a, xs, rfl, h, hds⟩ := hq.get w s2
  obtain ⟨e1, e2⟩ := dp_flat (sl_val s1) hx
  obtain ⟨e3, e4⟩ := dpAll_flat hds hf
  refine ⟨a, xs, rfl, h, e2, e4, ?_⟩
  rw [e1, e3]
  exact o.here w (.bl _) hp
/-- t + u of tuples -/
theorem rr_cat {ds es : List D} (hz : ds.length + es.length ≤ sizeLine) (hp : P (.val (.tuple (ds ++ es))) ω) : RR X (rCatA X.K) (.val (.tuple ds)) (.val (.tuple es)) ω P := fun B F H as v u w s1 s2 Q o => by
  obtain ⟨a, xs, rfl, h1, h2⟩ := slv_tup s1 w.b
  obtain ⟨b, ys, rfl, g1, g2⟩ := slv_tup s2 w.b
  refine ⟨a, b, xs, ys, rfl, rfl, h1, g1, by rw [dpAll_len h2, dpAll_len g2]; exact hz, fun z => ?_, fun _ z => ?_, fun _ _ p hp' => o.tup w hp' (dpAll_app h2 g2) hp⟩
  · subst z
    cases h2
    exact o.here w (sl_val s2) hp
  · subst z
    cases g2
    rw [List.append_nil] at hp
    exact o.here w (sl_val s1) hp
theorem rr_catL {x y : Sl} {ds es : List D} (q1 : x = .val (.list ds)) (q2 : y = .val (.list es)) (hz : ds.length + es.length ≤ sizeLine) (hp : P (.val (.list (ds ++ es))) ω) : RR X (fun x y H Q => ∃ a b xs ys, x = .ref a ∧ y = .ref b ∧ SqL X.K H a xs ∧ SqL X.K H b ys ∧ xs.length + ys.length ≤ sizeLine ∧ ∀ p, H p = none → Q (.ref p) (upd H p (.lst (xs ++ ys)))) x y ω P := fun B F H as v u w s1 s2 Q o => by
  subst q1 q2
  obtain ⟨a, xs, rfl, h1, h2⟩ := slv_lst s1 w.b
  obtain ⟨b, ys, rfl, g1, g2⟩ := slv_lst s2 w.b
  exact ⟨a, b, xs, ys, rfl, rfl, h1, g1, by rw [dpAll_len h2, dpAll_len g2]; exact hz, fun p hp' => o.lst w hp' (dpAll_app h2 g2) hp⟩

/-! ### built-ins by values -/
def RA (X : Cx) (r : List V → Hp → VK → Prop) (rs : List Sl) (ω : List Cell) (P : PO1) : Prop :=
  ∀ B F H as vs, Wd X.K B F H as ω → RsOk X.K B as vs rs → ∀ Q, Out X.K B F as P Q → r vs H Q
theorem de_callB {id : String} {r : List V → Hp → VK → Prop} {x : Str} {p : Pos} (hc : CallR X (.builtin id) r) (hg : Gl X x) (hm : X.mg x = none) (hv : bootBuiltins x = some (.builtin id)) (h : DA X (e :: es) δ ω fun rs ω1 => RA X r rs ω1 P)
    (hn : x ≠ "__name__" := by decide) (hdb : (x == ("__debug__" : Str)) = false := by decide)
    (he : starEach (e :: es) X.env = (false, eval e X.env) :: starEach es X.env := by rfl) (hpl : (backTo pos (starEach es X.env)).any (·.1) = false := by rfl) : DE X (.Call (.Name x p) (e :: es) [] pos) δ ω P := fun B F H as σ w ev Q o =>
  ⟨_, pe_callB hc hg hm hv pa_w hn hdb he hpl, h B F H as σ w ev _ fun vs B1 H1 as1 rs ω1 e1 p1 w1 s1 q1 => q1 B1 F H1 as1 vs w1 s1 Q (o.up e1 p1)⟩
theorem de_callTy {T : String} {r : List V → Hp → VK → Prop} {x : Str} {p : Pos} (hc : CallR X (.type T) r) (hg : Gl X x) (hm : X.mg x = none) (hv : bootBuiltins x = some (.type T)) (h : DA X (e :: es) δ ω fun rs ω1 => RA X r rs ω1 P)
    (hn : x ≠ "__name__" := by decide) (hdb : (x == ("__debug__" : Str)) = false := by decide)
    (he : starEach (e :: es) X.env = (false, eval e X.env) :: starEach es X.env := by rfl) (hpl : (backTo pos (starEach es X.env)).any (·.1) = false := by rfl) : DE X (.Call (.Name x p) (e :: es) [] pos) δ ω P := fun B F H as σ w ev Q o =>
  ⟨_, pe_callTy hc hg hm hv pa_w hn hdb he hpl, h B F H as σ w ev _ fun vs B1 H1 as1 rs ω1 e1 p1 w1 s1 q1 => q1 B1 F H1 as1 vs w1 s1 Q (o.up e1 p1)⟩
theorem rs1 {K : Fg} {B : Hp} {as : List Addr} {vs : List V} {r : Sl} (h : RsOk K B as vs [r]) : ∃ v, vs = [v] ∧ SlOk K B as (some v) r := by
  cases h with
  | cons h q =>
    cases q
    exact ⟨_, rfl, h⟩
theorem rs2 {K : Fg} {B : Hp} {as : List Addr} {vs : List V} {r s : Sl} (h : RsOk K B as vs [r, s]) : ∃ v u, vs = [v, u] ∧ SlOk K B as (some v) r ∧ SlOk K B as (some u) s := by
  cases h with
  | cons h q =>
    obtain ⟨u, rfl, h2⟩ := rs1 q
    exact ⟨_, u, rfl, h, h2⟩
theorem ra_len {r : Sl} {ds : List D} (hq : Seq ω r ds) (hp : P (.val (.int ds.length)) ω) : RA X (fun xs H Q => ∃ p ys, xs = [.ref p] ∧ (SqL X.K H p ys ∨ SqT X.K H p ys) ∧ Q (.int ys.length) H) [r] ω P := fun B F H as vs w s Q o => by
  obtain ⟨v, rfl, s1⟩ := rs1 s
  obtain ⟨a, xs, rfl, h, hds⟩ := hq.get w s1
  refine ⟨a, xs, rfl, h, ?_⟩
  rw [dpAll_len hds]
  exact o.here w (.int _) hp
theorem ra_tuple {r : Sl} {ds : List D} (hq : Seq ω r ds) (hp : P (.val (.tuple ds)) ω) :
    RA X (fun xs H Q => ∃ p ys, xs = [.ref p] ∧ ((SqL X.K H p ys ∧ ∀ l, H l = none → Q (.ref l) (upd H l (.tup ys))) ∨ (SqT X.K H p ys ∧ Q (.ref p) H))) [r] ω P := fun B F H as vs w s Q o => by
  obtain ⟨v, rfl, s1⟩ := rs1 s
  cases hq with
  | tup =>
    obtain ⟨a, xs, rfl, h2, h3⟩ := slv_tup s1 w.b
    exact ⟨a, xs, rfl, .inr ⟨h2, o.here w (sl_val s1) hp⟩⟩
  | lst =>
    obtain ⟨a, xs, rfl, h2, h3⟩ := slv_lst s1 w.b
    exact ⟨a, xs, rfl, .inl ⟨h2, fun l hl => o.tup w hl h3 hp⟩⟩
  | own hc =>
    obtain ⟨a, xs, rfl, _, h2, h3⟩ := slo_lst w s1 hc
    exact ⟨a, xs, rfl, .inl ⟨SqL.of h2, fun l hl => o.tup w hl h3 hp⟩⟩
theorem ra_list {r : Sl} {ds : List D} (hq : Seq ω r ds) (hp : P (.val (.list ds)) ω) :
    RA X (fun xs H Q => ∃ p ys, xs = [.ref p] ∧ (SqL X.K H p ys ∨ SqT X.K H p ys) ∧ ∀ l, H l = none → Q (.ref l) (upd H l (.lst ys))) [r] ω P := fun B F H as vs w s Q o => by
  obtain ⟨v, rfl, s1⟩ := rs1 s
  obtain ⟨a, xs, rfl, h, hds⟩ := hq.get w s1
  exact ⟨a, xs, rfl, h, fun l hl => o.lst w hl hds hp⟩
theorem ra_listO {r : Sl} {ds : List D} (hq : Seq ω r ds) (hp : P (.own ω.length) (ω ++ [.lst ds])) :
    RA X (fun xs H Q => ∃ p ys, xs = [.ref p] ∧ (SqL X.K H p ys ∨ SqT X.K H p ys) ∧ ∀ l, H l = none → Q (.ref l) (upd H l (.lst ys))) [r] ω P := fun B F H as vs w s Q o => by
  obtain ⟨v, rfl, s1⟩ := rs1 s
  obtain ⟨a, xs, rfl, h, hds⟩ := hq.get w s1
  exact ⟨a, xs, rfl, h, fun l hl => o.own w hl hds hp⟩
theorem dpAll_ints {K : Fg} {H : Hp} : ∀ {vs : List V} {ns : List Int}, DpAll K H vs (ns.map PyData.int) → vs = ns.map V.int
  | _, [], .nil => rfl
  | _, n :: ns, .cons h q => by rw [List.map_cons, dp_int_inv h, dpAll_ints q]
theorem dpAll_bls {K : Fg} {H : Hp} : ∀ {vs : List V} {ns : List Bool}, DpAll K H vs (ns.map PyData.bool) → vs = ns.map V.bl
  | _, [], .nil => rfl
  | _, n :: ns, .cons h q => by rw [List.map_cons, dp_bl_inv h, dpAll_bls q]
theorem ra_all {bs : List Bool} (hp : P (.val (.bool (bs.all id))) ω) : RA X (rAll X.K) [.val (.list (bs.map PyData.bool))] ω P := fun B F H as vs w s Q o => by
  obtain ⟨v, rfl, s1⟩ := rs1 s
  obtain ⟨a, xs, rfl, h2, h3⟩ := slv_lst s1 w.b
  rw [dpAll_bls h3] at h2
  exact ⟨a, bs, rfl, h2, o.here w (.bl _) hp⟩
theorem ra_any {bs : List Bool} (hp : P (.val (.bool (bs.any id))) ω) : RA X (rAny X.K) [.val (.list (bs.map PyData.bool))] ω P := fun B F H as vs w s Q o => by
  obtain ⟨v, rfl, s1⟩ := rs1 s
  obtain ⟨a, xs, rfl, h2, h3⟩ := slv_lst s1 w.b
  rw [dpAll_bls h3] at h2
  exact ⟨a, bs, rfl, h2, o.here w (.bl _) hp⟩
theorem ra_sum {ns : List Int} (hp : P (.val (.int ns.sum)) ω) : RA X (rSum X.K) [.val (.list (ns.map PyData.int))] ω P := fun B F H as vs w s Q o => by
  obtain ⟨v, rfl, s1⟩ := rs1 s
  obtain ⟨a, xs, rfl, h2, h3⟩ := slv_lst s1 w.b
  rw [dpAll_ints h3] at h2
  exact ⟨a, ns, rfl, h2, o.here w (.int _) hp⟩
theorem ra_max2 {i j : Int} (hp : P (.val (.int (if j > i then j else i))) ω) : RA X (fun xs H Q => ∃ i j, xs = [.int i, .int j] ∧ Q (.int (if j > i then j else i)) H) [.val (.int i), .val (.int j)] ω P := fun B F H as vs w s Q o => by
  obtain ⟨v, u, rfl, s1, s2⟩ := rs2 s
  exact ⟨i, j, by rw [dp_int_inv (sl_val s1), dp_int_inv (sl_val s2)], o.here w (.int _) hp⟩
theorem ra_min2 {i j : Int} (hp : P (.val (.int (if j < i then j else i))) ω) : RA X (fun xs H Q => ∃ i j, xs = [.int i, .int j] ∧ Q (.int (if j < i then j else i)) H) [.val (.int i), .val (.int j)] ω P := fun B F H as vs w s Q o => by
  obtain ⟨v, u, rfl, s1, s2⟩ := rs2 s
  exact ⟨i, j, by rw [dp_int_inv (sl_val s1), dp_int_inv (sl_val s2)], o.here w (.int _) hp⟩

/-! ### ranges as arguments -/
def rgD (a b : Int) : List D := (List.range (b - a).toNat).map fun i => .int (a + (i : Nat))
theorem dp_rg {K : Fg} {B : Hp} (a b : Int) : DpAll K B (rgV a b) (rgD a b) := by
  unfold rgV rgD
  generalize List.range (b - a).toNat = l
  induction l with
  | nil => exact .nil
  | cons x r ih => exact .cons (.int _) ih
theorem de_tupRg1 {p p2 pos2 : Pos} (hc : X.calm = true) (hg : Gl X "tuple") (hm : X.mg "tuple" = none) (hg2 : Gl X "range") (hm2 : X.mg "range" = none) (h : DE X e δ ω fun r ω1 => ∃ n, r = .val (.int n) ∧ 0 ≤ n ∧ n ≤ 10000 ∧ P (.val (.tuple (rgD 0 n))) ω1)
    (na : starEach [.Call (.Name "range" p2) [e] [] pos2] X.env = (false, eval (.Call (.Name "range" p2) [e] [] pos2) X.env) :: starEach [] X.env := by rfl) (na2 : starEach [e] X.env = (false, eval e X.env) :: starEach [] X.env := by rfl) :
    DE X (.Call (.Name "tuple" p) [.Call (.Name "range" p2) [e] [] pos2] [] pos) δ ω P := fun B F H as σ w ev Q o =>
  ⟨_, pe_tupRg hc hg hm (prg_1 hg2 hm2 pe_w na2) na, h B F H as σ w ev _ fun v B1 H1 as1 r ω1 e1 p1 w1 s1 ⟨n, er, h0, hn, hp⟩ => by
    subst er
    obtain rfl := dp_int_inv (sl_val s1)
    exact ⟨n, rfl, RgOk.of_le (by omega) (by omega) (by omega) h0, fun q hq => (o.up e1 p1).tup w1 hq (dp_rg _ _) hp⟩⟩
theorem de_lstRg1 {p p2 pos2 : Pos} (hc : X.calm = true) (hg : Gl X "list") (hm : X.mg "list" = none) (hg2 : Gl X "range") (hm2 : X.mg "range" = none) (h : DE X e δ ω fun r ω1 => ∃ n, r = .val (.int n) ∧ 0 ≤ n ∧ n ≤ 10000 ∧ P (.val (.list (rgD 0 n))) ω1)
    (na : starEach [.Call (.Name "range" p2) [e] [] pos2] X.env = (false, eval (.Call (.Name "range" p2) [e] [] pos2) X.env) :: starEach [] X.env := by rfl) (na2 : starEach [e] X.env = (false, eval e X.env) :: starEach [] X.env := by rfl) :
    DE X (.Call (.Name "list" p) [.Call (.Name "range" p2) [e] [] pos2] [] pos) δ ω P := fun B F H as σ w ev Q o =>
  ⟨_, pe_listRg hc hg hm (prg_1 hg2 hm2 pe_w na2) na, h B F H as σ w ev _ fun v B1 H1 as1 r ω1 e1 p1 w1 s1 ⟨n, er, h0, hn, hp⟩ => by
    subst er
    obtain rfl := dp_int_inv (sl_val s1)
    exact ⟨n, rfl, RgOk.of_le (by omega) (by omega) (by omega) h0, fun q hq => (o.up e1 p1).lst w1 hq (dp_rg _ _) hp⟩⟩

/-! ### slices of tuples -/
def cutD (ds : List D) (lo hi : Option Int) : List D := (ds.drop (HT.sIx ds.length 0 lo)).take (HT.sIx ds.length ds.length hi - HT.sIx ds.length 0 lo)
theorem dp_cut {K : Fg} {B : Hp} {vs : List V} {ds : List D} (h : DpAll K B vs ds) (lo hi : Option Int) : DpAll K B (cutV vs lo hi) (cutD ds lo hi) := by
  unfold cutV cutD
  rw [dpAll_len h]
  exact dpAll_take _ (dpAll_drop _ h)
def DO (X : Cx) (e : Option Expr) (δ : List Sl) (ω : List Cell) (P : Option Int → List Cell → Prop) : Prop :=
  match e with
  | none => P none ω
  | some e => DE X e δ ω fun r ω1 => ∃ i, r = .val (.int i) ∧ P (some i) ω1
theorem do_run {lo : Option Expr} {P : Option Int → List Cell → Prop} (h : DO X lo δ ω P) {B F H : Hp} {as : List Addr} {σ : L2.St} (w : Wd X.K B F H as ω) (ev : EnvOk X.K B as σ δ) (Q : Option Int → Hp → Prop)
    (o : ∀ z B' H' as' ω', Same B B' → as <+: as' → Wd X.K B' F H' as' ω' → P z ω' → Q z H') : ∃ t, PO X lo t ∧ t σ H Q := by
  cases lo with
  | none => exact ⟨_, po_none, o none B H as ω (Same.refl _) (List.prefix_refl _) w h⟩
  | some e =>
    refine ⟨_, po_some pe_w, ?_⟩
    refine h B F H as σ w ev _ fun v B1 H1 as1 r ω1 e1 p1 w1 s1 ⟨i, er, hp⟩ => ?_
    subst er
    obtain rfl := dp_int_inv (sl_val s1)
    exact ⟨i, rfl, o _ B1 H1 as1 ω1 e1 p1 w1 hp⟩
def wO (X : Cx) (e : Option Expr) : TO := fun σ H Q => ∃ t, PO X e t ∧ t σ H Q
theorem po_w {lo : Option Expr} : PO X lo (wO X lo) := ⟨fun pins s σ H Q I h => by
  obtain ⟨_, p, q⟩ := h
  exact p.run pins s σ H Q I q⟩
theorem de_sliceT {lo hi : Option Expr} {p2 : Pos} (h : DE X e δ ω fun x ω1 => ∃ ds, x = .val (.tuple ds) ∧ DO X lo δ ω1 fun i ω2 => DO X hi δ ω2 fun j ω3 => P (.val (.tuple (cutD ds i j))) ω3) : DE X (.Subscript e (.Slice lo hi none p2) pos) δ ω P := fun B F H as σ w ev Q o => by
  refine ⟨_, pe_slice sl_tupA pe_w po_w po_w, ?_⟩
  refine h B F H as σ w ev _ fun x B1 H1 as1 rx ω1 e1 p1 w1 s1 ⟨ds, ex, q1⟩ => ?_
  subst ex
  refine do_run q1 w1 (envOk_up e1 p1 ev) _ fun i B2 H2 as2 ω2 e2 p2 w2 q2 => ?_
  refine do_run q2 w2 (envOk_up (e1.trans e2) (p1.trans p2) ev) _ fun j B3 H3 as3 ω3 e3 p3 w3 q3 => ?_
  have s3 := slOk_up (e2.trans e3) (p2.trans p3) s1
  obtain ⟨a, xs, rfl, h1, h2⟩ := slv_tup s3 w3.b
  have o3 := o.up ((e1.trans e2).trans e3) ((p1.trans p2).trans p3)
  refine ⟨a, xs, rfl, h1, fun z => ?_, fun _ p hp => o3.tup w3 hp (dp_cut h2 i j) q3⟩
  have e0 : cutD ds i j = ds := by
    unfold cutD
    rw [← dpAll_len h2, z.1, z.2, dpAll_len h2, List.drop_zero, Nat.sub_zero, List.take_length]
  rw [e0] at q3
  exact o3.here w3 (sl_val s3) q3
end
end
section
section
variable {X : Cx} {e a b c tg iter : Expr} {es : List Expr} {δ : List Sl} {ω : List Cell} {P P' : PO1} {T : Bool → List Cell → Prop} {pos : Pos}

/-! ### tests -/
theorem dt_val (h : DE X e δ ω fun r ω1 => ∃ b, r = .val (.bool b) ∧ T b ω1) (he : ∀ whole, isTrue e X.env whole = (do let v ← whole; standAt e.pos; holding [v] (truthy v)) := by intro _; rfl) : DT X e δ ω T := fun B F H as σ w ev Q o =>
  ⟨_, pt_val pe_w he, h B F H as σ w ev _ fun v B1 H1 as1 r ω1 e1 p1 w1 s1 ⟨b, er, hp⟩ => by
    subst er
    exact ⟨b, dp_bl_inv (sl_val s1), o b B1 H1 as1 ω1 e1 p1 w1 hp⟩⟩
theorem dt_cmp {op : CmpOp} {r : R2} (ho : OpR X (compareOp op) r) (hm : behindInMarks op b = false) (h : DE X a δ ω fun x ω1 => DE X b δ ω1 fun y ω2 => RR X r x y ω2 fun z ω3 => ∃ k, z = .val (.bool k) ∧ T k ω3) : DT X (.Compare a [op] [b] pos) δ ω T := fun B F H as σ w ev Q o => by
  refine ⟨_, pt_cmpR ho pe_w pe_w hm, ?_⟩
  refine h B F H as σ w ev _ fun x B1 H1 as1 rx ω1 e1 p1 w1 s1 q1 => ?_
  refine q1 B1 F H1 as1 σ w1 (envOk_up e1 p1 ev) _ fun y B2 H2 as2 ry ω2 e2 p2 w2 s2 q2 => ?_
  refine q2 B2 F H2 as2 x y w2 (slOk_up e2 p2 s1) s2 _ fun z B3 H3 as3 rz ω3 e3 p3 w3 s3 ⟨k, ez, hp⟩ => ?_
  subst ez
  exact ⟨k, dp_bl_inv (sl_val s3), o k B3 H3 as3 ω3 ((e1.trans e2).trans e3) ((p1.trans p2).trans p3) w3 hp⟩
theorem dt_chain {op op' : CmpOp} {r r' : R2} (ho : OpR X (compareOp op) r) (ho' : OpR X (compareOp op') r')
    (h : DE X a δ ω fun x ω1 => DE X b δ ω1 fun y ω2 => RR X r x y ω2 fun z ω3 => ∃ k, z = .val (.bool k) ∧ if k = true then DE X c δ ω3 fun u ω4 => RR X r' y u ω4 fun z ω5 => ∃ k, z = .val (.bool k) ∧ T k ω5 else T false ω3)
    (hm : lastMarks [op, op'] [b, c] = false := by with_unfolding_all rfl) : DT X (.Compare a [op, op'] [b, c] pos) δ ω T := fun B F H as σ w ev Q o => by
  refine ⟨_, pt_chain ho ho' pe_w pe_w pe_w hm, ?_⟩
  refine h B F H as σ w ev _ fun x B1 H1 as1 rx ω1 e1 p1 w1 s1 q1 => ?_
  refine q1 B1 F H1 as1 σ w1 (envOk_up e1 p1 ev) _ fun y B2 H2 as2 ry ω2 e2 p2 w2 s2 q2 => ?_
  refine q2 B2 F H2 as2 x y w2 (slOk_up e2 p2 s1) s2 _ fun z B3 H3 as3 rz ω3 e3 p3 w3 s3 ⟨k, ez, hp⟩ => ?_
  subst ez
  refine ⟨k, dp_bl_inv (sl_val s3), ?_⟩
  cases k with
  | false =>
    exact ⟨false, rfl, o false B3 H3 as3 ω3 ((e1.trans e2).trans e3) ((p1.trans p2).trans p3) w3 hp⟩
  | true =>
    refine hp B3 F H3 as3 σ w3 (envOk_up ((e1.trans e2).trans e3) ((p1.trans p2).trans p3) ev) _ fun u B4 H4 as4 ru ω4 e4 p4 w4 s4 q4 => ?_
    refine q4 B4 F H4 as4 y u w4 (slOk_up (e3.trans e4) (p3.trans p4) s2) s4 _ fun z B5 H5 as5 rz ω5 e5 p5 w5 s5 ⟨k, ez, hp⟩ => ?_
    subst ez
    exact ⟨k, dp_bl_inv (sl_val s5), o k B5 H5 as5 ω5 ((((e1.trans e2).trans e3).trans e4).trans e5) ((((p1.trans p2).trans p3).trans p4).trans p5) w5 hp⟩
theorem de_chain {op op' : CmpOp} {r r' : R2} (ho : OpR X (compareOp op) r) (ho' : OpR X (compareOp op') r')
    (h : DE X a δ ω fun x ω1 => DE X b δ ω1 fun y ω2 => RR X r x y ω2 fun z ω3 => ∃ k, z = .val (.bool k) ∧ if k = true then DE X c δ ω3 fun u ω4 => RR X r' y u ω4 P else P (.val (.bool false)) ω3)
    (hm : lastMarks [op, op'] [b, c] = false := by with_unfolding_all rfl) : DE X (.Compare a [op, op'] [b, c] pos) δ ω P := fun B F H as σ w ev Q o => by
  refine ⟨_, pe_chain ho ho' pe_w pe_w pe_w hm, ?_⟩
  refine h B F H as σ w ev _ fun x B1 H1 as1 rx ω1 e1 p1 w1 s1 q1 => ?_
  refine q1 B1 F H1 as1 σ w1 (envOk_up e1 p1 ev) _ fun y B2 H2 as2 ry ω2 e2 p2 w2 s2 q2 => ?_
  refine q2 B2 F H2 as2 x y w2 (slOk_up e2 p2 s1) s2 _ fun z B3 H3 as3 rz ω3 e3 p3 w3 s3 ⟨k, ez, hp⟩ => ?_
  subst ez
  refine ⟨k, dp_bl_inv (sl_val s3), ?_⟩
  cases k with
  | false =>
    exact o _ B3 H3 as3 _ ω3 ((e1.trans e2).trans e3) ((p1.trans p2).trans p3) w3 (slv (.bl _)) hp
  | true =>
    refine hp B3 F H3 as3 σ w3 (envOk_up ((e1.trans e2).trans e3) ((p1.trans p2).trans p3) ev) _ fun u B4 H4 as4 ru ω4 e4 p4 w4 s4 q4 => ?_
    exact q4 B4 F H4 as4 y u w4 (slOk_up (e3.trans e4) (p3.trans p4) s2) s4 _ (o.up (((e1.trans e2).trans e3).trans e4) (((p1.trans p2).trans p3).trans p4))
theorem dt_not (h : DT X a δ ω fun k ω1 => T (!k) ω1) : DT X (.UnaryOp .Not a pos) δ ω T := fun B F H as σ w ev Q o =>
  ⟨_, pt_not pt_w, h B F H as σ w ev _ fun k B1 H1 as1 ω1 e1 p1 w1 hp => o (!k) B1 H1 as1 ω1 e1 p1 w1 hp⟩
theorem dt_w (h : DW X e δ ω T) : DT X e δ ω T := fun B F H as σ w ev Q o => ⟨_, pw_w.pt, h B F H as σ w ev Q o⟩
theorem dw_and1 (h : DT X a δ ω T) : DW X (.BoolOp .And [a] pos) δ ω T := fun B F H as σ w ev Q o => ⟨_, pw_and1 pt_w, h B F H as σ w ev Q o⟩
theorem dw_or1 (h : DT X a δ ω T) : DW X (.BoolOp .Or [a] pos) δ ω T := fun B F H as σ w ev Q o => ⟨_, pw_or1 pt_w, h B F H as σ w ev Q o⟩
theorem dw_and (h : DT X a δ ω fun k ω1 => if k = true then DW X (.BoolOp .And (b :: es) pos) δ ω1 T else T false ω1) : DW X (.BoolOp .And (a :: b :: es) pos) δ ω T := fun B F H as σ w ev Q o => by
  refine ⟨_, pw_and pt_w pw_w, ?_⟩
  refine h B F H as σ w ev _ fun k B1 H1 as1 ω1 e1 p1 w1 hp => ?_
  cases k with
  | true => exact hp B1 F H1 as1 σ w1 (envOk_up e1 p1 ev) Q (o.up e1 p1)
  | false => exact o false B1 H1 as1 ω1 e1 p1 w1 hp
theorem dw_or (h : DT X a δ ω fun k ω1 => if k = true then T true ω1 else DW X (.BoolOp .Or (b :: es) pos) δ ω1 T) : DW X (.BoolOp .Or (a :: b :: es) pos) δ ω T := fun B F H as σ w ev Q o => by
  refine ⟨_, pw_or pt_w pw_w, ?_⟩
  refine h B F H as σ w ev _ fun k B1 H1 as1 ω1 e1 p1 w1 hp => ?_
  cases k with
  | true => exact o true B1 H1 as1 ω1 e1 p1 w1 hp
  | false => exact hp B1 F H1 as1 σ w1 (envOk_up e1 p1 ev) Q (o.up e1 p1)
theorem de_if {t : Expr} (h : DT X t δ ω fun k ω1 => if k = true then DE X a δ ω1 P else DE X b δ ω1 P) : DE X (.IfExp t a b pos) δ ω P := fun B F H as σ w ev Q o => by
  refine ⟨_, pe_ifExp pt_w pe_w pe_w, ?_⟩
  refine h B F H as σ w ev _ fun k B1 H1 as1 ω1 e1 p1 w1 hp => ?_
  cases k with
  | true => exact hp B1 F H1 as1 σ w1 (envOk_up e1 p1 ev) Q (o.up e1 p1)
  | false => exact hp B1 F H1 as1 σ w1 (envOk_up e1 p1 ev) Q (o.up e1 p1)
/-- and, or, not as values, of bools -/
theorem de_one {op : BoolOp} (h : DE X a δ ω P) : DE X (.BoolOp op [a] pos) δ ω P := fun B F H as σ w ev Q o => ⟨_, pe_one pe_w, h B F H as σ w ev Q o⟩
theorem de_and (h : DE X a δ ω fun r ω1 => ∃ k, r = .val (.bool k) ∧ if k = true then DE X (.BoolOp .And (b :: es) pos) δ ω1 P else P (.val (.bool false)) ω1) : DE X (.BoolOp .And (a :: b :: es) pos) δ ω P := fun B F H as σ w ev Q o => by
  refine ⟨_, pe_and pe_w pe_w, ?_⟩
  refine h B F H as σ w ev _ fun v B1 H1 as1 r ω1 e1 p1 w1 s1 ⟨k, er, hp⟩ => ?_
  subst er
  refine ⟨k, dp_bl_inv (sl_val s1), ?_⟩
  cases k with
  | true => exact hp B1 F H1 as1 σ w1 (envOk_up e1 p1 ev) Q (o.up e1 p1)
  | false => exact o _ B1 H1 as1 _ ω1 e1 p1 w1 (slv (.bl _)) hp
theorem de_or (h : DE X a δ ω fun r ω1 => ∃ k, r = .val (.bool k) ∧ if k = true then P (.val (.bool true)) ω1 else DE X (.BoolOp .Or (b :: es) pos) δ ω1 P) : DE X (.BoolOp .Or (a :: b :: es) pos) δ ω P := fun B F H as σ w ev Q o => by
  refine ⟨_, pe_or pe_w pe_w, ?_⟩
  refine h B F H as σ w ev _ fun v B1 H1 as1 r ω1 e1 p1 w1 s1 ⟨k, er, hp⟩ => ?_
  subst er
  refine ⟨k, dp_bl_inv (sl_val s1), ?_⟩
  cases k with
  | true => exact o _ B1 H1 as1 _ ω1 e1 p1 w1 (slv (.bl _)) hp
  | false => exact hp B1 F H1 as1 σ w1 (envOk_up e1 p1 ev) Q (o.up e1 p1)
theorem de_notV (h : DE X a δ ω fun r ω1 => ∃ k, r = .val (.bool k) ∧ P (.val (.bool (!k))) ω1) : DE X (.UnaryOp .Not a pos) δ ω P := fun B F H as σ w ev Q o =>
  ⟨_, pe_not pe_w, h B F H as σ w ev _ fun v B1 H1 as1 r ω1 e1 p1 w1 s1 ⟨k, er, hp⟩ => by
    subst er
    exact ⟨k, dp_bl_inv (sl_val s1), o _ B1 H1 as1 _ ω1 e1 p1 w1 (slv (.bl _)) hp⟩⟩

/-! ### targets -/
def wG (X : Cx) (t : Expr) : TG := fun v σ H Q => ∃ g, PG X t g ∧ g v σ H Q
theorem pg_w : PG X tg (wG X tg) := ⟨fun pins s σ H v u Q I r h => by
  obtain ⟨_, p, q⟩ := h
  exact p.run pins s σ H v u Q I r q⟩
/-- the target takes the datum d; vs: the slots that it may set -/
def DG (X : Cx) (vs : List Nat) (tg : Expr) (d : D) (δ : List Sl) (k : List Sl → Prop) : Prop :=
  ∀ B H as σ v, Same B H → EnvOk X.K B as σ δ → Dp X.K B v d → ∀ Q, (∀ σ' δ', EnvOk X.K B as σ' δ' → σ'.length = σ.length → (∀ i, i ∉ vs → σ'[i]? = σ[i]?) → k δ' → Q σ' H) → wG X tg v σ H Q
theorem dg_name {vs : List Nat} {i : Nat} {x : Str} {d : D} {k : List Sl → Prop} (hN : X.N.Nodup) (hi : X.N[i]? = some x) (hx : Loc X.env.scope x) (hv : i ∈ vs) (hk : k (δ.set i (.val d)))
    (hf : X.fn x = true ∨ X.env.scope.names.lookup x = some .local := by first | exact .inl rfl | exact .inr rfl | assumption) : DG X vs (.Name x pos) d δ k := fun B H as σ v sb ev hd Q o =>
  ⟨_, pg_name hN hi hx hf, o _ _ (envOk_set (slv hd) i ev) (by rw [List.length_set]) (fun j hj => by rw [List.getElem?_set_ne (fun (z : i = j) => hj (z ▸ hv))]) hk⟩
theorem dg_tup2 {vs : List Nat} {i j : Nat} {x y : Str} {d f : D} {p1 p2 : Pos} {kk : Nat} {k : List Sl → Prop} (hc : X.calm = true) (hN : X.N.Nodup) (hi : X.N[i]? = some x) (hj : X.N[j]? = some y) (hx : Loc X.env.scope x) (hy : Loc X.env.scope y) (hv : i ∈ vs) (hw : j ∈ vs)
    (hk : k ((δ.set i (.val d)).set j (.val f)))
    (hf : X.fn x = true ∨ X.env.scope.names.lookup x = some .local := by first | exact .inl rfl | exact .inr rfl | assumption) (hg : X.fn y = true ∨ X.env.scope.names.lookup y = some .local := by first | exact .inl rfl | exact .inr rfl | assumption)
    (hs1 : (assignEach [.Name x p1, .Name y p2] X.env).map (·.2) = assign (.Name x p1) X.env :: (assignEach [.Name y p2] X.env).map (·.2) := by rfl) (hs2 : (assignEach [.Name y p2] X.env).map (·.2) = assign (.Name y p2) X.env :: (assignEach [] X.env).map (·.2) := by rfl)
    (hn : (assignEach [.Name x p1, .Name y p2] X.env).length = 2 := by rfl) (hst : (assignEach [.Name x p1, .Name y p2] X.env).findIdx? (·.1) = none := by rfl) :
    DG X vs (.Tuple [.Name x p1, .Name y p2] kk pos) (.tuple [d, f]) δ k := fun B H as σ v sb ev hd Q o => by
  refine ⟨_, pg_tup hc (pgs_cons (pg_name hN hi hx hf) (pgs_cons (pg_name hN hj hy hg) pgs_nil hs2) hs1) hn hst, ?_⟩
  obtain ⟨a, xs, rfl, h1, h2⟩ := dp_tup_inv hd
  cases h2 with
  | cons d1 r =>
    cases r with
    | cons d2 r =>
      cases r
      refine ⟨a, _, rfl, sqT_up sb h1, rfl, _, _, rfl, _, _, rfl, rfl, ?_⟩
      refine o _ _ (envOk_set (slv d2) j (envOk_set (slv d1) i ev)) (by rw [List.length_set, List.length_set]) (fun l hl => ?_) hk
      rw [List.getElem?_set_ne (fun (z : j = l) => hl (z ▸ hw)), List.getElem?_set_ne (fun (z : i = l) => hl (z ▸ hv))]

/-! ### what is walked -/
def wI (X : Cx) (tg iter : Expr) : TI := fun σ H R => ∃ t, PI X tg iter t ∧ t σ H R
theorem pi_w : PI X tg iter (wI X tg iter) := ⟨fun pins s σ H R I h => by
  obtain ⟨_, p, q⟩ := h
  exact p.run pins s σ H R I q⟩
/-- the iterator J gives the data its -/
def ItOk (K : Fg) (J : It) (B : Hp) (its : List D) : Prop :=
  ∀ B' F H as ω, Same B B' → Wd K B' F H as ω → (∀ i d, its[i]? = some d → J.go i H ∧ ∀ x H', J.yld i H x H' → ∃ B2, Same B' B2 ∧ Wd K B2 F H' as ω ∧ Dp K B2 x d) ∧ J.stop its.length H
def DI (X : Cx) (tg iter : Expr) (δ : List Sl) (ω : List Cell) (P : List D → List Cell → Prop) : Prop :=
  ∀ B F H as σ, Wd X.K B F H as ω → EnvOk X.K B as σ δ → ∀ R : It → Hp → Prop,
    (∀ J its B' H' as' ω', Same B B' → as <+: as' → Wd X.K B' F H' as' ω' → ItOk X.K J B' its → P its ω' → R J H') → wI X tg iter σ H R
theorem di_tup {P : List D → List Cell → Prop} (h : DE X e δ ω fun r ω1 => ∃ ds, r = .val (.tuple ds) ∧ P ds ω1) : DI X tg e δ ω P := fun B F H as σ w ev R o => by
  refine ⟨_, pi_tup pe_w, ?_⟩
  refine h B F H as σ w ev _ fun v B1 H1 as1 r ω1 e1 p1 w1 s1 ⟨ds, er, hp⟩ => ?_
  subst er
  obtain ⟨a, xs, rfl, h1, h2⟩ := dp_tup_inv (sl_val s1)
  refine ⟨a, rfl, ⟨xs, sqT_up w1.b h1⟩, o _ ds B1 H1 as1 ω1 e1 p1 w1 (fun B' F H as ω sb w' => ⟨fun i d hd => ?_, ⟨xs, sqT_up (sb.trans w'.b) h1, ?_⟩⟩) hp⟩
  · obtain ⟨x, e2, d2⟩ := dpAll_at h2 hd
    refine ⟨⟨xs, x, sqT_up (sb.trans w'.b) h1, e2⟩, fun y H' q => ?_⟩
    obtain ⟨rfl, q⟩ := q
    have := q xs (sqT_up (sb.trans w'.b) h1)
    rw [e2] at this
    cases this
    exact ⟨B', Same.refl _, w', dp_up sb d2⟩
  · rw [dpAll_len h2]
    exact Nat.le_refl _
theorem di_lst {P : List D → List Cell → Prop} (h : DE X e δ ω fun r ω1 => ∃ ds, r = .val (.list ds) ∧ P ds ω1) : DI X tg e δ ω P := fun B F H as σ w ev R o => by
  refine ⟨_, pi_list pe_w, ?_⟩
  refine h B F H as σ w ev _ fun v B1 H1 as1 r ω1 e1 p1 w1 s1 ⟨ds, er, hp⟩ => ?_
  subst er
  obtain ⟨a, xs, rfl, h1, h2⟩ := dp_lst_inv (sl_val s1)
  refine ⟨a, rfl, ⟨xs, sqL_up w1.b h1⟩, o _ ds B1 H1 as1 ω1 e1 p1 w1 (fun B' F H as ω sb w' => ⟨fun i d hd => ?_, ⟨xs, sqL_up (sb.trans w'.b) h1, ?_⟩⟩) hp⟩
  · obtain ⟨x, e2, d2⟩ := dpAll_at h2 hd
    refine ⟨⟨xs, x, sqL_up (sb.trans w'.b) h1, e2⟩, fun y H' q => ?_⟩
    obtain ⟨rfl, q⟩ := q
    have := q xs (sqL_up (sb.trans w'.b) h1)
    rw [e2] at this
    cases this
    exact ⟨B', Same.refl _, w', dp_up sb d2⟩
  · rw [dpAll_len h2]
    exact Nat.le_refl _
theorem rgD_at {a b : Int} {i : Nat} {d : D} (h : (rgD a b)[i]? = some d) : i < (b - a).toNat ∧ d = .int (a + (i : Nat)) := by
  unfold rgD at h
  rw [List.getElem?_map] at h
  cases q : (List.range (b - a).toNat)[i]? with
  | none =>
    rw [q] at h
    cases h
  | some j =>
    rw [q] at h
    obtain ⟨h1, h2⟩ := List.getElem?_eq_some_iff.mp q
    rw [List.getElem_range] at h2
    rw [List.length_range] at h1
    subst h2
    exact ⟨h1, (Option.some.inj h).symm⟩
theorem rgD_len (a b : Int) : (rgD a b).length = (b - a).toNat := by
  unfold rgD
  rw [List.length_map, List.length_range]
theorem it_rng {K : Fg} {B : Hp} (a b : Int) : ItOk K (Itr a (b - a).toNat) B (rgD a b) := fun B' F H as ω sb w' => ⟨fun i d hd => by
    obtain ⟨h1, h2⟩ := rgD_at hd
    refine ⟨h1, fun x H' q => ?_⟩
    obtain ⟨rfl, rfl⟩ := q
    subst h2
    exact ⟨B', Same.refl _, w', .int _⟩, by rw [rgD_len]; exact Nat.le_refl _⟩
theorem di_rng1 {p : Pos} {P : List D → List Cell → Prop} (hg : Gl X "range") (hm : X.mg "range" = none) (h : DE X e δ ω fun r ω1 => ∃ n, r = .val (.int n) ∧ -(2 ^ 62) ≤ n ∧ n < 2 ^ 62 ∧ P (rgD 0 n) ω1)
    (hs : starEach [e] X.env = [(false, eval e X.env)] := by rfl) : DI X tg (.Call (.Name "range" p) [e] [] pos) δ ω P := fun B F H as σ w ev R o =>
  ⟨_, pi_range1 hg hm (pa_cons pe_w pa_nil hs) hs, h B F H as σ w ev _ fun v B1 H1 as1 r ω1 e1 p1 w1 s1 ⟨n, er, h1, h2, hp⟩ => by
    subst er
    obtain rfl := dp_int_inv (sl_val s1)
    refine ⟨n, rfl, h1, h2, ?_⟩
    have q := it_rng (K := X.K) (B := B1) 0 n
    rw [Int.sub_zero] at q
    exact o _ _ B1 H1 as1 ω1 e1 p1 w1 q hp⟩
theorem di_rng2 {p : Pos} {P : List D → List Cell → Prop} (hg : Gl X "range") (hm : X.mg "range" = none) (h : DE X a δ ω fun r ω1 => DE X b δ ω1 fun r2 ω2 => ∃ m n, r = .val (.int m) ∧ r2 = .val (.int n) ∧ (-(2 ^ 62) ≤ m ∧ m < 2 ^ 62 ∧ -(2 ^ 62) ≤ n ∧ n < 2 ^ 62) ∧ P (rgD m n) ω2)
    (hs : starEach [a, b] X.env = [(false, eval a X.env), (false, eval b X.env)] := by rfl) (hs2 : starEach [b] X.env = [(false, eval b X.env)] := by rfl) : DI X tg (.Call (.Name "range" p) [a, b] [] pos) δ ω P := fun B F H as σ w ev R o => by
  refine ⟨_, pi_range2 hg hm (pa_cons pe_w (pa_cons pe_w pa_nil hs2) (by rw [hs, hs2])) hs hs2, ?_⟩
  refine h B F H as σ w ev _ fun v B1 H1 as1 r ω1 e1 p1 w1 s1 q1 => ?_
  refine q1 B1 F H1 as1 σ w1 (envOk_up e1 p1 ev) _ fun u B2 H2 as2 r2 ω2 e2 p2 w2 s2 ⟨m, n, er, er2, hb, hp⟩ => ?_
  subst er er2
  obtain rfl := dp_int_inv (sl_val s1)
  obtain rfl := dp_int_inv (sl_val s2)
  exact ⟨m, n, rfl, hb, o _ _ B2 H2 as2 ω2 (e1.trans e2) (p1.trans p2) w2 (it_rng _ _) hp⟩

/-! ### statements -/
structure Kd where
  nx : List Sl → List Cell → Prop
  rt : Sl → List Cell → Prop
  bk : List Sl → List Cell → Prop := fun _ _ => False
  ct : List Sl → List Cell → Prop := fun _ _ => False
abbrev OutS (K : Fg) (B F : Hp) (as : List Addr) (k : List Sl → List Cell → Prop) (Q : L2.St → Hp → Prop) : Prop :=
  ∀ σ' H' B' as' δ' ω', Same B B' → as <+: as' → Wd K B' F H' as' ω' → EnvOk K B' as' σ' δ' → k δ' ω' → Q σ' H'
structure Lift (K : Fg) (B F : Hp) (as : List Addr) (k : Kd) (E : Ends) : Prop where
  nx : OutS K B F as k.nx E.nx
  bk : OutS K B F as k.bk E.bk
  ct : OutS K B F as k.ct E.ct
  rt : Out K B F as k.rt E.rt
def DS (X : Cx) (st : List Stmt) (δ : List Sl) (ω : List Cell) (k : Kd) : Prop :=
  ∀ B F H as σ, Wd X.K B F H as ω → EnvOk X.K B as σ δ → ∀ E, Lift X.K B F as k E → wSs X st E σ H
def D1 (X : Cx) (st : Stmt) (δ : List Sl) (ω : List Cell) (k : Kd) : Prop :=
  ∀ B F H as σ, Wd X.K B F H as ω → EnvOk X.K B as σ δ → ∀ E, Lift X.K B F as k E → wS X st E σ H
theorem OutS.up {K : Fg} {B B' F : Hp} {as as' : List Addr} {k : List Sl → List Cell → Prop} {Q : L2.St → Hp → Prop} (h : OutS K B F as k Q) (e : Same B B') (p : as <+: as') : OutS K B' F as' k Q :=
  fun σ' H' B2 as2 δ' ω' e2 p2 => h σ' H' B2 as2 δ' ω' (e.trans e2) (p.trans p2)
theorem Lift.up {K : Fg} {B B' F : Hp} {as as' : List Addr} {k : Kd} {E : Ends} (h : Lift K B F as k E) (e : Same B B') (p : as <+: as') : Lift K B' F as' k E :=
  ⟨h.nx.up e p, h.bk.up e p, h.ct.up e p, h.rt.up e p⟩
variable {k : Kd} {st : Stmt} {rest body orelse : List Stmt}
theorem ds_nil (h : k.nx δ ω) : DS X [] δ ω k := fun B F H as σ w ev E o => ⟨_, pss_nil, o.nx σ H B as δ ω (Same.refl _) (List.prefix_refl _) w ev h⟩
theorem ds_cons (h : D1 X st δ ω { k with nx := fun δ' ω' => DS X rest δ' ω' k }) : DS X (st :: rest) δ ω k := fun B F H as σ w ev E o =>
  ⟨_, pss_cons ps_w pss_w, h B F H as σ w ev { E with nx := wSs X rest E } ⟨fun σ' H' B' as' δ' ω' e1 p1 w1 ev1 q => q B' F H' as' σ' w1 ev1 E (o.up e1 p1), o.bk, o.ct, o.rt⟩⟩
theorem Out.sl {K : Fg} {B F H : Hp} {as : List Addr} {Q : VK} (o : Out K B F as P Q) (w : Wd K B F H as ω) {v : V} {r : Sl} (hr : SlOk K B as (some v) r) (hp : P r ω) : Q v H := o v B H as r ω (Same.refl _) (List.prefix_refl _) w hr hp
theorem OutS.here {K : Fg} {B F H : Hp} {as : List Addr} {k : List Sl → List Cell → Prop} {Q : L2.St → Hp → Prop} {σ : L2.St} (o : OutS K B F as k Q) (w : Wd K B F H as ω) (ev : EnvOk K B as σ δ) (hk : k δ ω) : Q σ H := o σ H B as δ ω (Same.refl _) (List.prefix_refl _) w ev hk
theorem d1_asg {i : Nat} {x : Str} {p : Pos} (hN : X.N.Nodup) (hi : X.N[i]? = some x) (hx : Loc X.env.scope x) (h : DE X e δ ω fun r ω1 => k.nx (δ.set i r) ω1) (hs : swapsWith e (some (.Name x p)) pos.line X.env = pure false := by rfl)
    (hf : X.fn x = true ∨ X.env.scope.names.lookup x = some .local := by first | exact .inl rfl | exact .inr rfl | assumption) : D1 X (.Assign [.Name x p] e pos) δ ω k := fun B F H as σ w ev E o =>
  ⟨_, ps_set hN hi hx pe_w hs hf, h B F H as σ w ev _ fun v B1 H1 as1 r ω1 e1 p1 w1 s1 hp => (o.nx.up e1 p1).here w1 (envOk_set s1 i (envOk_up e1 p1 ev)) hp⟩
/-- several names from a tuple that is made elsewhere -/
theorem d1_unpack {ts : List Expr} {kk : Nat} {p : Pos} (hc : X.calm = true) (h : DE X e δ ω fun r ω1 => ∃ ds, r = .val (.tuple ds) ∧ ∀ B as σ vs H, EnvOk X.K B as σ δ → DpAll X.K B vs ds → ∃ t, PGs X ts t ∧ ts.length = vs.length ∧ ∀ Q, (∀ σ' δ', EnvOk X.K B as σ' δ' → k.nx δ' ω1 → Q σ' H) → t vs σ H Q)
    (hn : (assignEach ts X.env).length = ts.length := by rfl) (hst : (assignEach ts X.env).findIdx? (·.1) = none := by rfl)
    (hs : swapsWithSole [.Tuple ts kk p] e pos.line X.env = pure false := by rfl) (hw : swappedStores [.Tuple ts kk p] e X.env = pure none := by rfl)
    (h1 : (assignEach [.Tuple ts kk p] X.env).map (·.2) = [assign (.Tuple ts kk p) X.env] := by rfl) : D1 X (.Assign [.Tuple ts kk p] e pos) δ ω k := fun B F H as σ w ev E o => by
  refine ⟨_, ps_asg pe_w pg_w hs hw h1, ?_⟩
  refine h B F H as σ w ev _ fun v B1 H1 as1 r ω1 e1 p1 w1 s1 ⟨ds, er, hp⟩ => ?_
  subst er
  obtain ⟨a, xs, rfl, g1, g2⟩ := slv_tup s1 w1.b
  obtain ⟨t, ht, hl, hq⟩ := hp B1 as1 σ xs H1 (envOk_up e1 p1 ev) g2
  exact ⟨_, pg_tup hc ht hn hst, a, xs, rfl, g1, hl.symm, hq _ fun σ' δ' ev' hk => (o.nx.up e1 p1).here w1 ev' hk⟩
theorem d1_par {i j : Nat} {x y : Str} {px py pt : Pos} {kt k2 pt2} (hc : X.calm = true) (hN : X.N.Nodup) (hi : X.N[i]? = some x) (hj : X.N[j]? = some y) (hij : i ≠ j)
    (hx : X.env.scope.names.lookup x = some .local) (hy : X.env.scope.names.lookup y = some .local) (hw : swappedStores [.Tuple [.Name x px, .Name y py] kt pt] (.Tuple [a, b] k2 pt2) X.env = pure (some [x, y]))
    (h : DA X [a, b] δ ω fun rs ω1 => ∃ r s, rs = [r, s] ∧ k.nx ((δ.set i r).set j s) ω1) (hs : swapsWithSole [.Tuple [.Name x px, .Name y py] kt pt] (.Tuple [a, b] k2 pt2) pos.line X.env = pure false := by rfl) :
    D1 X (.Assign [.Tuple [.Name x px, .Name y py] kt pt] (.Tuple [a, b] k2 pt2) pos) δ ω k := fun B F H as σ w ev E o =>
  ⟨_, ps_par hc hN hi hj hij hx hy pa_w hw hs, h B F H as σ w ev _ fun vs B1 H1 as1 rs ω1 e1 p1 w1 s1 ⟨r, s, er, hp⟩ => by
    subst er
    obtain ⟨v, u, rfl, h1, h2⟩ := rs2 s1
    exact ⟨v, u, rfl, (o.nx.up e1 p1).here w1 (envOk_set h2 j (envOk_set h1 i (envOk_up e1 p1 ev))) hp⟩⟩
theorem d1_expr (h : DE X e δ ω fun _ ω1 => k.nx δ ω1) (hs : swapsWith e none pos.line X.env = pure false := by rfl) : D1 X (.Expr e pos) δ ω k := fun B F H as σ w ev E o =>
  ⟨_, ps_expr pe_w hs, h B F H as σ w ev _ fun v B1 H1 as1 r ω1 e1 p1 w1 s1 hp => (o.nx.up e1 p1).here w1 (envOk_up e1 p1 ev) hp⟩
theorem d1_ret (h : DE X e δ ω k.rt) : D1 X (.Return (some e) pos) δ ω k := fun B F H as σ w ev E o => ⟨_, ps_ret pe_w, h B F H as σ w ev _ o.rt⟩
theorem d1_retN (h : k.rt (.val .none) ω) : D1 X (.Return none pos) δ ω k := fun B F H as σ w ev E o => ⟨_, ps_retN, o.rt.here w .non h⟩
theorem d1_break (h : k.bk δ ω) : D1 X (.Break pos) δ ω k := fun B F H as σ w ev E o => ⟨_, ps_break, o.bk.here w ev h⟩
theorem d1_cont (h : k.ct δ ω) : D1 X (.Continue pos) δ ω k := fun B F H as σ w ev E o => ⟨_, ps_continue, o.ct.here w ev h⟩
theorem d1_pass (h : k.nx δ ω) : D1 X (.Pass pos) δ ω k := fun B F H as σ w ev E o => ⟨_, ps_pass, o.nx.here w ev h⟩
theorem d1_if {t : Expr} (h : DT X t δ ω fun b ω1 => if b = true then DS X body δ ω1 k else DS X orelse δ ω1 k) : D1 X (.If t body orelse pos) δ ω k := fun B F H as σ w ev E o => by
  refine ⟨_, ps_if pt_w pss_w pss_w, ?_⟩
  refine h B F H as σ w ev _ fun b B1 H1 as1 ω1 e1 p1 w1 hp => ?_
  cases b with
  | true => exact hp B1 F H1 as1 σ w1 (envOk_up e1 p1 ev) E (o.up e1 p1)
  | false => exact hp B1 F H1 as1 σ w1 (envOk_up e1 p1 ev) E (o.up e1 p1)
theorem d1_for (hp : PassesOwn (model X.prog X.w) X.A X.env X.xe) (hc : X.calm = true)
    (h : DI X tg iter δ ω fun its ω1 => ∃ Iv : Nat → List Sl → List Cell → Prop, Iv 0 δ ω1 ∧
      (∀ i d δ' ω', its[i]? = some d → Iv i δ' ω' → DG X (List.range δ'.length) tg d δ' fun δ2 => DS X body δ2 ω' { nx := Iv (i + 1), ct := Iv (i + 1), bk := k.nx, rt := k.rt }) ∧ ∀ δ' ω', Iv its.length δ' ω' → k.nx δ' ω')
    (hs : ∀ x, foldedSetIterable iter X.env x = pure x := by intro _; rfl) : D1 X (.For tg iter body [] pos) δ ω k := fun B F H as σ w ev E o => by
  refine ⟨_, ps_for hp hc pi_w pg_w pss_w hs, ?_⟩
  refine h B F H as σ w ev _ fun J its B1 H1 as1 ω1 e1 p1 w1 hit ⟨Iv, h0, ht, hd⟩ => ?_
  refine ⟨fun i m σ' H' => m = its.length - i ∧ i ≤ its.length ∧ ∃ B' as' δ' ω', Same B1 B' ∧ as1 <+: as' ∧ Wd X.K B' F H' as' ω' ∧ EnvOk X.K B' as' σ' δ' ∧ Iv i δ' ω',
    ⟨its.length, by omega, Nat.zero_le _, B1, as1, δ, ω1, Same.refl _, List.prefix_refl _, w1, envOk_up e1 p1 ev, h0⟩, fun i m σ' H' hW => ?_⟩
  obtain ⟨rfl, hi, B', as', δ', ω', e2, p2, w2, ev2, hI⟩ := hW
  by_cases hlt : i < its.length
  · obtain ⟨hgo, hy⟩ := (hit B' F H' as' ω' e2 w2).1 i its[i] (List.getElem?_eq_getElem hlt)
    refine .inr ⟨hgo, fun σ3 H3 => ∃ B' as' δ' ω', Same B1 B' ∧ as1 <+: as' ∧ Wd X.K B' F H3 as' ω' ∧ EnvOk X.K B' as' σ3 δ' ∧ Iv (i + 1) δ' ω', fun σ3 H3 q => ⟨its.length - (i + 1), by omega, rfl, hlt, q⟩, fun x H3 q => ?_⟩
    obtain ⟨B2, e3, w3, d3⟩ := hy x H3 q
    refine ht i its[i] δ' ω' (List.getElem?_eq_getElem hlt) hI B2 H3 as' σ' x w3.b (envOk_up e3 (List.prefix_refl _) ev2) d3 _ fun σ4 δ4 ev4 _ _ hb => ?_
    refine hb B2 F H3 as' σ4 w3 ev4 _ ⟨fun σ5 H5 B5 as5 δ5 ω5 e5 p5 w5 ev5 q5 => ?_, ?_, fun σ5 H5 B5 as5 δ5 ω5 e5 p5 w5 ev5 q5 => ?_, ?_⟩
    · exact ⟨B5, as5, δ5, ω5, (e2.trans e3).trans e5, p2.trans p5, w5, ev5, q5⟩
    · exact o.nx.up (((e1.trans e2).trans e3)) (p1.trans p2)
    · exact ⟨B5, as5, δ5, ω5, (e2.trans e3).trans e5, p2.trans p5, w5, ev5, q5⟩
    · exact o.rt.up (((e1.trans e2).trans e3)) (p1.trans p2)
  · have ei : i = its.length := by omega
    subst ei
    exact .inl ⟨(hit B' F H' as' ω' e2 w2).2, (o.nx.up (e1.trans e2) (p1.trans p2)).here w2 ev2 (hd δ' ω' hI)⟩
theorem d1_while {t : Expr} (hp : PassesOwn (model X.prog X.w) X.A X.env X.xe) (Iv : Nat → List Sl → List Cell → Prop) (m0 : Nat) (h0 : Iv m0 δ ω)
    (ht : ∀ m δ' ω', Iv m δ' ω' → DT X t δ' ω' fun b ω1 => if b = true then DS X body δ' ω1 { nx := fun δ2 ω2 => ∃ m', m' < m ∧ Iv m' δ2 ω2, ct := fun δ2 ω2 => ∃ m', m' < m ∧ Iv m' δ2 ω2, bk := k.nx, rt := k.rt } else k.nx δ' ω1) : D1 X (.While t body [] pos) δ ω k := fun B F H as σ w ev E o => by
  refine ⟨_, ps_while hp pt_w pss_w, ?_⟩
  refine ⟨fun m σ' H' => ∃ B' as' δ' ω', Same B B' ∧ as <+: as' ∧ Wd X.K B' F H' as' ω' ∧ EnvOk X.K B' as' σ' δ' ∧ Iv m δ' ω', ⟨m0, B, as, δ, ω, Same.refl _, List.prefix_refl _, w, ev, h0⟩, fun m σ' H' hW => ?_⟩
  obtain ⟨B', as', δ', ω', e2, p2, w2, ev2, hI⟩ := hW
  refine ht m δ' ω' hI B' F H' as' σ' w2 ev2 _ fun b B3 H3 as3 ω3 e3 p3 w3 hb => ?_
  cases b with
  | true =>
    refine iteT ⟨fun σ4 H4 => ∃ m', m' < m ∧ ∃ B' as' δ' ω', Same B B' ∧ as <+: as' ∧ Wd X.K B' F H4 as' ω' ∧ EnvOk X.K B' as' σ4 δ' ∧ Iv m' δ' ω', fun σ4 H4 q => q, ?_⟩
    refine hb B3 F H3 as3 σ' w3 (envOk_up e3 p3 ev2) _ ⟨fun σ5 H5 B5 as5 δ5 ω5 e5 p5 w5 ev5 ⟨m', hm, q5⟩ => ?_, ?_, fun σ5 H5 B5 as5 δ5 ω5 e5 p5 w5 ev5 ⟨m', hm, q5⟩ => ?_, ?_⟩
    · exact ⟨m', hm, B5, as5, δ5, ω5, (e2.trans e3).trans e5, (p2.trans p3).trans p5, w5, ev5, q5⟩
    · exact o.nx.up (e2.trans e3) (p2.trans p3)
    · exact ⟨m', hm, B5, as5, δ5, ω5, (e2.trans e3).trans e5, (p2.trans p3).trans p5, w5, ev5, q5⟩
    · exact o.rt.up (e2.trans e3) (p2.trans p3)
  | false => exact iteF ((o.nx.up (e2.trans e3) (p2.trans p3)).here w3 (envOk_up e3 p3 ev2) hb)
/-- a ghost step: an owned list in slot i is from now on known for good -/
theorem ds_freeze {i kx : Nat} {ds : List D} (hδ : δ[i]? = some (.own kx)) (hc : ω[kx]? = some (.lst ds)) (h : DS X rest (δ.set i (.val (.list ds))) (ω.set kx .dead) k) : DS X rest δ ω k := fun B F H as σ w ev E o => by
  obtain ⟨ov, h1, h2⟩ := envOk_get ev hδ
  obtain ⟨a, rfl, h3⟩ := h2
  obtain ⟨B', e1, w1, d1⟩ := w.freeze h3 hc
  have ev2 := envOk_set (slv d1) i (envOk_up e1 (List.prefix_refl _) ev)
  have es : σ.set i (some (.ref a)) = σ := by
    apply List.ext_getElem?
    intro j
    by_cases hj : i = j
    · subst hj
      rw [List.getElem?_set_self (List.getElem?_eq_some_iff.mp h1).1, h1]
    · rw [List.getElem?_set_ne hj]
  rw [es] at ev2
  exact h B' F H as σ w1 ev2 E (o.up e1 (List.prefix_refl _))
/-- an owned list grows -/
theorem de_append {xs : Expr} {apos cpos : Pos} (h : DE X xs δ ω fun r ω1 => ∃ kx ds, r = .own kx ∧ ω1[kx]? = some (.lst ds) ∧ DE X e δ ω1 fun s ω2 => ∃ d ds2, s = .val d ∧ ω2[kx]? = some (.lst ds2) ∧ ds2.length < 100000 ∧ P (.val .none) (ω2.set kx (.lst (ds2 ++ [d]))))
    (hbase : attributeBase xs "append" X.env (eval xs X.env) = eval xs X.env := by rfl)
    (hfew : ((backTo cpos (starEach (e :: []) X.env)).all (fun x => !x.1) && (backToKw cpos (keywordEach [] X.env)).all (fun x => x.1.isSome) && decide ((e :: ([] : List Expr)).length + ([] : List Keyword).length + (if ([] : List Keyword).isEmpty then 0 else 1) < 30)) = true := by rfl)
    (hline : (apos.endLine == cpos.line) = true := by rfl) (hs : starEach (e :: []) X.env = (false, eval e X.env) :: starEach [] X.env := by rfl) (hplain : (backTo cpos (starEach [] X.env)).any (·.1) = false := by rfl) :
    DE X (.Call (.Attribute xs "append" apos) [e] [] cpos) δ ω P := fun B F H as σ w ev Q o => by
  refine ⟨_, pe_bm PySem.F.plainAttrs_list PySem.F.slot_list_append PySem.F.type_list_append mt_append pe_w (pa_cons pe_w pa_nil hs) hbase hfew hline hs hplain, ?_⟩
  refine h B F H as σ w ev _ fun v B1 H1 as1 r ω1 e1 p1 w1 s1 ⟨kx, ds, er, hk, q1⟩ => ?_
  subst er
  obtain ⟨a, xs, rfl, ha, h1, h2⟩ := slo_lst w1 s1 hk
  refine ⟨.inl ⟨rfl, xs, SqL.of h1⟩, ?_⟩
  refine q1 B1 F H1 as1 σ w1 (envOk_up e1 p1 ev) _ fun u B2 H2 as2 r2 ω2 e2 p2 w2 s2 ⟨d, ds2, er2, hk2, hz, hp⟩ => ?_
  subst er2
  obtain ⟨hb, ys, h3, h4⟩ := w2.cellL (pre_get p2 ha) hk2
  refine ⟨a, ys, u, rfl, rfl, h3, ?_, ?_⟩
  · rw [dpAll_len h4]
    exact Nat.lt_trans hz (by decide)
  · have w3 := w2.write (c' := .lst (ds2 ++ [d])) (o := .lst (ys ++ [u])) (pre_get p2 ha) hk2 hb ⟨hb, _, upd_same, dpAll_app h4 (.cons (sl_val s2) .nil)⟩
    exact o _ B2 _ as2 _ _ (e1.trans e2) (p1.trans p2) w3 (slv .non) hp
/-- xs.pop(i) of an owned list -/
theorem de_popAt {xs : Expr} {apos cpos : Pos} (h : DE X xs δ ω fun r ω1 => ∃ kx ds, r = .own kx ∧ ω1[kx]? = some (.lst ds) ∧ DE X e δ ω1 fun s ω2 => ∃ (i : Int) (ds2 : List D) (j : Nat) (d : D), s = .val (.int i) ∧ ω2[kx]? = some (.lst ds2) ∧ -(2 ^ 63) ≤ i ∧ i < 2 ^ 63 ∧ seqIndex? i ds2.length = some j ∧ ds2[j]? = some d ∧ P (.val d) (ω2.set kx (.lst (ds2.eraseIdx j))))
    (hbase : attributeBase xs "pop" X.env (eval xs X.env) = eval xs X.env := by rfl)
    (hfew : ((backTo cpos (starEach (e :: []) X.env)).all (fun x => !x.1) && (backToKw cpos (keywordEach [] X.env)).all (fun x => x.1.isSome) && decide ((e :: ([] : List Expr)).length + ([] : List Keyword).length + (if ([] : List Keyword).isEmpty then 0 else 1) < 30)) = true := by rfl)
    (hline : (apos.endLine == cpos.line) = true := by rfl) (hs : starEach (e :: []) X.env = (false, eval e X.env) :: starEach [] X.env := by rfl) (hplain : (backTo cpos (starEach [] X.env)).any (·.1) = false := by rfl) :
    DE X (.Call (.Attribute xs "pop" apos) [e] [] cpos) δ ω P := fun B F H as σ w ev Q o => by
  refine ⟨_, pe_bm PySem.F.plainAttrs_list PySem.F.slot_list_pop PySem.F.type_list_pop mt_popAt pe_w (pa_cons pe_w pa_nil hs) hbase hfew hline hs hplain, ?_⟩
  refine h B F H as σ w ev _ fun v B1 H1 as1 r ω1 e1 p1 w1 s1 ⟨kx, ds, er, hk, q1⟩ => ?_
  subst er
  obtain ⟨a, xs, rfl, ha, h1, h2⟩ := slo_lst w1 s1 hk
  refine ⟨.inl ⟨rfl, xs, SqL.of h1⟩, ?_⟩
  refine q1 B1 F H1 as1 σ w1 (envOk_up e1 p1 ev) _ fun u B2 H2 as2 r2 ω2 e2 p2 w2 s2 ⟨i, ds2, j, d, er2, hk2, hz1, hz2, hj, hd, hp⟩ => ?_
  subst er2
  obtain rfl := dp_int_inv (sl_val s2)
  obtain ⟨hb, ys, h3, h4⟩ := w2.cellL (pre_get p2 ha) hk2
  obtain ⟨y, h5, h6⟩ := dpAll_at h4 hd
  refine ⟨a, ys, i, j, y, rfl, rfl, h3, hz1, hz2, by rw [dpAll_len h4]; exact hj, h5, ?_⟩
  have w3 := w2.write (c' := .lst (ds2.eraseIdx j)) (o := .lst (ys.eraseIdx j)) (pre_get p2 ha) hk2 hb ⟨hb, _, upd_same, by
    rw [List.eraseIdx_eq_take_drop_succ, List.eraseIdx_eq_take_drop_succ]
    exact dpAll_app (dpAll_take _ h4) (dpAll_drop _ h4)⟩
  exact o _ B2 _ as2 _ _ (e1.trans e2) (p1.trans p2) w3 (slv h6) hp
/-- xs[i] = e of an owned list -/
theorem d1_setL {o i : Expr} {p2 : Pos} (h : DE X e δ ω fun r ω1 => ∃ d, r = .val d ∧ DE X o δ ω1 fun s ω2 => ∃ kx, s = .own kx ∧ DE X i δ ω2 fun t ω3 => ∃ (z : Int) (ds : List D) (j : Nat), t = .val (.int z) ∧ ω3[kx]? = some (.lst ds) ∧ ixN ds.length z = some j ∧ k.nx δ (ω3.set kx (.lst (ds.set j d))))
    (hs : swapsWithSole [.Subscript o i p2] e pos.line X.env = pure false := by rfl) (hw : swappedStores [.Subscript o i p2] e X.env = pure none := by rfl) (h1 : (assignEach [.Subscript o i p2] X.env).map (·.2) = [assign (.Subscript o i p2) X.env] := by rfl)
    (ha : ∀ v, assign (.Subscript o i p2) X.env v = (do
      let ov ← holding [v] (eval o X.env)
      let iv ← holding [v, ov] (eval i X.env)
      standAt p2
      holding [v, ov, iv] (setItem ov iv v)
      release [v, ov, iv] []) := by intro _; rfl) : D1 X (.Assign [.Subscript o i p2] e pos) δ ω k := fun B F H as σ w ev E oo => by
  refine ⟨_, ps_asg pe_w (pg_sub pe_w pe_w set_list ha) hs hw h1, ?_⟩
  refine h B F H as σ w ev _ fun v B1 H1 as1 r ω1 e1 p1 w1 s1 ⟨d, er, q1⟩ => ?_
  subst er
  refine q1 B1 F H1 as1 σ w1 (envOk_up e1 p1 ev) _ fun u B2 H2 as2 r2 ω2 e2 p2 w2 s2 ⟨kx, er2, q2⟩ => ?_
  subst er2
  refine q2 B2 F H2 as2 σ w2 (envOk_up (e1.trans e2) (p1.trans p2) ev) _ fun t B3 H3 as3 r3 ω3 e3 p3 w3 s3 ⟨z, ds, j, er3, hk, hj, hp⟩ => ?_
  subst er3
  obtain rfl := dp_int_inv (sl_val s3)
  obtain ⟨a, rfl, ha⟩ := sl_own s2
  obtain ⟨hb, ys, h3, h4⟩ := w3.cellL (pre_get p3 ha) hk
  refine ⟨a, ys, z, j, rfl, rfl, h3, by rw [dpAll_len h4]; exact hj, ?_⟩
  have w4 := w3.write (c' := .lst (ds.set j d)) (o := .lst (ys.set j v)) (pre_get p3 ha) hk hb ⟨hb, _, upd_same, dpAll_set (dp_up (e2.trans e3) (sl_val s1)) j h4⟩
  exact oo.nx σ _ B3 as3 δ _ ((e1.trans e2).trans e3) ((p1.trans p2).trans p3) w4 (envOk_up ((e1.trans e2).trans e3) ((p1.trans p2).trans p3) ev) hp
end
end
section
/-! ### frames of owned things -/
section
variable {K : Fg} {B F H : Hp} {as : List Addr} {ω : List Cell}
/-- a new thing that nobody sees for a while -/
theorem Wd.hide (w : Wd K B F H as ω) {p : Addr} {o : HO} (h : H p = none) : Wd K B (upd F p o) (upd H p o) as ω := by
  have hB := w.freeB h
  have hA := w.freeA h
  refine ⟨fun b x e => ?_, fun b x e => ?_, w.len, w.nd, fun k a c e1 e2 => ?_⟩
  · have hb : b ≠ p := fun z => by
      rw [z, hB] at e
      cases e
    rw [upd_ne hb]
    exact w.b _ _ e
  · by_cases hb : b = p
    · subst hb
      rw [upd_same] at e ⊢
      exact ⟨e, hB⟩
    · rw [upd_ne hb] at e ⊢
      exact w.f _ _ e
  · have ha : a ≠ p := fun z => hA (z ▸ List.mem_of_getElem? e1)
    obtain ⟨q1, q2, q3⟩ := w.at' k a c e1 e2
    exact ⟨by rw [upd_ne ha]; exact q1, by rw [upd_ne ha]; exact q2, cell_up q3 (Same.refl _) (fun z => z) (upd_ne ha)⟩
theorem Wd.rehide {p : Addr} {o o' : HO} (w : Wd K B (upd F p o) H as ω) : Wd K B (upd F p o') (upd H p o') as ω := by
  have hB : B p = none := (w.f p o upd_same).2
  have hne : ∀ {k : Nat} {a : Addr} {c : Cell}, as[k]? = some a → ω[k]? = some c → a ≠ p := fun {k a c} e1 e2 z => by
    have q := (w.at' k a c e1 e2).1
    rw [z, upd_same] at q
    cases q
  refine ⟨fun b x e => ?_, fun b x e => ?_, w.len, w.nd, fun k a c e1 e2 => ?_⟩
  · have hb : b ≠ p := fun z => by
      rw [z, hB] at e
      cases e
    rw [upd_ne hb]
    exact w.b _ _ e
  · by_cases hb : b = p
    · subst hb
      rw [upd_same] at e ⊢
      exact ⟨e, hB⟩
    · rw [upd_ne hb] at e ⊢
      have q := w.f b x (by rw [upd_ne hb]; exact e)
      exact q
  · have ha := hne e1 e2
    obtain ⟨q1, q2, q3⟩ := w.at' k a c e1 e2
    rw [upd_ne ha] at q1
    exact ⟨by rw [upd_ne ha]; exact q1, by rw [upd_ne ha]; exact q2, cell_up q3 (Same.refl _) (fun z => z) (upd_ne ha)⟩
theorem Wd.show {p : Addr} {o : HO} (w : Wd K B (upd F p o) H as ω) (hF : F p = none) : Wd K (upd B p o) F H as ω ∧ Same B (upd B p o) := by
  obtain ⟨h1, hB⟩ := w.f p o upd_same
  have sb : Same B (upd B p o) := same_new hB
  have hne : ∀ {k : Nat} {a : Addr} {c : Cell}, as[k]? = some a → ω[k]? = some c → a ≠ p := fun {k a c} e1 e2 z => by
    have q := (w.at' k a c e1 e2).1
    rw [z, upd_same] at q
    cases q
  refine ⟨⟨fun b x e => ?_, fun b x e => ?_, w.len, w.nd, fun k a c e1 e2 => ?_⟩, sb⟩
  · by_cases hb : b = p
    · subst hb
      rw [upd_same] at e
      cases e
      exact h1
    · rw [upd_ne hb] at e
      exact w.b _ _ e
  · have hb : b ≠ p := fun z => by
      rw [z, hF] at e
      cases e
    have q := w.f b x (by rw [upd_ne hb]; exact e)
    rw [upd_ne hb]
    exact q
  · have ha := hne e1 e2
    obtain ⟨q1, q2, q3⟩ := w.at' k a c e1 e2
    rw [upd_ne ha] at q1
    exact ⟨q1, q2, cell_up q3 sb (fun z => by rw [upd_ne ha]; exact z) rfl⟩
theorem Wd.toOwn {p : Addr} {xs : List V} {ds : List D} (w : Wd K B (upd F p (.lst xs)) H as ω) (hF : F p = none) (hd : DpAll K B xs ds) : Wd K B F H (as ++ [p]) (ω ++ [.lst ds]) := by
  obtain ⟨h1, hB⟩ := w.f p (.lst xs) upd_same
  have hne : ∀ {k : Nat} {a : Addr}, as[k]? = some a → a ≠ p := fun {k a} e1 z => by
    have hk : k < ω.length := by rw [← w.len]; exact (List.getElem?_eq_some_iff.mp e1).1
    have q := (w.at' k a _ e1 (List.getElem?_eq_getElem hk)).1
    rw [z, upd_same] at q
    cases q
  refine ⟨w.b, fun b x e => ?_, by rw [List.length_append, List.length_append, w.len]; rfl, ?_, fun k a c e1 e2 => ?_⟩
  · have hb : b ≠ p := fun z => by
      rw [z, hF] at e
      cases e
    exact w.f b x (by rw [upd_ne hb]; exact e)
  · rw [List.nodup_append]
    refine ⟨w.nd, by simp, fun x hx y hy => ?_⟩
    have hy' : y = p := by simpa using hy
    subst hy'
    obtain ⟨k, hk, e⟩ := List.mem_iff_getElem.mp hx
    exact hne (k := k) (by rw [List.getElem?_eq_getElem hk, e])
  · by_cases hk : k < as.length
    · rw [List.getElem?_append_left hk] at e1
      rw [List.getElem?_append_left (by rw [← w.len]; exact hk)] at e2
      obtain ⟨q1, q2, q3⟩ := w.at' k a c e1 e2
      rw [upd_ne (hne e1)] at q1
      exact ⟨q1, q2, q3⟩
    · have hk2 : k = as.length := by
        have := (List.getElem?_eq_some_iff.mp e1).1
        rw [List.length_append] at this
        simp at this
        omega
      subst hk2
      rw [List.getElem?_append_right (Nat.le_refl _), Nat.sub_self] at e1
      rw [w.len, List.getElem?_append_right (Nat.le_refl _), Nat.sub_self] at e2
      simp at e1 e2
      subst e1 e2
      exact ⟨hF, by rw [h1]; simp, hB, xs, h1, hd⟩
theorem Wd.addOwn (w : Wd K B F H as ω) {a : Addr} {c : Cell} (hF : F a = none) (hn : a ∉ as) (hH : H a ≠ none) (hc : CellOk K B H a c) : Wd K B F H (as ++ [a]) (ω ++ [c]) := by
  refine ⟨w.b, w.f, by rw [List.length_append, List.length_append, w.len]; rfl, ?_, fun k b d e1 e2 => ?_⟩
  · rw [List.nodup_append]
    refine ⟨w.nd, by simp, fun x hx y hy => ?_⟩
    have hy' : y = a := by simpa using hy
    subst hy'
    exact fun z => hn (z ▸ hx)
  · by_cases hk : k < as.length
    · rw [List.getElem?_append_left hk] at e1
      rw [List.getElem?_append_left (by rw [← w.len]; exact hk)] at e2
      exact w.at' k b d e1 e2
    · have hk2 : k = as.length := by
        have := (List.getElem?_eq_some_iff.mp e1).1
        rw [List.length_append] at this
        simp at this
        omega
      subst hk2
      rw [List.getElem?_append_right (Nat.le_refl _), Nat.sub_self] at e1
      rw [w.len, List.getElem?_append_right (Nat.le_refl _), Nat.sub_self] at e2
      simp at e1 e2
      subst e1 e2
      exact ⟨hF, hH, hc⟩
theorem Wd.drop (w : Wd K B F H as ω) : Wd K B F H [] [] := ⟨w.b, w.f, rfl, .nil, fun k a c e1 e2 => by simp at e1⟩
/-- what we own is others' for a call -/
theorem Wd.frame (w : Wd K B F H as ω) : ∃ F', Wd K B F' H [] [] ∧ (∀ a o, F a = some o → F' a = some o) ∧ (∀ (k : Nat) (a : Addr) (c : Cell), as[k]? = some a → ω[k]? = some c → B a = none → F' a = H a) ∧ ∀ B' H', Same B B' → Wd K B' F' H' [] [] → Wd K B' F H' as ω := by
  classical
  refine ⟨fun a => if a ∈ as ∧ B a = none then H a else F a, ⟨w.b, fun a o e => ?_, rfl, .nil, fun k a c e1 _ => by simp at e1⟩, fun a o e => ?_, fun k a c e1 e2 hd => ?_, fun B' H' sb w' => ⟨w'.b, fun a o e => ?_, w.len, w.nd, fun k a c e1 e2 => ?_⟩⟩
  · by_cases h : a ∈ as ∧ B a = none
    · rw [if_pos h] at e
      exact ⟨e, h.2⟩
    · rw [if_neg h] at e
      exact w.f a o e
  · have h : ¬ (a ∈ as ∧ B a = none) := fun z => by
      obtain ⟨k, hk, q⟩ := List.mem_iff_getElem.mp z.1
      have hk2 : k < ω.length := by rw [← w.len]; exact hk
      have := (w.at' k a _ (by rw [List.getElem?_eq_getElem hk, q]) (List.getElem?_eq_getElem hk2)).1
      rw [this] at e
      cases e
    show (if _ then _ else _) = _
    rw [if_neg h]
    exact e
  · have h : a ∈ as ∧ B a = none := ⟨List.mem_of_getElem? e1, hd⟩
    show (if _ then _ else _) = _
    rw [if_pos h]
  · have h : ¬ (a ∈ as ∧ B a = none) := fun z => by
      obtain ⟨k, hk, q⟩ := List.mem_iff_getElem.mp z.1
      have hk2 : k < ω.length := by rw [← w.len]; exact hk
      have := (w.at' k a _ (by rw [List.getElem?_eq_getElem hk, q]) (List.getElem?_eq_getElem hk2)).1
      rw [this] at e
      cases e
    refine w'.f a o ?_
    show (if _ then _ else _) = _
    rw [if_neg h]
    exact e
  · obtain ⟨q1, q2, q3⟩ := w.at' k a c e1 e2
    cases hb : B a with
    | some o =>
      exact ⟨q1, by rw [w'.b _ _ (sb _ _ hb)]; simp, cell_keep q3 (by rw [hb]; simp) sb⟩
    | none =>
      obtain ⟨o, ho⟩ := Option.ne_none_iff_exists'.mp q2
      have hf := w'.f a o (by
        show (if _ then _ else _) = _
        rw [if_pos ⟨List.mem_of_getElem? e1, hb⟩]
        exact ho)
      exact ⟨q1, by rw [hf.1]; simp, cell_up q3 sb (fun _ => hf.2) (hf.1.trans ho.symm)⟩
/-- .. all but one -/
theorem Wd.frame1 (w : Wd K B F H as ω) {k : Nat} {a : Addr} {c : Cell} (ha : as[k]? = some a) (hc : ω[k]? = some c) (hd : c ≠ .dead) : ∃ F', Wd K B F' H [a] [c] ∧ ∀ B' H' c', Same B B' → Wd K B' F' H' [a] [c'] → Wd K B' F H' as (ω.set k c') := by
  classical
  refine ⟨fun b => if b ≠ a ∧ b ∈ as ∧ B b = none then H b else F b, ⟨w.b, fun b o e => ?_, rfl, by simp, fun j b c2 e1 e2 => ?_⟩, fun B' H' c' sb w' => ⟨w'.b, fun b o e => ?_, by rw [List.length_set]; exact w.len, w.nd, fun j b c2 e1 e2 => ?_⟩⟩
  · by_cases h : b ≠ a ∧ b ∈ as ∧ B b = none
    · rw [if_pos h] at e
      exact ⟨e, h.2.2⟩
    · rw [if_neg h] at e
      exact w.f b o e
  · cases j with
    | succ j => simp at e1
    | zero =>
      simp at e1 e2
      subst e1 e2
      obtain ⟨q1, q2, q3⟩ := w.at' k a c ha hc
      refine ⟨?_, q2, q3⟩
      show (if _ then _ else _) = _
      rw [if_neg (fun z => z.1 rfl)]
      exact q1
  · have h : ¬ (b ≠ a ∧ b ∈ as ∧ B b = none) := fun z => by
      obtain ⟨j, hj, q⟩ := List.mem_iff_getElem.mp z.2.1
      have hj2 : j < ω.length := by rw [← w.len]; exact hj
      have := (w.at' j b _ (by rw [List.getElem?_eq_getElem hj, q]) (List.getElem?_eq_getElem hj2)).1
      rw [this] at e
      cases e
    refine w'.f b o ?_
    show (if _ then _ else _) = _
    rw [if_neg h]
    exact e
  · by_cases hj : j = k
    · subst hj
      rw [ha] at e1
      cases e1
      have hk : j < ω.length := (List.getElem?_eq_some_iff.mp hc).1
      rw [List.getElem?_set_self hk] at e2
      cases e2
      obtain ⟨q1, q2, q3⟩ := w'.at' 0 a c' rfl rfl
      exact ⟨(w.at' j a c ha hc).1, q2, q3⟩
    · rw [List.getElem?_set_ne (Ne.symm hj)] at e2
      have hne : b ≠ a := fun z => hj (nodup_at w.nd (z ▸ e1) ha)
      obtain ⟨q1, q2, q3⟩ := w.at' j b c2 e1 e2
      cases hb : B b with
      | some o =>
        exact ⟨q1, by rw [w'.b _ _ (sb _ _ hb)]; simp, cell_keep q3 (by rw [hb]; simp) sb⟩
      | none =>
        obtain ⟨o, ho⟩ := Option.ne_none_iff_exists'.mp q2
        have hf := w'.f b o (by
          show (if _ then _ else _) = _
          rw [if_pos ⟨hne, List.mem_of_getElem? e1, hb⟩]
          exact ho)
        exact ⟨q1, by rw [hf.1]; simp, cell_up q3 sb (fun _ => hf.2) (hf.1.trans ho.symm)⟩
end

/-! ### list comprehensions -/
def wipeD (δ : List Sl) : List Nat → List Sl
  | [] => δ
  | v :: vs => (wipeD δ vs).set v .no
theorem envOk_wipe {K : Fg} {B : Hp} {as : List Addr} {σ : List (Option V)} {δ : List Sl} (ev : EnvOk K B as σ δ) : ∀ vs : List Nat, EnvOk K B as (wipe σ vs) (wipeD δ vs)
  | [] => ev
  | v :: vs => envOk_set (o := none) (s := Sl.no) trivial v (envOk_wipe ev vs)
theorem wipe_get {σ : L2.St} : ∀ {vs : List Nat} {i : Nat}, i ∉ vs → (wipe σ vs)[i]? = σ[i]?
  | [], _, _ => rfl
  | v :: vs, i, h => by
    show ((wipe σ vs).set v none)[i]? = _
    rw [List.getElem?_set_ne (fun (z : v = i) => h (z ▸ List.mem_cons_self)), wipe_get fun z => h (List.mem_cons_of_mem _ z)]
theorem wipe_at {σ : L2.St} : ∀ {vs : List Nat} {i : Nat}, i ∈ vs → i < σ.length → (wipe σ vs)[i]? = some none
  | v :: vs, i, h, hl => by
    show ((wipe σ vs).set v none)[i]? = _
    by_cases hv : v = i
    · subst hv
      rw [List.getElem?_set_self (by rw [wipe_length]; exact hl)]
    · rw [List.getElem?_set_ne hv]
      exact wipe_at ((List.mem_cons.mp h).resolve_left (Ne.symm hv)) hl
theorem wipe_eq {σ σ' : L2.St} {vs : List Nat} (hl : σ'.length = σ.length) (h : ∀ i, i ∉ vs → σ'[i]? = σ[i]?) : wipe σ' vs = wipe σ vs := by
  apply List.ext_getElem?
  intro i
  by_cases hi : i ∈ vs
  · by_cases hs : i < σ.length
    · rw [wipe_at hi hs, wipe_at hi (by omega)]
    · rw [List.getElem?_eq_none (by rw [wipe_length]; omega), List.getElem?_eq_none (by rw [wipe_length]; omega)]
  · rw [wipe_get hi, wipe_get hi]
    exact h i hi

def wTs (X : Cx) (ifs : List Expr) : TT := fun σ H Q => ∃ t, PTs X ifs t ∧ t σ H Q
def DTs (X : Cx) (ifs : List Expr) (δ : List Sl) (ω : List Cell) (T : Bool → List Cell → Prop) : Prop :=
  match ifs with
  | [] => T true ω
  | [c] => DT X c δ ω T
  | _ => False
theorem dts_run {X : Cx} {ifs : List Expr} {δ : List Sl} {ω : List Cell} {T : Bool → List Cell → Prop} (h : DTs X ifs δ ω T) {B F H : Hp} {as : List Addr} {σ : L2.St} (w : Wd X.K B F H as ω) (ev : EnvOk X.K B as σ δ) (Q : Bool → Hp → Prop) (o : OutB X.K B F as T Q) : wTs X ifs σ H Q := by
  match ifs, h with
  | [], h => exact ⟨_, pts_nil, o true B H as ω (Same.refl _) (List.prefix_refl _) w h⟩
  | [c], h => exact ⟨_, pts_one pt_w, h B F H as σ w ev Q o⟩

section
variable {X : Cx} {e a b c tg iter elt : Expr} {es ifs : List Expr} {δ : List Sl} {ω : List Cell} {P : PO1} {pos : Pos} {scope : Scope} {own : List (Str × Nat)}
/-- in a comprehension's block, wherever it stands -/
abbrev Blk (X : Cx) (scope : Scope) (p : Cx → Prop) : Prop := ∀ (s : Shared) (H : Hp) (C : Addr) (cl : List (Str × Addr)) (fp : List Addr), p (X.blk s H scope (compEnvC scope cl C X.env) fp)
def LcTurn (X : Cx) (scope : Scope) (vs : List Nat) (tg : Expr) (ifs : List Expr) (elt : Expr) (δ : List Sl) (its : List D) (Iv : Nat → List D → List Cell → Prop) : Prop :=
  ∀ i d acc ω', its[i]? = some d → Iv i acc ω' → Blk X scope fun Y => DG Y vs tg d (wipeD δ vs) fun δ2 => Blk X scope fun Y => DTs Y ifs δ2 ω' fun b ω2 =>
    if b = true then Blk X scope fun Y => DE Y elt δ2 ω2 fun r ω3 => ∃ y, r = .val y ∧ Iv (i + 1) (acc ++ [y]) ω3 else Iv (i + 1) acc ω2
theorem lc_read {vs : List Nat} (h : DI X tg iter δ ω fun its ω1 => its.length ≤ 100000 ∧ ∃ Iv : Nat → List D → List Cell → Prop, Iv 0 [] ω1 ∧ LcTurn X scope vs tg ifs elt δ its Iv ∧ ∀ acc ω', acc.length ≤ its.length → Iv its.length acc ω' → P (.val (.list acc)) ω' ∨ P (.own ω'.length) (ω' ++ [.lst acc]))
    {B F H : Hp} {as : List Addr} {σ : L2.St} (w : Wd X.K B F H as ω) (ev : EnvOk X.K B as σ δ) (Q : VK) (o : Out X.K B F as P Q) :
    tLc (wI X tg iter) (fun v σ H Q => Blk X scope fun Y => wG Y tg v σ H Q) (fun σ H Q => Blk X scope fun Y => wTs Y ifs σ H Q) (fun σ H Q => Blk X scope fun Y => wE Y elt σ H Q) vs σ H Q := by
  refine h B F H as σ w ev _ fun J its B1 H1 as1 ω1 e1 p1 w1 hit ⟨hlen, Iv, h0, ht, hd⟩ => ?_
  intro Dl hD
  have hF : F Dl = none := w1.freeF hD
  refine ⟨fun i m H' => m = its.length - i ∧ i ≤ its.length ∧ ∃ B' as' acc accV ω', Same B1 B' ∧ as1 <+: as' ∧ Wd X.K B' (upd F Dl (.lst accV)) H' as' ω' ∧ DpAll X.K B' accV acc ∧ acc.length ≤ i ∧ Iv i acc ω',
    ⟨its.length, by omega, Nat.zero_le _, B1, as1, [], [], ω1, Same.refl _, List.prefix_refl _, w1.hide hD, .nil, Nat.zero_le _, h0⟩, fun i m H' hW => ?_⟩
  obtain ⟨rfl, hi, B', as', acc, accV, ω', e2, p2, w2, hacc, hal, hI⟩ := hW
  by_cases hlt : i < its.length
  · obtain ⟨hgo, hy⟩ := (hit B' _ H' as' ω' e2 w2).1 i its[i] (List.getElem?_eq_getElem hlt)
    refine .inr ⟨hgo, fun H3 => ∃ B' as' acc accV ω', Same B1 B' ∧ as1 <+: as' ∧ Wd X.K B' (upd F Dl (.lst accV)) H3 as' ω' ∧ DpAll X.K B' accV acc ∧ acc.length ≤ i + 1 ∧ Iv (i + 1) acc ω', fun H3 q => ⟨its.length - (i + 1), by omega, rfl, hlt, q⟩, fun x H3 q => ?_⟩
    obtain ⟨B2, e3, w3, d3⟩ := hy x H3 q
    have ev3 : EnvOk X.K B2 as' (wipe σ vs) (wipeD δ vs) := envOk_wipe (envOk_up ((e1.trans e2).trans e3) (p1.trans p2) ev) vs
    intro s H0 C cl fp
    refine ht i its[i] acc ω' (List.getElem?_eq_getElem hlt) hI s H0 C cl fp B2 H3 as' (wipe σ vs) x w3.b ev3 d3 _ fun σ4 δ4 ev4 hl4 ha4 hb => ?_
    have hwipe : wipe σ4 vs = wipe σ vs := by
      refine wipe_eq (by rw [hl4, wipe_length]) fun j hj => ?_
      rw [ha4 j hj, wipe_get hj]
    refine ⟨hwipe, ?_⟩
    intro s H0 C cl fp
    refine dts_run (hb s H0 C cl fp) w3 ev4 _ fun bb B5 H5 as5 ω5 e5 p5 w5 hq => ?_
    cases bb with
    | true =>
      refine iteT ?_
      intro s H0 C cl fp
      refine hq s H0 C cl fp B5 _ H5 as5 σ4 w5 (envOk_up e5 p5 ev4) _ fun y B6 H6 as6 r ω6 e6 p6 w6 s6 ⟨dy, er, hI6⟩ => ?_
      subst er
      refine ⟨accV, (w6.f Dl _ upd_same).1, ?_, B6, as6, acc ++ [dy], accV ++ [y], ω6, ((e2.trans e3).trans e5).trans e6, (p2.trans p5).trans p6, w6.rehide, dpAll_app (dpAll_up ((e3.trans e5).trans e6) hacc) (.cons (sl_val s6) .nil), by rw [List.length_append]; exact Nat.succ_le_succ hal, hI6⟩
      rw [dpAll_len hacc]
      exact Nat.lt_of_le_of_lt (Nat.le_trans hal (Nat.le_trans hi hlen)) (by decide)
    | false =>
      exact iteF ⟨B5, as5, acc, accV, ω5, (e2.trans e3).trans e5, p2.trans p5, w5, dpAll_up (e3.trans e5) hacc, Nat.le_succ_of_le hal, hq⟩
  · have ei : i = its.length := by omega
    subst ei
    refine .inl ⟨(hit B' _ H' as' ω' e2 w2).2, ?_⟩
    rcases hd acc ω' hal hI with hp | hp
    · obtain ⟨w3, s3⟩ := w2.show hF
      exact o _ _ H' as' _ ω' ((e1.trans e2).trans s3) (p1.trans p2) w3 (slv (.lst (.inl (.inl upd_same)) (dpAll_up s3 hacc))) hp
    · refine o _ B' H' _ _ _ (e1.trans e2) ((p1.trans p2).trans (List.prefix_append _ _)) (w2.toOwn hF hacc) (slo ?_) hp
      rw [← w2.len, List.getElem?_append_right (Nat.le_refl _), Nat.sub_self]
      rfl
theorem de_lc (hc : X.calm = true) (hN : X.N.Nodup) (ok : BlkOk X.N X.env.scope scope own)
    (h : DI X tg iter δ ω fun its ω1 => its.length ≤ 100000 ∧ ∃ Iv : Nat → List D → List Cell → Prop, Iv 0 [] ω1 ∧ LcTurn X scope (own.map (·.2)) tg ifs elt δ its Iv ∧ ∀ acc ω', acc.length ≤ its.length → Iv its.length acc ω' → P (.val (.list acc)) ω' ∨ P (.own ω'.length) (ω' ++ [.lst acc]))
    (hs : ∀ x, foldedSetIterable iter X.env x = pure x := by intro _; rfl) : DE X (.ListComp elt [⟨tg, iter, ifs, 0⟩] scope pos) δ ω P := fun B F H as σ w ev Q o =>
  ⟨_, pe_lc hc hN pi_w ok (fun s H0 C cl fp => ⟨fun pins s1 σ1 H1 v u Q1 I r hw => by obtain ⟨_, p, q⟩ := hw s H0 C cl fp; exact p.run pins s1 σ1 H1 v u Q1 I r q⟩)
    (fun s H0 C cl fp => ⟨fun pins s1 σ1 H1 Q1 I hw => by obtain ⟨_, p, q⟩ := hw s H0 C cl fp; exact p.run pins s1 σ1 H1 Q1 I q⟩)
    (fun s H0 C cl fp => ⟨fun pins s1 σ1 H1 Q1 I hw => by obtain ⟨_, p, q⟩ := hw s H0 C cl fp; exact p.run pins s1 σ1 H1 Q1 I q⟩) hs, lc_read h w ev Q o⟩
/-- y = [..], y a local name -/
theorem d1_asgLc {k : Kd} {i : Nat} {y : Str} {py spos : Pos} (hc : X.calm = true) (hN : X.N.Nodup) (hy : X.N[i]? = some y) (hyl : X.env.scope.names.lookup y = some .local) (hsw : swapsWith (.ListComp elt [⟨tg, iter, ifs, 0⟩] scope pos) (some (.Name y py)) spos.line X.env = pure true) (ok : BlkOk X.N X.env.scope scope own)
    (h : DI X tg iter δ ω fun its ω1 => its.length ≤ 100000 ∧ ∃ Iv : Nat → List D → List Cell → Prop, Iv 0 [] ω1 ∧ LcTurn X scope (own.map (·.2)) tg ifs elt δ its Iv ∧ ∀ acc ω', acc.length ≤ its.length → Iv its.length acc ω' → k.nx (δ.set i (.val (.list acc))) ω' ∨ k.nx (δ.set i (.own ω'.length)) (ω' ++ [.lst acc]))
    (hs : ∀ x, foldedSetIterable iter X.env x = pure x := by intro _; rfl) : D1 X (.Assign [.Name y py] (.ListComp elt [⟨tg, iter, ifs, 0⟩] scope pos) spos) δ ω k := fun B F H as σ w ev E o =>
  ⟨_, ps_setLc hc hN hy hyl hsw pi_w ok (fun s H0 C cl fp => ⟨fun pins s1 σ1 H1 v u Q1 I r hw => by obtain ⟨_, p, q⟩ := hw s H0 C cl fp; exact p.run pins s1 σ1 H1 v u Q1 I r q⟩)
    (fun s H0 C cl fp => ⟨fun pins s1 σ1 H1 Q1 I hw => by obtain ⟨_, p, q⟩ := hw s H0 C cl fp; exact p.run pins s1 σ1 H1 Q1 I q⟩)
    (fun s H0 C cl fp => ⟨fun pins s1 σ1 H1 Q1 I hw => by obtain ⟨_, p, q⟩ := hw s H0 C cl fp; exact p.run pins s1 σ1 H1 Q1 I q⟩) hs,
    lc_read (P := fun r ω1 => k.nx (δ.set i r) ω1) h w ev _ fun v B1 H1 as1 r ω1 e1 p1 w1 s1 hp => (o.nx.up e1 p1).here w1 (envOk_set s1 i (envOk_up e1 p1 ev)) hp⟩

/-! ### promises at the level of data -/
/-- data in, a datum out; nothing else is touched -/
def spP (K : Fg) (φ : List D → (D → Prop) → Prop) : Sp := fun vs H Q _ => ∃ B F ds P, Wd K B F H [] [] ∧ DpAll K B vs ds ∧ φ ds P ∧ ∀ v B' H' d, Same B B' → Wd K B' F H' [] [] → Dp K B' v d → P d → Q v H'
/-- the first argument a list that is owned and may be changed -/
def spL (K : Fg) (φ : List D → List D → (D → List D → Prop) → Prop) : Sp := fun vs H Q _ => ∃ B F a rest cs ds P, vs = .ref a :: rest ∧ Wd K B F H [a] [.lst cs] ∧ DpAll K B rest ds ∧ φ cs ds P ∧
  ∀ v B' H' d cs', Same B B' → Wd K B' F H' [a] [.lst cs'] → Dp K B' v d → P d cs' → Q v H'
/-- data in, a new list out that the caller owns -/
def spN (K : Fg) (φ : List D → (List D → Prop) → Prop) : Sp := fun vs H Q _ => ∃ B F ds P, Wd K B F H [] [] ∧ DpAll K B vs ds ∧ φ ds P ∧ ∀ a B' H' cs, Same B B' → Wd K B' F H' [a] [.lst cs] → P cs → Q (.ref a) H'

/-- the def of the name x keeps a promise -/
structure Has (P : Program) (w : World) (K : Fg) (mg : Str → Option Value) (base : Heap) (k : Nat) (x : Str) (sp : Sp) : Prop where
  ex : ∃ (f : Addr) (fd : FuncData) (ps : List Str), FnOk P w K mg base CX0 k f fd ps sp ∧ mg x = some (.ref f) ∧ PySem.W.keepIn K (.ref f) = true ∧ Binds K fd ps []
theorem de_call {x : Str} {p : Pos} {j : Nat} {φ : List D → (D → Prop) → Prop} (C : Has X.prog X.w X.K X.mg X.base j x (spP X.K φ)) (hr : Room j X.A) (hg : Gl X x) (h : DA X (e :: es) δ ω fun rs ω1 => ∃ ds, rs = ds.map Sl.val ∧ φ ds fun d => P (.val d) ω1)
    (hdb : (x == ("__debug__" : Str)) = false := by decide) (he : starEach (e :: es) X.env = (false, eval e X.env) :: starEach es X.env := by rfl) (hpl : (backTo pos (starEach es X.env)).any (·.1) = false := by rfl) : DE X (.Call (.Name x p) (e :: es) [] pos) δ ω P := fun B F H as σ w ev Q o => by
  obtain ⟨f, fd, ps, hf, hm, hk, hb⟩ := C.ex
  refine ⟨_, pe_call hf hr hg hm hk hb .nil pass0 pa_w hdb he hpl, ?_⟩
  refine h B F H as σ w ev _ fun vs B1 H1 as1 rs ω1 e1 p1 w1 s1 ⟨ds, er, hφ⟩ => ?_
  subst er
  obtain ⟨F', wF, _, _, back⟩ := w1.frame
  refine ⟨B1, F', ds, _, wF, by rw [List.append_nil]; exact rsOk_vals s1, hφ, fun v B' H' d sb w' hd hp => ?_⟩
  exact o v B' H' as1 _ ω1 (e1.trans sb) p1 (back B' H' sb w') (slv hd) hp
theorem rs_head {K : Fg} {B : Hp} {as : List Addr} {vs : List V} {r : Sl} {rs : List Sl} (h : RsOk K B as vs (r :: rs)) : ∃ v us, vs = v :: us ∧ SlOk K B as (some v) r ∧ RsOk K B as us rs := by
  cases h with
  | cons h q => exact ⟨_, _, rfl, h, q⟩
/-- a call that may change the owned list which it is handed -/
theorem de_callL {x : Str} {p : Pos} {j : Nat} {φ : List D → List D → (D → List D → Prop) → Prop} (C : Has X.prog X.w X.K X.mg X.base j x (spL X.K φ)) (hr : Room j X.A) (hg : Gl X x) (h : DA X (e :: es) δ ω fun rs ω1 => ∃ kx cs ds, rs = .own kx :: ds.map Sl.val ∧ ω1[kx]? = some (.lst cs) ∧ φ cs ds fun d cs' => P (.val d) (ω1.set kx (.lst cs')))
    (hdb : (x == ("__debug__" : Str)) = false := by decide) (he : starEach (e :: es) X.env = (false, eval e X.env) :: starEach es X.env := by rfl) (hpl : (backTo pos (starEach es X.env)).any (·.1) = false := by rfl) : DE X (.Call (.Name x p) (e :: es) [] pos) δ ω P := fun B F H as σ w ev Q o => by
  obtain ⟨f, fd, ps, hf, hm, hk, hb⟩ := C.ex
  refine ⟨_, pe_call hf hr hg hm hk hb .nil pass0 pa_w hdb he hpl, ?_⟩
  refine h B F H as σ w ev _ fun vs B1 H1 as1 rs ω1 e1 p1 w1 s1 ⟨kx, cs, ds, er, hc, hφ⟩ => ?_
  subst er
  obtain ⟨v, us, rfl, g1, g2⟩ := rs_head s1
  obtain ⟨a, rfl, ha⟩ := sl_own g1
  obtain ⟨F', wF, back⟩ := w1.frame1 ha hc (by simp)
  refine ⟨B1, F', a, us, cs, ds, _, by rw [List.append_nil], wF, rsOk_vals g2, hφ, fun v B' H' d cs' sb w' hd hp => ?_⟩
  exact o v B' H' as1 _ _ (e1.trans sb) p1 (back B' H' _ sb w') (slv hd) hp
/-- a call that gives a new list -/
theorem de_callN {x : Str} {p : Pos} {j : Nat} {φ : List D → (List D → Prop) → Prop} (C : Has X.prog X.w X.K X.mg X.base j x (spN X.K φ)) (hr : Room j X.A) (hg : Gl X x) (h : DA X (e :: es) δ ω fun rs ω1 => ∃ ds, rs = ds.map Sl.val ∧ φ ds fun cs => P (.own ω1.length) (ω1 ++ [.lst cs]))
    (hdb : (x == ("__debug__" : Str)) = false := by decide) (he : starEach (e :: es) X.env = (false, eval e X.env) :: starEach es X.env := by rfl) (hpl : (backTo pos (starEach es X.env)).any (·.1) = false := by rfl) : DE X (.Call (.Name x p) (e :: es) [] pos) δ ω P := fun B F H as σ w ev Q o => by
  obtain ⟨f, fd, ps, hf, hm, hk, hb⟩ := C.ex
  refine ⟨_, pe_call hf hr hg hm hk hb .nil pass0 pa_w hdb he hpl, ?_⟩
  refine h B F H as σ w ev _ fun vs B1 H1 as1 rs ω1 e1 p1 w1 s1 ⟨ds, er, hφ⟩ => ?_
  subst er
  obtain ⟨F', wF, hFF, hlive, back⟩ := w1.frame
  refine ⟨B1, F', ds, _, wF, by rw [List.append_nil]; exact rsOk_vals s1, hφ, fun a B' H' cs sb w' hp => ?_⟩
  have w2 := back B' H' sb w'.drop
  obtain ⟨q1, q2, q3, xs, q4, q5⟩ := w'.at' 0 a _ rfl rfl
  have hnot : a ∉ as1 := fun hm2 => by
    obtain ⟨i, hi, ei⟩ := List.mem_iff_getElem.mp hm2
    have e1' : as1[i]? = some a := by rw [List.getElem?_eq_getElem hi, ei]
    have hi2 : i < ω1.length := by rw [← w1.len]; exact hi
    cases hB : B1 a with
    | some oo =>
      rw [sb _ _ hB] at q3
      cases q3
    | none =>
      obtain ⟨_, n2, n3⟩ := w1.at' i a _ e1' (List.getElem?_eq_getElem hi2)
      rw [hlive i a _ e1' (List.getElem?_eq_getElem hi2) hB] at q1
      exact n2 q1
  have hFa : F a = none := by
    cases hq : F a with
    | none => rfl
    | some oo =>
      rw [hFF a oo hq] at q1
      cases q1
  have w3 := w2.addOwn (c := .lst cs) hFa hnot q2 ⟨q3, xs, q4, q5⟩
  refine o _ B' H' _ _ _ (e1.trans sb) (p1.trans (List.prefix_append _ _)) w3 (slo ?_) hp
  rw [← w1.len, List.getElem?_append_right (Nat.le_refl _), Nat.sub_self]
  rfl
end
end
section
/-! ### a def's promise by its body -/
def slots (N : List Str) (l : List Sl) : List Sl := l ++ List.replicate (N.length - l.length) Sl.no
theorem env_start {K : Fg} {B : Hp} {as : List Addr} {N : List Str} {vs : List V} {l : List Sl} (h : EnvOk K B as (vs.map some) l) : EnvOk K B as (start N vs) (slots N l) := by
  unfold L2.start slots
  have e : vs.length = l.length := by
    have := envOk_len h
    rw [List.length_map] at this
    exact this
  rw [e]
  exact envOk_app h (envOk_none _)
section
variable {P : Program} {w : World} {K : Fg} {mg : Str → Option Value} {base : Heap} {x qual : Str} {st : Stmt} {f : Addr} {fd : FuncData} {N ps : List Str} {k : Nat}
/-- where a body runs -/
abbrev Body (P : Program) (w : World) (K : Fg) (mg : Str → Option Value) (base : Heap) (N : List Str) (qual : Str) (st : Stmt) (f : Addr) (k : Nat) (p : Cx → Prop) : Prop :=
  ∀ (cdv : Value) (A : Around) (outer : List Env) (s : Shared) (H : Hp) (E : XK), Room k (A.deeper (envOfC qual (defScope st) s.heap.objs.size f cdv)) → p (cxOf CX0 P w K mg base N qual (defScope st) f cdv A outer s H E).nox
theorem ok_P {φ : List D → (D → Prop) → Prop} (F : Fun K x qual st f fd) (S : FnScope N ps (defScope st)) (hn : ∀ ds Q, φ ds Q → ds.length = ps.length)
    (hb : ∀ ds Q, φ ds Q → Body P w K mg base N qual st f k fun X => DS X (defBody st) (slots N (ds.map Sl.val)) [] { nx := fun _ _ => Q .none, rt := fun r _ => ∃ d, r = .val d ∧ Q d }) : FnOk P w K mg base CX0 (k + 1) f fd ps (spP K φ) := by
  refine F.ok S (fun vs H Q E h => ?_) fun cdv A outer s H vs Q E hr h => ?_
  · obtain ⟨B, F', ds, P', hw, hd, hφ, _⟩ := h
    rw [dpAll_len hd]
    exact hn _ _ hφ
  · obtain ⟨B, F', ds, P', hw, hd, hφ, hq⟩ := h
    refine ⟨_, pss_w, hb ds P' hφ cdv A outer s H E hr B F' H [] _ hw (env_start (envOk_vals hd)) _ ⟨fun σ' H' B' as' δ' ω' e1 p1 w1 ev1 q => ?_, fun _ _ _ _ _ _ _ _ _ _ q => q.elim, fun _ _ _ _ _ _ _ _ _ _ q => q.elim, fun v B' H' as' r ω' e1 p1 w1 s1 q => ?_⟩⟩
    · exact hq .non B' H' .none e1 w1.drop .non q
    · obtain ⟨d, rfl, q⟩ := q
      exact hq v B' H' d e1 w1.drop (sl_val s1) q
theorem Wd.head {K : Fg} {B F H : Hp} {a : Addr} {as' : List Addr} {ω : List Cell} {c : Cell} (w : Wd K B F H as' ω) (p : [a] <+: as') (hc : ω[0]? = some c) : Wd K B F H [a] [c] := by
  obtain ⟨t, rfl⟩ := p
  refine ⟨w.b, w.f, rfl, by simp, fun k b d e1 e2 => ?_⟩
  cases k with
  | succ k => simp at e1
  | zero =>
    simp at e1 e2
    subst e1 e2
    exact w.at' 0 a c rfl hc
theorem ok_L {φ : List D → List D → (D → List D → Prop) → Prop} (F : Fun K x qual st f fd) (S : FnScope N ps (defScope st)) (hn : ∀ cs ds Q, φ cs ds Q → ds.length + 1 = ps.length)
    (hb : ∀ cs ds Q, φ cs ds Q → Body P w K mg base N qual st f k fun X => DS X (defBody st) (slots N (.own 0 :: ds.map Sl.val)) [.lst cs] { nx := fun _ ω' => ∃ cs', ω'[0]? = some (.lst cs') ∧ Q .none cs', rt := fun r ω' => ∃ d cs', r = .val d ∧ ω'[0]? = some (.lst cs') ∧ Q d cs' }) :
    FnOk P w K mg base CX0 (k + 1) f fd ps (spL K φ) := by
  refine F.ok S (fun vs H Q E h => ?_) fun cdv A outer s H vs Q E hr h => ?_
  · obtain ⟨B, F', a, rest, cs, ds, P', rfl, hw, hd, hφ, _⟩ := h
    rw [List.length_cons, dpAll_len hd]
    exact hn _ _ _ hφ
  · obtain ⟨B, F', a, rest, cs, ds, P', rfl, hw, hd, hφ, hq⟩ := h
    refine ⟨_, pss_w, hb cs ds P' hφ cdv A outer s H E hr B F' H [a] _ hw (env_start (vs := .ref a :: rest) (.cons (slo rfl) (envOk_vals hd))) _ ⟨fun σ' H' B' as' δ' ω' e1 p1 w1 ev1 q => ?_, fun _ _ _ _ _ _ _ _ _ _ q => q.elim, fun _ _ _ _ _ _ _ _ _ _ q => q.elim, fun v B' H' as' r ω' e1 p1 w1 s1 q => ?_⟩⟩
    · obtain ⟨cs', h0, q⟩ := q
      exact hq .non B' H' .none cs' e1 (w1.head p1 h0) .non q
    · obtain ⟨d, cs', rfl, h0, q⟩ := q
      exact hq v B' H' d cs' e1 (w1.head p1 h0) (sl_val s1) q
theorem Wd.only {K : Fg} {B F H : Hp} {as' : List Addr} {ω : List Cell} {j : Nat} {a : Addr} {c : Cell} (w : Wd K B F H as' ω) (ha : as'[j]? = some a) (hc : ω[j]? = some c) : Wd K B F H [a] [c] := by
  refine ⟨w.b, w.f, rfl, by simp, fun k b d e1 e2 => ?_⟩
  cases k with
  | succ k => simp at e1
  | zero =>
    simp at e1 e2
    subst e1 e2
    exact w.at' j a c ha hc
theorem ok_N {φ : List D → (List D → Prop) → Prop} (F : Fun K x qual st f fd) (S : FnScope N ps (defScope st)) (hn : ∀ ds Q, φ ds Q → ds.length = ps.length)
    (hb : ∀ ds Q, φ ds Q → Body P w K mg base N qual st f k fun X => DS X (defBody st) (slots N (ds.map Sl.val)) [] { nx := fun _ _ => False, rt := fun r ω' => ∃ j cs, r = .own j ∧ ω'[j]? = some (.lst cs) ∧ Q cs }) : FnOk P w K mg base CX0 (k + 1) f fd ps (spN K φ) := by
  refine F.ok S (fun vs H Q E h => ?_) fun cdv A outer s H vs Q E hr h => ?_
  · obtain ⟨B, F', ds, P', hw, hd, hφ, _⟩ := h
    rw [dpAll_len hd]
    exact hn _ _ hφ
  · obtain ⟨B, F', ds, P', hw, hd, hφ, hq⟩ := h
    refine ⟨_, pss_w, hb ds P' hφ cdv A outer s H E hr B F' H [] _ hw (env_start (envOk_vals hd)) _ ⟨fun _ _ _ _ _ _ _ _ _ _ q => q.elim, fun _ _ _ _ _ _ _ _ _ _ q => q.elim, fun _ _ _ _ _ _ _ _ _ _ q => q.elim, fun v B' H' as' r ω' e1 p1 w1 s1 q => ?_⟩⟩
    obtain ⟨j, cs, rfl, h0, q⟩ := q
    obtain ⟨a, rfl, ha⟩ := sl_own s1
    exact hq a B' H' cs e1 (w1.only ha h0) q
end

/-! ### defs that ask what runs around: the guards of repr -/
/-- as FnOk, where no repr is under way -/
structure FnG (P : Program) (w : World) (K : Fg) (mg : Str → Option Value) (base : Heap) (k : Nat) (f : Addr) (fd : FuncData) (ps : List Str) (sp : Sp) : Prop where
  len : ∀ vs H Q E, sp vs H Q E → vs.length = ps.length
  run : ∀ (A : Around) (outer : List Env) (s : Shared) (H : Hp) (args : Args) (us : List Value) (vs : List V) (Q : VK) (E : XK), A.guards = some [] → Room k A →
    Env0 P w K mg base A outer s H → BindsTo s fd args (ps.zip us) → Vals vs us → sp vs H Q E → codeAny (model P w) A (.call (.ref f) args) (CR CX0 outer P w H s Q E) s
structure HasG (P : Program) (w : World) (K : Fg) (mg : Str → Option Value) (base : Heap) (k : Nat) (x : Str) (sp : Sp) : Prop where
  ex : ∃ (f : Addr) (fd : FuncData) (ps : List Str), FnG P w K mg base k f fd ps sp ∧ mg x = some (.ref f) ∧ PySem.W.keepIn K (.ref f) = true ∧ Binds K fd ps []
section
variable {P : Program} {w : World} {K : Fg} {mg : Str → Option Value} {base : Heap} {x qual : Str} {st : Stmt} {f : Addr} {fd : FuncData} {N ps : List Str} {k : Nat}
theorem fnG_mk {sp : Sp} (F : Fun K x qual st f fd) (S : FnScope N ps (defScope st)) (len : ∀ vs H Q E, sp vs H Q E → vs.length = ps.length)
    (hb : ∀ (cdv : Value) (A : Around) (outer : List Env) (s : Shared) (H : Hp) (vs : List V) (Q : VK) (E : XK), A.guards = some [] → Room k (A.deeper (envOfC qual (defScope st) s.heap.objs.size f cdv)) → sp vs H Q E →
      ∃ t, PSs (cxOf CX0 P w K mg base N qual (defScope st) f cdv A outer s H E).nox (defBody st) t ∧ t { nx := fun _ H' => Q .non H', rt := Q } (start N vs) H) : FnG P w K mg base (k + 1) f fd ps sp := by
  obtain ⟨oc, od, kV, doc, pm, an, cdv, ct, osl, rfl, lk, hcd⟩ := F.ex
  refine ⟨len, fun A outer s H args us vs Q E hgd hr en hbd hvs hsp => ?_⟩
  have hlen := len vs H Q E hsp
  have inK : K.In s.heap := en.mod.kin.keeps fun a o q => (en.bs a o q).1
  have noL : s.heap.NoLimit := en.mod.nolimit.keeps fun a o q => (en.bs a o q).1
  have kinds : ∀ y ∈ ps.zip us, (defScope st).names.lookup y.1 = some .local ∨ ((defScope st).names.lookup y.1 = some .cell ∧ ((cellsFrom (s.heap.objs.size + 1) (defScope st).names []).lookup y.1).isSome = true) := by
    rintro ⟨z, v⟩ hz
    rcases S.par z (List.of_mem_zip hz).1 with q | q
    · exact Or.inl q
    · exact Or.inr ⟨q, PySem.W.cellsFrom_some _ _ _ (Or.inl q)⟩
  refine codeAny_call_function hr.depth (inK _ _ lk) rfl S.co S.gen rfl (PySem.W.codeRec_of inK hcd) (hbd _ _ _ _ ?_)
  refine wpAny_newFunctionEnv_cells S.kind kinds fun env hen s1 ic => ?_
  subst hen
  refine ⟨noL.keeps ic.toInCall.keep, codeAny_func ?_⟩
  obtain ⟨t, ht, hq⟩ := hb cdv A outer s H vs Q E hgd (hr.deeper _) hsp
  have I0 : Inv (cxOf CX0 P w K mg base N qual (defScope st) f cdv A outer s H E) [] (start N vs) H s1 := inv_start S hr.hd en hlen hvs ic
  refine wpAny_mono (ht.nox.run [] s1 (start N vs) H _ I0 hq) (fun fl s2 hs => ?_) fun _ _ hs => hs
  have done : ∀ {σ2 : L2.St} {H2 : Hp} {v : V} {u : Value}, Inv (cxOf CX0 P w K mg base N qual (defScope st) f cdv A outer s H E) [] σ2 H2 s2 → RelV v u → Q v H2 → CE outer P w H s Q u s2 := fun {σ2 H2 v u} J rv q => ⟨v, H2, J.os, J.bare, J.base, J.hok, rv, q⟩
  match fl, hs with
  | .ret u, ⟨v, σ2, H2, J, rv, q⟩ => exact done J rv q
  | .next, ⟨σ2, H2, J, q⟩ => exact done (v := .non) (u := .none) J rfl q
  | .brk, ⟨_, _, _, q⟩ => exact q.elim
  | .cont, ⟨_, _, _, q⟩ => exact q.elim
abbrev BodyG (P : Program) (w : World) (K : Fg) (mg : Str → Option Value) (base : Heap) (N : List Str) (qual : Str) (st : Stmt) (f : Addr) (k : Nat) (p : Cx → Prop) : Prop :=
  ∀ (cdv : Value) (A : Around) (outer : List Env) (s : Shared) (H : Hp) (E : XK), A.guards = some [] → Room k (A.deeper (envOfC qual (defScope st) s.heap.objs.size f cdv)) → p (cxOf CX0 P w K mg base N qual (defScope st) f cdv A outer s H E).nox
theorem ok_G {φ : List D → (D → Prop) → Prop} (F : Fun K x qual st f fd) (S : FnScope N ps (defScope st)) (hn : ∀ ds Q, φ ds Q → ds.length = ps.length)
    (hb : ∀ ds Q, φ ds Q → BodyG P w K mg base N qual st f k fun X => DS X (defBody st) (slots N (ds.map Sl.val)) [] { nx := fun _ _ => Q .none, rt := fun r _ => ∃ d, r = .val d ∧ Q d }) : FnG P w K mg base (k + 1) f fd ps (spP K φ) := by
  refine fnG_mk F S (fun vs H Q E h => ?_) fun cdv A outer s H vs Q E hgd hr h => ?_
  · obtain ⟨B, F', ds, P', hw, hd, hφ, _⟩ := h
    rw [dpAll_len hd]
    exact hn _ _ hφ
  · obtain ⟨B, F', ds, P', hw, hd, hφ, hq⟩ := h
    refine ⟨_, pss_w, hb ds P' hφ cdv A outer s H E hgd hr B F' H [] _ hw (env_start (envOk_vals hd)) _ ⟨fun σ' H' B' as' δ' ω' e1 p1 w1 ev1 q => ?_, fun _ _ _ _ _ _ _ _ _ _ q => q.elim, fun _ _ _ _ _ _ _ _ _ _ q => q.elim, fun v B' H' as' r ω' e1 p1 w1 s1 q => ?_⟩⟩
    · exact hq .non B' H' .none e1 w1.drop .non q
    · obtain ⟨d, rfl, q⟩ := q
      exact hq v B' H' d e1 w1.drop (sl_val s1) q
end
section
variable {X : Cx} {e : Expr} {es : List Expr} {δ : List Sl} {ω : List Cell} {P : PO1} {pos : Pos}
theorem run_fnG {k : Nat} {f : Addr} {fd : FuncData} {ps : List Str} {sp : Sp} {pins : List (Addr × Obj)} {σ : L2.St} {H : Hp} {s : Shared} {Q : VK} {us : List Value} {vs : List V} (F : FnG X.prog X.w X.K X.mg X.base k f fd ps sp) (hgd : X.A.guards = some []) (hr : Room k X.A) (hb : Binds X.K fd ps [])
    (I : Inv X pins σ H s) (r : Vals vs us) (h : sp vs H Q E0) : wpAny (model X.prog X.w) X.A (call (.ref f) us) (EP X pins σ Q) X.xe s := by
  have hl : (us ++ []).length = ps.length := by
    rw [List.append_nil, ← r.length]
    exact F.len _ _ _ _ h
  have hb2 := hb s us I.kIn hl
  rw [List.append_nil] at hb2
  refine wpAny_call (codeAny_mono (F.run X.A X.stack s H ⟨us, []⟩ us vs Q E0 hgd hr I.env0 hb2 r h) fun res s' hq => ?_)
  match res, hq with
  | .error _, hq => exact hq.elim
  | .ok (.ret u), hq => exact I.after hq
  | .ok .next, hq => exact hq.elim
  | .ok .brk, hq => exact hq.elim
  | .ok .cont, hq => exact hq.elim
theorem de_callG {x : Str} {p : Pos} {j : Nat} {φ : List D → (D → Prop) → Prop} (C : HasG X.prog X.w X.K X.mg X.base j x (spP X.K φ)) (hgd : X.A.guards = some []) (hr : Room j X.A) (hg : Gl X x) (h : DA X (e :: es) δ ω fun rs ω1 => ∃ ds, rs = ds.map Sl.val ∧ φ ds fun d => P (.val d) ω1)
    (hdb : (x == ("__debug__" : Str)) = false := by decide) (he : starEach (e :: es) X.env = (false, eval e X.env) :: starEach es X.env := by rfl) (hpl : (backTo pos (starEach es X.env)).any (·.1) = false := by rfl) : DE X (.Call (.Name x p) (e :: es) [] pos) δ ω P := fun B F H as σ w ev Q o => by
  obtain ⟨f, fd, ps, hf, hm, hk, hb⟩ := C.ex
  refine ⟨fun σ H Q => wA X (e :: es) σ H fun vs H1 => spP X.K φ vs H1 Q E0, ⟨fun pins s σ H Q I hh => ?_⟩, ?_⟩
  · refine wpAny_Call_Name_kw (ld_glob I hg hm ?_ hdb)
    refine PySem.W.callWith_K (h₀ := X.base) I.ok.mod.kin hk ?_ he hpl
    exact thn (pa_w.run pos pins s σ H _ I hh) fun us s1 ⟨vs, H1, I1, r, q⟩ => ⟨I1.kIn, run_fnG hf hgd hr hb I1 r q⟩
  · refine h B F H as σ w ev _ fun vs B1 H1 as1 rs ω1 e1 p1 w1 s1 ⟨ds, er, hφ⟩ => ?_
    subst er
    obtain ⟨F', wF, _, _, back⟩ := w1.frame
    exact ⟨B1, F', ds, _, wF, rsOk_vals s1, hφ, fun v B' H' d sb w' hd hp => o v B' H' as1 _ ω1 (e1.trans sb) p1 (back B' H' sb w') (slv hd) hp⟩
/-- repr of data -/
def rRepr (K : Fg) : List V → Hp → VK → Prop := fun xs H Q => ∃ x d, xs = [x] ∧ Dp K H x d ∧ d.showable = true ∧ d.hasDict = false ∧ d.depth ≤ 40 ∧ d.shown.length ≤ sizeLine ∧ Q (.str d.shown) H
theorem call_repr (hgd : X.A.guards = some []) (hu : X.A.units + 64 < cLine) : CallR X (.builtin "repr") (rRepr X.K) := by
  intro pins s σ H xs us Q I r h
  obtain ⟨x, d, rfl, hd, hs, hn, hdp, hz, q⟩ := h
  cases r with
  | cons rx rr =>
    cases rr
    rename_i u
    obtain ⟨as, hrd⟩ := Dp.reads I d x u hd rx
    cases hd with
    | non =>
      cases rx
      exact PySem.P.repr_of_none ⟨.str _, H, I.tok _, ⟨_, rfl⟩, q⟩
    | bl b =>
      cases rx
      exact PySem.P.repr_of_bool ⟨.str _, H, I.tok _, ⟨_, rfl⟩, q⟩
    | int i =>
      obtain ⟨t, rfl⟩ := rx
      refine PySem.P.repr_of_int ?_ ⟨.str _, H, I.tok _, ⟨_, rfl⟩, q⟩
      simpa [PyData.showable] using hs
    | str z =>
      obtain ⟨t, rfl⟩ := rx
      exact PySem.P.repr_of_str ⟨.str _, H, I.tok _, ⟨_, rfl⟩, q⟩ hz
    | lst h1 h2 =>
      cases rx
      exact repr_of_reads' hrd hs (fun z => by rw [hn] at z; cases z) hgd (by omega) (fun _ _ e => e) (fun h' u tk hk => ⟨.str _, H, I.kept hk, ⟨_, rfl⟩, q⟩) hz
    | tup h1 h2 =>
      cases rx
      exact repr_of_reads' hrd hs (fun z => by rw [hn] at z; cases z) hgd (by omega) (fun _ _ e => e) (fun h' u tk hk => ⟨.str _, H, I.kept hk, ⟨_, rfl⟩, q⟩) hz
structure Shows (d : D) : Prop where
  s : d.showable = true
  n : d.hasDict = false
  p : d.depth ≤ 40
  z : d.shown.length ≤ sizeLine
theorem ra_repr {d : D} (hs : Shows d) (hp : P (.val (.str d.shown)) ω) : RA X (rRepr X.K) [.val d] ω P := fun B F H as vs w s Q o => by
  obtain ⟨v, rfl, s1⟩ := rs1 s
  exact ⟨v, d, rfl, dp_up w.b (sl_val s1), hs.s, hs.n, hs.p, hs.z, o.here w (.str _) hp⟩
end
end
section
/-- what a law promises: True for every script -/
def φLaw : List D → (D → Prop) → Prop := fun ds P => ∃ ns : List Int, ds = [.list (ns.map PyData.int)] ∧ ns.length ≤ 63 ∧ P (.bool true)
theorem dp_script {K : Fg} {H : Hp} : ∀ ns : List Int, DpAll K H (ns.map V.int) (ns.map PyData.int)
  | [] => .nil
  | _ :: r => .cons (.int _) (dp_script r)
theorem spLaw_at {K : Fg} {H : Hp} {a : Addr} {ns : List Int} (hl : ns.length ≤ 63) (hS : SqL K H a (ns.map V.int)) : spP K φLaw [.ref a] H (fun v _ => v = .bl true) E0 :=
  ⟨H, fun _ => none, [.list (ns.map PyData.int)], fun d => d = .bool true, ⟨Same.refl _, (fun _ _ z => by cases z), rfl, .nil, (fun k b c z => by simp at z)⟩, .cons (.lst hS (dp_script ns)) .nil, ⟨ns, rfl, hl, rfl⟩, fun v B' H' d _ _ hd e => by
    subst e
    exact dp_bl_inv hd⟩
section
variable {P : Program} {w : World} {K : Fg} {mg mb : Str → Option Value} {k : Nat} {fa a : Addr} {fd : FuncData} {x : Str} {s1 : Shared} {vs : List Value} {ns : List Int}
/-- the call of the law, from an abstract heap that holds the script at most -/
theorem end_core (KX : K.In s1.heap) (hns : s1.heap.Ns mainGlobals mg) (hb : s1.heap.Ns builtinsNs mb) (hbb : ∀ z : Str, z ≠ "__name__" → mb z = bootBuiltins z) (hlim : s1.heap.NoLimit) (hgens : s1.gens = #[])
    (hobj : s1.heap.get? a = some { cls := .type "list", data := .seq vs.toArray }) (hr : Room k callerA) (hl : ns.length ≤ 63)
    (F : ∀ base : Heap, K.In base → base.Ns mainGlobals mg → FnG P w K mg base k fa fd [x] (spP K φLaw)) (hbind : ∀ (s : Shared) (u : Value), BindsTo s fd ⟨[u], []⟩ [(x, u)])
    (H : Hp) (hO : Only H) (hS : SqL K H a (ns.map V.int)) (hok : HOk P w H s1.heap) (hA : ∀ c, H c ≠ none → c = a) (hK : H a ≠ none → K.lookup a = none) :
    codeAny (model P w) callerA (.call (.ref fa) ⟨[.ref a], []⟩) (fun res s2 => res = .ok (.ret (.bool true)) ∧ OldK s1.heap s2.heap ∧ s2.os = s1.os ∧ AllBare s2.gens) s1 := by
  have only : ∀ {c : Addr} {u : HO}, H c = some u → c = a := fun {c u} q => hA c (by rw [q]; simp)
  have dictFree : ∀ {c : Addr} {o : Obj} {es : Array DictEntry} {ep : Nat}, s1.heap.get? c = some o → o.data = .dict es ep → H c = none := fun {c o es ep} g dd => by
    cases q : H c with
    | none => rfl
    | some u =>
      rw [only q, hobj] at g
      cases g
      exact (Data.noConfusion (show Data.seq vs.toArray _ = Data.dict es ep from dd))
  have nsKept : ∀ {c : Addr} {m : Str → Option Value}, s1.heap.Ns c m → (hidT s1.heap H).Ns c m := fun {c m} hm => by
    obtain ⟨o, es, ep, g, dd, rr⟩ := hm
    exact ⟨o, es, ep, hidT_get g (dictFree g dd), dd, rr⟩
  have inBase : K.In (hidT s1.heap H) := fun c o g => hidT_get (KX c o g) (by
    cases q : H c with
    | none => rfl
    | some u =>
      have ec := only q
      subst ec
      rw [hK (by rw [q]; simp)] at g
      cases g)
  have md : Mod K mg (hidT s1.heap H) := by
    obtain ⟨mc, l1, l2⟩ := hlim
    exact ⟨inBase, nsKept hns, ⟨mb, nsKept hb, hbb⟩, ⟨mc, nsKept l1, l2⟩⟩
  have env0 : Env0 P w K mg (hidT s1.heap H) callerA [] s1 H := by
    refine ⟨rfl, md, fun c o g => of_hidT g, Nat.le_of_eq (hidT_size _ _), trivial, fun c hc => ?_, hok, .of_eq hgens⟩
    exact absurd (show c ∈ ([] : List Addr) from hc) List.not_mem_nil
  refine codeAny_mono ((F _ inBase (nsKept hns)).run callerA [] s1 H ⟨[.ref a], []⟩ [.ref a] [.ref a] _ _ rfl hr env0 (hbind s1 (.ref a)) (.cons rfl .nil) (spLaw_at hl hS)) fun res s2 hres => ?_
  match res, hres with
  | .error _, hres => exact hres.elim
  | .ok .next, hres => exact hres.elim
  | .ok .brk, hres => exact hres.elim
  | .ok .cont, hres => exact hres.elim
  | .ok (.ret u), ⟨v, H2, os, bare, un, hok2, rv, ev⟩ =>
    have ev2 : v = .bl true := ev
    subst ev2
    have eu : u = Value.bool true := rv
    subst eu
    refine ⟨rfl, OldK.of_keep fun c o g => ?_, os, bare⟩
    cases q : H c with
    | none => exact un.keep c o g q (fun z => absurd (show c ∈ ([] : List Addr) from z) List.not_mem_nil) (fun z => absurd z List.not_mem_nil)
    | some u2 =>
      rcases hO c with z | ⟨ob, xs, z⟩
      · rw [z] at q
        cases q
      · obtain ⟨g1, _⟩ := hok c _ z
        obtain ⟨g2, _⟩ := hok2 c _ (un.frzs c ob _ z)
        rw [g] at g1
        cases g1
        exact g2
theorem end_call (KX : K.In s1.heap) (hns : s1.heap.Ns mainGlobals mg) (hb : s1.heap.Ns builtinsNs mb) (hbb : ∀ z : Str, z ≠ "__name__" → mb z = bootBuiltins z) (hlim : s1.heap.NoLimit) (hgens : s1.gens = #[])
    (hobj : s1.heap.get? a = some { cls := .type "list", data := .seq vs.toArray }) (hints : IntsAre vs ns) (hr : Room k callerA) (hl : ns.length ≤ 63)
    (F : ∀ base : Heap, K.In base → base.Ns mainGlobals mg → FnG P w K mg base k fa fd [x] (spP K φLaw)) (hbind : ∀ (s : Shared) (u : Value), BindsTo s fd ⟨[u], []⟩ [(x, u)]) :
    codeAny (model P w) callerA (.call (.ref fa) ⟨[.ref a], []⟩) (fun res s2 => res = .ok (.ret (.bool true)) ∧ OldK s1.heap s2.heap ∧ s2.os = s1.os ∧ AllBare s2.gens) s1 := by
  have rv := vals_ints hints
  have lv := hints.length
  have small : ns.length ≤ sizeLine := Nat.le_trans hl (by decide)
  cases hk : K.lookup a with
  | some o =>
    have g := KX a o hk
    rw [hobj] at g
    cases g
    refine end_core KX hns hb hbb hlim hgens hobj hr hl F hbind (fun _ => none) (fun _ => Or.inl rfl) (Or.inr ⟨_, vs.toArray, _, hk, rfl, rfl, rfl, ?_, ?_⟩) (fun c u z => ?_) (fun c z => absurd rfl z) (fun z => absurd rfl z)
    · rw [List.size_toArray, lv]
      exact small
    · simpa using rv
    · have z2 : (none : Option HO) = some u := z
      cases z2
  | none =>
    refine end_core KX hns hb hbb hlim hgens hobj hr hl F hbind (fun c => if c = a then some (.frz { cls := .type "list", data := .seq vs.toArray } (.lst (ns.map V.int))) else none) (fun c => ?_)
      (Or.inl (Or.inr ⟨{ cls := .type "list", data := .seq vs.toArray }, if_pos rfl⟩)) (fun c u z => ?_) (fun c z => ?_) (fun _ => hk)
    · by_cases hc : c = a
      · exact Or.inr ⟨_, _, if_pos hc⟩
      · exact Or.inl (if_neg hc)
    · dsimp only at z
      by_cases hc : c = a
      · rw [if_pos hc] at z
        cases z
        rw [hc]
        refine ⟨hobj, ?_, vs, _, rv, hobj⟩
        rw [List.length_map]
        exact small
      · rw [if_neg hc] at z
        cases z
    · by_cases hc : c = a
      · exact hc
      · exact absurd (if_neg hc) z
end
/-- the end of a law's row -/
theorem end_of {l : PySem.W.OpenLaw} {k : Nat} {q : Program} {loose : List Str} {XP : (Str → Option Value) → Heap → Prop} {YP : World → Heap → Prop} {d : DefRec} {K : Params → Fg} {x : Str}
    (hm : l.most = some 63) (hdf : d.params.defaults = []) (hr : Room k callerA) (hY : ∀ (w : World) (h : Heap), YP w h → (K w.params).In h)
    (F : ∀ (w : World) (mg : Str → Option Value) (fa : Addr) (h : Heap), (K w.params).In h → h.Ns mainGlobals mg → mg d.name = some (.ref fa) →
      ∃ fd : FuncData, (∀ (s : Shared) (u : Value), BindsTo s fd ⟨[u], []⟩ [(x, u)]) ∧ ∀ base : Heap, (K w.params).In base → base.Ns mainGlobals mg → FnG l.prog w (K w.params) mg base k fa fd [x] (spP (K w.params) φLaw)) :
    PySem.W.WalkO q loose XP YP l.row.toRowW d [] (fun f vs => PySem.call f vs) := by
  refine Att.attach_call hm hdf fun w s0 s1 mg mb fa o pm cd doc a vs ns G Y _ _ _ hmg hobj hints hlen hg => ?_
  have KX := hY w _ Y
  obtain ⟨fd, hb, hF⟩ := F w mg fa _ KX G.T.g hmg
  exact end_call KX G.T.g G.T.b G.T.builtins G.T.nolimit hg hobj hints hr hlen hF hb
end
section
section
variable {X : Cx} {e a b c : Expr} {es : List Expr} {δ : List Sl} {ω : List Cell} {P : PO1} {T : Bool → List Cell → Prop} {pos : Pos}

/-- a + b, whatever the two are -/
def rPlus (K : Fg) : R2 := fun x y H Q => rI0 (fun i j => .int (i + j)) x y H Q ∨ rCatA K x y H Q ∨ rCat x y H Q
theorem op_plus : OpR X (binaryOp .Add) (rPlus X.K) := by
  intro pins s σ H x y v u Q I rx ry h
  rcases h with h | h | h
  · exact op_add pins s σ H x y v u Q I rx ry h
  · exact op_catA pins s σ H x y v u Q I rx ry h
  · exact op_cat pins s σ H x y v u Q I rx ry h
/-- what + makes of two results -/
inductive Plus (P : PO1) (ω : List Cell) : Sl → Sl → Prop
  | int {i j : Int} (h : P (.val (.int (i + j))) ω) : Plus P ω (.val (.int i)) (.val (.int j))
  | tup {ds es : List D} (hz : ds.length + es.length ≤ 1000000) (h : P (.val (.tuple (ds ++ es))) ω) : Plus P ω (.val (.tuple ds)) (.val (.tuple es))
theorem rr_plus {x y : Sl} (h : Plus P ω x y) : RR X (rPlus X.K) x y ω P := by
  cases h with
  | int h => exact fun B F H as v u w s1 s2 Q o => .inl (rr_I0 (X := X) (fun _ _ => .int _) h B F H as v u w s1 s2 Q o)
  | tup hz h => exact fun B F H as v u w s1 s2 Q o => .inr (.inl (rr_cat (X := X) (Nat.le_trans hz (by decide)) h B F H as v u w s1 s2 Q o))
theorem de_plus (h : DE X a δ ω fun x ω1 => DE X b δ ω1 fun y ω2 => Plus P ω2 x y) : DE X (.BinOp a .Add b pos) δ ω P :=
  de_bin op_plus (h.mono fun x ω1 q => q.mono fun y ω2 hp => rr_plus hp)
/-- a * b -/
def rTimes (K : Fg) : R2 := fun x y H Q => rI CMul (fun i j => .int (i * j)) x y H Q ∨ rRepT K x y H Q
theorem op_times : OpR X (binaryOp .Mult) (rTimes X.K) := by
  intro pins s σ H x y v u Q I rx ry h
  rcases h with h | h
  · exact op_mul pins s σ H x y v u Q I rx ry h
  · exact op_repT pins s σ H x y v u Q I rx ry h
def repD (n : Nat) (ds : List D) : List D := (List.replicate n ds).flatten
theorem dp_rep {K : Fg} {B : Hp} {vs : List V} {ds : List D} (h : DpAll K B vs ds) : ∀ n : Nat, DpAll K B (List.replicate n vs).flatten (repD n ds)
  | 0 => .nil
  | n + 1 => by
    unfold repD
    rw [List.replicate_succ, List.replicate_succ, List.flatten_cons, List.flatten_cons]
    exact dpAll_app h (dp_rep h n)
inductive Times (P : PO1) (ω : List Cell) : Sl → Sl → Prop
  | int {i j : Int} (hc : CMul i j) (h : P (.val (.int (i * j))) ω) : Times P ω (.val (.int i)) (.val (.int j))
  | tup {ds : List D} {k : Int} (hne : ds ≠ []) (h2 : 2 ≤ k ∧ k ≤ 1000) (hz : ds.length ≤ 1000) (h : P (.val (.tuple (repD k.toNat ds))) ω) : Times P ω (.val (.tuple ds)) (.val (.int k))
theorem rr_times {x y : Sl} (h : Times P ω x y) : RR X (rTimes X.K) x y ω P := by
  cases h with
  | int hc h => exact fun B F H as v u w s1 s2 Q o => .inl (rr_I (X := X) hc (fun _ _ => .int _) h B F H as v u w s1 s2 Q o)
  | @tup ds k hne h2 hz h =>
    intro B F H as v u w s1 s2 Q o
    obtain ⟨l, xs, rfl, h1, hd⟩ := slv_tup s1 w.b
    refine .inr ⟨l, k, xs, rfl, dp_int_inv (sl_val s2), h1, fun z => hne ?_, h2.1, h2.2, by rw [dpAll_len hd]; exact hz, fun p hp => o.tup w hp (dp_rep hd _) h⟩
    subst z
    cases hd
    rfl
theorem de_times (h : DE X a δ ω fun x ω1 => DE X b δ ω1 fun y ω2 => Times P ω2 x y) : DE X (.BinOp a .Mult b pos) δ ω P :=
  de_bin op_times (h.mono fun x ω1 q => q.mono fun y ω2 hp => rr_times hp)

/-! ### isinstance -/
def tyD : D → String
  | .none => "NoneType"
  | .bool _ => "bool"
  | .int _ => "int"
  | .str _ => "str"
  | .list _ => "list"
  | .tuple _ => "tuple"
  | .dict _ => "dict"
def isiD (T : String) (d : D) : Bool := (kitB (tyD d) T).getD false
theorem ty_of {K : Fg} {H : Hp} {v : V} {d : D} (h : Dp K H v d) : TyX K H v (.type (tyD d)) := by
  cases h with
  | non => exact .base .non
  | bl b => exact .base (.bl b)
  | int i => exact .base (.int i)
  | str x => exact .base (.str x)
  | lst h q =>
    rcases h with (h | ⟨o, h⟩) | ⟨o, its, n, h1, h2, _⟩
    · exact .base (.lst h)
    · exact .base (.frz h)
    · exact .kList h1 h2
  | tup h q =>
    rcases h with (h | ⟨o, h⟩) | ⟨o, its, n, h1, h2, _⟩
    · exact .base (.tup h)
    · exact .fTuple h
    · exact .kTuple h1 h2
def kitAll (T : String) : Bool := ["NoneType", "bool", "int", "str", "list", "tuple"].all fun n => (kitB n T).isSome
theorem kit_some {K : Fg} {H : Hp} {v : V} {T : String} {d : D} (hd : Dp K H v d) (hk : kitAll T = true) : kitB (tyD d) T = some (isiD T d) := by
  have key : ∀ n ∈ ["NoneType", "bool", "int", "str", "list", "tuple"], (kitB n T).isSome = true := List.all_eq_true.mp hk
  have hm : tyD d ∈ ["NoneType", "bool", "int", "str", "list", "tuple"] := by
    cases hd <;> simp [tyD]
  obtain ⟨r, hr⟩ := Option.isSome_iff_exists.mp (key _ hm)
  unfold isiD
  rw [hr]
  rfl
theorem de_isi {x : Str} {T : String} {p p2 : Pos} (hg : Gl X "isinstance") (hm : X.mg "isinstance" = none) (hgT : Gl X x) (hmT : X.mg x = none) (hv : bootBuiltins x = some (.type T)) (hk : kitAll T = true)
    (h : DE X e δ ω fun r ω1 => ∃ d, r = .val d ∧ ((∀ kv, d ≠ .dict kv) → P (.val (.bool (isiD T d))) ω1)) (hn : x ≠ "__name__" := by decide) (hdb : (x == ("__debug__" : Str)) = false := by decide)
    (hs1 : starEach [e, .Name x p2] X.env = (false, eval e X.env) :: starEach [.Name x p2] X.env := by rfl) (hs2 : starEach [.Name x p2] X.env = (false, eval (.Name x p2) X.env) :: starEach [] X.env := by rfl)
    (hpl : (backTo pos (starEach [.Name x p2] X.env)).any (·.1) = false := by rfl) : DE X (.Call (.Name "isinstance" p) [e, .Name x p2] [] pos) δ ω P := fun B F H as σ w ev Q o => by
  refine ⟨_, pe_callB call_isi hg hm boot_isinstance (pa_cons pe_w (pa_cons (pe_bltn (v := .ty T) hgT hmT hv rfl hn hdb) pa_nil hs2) hs1) (by decide) (by decide) hs1 hpl, ?_⟩
  refine h B F H as σ w ev _ fun v B1 H1 as1 r ω1 e1 p1 w1 s1 ⟨d, er, hp⟩ => ?_
  subst er
  have hd := dp_up w1.b (sl_val s1)
  exact ⟨v, .ty T, .type (tyD d), .type T, isiD T d, rfl, by first | exact .ty | exact rfl | constructor, ty_of hd, kit_ty (kit_some hd hk), (o.up e1 p1).here w1 (.bl _) (hp fun kv z => by subst z; cases hd)⟩
theorem kit_int : kitAll "int" = true := by decide +kernel
theorem kit_bool : kitAll "bool" = true := by decide +kernel
theorem kit_tuple : kitAll "tuple" = true := by decide +kernel
theorem kit_str : kitAll "str" = true := by decide +kernel
theorem kit_list : kitAll "list" = true := by decide +kernel
def isInt : D → Bool
  | .int _ => true
  | .bool _ => true
  | _ => false
def isBl : D → Bool
  | .bool _ => true
  | _ => false
def isTup : D → Bool
  | .tuple _ => true
  | _ => false
def isStr : D → Bool
  | .str _ => true
  | _ => false
theorem isi_by {T : String} {d : D} {n : String} {r : Bool} (hn : tyD d = n) (h : kitB n T = some r) : isiD T d = r := by
  unfold isiD
  rw [hn, h]
  rfl
theorem isi_int (d : D) (hd : ∀ kv, d ≠ .dict kv) : isiD "int" d = isInt d := by
  cases d with
  | none  => exact isi_by (r := false) (n := "NoneType") rfl (by decide +kernel)
  | bool b => exact isi_by (r := true) (n := "bool") rfl (by decide +kernel)
  | int i => exact isi_by (r := true) (n := "int") rfl (by decide +kernel)
  | str z => exact isi_by (r := false) (n := "str") rfl (by decide +kernel)
  | list xs => exact isi_by (r := false) (n := "list") rfl (by decide +kernel)
  | tuple xs => exact isi_by (r := false) (n := "tuple") rfl (by decide +kernel)
  | dict kv => exact absurd rfl (hd kv)
theorem isi_bool (d : D) (hd : ∀ kv, d ≠ .dict kv) : isiD "bool" d = isBl d := by
  cases d with
  | none  => exact isi_by (r := false) (n := "NoneType") rfl (by decide +kernel)
  | bool b => exact isi_by (r := true) (n := "bool") rfl (by decide +kernel)
  | int i => exact isi_by (r := false) (n := "int") rfl (by decide +kernel)
  | str z => exact isi_by (r := false) (n := "str") rfl (by decide +kernel)
  | list xs => exact isi_by (r := false) (n := "list") rfl (by decide +kernel)
  | tuple xs => exact isi_by (r := false) (n := "tuple") rfl (by decide +kernel)
  | dict kv => exact absurd rfl (hd kv)
theorem isi_tuple (d : D) (hd : ∀ kv, d ≠ .dict kv) : isiD "tuple" d = isTup d := by
  cases d with
  | none  => exact isi_by (r := false) (n := "NoneType") rfl (by decide +kernel)
  | bool b => exact isi_by (r := false) (n := "bool") rfl (by decide +kernel)
  | int i => exact isi_by (r := false) (n := "int") rfl (by decide +kernel)
  | str z => exact isi_by (r := false) (n := "str") rfl (by decide +kernel)
  | list xs => exact isi_by (r := false) (n := "list") rfl (by decide +kernel)
  | tuple xs => exact isi_by (r := true) (n := "tuple") rfl (by decide +kernel)
  | dict kv => exact absurd rfl (hd kv)
theorem isi_str (d : D) (hd : ∀ kv, d ≠ .dict kv) : isiD "str" d = isStr d := by
  cases d with
  | none  => exact isi_by (r := false) (n := "NoneType") rfl (by decide +kernel)
  | bool b => exact isi_by (r := false) (n := "bool") rfl (by decide +kernel)
  | int i => exact isi_by (r := false) (n := "int") rfl (by decide +kernel)
  | str z => exact isi_by (r := true) (n := "str") rfl (by decide +kernel)
  | list xs => exact isi_by (r := false) (n := "list") rfl (by decide +kernel)
  | tuple xs => exact isi_by (r := false) (n := "tuple") rfl (by decide +kernel)
  | dict kv => exact absurd rfl (hd kv)
end
end
section
section
variable {X : Cx} {e a b c tg iter elt : Expr} {es ifs ts : List Expr} {δ : List Sl} {ω : List Cell} {P : PO1} {T : Bool → List Cell → Prop} {pos : Pos} {k : Kd}

/-- a statement, then the rest, with a word between them -/
theorem ds_cut {st : Stmt} {rest : List Stmt} (M : List Sl → List Cell → Prop) (h : D1 X st δ ω { nx := M, rt := k.rt, bk := k.bk, ct := k.ct }) (hr : ∀ δ' ω', M δ' ω' → DS X rest δ' ω' k) : DS X (st :: rest) δ ω k :=
  ds_cons fun B F H as σ w ev E o => h B F H as σ w ev E ⟨fun σ' H' B' as' δ' ω' e1 p1 w1 ev1 q => o.nx σ' H' B' as' δ' ω' e1 p1 w1 ev1 (hr δ' ω' q), o.bk, o.ct, o.rt⟩
/-! ### and, or of tests that only look -/
theorem de_andB {x y : Bool} (h1 : DE X a δ ω fun r ω1 => r = .val (.bool x) ∧ ω1 = ω) (h2 : x = true → DE X (.BoolOp .And (b :: es) pos) δ ω fun r ω1 => r = .val (.bool y) ∧ ω1 = ω) (hp : P (.val (.bool (x && y))) ω) : DE X (.BoolOp .And (a :: b :: es) pos) δ ω P :=
  de_and (h1.mono fun r ω1 ⟨e1, e2⟩ => by
    subst e2
    refine ⟨x, e1, ?_⟩
    cases x with
    | false => exact iteF hp
    | true => exact iteT ((h2 rfl).mono fun r ω2 ⟨e3, e4⟩ => by subst e3 e4; exact hp))
theorem de_orB {x y : Bool} (h1 : DE X a δ ω fun r ω1 => r = .val (.bool x) ∧ ω1 = ω) (h2 : x = false → DE X (.BoolOp .Or (b :: es) pos) δ ω fun r ω1 => r = .val (.bool y) ∧ ω1 = ω) (hp : P (.val (.bool (x || y))) ω) : DE X (.BoolOp .Or (a :: b :: es) pos) δ ω P :=
  de_or (h1.mono fun r ω1 ⟨e1, e2⟩ => by
    subst e2
    refine ⟨x, e1, ?_⟩
    cases x with
    | true => exact iteT hp
    | false => exact iteF ((h2 rfl).mono fun r ω2 ⟨e3, e4⟩ => by subst e3 e4; exact hp))
theorem dw_andB {x y : Bool} (h1 : DT X a δ ω fun k ω1 => k = x ∧ ω1 = ω) (h2 : x = true → DW X (.BoolOp .And (b :: es) pos) δ ω fun k ω1 => k = y ∧ ω1 = ω) (hp : T (x && y) ω) : DW X (.BoolOp .And (a :: b :: es) pos) δ ω T :=
  dw_and (h1.mono fun k ω1 ⟨e1, e2⟩ => by
    subst e1 e2
    cases k with
    | false => exact iteF hp
    | true => exact iteT (fun B F H as σ w ev Q o => h2 rfl B F H as σ w ev Q fun k B' H' as' ω' q1 q2 q3 ⟨q4, q5⟩ => by subst q4 q5; exact o _ B' H' as' _ q1 q2 q3 hp))
theorem dw_orB {x y : Bool} (h1 : DT X a δ ω fun k ω1 => k = x ∧ ω1 = ω) (h2 : x = false → DW X (.BoolOp .Or (b :: es) pos) δ ω fun k ω1 => k = y ∧ ω1 = ω) (hp : T (x || y) ω) : DW X (.BoolOp .Or (a :: b :: es) pos) δ ω T :=
  dw_or (h1.mono fun k ω1 ⟨e1, e2⟩ => by
    subst e1 e2
    cases k with
    | true => exact iteT hp
    | false => exact iteF (fun B F H as σ w ev Q o => h2 rfl B F H as σ w ev Q fun k B' H' as' ω' q1 q2 q3 ⟨q4, q5⟩ => by subst q4 q5; exact o _ B' H' as' _ q1 q2 q3 hp))
/-! ### several targets -/
inductive GSet : TGs → List Nat → Prop
  | nil : GSet gNil []
  | cons {i t is} : GSet t is → GSet (gCons (gName i) t) (i :: is)
def setV : L2.St → List Nat → List V → L2.St
  | σ, i :: is, v :: vs => setV (σ.set i (some v)) is vs
  | σ, _, _ => σ
def setS : List Sl → List Nat → List Sl → List Sl
  | δ, i :: is, r :: rs => setS (δ.set i r) is rs
  | δ, _, _ => δ
theorem gset_run {t : TGs} {is : List Nat} (g : GSet t is) : ∀ {vs : List V} {σ : L2.St} {H : Hp} {Q : L2.St → Hp → Prop}, vs.length = is.length → Q (setV σ is vs) H → t vs σ H Q := by
  induction g with
  | nil =>
    intro vs σ H Q hl h
    cases vs with
    | nil => exact ⟨rfl, h⟩
    | cons v vs => cases hl
  | cons g ih =>
    intro vs σ H Q hl h
    cases vs with
    | nil => cases hl
    | cons v vs => exact ⟨v, vs, rfl, ih (Nat.succ.inj hl) h⟩
theorem env_setS {K : Fg} {B : Hp} {as : List Addr} : ∀ {is : List Nat} {σ : L2.St} {δ : List Sl} {vs : List V} {rs : List Sl}, EnvOk K B as σ δ → RsOk K B as vs rs → EnvOk K B as (setV σ is vs) (setS δ is rs)
  | [], _, _, _, _, ev, .nil => ev
  | [], _, _, _, _, ev, .cons _ _ => ev
  | _ :: _, _, _, _, _, ev, .nil => ev
  | i :: is, _, _, _, _, ev, .cons h q => env_setS (is := is) (envOk_set h i ev) q
theorem rs_len {K : Fg} {B : Hp} {as : List Addr} : ∀ {vs : List V} {rs : List Sl}, RsOk K B as vs rs → vs.length = rs.length
  | _, _, .nil => rfl
  | _, _, .cons _ q => by rw [List.length_cons, List.length_cons, rs_len q]
theorem rs_of {K : Fg} {B : Hp} {as : List Addr} : ∀ {vs : List V} {ds : List D}, DpAll K B vs ds → RsOk K B as vs (ds.map Sl.val)
  | _, _, .nil => .nil
  | _, _, .cons h q => .cons (slv h) (rs_of q)
/-- names from a tuple -/
theorem d1_unp {is : List Nat} {t : TGs} {kk : Nat} {p : Pos} (hc : X.calm = true) (hg : PGs X ts t) (gs : GSet t is) (h : DE X e δ ω fun r ω1 => ∃ ds, r = .val (.tuple ds) ∧ ds.length = is.length ∧ k.nx (setS δ is (ds.map Sl.val)) ω1)
    (hn : (assignEach ts X.env).length = is.length := by rfl) (hst : (assignEach ts X.env).findIdx? (·.1) = none := by rfl)
    (hs : swapsWithSole [.Tuple ts kk p] e pos.line X.env = pure false := by rfl) (hw : swappedStores [.Tuple ts kk p] e X.env = pure none := by rfl)
    (h1 : (assignEach [.Tuple ts kk p] X.env).map (·.2) = [assign (.Tuple ts kk p) X.env] := by rfl) : D1 X (.Assign [.Tuple ts kk p] e pos) δ ω k := fun B F H as σ w ev E o => by
  refine ⟨_, ps_asg pe_w (pg_tup hc hg hn hst) hs hw h1, ?_⟩
  refine h B F H as σ w ev _ fun v B1 H1 as1 r ω1 e1 p1 w1 s1 ⟨ds, er, hl, hp⟩ => ?_
  subst er
  obtain ⟨a, xs, rfl, g1, g2⟩ := slv_tup s1 w1.b
  have hlx : xs.length = is.length := by rw [dpAll_len g2, hl]
  exact ⟨a, xs, rfl, g1, hlx, gset_run gs hlx ((o.nx.up e1 p1).here w1 (env_setS (envOk_up e1 p1 ev) (rs_of g2)) hp)⟩
/-- names from a written tuple (some of them cells of the def) -/
theorem d1_tupA {is : List Nat} {t : TGs} {kk k2 : Nat} {p p2 : Pos} (hc : X.calm = true) (hg : PGs X ts t) (gs : GSet t is) (h : DA X es δ ω fun rs ω1 => rs.length = is.length ∧ rs.length ≤ 1000 ∧ k.nx (setS δ is rs) ω1)
    (hn : (assignEach ts X.env).length = is.length := by rfl) (hst : (assignEach ts X.env).findIdx? (·.1) = none := by rfl)
    (hs : swapsWithSole [.Tuple ts kk p] (.Tuple es k2 p2) pos.line X.env = pure false := by rfl) (hw : swappedStores [.Tuple ts kk p] (.Tuple es k2 p2) X.env = pure none := by rfl)
    (h1 : (assignEach [.Tuple ts kk p] X.env).map (·.2) = [assign (.Tuple ts kk p) X.env] := by rfl) : D1 X (.Assign [.Tuple ts kk p] (.Tuple es k2 p2) pos) δ ω k := fun B F H as σ w ev E o => by
  refine ⟨_, ps_asg (pe_tup pa_w) (pg_tup hc hg hn hst) hs hw h1, ?_⟩
  refine h B F H as σ w ev _ fun vs B1 H1 as1 rs ω1 e1 p1 w1 s1 ⟨hl, hz, hp⟩ => ?_
  have hlv : vs.length = is.length := by rw [rs_len s1, hl]
  refine ⟨by rw [rs_len s1]; exact Nat.le_trans hz (by decide), fun q hq => ?_⟩
  obtain ⟨w2, sb⟩ := w1.new (o := .tup vs) hq
  refine ⟨q, vs, rfl, SqT.of upd_same, hlv, gset_run gs hlv ?_⟩
  exact (o.nx.up (e1.trans sb) p1).here w2 (env_setS (envOk_up (e1.trans sb) p1 ev) (rsOk_up sb (List.prefix_refl _) s1)) hp
theorem d1_par3 {i j l : Nat} {x y z : Str} {d : Expr} {px py pz pt : Pos} {kt k2 pt2} (hc : X.calm = true) (hN : X.N.Nodup) (hi : X.N[i]? = some x) (hj : X.N[j]? = some y) (hl : X.N[l]? = some z) (hij : i ≠ j) (hil : i ≠ l) (hjl : j ≠ l)
    (hx : X.env.scope.names.lookup x = some .local) (hy : X.env.scope.names.lookup y = some .local) (hz : X.env.scope.names.lookup z = some .local)
    (hw : swappedStores [.Tuple [.Name x px, .Name y py, .Name z pz] kt pt] (.Tuple [a, b, d] k2 pt2) X.env = pure (some [x, y, z]))
    (h : DA X [a, b, d] δ ω fun rs ω1 => ∃ r s t, rs = [r, s, t] ∧ k.nx (((δ.set i r).set j s).set l t) ω1)
    (hs : swapsWithSole [.Tuple [.Name x px, .Name y py, .Name z pz] kt pt] (.Tuple [a, b, d] k2 pt2) pos.line X.env = pure false := by rfl) : D1 X (.Assign [.Tuple [.Name x px, .Name y py, .Name z pz] kt pt] (.Tuple [a, b, d] k2 pt2) pos) δ ω k := fun B F H as σ w ev E o =>
  ⟨_, ps_par3 hc hN hi hj hl hij hil hjl hx hy hz pa_w hw hs, h B F H as σ w ev _ fun vs B1 H1 as1 rs ω1 e1 p1 w1 s1 ⟨r, s, t, er, hp⟩ => by
    subst er
    obtain ⟨v, us, rfl, h1, s2⟩ := rs_head s1
    obtain ⟨u, z, rfl, h2, h3⟩ := rs2 s2
    exact ⟨v, u, z, rfl, (o.nx.up e1 p1).here w1 (envOk_set h3 l (envOk_set h2 j (envOk_set h1 i (envOk_up e1 p1 ev)))) hp⟩⟩

/-! ### comprehensions whose element does nothing but give a datum -/
variable {scope : Scope} {vs : List Nat} {its : List D}
theorem dts_nil {Y : Cx} (h : T true ω) : DTs Y [] δ ω T := h
theorem lc_map (f : D → D) (h : ∀ (i : Nat) (d : D), its[i]? = some d → Blk X scope fun Y => DG Y vs tg d (wipeD δ vs) fun δ2 => Blk X scope fun Y => DE Y elt δ2 ω fun r ω3 => r = .val (f d) ∧ ω3 = ω) :
    LcTurn X scope vs tg [] elt δ its fun i acc ω' => ω' = ω ∧ acc = (its.take i).map f := by
  intro i d acc ω' hd ⟨e1, e2⟩ s H C cl fp
  subst e1 e2
  intro B H2 as σ v sb ev hv Q o
  refine h i d hd s H C cl fp B H2 as σ v sb ev hv Q fun σ' δ' ev' hl ha hk => o σ' δ' ev' hl ha ?_
  intro s H C cl fp
  refine dts_nil ?_
  dsimp only
  rw [if_pos rfl]
  intro s H C cl fp
  refine (hk s H C cl fp).mono fun r ω3 ⟨er, ew⟩ => ⟨_, er, ew, ?_⟩
  rw [List.take_add_one, hd, List.map_append]
  rfl
theorem lc_filt (g : D → Bool) (f : D → D) (h : ∀ (i : Nat) (d : D), its[i]? = some d → Blk X scope fun Y => DG Y vs tg d (wipeD δ vs) fun δ2 => (Blk X scope fun Y => DT Y c δ2 ω fun b ω2 => b = g d ∧ ω2 = ω) ∧ (g d = true → Blk X scope fun Y => DE Y elt δ2 ω fun r ω3 => r = .val (f d) ∧ ω3 = ω)) :
    LcTurn X scope vs tg [c] elt δ its fun i acc ω' => ω' = ω ∧ acc = ((its.take i).filter g).map f := by
  intro i d acc ω' hd ⟨e1, e2⟩ s H C cl fp
  subst e1 e2
  intro B H2 as σ v sb ev hv Q o
  refine h i d hd s H C cl fp B H2 as σ v sb ev hv Q fun σ' δ' ev' hl ha hk => o σ' δ' ev' hl ha ?_
  intro s H C cl fp
  refine (hk.1 s H C cl fp).mono fun b ω2 ⟨eb, ew⟩ => ?_
  subst eb ew
  by_cases hg : g d = true
  · rw [if_pos hg]
    intro s H C cl fp
    refine (hk.2 hg s H C cl fp).mono fun r ω3 ⟨er, ew⟩ => ⟨_, er, ew, ?_⟩
    rw [List.take_add_one, hd, List.filter_append, List.map_append]
    show _ = _ ++ (List.filter g [d]).map f
    rw [List.filter_cons, if_pos hg]
    rfl
  · rw [if_neg hg]
    refine ⟨rfl, ?_⟩
    rw [List.take_add_one, hd, List.filter_append, List.map_append]
    show _ = _ ++ (List.filter g [d]).map f
    rw [List.filter_cons, if_neg hg]
    simp
theorem lc_end {P : PO1} {f : D → D} (hp : P (.val (.list (its.map f))) ω) : ∀ acc ω', acc.length ≤ its.length → (ω' = ω ∧ acc = (its.take its.length).map f) → P (.val (.list acc)) ω' ∨ P (.own ω'.length) (ω' ++ [.lst acc]) := fun acc ω' _ ⟨e1, e2⟩ => by
  subst e1 e2
  rw [List.take_length]
  exact .inl hp
theorem lc_endF {P : PO1} {g : D → Bool} {f : D → D} (hp : P (.val (.list ((its.filter g).map f))) ω) : ∀ acc ω', acc.length ≤ its.length → (ω' = ω ∧ acc = ((its.take its.length).filter g).map f) → P (.val (.list acc)) ω' ∨ P (.own ω'.length) (ω' ++ [.lst acc]) := fun acc ω' _ ⟨e1, e2⟩ => by
  subst e1 e2
  rw [List.take_length]
  exact .inl hp
theorem lc_endFO {P : PO1} {g : D → Bool} {f : D → D} (hp : P (.own ω.length) (ω ++ [.lst ((its.filter g).map f)])) : ∀ acc ω', acc.length ≤ its.length → (ω' = ω ∧ acc = ((its.take its.length).filter g).map f) → P (.val (.list acc)) ω' ∨ P (.own ω'.length) (ω' ++ [.lst acc]) := fun acc ω' _ ⟨e1, e2⟩ => by
  subst e1 e2
  rw [List.take_length]
  exact .inr hp
/-- the sum of two owned lists -/
theorem rr_catO {kx ky : Nat} {ds es : List D} (h1 : ω[kx]? = some (.lst ds)) (h2 : ω[ky]? = some (.lst es)) (hz : ds.length + es.length ≤ 1000000) (hp : P (.val (.list (ds ++ es))) ω) : RR X (rPlus X.K) (.own kx) (.own ky) ω P := fun B F H as v u w s1 s2 Q o => by
  obtain ⟨a, xs, rfl, _, g1, g2⟩ := slo_lst w s1 h1
  obtain ⟨b, ys, rfl, _, g3, g4⟩ := slo_lst w s2 h2
  exact .inr (.inr ⟨a, b, xs, ys, rfl, rfl, g1, g3, by rw [dpAll_len g2, dpAll_len g4]; exact Nat.le_trans hz (by decide), fun p hp' => o.lst w hp' (dpAll_app g2 g4) hp⟩)
end
end
section
/-! ### enumerate over what begins -/
def enRec (i : Addr) : Obj := { cls := .type "enumerate", data := .fields #[.none, .bool false, .ref i, rawInt 0, .none, .none] }
theorem en_meets {v : Value} {o : Obj} {Hq : Heap → Prop} (B : Begins v o Hq) :
    Meets (Builtin.«enumerate.__new__» ⟨[.type "enumerate", v], []⟩) (fun _ R s => Hq s.heap ∧ R (.ok (.ret (.ref (s.heap.push o).objs.size))) { s with heap := (s.heap.push o).push (enRec s.heap.objs.size) }) :=
  .of_wp fun P9 w9 A9 R9 s9 h9 => by
    obtain ⟨hp, g9, d9, t9, o9⟩ := s9
    obtain ⟨hb, h9⟩ := h9
    have hs := sub_enumerate
    have qi : ∀ {A' : Around} {E' : Value → Shared → Prop} {Q' : Value → Shared → Prop}, Q' (.ref hp.objs.size) ⟨hp.push o, g9, d9, t9, o9⟩ → wpAny (model P9 w9) A' (pyIter v) Q' E' ⟨hp, g9, d9, t9, o9⟩ := fun q => B.iter P9 w9 _ _ ⟨hp, g9, d9, t9, o9⟩ _ hb q
    wp_walk using qi
    refine wpAny_stack_any fun u9 => wpAny_pure ?_
    split
    next c9 _ _ _ _ _ =>
      cases (c9 == Value.type "enumerate") <;> (wp_walk using qi; exact ⟨_, rfl, h9⟩)
    next =>
      wp_walk using qi
      exact ⟨_, rfl, h9⟩
section
variable {P : Program} {w : World} {A : Around} {E : Value → Shared → Prop} {s : Shared}
theorem en_call {v : Value} {o : Obj} {Hq : Heap → Prop} {Q : Value → Shared → Prop} (B : Begins v o Hq) (hb : Hq s.heap)
    (h : ∀ h', IsEnum h' (s.heap.objs.size + 1) s.heap.objs.size 0 .none → h'.get? s.heap.objs.size = some o → (∀ b x, s.heap.get? b = some x → h'.get? b = some x) → Q (.ref (s.heap.objs.size + 1)) { s with heap := h' }) :
    wpAny (model P w) A (call (.type "enumerate") [v]) Q E s := by
  refine callType_new F.called_enumerate (by decide) (F.typeCall_enumerate_1 v) (F.newCall_enumerate_1 v) (fun u => F.args_object_init_2 u v) F.entry_enumerate_new (en_meets B) ⟨hb, ?_⟩
  have z1 : (s.heap.push o).objs.size = s.heap.objs.size + 1 := Heap.size_push ..
  have z2 := Heap.get?_push_size (s.heap.push o) (o := enRec s.heap.objs.size) rfl
  show _ ∧ _
  rw [z1] at z2 ⊢
  exact ⟨⟨_, z2, rfl⟩, h _ z2 (Heap.get?_push_of_some _ (Heap.get?_push_size _ B.free)) fun b x q => Heap.get?_push_of_some _ (Heap.get?_push_of_some _ q)⟩
end
/-- the tuple at a as it stands, each item in a new pair -/
def ItU (K : PySem.W.Frag) (a : Addr) : It :=
  ⟨fun i H => ∃ (xs : List V) (x : V), SqT K H a xs ∧ xs[i]? = some x,
   fun i H v H' => ∃ (p : Addr) (x : V), v = .ref p ∧ H p = none ∧ H' = upd H p (.tup [.int (i : Nat), x]) ∧ ∀ xs, SqT K H a xs → xs[i]? = some x,
   fun i H => ∃ xs : List V, SqT K H a xs ∧ xs.length = i⟩
theorem turn_enU {P : Program} {w : World} {K : PySem.W.Frag} {es : List Expr} {kk : Nat} {tp : Pos} (a e it : Addr) (hea : e ≠ it) (hai : a ≠ it) (hee : e ≠ a) :
    Turn P w K (.Tuple es kk tp) (ItU K a) [e, it] e (fun i h => (∃ old, IsEnum h e it ((i : Nat) : Int) old) ∧ h.IsTupleIter it a i) := by
  have two : ∀ {b : Addr}, b ∈ [e, it] → b = e ∨ b = it := fun h => by simpa using h
  refine ⟨by simp, fun i h st b hb => ?_, fun i h h' st k => ?_, ?_, ?_, fun A i s Q E st h => ?_⟩
  · obtain ⟨⟨old, he⟩, ⟨o, ho, hc, hd⟩⟩ := st
    rcases two hb with z | z
    · subst z
      exact ⟨_, he, fun v q => by cases q⟩
    · subst z
      exact ⟨o, ho, fun v q => by
        rw [hd] at q
        cases q⟩
  · obtain ⟨⟨old, he⟩, hi⟩ := st
    exact ⟨⟨old, k e (by simp) _ he⟩, hi.at fun o q => k it (by simp) o q⟩
  · intro X hP hw hK hc i pins s σ H E I hf st hg
    subst hP hw hK
    obtain ⟨⟨old, he⟩, hit⟩ := st
    obtain ⟨xs, x, hq, hx⟩ := hg
    obtain ⟨its, rv, p, hz⟩ := I.tuple hq
    obtain ⟨u, hu, ru⟩ := rv.get hx
    have hel : e < s.heap.objs.size := Heap.lt_size he
    have hil : it < s.heap.objs.size := by
      obtain ⟨_, q, _⟩ := hit
      exact Heap.lt_size q
    have hlt : i < its.toArray.size := by
      rw [List.size_toArray]
      exact (List.getElem?_eq_some_iff.mp hu).1
    have D := PySem.Draws.tuple (prog := X.prog) (w := X.w) (A := X.A.in1) (I.ok.hd hc) it a hai its.toArray
    refine wpAny_pyNext_enum_itemD D he ⟨hit, p⟩ hlt hea (by simp [hea, hee]) fun y h' tk hy ho hst hT hsz hk => ?_
    have ey : y = u := by
      rw [List.getElem?_toArray, hu] at hy
      exact (Option.some.inj hy).symm
    subst ey
    refine ⟨_, rfl, wpAny_letOwnedTupleGo_enum (s := { s with heap := h', toks := tk + 1 }) ho fun h2 he2 sb => ?_⟩
    have hT2 := (sb.2 _ (Nat.ne_of_gt hel)).trans hT
    have new : ObjOk X.prog X.w (upd H s.heap.objs.size (.tup [.int (i : Nat), x])) h2 s.heap.objs.size (.tup [.int (i : Nat), x]) :=
      ⟨by show 2 ≤ sizeLine; decide, [.int i tk, y], .cons ⟨_, rfl⟩ (.cons ru .nil), ⟨_, hT2, rfl, _, rfl⟩⟩
    have I1 : Inv X pins σ (upd H s.heap.objs.size (.tup [.int (i : Nat), x])) { s with heap := h2, toks := tk + 1 } :=
      I.turnedNew (ch := [e, it]) (fun b ob hb q => (sb.2 b fun z => hb (by rw [z]; simp)).trans (hk b ob (fun z => hb (by rw [z]; simp)) (fun z => hb (by rw [z]; simp)) q)) hf (Nat.le_refl _) new
    refine ⟨.ref s.heap.objs.size, _, I1, rfl, ⟨_, x, rfl, I.hok.fresh (Nat.le_refl _), rfl, fun ys hy => by rw [I.tuple_inj hy hq]; exact hx⟩, ⟨⟨y, ?_⟩, hst.1.at fun o q => (sb.2 it (Ne.symm hea)).trans q⟩, fun b hb => ?_⟩
    · have e1 : ((i + 1 : Nat) : Int) = (i : Int) + 1 := by omega
      rw [e1]
      exact he2
    · have hb' : b < s.heap.objs.size := by rcases two hb with z | z <;> (rw [z]; assumption)
      rw [upd_ne (Nat.ne_of_lt hb')]
      exact (hf b hb).1
  · intro X hP hw hK hc i pins s σ H E I hf st hg
    subst hP hw hK
    obtain ⟨⟨old, he⟩, hit⟩ := st
    obtain ⟨xs, hq, hx⟩ := hg
    obtain ⟨its, rv, p, hz⟩ := I.tuple hq
    obtain ⟨f0, f1, f2, f3, f4, f5⟩ := hf it (by simp)
    have hl : i = its.toArray.size := by
      rw [List.size_toArray, ← rv.length]
      exact hx.symm
    subst hl
    have D := PySem.Draws.tuple (prog := X.prog) (w := X.w) (A := X.A.in1) (I.ok.hd hc) it a hai its.toArray
    exact wpAny_pyNext_enum_endD D he ⟨hit, p⟩ fun h' eb => ⟨rfl, I.turned (t' := s.toks) (fun b o hb q => eb b o hb q) f0 f1 f3 f4 f5⟩
  · obtain ⟨⟨old, he⟩, _⟩ := st
    exact wpAny_pyIter_enum he h
def iEnU (K : PySem.W.Frag) (ta : TA) : TI := fun σ H R => ta σ H fun vs H1 => ∃ a xs, vs = [.ref a] ∧ SqT K H1 a xs ∧ R (ItU K a) H1
theorem pi_enU {X : Cx} {e : Expr} {ta : TA} {p pos tp : Pos} {es : List Expr} {kk : Nat} (hg : Gl X "enumerate") (hm : X.mg "enumerate" = none) (ha : PA X [e] ta) (hs : starEach [e] X.env = [(false, eval e X.env)] := by rfl) :
    PI X (.Tuple es kk tp) (.Call (.Name "enumerate" p) [e] [] pos) (iEnU X.K ta) := by
  refine ⟨fun pins s σ H R I h => ?_⟩
  refine Call_ (ld_blt I hg hm boot_enumerate (PyProof.Rows.callWith_type1 (thn (ha.run pos pins s σ H _ I h) fun us s1 ⟨vs, H1, I1, r1, a, xs, ex, hq, q⟩ => ?_) hs rfl))
  subst ex
  cases r1 with
  | cons r rr =>
    cases rr
    cases r
    obtain ⟨its, rv, p', hz⟩ := I1.tuple hq
    have hal : a < s1.heap.objs.size := by
      obtain ⟨_, z, _⟩ := id p'
      exact Heap.lt_size z
    refine en_call (PySem.begins_tuple a its.toArray) p' fun h' he hit hk => wpAny_pyIter_enum he ?_
    refine ⟨s1.heap.objs.size + 1, [s1.heap.objs.size + 1, s1.heap.objs.size], _, _, H1, rfl, I1.kept (t' := s1.toks) hk, turn_enU a (s1.heap.objs.size + 1) s1.heap.objs.size (Nat.succ_ne_self _) (Nat.ne_of_lt hal) (Nat.ne_of_gt (Nat.lt_succ_of_lt hal)), ⟨⟨.none, he⟩, ⟨_, hit, rfl, rfl⟩⟩, fun b hb => ?_, q⟩
    have hle : s1.heap.objs.size ≤ b := by
      have z : b = s1.heap.objs.size + 1 ∨ b = s1.heap.objs.size := by simpa using hb
      rcases z with z | z
      · rw [z]
        exact Nat.le_succ _
      · rw [z]
        exact Nat.le_refl _
    exact I1.fpOk hle (I1.hok.fresh hle)
def enD (ds : List D) : List D := ds.zipIdx.map fun p => .tuple [.int (p.2 : Nat), p.1]
theorem enD_len (ds : List D) : (enD ds).length = ds.length := by
  unfold enD
  rw [List.length_map, List.length_zipIdx]
theorem enD_at {ds : List D} {i : Nat} {d : D} (h : (enD ds)[i]? = some d) : ∃ f, ds[i]? = some f ∧ d = .tuple [.int (i : Nat), f] := by
  unfold enD at h
  rw [List.getElem?_map, List.getElem?_zipIdx] at h
  cases q : ds[i]? with
  | none =>
    rw [q] at h
    cases h
  | some f =>
    rw [q] at h
    have z := Option.some.inj h
    refine ⟨f, rfl, ?_⟩
    rw [← z]
    show PyData.tuple [.int ((0 + i : Nat) : Int), f] = _
    rw [Nat.zero_add]
/-- for i, x in enumerate(e), e a tuple -/
theorem di_enU {X : Cx} {e : Expr} {δ : List Sl} {ω : List Cell} {p pos tp : Pos} {es : List Expr} {kk : Nat} {P : List D → List Cell → Prop} (hg : Gl X "enumerate") (hm : X.mg "enumerate" = none) (h : DE X e δ ω fun r ω1 => ∃ ds, r = .val (.tuple ds) ∧ P (enD ds) ω1)
    (hs : starEach [e] X.env = (false, eval e X.env) :: starEach [] X.env := by rfl) (hs2 : starEach [e] X.env = [(false, eval e X.env)] := by rfl) : DI X (.Tuple es kk tp) (.Call (.Name "enumerate" p) [e] [] pos) δ ω P := fun B F H as σ w ev R o => by
  refine ⟨_, pi_enU hg hm (pa_cons pe_w pa_nil hs) hs2, ?_⟩
  refine h B F H as σ w ev _ fun v B1 H1 as1 r ω1 e1 p1 w1 s1 ⟨ds, er, hp⟩ => ?_
  subst er
  obtain ⟨a, xs, rfl, h1, h2⟩ := dp_tup_inv (sl_val s1)
  refine ⟨a, xs, rfl, sqT_up w1.b h1, o _ (enD ds) B1 H1 as1 ω1 e1 p1 w1 (fun B' F H as ω sb w' => ⟨fun i d hd => ?_, ⟨xs, sqT_up (sb.trans w'.b) h1, ?_⟩⟩) hp⟩
  · obtain ⟨f, hf, rfl⟩ := enD_at hd
    obtain ⟨x, e2, d2⟩ := dpAll_at h2 hf
    refine ⟨⟨xs, x, sqT_up (sb.trans w'.b) h1, e2⟩, fun y H' q => ?_⟩
    obtain ⟨T, x', rfl, nT, rfl, q⟩ := q
    have := q xs (sqT_up (sb.trans w'.b) h1)
    rw [e2] at this
    cases this
    obtain ⟨w2, sb2⟩ := w'.new (o := .tup [.int (i : Nat), x]) nT
    exact ⟨_, sb2, w2, .tup (.inl (.inl upd_same)) (.cons (.int _) (.cons (dp_up sb2 (dp_up sb d2)) .nil))⟩
  · rw [enD_len, dpAll_len h2]
end
section
/-! ### dicts of data, owned -/
def getK (kvs : List (Key × D)) (k : Key) : Option D := (kvs.find? fun p => decide (p.1 = k)).map (·.2)
def setK (kvs : List (Key × D)) (k : Key) (d : D) : List (Key × D) :=
  if (kvs.any fun p => decide (p.1 = k)) = true then kvs.map (fun p => if p.1 = k then (p.1, d) else p) else kvs ++ [(k, d)]
theorem dp_key {K : Fg} {B : Hp} {v : V} {k : Key} (h : Dp K B v (keyD k)) : v = kV k := by
  cases k with
  | inl i => exact dp_int_inv h
  | inr x => exact dp_str_inv h
theorem kv_get {K : Fg} {B : Hp} (k : Key) : ∀ {a : List (Key × V)} {b : List (Key × D)}, KvOk K B a b → (∀ d, getK b k = some d → ∃ v, valV a k = some v ∧ Dp K B v d) ∧ (valV a k).isSome = (getK b k).isSome
  | _, _, .nil => ⟨nofun, rfl⟩
  | p :: r, q :: s, .cons h t => by
    obtain ⟨h1, h2⟩ := kv_get k t
    unfold getK valV at *
    rw [List.find?_cons, List.find?_cons, h.1]
    by_cases e : q.1 = k
    · rw [decide_eq_true e]
      refine ⟨fun d hd => ?_, rfl⟩
      cases hd
      exact ⟨p.2, rfl, h.2⟩
    · rw [decide_eq_false e]
      exact ⟨h1, h2⟩
theorem kv_any {K : Fg} {B : Hp} (k : Key) : ∀ {a : List (Key × V)} {b : List (Key × D)}, KvOk K B a b → (a.any fun p => decide (p.1 = k)) = (b.any fun p => decide (p.1 = k))
  | _, _, .nil => rfl
  | p :: r, q :: s, .cons h t => by
    rw [List.any_cons, List.any_cons, h.1, kv_any k t]
theorem kv_map {K : Fg} {B : Hp} {k : Key} {v : V} {d : D} (hv : Dp K B v d) : ∀ {a : List (Key × V)} {b : List (Key × D)}, KvOk K B a b → KvOk K B (a.map fun p => if p.1 = k then (p.1, v) else p) (b.map fun p => if p.1 = k then (p.1, d) else p)
  | _, _, .nil => .nil
  | p :: r, q :: s, .cons h t => by
    refine .cons ?_ (kv_map hv t)
    dsimp only
    by_cases e : q.1 = k
    · rw [if_pos (h.1.trans e), if_pos e]
      exact ⟨h.1, hv⟩
    · rw [if_neg fun z => e (h.1.symm.trans z), if_neg e]
      exact h
theorem kv_snoc {K : Fg} {B : Hp} {k : Key} {v : V} {d : D} (hv : Dp K B v d) : ∀ {a : List (Key × V)} {b : List (Key × D)}, KvOk K B a b → KvOk K B (a ++ [(k, v)]) (b ++ [(k, d)])
  | _, _, .nil => .cons ⟨rfl, hv⟩ .nil
  | p :: r, q :: s, .cons h t => .cons h (kv_snoc hv t)
theorem kv_set {K : Fg} {B : Hp} {k : Key} {v : V} {d : D} (hv : Dp K B v d) {a : List (Key × V)} {b : List (Key × D)} (h : KvOk K B a b) : KvOk K B (putK a k v) (setK b k d) := by
  unfold putK setK
  rw [kv_any k h]
  split
  · exact kv_map hv h
  · exact kv_snoc hv h
theorem cell_dct {K : Fg} {B H : Hp} {a : Addr} {kv : List (Key × V)} {kvs : List (Key × D)} (hb : B a = none) (hh : H a = some (.dK kv)) (hk : KvOk K B kv kvs) : CellOk K B H a (.dct kvs) := ⟨hb, kv, hh, hk⟩
theorem slo_dct {K : Fg} {B F H : Hp} {as : List Addr} {ω : List Cell} {v : V} {k : Nat} {kvs : List (Key × D)} (w : Wd K B F H as ω) (s : SlOk K B as (some v) (.own k)) (hc : ω[k]? = some (.dct kvs)) : ∃ a xs, v = .ref a ∧ as[k]? = some a ∧ B a = none ∧ H a = some (.dK xs) ∧ KvOk K B xs kvs := by
  obtain ⟨a, h1, h2⟩ := sl_own s
  obtain ⟨h0, xs, h3, h4⟩ := w.cellD h2 hc
  exact ⟨a, xs, h1, h2, h0, h3, h4⟩
section
variable {X : Cx} {e a b c o i value : Expr} {es : List Expr} {δ : List Sl} {ω : List Cell} {P : Sl → List Cell → Prop} {T : Bool → List Cell → Prop} {pos pos' : Pos} {k : Kd}
/-- d[y] -/
theorem de_dget (hu : X.A.units + 1 < cLine) (hs : NoSl i) (h : DE X o δ ω fun r1 ω1 => DE X i δ ω1 fun r2 ω2 => ∃ kx kvs key d, r1 = .own kx ∧ ω2[kx]? = some (.dct kvs) ∧ r2 = .val (keyD key) ∧ getK kvs key = some d ∧ P (.val d) ω2) : DE X (.Subscript o i pos) δ ω P := fun B F H as σ w ev Q o => by
  refine ⟨_, pe_dget hu pe_w pe_w hs, ?_⟩
  refine h B F H as σ w ev _ fun v B1 H1 as1 r ω1 e1 p1 w1 s1 q1 => ?_
  refine q1 B1 F H1 as1 σ w1 (envOk_up e1 p1 ev) _ fun u B2 H2 as2 r2 ω2 e2 p2 w2 s2 ⟨kx, kvs, key, d, er, hk, er2, hd, hp⟩ => ?_
  subst er er2
  obtain ⟨a, xs, rfl, ha, hb, hh, hkv⟩ := slo_dct w2 (slOk_up e2 p2 s1) hk
  obtain ⟨y, hy, hdy⟩ := (kv_get key hkv).1 d hd
  have ey := dp_key (sl_val s2)
  subst ey
  have g := DGet.k (k := key) hh
  rw [hy] at g
  refine ⟨a, y, rfl, g, ?_⟩
  exact o y B2 H2 as2 _ ω2 (e1.trans e2) (p1.trans p2) w2 (slv hdy) hp
theorem dt_din (hu : X.A.units + 1 < cLine) (h : DE X i δ ω fun r1 ω1 => DE X o δ ω1 fun r2 ω2 => ∃ kx kvs key, r2 = .own kx ∧ ω2[kx]? = some (.dct kvs) ∧ r1 = .val (keyD key) ∧ T (getK kvs key).isSome ω2) (h1 : behindInMarks .In o = false := by first | exact nobehind _ (by decide) (by decide) | rfl) : DT X (.Compare i [.In] [o] pos) δ ω T := fun B F H as σ w ev Q oo => by
  refine ⟨_, pt_cmp (pc_din hu pe_w pe_w) h1, ?_⟩
  refine h B F H as σ w ev _ fun v B1 H1 as1 r ω1 e1 p1 w1 s1 q1 => ?_
  refine q1 B1 F H1 as1 σ w1 (envOk_up e1 p1 ev) _ fun u B2 H2 as2 r2 ω2 e2 p2 w2 s2 ⟨kx, kvs, key, er, hk, er2, hp⟩ => ?_
  subst er er2
  obtain ⟨a, xs, rfl, ha, hb, hh, hkv⟩ := slo_dct w2 s2 hk
  have ey := dp_key (sl_val (slOk_up e2 p2 s1))
  subst ey
  refine ⟨a, valV xs key, rfl, .k hh, _, rfl, ?_⟩
  rw [(kv_get key hkv).2]
  exact oo _ B2 H2 as2 ω2 (e1.trans e2) (p1.trans p2) w2 hp
theorem dt_dnotin (hu : X.A.units + 1 < cLine) (h : DE X i δ ω fun r1 ω1 => DE X o δ ω1 fun r2 ω2 => ∃ kx kvs key, r2 = .own kx ∧ ω2[kx]? = some (.dct kvs) ∧ r1 = .val (keyD key) ∧ T (!(getK kvs key).isSome) ω2) (h1 : behindInMarks .NotIn o = false := by first | exact nobehind _ (by decide) (by decide) | rfl) : DT X (.Compare i [.NotIn] [o] pos) δ ω T := fun B F H as σ w ev Q oo => by
  refine ⟨_, pt_cmp (pc_dnotin hu pe_w pe_w) h1, ?_⟩
  refine h B F H as σ w ev _ fun v B1 H1 as1 r ω1 e1 p1 w1 s1 q1 => ?_
  refine q1 B1 F H1 as1 σ w1 (envOk_up e1 p1 ev) _ fun u B2 H2 as2 r2 ω2 e2 p2 w2 s2 ⟨kx, kvs, key, er, hk, er2, hp⟩ => ?_
  subst er er2
  obtain ⟨a, xs, rfl, ha, hb, hh, hkv⟩ := slo_dct w2 s2 hk
  have ey := dp_key (sl_val (slOk_up e2 p2 s1))
  subst ey
  refine ⟨a, valV xs key, rfl, .k hh, _, rfl, ?_⟩
  rw [(kv_get key hkv).2]
  exact oo _ B2 H2 as2 ω2 (e1.trans e2) (p1.trans p2) w2 hp
/-- d[y] = v -/
theorem d1_dput (hu : X.A.units + 1 < cLine) (h : DE X value δ ω fun rv ω1 => DE X o δ ω1 fun r1 ω2 => DE X i δ ω2 fun r2 ω3 => ∃ kx kvs key d, rv = .val d ∧ r1 = .own kx ∧ ω3[kx]? = some (.dct kvs) ∧ r2 = .val (keyD key) ∧ kvs.length < 100000 ∧ k.nx δ (ω3.set kx (.dct (setK kvs key d))))
    (hs : swapsWith value (some (.Subscript o i pos')) pos.line X.env = pure false := by rfl) : D1 X (.Assign [.Subscript o i pos'] value pos) δ ω k := fun B F H as σ w ev E oo => by
  refine ⟨_, ps_dput hu pe_w pe_w pe_w hs, ?_⟩
  refine h B F H as σ w ev _ fun v B1 H1 as1 r ω1 e1 p1 w1 s1 q1 => ?_
  refine q1 B1 F H1 as1 σ w1 (envOk_up e1 p1 ev) _ fun u B2 H2 as2 r2 ω2 e2 p2 w2 s2 q2 => ?_
  refine q2 B2 F H2 as2 σ w2 (envOk_up (e1.trans e2) (p1.trans p2) ev) _ fun y B3 H3 as3 r3 ω3 e3 p3 w3 s3 ⟨kx, kvs, key, d, er, er1, hk, er2, hz, hp⟩ => ?_
  subst er er1 er2
  obtain ⟨a, xs, rfl, ha, hb, hh, hkv⟩ := slo_dct w3 (slOk_up e3 p3 s2) hk
  have hd := dp_up (e2.trans e3) (sl_val s1)
  have hset := kv_set (k := key) hd hkv
  have hl : xs.length = kvs.length := Paired.length hkv
  refine ⟨a, upd H3 a (.dK (putK xs key v)), rfl, .inl ⟨xs, key, hh, dp_key (sl_val s3), by rw [hl, sizeLine_eq]; omega, rfl⟩, ?_⟩
  exact (oo.nx.up ((e1.trans e2).trans e3) ((p1.trans p2).trans p3)).here (w3.write ha hk hb (cell_dct hb upd_same hset)) (envOk_up ((e1.trans e2).trans e3) ((p1.trans p2).trans p3) ev) hp
/-- {x: y} -/
theorem de_dic1 (h : DE X a δ (ω ++ [.dct []]) fun r1 ω1 => DE X b δ ω1 fun r2 ω2 => ∃ key d, r1 = .val (keyD key) ∧ r2 = .val d ∧ ω2[ω.length]? = some (.dct []) ∧ P (.own ω.length) (ω2.set ω.length (.dct [(key, d)]))) : DE X (.Dict [some a] [b] pos) δ ω P := fun B F H as σ w ev Q o => by
  refine ⟨_, pe_disp (pps_cons pe_w pe_w pps_nil) rfl rfl (by nofun) (by show 1 ≤ 15; decide), fun p hp => ?_⟩
  have w0 : Wd X.K B F (upd H p (.dK [])) (as ++ [p]) (ω ++ [.dct []]) := w.own hp fun hb => ⟨hb, [], upd_same, .nil⟩
  have pre : as <+: as ++ [p] := List.prefix_append _ _
  refine h B F _ _ σ w0 (envOk_up (Same.refl _) pre ev) _ fun v B1 H1 as1 r ω1 e1 p1 w1 s1 q1 => ?_
  refine q1 B1 F H1 as1 σ w1 (envOk_up e1 (pre.trans p1) ev) _ fun u B2 H2 as2 r2 ω2 e2 p2 w2 s2 ⟨key, d, er, er2, hc, hP⟩ => ?_
  subst er er2
  have hpa : as2[ω.length]? = some p := by
    have h1 : (as ++ [p])[ω.length]? = some p := by rw [← w.len, List.getElem?_append_right (Nat.le_refl _), Nat.sub_self]; rfl
    obtain ⟨t, ht⟩ := p1.trans p2
    rw [← ht, List.getElem?_append_left, h1]
    exact (List.getElem?_eq_some_iff.mp h1).1
  obtain ⟨hb, xs, hh, hkv⟩ := w2.cellD hpa hc
  cases hkv
  refine ⟨hh, [(key, u)], ?_, by show 1 ≤ 15; decide, ?_⟩
  · rw [dp_key (sl_val (slOk_up e2 p2 s1))]
    rfl
  · refine o (.ref p) B2 _ as2 (.own ω.length) _ (e1.trans e2) (pre.trans (p1.trans p2)) (w2.write hpa hc hb (cell_dct hb upd_same (.cons ⟨rfl, sl_val s2⟩ .nil))) ⟨p, rfl, hpa⟩ hP
/-- if xs, while xs: an owned list -/
theorem dt_own (h : DE X e δ ω fun r ω1 => ∃ kx ds, r = .own kx ∧ ω1[kx]? = some (.lst ds) ∧ T (!ds.isEmpty) ω1) (he : ∀ whole, isTrue e X.env whole = (do let v ← whole; standAt e.pos; holding [v] (truthy v)) := by intro _; rfl) : DT X e δ ω T := fun B F H as σ w ev Q o => by
  refine ⟨_, pt_truth pe_w he, ?_⟩
  refine h B F H as σ w ev _ fun v B1 H1 as1 r ω1 e1 p1 w1 s1 ⟨kx, ds, er, hk, hp⟩ => ?_
  subst er
  obtain ⟨a, xs, rfl, ha, h1, h2⟩ := slo_lst w1 s1 hk
  have ee : xs.isEmpty = ds.isEmpty := by cases h2 <;> rfl
  refine ⟨!ds.isEmpty, .inl ⟨xs, SqL.of h1, by rw [ee]⟩, o _ B1 H1 as1 ω1 e1 p1 w1 hp⟩
/-- sorted(xs), ints -/
theorem ints_of {K : Fg} {B : Hp} : ∀ {xs : List V} {ns : List Int}, DpAll K B xs (ns.map PyData.int) → xs = ns.map V.int
  | _, [], .nil => rfl
  | _, n :: r, .cons h t => by
    rw [dp_int_inv h, ints_of t]
    rfl
theorem ra_sorted {r : Sl} {ns : List Int} (hq : r = .val (.list (ns.map PyData.int)) ∨ ∃ kx, r = .own kx ∧ ω[kx]? = some (.lst (ns.map PyData.int))) (hp : ∀ ns' : List Int, ns'.Perm ns → ns'.Pairwise (· ≤ ·) → P (.val (.list (ns'.map PyData.int))) ω) : RA X (rSortedI X.K) [r] ω P := fun B F H as vs w s Q o => by
  obtain ⟨v, rfl, s1⟩ := rs1 s
  have key : ∃ p, v = .ref p ∧ SqL X.K H p (ns.map V.int) := by
    rcases hq with rfl | ⟨kx, rfl, hk⟩
    · obtain ⟨p, xs, rfl, h1, h2⟩ := slv_lst s1 w.b
      rw [ints_of h2] at h1
      exact ⟨p, rfl, h1⟩
    · obtain ⟨p, xs, rfl, ha, h1, h2⟩ := slo_lst w s1 hk
      rw [ints_of h2] at h1
      exact ⟨p, rfl, SqL.of h1⟩
  obtain ⟨p, rfl, h1⟩ := key
  refine ⟨p, ns, rfl, h1, fun ns' q hperm hpw hn => ?_⟩
  exact o.lst w hn (dp_script ns') (hp ns' hperm hpw)
end
end
section
/-! ### dicts with None among the keys -/
def ND (P : Program) (w : World) (a : Addr) (kvs : List (Option Key × V)) : HO :=
  .ext fun h => kvs.length ≤ sizeLine ∧ (a == sysModules) = false ∧ ∃ vs, KV kvs vs ∧ h.DictOf (noneKind P w) a vs
def kN : Option Key → V
  | none => .non
  | some k => kV k
theorem nd_ok {P : Program} {w : World} {H : Hp} {h : Heap} {a : Addr} {kvs : List (Option Key × V)} {vs : List (Option Key × Value)} (z : kvs.length ≤ sizeLine) (hd : (a == sysModules) = false) (r : KV kvs vs) (d : h.DictOf (noneKind P w) a vs) : ObjOk P w H h a (ND P w a kvs) := by
  refine ⟨⟨z, hd, vs, r, d⟩, ?_, fun h1 h2 q hk => ?_⟩
  · obtain ⟨o, _, _, ho, _⟩ := d
    exact ⟨o, ho⟩
  · obtain ⟨z', hd', vs', r', o, es, ep, ho, hx⟩ := q
    exact ⟨z', hd', vs', r', o, es, ep, hk o ho, hx⟩
theorem nd_rd {P : Program} {w : World} {H : Hp} {h : Heap} {a : Addr} {kvs : List (Option Key × V)} (hok : HOk P w H h) (e : H a = some (ND P w a kvs)) : kvs.length ≤ sizeLine ∧ (a == sysModules) = false ∧ ∃ vs, KV kvs vs ∧ h.DictOf (noneKind P w) a vs := (hok a _ e).1
theorem kN_is {P : Program} {w : World} {k : Option Key} {u : Value} (r : RelV (kN k) u) : (noneKind P w).is k u = true := by
  cases k with
  | none =>
    cases r
    rfl
  | some k => exact @kV_is P w k u r
theorem nd_set {X : Cx} {pins : List (Addr × Obj)} {σ : L2.St} {H : Hp} {s : Shared} {E : Value → Shared → Prop} {D : Addr} {kvs : List (Option Key × V)} {k : Option Key} {v : V} {u r : Value} {Q : Unit → Shared → Prop} (I : Inv X pins σ H s) (hD : H D = some (ND X.prog X.w D kvs)) (hz : kvs.length < sizeLine)
    (ru : RelV (kN k) u) (rr : RelV v r) (h : ∀ s', Inv X pins σ (upd H D (ND X.prog X.w D (putK kvs k v))) s' → Q () s') : wpAny (model X.prog X.w) X.A (dictSet D u r) Q E s := by
  obtain ⟨z, hd, vs, rel, dd⟩ := nd_rd I.hok hD
  have z1 : vs.length ≤ sizeLine := Nat.le_trans (Nat.le_of_eq (Paired.length rel).symm) z
  refine wpAny_dictSet_pairs (hsz := z1) (kN_is ru) dd fun h' d' hs => h _ ?_
  have z2 : (putK kvs k v).length ≤ sizeLine := Nat.le_trans (length_putK kvs k v) hz
  have he : ∃ q, h'.get? D = some q := by
    obtain ⟨q, _, _, hq, _⟩ := d'
    exact ⟨q, hq⟩
  exact d_write I (by rw [hD]; exact True.intro) hs he (nd_ok z2 hd (rel.put k rr) d')
/-- one turn of a dict comprehension: key, value, the store -/
structure PKV (X : Cx) (kx vx : Expr) (D : Addr) (t : L2.St → Hp → (Hp → Prop) → Prop) : Prop where
  run : ∀ (pins : List (Addr × Obj)) (s : Shared) (σ : L2.St) (H : Hp) (Q : Hp → Prop), Inv X pins σ H s → t σ H Q →
    wpAny (model X.prog X.w) X.A (eval kx X.env) (fun a s1 => wpAny (model X.prog X.w) X.A (eval vx X.env) (fun b s2 => wpAny (model X.prog X.w) X.A (dictSet D a b) (fun _ s3 => ∃ H', Inv X pins σ H' s3 ∧ Q H') X.xe s2) X.xe s1) X.xe s
def tKV (P : Program) (w : World) (D : Addr) (tk tv : TE) : L2.St → Hp → (Hp → Prop) → Prop := fun σ H Q => tk σ H fun y H1 => tv σ H1 fun z H2 => ∃ kvs k, y = kN k ∧ H2 D = some (ND P w D kvs) ∧ kvs.length < sizeLine ∧ Q (upd H2 D (ND P w D (putK kvs k z)))
theorem pkv_nd {X : Cx} {kx vx : Expr} {D : Addr} {tk tv : TE} (hk : PE X kx tk) (hv : PE X vx tv) : PKV X kx vx D (tKV X.prog X.w D tk tv) := ⟨fun pins s σ H Q I h => by
  refine thn (hk.run pins s σ H _ I h) fun a s1 ⟨y, H1, I1, r1, q1⟩ => thn (hv.run pins s1 σ H1 _ I1 q1) fun b s2 ⟨z, H2, I2, r2, kvs, k, ey, hD, hz, q⟩ => ?_
  subst ey
  exact nd_set I2 hD hz r1 r2 fun s3 I3 => ⟨_, I3, q⟩⟩
/-- the whole: emp is what the new dict is held for -/
def tDX (emp : Addr → HO) (wi : TI) (g : TG) (tt : TT) (t : Addr → L2.St → Hp → (Hp → Prop) → Prop) (vs : List Nat) : TE := fun σ H Q => wi σ H fun J H1 => ∀ D, H1 D = none → ∃ W : Nat → Nat → Hp → Prop, (∃ m, W 0 m (upd H1 D (emp D))) ∧ ∀ i m H, W i m H →
  (J.stop i H ∧ Q (.ref D) H) ∨ (J.go i H ∧ ∃ Nx : Hp → Prop, (∀ H', Nx H' → ∃ m', m' < m ∧ W (i + 1) m' H') ∧ ∀ x H', J.yld i H x H' → g x (wipe σ vs) H' fun σ2 H2 => wipe σ2 vs = wipe σ vs ∧ tt σ2 H2 fun b H3 => if b = true then t D σ2 H3 Nx else Nx H3)
theorem nd_empty {P : Program} {w : World} {H : Hp} (h : Heap) (hb : sysModules < h.objs.size) : ObjOk P w H (h.push { cls := .type "dict", data := .dict #[] }) h.objs.size (ND P w h.objs.size []) :=
  nd_ok (Nat.zero_le _) (beq_eq_false_iff_ne.mpr (Nat.ne_of_gt hb)) .nil (Heap.DictOf.new h)
section
variable {X : Cx}
theorem dx_core {pins : List (Addr × Obj)} {s0 : Shared} {σ : L2.St} {H : Hp} {Q : VK} {kx vx tg iter : Expr} {ifs : List Expr} {scope : Scope} {own : List (Str × Nat)} {pos po : Pos} {emp : Addr → HO} {wi : TI} {g : TG} {tt : TT} {t : Addr → L2.St → Hp → (Hp → Prop) → Prop} {use : Option (Value → Sem Unit)} {Qf : Value → Shared → Prop}
    (hemp : ∀ (H : Hp) (h : Heap), sysModules < h.objs.size → ObjOk X.prog X.w H (h.push { cls := .type "dict", data := .dict #[] }) h.objs.size (emp h.objs.size))
    (hc : X.calm = true) (hN : X.N.Nodup) (I : Inv X pins σ H s0) (hi : PI X tg iter wi) (ok : BlkOk X.N X.env.scope scope own)
    (hg : ∀ (s : Shared) (H : Hp) (C : Addr) (cl : List (Str × Addr)) (fp : List Addr), PG (X.blk s H scope (compEnvC scope cl C X.env) fp) tg g) (ht : ∀ (s : Shared) (H : Hp) (C : Addr) (cl : List (Str × Addr)) (fp : List Addr), PTs (X.blk s H scope (compEnvC scope cl C X.env) fp) ifs tt)
    (hkv : ∀ (D : Addr) (s : Shared) (H : Hp) (C : Addr) (cl : List (Str × Addr)) (fp : List Addr), PKV (X.blk s H scope (compEnvC scope cl C X.env) fp) kx vx D (t D)) (hs : ∀ x, foldedSetIterable iter X.env x = pure x)
    (h : tDX emp wi g tt t (own.map (·.2)) σ H Q)
    (done : ∀ D C s' m H', Inv X pins σ H' s' → Q (.ref D) H' → s'.heap.Ns C m → FpOk X pins H' C → compPost (model X.prog X.w) X.A X.xe use Qf (.ref D) C (.ok .next) s') :
    wpAny (model X.prog X.w) X.A (comprehension (.DictComp kx vx [⟨tg, iter, ifs, 0⟩] scope pos) scope X.env po newDict false (eval iter X.env) use) Qf X.xe s0 := by
  have free : ∀ y ∈ scope.names, y.2 = .free → ∃ c, X.env.cells.lookup y.1 = some c := fun y hy e => (ok.free y hy e).elim (fun k => I.ok.has _ (.inl k)) fun k => I.ok.has _ (.inr k)
  refine wpAny_comprehension_free (use := use) rfl hs (closure_ok free) ok.kind (fun y hy e => by rw [ok.uniq y hy, e]) (thn (hi.run pins s0 σ H _ I h) fun xv s1 hx => thn hx fun itv s2 h2 => ?_)
  obtain ⟨it, fp, tn, J, H2, eit, I2, T, t2, f2, q⟩ := h2
  subst eit
  refine wpAny_newObj_type (newEnv_comp ?_)
  generalize hD : s2.heap.objs.size = D
  have nD2 : H2 D = none := I2.hok.fresh (Nat.le_of_eq hD)
  obtain ⟨W, ⟨m0, w0⟩, turn⟩ := q D nD2
  generalize hs3 : ({ s2 with heap := s2.heap.push { cls := .type "dict", data := .dict #[] } } : Shared) = s3
  have I3 : Inv X pins σ (upd H2 D (emp D)) s3 := by
    subst hs3 hD
    exact I2.laid (t' := s2.toks) (fun b o e => Heap.get?_push_of_some _ e) (Nat.le_refl _) (hemp _ s2.heap I2.big)
  have h3 : s3.heap = s2.heap.push { cls := .type "dict", data := .dict #[] } := by rw [← hs3]
  have f3 : ∀ b ∈ fp, FpOk X pins (upd H2 D (emp D)) b ∧ b < s3.heap.objs.size := fun b hb => by
    obtain ⟨o, e, _⟩ := T.obj _ _ t2 b hb
    have hl : b < s2.heap.objs.size := Heap.lt_size e
    have hne : b ≠ D := by
      rw [← hD]
      exact Nat.ne_of_lt hl
    refine ⟨⟨by rw [upd_ne hne]; exact (f2 b hb).1, (f2 b hb).2⟩, ?_⟩
    rw [h3, Heap.size_push]
    exact Nat.lt_succ_of_lt hl
  have t3 : tn 0 s3.heap := T.keep _ _ _ t2 fun b _ o e => by
    rw [h3]
    exact Heap.get?_push_of_some _ e
  have I4 := block_start I3 ok hN f3
  generalize hcl : cellsFrom (s3.heap.objs.size + 1) scope.names (cloFrom X.env.cells scope.names []) = cl at I4
  have pg := hg s3 (upd H2 D (emp D)) s3.heap.objs.size cl fp
  have pt := ht s3 (upd H2 D (emp D)) s3.heap.objs.size cl fp
  have pk := hkv D s3 (upd H2 D (emp D)) s3.heap.objs.size cl fp
  show codeAny _ _ (.compStart (.DictComp kx vx [⟨tg, iter, ifs, 0⟩] scope pos) 0 (.ref it) (.ref D) (compEnvC scope cl s3.heap.objs.size X.env)) (compPost (model X.prog X.w) X.A X.xe use Qf (.ref D) s3.heap.objs.size) { s3 with heap := pushCells (s3.heap.push { cls := .type "dict", data := .dict #[] }) scope.names }
  have n3 : ∀ b ∈ fp, (upd H2 D (emp D)) b = none := fun b hb => (f3 b hb).1.1
  generalize hce : compEnvC scope cl s3.heap.objs.size X.env = ce at I4 pg pt pk ⊢
  have cL : ce.locals = s3.heap.objs.size := by
    subst hce
    rfl
  generalize hH3 : upd H2 D (emp D) = H3 at I3 I4 pg pt pk w0 n3 f3
  generalize hs4 : ({ s3 with heap := pushCells (s3.heap.push { cls := .type "dict", data := .dict #[] }) scope.names } : Shared) = s4 at I4 ⊢
  have t4 : tn 0 s4.heap := T.keep _ _ _ t3 fun b _ o e => by
    rw [← hs4]
    exact pushCells_keeps _ _ _ _ (Heap.get?_push_of_some _ e)
  have stat : ∀ {σ' : L2.St} {H' : Hp} {s' : Shared}, Inv (X.blk s3 H3 scope ce fp) [] σ' H' s' → (∀ b ∈ fp, H' b = none) → ∀ b ∈ fp, FpOk (X.blk s3 H3 scope ce fp) [] H' b := fun {σ' H' s'} J' hn b hb =>
    ⟨hn b hb, (J'.ok.exf b hb).1, J'.ok.exfs b hb, .inl hb, (J'.ok.exf b hb).2, fun p hp => by
      have hp' : p ∈ ([] : List (Addr × Obj)) ++ [] := hp
      simp at hp'⟩
  have loop : codeAny (model X.prog X.w) X.A (.compLoop (.DictComp kx vx [⟨tg, iter, ifs, 0⟩] scope pos) 0 (.ref it) (.ref D) ce) (compPost (model X.prog X.w) X.A X.xe use Qf (.ref D) s3.heap.objs.size) s4 := by
    refine compLoop_anyD (fun n s' => ∃ i H', Inv (X.blk s3 H3 scope ce fp) [] (wipe σ (own.map (·.2))) H' s' ∧ tn i s'.heap ∧ (∀ b ∈ fp, H' b = none) ∧ W i n H') ?_ m0 ⟨0, H3, I4, t4, n3, w0⟩
    rintro n s5 ⟨i, H5, I5, t5, n5, w5⟩
    rcases turn i n H5 w5 with ⟨stop, qq⟩ | ⟨go, Nx, hNx, step⟩
    · refine thnF (T.done (X.blk s3 H3 scope ce fp) rfl rfl rfl hc i [] s5 _ H5 (fun _ _ => False) I5 (stat I5 n5) t5 stop) fun r s6 ⟨hr, I6⟩ => ?_
      subst hr
      have I7 : Inv X pins σ H5 s6 := I3.call' (ch := fp) I6.os I6.base I6.hok I6.bare fun b hb => by
        obtain ⟨⟨_, a1, a2, a3, a4, a5⟩, _⟩ := f3 b hb
        exact ⟨a3, a1, a4, a5⟩
      have nC : H5 s3.heap.objs.size = none := by
        rw [← cL]
        exact I6.free
      obtain ⟨m, hn, _⟩ := I6.loc
      refine done D s3.heap.objs.size s6 m H5 I7 qq ?_ (I3.fpOk (Nat.le_refl _) nC)
      rw [← cL]
      exact hn
    · refine thnF (T.item (X.blk s3 H3 scope ce fp) rfl rfl rfl hc i [] s5 _ H5 (fun _ _ => False) I5 (stat I5 n5) t5 go) fun r s6 ⟨u, hr, h6⟩ => ?_
      subst hr
      refine thnF h6 fun _ s7 ⟨x, H7, I7, r7, y7, t7, n7⟩ => ?_
      refine thnF (pg.run _ s7 _ H7 x u _ (I7.pinned (stat I7 n7) (T.obj _ _ t7)) r7 (step x H7 y7)) fun _ s8 ⟨σ8, H8, I8, hw8, q8⟩ => ?_
      refine thnF (pt.run _ s8 σ8 H8 _ I8 q8) fun b s9 ⟨H9, I9, q9⟩ => ?_
      have fin : ∀ {s' : Shared} {H' : Hp}, Inv (X.blk s3 H3 scope ce fp) ([] ++ pinsAt fp s7.heap) σ8 H' s' → Nx H' → ∃ m, m < n ∧ ∃ i H', Inv (X.blk s3 H3 scope ce fp) [] (wipe σ (own.map (·.2))) H' s' ∧ tn i s'.heap ∧ (∀ b ∈ fp, H' b = none) ∧ W i m H' := fun {s' H'} J' nx => by
        obtain ⟨m', hm, w'⟩ := hNx H' nx
        have pin : ∀ b ∈ fp, ∀ o, s7.heap.get? b = some o → s'.heap.get? b = some o ∧ H' b = none := fun b hb o e => by
          have z := J'.pin (b, o) (List.mem_append_right _ (List.mem_append_right _ (mem_pinsAt hb e)))
          exact ⟨z.1, z.2.1⟩
        refine ⟨m', hm, i + 1, H', (J'.unpinned (pins := [])).weak ?_ (fun j v e => ?_), T.keep _ _ _ t7 fun b hb o e => (pin b hb o e).1, fun b hb => ?_, w'⟩
        · rw [← hw8]
          exact wipe_length _ _
        · rw [← hw8] at e
          exact (wipe_some e).1
        · obtain ⟨o, e, _⟩ := T.obj _ _ t7 b hb
          exact (pin b hb o e).2
      cases b with
      | false =>
        simp only [Bool.false_eq_true, if_false] at q9 ⊢
        exact fin I9 q9
      | true =>
        simp only [if_true] at q9 ⊢
        refine thnF (pk.run _ s9 σ8 H9 _ I9 q9) fun z s10 h10 => thnF h10 fun z2 s11 h11 => thnF h11 fun _ s12 ⟨H12, I12, nx⟩ => fin I12 nx
  exact codeAny_compStart_dict loop (T.self X.A 0 _ _ _ t4 loop)
theorem pe_dx {kx vx tg iter : Expr} {ifs : List Expr} {scope : Scope} {own : List (Str × Nat)} {pos : Pos} {emp : Addr → HO} {wi : TI} {g : TG} {tt : TT} {t : Addr → L2.St → Hp → (Hp → Prop) → Prop}
    (hemp : ∀ (H : Hp) (h : Heap), sysModules < h.objs.size → ObjOk X.prog X.w H (h.push { cls := .type "dict", data := .dict #[] }) h.objs.size (emp h.objs.size))
    (hc : X.calm = true) (hN : X.N.Nodup) (hi : PI X tg iter wi) (ok : BlkOk X.N X.env.scope scope own)
    (hg : ∀ (s : Shared) (H : Hp) (C : Addr) (cl : List (Str × Addr)) (fp : List Addr), PG (X.blk s H scope (compEnvC scope cl C X.env) fp) tg g) (ht : ∀ (s : Shared) (H : Hp) (C : Addr) (cl : List (Str × Addr)) (fp : List Addr), PTs (X.blk s H scope (compEnvC scope cl C X.env) fp) ifs tt)
    (hkv : ∀ (D : Addr) (s : Shared) (H : Hp) (C : Addr) (cl : List (Str × Addr)) (fp : List Addr), PKV (X.blk s H scope (compEnvC scope cl C X.env) fp) kx vx D (t D)) (hs : ∀ x, foldedSetIterable iter X.env x = pure x := by intro _; rfl) :
    PE X (.DictComp kx vx [⟨tg, iter, ifs, 0⟩] scope pos) (tDX emp wi g tt t (own.map (·.2))) := by
  refine ⟨fun pins s σ H Q I h => ?_⟩
  rw [arm_eval_DictComp]
  refine dx_core hemp hc hN I hi ok hg ht hkv hs h fun D C s' m H' J q hn f => ⟨m, hn, fun h2 sb => ?_⟩
  obtain ⟨f0, f1, f2, f3, f4, f5⟩ := f
  exact ⟨.ref D, H', J.turned (t' := s'.toks) (fun b o hb e => (sb.2 b hb).trans e) f0 f1 f3 f4 f5, rfl, q⟩
end
end
section
section
variable {K : Fg} {B F H : Hp} {as : List Addr} {ω : List Cell}
theorem Wd.lessF {p : Addr} {o : HO} (w : Wd K B (upd F p o) H as ω) (hF : F p = none) : Wd K B F H as ω ∧ p ∉ as ∧ H p = some o ∧ B p = none := by
  have up : ∀ {a : Addr} {x : HO}, F a = some x → upd F p o a = some x := fun {a x} e => by
    rw [upd_ne (fun z => by rw [z, hF] at e; cases e)]
    exact e
  have hp := w.f p o upd_same
  refine ⟨⟨w.b, fun a x e => w.f a x (up e), w.len, w.nd, fun k a c e1 e2 => ?_⟩, fun hm => ?_, hp.1, hp.2⟩
  · obtain ⟨q1, q2, q3⟩ := w.at' k a c e1 e2
    refine ⟨?_, q2, q3⟩
    cases h : F a with
    | none => rfl
    | some x =>
      rw [up h] at q1
      cases q1
  · obtain ⟨k, hk, e⟩ := List.mem_iff_getElem.mp hm
    have hk2 : k < ω.length := by rw [← w.len]; exact hk
    have q := (w.at' k p ω[k] (by rw [List.getElem?_eq_getElem hk, e]) (List.getElem?_eq_getElem hk2)).1
    rw [upd_same] at q
    cases q
theorem Wd.toOth {p : Addr} {f : Addr → HO} (w : Wd K B (upd F p (f p)) H as ω) (hF : F p = none) : Wd K B F H (as ++ [p]) (ω ++ [.oth f]) := by
  obtain ⟨w1, hn, hH, hB⟩ := w.lessF hF
  exact w1.addOwn hF hn (by rw [hH]; simp) ⟨hB, hH⟩
end
def okD : Option Key → D
  | none => .none
  | some k => keyD k
theorem dp_okD {K : Fg} {B : Hp} {v : V} {k : Option Key} (h : Dp K B v (okD k)) : v = kN k := by
  cases k with
  | none => exact dp_non_inv h
  | some k => exact dp_key h
def putsN (ps : List (Option Key × Int)) : List (Option Key × V) := ps.foldl (fun acc q => putK acc q.1 (.int q.2)) []
theorem putsN_snoc (ps : List (Option Key × Int)) (q : Option Key × Int) : putsN (ps ++ [q]) = putK (putsN ps) q.1 (.int q.2) := by
  unfold putsN
  rw [List.foldl_append]
  rfl
theorem putsN_len : ∀ ps : List (Option Key × Int), (putsN ps).length ≤ ps.length := fun ps => by
  have gen : ∀ (ps : List (Option Key × Int)) (a : List (Option Key × V)), (ps.foldl (fun acc q => putK acc q.1 (.int q.2)) a).length ≤ a.length + ps.length := by
    intro ps
    induction ps with
    | nil => exact fun a => Nat.le_refl _
    | cons q r ih =>
      intro a
      have h1 := ih (putK a q.1 (.int q.2))
      have h2 := length_putK a q.1 (V.int q.2)
      rw [List.foldl_cons, List.length_cons]
      omega
  have := gen ps []
  rwa [List.length_nil, Nat.zero_add] at this
def wKV (Y : Cx) (kx vx : Expr) (D : Addr) : L2.St → Hp → (Hp → Prop) → Prop := fun σ H Q => ∃ t, PKV Y kx vx D t ∧ t σ H Q
theorem pkv_w {Y : Cx} {kx vx : Expr} {D : Addr} : PKV Y kx vx D (wKV Y kx vx D) := ⟨fun pins s σ H Q I ⟨_, p, q⟩ => p.run pins s σ H Q I q⟩
section
variable {X : Cx} {tg iter kx vx : Expr} {δ : List Sl} {ω : List Cell} {P : Sl → List Cell → Prop} {pos : Pos} {scope : Scope} {own : List (Str × Nat)}
def DnTurn (X : Cx) (scope : Scope) (vs : List Nat) (tg kx vx : Expr) (δ : List Sl) (ω : List Cell) (its : List D) (ps : List (Option Key × Int)) : Prop :=
  ∀ (i : Nat) (d : D) (q : Option Key × Int), its[i]? = some d → ps[i]? = some q → Blk X scope fun Y => DG Y vs tg d (wipeD δ vs) fun δ2 => Blk X scope fun Y => DE Y kx δ2 ω fun r ω2 => r = .val (okD q.1) ∧ DE Y vx δ2 ω2 fun r2 ω3 => r2 = .val (.int q.2) ∧ ω3 = ω
theorem dn_read {vs : List Nat} (h : DI X tg iter δ ω fun its ω1 => its.length ≤ 100000 ∧ ∃ ps, ps.length = its.length ∧ DnTurn X scope vs tg kx vx δ ω1 its ps ∧ P (.own ω1.length) (ω1 ++ [.oth fun a => ND X.prog X.w a (putsN ps)]))
    {B F H : Hp} {as : List Addr} {σ : L2.St} (w : Wd X.K B F H as ω) (ev : EnvOk X.K B as σ δ) (Q : VK) (o : Out X.K B F as P Q) :
    tDX (fun a => ND X.prog X.w a []) (wI X tg iter) (fun v σ H Q => Blk X scope fun Y => wG Y tg v σ H Q) (fun σ H Q => Blk X scope fun Y => wTs Y [] σ H Q) (fun D σ H Q => Blk X scope fun Y => wKV Y kx vx D σ H Q) vs σ H Q := by
  refine h B F H as σ w ev _ fun J its B1 H1 as1 ω1 e1 p1 w1 hit ⟨hlen, ps, hps, ht, hP⟩ => ?_
  intro Dl hD
  have hF : F Dl = none := w1.freeF hD
  refine ⟨fun i m H' => m = its.length - i ∧ i ≤ its.length ∧ ∃ B' as', Same B1 B' ∧ as1 <+: as' ∧ Wd X.K B' (upd F Dl (ND X.prog X.w Dl (putsN (ps.take i)))) H' as' ω1,
    ⟨its.length, by omega, Nat.zero_le _, B1, as1, Same.refl _, List.prefix_refl _, w1.hide hD⟩, fun i m H' hW => ?_⟩
  obtain ⟨rfl, hi, B', as', e2, p2, w2⟩ := hW
  by_cases hlt : i < its.length
  · obtain ⟨hgo, hy⟩ := (hit B' _ H' as' ω1 e2 w2).1 i its[i] (List.getElem?_eq_getElem hlt)
    have hlp : i < ps.length := by omega
    have hq : ps[i]? = some ps[i] := List.getElem?_eq_getElem hlp
    refine .inr ⟨hgo, fun H3 => ∃ B' as', Same B1 B' ∧ as1 <+: as' ∧ Wd X.K B' (upd F Dl (ND X.prog X.w Dl (putsN (ps.take (i + 1))))) H3 as' ω1, fun H3 q => ⟨its.length - (i + 1), by omega, rfl, hlt, q⟩, fun x H3 q => ?_⟩
    obtain ⟨B2, e3, w3, d3⟩ := hy x H3 q
    have ev3 : EnvOk X.K B2 as' (wipe σ vs) (wipeD δ vs) := envOk_wipe (envOk_up ((e1.trans e2).trans e3) (p1.trans p2) ev) vs
    intro s H0 C cl fp
    refine ht i its[i] ps[i] (List.getElem?_eq_getElem hlt) hq s H0 C cl fp B2 H3 as' (wipe σ vs) x w3.b ev3 d3 _ fun σ4 δ4 ev4 hl4 ha4 hb => ?_
    have hwipe : wipe σ4 vs = wipe σ vs := by
      refine wipe_eq (by rw [hl4, wipe_length]) fun j hj => ?_
      rw [ha4 j hj, wipe_get hj]
    refine ⟨hwipe, ?_⟩
    intro s H0 C cl fp
    have hts : DTs (X.blk s H0 scope (compEnvC scope cl C X.env) fp) [] δ4 ω1 (fun b ω' => b = true ∧ ω' = ω1) := ⟨rfl, rfl⟩
    refine dts_run hts w3 ev4 _ fun bb B5 H5 as5 ω5 e5 p5 w5 ⟨hb1, hω⟩ => ?_
    subst hb1 hω
    refine iteT ?_
    intro s H0 C cl fp
    refine ⟨_, pkv_nd pe_w pe_w, ?_⟩
    refine hb s H0 C cl fp B5 _ H5 as5 σ4 w5 (envOk_up e5 p5 ev4) _ fun y B6 H6 as6 r ω6 e6 p6 w6 s6 ⟨er, hv⟩ => ?_
    subst er
    refine hv B6 _ H6 as6 σ4 w6 (envOk_up (e5.trans e6) (p5.trans p6) ev4) _ fun z B7 H7 as7 r2 ω7 e7 p7 w7 s7 ⟨er2, eω⟩ => ?_
    subst er2 eω
    have hput : putsN (ps.take (i + 1)) = putK (putsN (ps.take i)) ps[i].1 z := by
      rw [List.take_add_one, hq]
      show putsN (ps.take i ++ [ps[i]]) = _
      rw [putsN_snoc, dp_int_inv (sl_val s7)]
    refine ⟨putsN (ps.take i), ps[i].1, dp_okD (sl_val s6), (w7.f Dl _ upd_same).1, ?_, B7, as7, (((e2.trans e3).trans e5).trans e6).trans e7, ((p2.trans p5).trans p6).trans p7, ?_⟩
    · have h1 := putsN_len (ps.take i)
      have h2 := List.length_take_le i ps
      rw [sizeLine_eq]
      omega
    · rw [hput]
      exact w7.rehide
  · have ei : i = its.length := by omega
    subst ei
    refine .inl ⟨(hit B' _ H' as' ω1 e2 w2).2, ?_⟩
    rw [← hps, List.take_length] at w2
    refine o _ B' H' _ _ _ (e1.trans e2) ((p1.trans p2).trans (List.prefix_append _ _)) (w2.toOth (f := fun a => ND X.prog X.w a (putsN ps)) hF) (slo ?_) hP
    rw [← w2.len, List.getElem?_append_right (Nat.le_refl _), Nat.sub_self]
    rfl
theorem de_dcN (hc : X.calm = true) (hN : X.N.Nodup) (ok : BlkOk X.N X.env.scope scope own)
    (h : DI X tg iter δ ω fun its ω1 => its.length ≤ 100000 ∧ ∃ ps, ps.length = its.length ∧ DnTurn X scope (own.map (·.2)) tg kx vx δ ω1 its ps ∧ P (.own ω1.length) (ω1 ++ [.oth fun a => ND X.prog X.w a (putsN ps)]))
    (hs : ∀ x, foldedSetIterable iter X.env x = pure x := by intro _; rfl) : DE X (.DictComp kx vx [⟨tg, iter, [], 0⟩] scope pos) δ ω P := fun B F H as σ w ev Q o =>
  ⟨_, pe_dx (fun H h hb => nd_empty h hb) hc hN pi_w ok (fun s H0 C cl fp => ⟨fun pins s1 σ1 H1 v u Q1 I r hw => by obtain ⟨_, p, q⟩ := hw s H0 C cl fp; exact p.run pins s1 σ1 H1 v u Q1 I r q⟩)
    (fun s H0 C cl fp => ⟨fun pins s1 σ1 H1 Q1 I hw => by obtain ⟨_, p, q⟩ := hw s H0 C cl fp; exact p.run pins s1 σ1 H1 Q1 I q⟩)
    (fun D s H0 C cl fp => ⟨fun pins s1 σ1 H1 Q1 I hw => by obtain ⟨_, p, q⟩ := hw s H0 C cl fp; exact p.run pins s1 σ1 H1 Q1 I q⟩) hs, dn_read h w ev Q o⟩
end
/-- d[y], None among the keys; y not None -/
theorem pe_ndget {X : Cx} {o i : Expr} {pos : Pos} {to ti : TE} (ho : PE X o to) (hi : PE X i ti) (hs : NoSl i) : PE X (.Subscript o i pos) (fun σ H Q => to σ H fun x H1 => ti σ H1 fun y H2 => ∃ a kvs k v, x = .ref a ∧ H2 a = some (ND X.prog X.w a kvs) ∧ y = kN k ∧ valV kvs k = some v ∧ Q v H2) := by
  refine ⟨fun pins s σ H Q I h => ?_⟩
  refine subD_of PySem.F.slot_dict_getitem.lookup hs (thn (ho.run pins s σ H _ I h) fun u s1 ⟨x, H1, I1, rx, q1⟩ => thn (hi.run pins s1 σ H1 _ I1 q1) fun iv s2 ⟨y, H2, I2, ry, a, kvs, k, v, ex, hk, ey, hv, q2⟩ => ?_)
  subst ex ey
  obtain rfl : u = Value.ref a := rx
  obtain ⟨z, hd, vs, rel, dd⟩ := nd_rd I2.hok hk
  obtain ⟨w', hw, rw'⟩ := RelO.some_of (v := v) (o := valueAt vs k) (by rw [← hv]; exact rel.val k)
  exact ⟨dd.typeIs, wpAny_getItem_of (kN_is ry) dd.mapOf hw ⟨v, H2, I2.tok _, rw', q2⟩⟩
theorem de_ndget {X : Cx} {o i : Expr} {pos : Pos} {δ : List Sl} {ω : List Cell} {P : Sl → List Cell → Prop} (hs : NoSl i) (h : DE X o δ ω fun r1 ω1 => DE X i δ ω1 fun r2 ω2 => ∃ kx kvs key n, r1 = .own kx ∧ ω2[kx]? = some (.oth fun a => ND X.prog X.w a kvs) ∧ r2 = .val (okD key) ∧ valV kvs key = some (.int n) ∧ P (.val (.int n)) ω2) : DE X (.Subscript o i pos) δ ω P := fun B F H as σ w ev Q oo => by
  refine ⟨_, pe_ndget pe_w pe_w hs, ?_⟩
  refine h B F H as σ w ev _ fun v B1 H1 as1 r ω1 e1 p1 w1 s1 q1 => ?_
  refine q1 B1 F H1 as1 σ w1 (envOk_up e1 p1 ev) _ fun u B2 H2 as2 r2 ω2 e2 p2 w2 s2 ⟨kx, kvs, key, n, er, hk, er2, hd, hp⟩ => ?_
  subst er er2
  obtain ⟨a, rfl, ha⟩ := sl_own (slOk_up e2 p2 s1)
  obtain ⟨hb, hh⟩ := (w2.at' kx a _ ha hk).2.2
  exact ⟨a, kvs, key, .int n, rfl, hh, dp_okD (sl_val s2), hd, oo _ B2 H2 as2 _ ω2 (e1.trans e2) (p1.trans p2) w2 (slv (.int n)) hp⟩
end
section
/-! ### list comprehensions with more clauses -/
section
variable {prog : Program} {w : World} {A : Around}
/-- a clause's loop, what is done behind the store being any body -/
theorem cl_loop {R : Result → Shared → Prop} {s : Shared} {elt tg : Expr} {gs : List Comprehension} {scope : Scope} {pos : Pos} {m : Nat} {it acc : Value} {env : Env} {p : Pos} {body : Sem Unit}
    (hq : (Code.compLoop (.ListComp elt gs scope pos) m it acc env).quiet = true)
    (hturn : compTurn (.ListComp elt gs scope pos) m it acc env = (do
      standAt p
      match ← pyNext it with
      | none => pure (.done .next)
      | some v =>
        letOwnedTupleGo tg it v
        assign tg env v
        body
        again (.compLoop (.ListComp elt gs scope pos) m it acc env)))
    (I : Nat → Shared → Prop)
    (turn : ∀ n s, I n s → wpAny (model prog w) A (pyNext it) (fun r s1 => match r with
      | none => R (.ok .next) s1
      | some v => wpAny (model prog w) A (letOwnedTupleGo tg it v) (fun _ s2 => wpAny (model prog w) A (assign tg env v) (fun _ s3 => wpAny (model prog w) A body (fun _ s4 => ∃ k, k < n ∧ I k s4) (fun _ _ => False) s3) (fun _ _ => False) s2) (fun _ _ => False) s1) (fun _ _ => False) s)
    (n : Nat) (h : I n s) : codeAny (model prog w) A (.compLoop (.ListComp elt gs scope pos) m it acc env) R s := by
  refine codeAny_loop hq I (fun n s hI => ?_) n h
  show wpAny _ A ((compTurn (.ListComp elt gs scope pos) m it acc env).onRaise (fun x => do noteFrame x env; theTreesLotGoes x)) _ _ s
  refine wpAny_noted ?_
  rw [hturn]
  refine wpAny_bind (wpAny_standAt (wpAny_bind (thnF (turn n s hI) fun r s1 h1 => ?_)))
  cases r with
  | none => exact wpAny_pure h1
  | some v => exact wpAny_bind (thnF h1 fun _ s2 h2 => wpAny_bind (thnF h2 fun _ s3 h3 => wpAny_bind (thnF h3 fun _ s4 h4 => wpAny_pure ⟨rfl, h4⟩)))
end
/-- what a body does: V, the slots that it may leave otherwise -/
structure Bod (Y : Cx) (V : List Nat) (body : Sem Unit) (t : L2.St → Hp → (Hp → Prop) → Prop) : Prop where
  run : ∀ (pins : List (Addr × Obj)) (s : Shared) (σ : L2.St) (H : Hp) (Q : Hp → Prop), Inv Y pins σ H s → t σ H Q → wpAny (model Y.prog Y.w) Y.A body (fun _ s' => ∃ H', Inv Y pins (wipe σ V) H' s' ∧ Q H') (fun _ _ => False) s
/-- the last clause: the element goes to the list at D -/
theorem bod_app {Y : Cx} {elt : Expr} {te : TE} {D : Addr} (hx : ∀ e s, Y.xe e s → False) (he : PE Y elt te) :
    Bod Y [] (do let _ ← call (.builtin "list.append") [.ref D, ← eval elt Y.env]) (fun σ H Q => te σ H fun y H1 => ∃ acc, H1 D = some (.lst acc) ∧ acc.length < sizeLine ∧ Q (upd H1 D (.lst (acc ++ [y])))) := ⟨fun pins s σ H Q I h => by
  refine wpAny_bind (wpAny_mono (he.run pins s σ H _ I h) (fun u s1 h1 => ?_) hx)
  obtain ⟨y, H1, I1, r1, acc, hD, hz, q⟩ := h1
  exact wpAny_bind (app_ok (X := Y) I1 hD hz r1 fun s2 I2 => wpAny_pure ⟨_, I2, q⟩)⟩
def tCl (wi : TI) (g : TG) (t : L2.St → Hp → (Hp → Prop) → Prop) (V : List Nat) : L2.St → Hp → (Hp → Prop) → Prop := fun σ H Nx => wi σ H fun J H1 => ∃ W : Nat → Nat → Hp → Prop, (∃ m, W 0 m H1) ∧ ∀ j k H, W j k H →
  (J.stop j H ∧ Nx H) ∨ (J.go j H ∧ ∃ N1 : Hp → Prop, (∀ H', N1 H' → ∃ k', k' < k ∧ W (j + 1) k' H') ∧ ∀ x H', J.yld j H x H' → g x (wipe σ V) H' fun σ3 H5 => wipe σ3 V = wipe σ V ∧ t σ3 H5 N1)
/-- a clause within: its source, its loop -/
theorem bod_cl {Y : Cx} {elt tg iter : Expr} {gs : List Comprehension} {scope : Scope} {pos : Pos} {m : Nat} {acc : Value} {p : Pos} {body : Sem Unit} {V V1 : List Nat} {wi : TI} {g : TG} {t : L2.St → Hp → (Hp → Prop) → Prop} (hc : Y.calm = true) (hx : ∀ e s, Y.xe e s → False)
    (hq : ∀ it, (Code.compLoop (.ListComp elt gs scope pos) m it acc Y.env).quiet = true)
    (hturn : ∀ it, compTurn (.ListComp elt gs scope pos) m it acc Y.env = (do
      standAt p
      match ← pyNext it with
      | none => pure (.done .next)
      | some v =>
        letOwnedTupleGo tg it v
        assign tg Y.env v
        body
        again (.compLoop (.ListComp elt gs scope pos) m it acc Y.env)))
    (hst : ∀ (A : Around) (R : Result → Shared → Prop) (s : Shared) (it : Value), codeAny (model Y.prog Y.w) A (.compLoop (.ListComp elt gs scope pos) m it acc Y.env) R s → (∀ (Q : Value → Shared → Prop) (E : Value → Shared → Prop), Q it s → wpAny (model Y.prog Y.w) A (pyIter it) Q E s) → codeAny (model Y.prog Y.w) A (.compStart (.ListComp elt gs scope pos) m it acc Y.env) R s)
    (hi : PI Y tg iter wi) (hg : PG Y tg g) (hs : ∀ x, foldedSetIterable iter Y.env x = pure x) (hb : Bod Y V1 body t) (hV : ∀ i ∈ V1, i ∈ V) :
    Bod Y V (do
      let x ← eval iter Y.env
      standAt iter.pos
      let x ← foldedSetIterable iter Y.env x
      let _ ← runOwn (.compStart (.ListComp elt gs scope pos) m (← holding [x] (pyIter x)) acc Y.env) Y.env) (tCl wi g t V) := ⟨fun pins s σ H Q I h => by
  refine wpAny_bind (wpAny_mono (hi.run pins s σ H _ I h) (fun xv s1 h1 => ?_) hx)
  refine wpAny_bind (wpAny_standAt (wpAny_bind (wpAny_of_eq (hs xv) (wpAny_bind (wpAny_holding (wpAny_mono h1 (fun itv s2 h2 => ?_) hx))))))
  obtain ⟨it, fp, tn, J, H2, e, I2, T, t2, f2, W, ⟨m0, w0⟩, turn⟩ := h2
  subst e
  refine wpAny_bind (wpAny_runOwn ?_)
  rw [Around.mark_none]
  have stat : ∀ {H' : Hp}, (∀ b ∈ fp, H' b = none) → ∀ b ∈ fp, FpOk Y pins H' b := fun hn b hb => ⟨hn b hb, (f2 b hb).2⟩
  have loop : codeAny (model Y.prog Y.w) Y.A (.compLoop (.ListComp elt gs scope pos) m (.ref it) acc Y.env) (fun r s' => match r with
      | .ok _ => ∃ H', Inv Y pins (wipe σ V) H' s' ∧ Q H'
      | .error _ => False) s2 := by
    refine cl_loop (hq _) (hturn _) (fun k s' => ∃ j H', Inv Y pins (wipe σ V) H' s' ∧ tn j s'.heap ∧ (∀ b ∈ fp, H' b = none) ∧ W j k H') ?_ m0 ⟨0, H2, I2.weak (wipe_length _ _) (fun j v e => (wipe_some e).1), t2, fun b hb => (f2 b hb).1, w0⟩
    rintro k s3 ⟨j, H3, I3, t3, n3, w3⟩
    rcases turn j k H3 w3 with ⟨stop, nx⟩ | ⟨go, N1, hN1, step⟩
    · refine thnF (T.done Y rfl rfl rfl hc j _ s3 (wipe σ V) H3 (fun _ _ => False) I3 (stat n3) t3 stop) fun r s4 ⟨hr, I4⟩ => ?_
      subst hr
      exact ⟨H3, I4, nx⟩
    · refine thnF (T.item Y rfl rfl rfl hc j _ s3 (wipe σ V) H3 (fun _ _ => False) I3 (stat n3) t3 go) fun r s4 ⟨u, hr, h4⟩ => ?_
      subst hr
      refine thnF h4 fun _ s5 ⟨x, H5, I5, r5, y5, t5, n5⟩ => ?_
      refine wpAny_mono (hg.run _ s5 (wipe σ V) H5 x u _ (I5.pinned (stat n5) (T.obj _ _ t5)) r5 (step x H5 y5)) (fun _ s6 h6 => ?_) hx
      obtain ⟨σ6, H6, I6, hw6, q6⟩ := h6
      refine thnF (hb.run _ s6 σ6 H6 _ I6 q6) fun _ s7 ⟨H7, I7, q7⟩ => ?_
      obtain ⟨k', hk, w'⟩ := hN1 H7 q7
      have pin : ∀ b ∈ fp, ∀ o, s5.heap.get? b = some o → s7.heap.get? b = some o ∧ H7 b = none := fun b hb o e => by
        have z := I7.pin (b, o) (List.mem_append_right _ (List.mem_append_right _ (mem_pinsAt hb e)))
        exact ⟨z.1, z.2.1⟩
      refine ⟨k', hk, j + 1, H7, I7.unpinned.weak ?_ (fun i v e => ?_), T.keep _ _ _ t5 fun b hb o e => (pin b hb o e).1, fun b hb => ?_, w'⟩
      · rw [← hw6, wipe_length, wipe_length]
      · rw [← hw6] at e
        obtain ⟨e1, e2⟩ := wipe_some e
        rw [wipe_out fun z => e2 (hV i z)]
        exact e1
      · obtain ⟨o, e, _⟩ := T.obj _ _ t5 b hb
        exact (pin b hb o e).2
  refine codeAny_mono (hst Y.A _ s2 (.ref it) loop fun Q' E' q' => T.self Y.A 0 s2 Q' E' t2 q') fun r s' hr => ?_
  cases r with
  | ok f =>
    first
      | exact wpAny_pure hr
      | exact wpAny_bind (wpAny_pure (wpAny_pure hr))
  | error e => exact hr.elim⟩
end
section
section
variable {X : Cx}
def tLX (wi : TI) (g : TG) (t : Addr → L2.St → Hp → (Hp → Prop) → Prop) (vs : List Nat) : TE := fun σ H Q => wi σ H fun J H1 => ∀ D, H1 D = none → ∃ W : Nat → Nat → Hp → Prop, (∃ m, W 0 m (upd H1 D (.lst []))) ∧ ∀ i m H, W i m H →
  (J.stop i H ∧ Q (.ref D) H) ∨ (J.go i H ∧ ∃ Nx : Hp → Prop, (∀ H', Nx H' → ∃ m', m' < m ∧ W (i + 1) m' H') ∧ ∀ x H', J.yld i H x H' → g x (wipe σ vs) H' fun σ2 H2 => wipe σ2 vs = wipe σ vs ∧ t D σ2 H2 Nx)
abbrev TurnIs (elt tg : Expr) (gs : List Comprehension) (scope : Scope) (pos p : Pos) (m : Nat) (acc : Value) (env : Env) (body : Sem Unit) : Prop :=
  ∀ it : Value, compTurn (.ListComp elt gs scope pos) m it acc env = (do
      standAt p
      match ← pyNext it with
      | none => pure (.done .next)
      | some v =>
        letOwnedTupleGo tg it v
        assign tg env v
        body
        again (.compLoop (.ListComp elt gs scope pos) m it acc env))
theorem lx_core {pins : List (Addr × Obj)} {s0 : Shared} {σ : L2.St} {H : Hp} {Q : VK} {elt tg iter : Expr} {rest : List Comprehension} {scope : Scope} {own : List (Str × Nat)} {pos po p0 : Pos} {V : List Nat} {wi : TI} {g : TG} {t : Addr → L2.St → Hp → (Hp → Prop) → Prop} {body : Addr → Env → Sem Unit} {use : Option (Value → Sem Unit)} {Qf : Value → Shared → Prop}
    (hturn : ∀ D env, TurnIs elt tg (⟨tg, iter, [], 0⟩ :: rest) scope pos p0 0 (.ref D) env (body D env))
    (hc : X.calm = true) (hN : X.N.Nodup) (I : Inv X pins σ H s0) (hi : PI X tg iter wi) (ok : BlkOk X.N X.env.scope scope own)
    (hg : ∀ (s : Shared) (H : Hp) (C : Addr) (cl : List (Str × Addr)) (fp : List Addr), PG (X.blk s H scope (compEnvC scope cl C X.env) fp) tg g)
    (hb : ∀ (D : Addr) (s : Shared) (H : Hp) (C : Addr) (cl : List (Str × Addr)) (fp : List Addr), Bod (X.blk s H scope (compEnvC scope cl C X.env) fp) V (body D (compEnvC scope cl C X.env)) (t D)) (hV : ∀ i ∈ V, i ∈ own.map (·.2)) (hs : ∀ x, foldedSetIterable iter X.env x = pure x)
    (h : tLX wi g t (own.map (·.2)) σ H Q)
    (done : ∀ D C s' m H', Inv X pins σ H' s' → Q (.ref D) H' → s'.heap.Ns C m → FpOk X pins H' C → compPost (model X.prog X.w) X.A X.xe use Qf (.ref D) C (.ok .next) s') :
    wpAny (model X.prog X.w) X.A (comprehension (.ListComp elt (⟨tg, iter, [], 0⟩ :: rest) scope pos) scope X.env po (newList []) false (eval iter X.env) use) Qf X.xe s0 := by
  have free : ∀ y ∈ scope.names, y.2 = .free → ∃ c, X.env.cells.lookup y.1 = some c := fun y hy e => (ok.free y hy e).elim (fun k => I.ok.has _ (.inl k)) fun k => I.ok.has _ (.inr k)
  refine wpAny_comprehension_free (use := use) rfl hs (closure_ok free) ok.kind (fun y hy e => by rw [ok.uniq y hy, e]) (thn (hi.run pins s0 σ H _ I h) fun xv s1 hx => thn hx fun itv s2 h2 => ?_)
  obtain ⟨it, fp, tn, J, H2, eit, I2, T, t2, f2, q⟩ := h2
  subst eit
  refine wpAny_newObj_type (newEnv_comp ?_) (by show 0 ≤ sizeLine; decide)
  generalize hD : s2.heap.objs.size = D
  have nD2 : H2 D = none := I2.hok.fresh (Nat.le_of_eq hD)
  obtain ⟨W, ⟨m0, w0⟩, turn⟩ := q D nD2
  generalize hs3 : ({ s2 with heap := s2.heap.push { cls := .type "list", data := .seq ([] : List Value).toArray } } : Shared) = s3
  have h3 : s3.heap = s2.heap.push { cls := .type "list", data := .seq ([] : List Value).toArray } := by rw [← hs3]
  have I3 : Inv X pins σ (upd H2 D (.lst [])) s3 := by
    subst hs3 hD
    exact I2.laid (t' := s2.toks) (fun b o e => Heap.get?_push_of_some _ e) (Nat.le_refl _) ⟨Nat.zero_le _, [], 0, .nil, Heap.get?_push_size _ rfl⟩
  have f3 : ∀ b ∈ fp, FpOk X pins (upd H2 D (.lst [])) b ∧ b < s3.heap.objs.size := fun b hb => by
    obtain ⟨o, e, _⟩ := T.obj _ _ t2 b hb
    have hl : b < s2.heap.objs.size := Heap.lt_size e
    have hne : b ≠ D := by
      rw [← hD]
      exact Nat.ne_of_lt hl
    refine ⟨⟨by rw [upd_ne hne]; exact (f2 b hb).1, (f2 b hb).2⟩, ?_⟩
    rw [h3, Heap.size_push]
    exact Nat.lt_succ_of_lt hl
  have t3 : tn 0 s3.heap := T.keep _ _ _ t2 fun b _ o e => by
    rw [h3]
    exact Heap.get?_push_of_some _ e
  have I4 := block_start I3 ok hN f3
  generalize hcl : cellsFrom (s3.heap.objs.size + 1) scope.names (cloFrom X.env.cells scope.names []) = cl at I4
  have pg := hg s3 (upd H2 D (.lst [])) s3.heap.objs.size cl fp
  have pb := hb D s3 (upd H2 D (.lst [])) s3.heap.objs.size cl fp
  show codeAny _ _ (.compStart (.ListComp elt (⟨tg, iter, [], 0⟩ :: rest) scope pos) 0 (.ref it) (.ref D) (compEnvC scope cl s3.heap.objs.size X.env)) (compPost (model X.prog X.w) X.A X.xe use Qf (.ref D) s3.heap.objs.size) { s3 with heap := pushCells (s3.heap.push { cls := .type "dict", data := .dict #[] }) scope.names }
  have n3 : ∀ b ∈ fp, (upd H2 D (.lst [])) b = none := fun b hb => (f3 b hb).1.1
  generalize hce : compEnvC scope cl s3.heap.objs.size X.env = ce at I4 pg pb ⊢
  have cL : ce.locals = s3.heap.objs.size := by
    subst hce
    rfl
  generalize hH3 : upd H2 D (.lst []) = H3 at I3 I4 pg pb w0 n3 f3
  generalize hs4 : ({ s3 with heap := pushCells (s3.heap.push { cls := .type "dict", data := .dict #[] }) scope.names } : Shared) = s4 at I4 ⊢
  have t4 : tn 0 s4.heap := T.keep _ _ _ t3 fun b _ o e => by
    rw [← hs4]
    exact pushCells_keeps _ _ _ _ (Heap.get?_push_of_some _ e)
  have stat : ∀ {σ' : L2.St} {H' : Hp} {s' : Shared}, Inv (X.blk s3 H3 scope ce fp) [] σ' H' s' → (∀ b ∈ fp, H' b = none) → ∀ b ∈ fp, FpOk (X.blk s3 H3 scope ce fp) [] H' b := fun {σ' H' s'} J' hn b hb =>
    ⟨hn b hb, (J'.ok.exf b hb).1, J'.ok.exfs b hb, .inl hb, (J'.ok.exf b hb).2, fun p hp => by
      have hp' : p ∈ ([] : List (Addr × Obj)) ++ [] := hp
      simp at hp'⟩
  have loop : codeAny (model X.prog X.w) X.A (.compLoop (.ListComp elt (⟨tg, iter, [], 0⟩ :: rest) scope pos) 0 (.ref it) (.ref D) ce) (compPost (model X.prog X.w) X.A X.xe use Qf (.ref D) s3.heap.objs.size) s4 := by
    refine cl_loop rfl (hturn D ce _) (fun n s' => ∃ i H', Inv (X.blk s3 H3 scope ce fp) [] (wipe σ (own.map (·.2))) H' s' ∧ tn i s'.heap ∧ (∀ b ∈ fp, H' b = none) ∧ W i n H') ?_ m0 ⟨0, H3, I4, t4, n3, w0⟩
    rintro n s5 ⟨i, H5, I5, t5, n5, w5⟩
    rcases turn i n H5 w5 with ⟨stop, qq⟩ | ⟨go, Nx, hNx, step⟩
    · refine thnF (T.done (X.blk s3 H3 scope ce fp) rfl rfl rfl hc i [] s5 _ H5 (fun _ _ => False) I5 (stat I5 n5) t5 stop) fun r s6 ⟨hr, I6⟩ => ?_
      subst hr
      have I7 : Inv X pins σ H5 s6 := I3.call' (ch := fp) I6.os I6.base I6.hok I6.bare fun b hb => by
        obtain ⟨⟨_, a1, a2, a3, a4, a5⟩, _⟩ := f3 b hb
        exact ⟨a3, a1, a4, a5⟩
      have nC : H5 s3.heap.objs.size = none := by
        rw [← cL]
        exact I6.free
      obtain ⟨m, hn, _⟩ := I6.loc
      refine done D s3.heap.objs.size s6 m H5 I7 qq ?_ (I3.fpOk (Nat.le_refl _) nC)
      rw [← cL]
      exact hn
    · refine thnF (T.item (X.blk s3 H3 scope ce fp) rfl rfl rfl hc i [] s5 _ H5 (fun _ _ => False) I5 (stat I5 n5) t5 go) fun r s6 ⟨u, hr, h6⟩ => ?_
      subst hr
      refine thnF h6 fun _ s7 ⟨x, H7, I7, r7, y7, t7, n7⟩ => ?_
      refine thnF (pg.run _ s7 _ H7 x u _ (I7.pinned (stat I7 n7) (T.obj _ _ t7)) r7 (step x H7 y7)) fun _ s8 ⟨σ8, H8, I8, hw8, q8⟩ => ?_
      refine thnF (pb.run _ s8 σ8 H8 _ I8 q8) fun _ s9 ⟨H9, I9, nx⟩ => ?_
      obtain ⟨m', hm, w'⟩ := hNx H9 nx
      have pin : ∀ b ∈ fp, ∀ o, s7.heap.get? b = some o → s9.heap.get? b = some o ∧ H9 b = none := fun b hb o e => by
        have z := I9.pin (b, o) (List.mem_append_right _ (List.mem_append_right _ (mem_pinsAt hb e)))
        exact ⟨z.1, z.2.1⟩
      refine ⟨m', hm, i + 1, H9, (I9.unpinned (pins := [])).weak ?_ (fun j v e => ?_), T.keep _ _ _ t7 fun b hb o e => (pin b hb o e).1, fun b hb => ?_, w'⟩
      · rw [← hw8, wipe_length, wipe_length]
      · rw [← hw8] at e
        obtain ⟨e1, e2⟩ := wipe_some e
        rw [wipe_out fun z => e2 (hV j z)]
        exact e1
      · obtain ⟨o, e, _⟩ := T.obj _ _ t7 b hb
        exact (pin b hb o e).2
  exact codeAny_compStart_list loop (T.self X.A 0 _ _ _ t4 loop)
theorem pe_lx {elt tg iter : Expr} {rest : List Comprehension} {scope : Scope} {own : List (Str × Nat)} {pos p0 : Pos} {V : List Nat} {wi : TI} {g : TG} {t : Addr → L2.St → Hp → (Hp → Prop) → Prop} {body : Addr → Env → Sem Unit}
    (hturn : ∀ D env, TurnIs elt tg (⟨tg, iter, [], 0⟩ :: rest) scope pos p0 0 (.ref D) env (body D env))
    (hc : X.calm = true) (hN : X.N.Nodup) (hi : PI X tg iter wi) (ok : BlkOk X.N X.env.scope scope own)
    (hg : ∀ (s : Shared) (H : Hp) (C : Addr) (cl : List (Str × Addr)) (fp : List Addr), PG (X.blk s H scope (compEnvC scope cl C X.env) fp) tg g)
    (hb : ∀ (D : Addr) (s : Shared) (H : Hp) (C : Addr) (cl : List (Str × Addr)) (fp : List Addr), Bod (X.blk s H scope (compEnvC scope cl C X.env) fp) V (body D (compEnvC scope cl C X.env)) (t D)) (hV : ∀ i ∈ V, i ∈ own.map (·.2)) (hs : ∀ x, foldedSetIterable iter X.env x = pure x) :
    PE X (.ListComp elt (⟨tg, iter, [], 0⟩ :: rest) scope pos) (tLX wi g t (own.map (·.2))) := by
  refine ⟨fun pins s σ H Q I h => ?_⟩
  rw [eval_ListComp]
  refine lx_core hturn hc hN I hi ok hg hb hV hs h fun D C s' m H' J q hn f => ⟨m, hn, fun h2 sb => ?_⟩
  obtain ⟨f0, f1, f2, f3, f4, f5⟩ := f
  exact ⟨.ref D, H', J.turned (t' := s'.toks) (fun b o hb e => (sb.2 b hb).trans e) f0 f1 f3 f4 f5, rfl, q⟩
theorem ps_setLx {i : Nat} {y : Str} {py : Pos} {elt tg iter : Expr} {rest : List Comprehension} {scope : Scope} {own : List (Str × Nat)} {pos spos p0 : Pos} {V : List Nat} {wi : TI} {g : TG} {t : Addr → L2.St → Hp → (Hp → Prop) → Prop} {body : Addr → Env → Sem Unit}
    (hturn : ∀ D env, TurnIs elt tg (⟨tg, iter, [], 0⟩ :: rest) scope pos p0 0 (.ref D) env (body D env))
    (hc : X.calm = true) (hN : X.N.Nodup) (hy : X.N[i]? = some y) (hyl : X.env.scope.names.lookup y = some .local) (hsw : swapsWith (.ListComp elt (⟨tg, iter, [], 0⟩ :: rest) scope pos) (some (.Name y py)) spos.line X.env = pure true) (hi : PI X tg iter wi) (ok : BlkOk X.N X.env.scope scope own)
    (hg : ∀ (s : Shared) (H : Hp) (C : Addr) (cl : List (Str × Addr)) (fp : List Addr), PG (X.blk s H scope (compEnvC scope cl C X.env) fp) tg g)
    (hb : ∀ (D : Addr) (s : Shared) (H : Hp) (C : Addr) (cl : List (Str × Addr)) (fp : List Addr), Bod (X.blk s H scope (compEnvC scope cl C X.env) fp) V (body D (compEnvC scope cl C X.env)) (t D)) (hV : ∀ i ∈ V, i ∈ own.map (·.2)) (hs : ∀ x, foldedSetIterable iter X.env x = pure x) :
    PS X (.Assign [.Name y py] (.ListComp elt (⟨tg, iter, [], 0⟩ :: rest) scope pos) spos) (tAsg (tLX wi g t (own.map (·.2))) (gName i)) := by
  refine ⟨fun pins s σ H D I h => ?_⟩
  rw [exec_Assign_Name_used _ _ _ _ hsw]
  refine wpAny_bind (wpAny_standAt (wpAny_bind ?_))
  show wpAny _ X.A (do let _ ← comprehension (.ListComp elt (⟨tg, iter, [], 0⟩ :: rest) scope pos) scope X.env (firstIterPos (⟨tg, iter, [], 0⟩ :: rest) pos) (newList []) false (eval iter X.env) (some (assign (.Name y py) X.env))) _ _ s
  have h : tLX wi g t (own.map (·.2)) σ H (fun x H1 => gName i x σ H1 D.nx) := h
  refine wpAny_bind (thn (lx_core (Qf := fun _ s' => SP X pins D .next s') hturn hc hN I hi ok hg hb hV hs h fun L C s' m H' J q hn f => ?_) fun _ s' hq => wpAny_pure (wpAny_pure hq))
  show wpAny _ _ (assign (.Name y py) X.env (.ref L)) _ _ _
  refine wpAny_assign_Name (store_ok2 (v := L2.V.ref L) J hN hy (.inl hyl) rfl (fun s2 I2 ⟨a, sb, ha⟩ => ?_) (.inr hyl))
  obtain ⟨f0, f1, f2, f3, f4, f5⟩ := f
  have haC : C ≠ a := by
    rcases ha with z | z
    · rw [z]
      exact f1
    · exact fun e => f4 y a z e.symm
  exact ⟨m, hn.sameBut sb haC, fun h3 sb3 => ⟨_, H', I2.turned (t' := s2.toks) (fun b o hb e => (sb3.2 b hb).trans e) f0 f1 f3 f4 f5, q⟩⟩
end
end
section
/-! ### a range held by a name -/
def rgO (lo hi : Int) : Addr → HO := fun _ => .rng lo hi
theorem cr_rangeV {X0 : Cx} : CallR X0 (.type "range") (fun vs H Q => ∃ j, vs = [L2.V.int j] ∧ ∀ p, H p = none → Q (.ref p) (upd H p (.rng 0 j))) := by
  intro pins s σ H vs us Q I r h
  obtain ⟨j, rfl, q⟩ := h
  cases r with
  | cons r1 rr =>
    cases rr
    obtain ⟨t, rfl⟩ := r1
    exact call_range_1 ⟨.ref s.heap.objs.size, upd H s.heap.objs.size (.rng 0 j), I.laid (t' := s.toks + 1 + 1) (fun b o e => Heap.get?_push_of_some _ e) (Nat.le_refl _) ⟨s.toks, t, s.toks + 1, Heap.get?_push_size _ rfl⟩, rfl, q _ (I.hok.fresh (Nat.le_refl _))⟩
theorem pi_rngV {X : Cx} {tg e : Expr} {te : TE} (he : PE X e te) : PI X tg e (fun σ H R => te σ H fun x H1 => ∃ a lo hi, x = .ref a ∧ H1 a = some (.rng lo hi) ∧ -(2 ^ 62) ≤ lo ∧ lo < 2 ^ 62 ∧ -(2 ^ 62) ≤ hi ∧ hi < 2 ^ 62 ∧ R (Itr lo (hi - lo).toNat) H1) := by
  refine ⟨fun pins s σ H R I h => ?_⟩
  refine thn (he.run pins s σ H _ I h) fun v s1 ⟨x, H1, I1, r1, a, lo, hi, ex, hr, b1, b2, b3, b4, q⟩ => ?_
  subst ex
  cases r1
  obtain ⟨t, u, k, ho⟩ := I1.hok a _ hr
  refine wpAny_pyIter_range ho (small_one b1 b2 b3 b4) ?_
  refine ⟨s1.heap.objs.size, [s1.heap.objs.size], _, _, H1, rfl, I1.kept (t' := s1.toks) fun b o e => Heap.get?_push_of_some _ e, turn_range _ lo (hi - lo).toNat, ?_, fun b hb => ?_, q⟩
  · have z := Heap.get?_push_size s1.heap (o := { cls := .type "range_iterator", data := .fields #[rawInt lo, rawInt (Builtin.Range.rangeSize lo hi 1), rawInt 1] }) rfl
    have e1 : lo + ((0 : Nat) : Int) * 1 = lo := by omega
    have e2 : (((hi - lo).toNat : Nat) : Int) - ((0 : Nat) : Int) = Builtin.Range.rangeSize lo hi 1 := by
      rw [rangeSize_one]
      split <;> omega
    rw [e1, e2]
    exact z
  · have e : b = s1.heap.objs.size := by simpa using hb
    subst e
    exact I1.fpOk (Nat.le_refl _) (I1.hok.fresh (Nat.le_refl _))
section
variable {X : Cx} {tg e : Expr} {δ : List Sl} {ω : List Cell}
theorem di_rngV {P : List D → List Cell → Prop} (h : DE X e δ ω fun r ω1 => ∃ kx lo hi, r = .own kx ∧ ω1[kx]? = some (.oth (rgO lo hi)) ∧ -(2 ^ 62) ≤ lo ∧ lo < 2 ^ 62 ∧ -(2 ^ 62) ≤ hi ∧ hi < 2 ^ 62 ∧ P (rgD lo hi) ω1) : DI X tg e δ ω P := fun B F H as σ w ev R o => by
  refine ⟨_, pi_rngV pe_w, ?_⟩
  refine h B F H as σ w ev _ fun v B1 H1 as1 r ω1 e1 p1 w1 s1 ⟨kx, lo, hi, er, hk, b1, b2, b3, b4, hp⟩ => ?_
  subst er
  obtain ⟨a, rfl, ha⟩ := sl_own s1
  obtain ⟨hb, hh⟩ := (w1.at' kx a _ ha hk).2.2
  exact ⟨a, lo, hi, rfl, hh, b1, b2, b3, b4, o _ _ B1 H1 as1 ω1 e1 p1 w1 (it_rng lo hi) hp⟩
theorem ra_rngV {P : Sl → List Cell → Prop} {n : Int} (hp : P (.own ω.length) (ω ++ [.oth (rgO 0 n)])) : RA X (fun vs H Q => ∃ j, vs = [L2.V.int j] ∧ ∀ p, H p = none → Q (.ref p) (upd H p (.rng 0 j))) [.val (.int n)] ω P := fun B F H as vs w s Q o => by
  obtain ⟨v, rfl, s1⟩ := rs1 s
  obtain rfl := dp_int_inv (sl_val s1)
  refine ⟨n, rfl, fun p hn => ?_⟩
  have w1 : Wd X.K B F (upd H p (rgO 0 n p)) (as ++ [p]) (ω ++ [.oth (rgO 0 n)]) := w.own hn fun hb => ⟨hb, upd_same⟩
  refine o (.ref p) B _ _ _ _ (Same.refl _) (List.prefix_append _ _) w1 (slo ?_) hp
  rw [← w.len, List.getElem?_append_right (Nat.le_refl _), Nat.sub_self]
  rfl
end
/-! ### clauses -/
def nxt (elt iter : Expr) (gs : List Comprehension) (scope : Scope) (pos : Pos) (m : Nat) (acc : Value) (env : Env) : Sem Unit := do
      let x ← eval iter env
      standAt iter.pos
      let x ← foldedSetIterable iter env x
      let _ ← runOwn (.compStart (.ListComp elt gs scope pos) m (← holding [x] (pyIter x)) acc env) env
def emi (elt : Expr) (acc : Value) (env : Env) : Sem Unit := do let _ ← call (.builtin "list.append") [acc, ← eval elt env]
section
variable (elt t0 i0 t1 i1 t2 i2 : Expr) (scope : Scope) (pos : Pos) (acc : Value) (env : Env)
theorem turn30 : TurnIs elt t0 [⟨t0, i0, [], 0⟩, ⟨t1, i1, [], 0⟩, ⟨t2, i2, [], 0⟩] scope pos i0.pos 0 acc env (nxt elt i1 [⟨t0, i0, [], 0⟩, ⟨t1, i1, [], 0⟩, ⟨t2, i2, [], 0⟩] scope pos 1 acc env) := fun it => by
  unfold nxt
  simp only [LawfulMonad.bind_assoc]
  rfl
theorem turn31 : TurnIs elt t1 [⟨t0, i0, [], 0⟩, ⟨t1, i1, [], 0⟩, ⟨t2, i2, [], 0⟩] scope pos i1.pos 1 acc env (nxt elt i2 [⟨t0, i0, [], 0⟩, ⟨t1, i1, [], 0⟩, ⟨t2, i2, [], 0⟩] scope pos 2 acc env) := fun it => by
  unfold nxt
  simp only [LawfulMonad.bind_assoc]
  rfl
theorem turn32 : TurnIs elt t2 [⟨t0, i0, [], 0⟩, ⟨t1, i1, [], 0⟩, ⟨t2, i2, [], 0⟩] scope pos i2.pos 2 acc env (emi elt acc env) := fun it => rfl
theorem turn20 : TurnIs elt t0 [⟨t0, i0, [], 0⟩, ⟨t1, i1, [], 0⟩] scope pos i0.pos 0 acc env (nxt elt i1 [⟨t0, i0, [], 0⟩, ⟨t1, i1, [], 0⟩] scope pos 1 acc env) := fun it => by
  unfold nxt
  simp only [LawfulMonad.bind_assoc]
  rfl
theorem turn21 : TurnIs elt t1 [⟨t0, i0, [], 0⟩, ⟨t1, i1, [], 0⟩] scope pos i1.pos 1 acc env (emi elt acc env) := fun it => rfl
end
theorem cs_start {prog : Program} {w : World} {A : Around} {R : Result → Shared → Prop} {s : Shared} {elt : Expr} {gs : List Comprehension} {scope : Scope} {pos : Pos} {m : Nat} {it acc : Value} {env : Env}
    (hg : ((clausesOf (.ListComp elt gs scope pos))[m]?).elim false (·.is_async != 0) = false)
    (h0 : codeAny (model prog w) A (.compLoop (.ListComp elt gs scope pos) m it acc env) R s) (h : ∀ (Q : Value → Shared → Prop) (E : Value → Shared → Prop), Q it s → wpAny (model prog w) A (pyIter it) Q E s) :
    codeAny (model prog w) A (.compStart (.ListComp elt gs scope pos) m it acc env) R s := by
  refine codeAny_of_tree ?_
  show wpAny _ _ ((compStart (.ListComp elt gs scope pos) m it acc env).onRaise (fun x => do noteFrame x env; standAt theWindowsPlace)) _ _ s
  refine wpAny_notedAt ?_
  unfold compStart
  rw [hg]
  show wpAny _ _ (ask >>= _) _ _ s
  refine wpAny_bind (wpAny_askSetting (wpAny_ite ?_))
  split
  · first
      | exact wpAny_bind (wpAny_pure (wpAny_pure (And.intro rfl h0)))
      | exact wpAny_pure (And.intro rfl h0)
  · refine wpAny_bind (wpAny_rule ?_)
    cases hc : (clausesOf (.ListComp elt gs scope pos))[m]? with
    | none =>
      first
        | exact wpAny_bind (h _ _ (wpAny_pure (And.intro rfl h0)))
        | exact wpAny_bind (wpAny_pure (wpAny_bind (h _ _ (wpAny_pure (And.intro rfl h0)))))
    | some c => exact wpAny_bind (wpAny_standAt (wpAny_bind (h _ _ (wpAny_pure (And.intro rfl h0)))))
end
section
def wB (Y : Cx) (V : List Nat) (body : Sem Unit) : L2.St → Hp → (Hp → Prop) → Prop := fun σ H Q => ∃ t, Bod Y V body t ∧ t σ H Q
theorem bod_w {Y : Cx} {V : List Nat} {body : Sem Unit} : Bod Y V body (wB Y V body) := ⟨fun pins s σ H Q I ⟨_, p, q⟩ => p.run pins s σ H Q I q⟩
/-- the body puts the data out behind what the list at Dl has, and leaves all else -/
def DB (Y : Cx) (V : List Nat) (body : Sem Unit) (Dl : Addr) (δ : List Sl) (ω : List Cell) (out : List PyData) : Prop :=
  ∀ B F H as σ accV acc, Wd Y.K B (upd F Dl (.lst accV)) H as ω → EnvOk Y.K B as σ δ → DpAll Y.K B accV acc → acc.length + out.length ≤ 100000 → ∀ Q : Hp → Prop,
    (∀ B' H' accV', Same B B' → Wd Y.K B' (upd F Dl (.lst accV')) H' as ω → DpAll Y.K B' accV' (acc ++ out) → Q H') → wB Y V body σ H Q
theorem same_as {K : Fg} {B B1 F F1 H H1 : Hp} {as as1 : List Addr} {ω : List Cell} (w : Wd K B F H as ω) (w1 : Wd K B1 F1 H1 as1 ω) (p : as <+: as1) : as1 = as := (p.eq_of_length (by rw [w.len, w1.len])).symm
theorem db_app {Y : Cx} {elt : Expr} {Dl : Addr} {δ : List Sl} {ω : List Cell} {d : PyData} (hx : ∀ e s, Y.xe e s → False) (h : DE Y elt δ ω fun r ω' => r = .val d ∧ ω' = ω) : DB Y [] (emi elt (.ref Dl) Y.env) Dl δ ω [d] := fun B F H as σ accV acc w ev ha hl Q o => by
  refine ⟨_, bod_app hx pe_w, h B _ H as σ w ev _ fun v B1 H1 as1 r ω1 e1 p1 w1 s1 ⟨er, eω⟩ => ?_⟩
  subst er eω
  obtain rfl := same_as w w1 p1
  refine ⟨accV, (w1.f Dl _ upd_same).1, ?_, o B1 _ (accV ++ [v]) e1 w1.rehide (dpAll_app (dpAll_up e1 ha) (.cons (sl_val s1) .nil))⟩
  rw [dpAll_len ha, sizeLine_eq]
  rw [List.length_singleton] at hl
  omega
theorem flat_take {α : Type} {outs : List (List α)} {j : Nat} {x : List α} (h : outs[j]? = some x) : (outs.take (j + 1)).flatten = (outs.take j).flatten ++ x ∧ (outs.take j).flatten.length + x.length ≤ outs.flatten.length := by
  have e : (outs.take (j + 1)).flatten = (outs.take j).flatten ++ x := by
    rw [List.take_add_one, h, List.flatten_append]
    show _ ++ [x].flatten = _
    rw [List.flatten_singleton]
  refine ⟨e, ?_⟩
  have h2 := congrArg (fun l => (List.flatten l).length) (List.take_append_drop (j + 1) outs)
  rw [List.flatten_append, List.length_append, e, List.length_append] at h2
  omega
theorem wipe_as {σ σ4 : L2.St} {V : List Nat} (hl4 : σ4.length = (wipe σ V).length) (ha4 : ∀ i, i ∉ V → σ4[i]? = (wipe σ V)[i]?) : wipe σ4 V = wipe σ V := by
  refine wipe_eq (by rw [hl4, wipe_length]) fun j hj => ?_
  rw [ha4 j hj, wipe_get hj]
theorem db_cl {Y : Cx} {elt tg iter : Expr} {gs : List Comprehension} {scope : Scope} {pos p : Pos} {m : Nat} {Dl : Addr} {body : Sem Unit} {V V1 : List Nat} {δ : List Sl} {ω : List Cell} {out : List PyData} (hc : Y.calm = true) (hx : ∀ e s, Y.xe e s → False)
    (hturn : TurnIs elt tg gs scope pos p m (.ref Dl) Y.env body) (hg : ((clausesOf (.ListComp elt gs scope pos))[m]?).elim false (·.is_async != 0) = false) (hs : ∀ x, foldedSetIterable iter Y.env x = pure x) (hV : ∀ i ∈ V1, i ∈ V)
    (h : DI Y tg iter δ ω fun its ω' => ω' = ω ∧ ∃ outs : List (List PyData), outs.length = its.length ∧ outs.flatten = out ∧ ∀ (i : Nat) (d : PyData) (o : List PyData), its[i]? = some d → outs[i]? = some o → DG Y V tg d (wipeD δ V) fun δ2 => DB Y V1 body Dl δ2 ω o) :
    DB Y V (nxt elt iter gs scope pos m (.ref Dl) Y.env) Dl δ ω out := fun B F H as σ accV acc w ev ha hl Q o => by
  refine ⟨_, bod_cl (wi := wI Y tg iter) (g := wG Y tg) (t := wB Y V1 body) hc hx (fun _ => rfl) hturn (fun A R s it h0 h1 => cs_start hg h0 h1) pi_w pg_w hs bod_w hV, ?_⟩
  refine h B _ H as σ w ev _ fun J its B1 H1 as1 ω1 e1 p1 w1 hit ⟨eω, outs, hl1, hfl, ht⟩ => ?_
  subst eω hfl
  obtain rfl := same_as w w1 p1
  refine ⟨fun j k H' => k = its.length - j ∧ j ≤ its.length ∧ ∃ B' accV', Same B1 B' ∧ Wd Y.K B' (upd F Dl (.lst accV')) H' as1 ω1 ∧ DpAll Y.K B' accV' (acc ++ (outs.take j).flatten), ⟨its.length, by omega, Nat.zero_le _, B1, accV, Same.refl _, w1, ?_⟩, fun j k H' hW => ?_⟩
  · rw [List.take_zero, List.flatten_nil, List.append_nil]
    exact dpAll_up e1 ha
  obtain ⟨rfl, hj, B', accV', e2, w2, ha2⟩ := hW
  by_cases hlt : j < its.length
  · obtain ⟨hgo, hy⟩ := (hit B' _ H' as1 ω1 e2 w2).1 j its[j] (List.getElem?_eq_getElem hlt)
    have ho : outs[j]? = some outs[j] := List.getElem?_eq_getElem (by omega)
    obtain ⟨ft, fl⟩ := flat_take ho
    refine .inr ⟨hgo, fun H3 => ∃ B' accV', Same B1 B' ∧ Wd Y.K B' (upd F Dl (.lst accV')) H3 as1 ω1 ∧ DpAll Y.K B' accV' (acc ++ (outs.take (j + 1)).flatten), fun H3 q => ⟨its.length - (j + 1), by omega, rfl, hlt, q⟩, fun x H3 q => ?_⟩
    obtain ⟨B2, e3, w3, d3⟩ := hy x H3 q
    have ev3 : EnvOk Y.K B2 as1 (wipe σ V) (wipeD δ V) := envOk_wipe (envOk_up ((e1.trans e2).trans e3) (List.prefix_refl _) ev) V
    refine ht j its[j] outs[j] (List.getElem?_eq_getElem hlt) ho B2 H3 as1 (wipe σ V) x w3.b ev3 d3 _ fun σ4 δ4 ev4 hl4 ha4 hb => ?_
    refine ⟨wipe_as hl4 ha4, hb B2 F H3 as1 σ4 accV' (acc ++ (outs.take j).flatten) w3 ev4 (dpAll_up e3 ha2) ?_ _ fun B5 H5 accV5 e5 w5 ha5 => ⟨B5, accV5, (e2.trans e3).trans e5, w5, ?_⟩⟩
    · rw [List.length_append]
      omega
    · rw [ft, ← List.append_assoc]
      exact ha5
  · have ei : j = its.length := by omega
    subst ei
    refine .inl ⟨(hit B' _ H' as1 ω1 e2 w2).2, o B' H' accV' (e1.trans e2) w2 ?_⟩
    rw [← hl1, List.take_length] at ha2
    exact ha2
section
variable {X : Cx} {elt tg iter : Expr} {rest : List Comprehension} {scope : Scope} {own : List (Str × Nat)} {pos p0 : Pos} {V : List Nat} {δ : List Sl} {ω : List Cell} {P : Sl → List Cell → Prop} {body : Addr → Env → Sem Unit}
def LxTurn (X : Cx) (scope : Scope) (vs V : List Nat) (tg : Expr) (body : Addr → Env → Sem Unit) (δ : List Sl) (ω : List Cell) (its : List PyData) (outs : List (List PyData)) : Prop :=
  ∀ (i : Nat) (d : PyData) (o : List PyData), its[i]? = some d → outs[i]? = some o → ∀ Dl : Addr, Blk X scope fun Y => DG Y vs tg d (wipeD δ vs) fun δ2 => Blk X scope fun Y => DB Y V (body Dl Y.env) Dl δ2 ω o
theorem lx_read {vs : List Nat} (h : DI X tg iter δ ω fun its ω1 => ∃ outs : List (List PyData), outs.length = its.length ∧ outs.flatten.length ≤ 100000 ∧ LxTurn X scope vs V tg body δ ω1 its outs ∧ (P (.val (.list outs.flatten)) ω1 ∨ P (.own ω1.length) (ω1 ++ [.lst outs.flatten])))
    {B F H : Hp} {as : List Addr} {σ : L2.St} (w : Wd X.K B F H as ω) (ev : EnvOk X.K B as σ δ) (Q : VK) (o : Out X.K B F as P Q) :
    tLX (wI X tg iter) (fun v σ H Q => Blk X scope fun Y => wG Y tg v σ H Q) (fun Dl σ H Q => Blk X scope fun Y => wB Y V (body Dl Y.env) σ H Q) vs σ H Q := by
  refine h B F H as σ w ev _ fun J its B1 H1 as1 ω1 e1 p1 w1 hit ⟨outs, hl1, hfl, ht, hP⟩ => ?_
  intro Dl hD
  have hF : F Dl = none := w1.freeF hD
  refine ⟨fun j k H' => k = its.length - j ∧ j ≤ its.length ∧ ∃ B' accV', Same B1 B' ∧ Wd X.K B' (upd F Dl (.lst accV')) H' as1 ω1 ∧ DpAll X.K B' accV' (outs.take j).flatten, ⟨its.length, by omega, Nat.zero_le _, B1, [], Same.refl _, w1.hide hD, .nil⟩, fun j k H' hW => ?_⟩
  obtain ⟨rfl, hj, B', accV', e2, w2, ha2⟩ := hW
  by_cases hlt : j < its.length
  · obtain ⟨hgo, hy⟩ := (hit B' _ H' as1 ω1 e2 w2).1 j its[j] (List.getElem?_eq_getElem hlt)
    have ho : outs[j]? = some outs[j] := List.getElem?_eq_getElem (by omega)
    obtain ⟨ft, fl⟩ := flat_take ho
    refine .inr ⟨hgo, fun H3 => ∃ B' accV', Same B1 B' ∧ Wd X.K B' (upd F Dl (.lst accV')) H3 as1 ω1 ∧ DpAll X.K B' accV' (outs.take (j + 1)).flatten, fun H3 q => ⟨its.length - (j + 1), by omega, rfl, hlt, q⟩, fun x H3 q => ?_⟩
    obtain ⟨B2, e3, w3, d3⟩ := hy x H3 q
    have ev3 : EnvOk X.K B2 as1 (wipe σ vs) (wipeD δ vs) := envOk_wipe (envOk_up ((e1.trans e2).trans e3) p1 ev) vs
    intro s H0 C cl fp
    refine ht j its[j] outs[j] (List.getElem?_eq_getElem hlt) ho Dl s H0 C cl fp B2 H3 as1 (wipe σ vs) x w3.b ev3 d3 _ fun σ4 δ4 ev4 hl4 ha4 hb => ?_
    refine ⟨wipe_as hl4 ha4, ?_⟩
    intro s H0 C cl fp
    refine hb s H0 C cl fp B2 F H3 as1 σ4 accV' (outs.take j).flatten w3 ev4 (dpAll_up e3 ha2) (by omega) _ fun B5 H5 accV5 e5 w5 ha5 => ⟨B5, accV5, (e2.trans e3).trans e5, w5, ?_⟩
    rw [ft]
    exact ha5
  · have ei : j = its.length := by omega
    subst ei
    refine .inl ⟨(hit B' _ H' as1 ω1 e2 w2).2, ?_⟩
    rw [← hl1, List.take_length] at ha2
    rcases hP with hP | hP
    · obtain ⟨w3, s3⟩ := w2.show hF
      exact o _ _ H' as1 _ ω1 ((e1.trans e2).trans s3) p1 w3 (slv (.lst (.inl (.inl upd_same)) (dpAll_up s3 ha2))) hP
    · refine o _ B' H' _ _ _ (e1.trans e2) (p1.trans (List.prefix_append _ _)) (w2.toOwn hF ha2) (slo ?_) hP
      rw [← w2.len, List.getElem?_append_right (Nat.le_refl _), Nat.sub_self]
      rfl
theorem de_lx (hturn : ∀ D env, TurnIs elt tg (⟨tg, iter, [], 0⟩ :: rest) scope pos p0 0 (.ref D) env (body D env)) (hc : X.calm = true) (hN : X.N.Nodup) (ok : BlkOk X.N X.env.scope scope own) (hV : ∀ i ∈ V, i ∈ own.map (·.2))
    (h : DI X tg iter δ ω fun its ω1 => ∃ outs : List (List PyData), outs.length = its.length ∧ outs.flatten.length ≤ 100000 ∧ LxTurn X scope (own.map (·.2)) V tg body δ ω1 its outs ∧ (P (.val (.list outs.flatten)) ω1 ∨ P (.own ω1.length) (ω1 ++ [.lst outs.flatten])))
    (hs : ∀ x, foldedSetIterable iter X.env x = pure x := by intro _; rfl) : DE X (.ListComp elt (⟨tg, iter, [], 0⟩ :: rest) scope pos) δ ω P := fun B F H as σ w ev Q o =>
  ⟨_, pe_lx (V := V) (t := fun Dl σ H Q => Blk X scope fun Y => wB Y V (body Dl Y.env) σ H Q) hturn hc hN pi_w ok (fun s H0 C cl fp => ⟨fun pins s1 σ1 H1 v u Q1 I r hw => by obtain ⟨_, p, q⟩ := hw s H0 C cl fp; exact p.run pins s1 σ1 H1 v u Q1 I r q⟩)
    (fun D s H0 C cl fp => ⟨fun pins s1 σ1 H1 Q1 I hw => by obtain ⟨_, p, q⟩ := hw s H0 C cl fp; exact p.run pins s1 σ1 H1 Q1 I q⟩) hV hs, lx_read h w ev Q o⟩
theorem d1_asgLx {k : Kd} {i : Nat} {y : Str} {py spos : Pos} (hturn : ∀ D env, TurnIs elt tg (⟨tg, iter, [], 0⟩ :: rest) scope pos p0 0 (.ref D) env (body D env)) (hc : X.calm = true) (hN : X.N.Nodup) (hy : X.N[i]? = some y) (hyl : X.env.scope.names.lookup y = some .local)
    (hsw : swapsWith (.ListComp elt (⟨tg, iter, [], 0⟩ :: rest) scope pos) (some (.Name y py)) spos.line X.env = pure true) (ok : BlkOk X.N X.env.scope scope own) (hV : ∀ i ∈ V, i ∈ own.map (·.2))
    (h : DI X tg iter δ ω fun its ω1 => ∃ outs : List (List PyData), outs.length = its.length ∧ outs.flatten.length ≤ 100000 ∧ LxTurn X scope (own.map (·.2)) V tg body δ ω1 its outs ∧ (k.nx (δ.set i (.val (.list outs.flatten))) ω1 ∨ k.nx (δ.set i (.own ω1.length)) (ω1 ++ [.lst outs.flatten])))
    (hs : ∀ x, foldedSetIterable iter X.env x = pure x := by intro _; rfl) : D1 X (.Assign [.Name y py] (.ListComp elt (⟨tg, iter, [], 0⟩ :: rest) scope pos) spos) δ ω k := fun B F H as σ w ev E o =>
  ⟨_, ps_setLx (V := V) (t := fun Dl σ H Q => Blk X scope fun Y => wB Y V (body Dl Y.env) σ H Q) hturn hc hN hy hyl hsw pi_w ok (fun s H0 C cl fp => ⟨fun pins s1 σ1 H1 v u Q1 I r hw => by obtain ⟨_, p, q⟩ := hw s H0 C cl fp; exact p.run pins s1 σ1 H1 v u Q1 I r q⟩)
    (fun D s H0 C cl fp => ⟨fun pins s1 σ1 H1 Q1 I hw => by obtain ⟨_, p, q⟩ := hw s H0 C cl fp; exact p.run pins s1 σ1 H1 Q1 I q⟩) hV hs,
    lx_read (P := fun r ω1 => k.nx (δ.set i r) ω1) h w ev _ fun v B1 H1 as1 r ω1 e1 p1 w1 s1 hp => (o.nx.up e1 p1).here w1 (envOk_set s1 i (envOk_up e1 p1 ev)) hp⟩
end
end
section
section
variable {X : Cx} {e : Expr} {δ : List Sl} {ω : List Cell} {P : Sl → List Cell → Prop}
/-- an owned list takes all of a new one, which is forgotten -/
theorem de_extendC {xs : Expr} {apos cpos : Pos} (h : DE X xs δ ω fun r ω1 => ω1 = ω ∧ ∃ kx ds, r = .own kx ∧ ω[kx]? = some (.lst ds) ∧ DE X e δ ω fun s ω2 => ∃ zs, s = .own ω.length ∧ ω2 = ω ++ [.lst zs] ∧ ds.length + zs.length ≤ 1000000 ∧ P (.val .none) (ω.set kx (.lst (ds ++ zs))))
    (hbase : attributeBase xs "extend" X.env (eval xs X.env) = eval xs X.env := by rfl)
    (hfew : ((backTo cpos (starEach (e :: []) X.env)).all (fun x => !x.1) && (backToKw cpos (keywordEach [] X.env)).all (fun x => x.1.isSome) && decide ((e :: ([] : List Expr)).length + ([] : List Keyword).length + (if ([] : List Keyword).isEmpty then 0 else 1) < 30)) = true := by rfl)
    (hline : (apos.endLine == cpos.line) = true := by rfl) (hs : starEach (e :: []) X.env = (false, eval e X.env) :: starEach [] X.env := by rfl) (hplain : (backTo cpos (starEach [] X.env)).any (·.1) = false := by rfl) :
    DE X (.Call (.Attribute xs "extend" apos) [e] [] cpos) δ ω P := fun B F H as σ w ev Q o => by
  refine ⟨_, pe_bm PySem.F.plainAttrs_list PySem.F.slot_list_extend PySem.F.type_list_extend mt_extend pe_w (pa_cons pe_w pa_nil hs) hbase hfew hline hs hplain, ?_⟩
  refine h B F H as σ w ev _ fun v B1 H1 as1 r ω1 e1 p1 w1 s1 ⟨eω, kx, ds, er, hk, q1⟩ => ?_
  subst er eω
  obtain ⟨a, xs', rfl, ha, h1, h2⟩ := slo_lst w1 s1 hk
  refine ⟨.inl ⟨rfl, xs', SqL.of h1⟩, ?_⟩
  refine q1 B1 F H1 as1 σ w1 (envOk_up e1 p1 ev) _ fun u B2 H2 as2 r2 ω2 e2 p2 w2 s2 ⟨zs, er2, eω2, hz, hp⟩ => ?_
  subst er2 eω2
  obtain ⟨b, rfl, hb2⟩ := sl_own s2
  have hka : as2[kx]? = some a := pre_get p2 ha
  have hkω : (ω1 ++ [Cell.lst zs])[kx]? = some (.lst ds) := by
    rw [List.getElem?_append_left (List.getElem?_eq_some_iff.mp hk).1]
    exact hk
  have hlast : (ω1 ++ [Cell.lst zs])[ω1.length]? = some (.lst zs) := by
    rw [List.getElem?_append_right (Nat.le_refl _), Nat.sub_self]
    rfl
  obtain ⟨ha0, ys, h3, h4⟩ := w2.cellL hka hkω
  obtain ⟨hb0, zv, h5, h6⟩ := w2.cellL hb2 hlast
  refine ⟨a, b, ys, zv, rfl, rfl, h3, h5, ?_, ?_⟩
  · rw [dpAll_len h4, dpAll_len h6]
    exact Nat.le_trans hz (by decide)
  have w3 := w2.write (c' := .lst (ds ++ zs)) (o := .lst (ys ++ zv)) hka hkω ha0 ⟨ha0, _, upd_same, dpAll_app h4 h6⟩
  have hset : (ω1 ++ [Cell.lst zs]).set kx (.lst (ds ++ zs)) = ω1.set kx (.lst (ds ++ zs)) ++ [.lst zs] := List.set_append_left _ _ (List.getElem?_eq_some_iff.mp hk).1
  rw [hset] at w3
  obtain ⟨t, ht⟩ := p2
  have w4 : Wd X.K B2 F (upd H2 a (.lst (ys ++ zv))) as1 (ω1.set kx (.lst (ds ++ zs))) := by
    subst ht
    refine ⟨w3.b, w3.f, by rw [List.length_set]; exact w1.len, (List.nodup_append.mp w3.nd).1, fun k c x q1 q2 => w3.at' k c x ?_ ?_⟩
    · rw [List.getElem?_append_left (List.getElem?_eq_some_iff.mp q1).1]
      exact q1
    · rw [List.getElem?_append_left (List.getElem?_eq_some_iff.mp q2).1]
      exact q2
  exact o _ B2 _ as1 _ _ (e1.trans e2) p1 w4 (slv .non) hp
end
end
def topS (i : Nat) : Stmt := PySem.Challenge.pw_lastofkind_k01_systems_recognized.main.body.getD i (.Pass ⟨0, 0, 0, 0⟩)
abbrev s__wall : Stmt := topS 0
abbrev n__wall : List Str := ["k"]
theorem sc__wall : FnScope n__wall ["k"] (defScope s__wall) := ⟨rfl, rfl, rfl, by decide +kernel, rfl, by decide +kernel, by decide +kernel⟩
abbrev s_TooMany_init : Stmt := inClass (topS 11) 0
abbrev n_TooMany_init : List Str := ["self", "amount", "limit"]
theorem sc_TooMany_init : FnScope n_TooMany_init ["self", "amount", "limit"] (defScope s_TooMany_init) := ⟨rfl, rfl, rfl, by decide +kernel, rfl, by decide +kernel, by decide +kernel⟩
abbrev s_is_number : Stmt := topS 16
abbrev n_is_number : List Str := ["thing", "least", "most"]
theorem sc_is_number : FnScope n_is_number ["thing", "least", "most"] (defScope s_is_number) := ⟨rfl, rfl, rfl, by decide +kernel, rfl, by decide +kernel, by decide +kernel⟩
abbrev s_is_place : Stmt := topS 17
abbrev n_is_place : List Str := ["thing", "many"]
theorem sc_is_place : FnScope n_is_place ["thing", "many"] (defScope s_is_place) := ⟨rfl, rfl, rfl, by decide +kernel, rfl, by decide +kernel, by decide +kernel⟩
abbrev s_are_places : Stmt := topS 18
abbrev n_are_places : List Str := ["thing", "many", "part"]
theorem sc_are_places : FnScope n_are_places ["thing", "many"] (defScope s_are_places) := ⟨rfl, rfl, rfl, by decide +kernel, rfl, by decide +kernel, by decide +kernel⟩
abbrev s_are_operations : Stmt := topS 19
abbrev n_are_operations : List Str := ["thing", "states", "part"]
theorem sc_are_operations : FnScope n_are_operations ["thing", "states"] (defScope s_are_operations) := ⟨rfl, rfl, rfl, by decide +kernel, rfl, by decide +kernel, by decide +kernel⟩
abbrev s_are_kinds : Stmt := topS 20
abbrev n_are_kinds : List Str := ["thing", "many", "part"]
theorem sc_are_kinds : FnScope n_are_kinds ["thing", "many"] (defScope s_are_kinds) := ⟨rfl, rfl, rfl, by decide +kernel, rfl, by decide +kernel, by decide +kernel⟩
abbrev s_is_system : Stmt := topS 21
abbrev n_is_system : List Str := ["thing", "states", "start", "operations", "kinds"]
theorem sc_is_system : FnScope n_is_system ["thing"] (defScope s_is_system) := ⟨rfl, rfl, rfl, by decide +kernel, rfl, by decide +kernel, by decide +kernel⟩
abbrev s_is_log : Stmt := topS 22
abbrev n_is_log : List Str := ["system", "thing"]
theorem sc_is_log : FnScope n_is_log ["system", "thing"] (defScope s_is_log) := ⟨rfl, rfl, rfl, by decide +kernel, rfl, by decide +kernel, by decide +kernel⟩
abbrev s_check_system : Stmt := topS 23
abbrev n_check_system : List Str := ["system"]
theorem sc_check_system : FnScope n_check_system ["system"] (defScope s_check_system) := ⟨rfl, rfl, rfl, by decide +kernel, rfl, by decide +kernel, by decide +kernel⟩
abbrev s_check_log : Stmt := topS 24
abbrev n_check_log : List Str := ["system", "log"]
theorem sc_check_log : FnScope n_check_log ["system", "log"] (defScope s_check_log) := ⟨rfl, rfl, rfl, by decide +kernel, rfl, by decide +kernel, by decide +kernel⟩
abbrev s_check_operation : Stmt := topS 25
abbrev n_check_operation : List Str := ["system", "operation"]
theorem sc_check_operation : FnScope n_check_operation ["system", "operation"] (defScope s_check_operation) := ⟨rfl, rfl, rfl, by decide +kernel, rfl, by decide +kernel, by decide +kernel⟩
abbrev s_end_of : Stmt := topS 26
abbrev n_end_of : List Str := ["system", "state", "log", "operations", "entry"]
theorem sc_end_of : FnScope n_end_of ["system", "state", "log"] (defScope s_end_of) := ⟨rfl, rfl, rfl, by decide +kernel, rfl, by decide +kernel, by decide +kernel⟩
abbrev s_first_paths : Stmt := topS 27
abbrev n_first_paths : List Str := ["system", "paths", "waiting", "state", "entry", "operation"]
theorem sc_first_paths : FnScope n_first_paths ["system"] (defScope s_first_paths) := ⟨rfl, rfl, rfl, by decide +kernel, rfl, by decide +kernel, by decide +kernel⟩
abbrev s_reachable : Stmt := topS 28
abbrev n_reachable : List Str := ["system", "paths", "state"]
theorem sc_reachable : FnScope n_reachable ["system"] (defScope s_reachable) := ⟨rfl, rfl, rfl, by decide +kernel, rfl, by decide +kernel, by decide +kernel⟩
abbrev s_is_reached : Stmt := topS 31
abbrev n_is_reached : List Str := ["thing", "reached"]
theorem sc_is_reached : FnScope n_is_reached ["thing", "reached"] (defScope s_is_reached) := ⟨rfl, rfl, rfl, by decide +kernel, rfl, by decide +kernel, by decide +kernel⟩
abbrev s_are_moves : Stmt := topS 32
abbrev n_are_moves : List Str := ["thing", "reached", "part"]
theorem sc_are_moves : FnScope n_are_moves ["thing", "reached"] (defScope s_are_moves) := ⟨rfl, rfl, rfl, by decide +kernel, rfl, by decide +kernel, by decide +kernel⟩
abbrev s_followed : Stmt := topS 33
abbrev n_followed : List Str := ["reached", "moves", "later", "targets", "state"]
theorem sc_followed : FnScope n_followed ["reached", "moves", "later"] (defScope s_followed) := ⟨rfl, rfl, rfl, by decide +kernel, rfl, by decide +kernel, by decide +kernel⟩
abbrev s_repeated : Stmt := topS 34
abbrev n_repeated : List Str := ["reached", "moves", "many", "done"]
theorem sc_repeated : FnScope n_repeated ["reached", "moves", "many"] (defScope s_repeated) := ⟨rfl, rfl, rfl, by decide +kernel, rfl, by decide +kernel, by decide +kernel⟩
abbrev s_check_effects : Stmt := topS 35
abbrev n_check_effects : List Str := ["thing", "part"]
theorem sc_check_effects : FnScope n_check_effects ["thing"] (defScope s_check_effects) := ⟨rfl, rfl, rfl, by decide +kernel, rfl, by decide +kernel, by decide +kernel⟩
abbrev s_Effect_init : Stmt := inClass (topS 36) 0
abbrev n_Effect_init : List Str := ["self", "system", "moves", "reached"]
theorem sc_Effect_init : FnScope n_Effect_init ["self", "system", "moves"] (defScope s_Effect_init) := ⟨rfl, rfl, rfl, by decide +kernel, rfl, by decide +kernel, by decide +kernel⟩
abbrev s_Effect_of : Stmt := inClass (topS 36) 1
abbrev n_Effect_of : List Str := ["cls", "system", "log", "moves", "state"]
theorem sc_Effect_of : FnScope n_Effect_of ["cls", "system", "log"] (defScope s_Effect_of) := ⟨rfl, rfl, rfl, by decide +kernel, rfl, by decide +kernel, by decide +kernel⟩
abbrev s_Effect_joined : Stmt := inClass (topS 36) 2
abbrev n_Effect_joined : List Str := ["effects"]
theorem sc_Effect_joined : FnScope n_Effect_joined ["effects"] (defScope s_Effect_joined) := ⟨rfl, rfl, rfl, by decide +kernel, rfl, by decide +kernel, by decide +kernel⟩
abbrev s_Effect_system : Stmt := inClass (topS 36) 3
abbrev n_Effect_system : List Str := ["self"]
theorem sc_Effect_system : FnScope n_Effect_system ["self"] (defScope s_Effect_system) := ⟨rfl, rfl, rfl, by decide +kernel, rfl, by decide +kernel, by decide +kernel⟩
abbrev s_Effect_moves : Stmt := inClass (topS 36) 4
abbrev n_Effect_moves : List Str := ["self"]
theorem sc_Effect_moves : FnScope n_Effect_moves ["self"] (defScope s_Effect_moves) := ⟨rfl, rfl, rfl, by decide +kernel, rfl, by decide +kernel, by decide +kernel⟩
abbrev s_Effect_fixed : Stmt := inClass (topS 36) 5
abbrev n_Effect_fixed : List Str := ["self", "state", "target"]
theorem sc_Effect_fixed : FnScope n_Effect_fixed ["self"] (defScope s_Effect_fixed) := ⟨rfl, rfl, rfl, by decide +kernel, rfl, by decide +kernel, by decide +kernel⟩
abbrev s_Effect_add : Stmt := inClass (topS 36) 6
abbrev n_Effect_add : List Str := ["self", "other"]
theorem sc_Effect_add : FnScope n_Effect_add ["self", "other"] (defScope s_Effect_add) := ⟨rfl, rfl, rfl, by decide +kernel, rfl, by decide +kernel, by decide +kernel⟩
abbrev s_Effect_radd : Stmt := inClass (topS 36) 7
abbrev n_Effect_radd : List Str := ["self", "other"]
theorem sc_Effect_radd : FnScope n_Effect_radd ["self", "other"] (defScope s_Effect_radd) := ⟨rfl, rfl, rfl, by decide +kernel, rfl, by decide +kernel, by decide +kernel⟩
abbrev s_Effect_mul : Stmt := inClass (topS 36) 8
abbrev n_Effect_mul : List Str := ["self", "other"]
theorem sc_Effect_mul : FnScope n_Effect_mul ["self", "other"] (defScope s_Effect_mul) := ⟨rfl, rfl, rfl, by decide +kernel, rfl, by decide +kernel, by decide +kernel⟩
abbrev s_Effect_call : Stmt := inClass (topS 36) 9
abbrev n_Effect_call : List Str := ["self", "state"]
theorem sc_Effect_call : FnScope n_Effect_call ["self", "state"] (defScope s_Effect_call) := ⟨rfl, rfl, rfl, by decide +kernel, rfl, by decide +kernel, by decide +kernel⟩
abbrev s_Effect_eq : Stmt := inClass (topS 36) 10
abbrev n_Effect_eq : List Str := ["self", "other"]
theorem sc_Effect_eq : FnScope n_Effect_eq ["self", "other"] (defScope s_Effect_eq) := ⟨rfl, rfl, rfl, by decide +kernel, rfl, by decide +kernel, by decide +kernel⟩
abbrev s_Effect_repr : Stmt := inClass (topS 36) 11
abbrev n_Effect_repr : List Str := ["self"]
theorem sc_Effect_repr : FnScope n_Effect_repr ["self"] (defScope s_Effect_repr) := ⟨rfl, rfl, rfl, by decide +kernel, rfl, by decide +kernel, by decide +kernel⟩
abbrev s_Store_init : Stmt := inClass (topS 39) 0
abbrev n_Store_init : List Str := ["self", "system"]
theorem sc_Store_init : FnScope n_Store_init ["self", "system"] (defScope s_Store_init) := ⟨rfl, rfl, rfl, by decide +kernel, rfl, by decide +kernel, by decide +kernel⟩
abbrev s_Store_kept : Stmt := inClass (topS 39) 1
abbrev n_Store_kept : List Str := ["self", "log"]
theorem sc_Store_kept : FnScope n_Store_kept ["self", "log"] (defScope s_Store_kept) := ⟨rfl, rfl, rfl, by decide +kernel, rfl, by decide +kernel, by decide +kernel⟩
abbrev s_Store_limit : Stmt := inClass (topS 39) 2
abbrev n_Store_limit : List Str := ["self"]
theorem sc_Store_limit : FnScope n_Store_limit ["self"] (defScope s_Store_limit) := ⟨rfl, rfl, rfl, by decide +kernel, rfl, by decide +kernel, by decide +kernel⟩
abbrev s_Store_change : Stmt := inClass (topS 39) 3
abbrev n_Store_change : List Str := ["self", "log", "kept", "limit"]
theorem sc_Store_change : FnScope n_Store_change ["self", "log"] (defScope s_Store_change) := ⟨rfl, rfl, rfl, by decide +kernel, rfl, by decide +kernel, by decide +kernel⟩
abbrev s_Store_system : Stmt := inClass (topS 39) 4
abbrev n_Store_system : List Str := ["self"]
theorem sc_Store_system : FnScope n_Store_system ["self"] (defScope s_Store_system) := ⟨rfl, rfl, rfl, by decide +kernel, rfl, by decide +kernel, by decide +kernel⟩
abbrev s_Store_entries : Stmt := inClass (topS 39) 5
abbrev n_Store_entries : List Str := ["self"]
theorem sc_Store_entries : FnScope n_Store_entries ["self"] (defScope s_Store_entries) := ⟨rfl, rfl, rfl, by decide +kernel, rfl, by decide +kernel, by decide +kernel⟩
abbrev s_Store_entries_set : Stmt := inClass (topS 39) 6
abbrev n_Store_entries_set : List Str := ["self", "value"]
theorem sc_Store_entries_set : FnScope n_Store_entries_set ["self", "value"] (defScope s_Store_entries_set) := ⟨rfl, rfl, rfl, by decide +kernel, rfl, by decide +kernel, by decide +kernel⟩
abbrev s_Store_outcome : Stmt := inClass (topS 39) 7
abbrev n_Store_outcome : List Str := ["self"]
theorem sc_Store_outcome : FnScope n_Store_outcome ["self"] (defScope s_Store_outcome) := ⟨rfl, rfl, rfl, by decide +kernel, rfl, by decide +kernel, by decide +kernel⟩
abbrev s_Store_changes : Stmt := inClass (topS 39) 8
abbrev n_Store_changes : List Str := ["self"]
theorem sc_Store_changes : FnScope n_Store_changes ["self"] (defScope s_Store_changes) := ⟨rfl, rfl, rfl, by decide +kernel, rfl, by decide +kernel, by decide +kernel⟩
abbrev s_Store_assign_entries : Stmt := inClass (topS 39) 9
abbrev n_Store_assign_entries : List Str := ["self", "log"]
theorem sc_Store_assign_entries : FnScope n_Store_assign_entries ["self", "log"] (defScope s_Store_assign_entries) := ⟨rfl, rfl, rfl, by decide +kernel, rfl, by decide +kernel, by decide +kernel⟩
abbrev s_Store_extend : Stmt := inClass (topS 39) 10
abbrev n_Store_extend : List Str := ["self", "log"]
theorem sc_Store_extend : FnScope n_Store_extend ["self", "log"] (defScope s_Store_extend) := ⟨rfl, rfl, rfl, by decide +kernel, rfl, by decide +kernel, by decide +kernel⟩
abbrev s_Store_add : Stmt := inClass (topS 39) 11
abbrev n_Store_add : List Str := ["self", "operation"]
theorem sc_Store_add : FnScope n_Store_add ["self", "operation"] (defScope s_Store_add) := ⟨rfl, rfl, rfl, by decide +kernel, rfl, by decide +kernel, by decide +kernel⟩
abbrev s_Store_call : Stmt := inClass (topS 39) 12
abbrev n_Store_call : List Str := ["self", "operation"]
theorem sc_Store_call : FnScope n_Store_call ["self", "operation"] (defScope s_Store_call) := ⟨rfl, rfl, rfl, by decide +kernel, rfl, by decide +kernel, by decide +kernel⟩
abbrev s_Store_undo : Stmt := inClass (topS 39) 13
abbrev n_Store_undo : List Str := ["self"]
theorem sc_Store_undo : FnScope n_Store_undo ["self"] (defScope s_Store_undo) := ⟨rfl, rfl, rfl, by decide +kernel, rfl, by decide +kernel, by decide +kernel⟩
abbrev s_Store_trying : Stmt := inClass (topS 39) 14
abbrev n_Store_trying : List Str := ["self"]
theorem sc_Store_trying : FnScope n_Store_trying ["self"] (defScope s_Store_trying) := ⟨rfl, rfl, rfl, by decide +kernel, rfl, by decide +kernel, by decide +kernel⟩
abbrev s_Store_len : Stmt := inClass (topS 39) 15
abbrev n_Store_len : List Str := ["self"]
theorem sc_Store_len : FnScope n_Store_len ["self"] (defScope s_Store_len) := ⟨rfl, rfl, rfl, by decide +kernel, rfl, by decide +kernel, by decide +kernel⟩
abbrev s_Store_getitem : Stmt := inClass (topS 39) 16
abbrev n_Store_getitem : List Str := ["self", "at"]
theorem sc_Store_getitem : FnScope n_Store_getitem ["self", "at"] (defScope s_Store_getitem) := ⟨rfl, rfl, rfl, by decide +kernel, rfl, by decide +kernel, by decide +kernel⟩
abbrev s_Store_iter : Stmt := inClass (topS 39) 17
abbrev n_Store_iter : List Str := ["self"]
theorem sc_Store_iter : FnScope n_Store_iter ["self"] (defScope s_Store_iter) := ⟨rfl, rfl, rfl, by decide +kernel, rfl, by decide +kernel, by decide +kernel⟩
abbrev s_Store_contains : Stmt := inClass (topS 39) 18
abbrev n_Store_contains : List Str := ["self", "x"]
theorem sc_Store_contains : FnScope n_Store_contains ["self", "x"] (defScope s_Store_contains) := ⟨rfl, rfl, rfl, by decide +kernel, rfl, by decide +kernel, by decide +kernel⟩
abbrev s_Store_eq : Stmt := inClass (topS 39) 19
abbrev n_Store_eq : List Str := ["self", "other"]
theorem sc_Store_eq : FnScope n_Store_eq ["self", "other"] (defScope s_Store_eq) := ⟨rfl, rfl, rfl, by decide +kernel, rfl, by decide +kernel, by decide +kernel⟩
abbrev s_Store_repr : Stmt := inClass (topS 39) 20
abbrev n_Store_repr : List Str := ["self"]
theorem sc_Store_repr : FnScope n_Store_repr ["self"] (defScope s_Store_repr) := ⟨rfl, rfl, rfl, by decide +kernel, rfl, by decide +kernel, by decide +kernel⟩
abbrev s_l_draw : Stmt := topS 41
abbrev n_l_draw : List Str := ["_law_pen_here", "_law_many", "_law_digit", "_law_stir"]
theorem sc_l_draw : FnScope n_l_draw ["_law_pen_here", "_law_many"] (defScope s_l_draw) := ⟨rfl, rfl, rfl, by decide +kernel, rfl, by decide +kernel, by decide +kernel⟩
abbrev s_l_pick : Stmt := topS 42
abbrev n_l_pick : List Str := ["_law_pen_here", "_law_things"]
theorem sc_l_pick : FnScope n_l_pick ["_law_pen_here", "_law_things"] (defScope s_l_pick) := ⟨rfl, rfl, rfl, by decide +kernel, rfl, by decide +kernel, by decide +kernel⟩
abbrev s_l_pen : Stmt := topS 43
abbrev n_l_pen : List Str := ["_law_cell"]
theorem sc_l_pen : FnScope n_l_pen ["_law_cell"] (defScope s_l_pen) := ⟨rfl, rfl, rfl, by decide +kernel, rfl, by decide +kernel, by decide +kernel⟩
abbrev s_l_cell_at : Stmt := topS 44
abbrev n_l_cell_at : List Str := ["_law_script", "_law_k"]
theorem sc_l_cell_at : FnScope n_l_cell_at ["_law_script", "_law_k"] (defScope s_l_cell_at) := ⟨rfl, rfl, rfl, by decide +kernel, rfl, by decide +kernel, by decide +kernel⟩
abbrev s_l_drawn : Stmt := topS 45
abbrev n_l_drawn : List Str := ["_law_pen_here", "_law_many", "_law_size", "_law_operations", "_law_kinds", "_law_lap", "_law_state"]
theorem sc_l_drawn : FnScope n_l_drawn ["_law_pen_here"] (defScope s_l_drawn) := ⟨rfl, rfl, rfl, by decide +kernel, rfl, by decide +kernel, by decide +kernel⟩
abbrev s_l_cells : Stmt := topS 46
abbrev n_l_cells : List Str := ["_law_pen_here", "_law_high", "_law_low", "_law_operations", "_law_kinds", "_law_names", "_law_lap", "_law_cell", "_law_value", "_law_moves", "_law_state"]
theorem sc_l_cells : FnScope n_l_cells ["_law_pen_here"] (defScope s_l_cells) := ⟨rfl, rfl, rfl, by decide +kernel, rfl, by decide +kernel, by decide +kernel⟩
abbrev s_l_marks : Stmt := topS 47
abbrev n_l_marks : List Str := ["_law_pen_here", "_law_operations", "_law_kinds", "_law_lap", "_law_mark", "_law_puts", "_law_moves", "_law_state", "_law_own", "_law_other", "_law_both", "_law_bit"]
theorem sc_l_marks : FnScope n_l_marks ["_law_pen_here"] (defScope s_l_marks) := ⟨rfl, rfl, rfl, by decide +kernel, rfl, by decide +kernel, by decide +kernel⟩
abbrev s_l_turns : Stmt := topS 48
abbrev n_l_turns : List Str := ["_law_pen_here", "_law_many", "_law_operations", "_law_kinds", "_law_lap", "_law_way", "_law_value", "_law_moves", "_law_state"]
theorem sc_l_turns : FnScope n_l_turns ["_law_pen_here"] (defScope s_l_turns) := ⟨rfl, rfl, rfl, by decide +kernel, rfl, by decide +kernel, by decide +kernel⟩
abbrev s_l_system : Stmt := topS 49
abbrev n_l_system : List Str := ["_law_pen_here", "_law_way", "_law_found", "_law_many", "_law_start", "_law_operations", "_law_kinds", "_law_at", "_law_state", "_law_own"]
theorem sc_l_system : FnScope n_l_system ["_law_pen_here"] (defScope s_l_system) := ⟨rfl, rfl, rfl, by decide +kernel, rfl, by decide +kernel, by decide +kernel⟩
abbrev s_l_same : Stmt := topS 50
abbrev n_l_same : List Str := ["_law_found", "_law_due"]
theorem sc_l_same : FnScope n_l_same ["_law_found", "_law_due"] (defScope s_l_same) := ⟨rfl, rfl, rfl, by decide +kernel, rfl, by decide +kernel, by decide +kernel⟩
abbrev s_l_is_whole : Stmt := topS 51
abbrev n_l_is_whole : List Str := ["_law_value", "_law_low", "_law_high"]
theorem sc_l_is_whole : FnScope n_l_is_whole ["_law_value", "_law_low", "_law_high"] (defScope s_l_is_whole) := ⟨rfl, rfl, rfl, by decide +kernel, rfl, by decide +kernel, by decide +kernel⟩
abbrev s_l_is_system : Stmt := topS 52
abbrev n_l_is_system : List Str := ["_law_value", "_law_many", "_law_start", "_law_operations", "_law_kinds", "_law_operation", "_law_kind", "_law_state"]
theorem sc_l_is_system : FnScope n_l_is_system ["_law_value"] (defScope s_l_is_system) := ⟨rfl, rfl, rfl, by decide +kernel, rfl, by decide +kernel, by decide +kernel⟩
abbrev s_l_odd : Stmt := topS 53
abbrev n_l_odd : List Str := ["_law_pen_here", "_law_some"]
theorem sc_l_odd : FnScope n_l_odd ["_law_pen_here"] (defScope s_l_odd) := ⟨rfl, rfl, rfl, by decide +kernel, rfl, by decide +kernel, by decide +kernel⟩
abbrev s_l_bent : Stmt := topS 54
abbrev n_l_bent : List Str := ["_law_pen_here", "_law_value", "_law_deep", "_law_at", "_law_way"]
theorem sc_l_bent : FnScope n_l_bent ["_law_pen_here", "_law_value", "_law_deep"] (defScope s_l_bent) := ⟨rfl, rfl, rfl, by decide +kernel, rfl, by decide +kernel, by decide +kernel⟩
abbrev s_law : Stmt := topS 55
abbrev n_law : List Str := ["_law_script", "_law_k", "_law_pen_here", "_law_lap", "_law_made", "_law_once", "_law_values", "_law_value", "_law_kept", "_law_due"]
theorem sc_law : FnScope n_law ["_law_script"] (defScope s_law) := ⟨rfl, rfl, rfl, by decide +kernel, rfl, by decide +kernel, by decide +kernel⟩
local macro_rules | `(tactic| walk_at "vis") => `(tactic| first | exact .inl rfl | exact .inr (.inl rfl) | exact .inr (.inr rfl))
local macro_rules | `(tactic| walk_at "loc") => `(tactic| first | exact .inl rfl | exact .inr rfl)
local macro_rules | `(tactic| walk_at "room") => `(tactic| exact Room.mono (by assumption) (by decide))
local macro_rules | `(tactic| walk_at "seq") => `(tactic| first | exact .tup _ | exact .lst _ | exact .own rfl)
local macro_rules | `(tactic| walk_at "sz") => `(tactic| first | decide | (simp only [List.length_cons, List.length_nil, List.length_map, List.length_append, List.length_replicate, sizeLine_eq]; omega) | omega)
local macro_rules | `(tactic| walk_at "ar") => `(tactic| first | omega | decide | (unfold CDiv; omega) | (unfold CMul; omega) | (unfold CPow; decide))
local macro_rules | `(tactic| walk_at "plus") => `(tactic| first | refine Plus.int ?_ | refine Plus.tup (by walk_at "sz") ?_)
local macro_rules | `(tactic| walk_at "sh") => `(tactic| first | rfl | assumption)
local macro_rules | `(tactic| walk_at "fl") => `(tactic| first | rfl | assumption)
local macro_rules | `(tactic| walk_at "shows") => `(tactic| assumption)
local macro_rules | `(tactic| walk_at "mr") => `(tactic| exact List.mem_range.mpr (by walk_at "sz"))
section
/-! ### the law's pen: what is drawn -/
section
variable {X : Cx} {e a b c : Expr} {δ : List Sl} {ω : List Cell} {P : PO1} {pos : Pos}
/-- a % b, of which only the bounds are kept -/
theorem de_modR (h : DE X a δ ω fun x ω1 => ∃ i, x = .val (.int i) ∧ DE X b δ ω1 fun y ω2 => ∃ j, y = .val (.int j) ∧ 0 < j ∧ ∀ r, 0 ≤ r → r < j → P (.val (.int r)) ω2) : DE X (.BinOp a .Mod b pos) δ ω P :=
  de_mod (h.mono fun x ω1 ⟨i, e1, q⟩ => ⟨i, e1, q.mono fun y ω2 ⟨j, e2, hj, hp⟩ => ⟨j, e2, hj, hp _ (Int.emod_nonneg i (by omega)) (Int.emod_lt_of_pos i hj)⟩⟩)
theorem de_fdivR (h : DE X a δ ω fun x ω1 => ∃ i, x = .val (.int i) ∧ DE X b δ ω1 fun y ω2 => ∃ j, y = .val (.int j) ∧ CDiv i j ∧ ∀ r, (0 ≤ i → 0 ≤ r) → P (.val (.int r)) ω2) : DE X (.BinOp a .FloorDiv b pos) δ ω P :=
  de_fdiv (h.mono fun x ω1 ⟨i, e1, q⟩ => ⟨i, e1, q.mono fun y ω2 ⟨j, e2, hj, hp⟩ => ⟨j, e2, hj, hp _ fun hi => Int.ediv_nonneg hi (Int.le_of_lt hj.1)⟩⟩)
end
/-- a pen of which at most c numbers were stirred -/
def PenOk (c : Int) (cs : List D) : Prop := ∃ a b n : Int, cs = [.int a, .int b, .int n] ∧ 0 ≤ a ∧ 0 ≤ b ∧ b < 1000000007 ∧ 0 ≤ n ∧ n ≤ c
theorem PenOk.mono {c c' : Int} {cs : List D} (h : PenOk c cs) (hc : c ≤ c') : PenOk c' cs := by
  obtain ⟨a, b, n, e, h1, h2, h3, h4, h5⟩ := h
  exact ⟨a, b, n, e, h1, h2, h3, h4, by omega⟩
def φ_pen : List D → (List D → Prop) → Prop := fun ds P => ∃ i : Int, ds = [.int i] ∧ ∀ cs, PenOk 0 cs → P cs
def φ_draw : List D → List D → (D → List D → Prop) → Prop := fun cs ds P => ∃ (c many : Int), PenOk c cs ∧ ds = [.int many] ∧ 0 < many ∧ many < 1000000 ∧ c ≤ 1000000 ∧ ∀ (r : Nat) cs', (r : Int) < many → PenOk (c + 1) cs' → P (.int (r : Int)) cs'
section
variable {P : Program} {w : World} {K : Fg} {mg : Str → Option Value} {base : Heap} {f : Addr} {fd : FuncData} {k : Nat}
theorem ok_pen (F : Fun K "_law_pen" "_law_pen" s_l_pen f fd) (mM : mg "max" = none) : FnOk P w K mg base CX0 (k + 1) f fd ["_law_cell"] (spN K φ_pen) := by
  refine ok_N F sc_l_pen (fun ds Q h => ?_) fun ds Q h cdv A outer s H E hr => ?_
  · obtain ⟨i, rfl, _⟩ := h
    rfl
  · obtain ⟨i, rfl, hq⟩ := h
    refine ds_cons (d1_ret (de_lstO (da_cons (de_callB (call_max2 rfl) (by rfl) (by assumption) PyProof.Rows.boot_max (da_cons (de_int (da_cons (de_sub (de_var 0 rfl (by nofun) rfl (by walk_at "vis") ⟨_, rfl, (de_pow (de_int ⟨_, rfl, (de_int ⟨_, rfl, (by walk_at "ar"), ⟨_, rfl, (da_nil (ra_max2 (da_cons (de_modR (de_var 0 rfl (by nofun) rfl (by walk_at "vis") ⟨_, rfl, (de_int ⟨_, rfl, (by walk_at "ar"), fun r h1 h2 => (da_cons (de_int (da_nil ?_)))⟩)⟩)))))⟩⟩)⟩))⟩)))))))))
    refine ⟨[_, _, _], rfl, by walk_at "sz", ?_⟩
    refine ⟨0, _, rfl, rfl, hq _ ⟨_, r, 0, rfl, ?_, h1, h2, by omega, by omega⟩⟩
    split <;> omega
theorem ok_draw (F : Fun K "_law_draw" "_law_draw" s_l_draw f fd) : FnOk P w K mg base CX0 (k + 1) f fd ["_law_pen_here", "_law_many"] (spL K φ_draw) := by
  refine ok_L F sc_l_draw (fun cs ds Q h => ?_) fun cs ds Q h cdv A outer s H E hr => ?_
  · obtain ⟨c, many, _, rfl, _⟩ := h
    rfl
  · obtain ⟨c, many, ⟨a, b, n, rfl, ha, hb, hb2, hn, hn2⟩, rfl, hm, hm2, hc, hq⟩ := h
    have nd := sc_l_draw.nd
    have fin : ∀ (r : Int) (cs' : List D), 0 ≤ r → r < many → PenOk (c + 1) cs' → Q (.int r) cs' := fun r cs' h1 h2 h3 => by
      have e : r = ((r.toNat : Nat) : Int) := by omega
      rw [e]
      exact hq r.toNat cs' (by omega) h3
    refine ds_cons (d1_if (dt_cmp op_gt (nomark _) (de_ix (fun _ _ => rfl) (de_var 0 rfl (by nofun) rfl (by walk_at "vis") (de_int ⟨_, _, _, rfl, (by walk_at "seq"), rfl, (de_int (rr_I0 (fun _ _ => .bl _) ⟨_, rfl, ?_⟩))⟩)))))
    refine ite2 (fun hc => ?_) (fun hc => ?_)
    · -- _law_digit = _law_pen_here[0] % _law_many
      refine ds_cons (d1_asg (i := 2) nd rfl (by walk_at "loc") (de_modR (de_ix (fun _ _ => rfl) (de_var 0 rfl (by nofun) rfl (by walk_at "vis") (de_int ⟨_, _, _, rfl, (by walk_at "seq"), rfl, ⟨_, rfl, (de_var 1 rfl (by nofun) rfl (by walk_at "vis") ⟨_, rfl, (by walk_at "ar"), fun r h1 h2 => ?_⟩)⟩⟩)))))
      refine ds_cons (d1_setL (de_fdivR (de_ix (fun _ _ => rfl) (de_var 0 rfl (by nofun) rfl (by walk_at "vis") (de_int ⟨_, _, _, rfl, (by walk_at "seq"), rfl, ⟨_, rfl, (de_var 1 rfl (by nofun) rfl (by walk_at "vis") ⟨_, rfl, (by walk_at "ar"), fun z hz => ⟨_, rfl, (de_var 0 rfl (by nofun) rfl (by walk_at "vis") ⟨_, rfl, (de_int ⟨_, _, _, rfl, rfl, rfl, ?_⟩)⟩)⟩⟩)⟩⟩)))))
      refine ds_cons (d1_ret (de_var 2 rfl (by nofun) rfl (by walk_at "vis") ?_))
      exact ⟨_, _, rfl, rfl, fin r _ h1 h2 ⟨z, b, n, rfl, hz ha, hb, hb2, hn, by omega⟩⟩
    · refine ds_nil ?_
      refine ds_cons (d1_setL (de_plus (de_ix (fun _ _ => rfl) (de_var 0 rfl (by nofun) rfl (by walk_at "vis") (de_int ⟨_, _, _, rfl, (by walk_at "seq"), rfl, (de_int ?_)⟩)))))
      walk_at "plus"
      refine ⟨_, rfl, (de_var 0 rfl (by nofun) rfl (by walk_at "vis") ⟨_, rfl, (de_int ⟨_, _, _, rfl, rfl, rfl, ?_⟩)⟩)⟩
      refine ds_cons (d1_asg (i := 3) nd rfl (by walk_at "loc") (de_modR (de_times (de_plus (de_ix (fun _ _ => rfl) (de_var 0 rfl (by nofun) rfl (by walk_at "vis") (de_int ⟨_, _, _, rfl, (by walk_at "seq"), rfl, (de_times (de_int (de_ix (fun _ _ => rfl) (de_var 0 rfl (by nofun) rfl (by walk_at "vis") (de_int ⟨_, _, _, rfl, (by walk_at "seq"), rfl, ?_⟩)))))⟩)))))))
      refine .int (by walk_at "ar") ?_
      walk_at "plus"
      refine de_plus (de_int (de_times (de_int (de_ix (fun _ _ => rfl) (de_var 0 rfl (by nofun) rfl (by walk_at "vis") (de_int ⟨_, _, _, rfl, (by walk_at "seq"), rfl, ?_⟩))))))
      refine .int (by walk_at "ar") ?_
      walk_at "plus"
      refine .int (by walk_at "ar") ?_
      refine ⟨_, rfl, (de_int ⟨_, rfl, (by walk_at "ar"), fun r h1 h2 => ?_⟩)⟩
      refine ds_cons (d1_asg (i := 3) nd rfl (by walk_at "loc") (de_modR (de_plus (de_plus (de_times (de_var 3 rfl (by nofun) rfl (by walk_at "vis") (de_var 3 rfl (by nofun) rfl (by walk_at "vis") ?_)))))))
      refine .int (by walk_at "ar") ?_
      refine de_times (de_int (de_ix (fun _ _ => rfl) (de_var 0 rfl (by nofun) rfl (by walk_at "vis") (de_int ⟨_, _, _, rfl, (by walk_at "seq"), rfl, ?_⟩))))
      refine .int (by walk_at "ar") ?_
      walk_at "plus"
      refine de_int ?_
      walk_at "plus"
      refine ⟨_, rfl, (de_int ⟨_, rfl, (by walk_at "ar"), fun r2 h3 h4 => ?_⟩)⟩
      refine ds_cons (d1_ret (de_modR (de_fdiv (de_modR (de_times (de_var 3 rfl (by nofun) rfl (by walk_at "vis") (de_int ?_)))))))
      refine .int (by walk_at "ar") ?_
      refine ⟨_, rfl, (de_int ⟨_, rfl, (by walk_at "ar"), fun r3 h5 h6 => ⟨_, rfl, (de_int ⟨_, rfl, (by walk_at "ar"), ⟨_, rfl, (de_var 1 rfl (by nofun) rfl (by walk_at "vis") ⟨_, rfl, (by walk_at "ar"), fun r4 h7 h8 => ?_⟩)⟩⟩)⟩⟩)⟩
      exact ⟨_, _, rfl, rfl, fin r4 _ h7 h8 ⟨a, b, n + 1, rfl, ha, hb, hb2, by omega, by omega⟩⟩
end
end
section
/-! ### systems as data -/
structure Sys where
  n : Nat
  st : Nat
  ops : List (List Nat)
  kn : List (Option Nat)
def nD (i : Nat) : D := .int (i : Int)
def opD (o : List Nat) : D := .tuple (o.map nD)
def kD : Option Nat → D
  | none => .none
  | some i => nD i
def sysD (S : Sys) : D := .tuple [nD S.n, nD S.st, .tuple (S.ops.map opD), .tuple (S.kn.map kD)]
def OpOk (n : Nat) (o : List Nat) : Prop := o.length = n ∧ ∀ i ∈ o, i < n
def KOk (k : Option Nat) : Prop := ∀ i, k = some i → i ≤ 9
structure Sys.Ok (S : Sys) : Prop where
  n1 : 1 ≤ S.n
  n6 : S.n ≤ 6
  st : S.st < S.n
  o1 : 1 ≤ S.ops.length
  o6 : S.ops.length ≤ 6
  op : ∀ o ∈ S.ops, OpOk S.n o
  kl : S.kn.length = S.ops.length
  kk : ∀ k ∈ S.kn, KOk k
def logD (l : List Nat) : D := .tuple (l.map nD)
def LogOk (S : Sys) (l : List Nat) : Prop := ∀ e ∈ l, e < S.ops.length
theorem rgD0 (n : Nat) : rgD 0 (n : Int) = (List.range n).map nD := by
  unfold rgD nD
  have e : ((n : Int) - 0).toNat = n := by omega
  rw [e]
  refine List.map_congr_left fun i _ => ?_
  rw [Int.zero_add]
theorem snoc_all {α : Type} {p : α → Prop} {l : List α} {x : α} (h : ∀ y ∈ l, p y) (hx : p x) : ∀ y ∈ l ++ [x], p y := fun y hy => by
  rcases List.mem_append.mp hy with q | q
  · exact h y q
  · rw [List.mem_singleton.mp q]
    exact hx
theorem snoc_map {α β : Type} (f : α → β) (l : List α) (x : α) : l.map f ++ [f x] = (l ++ [x]).map f := by
  rw [List.map_append]
  rfl
end
section
/-! ### the law's systems -/
def φ_pick : List D → List D → (D → List D → Prop) → Prop := fun cs ds P => ∃ (c : Int) (ts : List D), PenOk c cs ∧ ds = [.list ts] ∧ 0 < ts.length ∧ ts.length < 1000000 ∧ c ≤ 1000000 ∧ ∀ t cs', t ∈ ts → PenOk (c + 1) cs' → P t cs'
def φ_gen (m : Int) : List D → List D → (D → List D → Prop) → Prop := fun cs ds P => ∃ c : Int, PenOk c cs ∧ ds = [] ∧ c + m ≤ 900000 ∧ ∀ S cs', S.Ok → PenOk (c + m) cs' → P (sysD S) cs'
theorem kind_of {t : D} {ks : List (Option Nat)} (h : t ∈ ks.map kD) (hk : ∀ k ∈ ks, KOk k) : ∃ k, t = kD k ∧ KOk k := by
  obtain ⟨k, h1, rfl⟩ := List.mem_map.mp h
  exact ⟨k, rfl, hk k h1⟩
theorem kok_none : KOk none := fun i h => by cases h
theorem kok_some {i : Nat} (h : i ≤ 9) : KOk (some i) := fun j e => by
  cases e
  exact h
section
variable {P : Program} {w : World} {K : Fg} {mg : Str → Option Value} {base : Heap} {f : Addr} {fd : FuncData} {k : Nat}
theorem ok_pick (F : Fun K "_law_pick" "_law_pick" s_l_pick f fd) (cD : Has P w K mg base 1 "_law_draw" (spL K φ_draw)) (mL : mg "len" = none) : FnOk P w K mg base CX0 2 f fd ["_law_pen_here", "_law_things"] (spL K φ_pick) := by
  refine ok_L F sc_l_pick (fun cs ds Q h => ?_) fun cs ds Q h cdv A outer s H E hr => ?_
  · obtain ⟨c, ts, _, rfl, _⟩ := h
    rfl
  · obtain ⟨c, ts, hp, rfl, h1, h2, hc, hq⟩ := h
    have nd := sc_l_pick.nd
    refine ds_cons (d1_ret (de_ix (fun _ _ => rfl) (de_var 1 rfl (by nofun) rfl (by walk_at "vis") (de_callL (by assumption) (by walk_at "room") (by rfl) (da_cons (de_var 0 rfl (by nofun) rfl (by walk_at "vis") (da_cons (de_callB call_len_seq (by rfl) (by assumption) PySem.boot_len (da_cons (de_var 1 rfl (by nofun) rfl (by walk_at "vis") (da_nil (ra_len (by walk_at "seq") (da_nil ⟨_, _, [_], rfl, rfl, ?_⟩)))))))))))))
    refine ⟨c, _, hp, rfl, by omega, by omega, hc, fun r cs' hr' hp' => ?_⟩
    have hr2 : r < ts.length := by omega
    refine ⟨_, _, _, rfl, .lst _, atI_nat (List.getElem?_eq_getElem hr2), ?_⟩
    exact ⟨_, _, rfl, rfl, hq _ _ (List.getElem_mem hr2) hp'⟩
theorem ok_drawn (F : Fun K "_law_drawn" "_law_drawn" s_l_drawn f fd) (cD : Has P w K mg base 1 "_law_draw" (spL K φ_draw)) (cP : Has P w K mg base 2 "_law_pick" (spL K φ_pick)) (mR : mg "range" = none) (mT : mg "tuple" = none) :
    FnOk P w K mg base CX0 3 f fd ["_law_pen_here"] (spL K (φ_gen 50)) := by
  refine ok_L F sc_l_drawn (fun cs ds Q h => ?_) fun cs ds Q h cdv A outer s H E hr => ?_
  · obtain ⟨c, _, rfl, _⟩ := h
    rfl
  · obtain ⟨c, hp, rfl, hc, hq⟩ := h
    have nd := sc_l_drawn.nd
    refine ds_cons (d1_tupA rfl (pgs_cons (pg_name (i := 1) nd rfl (by walk_at "loc")) (pgs_cons (pg_name (i := 2) nd rfl (by walk_at "loc")) pgs_nil)) (.cons (.cons .nil)) (da_cons (de_plus (de_int (de_callL (by assumption) (by walk_at "room") (by rfl) (da_cons (de_var 0 rfl (by nofun) rfl (by walk_at "vis") (da_cons (de_int (da_nil ⟨_, _, [_], rfl, rfl, ?_⟩))))))))))
    refine ⟨c, _, hp, rfl, by omega, by omega, by omega, fun m0 cs hm0 hp => ?_⟩
    walk_at "plus"
    refine da_cons (de_plus (de_int (de_callL (by assumption) (by walk_at "room") (by rfl) (da_cons (de_var 0 rfl (by nofun) rfl (by walk_at "vis") (da_cons (de_int (da_nil ⟨_, _, [_], rfl, rfl, ?_⟩))))))))
    refine ⟨c + 1, _, hp, rfl, by omega, by omega, by omega, fun z0 cs hz0 hp => ?_⟩
    walk_at "plus"
    refine da_nil ⟨rfl, by walk_at "sz", ?_⟩
    obtain ⟨many, em⟩ : ∃ many : Nat, many = 1 + m0 := ⟨_, rfl⟩
    obtain ⟨size, es⟩ : ∃ size : Nat, size = 1 + z0 := ⟨_, rfl⟩
    have e1 : (1 : Int) + (m0 : Int) = (many : Int) := by omega
    have e2 : (1 : Int) + (z0 : Int) = (size : Int) := by omega
    rw [e1, e2]
    refine ds_cons (d1_par (i := 3) (j := 4) rfl nd rfl rfl (by decide) rfl rfl (by rfl) (da_cons (de_lstO (da_nil ⟨[], rfl, by decide, da_cons (de_lstO (da_nil ⟨[], rfl, by decide, da_nil ⟨_, _, rfl, ?_⟩⟩))⟩))))
    refine ds_cons (d1_for PassesOwn.never rfl (di_rng1 (by rfl) (by assumption) (de_var 2 rfl (by nofun) rfl (by walk_at "vis") ⟨_, rfl, by omega, by omega, ?_⟩)))
    refine ⟨fun i δ' ω' => ∃ ops kns cs lap, ω' = [.lst cs, .lst (ops.map opD), .lst (kns.map kD)] ∧ ops.length = i ∧ kns.length = i ∧ (∀ o ∈ ops, OpOk many o) ∧ (∀ q ∈ kns, KOk q) ∧ PenOk (c + 2 + 7 * i) cs ∧
      δ' = [.own 0, .val (nD many), .val (nD size), .own 1, .own 2, lap, .no], ⟨[], [], _, .no, rfl, rfl, rfl, nofun, nofun, hp.mono (by omega), rfl⟩, ?_, ?_⟩
    · rintro i d δ' ω' hd ⟨ops, kns, cs, lap, rfl, hl1, hl2, ho, hk, hp, rfl⟩
      obtain ⟨hi, rfl⟩ := rgD_at hd
      refine dg_name (i := 5) nd rfl (.inl rfl) (by walk_at "mr") ?_
      refine ds_cons (d1_expr (de_append (de_var 3 rfl (by nofun) rfl (by walk_at "vis") ⟨_, _, rfl, rfl, (de_callTy call_tuple_of (by rfl) (by assumption) PyProof.Rows.boot_tuple (da_cons ?_))⟩)))
      refine de_lc rfl nd (blkOk_by (own := [("_law_state", 6)]) (N := n_l_drawn) (sc := defScope s_l_drawn) (by decide +kernel)) (di_rng1 (by rfl) (by assumption) (de_var 1 rfl (by nofun) rfl (by walk_at "vis") ⟨_, rfl, by omega, by omega, ?_⟩))
      refine ⟨by rw [rgD_len]; omega, fun j acc ω' => ∃ o cs, acc = o.map nD ∧ o.length = j ∧ (∀ x ∈ o, x < many) ∧ PenOk (c + 2 + 7 * i + j) cs ∧ ω' = [.lst cs, .lst (ops.map opD), .lst (kns.map kD)], ⟨[], _, rfl, rfl, nofun, hp.mono (by omega), rfl⟩, ?_, ?_⟩
      · rintro j d acc ω' hd ⟨o, cs, rfl, hol, hox, hp, rfl⟩ s H C cl fp
        obtain ⟨hj, rfl⟩ := rgD_at hd
        refine dg_name (i := 6) nd rfl (.inl rfl) (by decide) ?_
        intro s H C cl fp
        refine dts_nil ?_
        dsimp only
        rw [if_pos rfl]
        intro s H C cl fp
        refine de_callL (by assumption) (by walk_at "room") (by rfl) (da_cons (de_var 0 rfl (by nofun) rfl (by walk_at "vis") (da_cons (de_var 1 rfl (by nofun) rfl (by walk_at "vis") (da_nil ⟨_, _, [_], rfl, rfl, ?_⟩)))))
        refine ⟨_, _, hp, rfl, by omega, by omega, by omega, fun r cs hr' hp => ?_⟩
        exact ⟨_, rfl, o ++ [r], cs, snoc_map nD o r, by rw [List.length_append, hol]; rfl, snoc_all hox (by omega), hp.mono (by omega), rfl⟩
      · rintro acc ω' _ ⟨o, cs, rfl, hol, hox, hp, rfl⟩
        rw [rgD_len] at hol hp
        refine .inl ?_
        refine da_nil (ra_tuple (by walk_at "seq") ⟨_, _, rfl, rfl, ?_, ?_⟩)
        · rw [List.length_map]
          omega
        refine ds_cons (d1_expr (de_append (de_var 4 rfl (by nofun) rfl (by walk_at "vis") ⟨_, _, rfl, rfl, (de_callL (by assumption) (by walk_at "room") (by rfl) (da_cons (de_var 0 rfl (by nofun) rfl (by walk_at "vis") (da_cons (de_lst (da_cons (de_none (da_cons (de_int (da_cons (de_int (da_cons (de_int (da_cons (de_int (da_nil ?_))))))))))))))))⟩)))
        refine ⟨[_, _, _, _, _], rfl, by walk_at "sz", ?_⟩
        refine da_nil ⟨_, _, [_], rfl, rfl, ?_⟩
        refine ⟨_, _, hp, rfl, by decide, by decide, by omega, fun t cs ht hp => ?_⟩
        obtain ⟨q, rfl, hq2⟩ := kind_of (ks := [none, some 0, some 1, some 0, some 7]) ht (by
          intro q hq
          simp only [List.mem_cons, List.not_mem_nil, or_false] at hq
          rcases hq with rfl | rfl | rfl | rfl | rfl <;> first | exact kok_none | exact kok_some (by decide))
        refine ⟨_, _, rfl, rfl, ?_, ?_⟩
        · rw [List.length_map]
          omega
        refine ds_nil ⟨ops ++ [o], kns ++ [q], cs, _, ?_, by rw [List.length_append, hl1]; rfl, by rw [List.length_append, hl2]; rfl, snoc_all ho ⟨by omega, hox⟩, snoc_all hk hq2, hp.mono (by omega), rfl⟩
        rw [← snoc_map, ← snoc_map]
        rfl
    · rintro δ' ω' ⟨ops, kns, cs, lap, rfl, hl1, hl2, ho, hk, hp, rfl⟩
      rw [rgD_len] at hl1 hl2 hp
      refine ds_cons (d1_ret (de_tup (da_cons (de_var 1 rfl (by nofun) rfl (by walk_at "vis") (da_cons (de_callL (by assumption) (by walk_at "room") (by rfl) (da_cons (de_var 0 rfl (by nofun) rfl (by walk_at "vis") (da_cons (de_var 1 rfl (by nofun) rfl (by walk_at "vis") (da_nil ⟨_, _, [_], rfl, rfl, ?_⟩)))))))))))
      refine ⟨_, _, hp, rfl, by omega, by omega, by omega, fun r cs hr' hp => ?_⟩
      refine da_cons (de_callTy call_tuple_of (by rfl) (by assumption) PyProof.Rows.boot_tuple (da_cons (de_var 3 rfl (by nofun) rfl (by walk_at "vis") (da_nil (ra_tuple (by walk_at "seq") (da_cons (de_callTy call_tuple_of (by rfl) (by assumption) PyProof.Rows.boot_tuple (da_cons (de_var 4 rfl (by nofun) rfl (by walk_at "vis") (da_nil (ra_tuple (by walk_at "seq") (da_nil ?_))))))))))))
      refine ⟨[_, _, _, _], rfl, by walk_at "sz", ?_⟩
      exact ⟨_, _, rfl, rfl, hq ⟨many, r, ops, kns⟩ cs ⟨by show 1 ≤ many; omega, by show many ≤ 6; omega, by show r < many; omega, by show 1 ≤ ops.length; omega, by show ops.length ≤ 6; omega, ho, by show kns.length = ops.length; omega, hk⟩ (hp.mono (by omega))⟩
end
end
section
/-! ### two cells, marks, turns -/
def HL : List (Nat × Nat) := [(2, 2), (2, 3), (3, 2), (1, 4), (6, 1)]
theorem hl_size {hi lo : Nat} (h : (hi, lo) ∈ HL) : 1 ≤ hi * lo ∧ hi * lo ≤ 6 ∧ 1 ≤ hi ∧ hi ≤ 6 ∧ 1 ≤ lo ∧ lo ≤ 4 := by
  simp only [HL, List.mem_cons, List.not_mem_nil, or_false, Prod.mk.injEq] at h
  rcases h with ⟨rfl, rfl⟩ | ⟨rfl, rfl⟩ | ⟨rfl, rfl⟩ | ⟨rfl, rfl⟩ | ⟨rfl, rfl⟩ <;> decide
theorem hl_move1 {hi lo v s : Nat} (h : (hi, lo) ∈ HL) (hv : v < hi) : v * lo + s % lo < hi * lo := by
  simp only [HL, List.mem_cons, List.not_mem_nil, or_false, Prod.mk.injEq] at h
  rcases h with ⟨rfl, rfl⟩ | ⟨rfl, rfl⟩ | ⟨rfl, rfl⟩ | ⟨rfl, rfl⟩ | ⟨rfl, rfl⟩ <;> omega
theorem hl_move2 {hi lo v s : Nat} (h : (hi, lo) ∈ HL) (hv : v < lo) (hs : s < hi * lo) : s / lo * lo + v < hi * lo := by
  simp only [HL, List.mem_cons, List.not_mem_nil, or_false, Prod.mk.injEq] at h
  rcases h with ⟨rfl, rfl⟩ | ⟨rfl, rfl⟩ | ⟨rfl, rfl⟩ | ⟨rfl, rfl⟩ | ⟨rfl, rfl⟩ <;> omega
def NM : List (Option Nat × Option Nat) := [(some 0, some 1), (some 9, some 4), (some 3, none), (some 2, some 0)]
theorem nm_ok {a b : Option Nat} (h : (a, b) ∈ NM) : KOk a ∧ KOk b := by
  simp only [NM, List.mem_cons, List.not_mem_nil, or_false, Prod.mk.injEq] at h
  rcases h with ⟨rfl, rfl⟩ | ⟨rfl, rfl⟩ | ⟨rfl, rfl⟩ | ⟨rfl, rfl⟩ <;> exact ⟨by first | exact kok_none | exact kok_some (by decide), by first | exact kok_none | exact kok_some (by decide)⟩
theorem mem_map_of {α : Type} {f : α → D} {t : D} {l : List α} (h : t ∈ l.map f) : ∃ x, x ∈ l ∧ t = f x := by
  obtain ⟨x, h1, h2⟩ := List.mem_map.mp h
  exact ⟨x, h1, h2.symm⟩
section
variable {P : Program} {w : World} {K : Fg} {mg : Str → Option Value} {base : Heap} {f : Addr} {fd : FuncData} {k : Nat}
theorem ok_cells (F : Fun K "_law_cells" "_law_cells" s_l_cells f fd) (cD : Has P w K mg base 1 "_law_draw" (spL K φ_draw)) (cP : Has P w K mg base 2 "_law_pick" (spL K φ_pick)) (mR : mg "range" = none) (mT : mg "tuple" = none) :
    FnOk P w K mg base CX0 3 f fd ["_law_pen_here"] (spL K (φ_gen 50)) := by
  refine ok_L F sc_l_cells (fun cs ds Q h => ?_) fun cs ds Q h cdv A outer s H E hr => ?_
  · obtain ⟨c, _, rfl, _⟩ := h
    rfl
  · obtain ⟨c, hp, rfl, hc, hq⟩ := h
    have nd := sc_l_cells.nd
    refine ds_cons (d1_unp rfl (pgs_cons (pg_name (i := 1) nd rfl (by walk_at "loc")) (pgs_cons (pg_name (i := 2) nd rfl (by walk_at "loc")) pgs_nil)) (.cons (.cons .nil)) (de_callL (by assumption) (by walk_at "room") (by rfl) (da_cons (de_var 0 rfl (by nofun) rfl (by walk_at "vis") (da_cons (de_lst (da_cons (de_tup (da_cons (de_int (da_cons (de_int (da_nil ?_)))))))))))))
    refine ⟨[_, _], rfl, by walk_at "sz", ?_⟩
    refine da_cons (de_tup (da_cons (de_int (da_cons (de_int (da_nil ⟨[_, _], rfl, by walk_at "sz", ?_⟩))))))
    refine da_cons (de_tup (da_cons (de_int (da_cons (de_int (da_nil ⟨[_, _], rfl, by walk_at "sz", ?_⟩))))))
    refine da_cons (de_tup (da_cons (de_int (da_cons (de_int (da_nil ⟨[_, _], rfl, by walk_at "sz", ?_⟩))))))
    refine da_cons (de_tup (da_cons (de_int (da_cons (de_int (da_nil ⟨[_, _], rfl, by walk_at "sz", ?_⟩))))))
    refine da_nil ⟨[_, _, _, _, _], rfl, by walk_at "sz", ?_⟩
    refine da_nil ⟨_, _, [_], rfl, rfl, ?_⟩
    refine ⟨c, _, hp, rfl, by decide, by decide, by omega, fun t cs ht hp => ?_⟩
    obtain ⟨⟨hi, lo⟩, hm, rfl⟩ := mem_map_of (f := fun p : Nat × Nat => PyData.tuple [nD p.1, nD p.2]) (l := HL) ht
    obtain ⟨z1, z2, z3, z4, z5, z6⟩ := hl_size hm
    refine ⟨[nD hi, nD lo], rfl, rfl, ?_⟩
    refine ds_cons (d1_par (i := 3) (j := 4) rfl nd rfl rfl (by decide) rfl rfl (by rfl) (da_cons (de_lstO (da_nil ⟨[], rfl, by decide, da_cons (de_lstO (da_nil ⟨[], rfl, by decide, da_nil ⟨_, _, rfl, ?_⟩⟩))⟩))))
    refine ds_cons (d1_asg (i := 5) nd rfl (by walk_at "loc") (de_callL (by assumption) (by walk_at "room") (by rfl) (da_cons (de_var 0 rfl (by nofun) rfl (by walk_at "vis") (da_cons (de_lst (da_cons (de_tup (da_cons (de_int (da_cons (de_int (da_nil ?_)))))))))))))
    refine ⟨[_, _], rfl, by walk_at "sz", ?_⟩
    refine da_cons (de_tup (da_cons (de_int (da_cons (de_int (da_nil ⟨[_, _], rfl, by walk_at "sz", ?_⟩))))))
    refine da_cons (de_tup (da_cons (de_int (da_cons (de_none (da_nil ⟨[_, _], rfl, by walk_at "sz", ?_⟩))))))
    refine da_cons (de_tup (da_cons (de_int (da_cons (de_int (da_nil ⟨[_, _], rfl, by walk_at "sz", ?_⟩))))))
    refine da_nil ⟨[_, _, _, _], rfl, by walk_at "sz", ?_⟩
    refine da_nil ⟨_, _, [_], rfl, rfl, ?_⟩
    refine ⟨_, _, hp, rfl, by decide, by decide, by omega, fun t cs ht hp => ?_⟩
    obtain ⟨⟨na, nb⟩, hnm, rfl⟩ := mem_map_of (f := fun p : Option Nat × Option Nat => PyData.tuple [kD p.1, kD p.2]) (l := NM) ht
    obtain ⟨hna, hnb⟩ := nm_ok hnm
    refine ds_cons (d1_for PassesOwn.never rfl (di_rng1 (by rfl) (by assumption) (de_plus (de_int (de_callL (by assumption) (by walk_at "room") (by rfl) (da_cons (de_var 0 rfl (by nofun) rfl (by walk_at "vis") (da_cons (de_int (da_nil ⟨_, _, [_], rfl, rfl, ?_⟩))))))))))
    refine ⟨_, _, hp, rfl, by omega, by omega, by omega, fun z0 cs hz0 hp => ?_⟩
    refine .int ⟨_, rfl, by omega, by omega, ?_⟩
    refine ⟨fun i δ' ω' => ∃ ops kns cs s6 s7 s8 s9, ω' = [.lst cs, .lst (ops.map opD), .lst (kns.map kD)] ∧ ops.length = i ∧ kns.length = i ∧ (∀ o ∈ ops, OpOk (hi * lo) o) ∧ (∀ q ∈ kns, KOk q) ∧ PenOk (c + 3 + 2 * i) cs ∧
      δ' = [.own 0, .val (nD hi), .val (nD lo), .own 1, .own 2, .val (.tuple [kD na, kD nb]), s6, s7, s8, s9, .no], ⟨[], [], _, .no, .no, .no, .no, rfl, rfl, rfl, nofun, nofun, hp.mono (by omega), rfl⟩, ?_, ?_⟩
    · rintro i d δ' ω' hd ⟨ops, kns, cs, s6, s7, s8, s9, rfl, hl1, hl2, ho, hk, hp, rfl⟩
      obtain ⟨hi', rfl⟩ := rgD_at hd
      refine dg_name (i := 6) nd rfl (.inl rfl) (by walk_at "mr") ?_
      refine ds_cons (d1_asg (i := 7) nd rfl (by walk_at "loc") (de_callL (by assumption) (by walk_at "room") (by rfl) (da_cons (de_var 0 rfl (by nofun) rfl (by walk_at "vis") (da_cons (de_int (da_nil ⟨_, _, [_], rfl, rfl, ?_⟩)))))))
      refine ⟨_, _, hp, rfl, by omega, by omega, by omega, fun cell cs hcell hp => ?_⟩
      refine ds_cons (d1_asg (i := 8) nd rfl (by walk_at "loc") (de_callL (by assumption) (by walk_at "room") (by rfl) (da_cons (de_var 0 rfl (by nofun) rfl (by walk_at "vis") (da_cons (de_ix (fun _ _ => rfl) (de_lst (da_cons (de_var 1 rfl (by nofun) rfl (by walk_at "vis") (da_cons (de_var 2 rfl (by nofun) rfl (by walk_at "vis") (da_nil ?_))))))))))))
      refine ⟨[_, _], rfl, by walk_at "sz", ?_⟩
      refine de_var 7 rfl (by nofun) rfl (by walk_at "vis") ?_
      have hcc : cell = 0 ∨ cell = 1 := by omega
      have hat : atI [nD hi, nD lo] (cell : Int) = some (nD (if cell = 0 then hi else lo)) := by rcases hcc with rfl | rfl <;> rfl
      refine ⟨_, _, _, rfl, by walk_at "seq", hat, ?_⟩
      refine da_nil ⟨_, _, [_], rfl, rfl, ?_⟩
      refine ⟨_, _, hp, rfl, by split <;> omega, by split <;> omega, by omega, fun v cs hv hp => ?_⟩
      have hv2 : v < (if cell = 0 then hi else lo) := by split at hv <;> split <;> omega
      obtain ⟨mv, hmv⟩ : ∃ mv : Nat → Nat, ∀ s, mv s = if cell = 0 then v * lo + s % lo else s / lo * lo + v := ⟨_, fun _ => rfl⟩
      have hlt : ∀ s, s < hi * lo → mv s < hi * lo := fun s hs => by
        rw [hmv]
        rcases hcc with rfl | rfl
        · exact hl_move1 hm hv2
        · exact hl_move2 hm hv2 hs
      refine ds_cons (d1_asgLc (i := 9) rfl nd rfl rfl (sw_true rfl rfl rfl (by decide +kernel)) (blkOk_by (own := [("_law_state", 10)]) (N := n_l_cells) (sc := defScope s_l_cells) (by decide +kernel)) (di_rng1 (by rfl) (by assumption) (de_times (de_var 1 rfl (by nofun) rfl (by walk_at "vis") (de_var 2 rfl (by nofun) rfl (by walk_at "vis") (.int (by walk_at "ar") ?_))))))
      have ecast : ((hi : Nat) : Int) * ((lo : Nat) : Int) = ((hi * lo : Nat) : Int) := by rw [Int.natCast_mul]
      rw [ecast]
      refine ⟨_, rfl, by omega, by omega, ?_⟩
      refine ⟨by rw [rgD_len]; omega, _, ⟨rfl, rfl⟩, lc_map (fun d => match d with | .int s => nD (mv s.toNat) | _ => .none) (fun j d hd s H C cl fp => ?_), fun acc ω' hacc ⟨ew, ea⟩ => .inl ?_⟩
      · obtain ⟨hj, rfl⟩ := rgD_at hd
        refine dg_name (i := 10) nd rfl (.inl rfl) (by decide) ?_
        intro s H C cl fp
        have ej : (0 : Int) + (j : Int) = ((j : Nat) : Int) := by omega
        rw [ej]
        refine de_if (dt_cmp (op_eqD (Room.units hr)) (nomark _) (de_var 7 rfl (by nofun) rfl (by walk_at "vis") (de_int (rr_eqD (by walk_at "sh") (by walk_at "sh") ⟨_, rfl, ?_⟩))))
        have ec : PyData.eqv (.int ((cell : Nat) : Int)) (.int 0) = decide (cell = 0) := by
          rcases hcc with rfl | rfl <;> rfl
        rw [ec]
        refine ite2 (fun hc0 => ?_) (fun hc0 => ?_)
        · have hc0 := of_decide_eq_true hc0
          refine de_plus (de_times (de_var 8 rfl (by nofun) rfl (by walk_at "vis") (de_var 2 rfl (by nofun) rfl (by walk_at "vis") (.int (by walk_at "ar") ?_))))
          refine de_mod (de_var 10 rfl (by nofun) rfl (by walk_at "vis") ⟨_, rfl, (de_var 2 rfl (by nofun) rfl (by walk_at "vis") ⟨_, rfl, (by walk_at "ar"), .int ⟨?_, rfl⟩⟩)⟩)
          show Sl.val (.int _) = Sl.val (.int ((mv ((j : Nat) : Int).toNat : Nat) : Int))
          rw [Int.toNat_natCast, hmv, if_pos hc0]
          congr 2
        · have hc0 := fun z => hc0 (decide_eq_true z)
          refine de_plus (de_times (de_fdiv (de_var 10 rfl (by nofun) rfl (by walk_at "vis") ⟨_, rfl, (de_var 2 rfl (by nofun) rfl (by walk_at "vis") ⟨_, rfl, (by walk_at "ar"), (de_var 2 rfl (by nofun) rfl (by walk_at "vis") (.int (by walk_at "ar") ?_))⟩)⟩)))
          refine de_var 8 rfl (by nofun) rfl (by walk_at "vis") (.int ⟨?_, rfl⟩)
          show Sl.val (.int _) = Sl.val (.int ((mv ((j : Nat) : Int).toNat : Nat) : Int))
          rw [Int.toNat_natCast, hmv, if_neg hc0]
          congr 2
      · subst ew ea
        have emap : ((rgD 0 ((hi * lo : Nat) : Int)).take (rgD 0 ((hi * lo : Nat) : Int)).length).map (fun d => match d with | .int s => nD (mv s.toNat) | _ => .none) = ((List.range (hi * lo)).map mv).map nD := by
          rw [List.take_length, rgD0, List.map_map, List.map_map]
          rfl
        rw [emap]
        have hoo : OpOk (hi * lo) ((List.range (hi * lo)).map mv) := ⟨by rw [List.length_map, List.length_range], fun x hx => by
          obtain ⟨s, hs, rfl⟩ := List.mem_map.mp hx
          exact hlt s (List.mem_range.mp hs)⟩
        refine ds_cons (d1_expr (de_append (de_var 3 rfl (by nofun) rfl (by walk_at "vis") ⟨_, _, rfl, rfl, (de_callTy call_tuple_of (by rfl) (by assumption) PyProof.Rows.boot_tuple (da_cons (de_var 9 rfl (by nofun) rfl (by walk_at "vis") (da_nil (ra_tuple (by walk_at "seq") ⟨_, _, rfl, rfl, ?_, ?_⟩)))))⟩)))
        · rw [List.length_map]
          omega
        refine ds_cons (d1_expr (de_append (de_var 4 rfl (by nofun) rfl (by walk_at "vis") ⟨_, _, rfl, rfl, (de_ix (fun _ _ => rfl) (de_var 5 rfl (by nofun) rfl (by walk_at "vis") (de_var 7 rfl (by nofun) rfl (by walk_at "vis") ?_)))⟩)))
        have hat2 : atI [kD na, kD nb] (cell : Int) = some (kD (if cell = 0 then na else nb)) := by rcases hcc with rfl | rfl <;> rfl
        refine ⟨_, _, _, rfl, by walk_at "seq", hat2, ?_⟩
        refine ⟨_, _, rfl, rfl, ?_, ?_⟩
        · rw [List.length_map]
          omega
        refine ds_nil ⟨ops ++ [(List.range (hi * lo)).map mv], kns ++ [if cell = 0 then na else nb], cs, _, _, _, _, ?_, by rw [List.length_append, hl1]; rfl, by rw [List.length_append, hl2]; rfl, snoc_all ho hoo, snoc_all hk (by split <;> assumption), hp.mono (by omega), rfl⟩
        rw [← snoc_map, ← snoc_map]
        rfl
    · rintro δ' ω' ⟨ops, kns, cs, s6, s7, s8, s9, rfl, hl1, hl2, ho, hk, hp, rfl⟩
      rw [rgD_len] at hl1 hl2 hp
      have ecast : ((hi : Nat) : Int) * ((lo : Nat) : Int) = ((hi * lo : Nat) : Int) := by rw [Int.natCast_mul]
      refine ds_cons (d1_ret (de_tup (da_cons (de_times (de_var 1 rfl (by nofun) rfl (by walk_at "vis") (de_var 2 rfl (by nofun) rfl (by walk_at "vis") (.int (by walk_at "ar") ?_)))))))
      rw [ecast]
      refine da_cons (de_callL (by assumption) (by walk_at "room") (by rfl) (da_cons (de_var 0 rfl (by nofun) rfl (by walk_at "vis") (da_cons (de_times (de_var 1 rfl (by nofun) rfl (by walk_at "vis") (de_var 2 rfl (by nofun) rfl (by walk_at "vis") (.int (by walk_at "ar") ?_))))))))
      rw [ecast]
      refine da_nil ⟨_, _, [_], rfl, rfl, ?_⟩
      refine ⟨_, _, hp, rfl, by omega, by omega, by omega, fun r cs hr' hp => ?_⟩
      refine da_cons (de_callTy call_tuple_of (by rfl) (by assumption) PyProof.Rows.boot_tuple (da_cons (de_var 3 rfl (by nofun) rfl (by walk_at "vis") (da_nil (ra_tuple (by walk_at "seq") (da_cons (de_callTy call_tuple_of (by rfl) (by assumption) PyProof.Rows.boot_tuple (da_cons (de_var 4 rfl (by nofun) rfl (by walk_at "vis") (da_nil (ra_tuple (by walk_at "seq") (da_nil ?_))))))))))))
      refine ⟨[_, _, _, _], rfl, by walk_at "sz", ?_⟩
      exact ⟨_, _, rfl, rfl, hq ⟨hi * lo, r, ops, kns⟩ cs ⟨z1, z2, by show r < hi * lo; omega, by show 1 ≤ ops.length; omega, by show ops.length ≤ 6; omega, ho, by show kns.length = ops.length; omega, hk⟩ (hp.mono (by omega))⟩
end
end
section
section
variable {P : Program} {w : World} {K : Fg} {mg : Str → Option Value} {base : Heap} {f : Addr} {fd : FuncData} {k : Nat}
theorem bits_sum (g : D → Bool) : ∃ n : Nat, n ≤ 3 ∧ ([PyData.int 1, .int 2].filter g) = (([1, 2] : List Int).filter fun i => g (.int i)).map PyData.int ∧ (([1, 2] : List Int).filter fun i => g (.int i)).sum = (n : Int) := by
  simp only [List.filter_cons, List.filter_nil]
  cases g (.int 1) <;> cases g (.int 2)
  · exact ⟨0, by decide, rfl, rfl⟩
  · exact ⟨2, by decide, rfl, rfl⟩
  · exact ⟨1, by decide, rfl, rfl⟩
  · exact ⟨3, by decide, rfl, rfl⟩
theorem bits_flat (g : D → Bool) : ([PyData.int 1, .int 2].filter g).all flat = true ∧ ([PyData.int 1, .int 2].filter g).length ≤ 2 := by
  simp only [List.filter_cons, List.filter_nil]
  cases g (.int 1) <;> cases g (.int 2) <;> exact ⟨rfl, by decide⟩
theorem filter_all {g : D → Bool} {l : List D} (h : l.all flat = true) : (l.filter g).all flat = true := by
  rw [List.all_eq_true] at h ⊢
  exact fun x hx => h x (List.mem_filter.mp hx).1
theorem two_dead (W : List Cell) (x y : Cell) : ((W ++ [x] ++ [y]).set W.length .dead).set (W ++ [x]).length .dead = W ++ [.dead, .dead] := by
  rw [List.append_assoc, List.set_append_right _ _ (Nat.le_refl _), Nat.sub_self]
  show (W ++ [.dead, y]).set (W ++ [x]).length .dead = _
  rw [List.set_append_right _ _ (by rw [List.length_append]; omega)]
  have e : (W ++ [x]).length - W.length = 1 := by
    rw [List.length_append]
    simp
  rw [e]
  rfl
theorem mid_at (a b c m : Cell) (l r : List Cell) : (a :: b :: c :: (l ++ m :: r))[l.length + 1 + 1 + 1]? = some m := by
  rw [List.getElem?_cons_succ, List.getElem?_cons_succ, List.getElem?_cons_succ, List.getElem?_append_right (Nat.le_refl _), Nat.sub_self]
  rfl
theorem mid_set (a b c m : Cell) (l r : List Cell) (z : Cell) : (a :: b :: c :: (l ++ m :: r)).set (l.length + 1 + 1 + 1) z = a :: b :: c :: (l ++ z :: r) := by
  rw [List.set_cons_succ, List.set_cons_succ, List.set_cons_succ, List.set_append_right _ _ (Nat.le_refl _), Nat.sub_self]
  rfl
theorem map_id' (l : List D) : l.map (fun d => d) = l := List.map_id' l
theorem ok_marks (F : Fun K "_law_marks" "_law_marks" s_l_marks f fd) (cD : Has P w K mg base 1 "_law_draw" (spL K φ_draw)) (cP : Has P w K mg base 2 "_law_pick" (spL K φ_pick)) (mR : mg "range" = none) (mT : mg "tuple" = none) (mS : mg "sum" = none) :
    FnOk P w K mg base CX0 3 f fd ["_law_pen_here"] (spL K (φ_gen 50)) := by
  refine ok_L F sc_l_marks (fun cs ds Q h => ?_) fun cs ds Q h cdv A outer s H E hr => ?_
  · obtain ⟨c, _, rfl, _⟩ := h
    rfl
  · obtain ⟨c, hp, rfl, hc, hq⟩ := h
    have nd := sc_l_marks.nd
    refine ds_cons (d1_par (i := 1) (j := 2) rfl nd rfl rfl (by decide) rfl rfl (by rfl) (da_cons (de_lstO (da_nil ⟨[], rfl, by decide, da_cons (de_lstO (da_nil ⟨[], rfl, by decide, da_nil ⟨_, _, rfl, ?_⟩⟩))⟩))))
    refine ds_cons (d1_for PassesOwn.never rfl (di_rng1 (by rfl) (by assumption) (de_plus (de_int (de_callL (by assumption) (by walk_at "room") (by rfl) (da_cons (de_var 0 rfl (by nofun) rfl (by walk_at "vis") (da_cons (de_int (da_nil ⟨_, _, [_], rfl, rfl, ?_⟩))))))))))
    refine ⟨_, _, hp, rfl, by omega, by omega, by omega, fun z0 cs hz0 hp => ?_⟩
    refine .int ⟨_, rfl, by omega, by omega, ?_⟩
    refine ⟨fun i δ' ω' => ∃ ops kns cs s3 s4 s5 s6 s7 s8 s9 s10 more, ω' = .lst cs :: .lst (ops.map opD) :: .lst (kns.map kD) :: more ∧ ops.length = i ∧ kns.length = i ∧ (∀ o ∈ ops, OpOk 4 o) ∧ (∀ q ∈ kns, KOk q) ∧ PenOk (c + 1 + 3 * i) cs ∧
      δ' = [.own 0, .own 1, .own 2, s3, s4, s5, s6, s7, s8, s9, s10, .no], ⟨[], [], _, .no, .no, .no, .no, .no, .no, .no, .no, [], rfl, rfl, rfl, nofun, nofun, hp.mono (by omega), rfl⟩, ?_, ?_⟩
    · rintro i d δ' ω' hd ⟨ops, kns, cs, s3, s4, s5, s6, s7, s8, s9, s10, more, rfl, hl1, hl2, ho, hk, hp, rfl⟩
      obtain ⟨hi', rfl⟩ := rgD_at hd
      refine dg_name (i := 3) nd rfl (.inl rfl) (by walk_at "mr") ?_
      refine ds_cons (d1_tupA rfl (pgs_cons (pg_name (i := 4) nd rfl (by walk_at "loc")) (pgs_cons (pg_name (i := 5) nd rfl (by walk_at "loc")) pgs_nil)) (.cons (.cons .nil)) (da_cons (de_callL (by assumption) (by walk_at "room") (by rfl) (da_cons (de_var 0 rfl (by nofun) rfl (by walk_at "vis") (da_cons (de_lst (da_cons (de_int (da_cons (de_int (da_cons (de_int (da_nil ?_))))))))))))))
      refine ⟨[_, _, _], rfl, by walk_at "sz", da_nil ⟨_, _, [_], rfl, rfl, ?_⟩⟩
      refine ⟨_, _, hp, rfl, by decide, by decide, by omega, fun t cs ht hp => ?_⟩
      obtain ⟨mark, hmk, rfl⟩ := mem_map_of (f := nD) (l := [1, 2, 3]) ht
      have hm3 : mark ≤ 3 := by
        simp only [List.mem_cons, List.not_mem_nil, or_false] at hmk
        omega
      refine da_cons (de_cmp op_gt (nomark _) (de_callL (by assumption) (by walk_at "room") (by rfl) (da_cons (de_var 0 rfl (by nofun) rfl (by walk_at "vis") (da_cons (de_int (da_nil ⟨_, _, [_], rfl, rfl, ?_⟩)))))))
      refine ⟨_, _, hp, rfl, by omega, by omega, by omega, fun pu cs hpu hp => ?_⟩
      refine de_int (rr_I0 (fun _ _ => .bl _) (da_nil ⟨rfl, by walk_at "sz", ?_⟩))
      generalize decide ((0 : Int) < (pu : Int)) = puts
      refine ds_cons (d1_asg (i := 6) nd rfl (by walk_at "loc") (de_lstO (da_nil ⟨[], rfl, by walk_at "sz", ?_⟩)))
      obtain ⟨L, hL⟩ : ∃ L, L = (Cell.lst cs :: .lst (ops.map opD) :: .lst (kns.map kD) :: more).length := ⟨_, rfl⟩
      have hLs : ∀ (a b c2 : Cell), (a :: b :: c2 :: more).length = L := fun a b c2 => by rw [hL]; rfl
      refine ds_cons (d1_for PassesOwn.never rfl (di_rng1 (by rfl) (by assumption) (de_int ⟨_, rfl, by omega, by omega, ?_⟩)))
      refine ⟨fun j δ' ω' => ∃ mvs s7 s8 s9 s10 more', ω' = .lst cs :: .lst (ops.map opD) :: .lst (kns.map kD) :: (more ++ .lst (mvs.map nD) :: more') ∧ mvs.length = j ∧ (∀ x ∈ mvs, x < 4) ∧
        δ' = [.own 0, .own 1, .own 2, .val (.int (0 + (i : Int))), .val (nD mark), .val (.bool puts), .own L, s7, s8, s9, s10, .no], ⟨[], s7, s8, s9, s10, [], ?_, rfl, nofun, ?_⟩, ?_, ?_⟩
      · rfl
      · rw [← hLs]
        rfl
      · rintro j d δ' ω' hd ⟨mvs, s7, s8, s9, s10, more', rfl, hml, hmx, rfl⟩
        obtain ⟨hj', rfl⟩ := rgD_at hd
        refine dg_name (i := 7) nd rfl (by walk_at "loc") (by walk_at "mr") ?_
        have ej : (0 : Int) + (j : Int) = ((j : Nat) : Int) := by omega
        rw [ej]
        refine ds_cons (d1_asg (i := 8) nd rfl (by walk_at "loc") (de_lc rfl nd (blkOk_by (own := [("_law_bit", 11)]) (N := n_l_marks) (sc := defScope s_l_marks) (by decide +kernel)) (di_tup (de_tup (da_cons (de_int (da_cons (de_int (da_nil ⟨[_, _], rfl, by walk_at "sz", _, rfl, ?_⟩)))))))))
        refine ⟨by decide, _, ⟨rfl, rfl⟩, lc_filt (fun d => match d with | .int b => PyData.eqv (.int ((j : Int) / b % 2)) (.int 1) | _ => false) (fun d => d) (fun l d hd s H C cl fp => ?_), ?_⟩
        · obtain ⟨b, rfl, hb⟩ : ∃ b : Int, d = .int b ∧ (b = 1 ∨ b = 2) := by
            match l, hd with
            | 0, hd => exact ⟨1, (Option.some.inj hd).symm, .inl rfl⟩
            | 1, hd => exact ⟨2, (Option.some.inj hd).symm, .inr rfl⟩
            | l + 2, hd => simp at hd
          refine dg_name (i := 11) nd rfl (.inl rfl) (by decide) ⟨?_, fun hg => ?_⟩
          · intro s H C cl fp
            exact dt_cmp (op_eqD (Room.units hr)) (nomark _) (de_mod (de_fdiv (de_var 7 rfl (by nofun) rfl (by walk_at "vis") ⟨_, rfl, (de_var 11 rfl (by nofun) rfl (by walk_at "vis") ⟨_, rfl, (by rcases hb with rfl | rfl <;> exact ⟨by decide, by decide⟩), ⟨_, rfl, de_int ⟨_, rfl, (by walk_at "ar"), de_int (rr_eqD (by walk_at "sh") (by walk_at "sh") ⟨_, rfl, rfl, rfl⟩)⟩⟩⟩)⟩)))
          · intro s H C cl fp
            exact de_var 11 rfl (by nofun) rfl (by walk_at "vis") ⟨rfl, rfl⟩
        generalize hg1 : (fun d => match d with | PyData.int b => PyData.eqv (.int ((j : Int) / b % 2)) (.int 1) | _ => false) = g1
        refine fun acc ω' hacc ⟨ew, ea⟩ => .inr ?_
        rw [List.take_length, map_id'] at ea
        subst ew ea
        refine ds_cons (d1_asg (i := 9) nd rfl (by walk_at "loc") (de_lc rfl nd (blkOk_by (own := [("_law_bit", 11)]) (N := n_l_marks) (sc := defScope s_l_marks) (by decide +kernel)) (di_tup (de_tup (da_cons (de_int (da_cons (de_int (da_nil ⟨[_, _], rfl, by walk_at "sz", _, rfl, ?_⟩)))))))))
        refine ⟨by decide, _, ⟨rfl, rfl⟩, lc_filt (fun d => match d with | .int b => PyData.eqv (.int ((mark : Int) / b % 2)) (.int 1) | _ => false) (fun d => d) (fun l d hd s H C cl fp => ?_), ?_⟩
        · obtain ⟨b, rfl, hb⟩ : ∃ b : Int, d = .int b ∧ (b = 1 ∨ b = 2) := by
            match l, hd with
            | 0, hd => exact ⟨1, (Option.some.inj hd).symm, .inl rfl⟩
            | 1, hd => exact ⟨2, (Option.some.inj hd).symm, .inr rfl⟩
            | l + 2, hd => simp at hd
          refine dg_name (i := 11) nd rfl (.inl rfl) (by decide) ⟨?_, fun hg => ?_⟩
          · intro s H C cl fp
            exact dt_cmp (op_eqD (Room.units hr)) (nomark _) (de_mod (de_fdiv (de_var 4 rfl (by nofun) rfl (by walk_at "vis") ⟨_, rfl, (de_var 11 rfl (by nofun) rfl (by walk_at "vis") ⟨_, rfl, (by rcases hb with rfl | rfl <;> exact ⟨by decide, by decide⟩), ⟨_, rfl, de_int ⟨_, rfl, (by walk_at "ar"), de_int (rr_eqD (by walk_at "sh") (by walk_at "sh") ⟨_, rfl, rfl, rfl⟩)⟩⟩⟩)⟩)))
          · intro s H C cl fp
            exact de_var 11 rfl (by nofun) rfl (by walk_at "vis") ⟨rfl, rfl⟩
        generalize hg2 : (fun d => match d with | PyData.int b => PyData.eqv (.int ((mark : Int) / b % 2)) (.int 1) | _ => false) = g2
        refine fun acc ω' hacc ⟨ew, ea⟩ => .inr ?_
        rw [List.take_length, map_id'] at ea
        subst ew ea
        obtain ⟨f1, l1⟩ := bits_flat g1
        obtain ⟨f2, l2⟩ := bits_flat g2
        obtain ⟨o1, ho1⟩ : ∃ o1, o1 = [PyData.int 1, .int 2].filter g1 := ⟨_, rfl⟩
        obtain ⟨o2, ho2⟩ : ∃ o2, o2 = [PyData.int 1, .int 2].filter g2 := ⟨_, rfl⟩
        rw [← ho1] at f1 l1 ⊢
        rw [← ho2] at f2 l2 ⊢
        obtain ⟨W, hW⟩ : ∃ W : List Cell, W = Cell.lst cs :: .lst (ops.map opD) :: .lst (kns.map kD) :: (more ++ .lst (mvs.map nD) :: more') := ⟨_, rfl⟩
        rw [← hW]
        have c8 : (W ++ [Cell.lst o1] ++ [Cell.lst o2])[W.length]? = some (.lst o1) := by
          rw [List.append_assoc, List.getElem?_append_right (Nat.le_refl _), Nat.sub_self]
          rfl
        have c9 : (W ++ [Cell.lst o1] ++ [Cell.lst o2])[(W ++ [Cell.lst o1]).length]? = some (.lst o2) := by
          rw [List.getElem?_append_right (Nat.le_refl _), Nat.sub_self]
          rfl
        refine ds_cons (d1_asgLc (i := 10) rfl nd rfl rfl (sw_true rfl rfl rfl (by decide +kernel)) (blkOk_by (own := [("_law_bit", 11)]) (N := n_l_marks) (sc := defScope s_l_marks) (by decide +kernel)) (di_tup (de_tup (da_cons (de_int (da_cons (de_int (da_nil ⟨[_, _], rfl, by walk_at "sz", _, rfl, ?_⟩))))))))
        refine ⟨by decide, _, ⟨rfl, rfl⟩, lc_filt (fun d => inD d (o1 ++ o2)) (fun d => d) (fun l d hd s H C cl fp => ?_), ?_⟩
        · obtain ⟨b, rfl, hb⟩ : ∃ b : Int, d = .int b ∧ (b = 1 ∨ b = 2) := by
            match l, hd with
            | 0, hd => exact ⟨1, (Option.some.inj hd).symm, .inl rfl⟩
            | 1, hd => exact ⟨2, (Option.some.inj hd).symm, .inr rfl⟩
            | l + 2, hd => simp at hd
          refine dg_name (i := 11) nd rfl (.inl rfl) (by decide) ⟨?_, fun hg => ?_⟩
          · intro s H C cl fp
            refine dt_cmp op_in_seq (by rfl) (de_var 11 rfl (by nofun) rfl (by walk_at "vis") (de_bin op_plus (de_var 8 rfl (by nofun) rfl (by walk_at "vis") (de_var 9 rfl (by nofun) rfl (by walk_at "vis") (rr_catO c8 c9 (by omega) (rr_in rfl (.lst _) ?_ ⟨_, rfl, rfl, rfl⟩))))))
            rw [List.all_append, f1, f2]
            rfl
          · intro s H C cl fp
            exact de_var 11 rfl (by nofun) rfl (by walk_at "vis") ⟨rfl, rfl⟩
        refine fun acc ω' hacc ⟨ew, ea⟩ => .inl ?_
        rw [List.take_length, map_id'] at ea
        subst ew ea
        obtain ⟨n3, hn3, e3, es3⟩ := bits_sum fun d => inD d (o1 ++ o2)
        rw [e3]
        refine ds_freeze (i := 8) rfl c8 ?_
        refine ds_freeze (i := 9) (kx := (W ++ [Cell.lst o1]).length) (ds := o2) rfl (by
          rw [List.getElem?_set_ne (by rw [List.length_append]; simp), c9]) ?_
        rw [two_dead, hW]
        have hLe : L = more.length + 1 + 1 + 1 := by
          rw [← hLs (.lst cs) (.lst (ops.map opD)) (.lst (kns.map kD))]
          rfl
        have eW : Cell.lst cs :: .lst (ops.map opD) :: .lst (kns.map kD) :: (more ++ .lst (mvs.map nD) :: more') ++ [Cell.dead, .dead] = Cell.lst cs :: .lst (ops.map opD) :: .lst (kns.map kD) :: (more ++ .lst (mvs.map nD) :: (more' ++ [Cell.dead, .dead])) := by
          simp
        rw [eW]
        have cL := mid_at (Cell.lst cs) (.lst (ops.map opD)) (.lst (kns.map kD)) (.lst (mvs.map nD)) more (more' ++ [Cell.dead, .dead])
        rw [← hLe] at cL
        have sL := mid_set (Cell.lst cs) (.lst (ops.map opD)) (.lst (kns.map kD)) (.lst (mvs.map nD)) more (more' ++ [Cell.dead, .dead])
        rw [← hLe] at sL
        refine ds_cons (d1_expr (de_append (de_var 6 rfl (by nofun) rfl (by walk_at "vis") ⟨_, _, rfl, cL, DE.mono (P := fun r ω' => ω' = Cell.lst cs :: .lst (ops.map opD) :: .lst (kns.map kD) :: (more ++ .lst (mvs.map nD) :: (more' ++ [Cell.dead, .dead])) ∧ ∃ n : Nat, n < 4 ∧ r = .val (nD n)) ?_ (fun r ω' hpost => ?_)⟩)))
        · refine de_if (dt_val (de_var 5 rfl (by nofun) rfl (by walk_at "vis") ⟨_, rfl, ?_⟩))
          refine ite2 (fun _ => ?_) (fun _ => ?_)
          · refine de_callB (cr_sum rfl) (by rfl) (by assumption) PyProof.Rows.boot_sum (da_cons (de_var 10 rfl (by nofun) rfl (by walk_at "vis") (da_nil (ra_sum ⟨rfl, n3, by omega, ?_⟩))))
            rw [es3]
            rfl
          · refine de_callB (cr_sum rfl) (by rfl) (by assumption) PyProof.Rows.boot_sum (da_cons (de_lc rfl nd (blkOk_by (own := [("_law_bit", 11)]) (N := n_l_marks) (sc := defScope s_l_marks) (by decide +kernel)) (di_lst (de_var 8 rfl (by nofun) rfl (by walk_at "vis") ⟨o1, rfl, ?_⟩))))
            refine ⟨by omega, _, ⟨rfl, rfl⟩, lc_filt (fun d => !inD d o2) (fun d => d) (fun l d hd s H C cl fp => ?_), ?_⟩
            · have hfd : flat d = true := List.all_eq_true.mp f1 d (List.mem_of_getElem? hd)
              refine dg_name (i := 11) nd rfl (.inl rfl) (by decide) ⟨?_, fun hg => ?_⟩
              · intro s H C cl fp
                exact dt_cmp op_notIn_seq (by rfl) (de_var 11 rfl (by nofun) rfl (by walk_at "vis") (de_var 9 rfl (by nofun) rfl (by walk_at "vis") (rr_in hfd (.lst _) f2 ⟨_, rfl, rfl, rfl⟩)))
              · intro s H C cl fp
                exact de_var 11 rfl (by nofun) rfl (by walk_at "vis") ⟨rfl, rfl⟩
            refine fun acc ω' hacc ⟨ew, ea⟩ => .inl ?_
            rw [List.take_length, map_id', ho1, List.filter_filter] at ea
            subst ew ea
            obtain ⟨n4, hn4, e4, es4⟩ := bits_sum fun d => !inD d o2 && g1 d
            rw [e4]
            refine da_nil (ra_sum ⟨rfl, n4, by omega, ?_⟩)
            rw [es4]
            rfl
        · obtain ⟨rfl, n, hn, rfl⟩ := hpost
          refine ⟨_, _, rfl, cL, by rw [List.length_map]; omega, ?_⟩
          rw [sL]
          refine ds_nil ⟨mvs ++ [n], _, _, _, _, more' ++ [Cell.dead, .dead], ?_, by rw [List.length_append, hml]; rfl, snoc_all hmx hn, rfl⟩
          rw [← snoc_map]
      · rintro δ' ω' ⟨mvs, s7, s8, s9, s10, more', rfl, hml, hmx, rfl⟩
        have hLe : L = more.length + 1 + 1 + 1 := by
          rw [← hLs (.lst cs) (.lst (ops.map opD)) (.lst (kns.map kD))]
          rfl
        have cL := mid_at (Cell.lst cs) (.lst (ops.map opD)) (.lst (kns.map kD)) (.lst (mvs.map nD)) more more'
        rw [← hLe] at cL
        rw [rgD_len] at hml
        refine ds_cons (d1_expr (de_append (de_var 1 rfl (by nofun) rfl (by walk_at "vis") ⟨_, _, rfl, rfl, (de_callTy call_tuple_of (by rfl) (by assumption) PyProof.Rows.boot_tuple (da_cons (de_var 6 rfl (by nofun) rfl (by walk_at "vis") (da_nil (ra_tuple (.own cL) ⟨_, _, rfl, rfl, ?_, ?_⟩)))))⟩)))
        · rw [List.length_map]
          omega
        refine ds_cons (d1_expr (de_append (de_var 2 rfl (by nofun) rfl (by walk_at "vis") ⟨_, _, rfl, rfl, (de_callL (by assumption) (by walk_at "room") (by rfl) (da_cons (de_var 0 rfl (by nofun) rfl (by walk_at "vis") (da_cons (de_lst (da_cons (de_none (da_cons (de_var 4 rfl (by nofun) rfl (by walk_at "vis") (da_cons (de_int (da_nil ?_))))))))))))⟩)))
        refine ⟨[_, _, _], rfl, by walk_at "sz", ?_⟩
        refine da_nil ⟨_, _, [_], rfl, rfl, ?_⟩
        refine ⟨_, _, hp, rfl, by walk_at "sz", by walk_at "sz", by omega, fun t cs ht hp => ?_⟩
        obtain ⟨q, rfl, hq2⟩ := kind_of (ks := [none, some mark, some 0]) ht (by
          intro q hq
          simp only [List.mem_cons, List.not_mem_nil, or_false] at hq
          rcases hq with rfl | rfl | rfl <;> first | exact kok_none | exact kok_some (by omega))
        refine ⟨_, _, rfl, rfl, ?_, ?_⟩
        · rw [List.length_map]
          omega
        refine ds_nil ⟨ops ++ [mvs], kns ++ [q], cs, _, _, _, _, _, _, _, _, more ++ .lst (mvs.map nD) :: more', ?_, by rw [List.length_append, hl1]; rfl, by rw [List.length_append, hl2]; rfl, snoc_all ho ⟨by omega, hmx⟩, snoc_all hk hq2, hp.mono (by omega), rfl⟩
        rw [← snoc_map, ← snoc_map]
        rfl
    · rintro δ' ω' ⟨ops, kns, cs, s3, s4, s5, s6, s7, s8, s9, s10, more, rfl, hl1, hl2, ho, hk, hp, rfl⟩
      rw [rgD_len] at hl1 hl2 hp
      refine ds_cons (d1_ret (de_tup (da_cons (de_int (da_cons (de_callL (by assumption) (by walk_at "room") (by rfl) (da_cons (de_var 0 rfl (by nofun) rfl (by walk_at "vis") (da_cons (de_int (da_nil ⟨_, _, [_], rfl, rfl, ?_⟩)))))))))))
      refine ⟨_, _, hp, rfl, by omega, by omega, by omega, fun r cs hr' hp => ?_⟩
      refine da_cons (de_callTy call_tuple_of (by rfl) (by assumption) PyProof.Rows.boot_tuple (da_cons (de_var 1 rfl (by nofun) rfl (by walk_at "vis") (da_nil (ra_tuple (by walk_at "seq") (da_cons (de_callTy call_tuple_of (by rfl) (by assumption) PyProof.Rows.boot_tuple (da_cons (de_var 2 rfl (by nofun) rfl (by walk_at "vis") (da_nil (ra_tuple (by walk_at "seq") (da_nil ?_))))))))))))
      refine ⟨[_, _, _, _], rfl, by walk_at "sz", ?_⟩
      exact ⟨_, _, rfl, rfl, hq ⟨4, r, ops, kns⟩ cs ⟨by show 1 ≤ 4; decide, by show 4 ≤ 6; decide, by show r < 4; omega, by show 1 ≤ ops.length; omega, by show ops.length ≤ 6; omega, ho, by show kns.length = ops.length; omega, hk⟩ (hp.mono (by omega))⟩
end
end
section
section
variable {P : Program} {w : World} {K : Fg} {mg : Str → Option Value} {base : Heap} {f : Addr} {fd : FuncData} {k : Nat}
theorem ok_turns (F : Fun K "_law_turns" "_law_turns" s_l_turns f fd) (cD : Has P w K mg base 1 "_law_draw" (spL K φ_draw)) (cP : Has P w K mg base 2 "_law_pick" (spL K φ_pick)) (mR : mg "range" = none) (mT : mg "tuple" = none) (mM : mg "max" = none) (mL : mg "list" = none) :
    FnOk P w K mg base CX0 3 f fd ["_law_pen_here"] (spL K (φ_gen 50)) := by
  refine ok_L F sc_l_turns (fun cs ds Q h => ?_) fun cs ds Q h cdv A outer s H E hr => ?_
  · obtain ⟨c, _, rfl, _⟩ := h
    rfl
  · obtain ⟨c, hp, rfl, hc, hq⟩ := h
    have nd := sc_l_turns.nd
    refine ds_cons (d1_tupA rfl (pgs_cons (pg_name (i := 1) nd rfl (by walk_at "loc")) (pgs_cons (pg_name (i := 2) nd rfl (by walk_at "loc")) (pgs_cons (pg_name (i := 3) nd rfl (by walk_at "loc")) pgs_nil))) (.cons (.cons (.cons .nil))) (da_cons (de_plus (de_int (de_callL (by assumption) (by walk_at "room") (by rfl) (da_cons (de_var 0 rfl (by nofun) rfl (by walk_at "vis") (da_cons (de_int (da_nil ⟨_, _, [_], rfl, rfl, ?_⟩))))))))))
    refine ⟨c, _, hp, rfl, by omega, by omega, by omega, fun m0 cs hm0 hp => ?_⟩
    obtain ⟨many, em⟩ : ∃ many : Nat, many = 2 + m0 := ⟨_, rfl⟩
    have e1 : (2 : Int) + (m0 : Int) = (many : Int) := by omega
    refine .int ?_
    rw [e1]
    refine da_cons (de_lstO (da_nil ⟨[], rfl, by decide, da_cons (de_lstO (da_nil ⟨[], rfl, by decide, da_nil ⟨rfl, by walk_at "sz", ?_⟩⟩))⟩))
    refine ds_cons (d1_for PassesOwn.never rfl (di_rng1 (by rfl) (by assumption) (de_plus (de_int (de_callL (by assumption) (by walk_at "room") (by rfl) (da_cons (de_var 0 rfl (by nofun) rfl (by walk_at "vis") (da_cons (de_int (da_nil ⟨_, _, [_], rfl, rfl, ?_⟩))))))))))
    refine ⟨_, _, hp, rfl, by omega, by omega, by omega, fun z0 cs hz0 hp => ?_⟩
    refine .int ⟨_, rfl, by omega, by omega, ?_⟩
    refine ⟨fun i δ' ω' => ∃ ops kns cs s4 s5 s6 s7, ω' = [.lst cs, .lst (ops.map opD), .lst (kns.map kD)] ∧ ops.length = i ∧ kns.length = i ∧ (∀ o ∈ ops, OpOk many o) ∧ (∀ q ∈ kns, KOk q) ∧ PenOk (c + 2 + 3 * i) cs ∧
      δ' = [.own 0, .val (nD many), .own 1, .own 2, s4, s5, s6, s7, .no], ⟨[], [], _, .no, .no, .no, .no, rfl, rfl, rfl, nofun, nofun, hp.mono (by omega), rfl⟩, ?_, ?_⟩
    · rintro i d δ' ω' hd ⟨ops, kns, cs, s4, s5, s6, s7, rfl, hl1, hl2, ho, hk, hp, rfl⟩
      obtain ⟨hi', rfl⟩ := rgD_at hd
      refine dg_name (i := 4) nd rfl (by walk_at "loc") (by walk_at "mr") ?_
      refine ds_cons (d1_tupA rfl (pgs_cons (pg_name (i := 5) nd rfl (by walk_at "loc")) (pgs_cons (pg_name (i := 6) nd rfl (by walk_at "loc")) pgs_nil)) (.cons (.cons .nil)) (da_cons (de_callL (by assumption) (by walk_at "room") (by rfl) (da_cons (de_var 0 rfl (by nofun) rfl (by walk_at "vis") (da_cons (de_int (da_nil ⟨_, _, [_], rfl, rfl, ?_⟩))))))))
      refine ⟨_, _, hp, rfl, by omega, by omega, by omega, fun way cs hway hp => ?_⟩
      refine da_cons (de_callL (by assumption) (by walk_at "room") (by rfl) (da_cons (de_var 0 rfl (by nofun) rfl (by walk_at "vis") (da_cons (de_var 1 rfl (by nofun) rfl (by walk_at "vis") (da_nil ⟨_, _, [_], rfl, rfl, ?_⟩))))))
      refine ⟨_, _, hp, rfl, by omega, by omega, by omega, fun v cs hv hp => ?_⟩
      refine da_nil ⟨rfl, by walk_at "sz", ?_⟩
      have hv2 : v < many := by omega
      have row : ∀ g : Nat → Nat, (∀ s, s < many → g s < many) → OpOk many ((List.range many).map g) := fun g hg => ⟨by rw [List.length_map, List.length_range], fun x hx => by
        obtain ⟨s, hs, rfl⟩ := List.mem_map.mp hx
        exact hg s (List.mem_range.mp hs)⟩
      have emap : ∀ g : Nat → Nat, ((rgD 0 ((many : Nat) : Int)).map fun d => match d with | .int s => nD (g s.toNat) | _ => .none) = ((List.range many).map g).map nD := fun g => by
        rw [rgD0, List.map_map, List.map_map]
        rfl
      refine ds_cons (d1_asgLc (i := 7) rfl nd rfl rfl (sw_true rfl rfl rfl (by decide +kernel)) (blkOk_by (own := [("_law_state", 8)]) (N := n_l_turns) (sc := defScope s_l_turns) (by decide +kernel)) (di_rng1 (by rfl) (by assumption) (de_var 1 rfl (by nofun) rfl (by walk_at "vis") ⟨_, rfl, by omega, by omega, ?_⟩)))
      refine ⟨by rw [rgD_len]; omega, _, ⟨rfl, rfl⟩, lc_map (fun d => match d with | .int s => nD ((s.toNat + v) % many) | _ => .none) (fun j d hd s H C cl fp => ?_), fun acc ω' hacc ⟨ew, ea⟩ => .inl ?_⟩
      · obtain ⟨hj, rfl⟩ := rgD_at hd
        refine dg_name (i := 8) nd rfl (.inl rfl) (by decide) ?_
        intro s H C cl fp
        refine de_mod (de_plus (de_var 8 rfl (by nofun) rfl (by walk_at "vis") (de_var 6 rfl (by nofun) rfl (by walk_at "vis") (.int ⟨_, rfl, (de_var 1 rfl (by nofun) rfl (by walk_at "vis") ⟨_, rfl, by omega, ?_, rfl⟩)⟩))))
        show Sl.val (.int _) = Sl.val (.int _)
        congr 2
        all_goals first | done | omega
      rw [List.take_length, emap (fun s => (s + v) % many)] at ea
      subst ew ea
      have r0 := row (fun s => (s + v) % many) fun s hs => Nat.mod_lt _ (by omega)
      generalize (List.range many).map (fun s => (s + v) % many) = mv at r0 ⊢
      refine ds_cut (fun δ' ω' => ω' = [.lst cs, .lst (ops.map opD), .lst (kns.map kD)] ∧ ∃ mv, OpOk many mv ∧ δ' = [.own 0, .val (nD many), .own 1, .own 2, .val (.int (0 + (i : Int))), .val (nD way), .val (nD v), .val (.list (mv.map nD)), .no]) (d1_if (dt_cmp (op_eqD (Room.units hr)) (nomark _) (de_var 5 rfl (by nofun) rfl (by walk_at "vis") (de_int (rr_eqD (by walk_at "sh") (by walk_at "sh") ⟨_, rfl, ?_⟩))))) ?_
      · refine ite2 (fun _ => ?_) (fun _ => ds_nil ⟨rfl, mv, r0, rfl⟩)
        refine ds_cons (d1_asgLc (i := 7) rfl nd rfl rfl (sw_true rfl rfl rfl (by decide +kernel)) (blkOk_by (own := [("_law_state", 8)]) (N := n_l_turns) (sc := defScope s_l_turns) (by decide +kernel)) (di_rng1 (by rfl) (by assumption) (de_var 1 rfl (by nofun) rfl (by walk_at "vis") ⟨_, rfl, by omega, by omega, ?_⟩)))
        refine ⟨by rw [rgD_len]; omega, _, ⟨rfl, rfl⟩, lc_map (fun d => match d with | .int s => nD (max s.toNat v) | _ => .none) (fun j d hd s H C cl fp => ?_), fun acc ω' hacc ⟨ew, ea⟩ => .inl ?_⟩
        · obtain ⟨hj, rfl⟩ := rgD_at hd
          refine dg_name (i := 8) nd rfl (.inl rfl) (by decide) ?_
          intro s H C cl fp
          refine de_callB (call_max2 rfl) (by rfl) (by assumption) PyProof.Rows.boot_max (da_cons (de_var 8 rfl (by nofun) rfl (by walk_at "vis") (da_cons (de_var 6 rfl (by nofun) rfl (by walk_at "vis") (da_nil (ra_max2 ⟨?_, rfl⟩))))))
          show Sl.val (.int _) = Sl.val (.int _)
          congr 2
          split <;> omega
        rw [List.take_length, emap (fun s => max s v)] at ea
        subst ew ea
        exact ds_nil ⟨rfl, _, row (fun s => max s v) fun s hs => by omega, rfl⟩
      rintro δ' ω' ⟨rfl, mv, r0, rfl⟩
      refine ds_cut (fun δ' ω' => ω' = [.lst cs, .lst (ops.map opD), .lst (kns.map kD)] ∧ ∃ mv, OpOk many mv ∧ δ' = [.own 0, .val (nD many), .own 1, .own 2, .val (.int (0 + (i : Int))), .val (nD way), .val (nD v), .val (.list (mv.map nD)), .no]) (d1_if (dt_cmp (op_eqD (Room.units hr)) (nomark _) (de_var 5 rfl (by nofun) rfl (by walk_at "vis") (de_int (rr_eqD (by walk_at "sh") (by walk_at "sh") ⟨_, rfl, ?_⟩))))) ?_
      · refine ite2 (fun _ => ?_) (fun _ => ds_nil ⟨rfl, mv, r0, rfl⟩)
        refine ds_cons (d1_asgLc (i := 7) rfl nd rfl rfl (sw_true rfl rfl rfl (by decide +kernel)) (blkOk_by (own := [("_law_state", 8)]) (N := n_l_turns) (sc := defScope s_l_turns) (by decide +kernel)) (di_rng1 (by rfl) (by assumption) (de_var 1 rfl (by nofun) rfl (by walk_at "vis") ⟨_, rfl, by omega, by omega, ?_⟩)))
        refine ⟨by rw [rgD_len]; omega, _, ⟨rfl, rfl⟩, lc_map (fun d => match d with | .int s => nD v | _ => .none) (fun j d hd s H C cl fp => ?_), fun acc ω' hacc ⟨ew, ea⟩ => .inl ?_⟩
        · obtain ⟨hj, rfl⟩ := rgD_at hd
          refine dg_name (i := 8) nd rfl (.inl rfl) (by decide) ?_
          intro s H C cl fp
          exact de_var 6 rfl (by nofun) rfl (by walk_at "vis") ⟨rfl, rfl⟩
        rw [List.take_length, emap (fun s => v)] at ea
        subst ew ea
        exact ds_nil ⟨rfl, _, row (fun s => v) fun s hs => hv2, rfl⟩
      rintro δ' ω' ⟨rfl, mv, r0, rfl⟩
      refine ds_cut (fun δ' ω' => ω' = [.lst cs, .lst (ops.map opD), .lst (kns.map kD)] ∧ ∃ mv, OpOk many mv ∧ δ' = [.own 0, .val (nD many), .own 1, .own 2, .val (.int (0 + (i : Int))), .val (nD way), .val (nD v), .val (.list (mv.map nD)), .no]) (d1_if (dt_cmp (op_eqD (Room.units hr)) (nomark _) (de_var 5 rfl (by nofun) rfl (by walk_at "vis") (de_int (rr_eqD (by walk_at "sh") (by walk_at "sh") ⟨_, rfl, ?_⟩))))) ?_
      · refine ite2 (fun _ => ?_) (fun _ => ds_nil ⟨rfl, mv, r0, rfl⟩)
        refine ds_cons (d1_asg (i := 7) nd rfl (by walk_at "loc") (de_lstRg1 rfl (by rfl) (by assumption) (by rfl) (by assumption) (de_var 1 rfl (by nofun) rfl (by walk_at "vis") ⟨_, rfl, (by walk_at "ar"), (by walk_at "ar"), ?_⟩)))
        rw [rgD0]
        refine ds_nil ⟨rfl, _, row (fun s => s) fun s hs => hs, ?_⟩
        rw [List.map_id']
        rfl
      rintro δ' ω' ⟨rfl, mv, r0, rfl⟩
      refine ds_cons (d1_expr (de_append (de_var 2 rfl (by nofun) rfl (by walk_at "vis") ⟨_, _, rfl, rfl, (de_callTy call_tuple_of (by rfl) (by assumption) PyProof.Rows.boot_tuple (da_cons (de_var 7 rfl (by nofun) rfl (by walk_at "vis") (da_nil (ra_tuple (by walk_at "seq") ⟨_, _, rfl, rfl, ?_, ?_⟩)))))⟩)))
      · rw [List.length_map]
        omega
      refine ds_cons (d1_expr (de_append (de_var 3 rfl (by nofun) rfl (by walk_at "vis") ⟨_, _, rfl, rfl, (de_callL (by assumption) (by walk_at "room") (by rfl) (da_cons (de_var 0 rfl (by nofun) rfl (by walk_at "vis") (da_cons (de_lst (da_cons (de_none (da_cons (de_var 5 rfl (by nofun) rfl (by walk_at "vis") (da_cons (de_int (da_nil ?_))))))))))))⟩)))
      refine ⟨[_, _, _], rfl, by walk_at "sz", ?_⟩
      refine da_nil ⟨_, _, [_], rfl, rfl, ?_⟩
      refine ⟨_, _, hp, rfl, by walk_at "sz", by walk_at "sz", by omega, fun t cs ht hp => ?_⟩
      obtain ⟨q, rfl, hq2⟩ := kind_of (ks := [none, some way, some 5]) ht (by
        intro q hq
        simp only [List.mem_cons, List.not_mem_nil, or_false] at hq
        rcases hq with rfl | rfl | rfl <;> first | exact kok_none | exact kok_some (by omega))
      refine ⟨_, _, rfl, rfl, ?_, ?_⟩
      · rw [List.length_map]
        omega
      refine ds_nil ⟨ops ++ [mv], kns ++ [q], cs, _, _, _, _, ?_, by rw [List.length_append, hl1]; rfl, by rw [List.length_append, hl2]; rfl, snoc_all ho r0, snoc_all hk hq2, hp.mono (by omega), rfl⟩
      rw [← snoc_map, ← snoc_map]
      rfl
    · rintro δ' ω' ⟨ops, kns, cs, s4, s5, s6, s7, rfl, hl1, hl2, ho, hk, hp, rfl⟩
      rw [rgD_len] at hl1 hl2 hp
      refine ds_cons (d1_ret (de_tup (da_cons (de_var 1 rfl (by nofun) rfl (by walk_at "vis") (da_cons (de_callL (by assumption) (by walk_at "room") (by rfl) (da_cons (de_var 0 rfl (by nofun) rfl (by walk_at "vis") (da_cons (de_var 1 rfl (by nofun) rfl (by walk_at "vis") (da_nil ⟨_, _, [_], rfl, rfl, ?_⟩)))))))))))
      refine ⟨_, _, hp, rfl, by omega, by omega, by omega, fun r cs hr' hp => ?_⟩
      refine da_cons (de_callTy call_tuple_of (by rfl) (by assumption) PyProof.Rows.boot_tuple (da_cons (de_var 2 rfl (by nofun) rfl (by walk_at "vis") (da_nil (ra_tuple (by walk_at "seq") (da_cons (de_callTy call_tuple_of (by rfl) (by assumption) PyProof.Rows.boot_tuple (da_cons (de_var 3 rfl (by nofun) rfl (by walk_at "vis") (da_nil (ra_tuple (by walk_at "seq") (da_nil ?_))))))))))))
      refine ⟨[_, _, _, _], rfl, by walk_at "sz", ?_⟩
      exact ⟨_, _, rfl, rfl, hq ⟨many, r, ops, kns⟩ cs ⟨by show 1 ≤ many; omega, by show many ≤ 6; omega, by show r < many; omega, by show 1 ≤ ops.length; omega, by show ops.length ≤ 6; omega, ho, by show kns.length = ops.length; omega, hk⟩ (hp.mono (by omega))⟩
end
end
section
/-! ### the law's system, log, cell -/
theorem cut_lo (ds : List D) (n : Nat) : cutD ds none (some (n : Int)) = ds.take n := by
  unfold cutD
  rw [HT.sIx_none, HT.sIx_nat, List.drop_zero, Nat.sub_zero]
  by_cases h : n ≤ ds.length
  · rw [Nat.min_eq_left h]
  · rw [Nat.min_eq_right (by omega), List.take_of_length_le (Nat.le_refl _), List.take_of_length_le (by omega)]
theorem cut_hi (ds : List D) (n : Nat) : cutD ds (some (n : Int)) none = ds.drop n := by
  unfold cutD
  rw [HT.sIx_none, HT.sIx_nat]
  by_cases h : n ≤ ds.length
  · rw [Nat.min_eq_left h, List.take_of_length_le (by rw [List.length_drop]; omega)]
  · rw [Nat.min_eq_right (by omega), List.drop_eq_nil_of_le (Nat.le_refl _), List.drop_eq_nil_of_le (by omega), List.take_nil]
theorem put_all {α : Type} {p : α → Prop} {l : List α} {x : α} (n : Nat) (h : ∀ y ∈ l, p y) (hx : p x) : ∀ y ∈ l.take n ++ [x] ++ l.drop (n + 1), p y := fun y hy => by
  rcases List.mem_append.mp hy with q | q
  · rcases List.mem_append.mp q with q | q
    · exact h y (List.mem_of_mem_take q)
    · rw [List.mem_singleton.mp q]
      exact hx
  · exact h y (List.mem_of_mem_drop q)
theorem put_map {α β : Type} (f : α → β) (l : List α) (x : α) (n : Nat) : (l.take n).map f ++ [f x] ++ (l.drop (n + 1)).map f = (l.take n ++ [x] ++ l.drop (n + 1)).map f := by
  rw [List.map_append, List.map_append]
  rfl
theorem put_len {α : Type} {l : List α} {x : α} {n : Nat} (h : n < l.length) : (l.take n ++ [x] ++ l.drop (n + 1)).length = l.length := by
  rw [List.length_append, List.length_append, List.length_take, List.length_drop, List.length_singleton]
  omega
def φ_log : List D → List D → (D → List D → Prop) → Prop := fun cs ds P => ∃ (c : Int) (S : Sys) (cap : Nat), PenOk c cs ∧ ds = [sysD S, nD cap] ∧ S.Ok ∧ cap ≤ 1000 ∧ c ≤ 900000 ∧ ∀ (l : List Nat) cs', LogOk S l → l.length ≤ cap → PenOk (c + 1 + cap) cs' → P (logD l) cs'
def φ_cell : List D → (D → Prop) → Prop := fun ds P => ∃ (ns : List Int) (k : Nat), ds = [.list (ns.map PyData.int), nD k] ∧ ∀ i : Int, P (.int i)
section
variable {P : Program} {w : World} {K : Fg} {mg : Str → Option Value} {base : Heap} {f : Addr} {fd : FuncData} {k : Nat}
theorem ok_system (F : Fun K "_law_system" "_law_system" s_l_system f fd) (cD : Has P w K mg base 1 "_law_draw" (spL K φ_draw)) (c1 : Has P w K mg base 3 "_law_drawn" (spL K (φ_gen 50))) (c2 : Has P w K mg base 3 "_law_cells" (spL K (φ_gen 50)))
    (c3 : Has P w K mg base 3 "_law_marks" (spL K (φ_gen 50))) (c4 : Has P w K mg base 3 "_law_turns" (spL K (φ_gen 50))) (mL : mg "len" = none) :
    FnOk P w K mg base CX0 4 f fd ["_law_pen_here"] (spL K (φ_gen 60)) := by
  refine ok_L F sc_l_system (fun cs ds Q h => ?_) fun cs ds Q h cdv A outer s H E hr => ?_
  · obtain ⟨c, _, rfl, _⟩ := h
    rfl
  · obtain ⟨c, hp, rfl, hc, hq⟩ := h
    have nd := sc_l_system.nd
    refine ds_cons (d1_asg (i := 1) nd rfl (by walk_at "loc") (de_callL (by assumption) (by walk_at "room") (by rfl) (da_cons (de_var 0 rfl (by nofun) rfl (by walk_at "vis") (da_cons (de_int (da_nil ⟨_, _, [_], rfl, rfl, ?_⟩)))))))
    refine ⟨c, _, hp, rfl, by omega, by omega, by omega, fun way cs hway hp => ?_⟩
    refine ds_cons (d1_if (dt_cmp (op_eqD (Room.units hr)) (nomark _) (de_var 1 rfl (by nofun) rfl (by walk_at "vis") (de_int (rr_eqD (by walk_at "sh") (by walk_at "sh") ⟨_, rfl, ?_⟩)))))
    refine ite2 (fun hc => ?_) (fun hc => ?_)
    · -- return _law_drawn(_law_pen_here)
      refine ds_cons (d1_ret (de_callL (by assumption) (by walk_at "room") (by rfl) (da_cons (de_var 0 rfl (by nofun) rfl (by walk_at "vis") (da_nil ⟨_, _, [], rfl, rfl, ?_⟩)))))
      exact ⟨_, hp, rfl, by omega, fun S cs hS hp => ⟨_, _, rfl, rfl, hq S cs hS (hp.mono (by omega))⟩⟩
    refine ds_nil ?_
    refine ds_cut (fun δ' ω' => ∃ S cs, S.Ok ∧ PenOk (c + 51) cs ∧ ω' = [.lst cs] ∧ δ' = [.own 0, .val (nD way), .val (sysD S), .no, .no, .no, .no, .no, .no, .no]) (d1_asg (i := 2) nd rfl (by walk_at "loc") (de_if (dt_cmp op_lt (nomark _) (de_var 1 rfl (by nofun) rfl (by walk_at "vis") (de_int (rr_I0 (fun _ _ => .bl _) ⟨_, rfl, ?_⟩)))))) ?_
    · refine ite2 (fun _ => ?_) (fun _ => ?_)
      · refine de_callL (by assumption) (by walk_at "room") (by rfl) (da_cons (de_var 0 rfl (by nofun) rfl (by walk_at "vis") (da_nil ⟨_, _, [], rfl, rfl, ?_⟩)))
        exact ⟨_, hp, rfl, by omega, fun S cs hS hp => ⟨S, cs, hS, hp.mono (by omega), rfl, rfl⟩⟩
      · refine de_if (dt_cmp (op_eqD (Room.units hr)) (nomark _) (de_var 1 rfl (by nofun) rfl (by walk_at "vis") (de_int (rr_eqD (by walk_at "sh") (by walk_at "sh") ⟨_, rfl, ?_⟩))))
        refine ite2 (fun _ => ?_) (fun _ => ?_)
        · refine de_callL (by assumption) (by walk_at "room") (by rfl) (da_cons (de_var 0 rfl (by nofun) rfl (by walk_at "vis") (da_nil ⟨_, _, [], rfl, rfl, ?_⟩)))
          exact ⟨_, hp, rfl, by omega, fun S cs hS hp => ⟨S, cs, hS, hp.mono (by omega), rfl, rfl⟩⟩
        · refine de_callL (by assumption) (by walk_at "room") (by rfl) (da_cons (de_var 0 rfl (by nofun) rfl (by walk_at "vis") (da_nil ⟨_, _, [], rfl, rfl, ?_⟩)))
          exact ⟨_, hp, rfl, by omega, fun S cs hS hp => ⟨S, cs, hS, hp.mono (by omega), rfl, rfl⟩⟩
    rintro δ' ω' ⟨S, cs, hS, hp, rfl, rfl⟩
    refine ds_cons (d1_if (dt_cmp op_gt (nomark _) (de_callL (by assumption) (by walk_at "room") (by rfl) (da_cons (de_var 0 rfl (by nofun) rfl (by walk_at "vis") (da_cons (de_int (da_nil ⟨_, _, [_], rfl, rfl, ?_⟩))))))))
    refine ⟨_, _, hp, rfl, by omega, by omega, by omega, fun z cs hz hp => ?_⟩
    refine de_int (rr_I0 (fun _ _ => .bl _) ⟨_, rfl, ?_⟩)
    refine ite2 (fun _ => ?_) (fun _ => ?_)
    · exact ds_cons (d1_ret (de_var 2 rfl (by nofun) rfl (by walk_at "vis") ⟨_, _, rfl, rfl, hq S cs hS (hp.mono (by omega))⟩))
    refine ds_nil ?_
    refine ds_cons (d1_unp rfl (pgs_cons (pg_name (i := 3) nd rfl (by walk_at "loc")) (pgs_cons (pg_name (i := 4) nd rfl (by walk_at "loc")) (pgs_cons (pg_name (i := 5) nd rfl (by walk_at "loc")) (pgs_cons (pg_name (i := 6) nd rfl (by walk_at "loc")) pgs_nil)))) (.cons (.cons (.cons (.cons .nil)))) (de_var 2 rfl (by nofun) rfl (by walk_at "vis") ⟨_, rfl, rfl, ?_⟩))
    refine ds_cons (d1_par (i := 7) (j := 8) rfl nd rfl rfl (by decide) rfl rfl (by rfl) (da_cons (de_callL (by assumption) (by walk_at "room") (by rfl) (da_cons (de_var 0 rfl (by nofun) rfl (by walk_at "vis") (da_cons (de_callB call_len_seq (by rfl) (by assumption) PySem.boot_len (da_cons (de_var 5 rfl (by nofun) rfl (by walk_at "vis") (da_nil (ra_len (by walk_at "seq") (da_nil ⟨_, _, [_], rfl, rfl, ?_⟩))))))))))))
    have hO1 := hS.o1
    have hO6 := hS.o6
    have hN1 := hS.n1
    have hN6 := hS.n6
    rw [List.length_map]
    refine ⟨_, _, hp, rfl, by omega, by omega, by omega, fun at' cs hat hp => ?_⟩
    refine da_cons (de_callL (by assumption) (by walk_at "room") (by rfl) (da_cons (de_var 0 rfl (by nofun) rfl (by walk_at "vis") (da_cons (de_var 3 rfl (by nofun) rfl (by walk_at "vis") (da_nil ⟨_, _, [_], rfl, rfl, ?_⟩))))))
    refine ⟨_, _, hp, rfl, by omega, by omega, by omega, fun st cs hst hp => ?_⟩
    refine da_nil ⟨_, _, rfl, ?_⟩
    have hat2 : at' < S.ops.length := by omega
    have hst2 : st < S.n := by omega
    obtain ⟨o, ho⟩ : ∃ o, S.ops[at']? = some o := ⟨_, List.getElem?_eq_getElem hat2⟩
    have hoo := hS.op o (List.mem_of_getElem? ho)
    have eat : atI (S.ops.map opD) ((at' : Nat) : Int) = some (opD o) := atI_nat (by rw [List.getElem?_map, ho]; rfl)
    refine ds_cons (d1_asg (i := 9) nd rfl (by walk_at "loc") (de_plus (de_plus (de_sliceT (de_ix (fun _ _ => rfl) (de_var 5 rfl (by nofun) rfl (by walk_at "vis") (de_var 7 rfl (by nofun) rfl (by walk_at "vis") ⟨_, _, _, rfl, .tup _, eat, ?_⟩)))))))
    refine ⟨_, rfl, (de_var 8 rfl (by nofun) rfl (by walk_at "vis") ⟨_, rfl, (de_tup (da_cons (de_callL (by assumption) (by walk_at "room") (by rfl) (da_cons (de_var 0 rfl (by nofun) rfl (by walk_at "vis") (da_cons (de_var 3 rfl (by nofun) rfl (by walk_at "vis") (da_nil ⟨_, _, [_], rfl, rfl, ?_⟩))))))))⟩)⟩
    refine ⟨_, _, hp, rfl, by omega, by omega, by omega, fun r cs hr' hp => ?_⟩
    refine da_nil ?_
    refine ⟨[_], rfl, by walk_at "sz", ?_⟩
    have hlo : ∀ n : Nat, (cutD (o.map nD) none (some (n : Int))) = (o.take n).map nD := fun n => by rw [cut_lo, List.map_take]
    have hhi : ∀ n : Nat, (cutD (o.map nD) (some (n : Int)) none) = (o.drop n).map nD := fun n => by rw [cut_hi, List.map_drop]
    rw [hlo]
    refine Plus.tup (by rw [List.length_map, List.length_take]; show _ + 1 ≤ _; have := hoo.1; omega) ?_
    refine de_sliceT (de_ix (fun _ _ => rfl) (de_var 5 rfl (by nofun) rfl (by walk_at "vis") (de_var 7 rfl (by nofun) rfl (by walk_at "vis") ⟨_, _, _, rfl, .tup _, eat, ?_⟩)))
    refine ⟨_, rfl, (de_plus (de_var 8 rfl (by nofun) rfl (by walk_at "vis") (de_int (.int ⟨_, rfl, ?_⟩))))⟩
    have est : ((st : Nat) : Int) + 1 = ((st + 1 : Nat) : Int) := by omega
    rw [est]
    show Plus _ _ _ _
    rw [hhi]
    have eown : (o.take st).map nD ++ [PyData.int (r : Int)] ++ (o.drop (st + 1)).map nD = (o.take st ++ [r] ++ o.drop (st + 1)).map nD := by
      rw [List.map_append, List.map_append]
      rfl
    have hl9 := put_len (x := r) (show st < o.length by rw [hoo.1]; exact hst2)
    refine Plus.tup (by
      rw [← List.length_append, eown, List.length_map, hl9]
      have := hoo.1
      omega) ?_
    rw [eown]
    have hown : OpOk S.n (o.take st ++ [r] ++ o.drop (st + 1)) := ⟨by rw [hl9]; exact hoo.1, put_all st hoo.2 (by omega)⟩
    refine ds_cons (d1_ret (de_tup (da_cons (de_var 3 rfl (by nofun) rfl (by walk_at "vis") (da_cons (de_var 4 rfl (by nofun) rfl (by walk_at "vis") (da_cons (de_plus (de_plus (de_sliceT (de_var 5 rfl (by nofun) rfl (by walk_at "vis") ⟨_, rfl, (de_var 7 rfl (by nofun) rfl (by walk_at "vis") ⟨_, rfl, (de_tup (da_cons (de_var 9 rfl (by nofun) rfl (by walk_at "vis") (da_nil ?_))))⟩)⟩)))))))))))
    refine ⟨[_], rfl, by walk_at "sz", ?_⟩
    rw [cut_lo, ← List.map_take]
    refine Plus.tup (by rw [List.length_map, List.length_take]; show _ + 1 ≤ _; omega) ?_
    refine de_sliceT (de_var 5 rfl (by nofun) rfl (by walk_at "vis") ⟨_, rfl, (de_plus (de_var 7 rfl (by nofun) rfl (by walk_at "vis") (de_int (.int ⟨_, rfl, ?_⟩))))⟩)
    have eat1 : ((at' : Nat) : Int) + 1 = ((at' + 1 : Nat) : Int) := by omega
    rw [eat1]
    show Plus _ _ _ _
    rw [cut_hi, ← List.map_drop]
    have eops := put_map opD S.ops (o.take st ++ [r] ++ o.drop (st + 1)) at'
    have hl10 := put_len (x := o.take st ++ [r] ++ o.drop (st + 1)) hat2
    refine Plus.tup (by
      rw [← List.length_append]
      exact Nat.le_trans (Nat.le_of_eq (congrArg List.length eops)) (by rw [List.length_map, hl10]; omega)) ?_
    have eops2 : (S.ops.take at').map opD ++ [PyData.tuple ((o.take st ++ [r] ++ o.drop (st + 1)).map nD)] ++ (S.ops.drop (at' + 1)).map opD = _ := eops
    rw [eops2]
    refine da_cons (de_var 6 rfl (by nofun) rfl (by walk_at "vis") (da_nil ?_))
    refine ⟨[_, _, _, _], rfl, by walk_at "sz", ?_⟩
    exact ⟨_, _, rfl, rfl, hq ⟨S.n, S.st, S.ops.take at' ++ [o.take st ++ [r] ++ o.drop (st + 1)] ++ S.ops.drop (at' + 1), S.kn⟩ cs ⟨hN1, hN6, hS.st, by rw [hl10]; exact hO1, by rw [hl10]; exact hO6, put_all at' hS.op hown, by rw [hl10]; exact hS.kl, hS.kk⟩ (hp.mono (by omega))⟩
end
end
section
section
variable {P : Program} {w : World} {K : Fg} {mg : Str → Option Value} {base : Heap} {f : Addr} {fd : FuncData} {k : Nat}
theorem ok_cell (F : Fun K "_law_cell_at" "_law_cell_at" s_l_cell_at f fd) (mL : mg "len" = none) : FnOk P w K mg base CX0 1 f fd ["_law_script", "_law_k"] (spP K φ_cell) := by
  refine ok_P F sc_l_cell_at (fun ds Q h => ?_) fun ds Q h cdv A outer s H E hr => ?_
  · obtain ⟨ns, j, rfl, _⟩ := h
    rfl
  · obtain ⟨ns, j, rfl, hq⟩ := h
    have nd := sc_l_cell_at.nd
    refine ds_cons (d1_if (dt_cmp op_lt (nomark _) (de_var 1 rfl (by nofun) rfl (by walk_at "vis") (de_callB call_len_seq (by rfl) (by assumption) PySem.boot_len (da_cons (de_var 0 rfl (by nofun) rfl (by walk_at "vis") (da_nil (ra_len (.lst _) (rr_I0 (fun _ _ => .bl _) ⟨_, rfl, ?_⟩)))))))))
    refine ite2 (fun hc => ?_) (fun hc => ?_)
    · have hc := of_decide_eq_true hc
      rw [List.length_map] at hc
      have hj : j < ns.length := by omega
      refine ds_cons (d1_ret (de_ix (fun _ _ => rfl) (de_var 0 rfl (by nofun) rfl (by walk_at "vis") (de_var 1 rfl (by nofun) rfl (by walk_at "vis") ?_))))
      exact ⟨_, _, _, rfl, .lst _, atI_nat (show (ns.map PyData.int)[j]? = some (PyData.int ns[j]) by rw [List.getElem?_map, List.getElem?_eq_getElem hj]; rfl), _, rfl, hq _⟩
    · exact ds_nil (ds_cons (d1_ret (de_int ⟨_, rfl, hq _⟩)))
end
end
section
/-! ### the program: numbers, places, systems, logs -/
def isNum (d : D) (lo hi : Int) : Bool := match d with
  | .int i => decide (lo ≤ i) && decide (i ≤ hi)
  | _ => false
def isPlaces (d : D) (n : Int) : Bool := match d with
  | .tuple ds => ds.all fun p => isNum p 0 (n - 1)
  | _ => false
def lenD (d : D) : Int := match d with
  | .tuple ds => ds.length
  | .list ds => ds.length
  | _ => 0
def isOps (d : D) (n : Int) : Bool := match d with
  | .tuple ds => decide (1 ≤ ds.length ∧ ds.length ≤ 6) && ds.all fun p => isPlaces p n && decide (lenD p = n)
  | _ => false
def isKinds (d : D) (m : Int) : Bool := match d with
  | .tuple ds => decide ((ds.length : Int) = m) && ds.all fun p => isNon p || isNum p 0 9
  | _ => false
def isSysD (d : D) : Bool := match d with
  | .tuple [.int n, s, o, k] => isNum (.int n) 1 6 && isNum s 0 (n - 1) && isOps o n && isKinds k (lenD o)
  | _ => false
/-- data of bounded size -/
def Sm (d : D) : Prop := d.bulk ≤ 100000
theorem bulk_len : ∀ es : List D, es.length ≤ PyData.bulkAll es
  | [] => Nat.le_refl _
  | x :: r => by
    have := bulk_len r
    show r.length + 1 ≤ x.bulk + 1 + PyData.bulkAll r
    omega
theorem bulk_mem : ∀ {es : List D} {p : D}, p ∈ es → p.bulk ≤ PyData.bulkAll es
  | x :: r, p, h => by
    show p.bulk ≤ x.bulk + 1 + PyData.bulkAll r
    rcases List.mem_cons.mp h with e | h
    · subst e
      omega
    · have := bulk_mem h
      omega
theorem sm_len {es : List D} (h : Sm (.tuple es)) : es.length ≤ 100000 := Nat.le_trans (bulk_len es) h
theorem sm_mem {es : List D} {p : D} (h : Sm (.tuple es)) (hp : p ∈ es) : Sm p := Nat.le_trans (bulk_mem hp) h
def φ_is_number : List D → (D → Prop) → Prop := fun ds P => ∃ d lo hi, ds = [d, .int lo, .int hi] ∧ P (.bool (isNum d lo hi))
def φ_is_place : List D → (D → Prop) → Prop := fun ds P => ∃ d n, ds = [d, .int n] ∧ P (.bool (isNum d 0 (n - 1)))
def φ_are_places : List D → (D → Prop) → Prop := fun ds P => ∃ d n, ds = [d, .int n] ∧ Sm d ∧ P (.bool (isPlaces d n))
section
variable {P : Program} {w : World} {K : Fg} {mg : Str → Option Value} {base : Heap} {f : Addr} {fd : FuncData} {k : Nat}
theorem ok_is_number (F : Fun K "is_number" "is_number" s_is_number f fd) (mI : mg "isinstance" = none) (mi : mg "int" = none) (mb : mg "bool" = none) : FnOk P w K mg base CX0 1 f fd ["thing", "least", "most"] (spP K φ_is_number) := by
  refine ok_P F sc_is_number (fun ds Q h => ?_) fun ds Q h cdv A outer s H E hr => ?_
  · obtain ⟨d, lo, hi, rfl, _⟩ := h
    rfl
  · obtain ⟨d, lo, hi, rfl, hq⟩ := h
    refine ds_cons (d1_ret (de_andB (x := isInt d) (y := isNum d lo hi) (de_isi (by rfl) (by assumption) (by rfl) (by assumption) PyProof.Rows.boot_int kit_int (de_var 0 rfl (by nofun) rfl (by walk_at "vis") ⟨_, rfl, fun hnd => ?_⟩)) (fun h1 => ?_) ?_))
    · rw [isi_int d hnd]
      exact ⟨rfl, rfl⟩
    · refine de_andB (x := !isBl d) (y := isNum d lo hi) (de_notV (de_isi (by rfl) (by assumption) (by rfl) (by assumption) PyProof.Rows.boot_bool kit_bool (de_var 0 rfl (by nofun) rfl (by walk_at "vis") ⟨_, rfl, fun hnd => ?_⟩))) (fun h2 => ?_) ?_
      · rw [isi_bool d hnd]
        exact ⟨_, rfl, rfl, rfl⟩
      · cases d with
        | int i =>
          refine de_one (de_chain op_le op_le (de_var 1 rfl (by nofun) rfl (by walk_at "vis") (de_var 0 rfl (by nofun) rfl (by walk_at "vis") (rr_I0 (fun _ _ => .bl _) ⟨_, rfl, ?_⟩))))
          refine ite2 (fun h3 => ?_) (fun h3 => ?_)
          · refine de_var 2 rfl (by nofun) rfl (by walk_at "vis") (rr_I0 (fun _ _ => .bl _) ⟨?_, rfl⟩)
            show _ = Sl.val (.bool (decide (lo ≤ i) && decide (i ≤ hi)))
            rw [h3]
            rfl
          · refine ⟨?_, rfl⟩
            show _ = Sl.val (.bool (decide (lo ≤ i) && decide (i ≤ hi)))
            have h3 := (Bool.not_eq_true _).mp h3
            rw [h3]
            rfl
        | none => cases h1
        | bool b => cases h2
        | str z => cases h1
        | list z => cases h1
        | tuple z => cases h1
        | dict z => cases h1
      · cases d <;> first | exact ⟨rfl, rfl⟩ | cases h1
    · refine ⟨_, rfl, ?_⟩
      have e : (isInt d && isNum d lo hi) = isNum d lo hi := by cases d <;> rfl
      rw [e]
      exact hq
theorem ok_is_place (F : Fun K "is_place" "is_place" s_is_place f fd) (c1 : Has P w K mg base 1 "is_number" (spP K φ_is_number)) : FnOk P w K mg base CX0 2 f fd ["thing", "many"] (spP K φ_is_place) := by
  refine ok_P F sc_is_place (fun ds Q h => ?_) fun ds Q h cdv A outer s H E hr => ?_
  · obtain ⟨d, n, rfl, _⟩ := h
    rfl
  · obtain ⟨d, n, rfl, hq⟩ := h
    refine ds_cons (d1_ret (de_call (by assumption) (by walk_at "room") (by rfl) (da_cons (de_var 0 rfl (by nofun) rfl (by walk_at "vis") (da_cons (de_int (da_cons (de_sub (de_var 1 rfl (by nofun) rfl (by walk_at "vis") ⟨_, rfl, (de_int ⟨_, rfl, (da_nil ⟨[_, _, _], rfl, ?_⟩)⟩)⟩)))))))))
    exact ⟨_, _, _, rfl, _, rfl, hq⟩
/-- all(..) of a comprehension that tells a bool of each item -/
theorem all_map (its : List D) (g : D → Bool) : its.map (fun d => PyData.bool (g d)) = (its.map g).map PyData.bool ∧ (its.map g).all id = its.all g := ⟨by rw [List.map_map]; rfl, by rw [List.all_map]; rfl⟩
theorem ok_are_places (F : Fun K "are_places" "are_places" s_are_places f fd) (c1 : Has P w K mg base 2 "is_place" (spP K φ_is_place)) (mI : mg "isinstance" = none) (mt : mg "tuple" = none) (ma : mg "all" = none) : FnOk P w K mg base CX0 3 f fd ["thing", "many"] (spP K φ_are_places) := by
  refine ok_P F sc_are_places (fun ds Q h => ?_) fun ds Q h cdv A outer s H E hr => ?_
  · obtain ⟨d, n, rfl, _⟩ := h
    rfl
  · obtain ⟨d, n, rfl, hz, hq⟩ := h
    have nd := sc_are_places.nd
    refine ds_cons (d1_ret (de_andB (x := isTup d) (y := isPlaces d n) (de_isi (by rfl) (by assumption) (by rfl) (by assumption) PyProof.Rows.boot_tuple kit_tuple (de_var 0 rfl (by nofun) rfl (by walk_at "vis") ⟨_, rfl, fun hnd => ?_⟩)) (fun h1 => ?_) ?_))
    · rw [isi_tuple d hnd]
      exact ⟨rfl, rfl⟩
    · cases d with
      | tuple es =>
        refine de_one (de_callB (cr_all rfl) (by rfl) (by assumption) PyProof.Rows.boot_all (da_cons ?_))
        refine de_lc rfl nd (blkOk_by (own := [("part", 2)]) (N := n_are_places) (sc := defScope s_are_places) (by decide +kernel)) (di_tup (de_var 0 rfl (by nofun) rfl (by walk_at "vis") ⟨es, rfl, ?_⟩))
        refine ⟨sm_len hz, _, ⟨rfl, rfl⟩, lc_map (fun d => .bool (isNum d 0 (n - 1))) (fun j d hd s H C cl fp => ?_), fun acc ω' hacc ⟨ew, ea⟩ => .inl ?_⟩
        · refine dg_name (i := 2) nd rfl (.inl rfl) (by decide) ?_
          intro s H C cl fp
          refine de_call (by assumption) (by walk_at "room") (by rfl) (da_cons (de_var 2 rfl (by nofun) rfl (by walk_at "vis") (da_cons (de_var 1 rfl (by nofun) rfl (by walk_at "vis") (da_nil ⟨[_, _], rfl, ?_⟩)))))
          exact ⟨_, _, rfl, rfl, rfl⟩
        · rw [List.take_length, (all_map es _).1] at ea
          subst ew ea
          refine da_nil (ra_all ⟨?_, rfl⟩)
          rw [(all_map es _).2]
          rfl
      | none => cases h1
      | bool b => cases h1
      | int b => cases h1
      | str z => cases h1
      | list z => cases h1
      | dict z => cases h1
    · refine ⟨_, rfl, ?_⟩
      have e : (isTup d && isPlaces d n) = isPlaces d n := by cases d <;> rfl
      rw [e]
      exact hq
end
end
section
def φ_are_operations : List D → (D → Prop) → Prop := fun ds P => ∃ d n, ds = [d, .int n] ∧ Sm d ∧ P (.bool (isOps d n))
def φ_are_kinds : List D → (D → Prop) → Prop := fun ds P => ∃ d n, ds = [d, .int n] ∧ Sm d ∧ P (.bool (isKinds d n))
def φ_is_system : List D → (D → Prop) → Prop := fun ds P => ∃ d, ds = [d] ∧ Sm d ∧ P (.bool (isSysD d))
def φ_is_log : List D → (D → Prop) → Prop := fun ds P => ∃ S d, ds = [sysD S, d] ∧ Sm d ∧ P (.bool (isPlaces d S.ops.length))
def φ_check_system : List D → (D → Prop) → Prop := fun ds P => ∃ d, ds = [d] ∧ Sm d ∧ isSysD d = true ∧ P .none
def φ_check_log : List D → (D → Prop) → Prop := fun ds P => ∃ S d, ds = [sysD S, d] ∧ Sm d ∧ isPlaces d S.ops.length = true ∧ P .none
section
variable {P : Program} {w : World} {K : Fg} {mg : Str → Option Value} {base : Heap} {f : Addr} {fd : FuncData} {k : Nat}
theorem rel_int {i : Int} {t : Tok} : RelV (.int i) (.int i t) := ⟨t, rfl⟩
theorem not_dec {p : Prop} [Decidable p] (h : (!decide p) = true) : ¬ p := fun z => by
  rw [decide_eq_true z] at h
  cases h
theorem yes_dec {p : Prop} [Decidable p] (h : ¬ (!decide p) = true) : p := by
  by_cases z : p
  · exact z
  · rw [decide_eq_false z] at h
    exact absurd rfl h
theorem isi_tuple_of (es : List D) : isiD "tuple" (.tuple es) = true := isi_tuple _ (fun _ => nofun)
theorem lenD_nat {d : D} {es : List D} (h : d = .tuple es) : lenD d = (es.length : Int) := by
  subst h
  rfl
theorem eqv_int (i j : Int) : PyData.eqv (.int i) (.int j) = decide (i = j) := by
  show (i == j) = _
  by_cases h : i = j
  · rw [decide_eq_true h, h]
    exact beq_self_eq_true j
  · rw [decide_eq_false h]
    exact beq_eq_false_iff_ne.mpr h
theorem ok_are_operations {t : Tok} (F : Fun K "are_operations" "are_operations" s_are_operations f fd) (c1 : Has P w K mg base 3 "are_places" (spP K φ_are_places)) (mI : mg "isinstance" = none) (mt : mg "tuple" = none) (ma : mg "all" = none) (ml : mg "len" = none) (mO : mg "MOST_OPERATIONS" = some (.int 6 t)) :
    FnOk P w K mg base CX0 4 f fd ["thing", "states"] (spP K φ_are_operations) := by
  refine ok_P F sc_are_operations (fun ds Q h => ?_) fun ds Q h cdv A outer s H E hr => ?_
  · obtain ⟨d, n, rfl, _⟩ := h
    rfl
  · obtain ⟨d, n, rfl, hz, hq⟩ := h
    have nd := sc_are_operations.nd
    refine ds_cons (d1_if (dt_w (dw_orB (x := !isTup d) (y := !decide (1 ≤ lenD d ∧ lenD d ≤ 6)) (dt_not (dt_val (de_isi (by rfl) (by assumption) (by rfl) (by assumption) PyProof.Rows.boot_tuple kit_tuple (de_var 0 rfl (by nofun) rfl (by walk_at "vis") ⟨_, rfl, fun hnd => ⟨_, rfl, ?_⟩⟩)))) (fun h1 => ?_) ?_)))
    · rw [isi_tuple d hnd]
      exact ⟨rfl, rfl⟩
    · cases d with
      | tuple es =>
        refine dw_or1 (dt_not (dt_chain op_le op_le (de_int (de_callB call_len_seq (by rfl) (by assumption) PySem.boot_len (da_cons (de_var 0 rfl (by nofun) rfl (by walk_at "vis") (da_nil (ra_len (.tup _) (rr_I0 (fun _ _ => .bl _) ⟨_, rfl, ?_⟩)))))))))
        refine ite2 (fun h3 => ?_) (fun h3 => ?_)
        · refine de_glob rfl (by assumption) rel_int (fun _ _ => .int _) (rr_I0 (fun _ _ => .bl _) ⟨_, rfl, ?_, rfl⟩)
          have h4 := of_decide_eq_true h3
          by_cases h5 : (es.length : Int) ≤ 6
          · rw [decide_eq_true h5, decide_eq_true (show 1 ≤ lenD (.tuple es) ∧ lenD (.tuple es) ≤ 6 from ⟨h4, h5⟩)]
          · rw [decide_eq_false h5, decide_eq_false (fun z : 1 ≤ lenD (.tuple es) ∧ lenD (.tuple es) ≤ 6 => h5 z.2)]
        · refine ⟨?_, rfl⟩
          rw [decide_eq_false (fun z : 1 ≤ lenD (.tuple es) ∧ lenD (.tuple es) ≤ 6 => h3 (decide_eq_true z.1))]
      | none => cases h1
      | bool b => cases h1
      | int b => cases h1
      | str z => cases h1
      | list z => cases h1
      | dict z => cases h1
    refine ite2 (fun h1 => ?_) (fun h1 => ?_)
    · refine ds_cons (d1_ret (de_bool ⟨_, rfl, ?_⟩))
      have e : isOps d n = false := by
        cases d with
        | tuple es =>
          have h2 : ¬ (1 ≤ es.length ∧ es.length ≤ 6) := by
            have h3 : ¬ (1 ≤ (es.length : Int) ∧ (es.length : Int) ≤ 6) := not_dec h1
            omega
          show (decide _ && _) = false
          rw [decide_eq_false h2]
          rfl
        | _ => rfl
      rw [← e]
      exact hq
    refine ds_nil ?_
    cases d with
    | tuple es =>
      have h2 : 1 ≤ es.length ∧ es.length ≤ 6 := by
        have h3 : 1 ≤ (es.length : Int) ∧ (es.length : Int) ≤ 6 := yes_dec h1
        omega
      refine ds_cons (d1_ret (de_callB (cr_all rfl) (by rfl) (by assumption) PyProof.Rows.boot_all (da_cons ?_)))
      refine de_lc rfl nd (blkOk_by (own := [("part", 2)]) (N := n_are_operations) (sc := defScope s_are_operations) (by decide +kernel)) (di_tup (de_var 0 rfl (by nofun) rfl (by walk_at "vis") ⟨es, rfl, ?_⟩))
      refine ⟨sm_len hz, _, ⟨rfl, rfl⟩, lc_map (fun d => .bool (isPlaces d n && decide (lenD d = n))) (fun j d hd s H C cl fp => ?_), fun acc ω' hacc ⟨ew, ea⟩ => .inl ?_⟩
      · refine dg_name (i := 2) nd rfl (.inl rfl) (by decide) ?_
        intro s H C cl fp
        refine de_andB (x := isPlaces d n) (y := decide (lenD d = n)) ?_ (fun h3 => ?_) ⟨rfl, rfl⟩
        · refine de_call (by assumption) (by walk_at "room") (by rfl) (da_cons (de_var 2 rfl (by nofun) rfl (by walk_at "vis") (da_cons (de_var 1 rfl (by nofun) rfl (by walk_at "vis") (da_nil ⟨[_, _], rfl, ?_⟩)))))
          exact ⟨_, _, rfl, sm_mem hz (List.mem_of_getElem? hd), rfl, rfl⟩
        · cases d with
          | tuple us =>
            refine de_one (de_cmp (op_eqD (Room.units hr)) (nomark _) (de_callB call_len_seq (by rfl) (by assumption) PySem.boot_len (da_cons (de_var 2 rfl (by nofun) rfl (by walk_at "vis") (da_nil (ra_len (.tup _) (de_var 1 rfl (by nofun) rfl (by walk_at "vis") (rr_eqD (by walk_at "sh") (by walk_at "sh") ⟨?_, rfl⟩))))))))
            rw [eqv_int]
            rfl
          | _ => cases h3
      · rw [List.take_length, (all_map es _).1] at ea
        subst ew ea
        refine da_nil (ra_all ⟨_, rfl, ?_⟩)
        rw [(all_map es _).2]
        have e : isOps (.tuple es) n = es.all fun p => isPlaces p n && decide (lenD p = n) := by
          show (decide _ && _) = _
          rw [decide_eq_true h2]
          rfl
        rw [← e]
        exact hq
    | _ => cases h1 rfl
theorem ok_are_kinds {t : Tok} (F : Fun K "are_kinds" "are_kinds" s_are_kinds f fd) (c1 : Has P w K mg base 1 "is_number" (spP K φ_is_number)) (mI : mg "isinstance" = none) (mt : mg "tuple" = none) (ma : mg "all" = none) (ml : mg "len" = none) (mO : mg "GREATEST_KIND" = some (.int 9 t)) :
    FnOk P w K mg base CX0 4 f fd ["thing", "many"] (spP K φ_are_kinds) := by
  refine ok_P F sc_are_kinds (fun ds Q h => ?_) fun ds Q h cdv A outer s H E hr => ?_
  · obtain ⟨d, n, rfl, _⟩ := h
    rfl
  · obtain ⟨d, n, rfl, hz, hq⟩ := h
    have nd := sc_are_kinds.nd
    refine ds_cons (d1_if (dt_w (dw_orB (x := !isTup d) (y := !decide (lenD d = n)) (dt_not (dt_val (de_isi (by rfl) (by assumption) (by rfl) (by assumption) PyProof.Rows.boot_tuple kit_tuple (de_var 0 rfl (by nofun) rfl (by walk_at "vis") ⟨_, rfl, fun hnd => ⟨_, rfl, ?_⟩⟩)))) (fun h1 => ?_) ?_)))
    · rw [isi_tuple d hnd]
      exact ⟨rfl, rfl⟩
    · cases d with
      | tuple es =>
        refine dw_or1 (dt_cmp (op_neD (Room.units hr)) (nomark _) (de_callB call_len_seq (by rfl) (by assumption) PySem.boot_len (da_cons (de_var 0 rfl (by nofun) rfl (by walk_at "vis") (da_nil (ra_len (.tup _) (de_var 1 rfl (by nofun) rfl (by walk_at "vis") (rr_neD (by walk_at "sh") (by walk_at "sh") ⟨_, rfl, ?_, rfl⟩))))))))
        rw [eqv_int]
        rfl
      | _ => cases h1
    refine ite2 (fun h1 => ?_) (fun h1 => ?_)
    · refine ds_cons (d1_ret (de_bool ⟨_, rfl, ?_⟩))
      have e : isKinds d n = false := by
        cases d with
        | tuple es =>
          have h2 : ¬ (es.length : Int) = n := not_dec h1
          show (decide _ && _) = false
          rw [decide_eq_false h2]
          rfl
        | _ => rfl
      rw [← e]
      exact hq
    refine ds_nil ?_
    cases d with
    | tuple es =>
      have h2 : (es.length : Int) = n := yes_dec h1
      refine ds_cons (d1_ret (de_callB (cr_all rfl) (by rfl) (by assumption) PyProof.Rows.boot_all (da_cons ?_)))
      refine de_lc rfl nd (blkOk_by (own := [("part", 2)]) (N := n_are_kinds) (sc := defScope s_are_kinds) (by decide +kernel)) (di_tup (de_var 0 rfl (by nofun) rfl (by walk_at "vis") ⟨es, rfl, ?_⟩))
      refine ⟨sm_len hz, _, ⟨rfl, rfl⟩, lc_map (fun d => .bool (isNon d || isNum d 0 9)) (fun j d hd s H C cl fp => ?_), fun acc ω' hacc ⟨ew, ea⟩ => .inl ?_⟩
      · refine dg_name (i := 2) nd rfl (.inl rfl) (by decide) ?_
        intro s H C cl fp
        refine de_orB (x := isNon d) (y := isNum d 0 9) (de_cmp op_isN (nomark _) (de_var 2 rfl (by nofun) rfl (by walk_at "vis") (de_none (rr_isN ⟨rfl, rfl⟩)))) (fun h3 => ?_) ⟨rfl, rfl⟩
        refine de_one (de_call (by assumption) (by walk_at "room") (by rfl) (da_cons (de_var 2 rfl (by nofun) rfl (by walk_at "vis") (da_cons (de_int (da_cons (de_glob rfl (by assumption) rel_int (fun _ _ => .int _) (da_nil ⟨[_, _, _], rfl, ?_⟩))))))))
        exact ⟨_, _, _, rfl, rfl, rfl⟩
      · rw [List.take_length, (all_map es _).1] at ea
        subst ew ea
        refine da_nil (ra_all ⟨_, rfl, ?_⟩)
        rw [(all_map es _).2]
        have e : isKinds (.tuple es) n = es.all fun p => isNon p || isNum p 0 9 := by
          show (decide _ && _) = _
          rw [decide_eq_true h2]
          rfl
        rw [← e]
        exact hq
    | _ => cases h1 rfl
end
end
section
/-! ### systems and logs of the right form are recognized -/
def notPlace (dn dst : D) : Bool := match dn with
  | .int n => !isNum dst 0 (n - 1)
  | _ => true
theorem isNum_nD {i : Nat} {lo hi : Int} (h1 : lo ≤ (i : Int)) (h2 : (i : Int) ≤ hi) : isNum (nD i) lo hi = true := by
  show (decide _ && decide _) = true
  rw [decide_eq_true h1, decide_eq_true h2]
  rfl
theorem isPlaces_map {l : List Nat} {n : Nat} (h : ∀ i ∈ l, i < n) : isPlaces (.tuple (l.map nD)) n = true := by
  show (l.map nD).all _ = true
  rw [List.all_map, List.all_eq_true]
  intro i hi
  show isNum (nD i) 0 ((n : Int) - 1) = true
  exact isNum_nD (by omega) (by have := h i hi; omega)
theorem isOps_of {S : Sys} (h : S.Ok) : isOps (.tuple (S.ops.map opD)) S.n = true := by
  have h1 := h.o1
  have h6 := h.o6
  show (decide _ && (S.ops.map opD).all _) = true
  rw [List.length_map, decide_eq_true ⟨h1, h6⟩, Bool.true_and, List.all_map, List.all_eq_true]
  intro o ho
  have := h.op o ho
  show (isPlaces (opD o) S.n && decide (lenD (opD o) = S.n)) = true
  rw [show isPlaces (opD o) S.n = true from isPlaces_map this.2, Bool.true_and]
  refine decide_eq_true ?_
  show (((o.map nD).length : Nat) : Int) = _
  rw [List.length_map, this.1]
theorem isKinds_of {S : Sys} (h : S.Ok) : isKinds (.tuple (S.kn.map kD)) ((S.ops.map opD).length : Int) = true := by
  show (decide _ && (S.kn.map kD).all _) = true
  rw [List.length_map, List.length_map, h.kl, decide_eq_true rfl, Bool.true_and, List.all_map, List.all_eq_true]
  intro k hk
  have := h.kk k hk
  cases k with
  | none => rfl
  | some i =>
    show (isNon (nD i) || isNum (nD i) 0 9) = true
    rw [isNum_nD (by omega) (by have := this i rfl; omega)]
    rfl
theorem isSys_of {S : Sys} (h : S.Ok) : isSysD (sysD S) = true := by
  have h1 := h.n1
  have h6 := h.n6
  have hs := h.st
  show (isNum (nD S.n) 1 6 && isNum (nD S.st) 0 ((S.n : Int) - 1) && isOps _ _ && isKinds _ _) = true
  rw [isNum_nD (by omega) (by omega), isNum_nD (by omega) (by omega), isOps_of h, show isKinds (.tuple (S.kn.map kD)) (lenD (.tuple (S.ops.map opD))) = true from isKinds_of h]
  rfl
theorem bulk_nD (i : Nat) : (nD i).bulk = 0 := rfl
theorem bulkAll_nD : ∀ l : List Nat, PyData.bulkAll (l.map nD) = l.length
  | [] => rfl
  | x :: r => by
    show (nD x).bulk + 1 + PyData.bulkAll (r.map nD) = r.length + 1
    rw [bulkAll_nD r, bulk_nD]
    omega
theorem bulkAll_kD : ∀ l : List (Option Nat), PyData.bulkAll (l.map kD) = l.length
  | [] => rfl
  | x :: r => by
    show (kD x).bulk + 1 + PyData.bulkAll (r.map kD) = r.length + 1
    rw [bulkAll_kD r]
    cases x <;> show 0 + 1 + r.length = _ <;> omega
theorem bulkAll_opD {n : Nat} : ∀ l : List (List Nat), (∀ o ∈ l, o.length = n) → PyData.bulkAll (l.map opD) = l.length * (n + 1)
  | [], _ => by
    rw [List.length_nil, Nat.zero_mul]
    rfl
  | x :: r, h => by
    show PyData.bulkAll (x.map nD) + 1 + PyData.bulkAll (r.map opD) = (r.length + 1) * (n + 1)
    rw [bulkAll_opD r fun o ho => h o (List.mem_cons_of_mem _ ho), bulkAll_nD, h x List.mem_cons_self, Nat.succ_mul]
    omega
theorem bulk_sys {S : Sys} (h : S.Ok) : (sysD S).bulk ≤ 100 := by
  show (nD S.n).bulk + 1 + ((nD S.st).bulk + 1 + (PyData.bulkAll (S.ops.map opD) + 1 + (PyData.bulkAll (S.kn.map kD) + 1 + 0))) ≤ 100
  rw [bulk_nD, bulk_nD, bulkAll_opD S.ops fun o ho => (h.op o ho).1, bulkAll_kD, h.kl]
  have h1 := h.o6
  have h2 := h.n6
  have h3 : S.ops.length * (S.n + 1) ≤ 6 * 7 := Nat.mul_le_mul h1 (by omega)
  omega
theorem sm_sys {S : Sys} (h : S.Ok) : Sm (sysD S) := Nat.le_trans (bulk_sys h) (by decide)
theorem sm_log {l : List Nat} (h : l.length ≤ 100000) : Sm (logD l) := by
  show PyData.bulkAll (l.map nD) ≤ 100000
  rw [bulkAll_nD]
  exact h
theorem isLog_of {S : Sys} {l : List Nat} (h : LogOk S l) : isPlaces (logD l) S.ops.length = true := isPlaces_map h

/-! ### what logs lead to -/
def step (S : Sys) (e s : Nat) : Nat := (S.ops.getD e []).getD s 0
def endOf (S : Sys) (s : Nat) (l : List Nat) : Nat := l.foldl (fun s e => step S e s) s
theorem step_at {S : Sys} (hS : S.Ok) {e s : Nat} (he : e < S.ops.length) (hs : s < S.n) : step S e s < S.n ∧ ∃ o, S.ops[e]? = some o ∧ o[s]? = some (step S e s) := by
  obtain ⟨o, ho⟩ : ∃ o, S.ops[e]? = some o := ⟨_, List.getElem?_eq_getElem he⟩
  have hoo := hS.op o (List.mem_of_getElem? ho)
  have hs2 : s < o.length := by rw [hoo.1]; exact hs
  have h3 : step S e s = o[s] := by
    unfold step
    rw [show S.ops.getD e [] = o by rw [List.getD_eq_getElem?_getD, ho]; rfl]
    rw [List.getD_eq_getElem?_getD, List.getElem?_eq_getElem hs2]
    rfl
  refine ⟨?_, o, ho, ?_⟩
  · rw [h3]
    exact hoo.2 _ (List.getElem_mem hs2)
  · rw [h3, List.getElem?_eq_getElem hs2]
theorem endOf_lt {S : Sys} (hS : S.Ok) : ∀ {l : List Nat} {s : Nat}, LogOk S l → s < S.n → endOf S s l < S.n
  | [], s, _, hs => hs
  | e :: r, s, hl, hs => endOf_lt hS (l := r) (fun x hx => hl x (List.mem_cons_of_mem _ hx)) (step_at hS (hl e List.mem_cons_self) hs).1
theorem endOf_snoc (S : Sys) (s : Nat) (l : List Nat) (e : Nat) : endOf S s (l ++ [e]) = step S e (endOf S s l) := by
  unfold endOf
  rw [List.foldl_append]
  rfl
theorem endOf_take (S : Sys) (s : Nat) {l : List Nat} {i e : Nat} (h : l[i]? = some e) : endOf S s (l.take (i + 1)) = step S e (endOf S s (l.take i)) := by
  rw [List.take_add_one, h]
  exact endOf_snoc S s _ e
theorem logOk_take {S : Sys} {l : List Nat} (h : LogOk S l) (i : Nat) : LogOk S (l.take i) := fun x hx => h x (List.mem_of_mem_take hx)
def φ_end_of : List D → (D → Prop) → Prop := fun ds P => ∃ S s l, ds = [sysD S, nD s, logD l] ∧ S.Ok ∧ s < S.n ∧ LogOk S l ∧ P (nD (endOf S s l))
def φ_run : List D → (D → Prop) → Prop := fun ds P => ∃ S s l, ds = [sysD S, nD s, logD l] ∧ S.Ok ∧ s < S.n ∧ LogOk S l ∧ l.length ≤ 100000 ∧ P (nD (endOf S s l))
def φ_outcome : List D → (D → Prop) → Prop := fun ds P => ∃ S l, ds = [sysD S, logD l] ∧ S.Ok ∧ LogOk S l ∧ l.length ≤ 100000 ∧ P (nD (endOf S S.st l))
section
variable {P : Program} {w : World} {K : Fg} {mg : Str → Option Value} {base : Heap} {f : Addr} {fd : FuncData} {k : Nat}
theorem ok_is_system {t : Tok} (F : Fun K "is_system" "is_system" s_is_system f fd) (c1 : Has P w K mg base 1 "is_number" (spP K φ_is_number)) (c2 : Has P w K mg base 2 "is_place" (spP K φ_is_place)) (c3 : Has P w K mg base 4 "are_operations" (spP K φ_are_operations))
    (c4 : Has P w K mg base 4 "are_kinds" (spP K φ_are_kinds)) (mI : mg "isinstance" = none) (mt : mg "tuple" = none) (ml : mg "len" = none) (mO : mg "MOST_STATES" = some (.int 6 t)) : FnOk P w K mg base CX0 5 f fd ["thing"] (spP K φ_is_system) := by
  refine ok_P F sc_is_system (fun ds Q h => ?_) fun ds Q h cdv A outer s H E hr => ?_
  · obtain ⟨d, rfl, _⟩ := h
    rfl
  · obtain ⟨d, rfl, hz, hq⟩ := h
    have nd := sc_is_system.nd
    refine ds_cons (d1_if (dt_w (dw_orB (x := !isTup d) (y := !decide (lenD d = 4)) (dt_not (dt_val (de_isi (by rfl) (by assumption) (by rfl) (by assumption) PyProof.Rows.boot_tuple kit_tuple (de_var 0 rfl (by nofun) rfl (by walk_at "vis") ⟨_, rfl, fun hnd => ⟨_, rfl, ?_⟩⟩)))) (fun h1 => ?_) ?_)))
    · rw [isi_tuple d hnd]
      exact ⟨rfl, rfl⟩
    · cases d with
      | tuple es =>
        refine dw_or1 (dt_cmp (op_neD (Room.units hr)) (nomark _) (de_callB call_len_seq (by rfl) (by assumption) PySem.boot_len (da_cons (de_var 0 rfl (by nofun) rfl (by walk_at "vis") (da_nil (ra_len (.tup _) (de_int (rr_neD (by walk_at "sh") (by walk_at "sh") ⟨_, rfl, ?_, rfl⟩))))))))
        rw [eqv_int]
        rfl
      | _ => cases h1
    refine ite2 (fun h1 => ?_) (fun h1 => ?_)
    · refine ds_cons (d1_ret (de_bool ⟨_, rfl, ?_⟩))
      have e : isSysD d = false := by
        cases d with
        | tuple es =>
          have h2 : ¬ (es.length : Int) = 4 := not_dec h1
          unfold isSysD
          split
          · rename_i heq
            injection heq with heq
            subst heq
            exact absurd rfl h2
          · rfl
        | _ => rfl
      rw [← e]
      exact hq
    refine ds_nil ?_
    cases d with
    | tuple es =>
      have h2 : (es.length : Int) = 4 := yes_dec h1
      obtain ⟨dn, dst, dop, dk, rfl⟩ : ∃ a b c e, es = [a, b, c, e] := by
        match es, h2 with
        | [a, b, c, e], _ => exact ⟨a, b, c, e, rfl⟩
        | [], h => exact absurd h (by decide)
        | [_], h => exact absurd h (by show ¬ (1 : Int) = 4; decide)
        | [_, _], h => exact absurd h (by show ¬ (2 : Int) = 4; decide)
        | [_, _, _], h => exact absurd h (by show ¬ (3 : Int) = 4; decide)
        | _ :: _ :: _ :: _ :: _ :: r, h => exact absurd h (by rw [List.length_cons, List.length_cons, List.length_cons, List.length_cons, List.length_cons]; omega)
      refine ds_cons (d1_unp rfl (pgs_cons (pg_name (i := 1) nd rfl (by walk_at "loc")) (pgs_cons (pg_name (i := 2) nd rfl (by walk_at "loc")) (pgs_cons (pg_name (i := 3) nd rfl (by walk_at "loc")) (pgs_cons (pg_name (i := 4) nd rfl (by walk_at "loc")) pgs_nil)))) (.cons (.cons (.cons (.cons .nil)))) (de_var 0 rfl (by nofun) rfl (by walk_at "vis") ⟨_, rfl, rfl, ?_⟩))
      refine ds_cons (d1_if (dt_w (dw_orB (x := !isNum dn 1 6) (y := notPlace dn dst) (dt_not (dt_val (de_call c1 (by walk_at "room") (by rfl) (da_cons (de_var 1 rfl (by nofun) rfl (by walk_at "vis") (da_cons (de_int (da_cons (de_glob rfl (by assumption) rel_int (fun _ _ => .int _) (da_nil ⟨[_, _, _], rfl, _, _, _, rfl, ⟨_, rfl, rfl, rfl⟩⟩)))))))))) (fun h3 => ?_) ?_)))
      · cases dn with
        | int n => exact dw_or1 (dt_not (dt_val (de_call c2 (by walk_at "room") (by rfl) (da_cons (de_var 2 rfl (by nofun) rfl (by walk_at "vis") (da_cons (de_var 1 rfl (by nofun) rfl (by walk_at "vis") (da_nil ⟨[_, _], rfl, _, _, rfl, ⟨_, rfl, rfl, rfl⟩⟩))))))))
        | _ => cases h3
      refine ite2 (fun h3 => ?_) (fun h3 => ?_)
      · refine ds_cons (d1_ret (de_bool ⟨_, rfl, ?_⟩))
        have e : isSysD (.tuple [dn, dst, dop, dk]) = false := by
          cases dn with
          | int n =>
            have h3 : (!isNum (.int n) 1 6 || !isNum dst 0 (n - 1)) = true := h3
            show (isNum _ _ _ && isNum _ _ _ && isOps _ _ && isKinds _ _) = false
            cases q1 : isNum (.int n) 1 6 with
            | false => rfl
            | true =>
              rw [q1] at h3
              cases q2 : isNum dst 0 (n - 1) with
              | false => rfl
              | true =>
                rw [q2] at h3
                cases h3
          | _ => rfl
        rw [← e]
        exact hq
      refine ds_nil ?_
      cases dn with
      | int n =>
        have h4 : isNum (.int n) 1 6 = true ∧ isNum dst 0 (n - 1) = true := by
          have h3 : ¬ (!isNum (.int n) 1 6 || !isNum dst 0 (n - 1)) = true := h3
          cases q1 : isNum (.int n) 1 6 with
          | false =>
            rw [q1] at h3
            exact absurd rfl h3
          | true =>
            rw [q1] at h3
            cases q2 : isNum dst 0 (n - 1) with
            | false =>
              rw [q2] at h3
              exact absurd rfl h3
            | true => exact ⟨rfl, rfl⟩
        refine ds_cons (d1_ret (de_andB (x := isOps dop n) (y := isKinds dk (lenD dop)) (de_call c3 (by walk_at "room") (by rfl) (da_cons (de_var 3 rfl (by nofun) rfl (by walk_at "vis") (da_cons (de_var 1 rfl (by nofun) rfl (by walk_at "vis") (da_nil ⟨[_, _], rfl, _, _, rfl, sm_mem hz (by simp), rfl, rfl⟩)))))) (fun h5 => ?_) ?_))
        · cases dop with
          | tuple os => exact de_one (de_call c4 (by walk_at "room") (by rfl) (da_cons (de_var 4 rfl (by nofun) rfl (by walk_at "vis") (da_cons (de_callB call_len_seq (by rfl) (by assumption) PySem.boot_len (da_cons (de_var 3 rfl (by nofun) rfl (by walk_at "vis") (da_nil (ra_len (.tup _) (da_nil ⟨[_, _], rfl, _, _, rfl, sm_mem hz (by simp), rfl, rfl⟩))))))))))
          | _ => cases h5
        · refine ⟨_, rfl, ?_⟩
          have e : isSysD (.tuple [.int n, dst, dop, dk]) = (isOps dop n && isKinds dk (lenD dop)) := by
            show (isNum _ _ _ && isNum _ _ _ && isOps _ _ && isKinds _ _) = _
            rw [h4.1, h4.2]
            rfl
          rw [← e]
          exact hq
      | _ => exact absurd rfl h3
    | _ => cases h1 rfl
theorem ok_is_log (F : Fun K "is_log" "is_log" s_is_log f fd) (c1 : Has P w K mg base 3 "are_places" (spP K φ_are_places)) (ml : mg "len" = none) : FnOk P w K mg base CX0 4 f fd ["system", "thing"] (spP K φ_is_log) := by
  refine ok_P F sc_is_log (fun ds Q h => ?_) fun ds Q h cdv A outer s H E hr => ?_
  · obtain ⟨S, d, rfl, _⟩ := h
    rfl
  · obtain ⟨S, d, rfl, hz, hq⟩ := h
    refine ds_cons (d1_ret (de_call c1 (by walk_at "room") (by rfl) (da_cons (de_var 1 rfl (by nofun) rfl (by walk_at "vis") (da_cons (de_callB call_len_seq (by rfl) (by assumption) PySem.boot_len (da_cons (de_ix (fun _ _ => rfl) (de_var 0 rfl (by nofun) rfl (by walk_at "vis") (de_int ⟨_, _, _, rfl, (by walk_at "seq"), rfl, (da_nil (ra_len (by walk_at "seq") (da_nil ⟨[_, _], rfl, ?_⟩)))⟩))))))))))
    refine ⟨_, _, rfl, hz, _, rfl, ?_⟩
    rw [List.length_map]
    exact hq
theorem ok_check_system (F : Fun K "check_system" "check_system" s_check_system f fd) (c1 : Has P w K mg base 5 "is_system" (spP K φ_is_system)) : FnOk P w K mg base CX0 6 f fd ["system"] (spP K φ_check_system) := by
  refine ok_P F sc_check_system (fun ds Q h => ?_) fun ds Q h cdv A outer s H E hr => ?_
  · obtain ⟨d, rfl, _⟩ := h
    rfl
  · obtain ⟨d, rfl, hz, hs, hq⟩ := h
    refine ds_cons (d1_if (dt_not (dt_val (de_call c1 (by walk_at "room") (by rfl) (da_cons (de_var 0 rfl (by nofun) rfl (by walk_at "vis") (da_nil ⟨[_], rfl, _, rfl, hz, _, rfl, ?_⟩)))))))
    rw [hs]
    exact iteF (ds_nil (ds_nil hq))
theorem ok_check_log (F : Fun K "check_log" "check_log" s_check_log f fd) (c1 : Has P w K mg base 4 "is_log" (spP K φ_is_log)) : FnOk P w K mg base CX0 5 f fd ["system", "log"] (spP K φ_check_log) := by
  refine ok_P F sc_check_log (fun ds Q h => ?_) fun ds Q h cdv A outer s H E hr => ?_
  · obtain ⟨S, d, rfl, _⟩ := h
    rfl
  · obtain ⟨S, d, rfl, hz, hs, hq⟩ := h
    refine ds_cons (d1_if (dt_not (dt_val (de_call c1 (by walk_at "room") (by rfl) (da_cons (de_var 0 rfl (by nofun) rfl (by walk_at "vis") (da_cons (de_var 1 rfl (by nofun) rfl (by walk_at "vis") (da_nil ⟨[_, _], rfl, _, _, rfl, hz, _, rfl, ?_⟩)))))))))
    rw [hs]
    exact iteF (ds_nil (ds_nil hq))
end
end
section
section
variable {P : Program} {w : World} {K : Fg} {mg : Str → Option Value} {base : Heap} {f : Addr} {fd : FuncData} {k : Nat}
theorem ok_end_of (F : Fun K "end_of" "end_of" s_end_of f fd) : FnOk P w K mg base CX0 1 f fd ["system", "state", "log"] (spP K φ_end_of) := by
  refine ok_P F sc_end_of (fun ds Q h => ?_) fun ds Q h cdv A outer s H E hr => ?_
  · obtain ⟨S, s, l, rfl, _⟩ := h
    rfl
  · obtain ⟨S, st, l, rfl, hS, hs, hl, hq⟩ := h
    have nd := sc_end_of.nd
    refine ds_cons (d1_asg (i := 3) nd rfl (by walk_at "loc") (de_ix (fun _ _ => rfl) (de_var 0 rfl (by nofun) rfl (by walk_at "vis") (de_int ⟨_, _, _, rfl, (by walk_at "seq"), rfl, ?_⟩))))
    refine ds_cons (d1_for PassesOwn.never rfl (di_tup (de_var 2 rfl (by nofun) rfl (by walk_at "vis") ⟨_, rfl, ?_⟩)))
    refine ⟨fun i δ' ω' => ∃ en, δ' = [.val (sysD S), .val (nD (endOf S st (l.take i))), .val (logD l), .val (.tuple (S.ops.map opD)), en], ⟨.no, rfl⟩, ?_, ?_⟩
    · rintro i d δ' ω' hd ⟨en, rfl⟩
      obtain ⟨e, he, rfl⟩ : ∃ e, l[i]? = some e ∧ d = nD e := by
        rw [List.getElem?_map] at hd
        cases q : l[i]? with
        | none =>
          rw [q] at hd
          cases hd
        | some e =>
          rw [q] at hd
          exact ⟨e, rfl, (Option.some.inj hd).symm⟩
      have he2 := hl e (List.mem_of_getElem? he)
      obtain ⟨h1, o, h2, h3⟩ := step_at hS he2 (endOf_lt hS (logOk_take hl i) hs)
      refine dg_name (i := 4) nd rfl (by walk_at "loc") (by walk_at "mr") ?_
      refine ds_cons (d1_asg (i := 1) nd rfl (by walk_at "loc") (de_ix (fun _ _ => rfl) (de_ix (fun _ _ => rfl) (de_var 3 rfl (by nofun) rfl (by walk_at "vis") (de_var 4 rfl (by nofun) rfl (by walk_at "vis") ?_)))))
      refine ⟨_, _, _, rfl, by walk_at "seq", atI_nat (show (S.ops.map opD)[e]? = some (opD o) by rw [List.getElem?_map, h2]; rfl), ?_⟩
      refine de_var 1 rfl (by nofun) rfl (by walk_at "vis") ?_
      refine ⟨_, _, _, rfl, .tup _, atI_nat (show (o.map nD)[endOf S st (l.take i)]? = some (nD (step S e (endOf S st (l.take i)))) by rw [List.getElem?_map, h3]; rfl), ?_⟩
      rw [← endOf_take S st he]
      exact ds_nil ⟨_, rfl⟩
    · rintro δ' ω' ⟨en, rfl⟩
      rw [List.length_map, List.take_length]
      exact ds_cons (d1_ret (de_var 1 rfl (by nofun) rfl (by walk_at "vis") ⟨_, rfl, hq⟩))
end
end
section
theorem rr_neN {X : Cx} {P : Sl → List Cell → Prop} {ω : List Cell} {a b : Nat} (hp : P (.val (.bool (!decide (a = b)))) ω) : RR X rNe (.val (nD a)) (.val (nD b)) ω P := fun B F H as v u w s1 s2 Q o => by
  obtain rfl := dp_int_inv (sl_val s1)
  obtain rfl := dp_int_inv (sl_val s2)
  refine ⟨rfl, ?_⟩
  rw [dec_int, show ((a : Int) == (b : Int)) = decide (a = b) by rw [Bool.eq_iff_iff, beq_iff_eq, decide_eq_true_eq]; omega]
  exact o.here w (.bl _) hp
theorem inD_map (s : Nat) : ∀ l : List Nat, inD (nD s) (l.map nD) = decide (s ∈ l)
  | [] => rfl
  | x :: r => by
    have e : inD (nD s) ((x :: r).map nD) = (((x : Int) == (s : Int)) || inD (nD s) (r.map nD)) := rfl
    rw [e, inD_map s r, Bool.eq_iff_iff, Bool.or_eq_true, decide_eq_true_eq, beq_iff_eq, decide_eq_true_eq, List.mem_cons]
    constructor
    · rintro (h | h)
      · exact .inl (by omega)
      · exact .inr h
    · rintro (h | h)
      · exact .inl (by rw [h])
      · exact .inr h
theorem find_at {α : Type} {p : α → Bool} {x : α} : ∀ {l : List α} {i : Nat}, l[i]? = some x → (∀ y ∈ l.take i, p y = false) → p x = true → l.find? p = some x
  | y :: r, 0, h, _, hp => by
    have e : y = x := Option.some.inj h
    subst e
    rw [List.find?_cons, hp]
  | y :: r, i + 1, h, ht, hp => by
    rw [List.find?_cons, ht y (by rw [List.take_succ_cons]; exact List.mem_cons_self)]
    exact find_at (i := i) h (fun z hz => ht z (by rw [List.take_succ_cons]; exact List.mem_cons_of_mem _ hz)) hp
theorem find_no {α : Type} {p : α → Bool} {l : List α} (h : ∀ y ∈ l, p y = false) : l.find? p = none := List.find?_eq_none.mpr fun y hy => by rw [h y hy]; exact Bool.false_ne_true
theorem take_more {α : Type} {q : α → Prop} {l : List α} {i : Nat} {x : α} (h : l[i]? = some x) (ht : ∀ y ∈ l.take i, q y) (hx : q x) : ∀ y ∈ l.take (i + 1), q y := fun y hy => by
  rw [List.take_add_one, h] at hy
  rcases List.mem_append.mp hy with hy | hy
  · exact ht y hy
  · have e : y = x := List.mem_singleton.mp hy
    rw [e]
    exact hx
theorem map_at {α : Type} {f : α → D} {l : List α} {i : Nat} {d : D} (h : (l.map f)[i]? = some d) : ∃ x, l[i]? = some x ∧ d = f x := by
  rw [List.getElem?_map] at h
  cases q : l[i]? with
  | none =>
    rw [q] at h
    cases h
  | some x =>
    rw [q] at h
    exact ⟨x, rfl, (Option.some.inj h).symm⟩
theorem logOk_app {S : Sys} {l m : List Nat} (hl : LogOk S l) (hm : LogOk S m) : LogOk S (l ++ m) := fun e he => (List.mem_append.mp he).elim (hl e) (hm e)
theorem logOk_one {S : Sys} {e : Nat} (he : e < S.ops.length) : LogOk S [e] := fun x hx => by rw [List.mem_singleton.mp hx]; exact he
theorem logOk_drop {S : Sys} {l : List Nat} (h : LogOk S l) (i : Nat) : LogOk S (l.drop i) := fun e he => h e (List.mem_of_mem_drop he)
theorem cutLo (l : List Nat) (n : Nat) : cutD (l.map nD) none (some (n : Int)) = (l.take n).map nD := by rw [cut_lo, List.map_take]
theorem cutHi (l : List Nat) (n : Nat) : cutD (l.map nD) (some (n : Int)) none = (l.drop n).map nD := by rw [cut_hi, List.map_drop]
end
section
/-! ### the states one after another, each with its first log -/
abbrev Ent := Nat × List Nat
def bstep (S : Sys) (s : Nat) (lg : List Nat) (L : List Ent) (e : Nat) : List Ent := if step S e s ∈ L.map (·.1) then L else L ++ [(step S e s, lg ++ [e])]
def bexp (S : Sys) (s : Nat) (lg : List Nat) (i : Nat) (L : List Ent) : List Ent := (List.range i).foldl (bstep S s lg) L
def bfrom (S : Sys) : Nat → Nat → List Ent → List Ent
  | 0, _, L => L
  | m + 1, at', L => match L[at']? with
    | none => L
    | some p => bfrom S m (at' + 1) (bexp S p.1 p.2 S.ops.length L)
def bfs (S : Sys) : List Ent := bfrom S 7 0 [(S.st, [])]
structure BOk (S : Sys) (m : Nat) (L : List Ent) : Prop where
  nd : (L.map (·.1)).Nodup
  lt : ∀ p ∈ L, p.1 < S.n
  lg : ∀ p ∈ L, LogOk S p.2
  ln : ∀ p ∈ L, p.2.length ≤ m
  en : ∀ p ∈ L, endOf S S.st p.2 = p.1
theorem nodup_lt : ∀ {n : Nat} {l : List Nat}, l.Nodup → (∀ x ∈ l, x < n) → l.length ≤ n
  | 0, [], _, _ => Nat.le_refl _
  | 0, x :: r, _, h => absurd (h x List.mem_cons_self) (Nat.not_lt_zero _)
  | n + 1, l, hn, h => by
    have h1 := nodup_lt (n := n) (hn.erase n) fun x hx => by
      have h2 := h x (List.mem_of_mem_erase hx)
      have h3 : x ≠ n := fun z => by
        subst z
        exact (hn.mem_erase_iff.mp hx).1 rfl
      omega
    by_cases hm : n ∈ l
    · rw [List.length_erase_of_mem hm] at h1
      omega
    · rw [List.erase_of_not_mem hm] at h1
      omega
theorem BOk.len {S : Sys} {m : Nat} {L : List Ent} (h : BOk S m L) : L.length ≤ S.n := by
  have := nodup_lt h.nd fun x hx => by
    obtain ⟨p, hp, rfl⟩ := List.mem_map.mp hx
    exact h.lt p hp
  rwa [List.length_map] at this
theorem BOk.start {S : Sys} (hS : S.Ok) : BOk S 0 [(S.st, [])] := by
  have one : ∀ p ∈ [(S.st, ([] : List Nat))], p = (S.st, []) := fun p hp => List.mem_singleton.mp hp
  exact ⟨by simp, fun p hp => by rw [one p hp]; exact hS.st, fun p hp => by rw [one p hp]; exact nofun, fun p hp => by rw [one p hp]; exact Nat.le_refl _, fun p hp => by rw [one p hp]; rfl⟩
theorem BOk.more {S : Sys} {m m' : Nat} {L : List Ent} (h : BOk S m L) (hm : m ≤ m') : BOk S m' L := ⟨h.nd, h.lt, h.lg, fun p hp => Nat.le_trans (h.ln p hp) hm, h.en⟩
theorem bexp_succ (S : Sys) (s : Nat) (lg : List Nat) (i : Nat) (L : List Ent) : bexp S s lg (i + 1) L = bstep S s lg (bexp S s lg i L) i := by
  unfold bexp
  rw [List.range_succ, List.foldl_append]
  rfl
theorem BOk.step {S : Sys} {m : Nat} {L : List Ent} (hS : S.Ok) {s : Nat} {lg : List Nat} {e : Nat} (h : BOk S m L) (hs : s < S.n) (hl : LogOk S lg) (hz : lg.length < m) (hen : endOf S S.st lg = s) (he : e < S.ops.length) : BOk S m (bstep S s lg L e) := by
  unfold bstep
  split
  · exact h
  · next hn =>
    obtain ⟨h1, _, _, _⟩ := step_at hS he hs
    have cas : ∀ p ∈ L ++ [(DL.step S e s, lg ++ [e])], p ∈ L ∨ p = (DL.step S e s, lg ++ [e]) := fun p hp => by
      rcases List.mem_append.mp hp with hp | hp
      · exact .inl hp
      · exact .inr (List.mem_singleton.mp hp)
    refine ⟨?_, fun p hp => ?_, fun p hp => ?_, fun p hp => ?_, fun p hp => ?_⟩
    · rw [List.map_append, List.nodup_append]
      refine ⟨h.nd, by simp, fun a ha b hb z => ?_⟩
      have hb' : b = DL.step S e s := List.mem_singleton.mp hb
      subst z hb'
      exact hn ha
    · rcases cas p hp with hp | rfl
      · exact h.lt p hp
      · exact h1
    · rcases cas p hp with hp | rfl
      · exact h.lg p hp
      · exact snoc_all hl he
    · rcases cas p hp with hp | rfl
      · exact h.ln p hp
      · show (lg ++ [e]).length ≤ m
        rw [List.length_append]
        exact hz
    · rcases cas p hp with hp | rfl
      · exact h.en p hp
      · show endOf S S.st (lg ++ [e]) = _
        rw [endOf_snoc, hen]
theorem BOk.exp {S : Sys} {m : Nat} {L : List Ent} (hS : S.Ok) {s : Nat} {lg : List Nat} (h : BOk S m L) (hs : s < S.n) (hl : LogOk S lg) (hz : lg.length < m) (hen : endOf S S.st lg = s) : ∀ i, i ≤ S.ops.length → BOk S m (bexp S s lg i L)
  | 0, _ => h
  | i + 1, hi => by
    rw [bexp_succ]
    exact (BOk.exp hS h hs hl hz hen i (by omega)).step hS hs hl hz hen (by omega)
theorem bstep_pre (S : Sys) (s : Nat) (lg : List Nat) (L : List Ent) (e : Nat) : L <+: bstep S s lg L e := by
  unfold bstep
  split
  · exact List.prefix_refl _
  · exact List.prefix_append _ _
theorem bexp_pre (S : Sys) (s : Nat) (lg : List Nat) (L : List Ent) : ∀ i, L <+: bexp S s lg i L
  | 0 => List.prefix_refl _
  | i + 1 => by
    rw [bexp_succ]
    exact (bexp_pre S s lg L i).trans (bstep_pre _ _ _ _ _)
/-- where a walk through the states stands -/
structure BAt (S : Sys) (a : Nat) (L : List Ent) : Prop where
  ok : BOk S a L
  le : a ≤ L.length
  eq : bfrom S (7 - a) a L = bfs S
theorem BAt.start {S : Sys} (hS : S.Ok) : BAt S 0 [(S.st, [])] := ⟨.start hS, Nat.zero_le _, rfl⟩
theorem BAt.fin {S : Sys} {a : Nat} {L : List Ent} (h : BAt S a L) (ha : L.length ≤ a) : L = bfs S := by
  have e := h.eq
  have hn : L[a]? = none := List.getElem?_eq_none ha
  cases hm : 7 - a with
  | zero =>
    rw [hm] at e
    exact e
  | succ m =>
    rw [hm] at e
    unfold bfrom at e
    rw [hn] at e
    exact e
theorem BAt.next {S : Sys} (hS : S.Ok) {a : Nat} {L : List Ent} (h : BAt S a L) {p : Ent} (hp : L[a]? = some p) : BAt S (a + 1) (bexp S p.1 p.2 S.ops.length L) := by
  have hpm := List.mem_of_getElem? hp
  have hlt : a < L.length := (List.getElem?_eq_some_iff.mp hp).1
  have h6 := hS.n6
  have hlen := h.ok.len
  have hok : BOk S (a + 1) (bexp S p.1 p.2 S.ops.length L) := (h.ok.more (Nat.le_succ _)).exp hS (h.ok.lt p hpm) (h.ok.lg p hpm) (Nat.lt_succ_of_le (h.ok.ln p hpm)) (h.ok.en p hpm) _ (Nat.le_refl _)
  refine ⟨hok, Nat.le_trans hlt (bexp_pre _ _ _ _ _).length_le, ?_⟩
  have e := h.eq
  obtain ⟨m, hm⟩ : ∃ m, 7 - a = m + 1 := ⟨6 - a, by omega⟩
  rw [hm] at e
  unfold bfrom at e
  rw [hp] at e
  rw [show 7 - (a + 1) = m by omega]
  exact e
theorem bfs_go {S : Sys} (hS : S.Ok) : ∀ (m a : Nat) (L : List Ent), 7 - a ≤ m → BAt S a L → ∃ a', BAt S a' (bfs S) ∧ (bfs S).length ≤ a'
  | 0, a, L, hm, h => by
    have h1 := h.ok.len
    have h2 := hS.n6
    have h3 := h.fin (by omega)
    subst h3
    exact ⟨a, h, by omega⟩
  | m + 1, a, L, hm, h => by
    cases hp : L[a]? with
    | none =>
      have hl : L.length ≤ a := List.getElem?_eq_none_iff.mp hp
      have h3 := h.fin hl
      subst h3
      exact ⟨a, h, hl⟩
    | some p => exact bfs_go hS m (a + 1) _ (by have := h.ok.len; have := hS.n6; have := (List.getElem?_eq_some_iff.mp hp).1; omega) (h.next hS hp)
theorem bfs_ok {S : Sys} (hS : S.Ok) : BOk S 6 (bfs S) := by
  obtain ⟨a, h, hl⟩ := bfs_go hS 7 0 _ (Nat.le_refl _) (.start hS)
  have h1 := h.ok.len
  have h2 := hS.n6
  have h3 := h.le
  exact h.ok.more (by omega)
/-- the reachable states -/
def reach (S : Sys) : List Nat := (List.range S.n).filter fun s => decide (s ∈ (bfs S).map (·.1))
theorem reach_lt {S : Sys} {s : Nat} (h : s ∈ reach S) : s < S.n := List.mem_range.mp (List.mem_filter.mp h).1
theorem reach_perm {S : Sys} (hS : S.Ok) : (reach S).Perm ((bfs S).map (·.1)) := by
  refine (List.perm_ext_iff_of_nodup (List.nodup_range.filter _) (bfs_ok hS).nd).mpr fun s => ⟨fun h => ?_, fun h => ?_⟩
  · exact of_decide_eq_true (List.mem_filter.mp h).2
  · obtain ⟨p, hp, rfl⟩ := List.mem_map.mp h
    exact List.mem_filter.mpr ⟨List.mem_range.mpr ((bfs_ok hS).lt p hp), decide_eq_true h⟩
/-! ### the same as dicts and lists of data -/
def kvB (L : List Ent) : List (Key × D) := L.map fun p => (.inl (p.1 : Int), logD p.2)
theorem find_B (s : Nat) : ∀ L : List Ent, (kvB L).find? (fun p => decide (p.1 = (.inl (s : Int) : Key))) = (L.find? fun p => decide (p.1 = s)).map fun p => (.inl (p.1 : Int), logD p.2)
  | [] => rfl
  | p :: r => by
    show List.find? _ ((.inl (p.1 : Int), logD p.2) :: kvB r) = _
    rw [List.find?_cons, List.find?_cons]
    by_cases e : p.1 = s
    · rw [decide_eq_true e, decide_eq_true (show (.inl (p.1 : Int) : Key) = .inl (s : Int) by rw [e])]
      rfl
    · rw [decide_eq_false e, decide_eq_false (fun z : (.inl (p.1 : Int) : Key) = .inl (s : Int) => e (by injection z with z; omega))]
      exact find_B s r
theorem getB (s : Nat) (L : List Ent) : getK (kvB L) (.inl (s : Int)) = (L.find? fun p => decide (p.1 = s)).map fun p => logD p.2 := by
  unfold getK
  rw [find_B, Option.map_map]
  rfl
theorem isB (s : Nat) (L : List Ent) : (getK (kvB L) (.inl (s : Int))).isSome = decide (s ∈ L.map (·.1)) := by
  rw [getB, Option.isSome_map]
  rw [Bool.eq_iff_iff, List.find?_isSome, decide_eq_true_eq, List.mem_map]
  constructor
  · rintro ⟨p, hp, h⟩
    exact ⟨p, hp, of_decide_eq_true h⟩
  · rintro ⟨p, hp, h⟩
    exact ⟨p, hp, decide_eq_true h⟩
theorem find_nd : ∀ {L : List Ent} {p : Ent}, (L.map (·.1)).Nodup → p ∈ L → (L.find? fun q => decide (q.1 = p.1)) = some p
  | q :: r, p, hn, hp => by
    rw [List.find?_cons]
    rw [List.map_cons, List.nodup_cons] at hn
    rcases List.mem_cons.mp hp with rfl | hp
    · rw [decide_eq_true rfl]
    · rw [decide_eq_false fun z => hn.1 (by rw [z]; exact List.mem_map.mpr ⟨p, hp, rfl⟩)]
      exact find_nd hn.2 hp
theorem getB_mem {L : List Ent} {p : Ent} (hn : (L.map (·.1)).Nodup) (hp : p ∈ L) : getK (kvB L) (.inl (p.1 : Int)) = some (logD p.2) := by
  rw [getB, find_nd hn hp]
  rfl
theorem setB {L : List Ent} {s : Nat} {l : List Nat} (h : s ∉ L.map (·.1)) : setK (kvB L) (.inl (s : Int)) (logD l) = kvB (L ++ [(s, l)]) := by
  have h1 : ((kvB L).any fun p => decide (p.1 = (.inl (s : Int) : Key))) = false := by
    have h2 := isB s L
    rw [decide_eq_false h] at h2
    unfold getK at h2
    rw [Option.isSome_map] at h2
    rw [← h2, Bool.eq_iff_iff, List.find?_isSome, List.any_eq_true]
  unfold setK
  rw [h1]
  show kvB L ++ _ = _
  unfold kvB
  rw [List.map_append]
  rfl
end
section
/-- data in, a new dict out that the caller owns -/
def spD (K : Fg) (φ : List D → (List (Key × D) → Prop) → Prop) : Sp := fun vs H Q _ => ∃ B F ds P, Wd K B F H [] [] ∧ DpAll K B vs ds ∧ φ ds P ∧ ∀ a B' H' kvs, Same B B' → Wd K B' F H' [a] [.dct kvs] → P kvs → Q (.ref a) H'
theorem Wd.onlyD {K : Fg} {B F H : Hp} {as' : List Addr} {ω : List Cell} {j : Nat} {a : Addr} {c : Cell} (w : Wd K B F H as' ω) (ha : as'[j]? = some a) (hc : ω[j]? = some c) : Wd K B F H [a] [c] := w.only ha hc
section
variable {P : Program} {w : World} {K : Fg} {mg : Str → Option Value} {base : Heap} {x qual : Str} {st : Stmt} {f : Addr} {fd : FuncData} {N ps : List Str} {k : Nat}
theorem ok_D {φ : List D → (List (Key × D) → Prop) → Prop} (F : Fun K x qual st f fd) (S : FnScope N ps (defScope st)) (hn : ∀ ds Q, φ ds Q → ds.length = ps.length)
    (hb : ∀ ds Q, φ ds Q → Body P w K mg base N qual st f k fun X => DS X (defBody st) (slots N (ds.map Sl.val)) [] { nx := fun _ _ => False, rt := fun r ω' => ∃ j kvs, r = .own j ∧ ω'[j]? = some (.dct kvs) ∧ Q kvs }) : FnOk P w K mg base CX0 (k + 1) f fd ps (spD K φ) := by
  refine F.ok S (fun vs H Q E h => ?_) fun cdv A outer s H vs Q E hr h => ?_
  · obtain ⟨B, F', ds, P', hw, hd, hφ, _⟩ := h
    rw [dpAll_len hd]
    exact hn _ _ hφ
  · obtain ⟨B, F', ds, P', hw, hd, hφ, hq⟩ := h
    refine ⟨_, pss_w, hb ds P' hφ cdv A outer s H E hr B F' H [] _ hw (env_start (envOk_vals hd)) _ ⟨fun _ _ _ _ _ _ _ _ _ _ q => q.elim, fun _ _ _ _ _ _ _ _ _ _ q => q.elim, fun _ _ _ _ _ _ _ _ _ _ q => q.elim, fun v B' H' as' r ω' e1 p1 w1 s1 q => ?_⟩⟩
    obtain ⟨j, kvs, rfl, h0, q⟩ := q
    obtain ⟨a, rfl, ha⟩ := sl_own s1
    exact hq a B' H' kvs e1 (w1.only ha h0) q
end
theorem de_callD {X : Cx} {e : Expr} {es : List Expr} {δ : List Sl} {ω : List Cell} {P : Sl → List Cell → Prop} {pos : Pos} {x : Str} {p : Pos} {j : Nat} {φ : List D → (List (Key × D) → Prop) → Prop} (C : Has X.prog X.w X.K X.mg X.base j x (spD X.K φ)) (hr : Room j X.A) (hg : Gl X x) (h : DA X (e :: es) δ ω fun rs ω1 => ∃ ds, rs = ds.map Sl.val ∧ φ ds fun kvs => P (.own ω1.length) (ω1 ++ [.dct kvs]))
    (hdb : (x == ("__debug__" : Str)) = false := by decide) (he : starEach (e :: es) X.env = (false, eval e X.env) :: starEach es X.env := by rfl) (hpl : (backTo pos (starEach es X.env)).any (·.1) = false := by rfl) : DE X (.Call (.Name x p) (e :: es) [] pos) δ ω P := fun B F H as σ w ev Q o => by
  obtain ⟨f, fd, ps, hf, hm, hk, hb⟩ := C.ex
  refine ⟨_, pe_call hf hr hg hm hk hb .nil pass0 pa_w hdb he hpl, ?_⟩
  refine h B F H as σ w ev _ fun vs B1 H1 as1 rs ω1 e1 p1 w1 s1 ⟨ds, er, hφ⟩ => ?_
  subst er
  obtain ⟨F', wF, hFF, hlive, back⟩ := w1.frame
  refine ⟨B1, F', ds, _, wF, by rw [List.append_nil]; exact rsOk_vals s1, hφ, fun a B' H' kvs sb w' hp => ?_⟩
  have w2 := back B' H' sb w'.drop
  obtain ⟨q1, q2, q3, xs, q4, q5⟩ := w'.at' 0 a _ rfl rfl
  have hnot : a ∉ as1 := fun hm2 => by
    obtain ⟨i, hi, ei⟩ := List.mem_iff_getElem.mp hm2
    have e1' : as1[i]? = some a := by rw [List.getElem?_eq_getElem hi, ei]
    have hi2 : i < ω1.length := by rw [← w1.len]; exact hi
    cases hB : B1 a with
    | some oo =>
      rw [sb _ _ hB] at q3
      cases q3
    | none =>
      obtain ⟨_, n2, n3⟩ := w1.at' i a _ e1' (List.getElem?_eq_getElem hi2)
      rw [hlive i a _ e1' (List.getElem?_eq_getElem hi2) hB] at q1
      exact n2 q1
  have hFa : F a = none := by
    cases hq : F a with
    | none => rfl
    | some oo =>
      rw [hFF a oo hq] at q1
      cases q1
  have w3 := w2.addOwn (c := .dct kvs) hFa hnot q2 ⟨q3, xs, q4, q5⟩
  refine o _ B' H' _ _ _ (e1.trans sb) (p1.trans (List.prefix_append _ _)) w3 (slo ?_) hp
  rw [← w1.len, List.getElem?_append_right (Nat.le_refl _), Nat.sub_self]
  rfl
end
section
def φ_paths : List D → (List (Key × D) → Prop) → Prop := fun ds P => ∃ S, ds = [sysD S] ∧ S.Ok ∧ P (kvB (bfs S))
def φ_reach : List D → (D → Prop) → Prop := fun ds P => ∃ S, ds = [sysD S] ∧ S.Ok ∧ P (logD (reach S))
theorem drop_one {L : List Ent} {a : Nat} {p : Ent} (h : L[a]? = some p) : L.drop a = p :: L.drop (a + 1) := by
  obtain ⟨h1, h2⟩ := List.getElem?_eq_some_iff.mp h
  rw [List.drop_eq_getElem_cons h1, h2]
theorem seq0 (n : Nat) : seqIndex? 0 (n + 1) = some 0 := by
  unfold seqIndex?
  simp
section
variable {P : Program} {w : World} {K : Fg} {mg : Str → Option Value} {base : Heap} {f : Addr} {fd : FuncData} {k : Nat}
theorem ok_first_paths (F : Fun K "first_paths" "first_paths" s_first_paths f fd) (mE : mg "enumerate" = none) : FnOk P w K mg base CX0 (k + 1) f fd ["system"] (spD K φ_paths) := by
  refine ok_D F sc_first_paths (fun ds Q h => ?_) fun ds Q h cdv A outer s H E hr => ?_
  · obtain ⟨S, rfl, _⟩ := h
    rfl
  · obtain ⟨S, rfl, hS, hq⟩ := h
    have nd := sc_first_paths.nd
    have hu := hu_of hr
    refine ds_cons (d1_asg (i := 1) nd rfl (by walk_at "loc") (de_dic1 (de_ix (fun _ _ => rfl) (de_var 0 rfl (by nofun) rfl (by walk_at "vis") (de_int ⟨_, _, _, rfl, (by walk_at "seq"), rfl, (de_tup (da_nil ⟨[], rfl, by decide, .inl (S.st : Int), _, rfl, rfl, rfl, ?_⟩))⟩)))))
    refine ds_cons (d1_asg (i := 2) nd rfl (by walk_at "loc") (de_lstO (da_cons (de_ix (fun _ _ => rfl) (de_var 0 rfl (by nofun) rfl (by walk_at "vis") (de_int ⟨_, _, _, rfl, (by walk_at "seq"), rfl, (da_nil ⟨[_], rfl, by walk_at "sz", ?_⟩)⟩))))))
    refine ds_cons (d1_while PassesOwn.never (fun m δ' ω' => ∃ a L s3 s4 s5, BAt S a L ∧ m = 7 - a ∧ ω' = [.dct (kvB L), .lst ((L.drop a).map fun p => nD p.1)] ∧ δ' = [.val (sysD S), .own 0, .own 1, s3, s4, s5]) 7 ⟨0, _, .no, .no, .no, .start hS, rfl, rfl, rfl⟩ ?_)
    rintro m δ' ω' ⟨a, L, s3, s4, s5, hb, rfl, rfl, rfl⟩
    refine dt_own (de_var 2 rfl (by nofun) rfl (by walk_at "vis") ⟨1, _, rfl, rfl, ?_⟩)
    cases hp : L[a]? with
    | none =>
      have hl : L.length ≤ a := List.getElem?_eq_none_iff.mp hp
      have eL := hb.fin hl
      subst eL
      rw [List.drop_eq_nil_of_le hl]
      exact iteF (ds_cons (d1_ret (de_var 1 rfl (by nofun) rfl (by walk_at "vis") ⟨0, _, rfl, rfl, hq⟩)))
    | some p =>
      have hlt : a < L.length := (List.getElem?_eq_some_iff.mp hp).1
      have hpm := List.mem_of_getElem? hp
      have h6 := hS.n6
      have hlen := hb.ok.len
      have hps := hb.ok.lt p hpm
      rw [drop_one hp]
      refine iteT ?_
      refine ds_cons (d1_asg (i := 3) nd rfl (by walk_at "loc") (de_popAt (de_var 2 rfl (by nofun) rfl (by walk_at "vis") ⟨1, _, rfl, rfl, (de_int ⟨0, _, 0, nD p.1, rfl, rfl, by decide, by decide, seq0 _, rfl, ?_⟩)⟩)))
      refine ds_cons (d1_for PassesOwn.never rfl (di_enU (by rfl) mE (de_ix (fun _ _ => rfl) (de_var 0 rfl (by nofun) rfl (by walk_at "vis") (de_int ⟨_, _, _, rfl, (by walk_at "seq"), rfl, _, rfl, ?_⟩)))))
      refine ⟨fun i δ' ω' => ∃ s4 s5, δ' = [.val (sysD S), .own 0, .own 1, .val (nD p.1), s4, s5] ∧ ω' = [.dct (kvB (bexp S p.1 p.2 i L)), .lst (((bexp S p.1 p.2 i L).drop (a + 1)).map fun p => nD p.1)], ⟨_, _, rfl, rfl⟩, ?_, ?_⟩
      · rintro i d δ' ω' hd ⟨s4, s5, rfl, rfl⟩
        obtain ⟨g, hg, rfl⟩ := enD_at hd
        have hi : i < S.ops.length := by
          have := (List.getElem?_eq_some_iff.mp hg).1
          rwa [List.length_map] at this
        obtain ⟨h1, op, h2, h3⟩ := step_at hS hi hps
        obtain rfl : g = opD op := by
          rw [List.getElem?_map, h2] at hg
          exact (Option.some.inj hg).symm
        refine dg_tup2 (i := 4) (j := 5) rfl nd rfl rfl (by walk_at "loc") (by walk_at "loc") (by walk_at "mr") (by walk_at "mr") ?_
        have hat : atI (op.map nD) (p.1 : Int) = some (nD (step S i p.1)) := atI_nat (by rw [List.getElem?_map, h3]; rfl)
        have hok : BOk S (a + 1) (bexp S p.1 p.2 i L) := (hb.ok.more (Nat.le_succ _)).exp hS hps (hb.ok.lg p hpm) (Nat.lt_succ_of_le (hb.ok.ln p hpm)) (hb.ok.en p hpm) _ (by omega)
        have hpre := bexp_pre S p.1 p.2 L i
        have hmem : p ∈ bexp S p.1 p.2 i L := hpre.subset hpm
        have hlog := hb.ok.ln p hpm
        have hbl := hok.len
        have hpl := hpre.length_le
        refine ds_cons (d1_if (dt_dnotin hu (de_ix (fun _ _ => rfl) (de_var 5 rfl (by nofun) rfl (by walk_at "vis") (de_var 3 rfl (by nofun) rfl (by walk_at "vis") ⟨_, _, _, rfl, .tup _, hat, (de_var 1 rfl (by nofun) rfl (by walk_at "vis") ⟨0, _, .inl ((step S i p.1 : Nat) : Int), rfl, rfl, rfl, ?_⟩)⟩)))))
        rw [isB]
        by_cases hm : step S i p.1 ∈ (bexp S p.1 p.2 i L).map (·.1)
        · rw [decide_eq_true hm]
          refine iteF (ds_nil (ds_nil ⟨_, _, rfl, ?_⟩))
          rw [bexp_succ]
          unfold bstep
          rw [if_pos hm]
        · rw [decide_eq_false hm]
          refine iteT ?_
          refine ds_cons (d1_dput hu (de_plus (de_dget hu (fun _ _ => rfl) (de_var 1 rfl (by nofun) rfl (by walk_at "vis") (de_var 3 rfl (by nofun) rfl (by walk_at "vis") ⟨0, _, .inl (p.1 : Int), logD p.2, rfl, rfl, rfl, getB_mem hok.nd hmem, (de_tup (da_cons (de_var 4 rfl (by nofun) rfl (by walk_at "vis") (da_nil ⟨[_], rfl, by walk_at "sz", (.tup (by walk_at "sz") ?_)⟩))))⟩)))))
          refine de_var 1 rfl (by nofun) rfl (by walk_at "vis") (de_ix (fun _ _ => rfl) (de_var 5 rfl (by nofun) rfl (by walk_at "vis") (de_var 3 rfl (by nofun) rfl (by walk_at "vis") ⟨_, _, _, rfl, .tup _, hat, 0, kvB (bexp S p.1 p.2 i L), .inl ((step S i p.1 : Nat) : Int), logD (p.2 ++ [i]), congrArg Sl.val (congrArg PyData.tuple (snoc_map nD p.2 i)), rfl, rfl, rfl, ?_, ?_⟩)))
          · unfold kvB
            rw [List.length_map]
            omega
          rw [setB hm]
          refine ds_cons (d1_expr (de_append (de_var 2 rfl (by nofun) rfl (by walk_at "vis") ⟨1, _, rfl, rfl, (de_ix (fun _ _ => rfl) (de_var 5 rfl (by nofun) rfl (by walk_at "vis") (de_var 3 rfl (by nofun) rfl (by walk_at "vis") ⟨_, _, _, rfl, .tup _, hat, _, _, rfl, rfl, ?_, ?_⟩)))⟩)))
          · rw [List.length_map, List.length_drop]
            omega
          refine ds_nil (ds_nil ⟨_, _, rfl, ?_⟩)
          rw [bexp_succ]
          unfold bstep
          rw [if_neg hm, List.drop_append_of_le_length (by omega), List.map_append]
          rfl
      · rintro δ' ω' ⟨s4, s5, rfl, rfl⟩
        rw [enD_len, List.length_map]
        exact ds_nil ⟨7 - (a + 1), by omega, a + 1, _, _, _, _, hb.next hS hp, rfl, rfl, rfl⟩
theorem ok_reachable (F : Fun K "reachable" "reachable" s_reachable f fd) (c1 : Has P w K mg base 6 "check_system" (spP K φ_check_system)) (c2 : Has P w K mg base 1 "first_paths" (spD K φ_paths)) (mR : mg "range" = none) (mT : mg "tuple" = none) : FnOk P w K mg base CX0 7 f fd ["system"] (spP K φ_reach) := by
  refine ok_P F sc_reachable (fun ds Q h => ?_) fun ds Q h cdv A outer s H E hr => ?_
  · obtain ⟨S, rfl, _⟩ := h
    rfl
  · obtain ⟨S, rfl, hS, hq⟩ := h
    have nd := sc_reachable.nd
    have hu := hu_of hr
    have h6 := hS.n6
    refine ds_cons (d1_expr (de_call c1 (by walk_at "room") (by rfl) (da_cons (de_var 0 rfl (by nofun) rfl (by walk_at "vis") (da_nil ⟨[_], rfl, _, rfl, sm_sys hS, isSys_of hS, ?_⟩)))))
    refine ds_cons (d1_asg (i := 1) nd rfl (by walk_at "loc") (de_callD c2 (by walk_at "room") (by rfl) (da_cons (de_var 0 rfl (by nofun) rfl (by walk_at "vis") (da_nil ⟨[_], rfl, S, rfl, hS, ?_⟩)))))
    refine ds_cons (d1_ret (de_callTy call_tuple_of (by rfl) (by assumption) PyProof.Rows.boot_tuple (da_cons ?_)))
    refine de_lc rfl nd (blkOk_by (own := [("state", 2)]) (N := n_reachable) (sc := defScope s_reachable) (by decide +kernel)) (di_rng1 (by rfl) (by assumption) (de_ix (fun _ _ => rfl) (de_var 0 rfl (by nofun) rfl (by walk_at "vis") (de_int ⟨_, _, _, rfl, (by walk_at "seq"), rfl, _, rfl, by omega, by omega, ?_⟩))))
    refine ⟨by rw [rgD_len]; omega, _, ⟨rfl, rfl⟩, lc_filt (fun d => match d with | .int s => decide (s.toNat ∈ (bfs S).map (·.1)) | _ => false) (fun d => d) (fun x d hd => ?_), fun acc ω3 hacc ⟨ew, ea⟩ => .inl ?_⟩
    · intro s H C cl fp
      obtain ⟨hx, rfl⟩ := rgD_at hd
      refine dg_name (i := 2) nd rfl (.inl rfl) (by decide) ⟨?_, fun _ => ?_⟩
      · intro s H C cl fp
        refine dt_din hu (de_var 2 rfl (by nofun) rfl (by walk_at "vis") (de_var 1 rfl (by nofun) rfl (by walk_at "vis") ⟨0, _, .inl ((x : Nat) : Int), rfl, rfl, ?_, ?_, rfl⟩))
        · rw [Int.zero_add]
          rfl
        · rw [isB, Int.zero_add]
          rfl
      · intro s H C cl fp
        exact de_var 2 rfl (by nofun) rfl (by walk_at "vis") ⟨rfl, rfl⟩
    · rw [List.take_length] at ea
      subst ew ea
      refine da_nil (ra_tuple (.lst _) ⟨_, rfl, ?_⟩)
      have e : ((rgD 0 ((S.n : Nat) : Int)).filter fun d => match d with | .int s => decide (s.toNat ∈ (bfs S).map (·.1)) | _ => false).map (fun d => d) = (reach S).map nD := by
        rw [rgD0, List.filter_map, List.map_map]
        rfl
      rw [e]
      exact hq
end
end
section
/-! ### what can be shown -/
mutual
def shD : D → Bool
  | .none => true
  | .bool _ => true
  | .int i => decide (-999999999999 ≤ i ∧ i ≤ 999999999999)
  | .str _ => false
  | .list xs => shAll xs
  | .tuple xs => shAll xs
  | .dict _ => false
def shAll : List D → Bool
  | [] => true
  | x :: xs => shD x && shAll xs
end
theorem log2_small {i : Int} (h1 : -999999999999 ≤ i) (h2 : i ≤ 999999999999) : i.natAbs.log2 < 1920 := by
  have hn : i.natAbs < 2 ^ 41 := by
    have : (2 : Nat) ^ 41 = 2199023255552 := by decide
    omega
  have h3 : i.natAbs.log2 < 41 := by
    by_cases hz : i.natAbs = 0
    · rw [hz]
      decide
    · exact (Nat.log2_lt hz).mpr hn
  omega
mutual
theorem sh_ok : ∀ d : D, shD d = true → d.showable = true ∧ d.hasDict = false ∧ d.leavesShort 13 = true
  | .none, _ => ⟨rfl, rfl, rfl⟩
  | .bool _, _ => ⟨rfl, rfl, rfl⟩
  | .int i, h => by
    have h := of_decide_eq_true (show decide (-999999999999 ≤ i ∧ i ≤ 999999999999) = true from h)
    exact ⟨decide_eq_true (log2_small h.1 h.2), rfl, decide_eq_true (PySem.PyData.shown_int_le2 h.1 h.2)⟩
  | .str _, h => by cases h
  | .list xs, h => by
    have q := shAll_ok xs h
    exact ⟨q.1, q.2.1, q.2.2⟩
  | .tuple xs, h => by
    have q := shAll_ok xs h
    exact ⟨q.1, q.2.1, q.2.2⟩
  | .dict _, h => by cases h
theorem shAll_ok : ∀ xs : List D, shAll xs = true → PyData.showableAll xs = true ∧ PyData.hasDictAll xs = false ∧ PyData.leavesShortAll 13 xs = true
  | [], _ => ⟨rfl, rfl, rfl⟩
  | x :: xs, h => by
    have h : (shD x && shAll xs) = true := h
    rw [Bool.and_eq_true] at h
    have q1 := sh_ok x h.1
    have q2 := shAll_ok xs h.2
    refine ⟨?_, ?_, ?_⟩
    · show (x.showable && PyData.showableAll xs) = true
      rw [q1.1, q2.1]
      rfl
    · show (x.hasDict || PyData.hasDictAll xs) = false
      rw [q1.2.1, q2.2.1]
      rfl
    · show (x.leavesShort 13 && PyData.leavesShortAll 13 xs) = true
      rw [q1.2.2, q2.2.2]
      rfl
end
theorem Shows.of {d : D} (h : shD d = true) (hp : d.depth ≤ 40) (hb : d.bulk ≤ 1000000) : Shows d := by
  have q := sh_ok d h
  exact ⟨q.1, q.2.1, hp, PyData.shown_fits_bulk (B := 13) (by decide) (by decide) q.2.2 (Nat.le_trans hb (by decide))⟩
theorem shAll_map {α : Type} {f : α → D} {l : List α} (h : ∀ x ∈ l, shD (f x) = true) : shAll (l.map f) = true := by
  induction l with
  | nil => rfl
  | cons x r ih =>
    show (shD (f x) && shAll (r.map f)) = true
    rw [h x List.mem_cons_self, ih fun y hy => h y (List.mem_cons_of_mem _ hy)]
    rfl
theorem sh_nD {i : Nat} (h : i ≤ 1000000) : shD (nD i) = true := decide_eq_true ⟨by omega, by omega⟩
theorem depthAll_le {n : Nat} : ∀ {l : List D}, (∀ x ∈ l, x.depth ≤ n) → PyData.depthAll l ≤ n
  | [], _ => Nat.zero_le _
  | x :: r, h => Nat.max_le.mpr ⟨h x List.mem_cons_self, depthAll_le fun y hy => h y (List.mem_cons_of_mem _ hy)⟩
theorem depth_map {α : Type} {f : α → D} {l : List α} {n : Nat} (h : ∀ x ∈ l, (f x).depth ≤ n) : PyData.depthAll (l.map f) ≤ n := depthAll_le fun y hy => by
  obtain ⟨x, hx, rfl⟩ := List.mem_map.mp hy
  exact h x hx
theorem depth_nD (i : Nat) : (nD i).depth = 0 := rfl
theorem depth_kD (k : Option Nat) : (kD k).depth = 0 := by cases k <;> rfl
/-- numbers below a million, few of them -/
theorem shows_n {i : Nat} (h : i ≤ 1000000) : Shows (nD i) := .of (sh_nD h) (by rw [depth_nD]; decide) (by rw [bulk_nD]; decide)
theorem shAll_n {l : List Nat} (h : ∀ i ∈ l, i ≤ 1000000) : shAll (l.map nD) = true := shAll_map fun i hi => sh_nD (h i hi)
theorem shows_list {l : List Nat} (h : ∀ i ∈ l, i ≤ 1000000) (hl : l.length ≤ 100000) : Shows (.list (l.map nD)) :=
  .of (shAll_n h) (by
    show PyData.depthAll (l.map nD) + 1 ≤ 40
    have := depth_map (f := nD) (l := l) (n := 0) fun x _ => by rw [depth_nD]; exact Nat.le_refl _
    omega) (by
    show PyData.bulkAll (l.map nD) ≤ 1000000
    rw [bulkAll_nD]
    omega)
theorem sh_sys {S : Sys} (h : S.Ok) : shD (sysD S) = true := by
  have h6 := h.n6
  have hs := h.st
  show (shD (nD S.n) && (shD (nD S.st) && (shAll (S.ops.map opD) && (shAll (S.kn.map kD) && true)))) = true
  rw [sh_nD (by omega), sh_nD (by omega), shAll_map (f := opD) fun o ho => shAll_n fun i hi => by have := (h.op o ho).2 i hi; omega, shAll_map (f := kD) fun k hk => by
    cases k with
    | none => rfl
    | some i => exact sh_nD (by have := h.kk _ hk i rfl; omega)]
  rfl
theorem depth_sys (S : Sys) : (sysD S).depth ≤ 3 := by
  have h1 : PyData.depthAll (S.ops.map opD) ≤ 1 := depth_map fun o _ => by
    show PyData.depthAll (o.map nD) + 1 ≤ 1
    have := depth_map (f := nD) (l := o) (n := 0) fun x _ => by rw [depth_nD]; exact Nat.le_refl _
    omega
  have h2 : PyData.depthAll (S.kn.map kD) ≤ 0 := depth_map fun k _ => by rw [depth_kD]; exact Nat.le_refl _
  show max (nD S.n).depth (max (nD S.st).depth (max (PyData.depthAll (S.ops.map opD) + 1) (max (PyData.depthAll (S.kn.map kD) + 1) 0))) + 1 ≤ 3
  rw [depth_nD, depth_nD]
  omega
theorem sh_log {l : List Nat} (h : ∀ i ∈ l, i ≤ 1000000) : shD (logD l) = true := shAll_n h
theorem depth_log (l : List Nat) : (logD l).depth ≤ 1 := by
  have := depth_map (f := nD) (l := l) (n := 0) fun x _ => by rw [depth_nD]; exact Nat.le_refl _
  show PyData.depthAll (l.map nD) + 1 ≤ 1
  omega
theorem bulk_log (l : List Nat) : (logD l).bulk = l.length := bulkAll_nD l
theorem log_small {S : Sys} (h : S.Ok) {l : List Nat} (hl : LogOk S l) : ∀ i ∈ l, i ≤ 1000000 := fun i hi => by
  have h1 := hl i hi
  have h2 := h.o6
  omega
theorem shows_pair {S : Sys} (h : S.Ok) {l : List Nat} (hl : LogOk S l) (hz : l.length ≤ 1000) : Shows (.tuple [sysD S, logD l]) := by
  refine .of ?_ ?_ ?_
  · show (shD (sysD S) && (shD (logD l) && true)) = true
    rw [sh_sys h, sh_log (log_small h hl)]
    rfl
  · have h1 := depth_sys S
    have h2 := depth_log l
    show max (sysD S).depth (max (logD l).depth 0) + 1 ≤ 40
    omega
  · have h1 := bulk_sys h
    show (sysD S).bulk + 1 + ((logD l).bulk + 1 + 0) ≤ 1000000
    rw [bulk_log]
    omega

/-! ### cells at the end -/
theorem last_at (ω : List Cell) (c : Cell) : (ω ++ [c])[ω.length]? = some c := by
  rw [List.getElem?_append_right (Nat.le_refl _), Nat.sub_self]
  rfl
theorem last_set (ω : List Cell) (c d : Cell) : (ω ++ [c]).set ω.length d = ω ++ [d] := by
  rw [List.set_append_right _ _ (Nat.le_refl _), Nat.sub_self]
  rfl
/-- told the same: repr of equal data is equal -/
def φ_same : List D → (D → Prop) → Prop := fun ds P => ∃ d, ds = [d, d] ∧ Shows d ∧ P (.bool true)
theorem rr_eqSt {X : Cx} {P : Sl → List Cell → Prop} {ω : List Cell} {a b : Str} (hp : P (.val (.bool (a == b))) ω) : RR X rEq (.val (.str a)) (.val (.str b)) ω P := fun B F H as v u w s1 s2 Q o => by
  obtain rfl := dp_str_inv (sl_val s1)
  obtain rfl := dp_str_inv (sl_val s2)
  refine ⟨rfl, ?_⟩
  rw [dec_str]
  exact o.here w (.bl _) hp
theorem rr_neSt {X : Cx} {P : Sl → List Cell → Prop} {ω : List Cell} {a b : Str} (hp : P (.val (.bool (!(a == b)))) ω) : RR X rNe (.val (.str a)) (.val (.str b)) ω P := fun B F H as v u w s1 s2 Q o => by
  obtain rfl := dp_str_inv (sl_val s1)
  obtain rfl := dp_str_inv (sl_val s2)
  refine ⟨rfl, ?_⟩
  rw [dec_str]
  exact o.here w (.bl _) hp
section
variable {P : Program} {w : World} {K : Fg} {mg : Str → Option Value} {base : Heap} {f : Addr} {fd : FuncData} {k : Nat}
theorem ok_same (F : Fun K "_law_same" "_law_same" s_l_same f fd) (mR : mg "repr" = none) : FnG P w K mg base 1 f fd ["_law_found", "_law_due"] (spP K φ_same) := by
  refine ok_G F sc_l_same (fun ds Q h => ?_) fun ds Q h cdv A outer s H E hgd hr => ?_
  · obtain ⟨d, rfl, _⟩ := h
    rfl
  · obtain ⟨d, rfl, hs, hq⟩ := h
    have hgd2 : (A.deeper (envOfC "_law_same" (defScope s_l_same) s.heap.objs.size f cdv)).guards = some [] := hgd
    refine ds_cons (d1_ret (de_cmp op_eq (nomark _) (de_callB (call_repr hgd2 (Room.units hr)) (by rfl) (by assumption) PyProof.Rows.boot_repr (da_cons (de_var 0 rfl (by nofun) rfl (by walk_at "vis") (da_nil (ra_repr hs ?_)))))))
    refine de_callB (call_repr hgd2 (Room.units hr)) (by rfl) (by assumption) PyProof.Rows.boot_repr (da_cons (de_var 1 rfl (by nofun) rfl (by walk_at "vis") (da_nil (ra_repr hs (rr_eqSt ?_)))))
    rw [beq_self_eq_true]
    exact ⟨_, rfl, hq⟩
end
end
section
/-! the last clause with a test -/
def emiF (c elt : Expr) (acc : Value) (env : Env) : Sem Unit := do
  let ok ← isTrue c env (eval c env)
  if ok then emi elt acc env else pure ()
theorem fi1 {α β : Type} {c : α} {f : α → Bool → Sem (ForInStep Bool)} {k : Bool → Sem β} : (forIn [c] true f >>= k) = (f c true >>= fun r => match r with | .done b => k b | .yield b => k b) := by
  rw [List.forIn_cons, LawfulMonad.bind_assoc]
  refine congrArg _ (funext fun r => ?_)
  cases r with
  | done b => exact LawfulMonad.pure_bind _ _
  | yield b =>
    dsimp only
    rw [List.forIn_nil]
    exact LawfulMonad.pure_bind _ _
section
variable (elt t0 i0 t1 i1 c : Expr) (scope : Scope) (pos : Pos) (acc : Value) (env : Env)
theorem turn20i : TurnIs elt t0 [⟨t0, i0, [], 0⟩, ⟨t1, i1, [c], 0⟩] scope pos i0.pos 0 acc env (nxt elt i1 [⟨t0, i0, [], 0⟩, ⟨t1, i1, [c], 0⟩] scope pos 1 acc env) := fun it => by
  unfold nxt
  simp only [LawfulMonad.bind_assoc]
  rfl
theorem turn21i : TurnIs elt t1 [⟨t0, i0, [], 0⟩, ⟨t1, i1, [c], 0⟩] scope pos i1.pos 1 acc env (emiF c elt acc env) := fun it => by
  unfold compTurn
  dsimp only [List.getElem?_cons_succ, List.getElem?_cons_zero]
  show (do
      standAt i1.pos
      let x ← pyNext it
      _) = _
  refine congrArg _ (funext fun _ => congrArg _ (funext fun r => ?_))
  cases r with
  | none => rfl
  | some v =>
    dsimp only
    refine congrArg _ (funext fun _ => congrArg _ (funext fun _ => ?_))
    refine fi1.trans (Eq.trans ?_ (LawfulMonad.bind_assoc _ _ _).symm)
    rw [if_pos rfl]
    refine (LawfulMonad.bind_assoc _ _ _).trans ?_
    refine congrArg (fun k => PySem.isTrue c env (eval c env) >>= k) (funext fun b => ?_)
    refine (LawfulMonad.pure_bind _ _).trans ?_
    cases b with
    | false => exact (LawfulMonad.pure_bind _ _).symm
    | true => rfl
end
section
variable {Y : Cx} {c elt : Expr} {D : Addr}
theorem bod_appF {tc : TT} {te : TE} (hx : ∀ e s, Y.xe e s → False) (hc : PT Y c tc) (he : PE Y elt te) :
    Bod Y [] (emiF c elt (.ref D) Y.env) (fun σ H Q => tc σ H fun b H0 => if b = true then te σ H0 fun y H1 => ∃ acc, H1 D = some (.lst acc) ∧ acc.length < sizeLine ∧ Q (upd H1 D (.lst (acc ++ [y]))) else Q H0) := ⟨fun pins s σ H Q I h => by
  unfold emiF
  refine wpAny_bind (wpAny_mono (hc.run pins s σ H _ I h) (fun b s1 h1 => ?_) hx)
  obtain ⟨H1, I1, q⟩ := h1
  cases b with
  | true => exact (bod_app hx he).run pins s1 σ H1 Q I1 q
  | false => exact wpAny_pure ⟨_, I1, q⟩⟩
theorem db_appF {Dl : Addr} {δ : List Sl} {ω : List Cell} {g : Bool} {d : PyData} (hx : ∀ e s, Y.xe e s → False) (hc : DT Y c δ ω fun b ω' => b = g ∧ ω' = ω) (h : g = true → DE Y elt δ ω fun r ω' => r = .val d ∧ ω' = ω) :
    DB Y [] (emiF c elt (.ref Dl) Y.env) Dl δ ω (if g = true then [d] else []) := fun B F H as σ accV acc w ev ha hl Q o => by
  refine ⟨_, bod_appF hx pt_w pe_w, hc B _ H as σ w ev _ fun b B1 H1 as1 ω1 e1 p1 w1 ⟨eb, eω⟩ => ?_⟩
  subst eb eω
  obtain rfl := same_as w w1 p1
  cases b with
  | false =>
    rw [if_neg Bool.false_ne_true]
    rw [if_neg Bool.false_ne_true, List.append_nil] at o
    exact o B1 H1 accV e1 w1 (dpAll_up e1 ha)
  | true =>
    rw [if_pos rfl]
    rw [if_pos rfl] at o hl
    refine h rfl B1 _ H1 as1 σ w1 (envOk_up e1 (List.prefix_refl _) ev) _ fun v B2 H2 as2 r ω2 e2 p2 w2 s2 ⟨er, eω⟩ => ?_
    subst er eω
    obtain rfl := same_as w1 w2 p2
    refine ⟨accV, (w2.f Dl _ upd_same).1, ?_, o B2 _ (accV ++ [v]) (e1.trans e2) w2.rehide (dpAll_app (dpAll_up (e1.trans e2) ha) (.cons (sl_val s2) .nil))⟩
    rw [dpAll_len ha, sizeLine_eq]
    rw [List.length_singleton] at hl
    omega
end
end
section
/-! a def with an own list that may also call repr -/
section
variable {P : Program} {w : World} {K : Fg} {mg : Str → Option Value} {base : Heap} {x qual : Str} {st : Stmt} {f : Addr} {fd : FuncData} {N ps : List Str} {k : Nat}
theorem ok_GL {φ : List D → List D → (D → List D → Prop) → Prop} (F : Fun K x qual st f fd) (S : FnScope N ps (defScope st)) (hn : ∀ cs ds Q, φ cs ds Q → ds.length + 1 = ps.length)
    (hb : ∀ cs ds Q, φ cs ds Q → BodyG P w K mg base N qual st f k fun X => DS X (defBody st) (slots N (.own 0 :: ds.map Sl.val)) [.lst cs] { nx := fun _ ω' => ∃ cs', ω'[0]? = some (.lst cs') ∧ Q .none cs', rt := fun r ω' => ∃ d cs', r = .val d ∧ ω'[0]? = some (.lst cs') ∧ Q d cs' }) :
    FnG P w K mg base (k + 1) f fd ps (spL K φ) := by
  refine fnG_mk F S (fun vs H Q E h => ?_) fun cdv A outer s H vs Q E hgd hr h => ?_
  · obtain ⟨B, F', a, rest, cs, ds, P', rfl, hw, hd, hφ, _⟩ := h
    rw [List.length_cons, dpAll_len hd]
    exact hn _ _ _ hφ
  · obtain ⟨B, F', a, rest, cs, ds, P', rfl, hw, hd, hφ, hq⟩ := h
    refine ⟨_, pss_w, hb cs ds P' hφ cdv A outer s H E hgd hr B F' H [a] _ hw (env_start (vs := .ref a :: rest) (.cons (slo rfl) (envOk_vals hd))) _ ⟨fun σ' H' B' as' δ' ω' e1 p1 w1 ev1 q => ?_, fun _ _ _ _ _ _ _ _ _ _ q => q.elim, fun _ _ _ _ _ _ _ _ _ _ q => q.elim, fun v B' H' as' r ω' e1 p1 w1 s1 q => ?_⟩⟩
    · obtain ⟨cs', h0, q⟩ := q
      exact hq .non B' H' .none cs' e1 (w1.head p1 h0) .non q
    · obtain ⟨d, cs', rfl, h0, q⟩ := q
      exact hq v B' H' d cs' e1 (w1.head p1 h0) (sl_val s1) q
end
section
variable {X : Cx} {e : Expr} {es : List Expr} {δ : List Sl} {ω : List Cell} {P : PO1} {pos : Pos}
theorem de_callGL {x : Str} {p : Pos} {j : Nat} {φ : List D → List D → (D → List D → Prop) → Prop} (C : HasG X.prog X.w X.K X.mg X.base j x (spL X.K φ)) (hgd : X.A.guards = some []) (hr : Room j X.A) (hg : Gl X x) (h : DA X (e :: es) δ ω fun rs ω1 => ∃ kx cs ds, rs = .own kx :: ds.map Sl.val ∧ ω1[kx]? = some (.lst cs) ∧ φ cs ds fun d cs' => P (.val d) (ω1.set kx (.lst cs')))
    (hdb : (x == ("__debug__" : Str)) = false := by decide) (he : starEach (e :: es) X.env = (false, eval e X.env) :: starEach es X.env := by rfl) (hpl : (backTo pos (starEach es X.env)).any (·.1) = false := by rfl) : DE X (.Call (.Name x p) (e :: es) [] pos) δ ω P := fun B F H as σ w ev Q o => by
  obtain ⟨f, fd, ps, hf, hm, hk, hb⟩ := C.ex
  refine ⟨fun σ H Q => wA X (e :: es) σ H fun vs H1 => spL X.K φ vs H1 Q E0, ⟨fun pins s σ H Q I hh => ?_⟩, ?_⟩
  · refine wpAny_Call_Name_kw (ld_glob I hg hm ?_ hdb)
    refine PySem.W.callWith_K (h₀ := X.base) I.ok.mod.kin hk ?_ he hpl
    exact thn (pa_w.run pos pins s σ H _ I hh) fun us s1 ⟨vs, H1, I1, r, q⟩ => ⟨I1.kIn, run_fnG hf hgd hr hb I1 r q⟩
  · refine h B F H as σ w ev _ fun vs B1 H1 as1 rs ω1 e1 p1 w1 s1 ⟨kx, cs, ds, er, hc, hφ⟩ => ?_
    subst er
    obtain ⟨v, us, rfl, g1, g2⟩ := rs_head s1
    obtain ⟨a, rfl, ha⟩ := sl_own g1
    obtain ⟨F', wF, back⟩ := w1.frame1 ha hc (by simp)
    refine ⟨B1, F', a, us, cs, ds, _, rfl, wF, rsOk_vals g2, hφ, fun v B' H' d cs' sb w' hd hp => ?_⟩
    exact o v B' H' as1 _ _ (e1.trans sb) p1 (back B' H' _ sb w') (slv hd) hp
end
end
section
/-! xs.index(e); an owned list beside a written one; list(range(n)) owned -/
theorem seqN {i n : Nat} (h : i < n) : seqIndex? (i : Int) n = some i := by
  unfold seqIndex?
  simp
  omega
section
variable {X : Cx} {e : Expr} {δ : List Sl} {ω : List Cell} {P : Sl → List Cell → Prop} {pos : Pos}
theorem rr_neLO {k : Nat} {ds es : List PyData} (hc : ω[k]? = some (.lst ds)) (h1 : SeqAt.shaped (.list ds) = true) (h2 : SeqAt.shaped (.list es) = true) (hp : P (.val (.bool (!PyData.eqv (.list ds) (.list es)))) ω) : RR X (rNeD X.K) (.own k) (.val (.list es)) ω P := fun B F H as v u w s1 s2 Q o => by
  obtain ⟨a, xs, rfl, ha, hh, hd⟩ := slo_lst w s1 hc
  exact ⟨.list ds, .list es, .lst (.inl (.inl hh)) (dpAll_up w.b hd), dp_up w.b (sl_val s2), h1, h2, o.here w (.bl _) hp⟩
theorem de_lstRgO {p p2 pos2 : Pos} (hc : X.calm = true) (hg : Gl X "list") (hm : X.mg "list" = none) (hg2 : Gl X "range") (hm2 : X.mg "range" = none) (h : DE X e δ ω fun r ω1 => ∃ n, r = .val (.int n) ∧ 0 ≤ n ∧ n ≤ 10000 ∧ P (.own ω1.length) (ω1 ++ [.lst (rgD 0 n)]))
    (na : starEach [.Call (.Name "range" p2) [e] [] pos2] X.env = (false, eval (.Call (.Name "range" p2) [e] [] pos2) X.env) :: starEach [] X.env := by rfl) (na2 : starEach [e] X.env = (false, eval e X.env) :: starEach [] X.env := by rfl) :
    DE X (.Call (.Name "list" p) [.Call (.Name "range" p2) [e] [] pos2] [] pos) δ ω P := fun B F H as σ w ev Q o =>
  ⟨_, pe_listRg hc hg hm (prg_1 hg2 hm2 pe_w na2) na, h B F H as σ w ev _ fun v B1 H1 as1 r ω1 e1 p1 w1 s1 ⟨n, er, h0, hn, hp⟩ => by
    subst er
    obtain rfl := dp_int_inv (sl_val s1)
    exact ⟨n, rfl, RgOk.of_le (by omega) (by omega) (by omega) h0, fun q hq => (o.up e1 p1).own w1 hq (dp_rg _ _) hp⟩⟩
theorem de_indexL {xs : Expr} {apos cpos : Pos} (h : DE X xs δ ω fun r ω1 => ∃ ds, r = .val (.list ds) ∧ DE X e δ ω1 fun s ω2 => ∃ (d z : PyData) (j : Nat), s = .val d ∧ flat d = true ∧ ds.all flat = true ∧ ds[j]? = some z ∧ eqV (fv z) (fv d) = true ∧ (∀ (m : Nat) (z' : PyData), m < j → ds[m]? = some z' → eqV (fv z') (fv d) = false) ∧ P (.val (.int (j : Nat))) ω2)
    (hbase : attributeBase xs "index" X.env (eval xs X.env) = eval xs X.env := by rfl)
    (hfew : ((backTo cpos (starEach (e :: []) X.env)).all (fun x => !x.1) && (backToKw cpos (keywordEach [] X.env)).all (fun x => x.1.isSome) && decide ((e :: ([] : List Expr)).length + ([] : List Keyword).length + (if ([] : List Keyword).isEmpty then 0 else 1) < 30)) = true := by rfl)
    (hline : (apos.endLine == cpos.line) = true := by rfl) (hs : starEach (e :: []) X.env = (false, eval e X.env) :: starEach [] X.env := by rfl) (hplain : (backTo cpos (starEach [] X.env)).any (·.1) = false := by rfl) :
    DE X (.Call (.Attribute xs "index" apos) [e] [] cpos) δ ω P := fun B F H as σ w ev Q o => by
  refine ⟨_, pe_bm PySem.F.plainAttrs_list PySem.F.slot_list_index PySem.F.type_list_index mt_index pe_w (pa_cons pe_w pa_nil hs) hbase hfew hline hs hplain, ?_⟩
  refine h B F H as σ w ev _ fun v B1 H1 as1 r ω1 e1 p1 w1 s1 ⟨ds, er, q1⟩ => ?_
  subst er
  obtain ⟨a, xs, rfl, h1, h2⟩ := slv_lst s1 w1.b
  refine ⟨.inl ⟨rfl, xs, h1⟩, ?_⟩
  refine q1 B1 F H1 as1 σ w1 (envOk_up e1 p1 ev) _ fun u B2 H2 as2 r2 ω2 e2 p2 w2 s2 ⟨d, z, j, er2, hfd, hfa, hj, hz, hm, hp⟩ => ?_
  subst er2
  obtain ⟨a', ys, ea, h3, h4⟩ := slv_lst (slOk_up e2 p2 s1) w2.b
  cases ea
  obtain ⟨f1, f2⟩ := dp_flat (sl_val s2) hfd
  obtain ⟨f3, f4⟩ := dpAll_flat h4 hfa
  obtain ⟨y, h5, h6⟩ := dpAll_at h4 hj
  have hfz : flat z = true := List.all_eq_true.mp hfa z (List.mem_of_getElem? hj)
  obtain ⟨f5, _⟩ := dp_flat h6 hfz
  refine ⟨a, ys, u, j, y, rfl, rfl, h3, f2, f4, h5, by rw [f5, f1]; exact hz, fun m z' hlt hz' => ?_, o _ B2 H2 as2 _ ω2 (e1.trans e2) (p1.trans p2) w2 (slv (.int _)) hp⟩
  obtain ⟨d', g1, g2⟩ := dpAll_get h4 hz'
  have hfd' : flat d' = true := List.all_eq_true.mp hfa d' (List.mem_of_getElem? g1)
  rw [(dp_flat g2 hfd').1, f1]
  exact hm m d' hlt g1
end
end
section
/-! ### first entries -/
theorem flat_nD' (l : List Nat) : (l.map nD).all flat = true := by
  rw [List.all_map, List.all_eq_true]
  exact fun _ _ => rfl
def fstep (acc : List Nat) (e : Nat) : List Nat := if e ∈ acc then acc else acc ++ [e]
def fst (l : List Nat) : List Nat := l.foldl fstep []
theorem fst_take {l : List Nat} {i e : Nat} (h : l[i]? = some e) : fst (l.take (i + 1)) = fstep (fst (l.take i)) e := by
  unfold fst
  rw [List.take_add_one, h, List.foldl_append]
  rfl
theorem fstep_mem {p : Nat → Prop} {acc : List Nat} {e : Nat} (h : ∀ x ∈ acc, p x) (he : p e) : ∀ x ∈ fstep acc e, p x := by
  unfold fstep
  split
  · exact h
  · exact snoc_all h he
theorem foldl_mem {p : Nat → Prop} : ∀ {l acc : List Nat}, (∀ x ∈ acc, p x) → (∀ x ∈ l, p x) → ∀ x ∈ l.foldl fstep acc, p x
  | [], _, h, _ => h
  | e :: r, acc, h, hl => foldl_mem (l := r) (fstep_mem h (hl e List.mem_cons_self)) fun x hx => hl x (List.mem_cons_of_mem _ hx)
theorem fst_log {S : Sys} {l : List Nat} (h : LogOk S l) : LogOk S (fst l) := foldl_mem (p := fun e => e < S.ops.length) nofun h
theorem foldl_len : ∀ (l acc : List Nat), (l.foldl fstep acc).length ≤ acc.length + l.length
  | [], _ => Nat.le_refl _
  | e :: r, acc => by
    have h := foldl_len r (fstep acc e)
    have h2 : (fstep acc e).length ≤ acc.length + 1 := by
      unfold fstep
      split
      · omega
      · rw [List.length_append]
        exact Nat.le_refl _
    rw [List.foldl_cons, List.length_cons]
    omega
theorem fst_len (l : List Nat) : (fst l).length ≤ l.length := by
  have := foldl_len l []
  rw [List.length_nil] at this
  unfold fst
  omega

theorem snoc_all' {α : Type} {p : α → Prop} {l : List α} {x : α} (h : ∀ y ∈ l, p y) (hx : p x) : ∀ y ∈ l ++ [x], p y := fun y hy => by
  rcases List.mem_append.mp hy with q | q
  · exact h y q
  · rw [List.mem_singleton.mp q]
    exact hx
theorem shows_log {S : Sys} (h : S.Ok) {l : List Nat} (hl : LogOk S l) (hz : l.length ≤ 1000) : Shows (logD l) := by
  refine .of (sh_log (log_small h hl)) (by have := depth_log l; omega) ?_
  rw [bulk_log]
  omega
theorem shows_ll {S : Sys} (h : S.Ok) {l : List Nat} (hl : LogOk S l) (hz : l.length ≤ 1000) : Shows (.list [logD l, logD l]) := by
  have h1 := sh_log (log_small h hl)
  refine .of ?_ ?_ ?_
  · show (shD (logD l) && (shD (logD l) && true)) = true
    rw [h1]
    rfl
  · have h2 := depth_log l
    show max (logD l).depth (max (logD l).depth 0) + 1 ≤ 40
    omega
  · show (logD l).bulk + 1 + ((logD l).bulk + 1 + 0) ≤ 1000000
    rw [bulk_log]
    omega
end
section
/-! ### compacting -/
def kk (S : Sys) (e : Nat) : Option Nat := (S.kn[e]?).getD none
def keeps (S : Sys) (e : Nat) (r : List Nat) : Bool := decide (kk S e = none) || !decide (kk S e ∈ r.map (kk S))
def cmp (S : Sys) : List Nat → List Nat
  | [] => []
  | e :: r => if keeps S e r = true then e :: cmp S r else cmp S r
theorem cmp_sub (S : Sys) : ∀ l : List Nat, ∀ e ∈ cmp S l, e ∈ l
  | [], _, h => h
  | x :: r, e, h => by
    unfold cmp at h
    split at h
    · rcases List.mem_cons.mp h with rfl | h
      · exact List.mem_cons_self
      · exact List.mem_cons_of_mem _ (cmp_sub S r e h)
    · exact List.mem_cons_of_mem _ (cmp_sub S r e h)
theorem cmp_log {S : Sys} {l : List Nat} (h : LogOk S l) : LogOk S (cmp S l) := fun e he => h e (cmp_sub S l e he)
theorem cmp_len (S : Sys) : ∀ l : List Nat, (cmp S l).length ≤ l.length
  | [] => Nat.le_refl _
  | x :: r => by
    have := cmp_len S r
    unfold cmp
    split
    · rw [List.length_cons, List.length_cons]
      omega
    · rw [List.length_cons]
      omega
theorem cmp_kinds (S : Sys) {k : Option Nat} (hk : k ≠ none) : ∀ l : List Nat, k ∈ (cmp S l).map (kk S) ↔ k ∈ l.map (kk S)
  | [] => Iff.rfl
  | x :: r => by
    have ih := cmp_kinds S hk r
    unfold cmp
    split
    · rw [List.map_cons, List.map_cons, List.mem_cons, List.mem_cons, ih]
    · next h =>
      rw [ih, List.map_cons, List.mem_cons]
      constructor
      · exact .inr
      · rintro (rfl | h2)
        · unfold keeps at h
          rw [decide_eq_false hk, Bool.false_or] at h
          cases hd : decide (kk S x ∈ r.map (kk S)) with
          | true => exact of_decide_eq_true hd
          | false =>
            rw [hd] at h
            exact absurd rfl h
        · exact h2
theorem cmp_keeps (S : Sys) (e : Nat) (r : List Nat) : keeps S e (cmp S r) = keeps S e r := by
  unfold keeps
  by_cases h : kk S e = none
  · rw [decide_eq_true h, Bool.true_or, Bool.true_or]
  · congr 2
    rw [Bool.eq_iff_iff, decide_eq_true_eq, decide_eq_true_eq]
    exact cmp_kinds S h r
theorem cmp_cmp (S : Sys) : ∀ l : List Nat, cmp S (cmp S l) = cmp S l
  | [] => rfl
  | x :: r => by
    show cmp S (if keeps S x r = true then x :: cmp S r else cmp S r) = if keeps S x r = true then x :: cmp S r else cmp S r
    split
    · next h =>
      show (if keeps S x (cmp S r) = true then x :: cmp S (cmp S r) else cmp S (cmp S r)) = _
      rw [cmp_keeps, if_pos h, cmp_cmp S r]
    · exact cmp_cmp S r
/-- by positions -/
def keepAt (S : Sys) (l : List Nat) (p : Nat × Nat) : Bool := keeps S p.1 (l.drop (p.2 + 1))
theorem cmp_pos (S : Sys) (l : List Nat) : ∀ (pre suf : List Nat), l = pre ++ suf → ((suf.zipIdx pre.length).filter (keepAt S l)).map (·.1) = cmp S suf
  | pre, [], _ => rfl
  | pre, e :: r, h => by
    have ih := cmp_pos S l (pre ++ [e]) r (by rw [h, List.append_assoc]; rfl)
    rw [List.length_append] at ih
    have hd : l.drop (pre.length + 1) = r := by
      rw [h, show pre ++ e :: r = (pre ++ [e]) ++ r by rw [List.append_assoc]; rfl, show pre.length + 1 = (pre ++ [e]).length by rw [List.length_append]; rfl, List.drop_left]
    have hk : keepAt S l (e, pre.length) = keeps S e r := by
      unfold keepAt
      rw [hd]
    rw [List.zipIdx_cons, List.filter_cons, hk]
    unfold cmp
    split
    · rw [List.map_cons]
      exact congrArg _ ih
    · exact ih
theorem cmp_all (S : Sys) (l : List Nat) : (l.zipIdx.filter (keepAt S l)).map (·.1) = cmp S l := cmp_pos S l [] l rfl
/-! ### the dict of last positions -/
def okey : Option Nat → Option Key := Option.map fun i => .inl (i : Int)
theorem okD_okey (k : Option Nat) : okD (okey k) = kD k := by cases k <;> rfl
theorem okey_inj {a b : Option Nat} (h : okey a = okey b) : a = b := by
  cases a with
  | none =>
    cases b with
    | none => rfl
    | some j => cases h
  | some i =>
    cases b with
    | none => cases h
    | some j =>
      have h2 : (.inl (i : Int) : Key) = .inl (j : Int) := Option.some.inj h
      injection h2 with h3
      rw [show i = j by omega]
def lastP (S : Sys) (l : List Nat) : List (Option Key × Int) := l.zipIdx.map fun p => (okey (kk S p.1), (p.2 : Int))
theorem putsN_val (key : Option Key) : ∀ rs : List (Option Key × Int), valV (putsN rs.reverse) key = (rs.find? fun q => decide (q.1 = key)).map fun q => V.int q.2
  | [] => rfl
  | q :: rs => by
    rw [List.reverse_cons, putsN_snoc, valV_put, List.find?_cons]
    by_cases h : q.1 = key
    · rw [if_pos h.symm, decide_eq_true h]
      rfl
    · rw [if_neg (Ne.symm h), decide_eq_false h]
      exact putsN_val key rs
theorem lastP_at {S : Sys} {l : List Nat} {x e : Nat} (h : l[x]? = some e) : ∃ j : Nat, valV (putsN (lastP S l)) (okey (kk S e)) = some (.int (j : Int)) ∧ (decide (j = x) = !decide (kk S e ∈ (l.drop (x + 1)).map (kk S))) := by
  obtain ⟨hx, he⟩ := List.getElem?_eq_some_iff.mp h
  have hl : l = l.take x ++ ([e] ++ l.drop (x + 1)) := by
    have h1 := (List.take_append_drop x l).symm
    rw [List.drop_eq_getElem_cons hx, he] at h1
    exact h1
  have htx : (l.take x).length = x := by
    rw [List.length_take]
    omega
  let C := (l.drop (x + 1)).zipIdx (x + 1)
  have hz : l.zipIdx = (l.take x).zipIdx ++ ([(e, x)] ++ C) := by
    conv => lhs; rw [hl]
    rw [List.zipIdx_append, htx, Nat.zero_add, List.zipIdx_append]
    rfl
  have hp : lastP S l = (((C.map fun p => (okey (kk S p.1), (p.2 : Int))).reverse ++ ([(okey (kk S e), (x : Int))] ++ (((l.take x).zipIdx).map fun p => (okey (kk S p.1), (p.2 : Int))).reverse))).reverse := by
    unfold lastP
    rw [hz, List.map_append, List.map_append, List.reverse_append, List.reverse_append, List.reverse_reverse, List.reverse_reverse, List.append_assoc]
    rfl
  rw [hp, putsN_val, List.find?_append]
  cases hf : ((C.map fun p => (okey (kk S p.1), (p.2 : Int))).reverse).find? fun q => decide (q.1 = okey (kk S e)) with
  | some q =>
    have hm := List.mem_reverse.mp (List.mem_of_find?_eq_some hf)
    have hq0 := List.find?_some hf
    have hq : q.1 = okey (kk S e) := of_decide_eq_true hq0
    obtain ⟨p, hpC, rfl⟩ := List.mem_map.mp hm
    have h1 : x + 1 ≤ p.2 := List.le_snd_of_mem_zipIdx hpC
    have h2 : p.1 ∈ l.drop (x + 1) := List.fst_mem_of_mem_zipIdx hpC
    refine ⟨p.2, rfl, ?_⟩
    rw [decide_eq_false (by omega), decide_eq_true (List.mem_map.mpr ⟨p.1, h2, okey_inj hq⟩)]
    rfl
  | none =>
    refine ⟨x, ?_, ?_⟩
    · show Option.map _ (List.find? _ ([(okey (kk S e), (x : Int))] ++ _)) = _
      rw [List.singleton_append, List.find?_cons, decide_eq_true rfl]
      rfl
    · have hn : kk S e ∉ (l.drop (x + 1)).map (kk S) := fun hm => by
        obtain ⟨y, hy, ey⟩ := List.mem_map.mp hm
        obtain ⟨i, hi, ei⟩ := List.mem_iff_getElem.mp hy
        have hC : (y, x + 1 + i) ∈ C := by
          refine List.mem_iff_getElem?.mpr ⟨i, ?_⟩
          show ((l.drop (x + 1)).zipIdx (x + 1))[i]? = _
          rw [List.getElem?_zipIdx, List.getElem?_eq_getElem hi, ei]
          rfl
        have := List.find?_eq_none.mp hf (okey (kk S y), ((x + 1 + i : Nat) : Int)) (List.mem_reverse.mpr (List.mem_map.mpr ⟨_, hC, rfl⟩))
        rw [ey] at this
        exact this (decide_eq_true rfl)
      rw [decide_eq_true rfl, decide_eq_false hn]
      rfl
theorem kk_at {S : Sys} (hS : S.Ok) {e : Nat} (he : e < S.ops.length) : atI (S.kn.map kD) (e : Int) = some (kD (kk S e)) := by
  have h1 : e < S.kn.length := by rw [hS.kl]; exact he
  refine atI_nat ?_
  unfold kk
  rw [List.getElem?_map, List.getElem?_eq_getElem h1]
  rfl
theorem rr_eqI {X : Cx} {P : Sl → List Cell → Prop} {ω : List Cell} {a b : Int} (hp : P (.val (.bool (a == b))) ω) : RR X rEq (.val (.int a)) (.val (.int b)) ω P := fun B F H as v u w s1 s2 Q o => by
  obtain rfl := dp_int_inv (sl_val s1)
  obtain rfl := dp_int_inv (sl_val s2)
  refine ⟨rfl, ?_⟩
  rw [dec_int]
  exact o.here w (.bl _) hp
theorem isNon_kD (k : Option Nat) : isNon (kD k) = decide (k = none) := by cases k <;> rfl
end
section
/-! texts -/
section
variable {X : Cx} {a b e : Expr} {es : List Expr} {δ : List Sl} {ω : List Cell} {P : PO1} {pos : Pos}
theorem de_fmtI (h : DE X e δ ω fun r ω1 => ∃ i : Int, r = .val (.int i) ∧ i.natAbs.log2 < 1920 ∧ P (.val (.str (toString i))) ω1) : DE X (.FormattedValue e (-1) none pos) δ ω P := fun B F H as σ w ev Q o => by
  refine ⟨_, pe_fmt pe_w, ?_⟩
  refine h B F H as σ w ev _ fun v B1 H1 as1 r ω1 e1 p1 w1 s1 ⟨i, er, hi, hp⟩ => ?_
  subst er
  obtain rfl := dp_int_inv (sl_val s1)
  exact .inr ⟨i, rfl, hi, (o.up e1 p1).here w1 (.str _) hp⟩
theorem de_fmtS (h : DE X e δ ω fun r ω1 => ∃ y : Str, r = .val (.str y) ∧ y.length ≤ sizeLine ∧ P (.val (.str y)) ω1) : DE X (.FormattedValue e (-1) none pos) δ ω P := fun B F H as σ w ev Q o => by
  refine ⟨_, pe_fmt pe_w, ?_⟩
  refine h B F H as σ w ev _ fun v B1 H1 as1 r ω1 e1 p1 w1 s1 ⟨y, er, hy, hp⟩ => ?_
  subst er
  obtain rfl := dp_str_inv (sl_val s1)
  exact .inl ⟨y, rfl, hy, (o.up e1 p1).here w1 (.str _) hp⟩
/-- the parts of an f-string -/
def DJ (X : Cx) (δ : List Sl) (P : PO1) : List Expr → Str → List Cell → Prop
  | [], acc, ω => P (.val (.str acc)) ω
  | e :: es, acc, ω => DE X e δ ω fun r ω1 => ∃ y : Str, r = .val (.str y) ∧ (acc ++ y).length ≤ sizeLine ∧ DJ X δ P es (acc ++ y) ω1
def wEs (X : Cx) (es : List Expr) : List TE := es.map (wE X)
theorem pj_w : ∀ es : List Expr, PJ X es (wEs X es)
  | [] => .nil
  | _ :: es => .cons pe_w (pj_w es)
theorem dj_run : ∀ (es : List Expr) (acc : Str) (ω : List Cell), DJ X δ P es acc ω → ∀ B F H as σ, Wd X.K B F H as ω → EnvOk X.K B as σ δ → ∀ Q, Out X.K B F as P Q → tJs (wEs X es) acc σ H fun out H1 => Q (.str out) H1
  | [], acc, ω, h, B, F, H, as, σ, w, ev, Q, o => o.here w (.str _) h
  | e :: es, acc, ω, h, B, F, H, as, σ, w, ev, Q, o => by
    refine h B F H as σ w ev _ fun v B1 H1 as1 r ω1 e1 p1 w1 s1 ⟨y, er, hy, hp⟩ => ?_
    subst er
    obtain rfl := dp_str_inv (sl_val s1)
    exact ⟨y, rfl, hy, dj_run es _ ω1 hp B1 F H1 as1 σ w1 (envOk_up e1 p1 ev) Q (o.up e1 p1)⟩
theorem de_joined {v1 v2 : Expr} {rest : List Expr} (h : DJ X δ P (v1 :: v2 :: rest) Str.empty ω) : DE X (.JoinedStr (v1 :: v2 :: rest) pos) δ ω P := fun B F H as σ w ev Q o =>
  ⟨_, pe_joined (pj_w _), dj_run _ _ ω h B F H as σ w ev Q o⟩
theorem rr_catS {i j : Str} (hz : i.length + j.length ≤ 1000000) (hp : P (.val (.str (i ++ j))) ω) : RR X (fun x y H Q => ∃ i j, x = .str i ∧ y = .str j ∧ i.length + j.length ≤ sizeLine ∧ Q (.str (i ++ j)) H) (.val (.str i)) (.val (.str j)) ω P := fun B F H as v u w s1 s2 Q o =>
  ⟨i, j, dp_str_inv (sl_val s1), dp_str_inv (sl_val s2), Nat.le_trans hz (by decide), o.here w (.str _) hp⟩
theorem de_catS (h : DE X a δ ω fun x ω1 => ∃ i, x = .val (.str i) ∧ DE X b δ ω1 fun y ω2 => ∃ j, y = .val (.str j) ∧ i.length + j.length ≤ 1000000 ∧ P (.val (.str (i ++ j))) ω2) : DE X (.BinOp a .Add b pos) δ ω P :=
  de_bin op_add_str (h.mono fun x ω1 ⟨i, e1, q⟩ => q.mono fun y ω2 ⟨j, e2, hz, hp⟩ => by subst e1 e2; exact rr_catS hz hp)
theorem ra_strI {i : Int} (hi : i.natAbs.log2 < 1920) (hp : P (.val (.str (toString i))) ω) : RA X (fun xs H Q => ∃ i, xs = [.int i] ∧ i.natAbs.log2 < 1920 ∧ Q (.str (toString i)) H) [.val (.int i)] ω P := fun B F H as vs w s Q o => by
  obtain ⟨v, rfl, s1⟩ := rs1 s
  obtain rfl := dp_int_inv (sl_val s1)
  exact ⟨i, rfl, hi, o.here w (.str _) hp⟩
theorem dpAll_strs {K : Fg} {H : Hp} : ∀ {vs : List V} {ns : List Str}, DpAll K H vs (ns.map PyData.str) → vs = ns.map V.str
  | _, [], .nil => rfl
  | _, n :: ns, .cons h q => by rw [List.map_cons, dp_str_inv h, dpAll_strs q]
/-- two lists of the same flat items -/
theorem flatB_fv : ∀ d : D, flat d = true → (∀ K B v, Dp K B v d → v = fv d ∧ flatB v = true)
  | .none, _ => fun _ _ _ h => by cases h; exact ⟨rfl, rfl⟩
  | .bool _, _ => fun _ _ _ h => by cases h; exact ⟨rfl, rfl⟩
  | .int _, _ => fun _ _ _ h => by cases h; exact ⟨rfl, rfl⟩
  | .str _, _ => fun _ _ _ h => by cases h; exact ⟨rfl, rfl⟩
theorem pairs_eq {K : Fg} {B H : Hp} : ∀ {ds : List D} {xs ys : List V}, ds.all flat = true → DpAll K B xs ds → DpAll K B ys ds → Paired (EqV K H 1) xs ys
  | [], _, _, _, .nil, .nil => .nil
  | d :: ds, _, _, hf, .cons h1 q1, .cons h2 q2 => by
    rw [List.all_cons, Bool.and_eq_true] at hf
    obtain ⟨e1, f1⟩ := flatB_fv d hf.1 _ _ _ h1
    obtain ⟨e2, _⟩ := flatB_fv d hf.1 _ _ _ h2
    exact .cons (.inl ⟨e1.trans e2.symm, f1⟩) (pairs_eq hf.2 q1 q2)
theorem rr_eqFl {ds : List D} (hf : ds.all flat = true) (hp : P (.val (.bool true)) ω) : RR X (rEqV X.K) (.val (.list ds)) (.val (.list ds)) ω P := fun B F H as v u w s1 s2 Q o => by
  obtain ⟨a, xs, rfl, h1, h2⟩ := slv_lst s1 w.b
  obtain ⟨b, ys, rfl, g1, g2⟩ := slv_lst s2 w.b
  exact ⟨1, by decide, .inl ⟨a, b, xs, ys, rfl, rfl, h1, g1, pairs_eq hf h2 g2⟩, o.here w (.bl _) hp⟩
/-- sep.join(texts) -/
theorem de_joinS {apos : Pos} (h : DE X a δ ω fun r ω1 => ∃ sep, r = .val (.str sep) ∧ DE X e δ ω1 fun r2 ω2 => ∃ ys : List Str, Seq ω2 r2 (ys.map PyData.str) ∧ (ys.map (·.length)).sum + ys.length * sep.length ≤ 16777216 ∧ P (.val (.str (Txt.join sep ys))) ω2)
    (hs : starEach [e] X.env = [(false, eval e X.env)] := by rfl) (hbase : attributeBase a "join" X.env (eval a X.env) = eval a X.env := by rfl) (hline : (apos.endLine == pos.line) = true := by rfl) : DE X (.Call (.Attribute a "join" apos) [e] [] pos) δ ω P := fun B F H as σ w ev Q o => by
  refine ⟨_, pe_join pe_w pe_w hs hbase hline, ?_⟩
  refine h B F H as σ w ev _ fun v B1 H1 as1 r ω1 e1 p1 w1 s1 ⟨sep, er, q1⟩ => ?_
  subst er
  obtain rfl := dp_str_inv (sl_val s1)
  refine ⟨⟨_, rfl⟩, ?_⟩
  refine q1 B1 F H1 as1 σ w1 (envOk_up e1 p1 ev) _ fun u B2 H2 as2 r2 ω2 e2 p2 w2 s2 ⟨ys, hq, hz, hp⟩ => ?_
  obtain ⟨p, xs, rfl, hsq, hd⟩ := hq.get w2 s2
  obtain rfl := dpAll_strs hd
  exact ⟨sep, p, ys, rfl, rfl, hsq, hz, (o.up (e1.trans e2) (p1.trans p2)).here w2 (.str _) hp⟩
end
end
section
/-! ### the text of a system -/
open TL
def strN (n : Nat) : Str := toString (n : Int)
theorem strN_len {n : Nat} (h : n ≤ 9) : (strN n).length = 1 := by
  match n, h with
  | 0, _ => decide +kernel
  | 1, _ => decide +kernel
  | 2, _ => decide +kernel
  | 3, _ => decide +kernel
  | 4, _ => decide +kernel
  | 5, _ => decide +kernel
  | 6, _ => decide +kernel
  | 7, _ => decide +kernel
  | 8, _ => decide +kernel
  | 9, _ => decide +kernel
theorem small_log {n : Nat} (h : n ≤ 9) : ((n : Nat) : Int).natAbs.log2 < 1920 := by
  match n, h with
  | 0, _ => decide
  | 1, _ => decide
  | 2, _ => decide
  | 3, _ => decide
  | 4, _ => decide
  | 5, _ => decide
  | 6, _ => decide
  | 7, _ => decide
  | 8, _ => decide
  | 9, _ => decide
def kindW : Option Nat → List Str
  | none => []
  | some k => ["kind", strN k]
def wordsS (e : Nat) (o : List Nat) (k : Option Nat) : List Str := (strN e ++ (":" : Str)) :: (o.map strN ++ kindW k)
def lineS (e : Nat) (o : List Nat) (k : Option Nat) : Str := Txt.join " " (wordsS e o k)
def linesS (S : Sys) (n : Nat) : List Str := (List.range n).map fun e => lineS e (S.ops.getD e []) (kk S e)
def headS (S : Sys) : Str := ((("states " : Str) ++ strN S.n) ++ (" start " : Str)) ++ strN S.st
def textS (S : Sys) : Str := Txt.join "\n" (headS S :: linesS S S.ops.length) ++ ("\n" : Str)
theorem joinL_nil : ∀ l : List (List Nat), joinL [] l = l.flatten
  | [] => rfl
  | [p] => by
    rw [List.flatten_singleton]
    rfl
  | p :: q :: r => by
    show p ++ ([] ++ joinL [] (q :: r)) = _
    rw [List.nil_append, joinL_nil (q :: r), List.flatten_cons (l := p)]
theorem joinL_end (S : List Nat) : ∀ (p : List Nat) (l : List (List Nat)), joinL S (p :: l) ++ S = p ++ S ++ (l.map (· ++ S)).flatten
  | p, [] => by
    show p ++ S = _
    rw [List.map_nil, List.flatten_nil, List.append_nil]
  | p, q :: r => by
    show (p ++ (S ++ joinL S (q :: r))) ++ S = _
    rw [List.append_assoc, List.append_assoc, joinL_end S q r, List.map_cons, List.flatten_cons]
    simp only [List.append_assoc]
theorem tl_empty : tl ("" : Str) = [] := by decide +kernel
theorem text_by_lines (h : Str) (ls : List Str) : Txt.join "\n" (h :: ls) ++ ("\n" : Str) = h ++ ("\n" : Str) ++ Txt.join "" (ls.map (· ++ ("\n" : Str))) := by
  refine ext_tl ?_
  rw [tl_append, tl_append, tl_append, join_eq, join_eq, tl_join, tl_join, List.map_cons, joinL_end, tl_empty, joinL_nil, List.map_map, List.map_map]
  congr 2
  refine List.map_congr_left fun x _ => ?_
  show tl x ++ tl "\n" = tl (x ++ ("\n" : Str))
  rw [tl_append]
theorem empty_app (a b : Str) : (Str.empty ++ a) ++ b = a ++ b := by
  refine ext_tl ?_
  rw [tl_append, tl_append, tl_append]
  rfl
theorem empty_app1 (a : Str) : Str.empty ++ a = a := by
  refine ext_tl ?_
  rw [tl_append]
  rfl
theorem app_len (a b : Str) : (a ++ b).length = a.length + b.length := by
  rw [len_tl, len_tl, len_tl, tl_append, List.length_append]
theorem join_len (sep : Str) : ∀ l : List Str, (Txt.join sep l).length ≤ (l.map (·.length)).sum + l.length * sep.length := fun l => by
  rw [join_eq, len_tl, tl_join]
  have gen : ∀ l : List Str, (joinL (tl sep) (l.map tl)).length ≤ (l.map (·.length)).sum + l.length * sep.length := by
    intro l
    induction l with
    | nil => exact Nat.zero_le _
    | cons x r ih =>
      cases r with
      | nil =>
        show (tl x).length ≤ _
        rw [← len_tl]
        simp
      | cons y r =>
        show (tl x ++ (tl sep ++ joinL (tl sep) ((y :: r).map tl))).length ≤ _
        have e1 : ((x :: y :: r).map (·.length)).sum = x.length + ((y :: r).map (·.length)).sum := by rw [List.map_cons, List.sum_cons]
        have e2 : (x :: y :: r).length * sep.length = (y :: r).length * sep.length + sep.length := by rw [List.length_cons, Nat.succ_mul]
        rw [List.length_append, List.length_append, ← len_tl, ← len_tl, e1, e2]
        omega
  exact gen l
theorem sum_le {b : Nat} : ∀ l : List Nat, (∀ x ∈ l, x ≤ b) → l.sum ≤ l.length * b
  | [], _ => Nat.zero_le _
  | x :: r, h => by
    have h1 := h x List.mem_cons_self
    have h2 := sum_le r fun y hy => h y (List.mem_cons_of_mem _ hy)
    rw [List.sum_cons, List.length_cons, Nat.succ_mul]
    omega
theorem kind_len : ("kind" : Str).length = 4 := by decide +kernel
theorem colon_len : (":" : Str).length = 1 := by decide +kernel
theorem space_len : (" " : Str).length = 1 := by decide +kernel
theorem nl_len : ("\n" : Str).length = 1 := by decide +kernel
theorem none_len : ("" : Str).length = 0 := by decide +kernel
theorem words_ok {e : Nat} {o : List Nat} {k : Option Nat} (he : e ≤ 9) (ho : ∀ x ∈ o, x ≤ 9) (hz : o.length ≤ 6) (hk : ∀ i, k = some i → i ≤ 9) : (wordsS e o k).length ≤ 9 ∧ ∀ x ∈ (wordsS e o k).map (·.length), x ≤ 4 := by
  have hkl : (kindW k).length ≤ 2 ∧ ∀ x ∈ kindW k, x.length ≤ 4 := by
    cases k with
    | none => exact ⟨by decide, nofun⟩
    | some i =>
      refine ⟨Nat.le_refl 2, fun x hx => ?_⟩
      rcases List.mem_cons.mp hx with rfl | hx
      · rw [kind_len]
        decide
      · rw [List.mem_singleton.mp hx, strN_len (hk i rfl)]
        decide
  refine ⟨?_, fun x hx => ?_⟩
  · unfold wordsS
    rw [List.length_cons, List.length_append, List.length_map]
    omega
  · obtain ⟨y, hy, rfl⟩ := List.mem_map.mp hx
    unfold wordsS at hy
    rcases List.mem_cons.mp hy with rfl | hy
    · rw [app_len, strN_len he, colon_len]
      decide
    · rcases List.mem_append.mp hy with hy | hy
      · obtain ⟨z, hz, rfl⟩ := List.mem_map.mp hy
        rw [strN_len (ho z hz)]
        decide
      · exact hkl.2 y hy
theorem words_sum {e : Nat} {o : List Nat} {k : Option Nat} (he : e ≤ 9) (ho : ∀ x ∈ o, x ≤ 9) (hz : o.length ≤ 6) (hk : ∀ i, k = some i → i ≤ 9) : ((wordsS e o k).map (·.length)).sum + (wordsS e o k).length * (" " : Str).length ≤ 45 ∧ (lineS e o k).length ≤ 45 := by
  obtain ⟨h1, h2⟩ := words_ok he ho hz hk
  have h3 := sum_le _ h2
  have h4 := join_len " " (wordsS e o k)
  rw [List.length_map] at h3
  unfold lineS
  rw [space_len] at h4 ⊢
  omega
structure Sys.Small (S : Sys) : Prop where
  op : ∀ e, e < S.ops.length → (∀ x ∈ S.ops.getD e [], x ≤ 9) ∧ (S.ops.getD e []).length ≤ 6
  kk : ∀ e i, kk S e = some i → i ≤ 9
theorem small_of {S : Sys} (h : S.Ok) : S.Small := by
  have h6 := h.n6
  refine ⟨fun e he => ?_, fun e i hi => ?_⟩
  · have hm : S.ops.getD e [] ∈ S.ops := by
      rw [List.getD_eq_getElem?_getD, List.getElem?_eq_getElem he]
      exact List.getElem_mem he
    obtain ⟨h1, h2⟩ := h.op _ hm
    exact ⟨fun x hx => by have := h2 x hx; omega, by omega⟩
  · unfold DL.kk at hi
    cases q : S.kn[e]? with
    | none =>
      rw [q] at hi
      cases hi
    | some k =>
      rw [q] at hi
      exact h.kk k (List.mem_of_getElem? q) i hi
end
section
/-! ### texts, the program's -/
theorem toStr_nD (n : Nat) : toString ((n : Nat) : Int) = strN n := rfl
def φ_opl : List D → (D → Prop) → Prop := fun ds P => ∃ (e : Nat) (o : List Nat) (k : Option Nat), ds = [nD e, opD o, kD k] ∧ e ≤ 9 ∧ (∀ x ∈ o, x ≤ 9) ∧ o.length ≤ 6 ∧ (∀ i, k = some i → i ≤ 9) ∧ P (.str (lineS e o k))
def φ_text : List D → (D → Prop) → Prop := fun ds P => ∃ S, ds = [sysD S] ∧ S.Ok ∧ P (.str (textS S))
theorem strs_map (l : List Nat) : (l.map nD).map (fun d => match d with | .int s => PyData.str (toString s) | _ => .none) = (l.map strN).map PyData.str := by
  rw [List.map_map, List.map_map]
  rfl
theorem lines_take (S : Sys) (i : Nat) : linesS S (i + 1) = linesS S i ++ [lineS i (S.ops.getD i []) (kk S i)] := by
  unfold linesS
  rw [List.range_succ, List.map_append]
  rfl
theorem lines_len (S : Sys) (i : Nat) : (linesS S i).length = i := by
  unfold linesS
  rw [List.length_map, List.length_range]
theorem lines_sum {S : Sys} (h : S.Ok) : ∀ x ∈ (linesS S S.ops.length).map (·.length), x ≤ 45 := fun x hx => by
  obtain ⟨y, hy, rfl⟩ := List.mem_map.mp hx
  obtain ⟨e, he, rfl⟩ := List.mem_map.mp hy
  have he := List.mem_range.mp he
  have h6 := h.o6
  have sm := small_of h
  exact (words_sum (by omega) (sm.op e he).1 (sm.op e he).2 (fun i hi => sm.kk e i hi)).2
theorem head_len {S : Sys} (h : S.Ok) : (headS S).length = 16 := by
  have h6 := h.n6
  have hs := h.st
  unfold headS
  rw [app_len, app_len, app_len, strN_len (by omega), strN_len (by omega)]
  rfl
section
variable {P : Program} {w : World} {K : Fg} {mg : Str → Option Value} {base : Heap} {f : Addr} {fd : FuncData} {k : Nat}
end
end
section
/-- reach is closed -/
def Closed (S : Sys) (R : Nat → Prop) : Prop := ∀ s, R s → ∀ e, e < S.ops.length → R (step S e s)
theorem closed_end {S : Sys} {R : Nat → Prop} (hc : Closed S R) : ∀ (l : List Nat) (s : Nat), LogOk S l → R s → R (endOf S s l)
  | [], _, _, h => h
  | e :: r, s, hl, h => closed_end hc r (step S e s) (fun x hx => hl x (List.mem_cons_of_mem _ hx)) (hc s h e (hl e List.mem_cons_self))
theorem bstep_has (S : Sys) (s : Nat) (lg : List Nat) (L : List Ent) (e : Nat) : step S e s ∈ (bstep S s lg L e).map (·.1) := by
  unfold bstep
  split
  · assumption
  · rw [List.map_append]
    exact List.mem_append_right _ (List.mem_singleton.mpr rfl)
theorem pre_map {L M : List Ent} (h : L <+: M) {x : Nat} (hx : x ∈ L.map (·.1)) : x ∈ M.map (·.1) := by
  obtain ⟨p, hp, rfl⟩ := List.mem_map.mp hx
  exact List.mem_map.mpr ⟨p, h.subset hp, rfl⟩
theorem bexp_has (S : Sys) (s : Nat) (lg : List Nat) (L : List Ent) : ∀ (i e : Nat), e < i → step S e s ∈ (bexp S s lg i L).map (·.1)
  | i + 1, e, h => by
    rw [bexp_succ]
    by_cases he : e = i
    · subst he
      exact bstep_has _ _ _ _ _
    · exact pre_map (bstep_pre _ _ _ _ _) (bexp_has S s lg L i e (by omega))
def BCl (S : Sys) (a : Nat) (L : List Ent) : Prop := ∀ (j : Nat) (p : Ent), j < a → L[j]? = some p → ∀ e, e < S.ops.length → step S e p.1 ∈ L.map (·.1)
theorem bfs_goC {S : Sys} (hS : S.Ok) : ∀ (m a : Nat) (L : List Ent), 7 - a ≤ m → BAt S a L → BCl S a L → S.st ∈ L.map (·.1) → ∃ a', BCl S a' (bfs S) ∧ (bfs S).length ≤ a' ∧ S.st ∈ (bfs S).map (·.1)
  | 0, a, L, hm, h, hc, h0 => by
    have h1 := h.ok.len
    have h2 := hS.n6
    have h3 := h.fin (by omega)
    subst h3
    exact ⟨a, hc, by omega, h0⟩
  | m + 1, a, L, hm, h, hc, h0 => by
    cases hp : L[a]? with
    | none =>
      have hl : L.length ≤ a := List.getElem?_eq_none_iff.mp hp
      have h3 := h.fin hl
      subst h3
      exact ⟨a, hc, hl, h0⟩
    | some p =>
      have hlt := (List.getElem?_eq_some_iff.mp hp).1
      have hpre := bexp_pre S p.1 p.2 L S.ops.length
      refine bfs_goC hS m (a + 1) _ (by have := h.ok.len; have := hS.n6; omega) (h.next hS hp) (fun j q hj hq e he => ?_) (pre_map hpre h0)
      by_cases hja : j = a
      · subst hja
        obtain ⟨t, ht⟩ := hpre
        have hq2 : (bexp S p.1 p.2 S.ops.length L)[j]? = some p := by
          rw [← ht, List.getElem?_append_left hlt]
          exact hp
        rw [hq2] at hq
        obtain rfl := Option.some.inj hq
        exact bexp_has S _ _ _ _ e he
      · have hjL : j < L.length := by omega
        have hqL : L[j]? = some q := by
          obtain ⟨t, ht⟩ := hpre
          rw [← ht, List.getElem?_append_left hjL] at hq
          exact hq
        exact pre_map hpre (hc j q (by omega) hqL e he)
theorem reach_closed {S : Sys} (hS : S.Ok) : Closed S (fun s => s ∈ reach S) ∧ S.st ∈ reach S := by
  obtain ⟨a, hc, hl, h0⟩ := bfs_goC hS 7 0 _ (Nat.le_refl _) (.start hS) (fun j p hj => absurd hj (Nat.not_lt_zero _)) (by simp)
  have mem : ∀ {s : Nat}, s ∈ (bfs S).map (·.1) → s ∈ reach S := fun {s} h => (reach_perm hS).mem_iff.mpr h
  refine ⟨fun s hs e he => ?_, mem h0⟩
  have hs2 := (reach_perm hS).mem_iff.mp hs
  obtain ⟨p, hp, rfl⟩ := List.mem_map.mp hs2
  obtain ⟨j, hj, ej⟩ := List.mem_iff_getElem.mp hp
  exact mem (hc j p (by omega) (by rw [List.getElem?_eq_getElem hj, ej]) e he)
end
section
/-! any number of owned cells handed to a def: promises of the widest form -/

def Cell.live : Cell → Bool
  | .dead => false
  | .kn _ => false
  | _ => true
def pkA (as : List Addr) (ks : List Nat) : List Addr := ks.map fun i => as.getD i 0
def pkC (ω : List Cell) (ks : List Nat) : List Cell := ks.map fun i => ω.getD i .dead
theorem getD_at {α : Type} {l : List α} {d : α} {n : Nat} (h : n < l.length) : l.getD n d = l[n] := by
  rw [List.getD_eq_getElem?_getD, List.getElem?_eq_getElem h]
  rfl
def putC : List Cell → List Nat → List Cell → List Cell
  | ω, [], _ => ω
  | ω, _ :: _, [] => ω
  | ω, k :: ks, c :: cs => putC (ω.set k c) ks cs
theorem putC_len : ∀ (ω : List Cell) (ks : List Nat) (cs : List Cell), (putC ω ks cs).length = ω.length
  | _, [], _ => by unfold putC; rfl
  | _, _ :: _, [] => rfl
  | ω, k :: ks, c :: cs => by
    show (putC (ω.set k c) ks cs).length = _
    rw [putC_len, List.length_set]
theorem putC_ne : ∀ {ω : List Cell} {ks : List Nat} {cs : List Cell} {i : Nat}, i ∉ ks → (putC ω ks cs)[i]? = ω[i]?
  | _, [], _, _, _ => by unfold putC; rfl
  | _, _ :: _, [], _, _ => rfl
  | ω, k :: ks, c :: cs, i, h => by
    show (putC (ω.set k c) ks cs)[i]? = _
    have h2 : k ≠ i := fun z => h (by rw [z]; exact List.mem_cons_self)
    rw [putC_ne fun z => h (List.mem_cons_of_mem _ z), List.getElem?_set_ne h2]
theorem putC_at : ∀ {ω : List Cell} {ks : List Nat} {cs : List Cell} {j i : Nat} {c : Cell}, ks.Nodup → ks[j]? = some i → i < ω.length → cs[j]? = some c → (putC ω ks cs)[i]? = some c
  | _, [], _, _, _, _, _, h, _, _ => by simp at h
  | _, _ :: _, [], _, _, _, _, _, _, h => by simp at h
  | ω, k :: ks, c :: cs, 0, i, d, nd, h, hi, hc => by
    simp at h hc
    subst h hc
    show (putC (ω.set k c) ks cs)[k]? = _
    rw [putC_ne (List.nodup_cons.mp nd).1, List.getElem?_set_self hi]
  | ω, k :: ks, c :: cs, j + 1, i, d, nd, h, hi, hc => by
    exact putC_at (ω := ω.set k c) (List.nodup_cons.mp nd).2 (by simpa using h) (by rw [List.length_set]; exact hi) (by simpa using hc)
theorem putC_same : ∀ {ω : List Cell} {ks : List Nat}, (∀ i ∈ ks, i < ω.length) → putC ω ks (pkC ω ks) = ω
  | _, [], _ => rfl
  | ω, k :: ks, h => by
    show putC (ω.set k (ω.getD k .dead)) ks (pkC ω ks) = ω
    have hk := h k List.mem_cons_self
    have e : ω.set k (ω.getD k .dead) = ω := by
      rw [getD_at hk, List.set_getElem_self]
    rw [e]
    exact putC_same fun i hi => h i (List.mem_cons_of_mem _ hi)
theorem pkA_at {as : List Addr} {ks : List Nat} {j i : Nat} (h : ks[j]? = some i) (hi : i < as.length) : (pkA as ks)[j]? = as[i]? := by
  unfold pkA
  rw [List.getElem?_map, h, Option.map_some, getD_at hi, List.getElem?_eq_getElem hi]
theorem pkC_at {as : List Cell} {ks : List Nat} {j i : Nat} (h : ks[j]? = some i) (hi : i < as.length) : (pkC as ks)[j]? = as[i]? := by
  unfold pkC
  rw [List.getElem?_map, h, Option.map_some, getD_at hi, List.getElem?_eq_getElem hi]
section
variable {K : Fg} {B F H : Hp} {as : List Addr} {ω : List Cell}
theorem pkA_nodup (nd : as.Nodup) : ∀ {ks : List Nat}, (∀ i ∈ ks, i < as.length) → ks.Nodup → (pkA as ks).Nodup
  | [], _, _ => .nil
  | k :: ks, h, hn => by
    have h1 := h k List.mem_cons_self
    show (as.getD k 0 :: pkA as ks).Nodup
    rw [List.nodup_cons]
    refine ⟨fun hm => ?_, pkA_nodup nd (fun i hi => h i (List.mem_cons_of_mem _ hi)) (List.nodup_cons.mp hn).2⟩
    obtain ⟨i, hi, e⟩ := List.mem_map.mp hm
    have h2 := h i (List.mem_cons_of_mem _ hi)
    rw [getD_at h2, getD_at h1] at e
    have : i = k := (List.getElem_inj nd).mp e
    exact (List.nodup_cons.mp hn).1 (this ▸ hi)
/-- some of the cells alone -/
theorem Wd.pick (w : Wd K B F H as ω) {ks : List Nat} (h : ∀ i ∈ ks, i < ω.length) (hn : ks.Nodup) : Wd K B F H (pkA as ks) (pkC ω ks) := by
  refine ⟨w.b, w.f, by unfold pkA pkC; rw [List.length_map, List.length_map], pkA_nodup w.nd (fun i hi => by rw [w.len]; exact h i hi) hn, fun j a c e1 e2 => ?_⟩
  have hj : j < ks.length := by
    have := (List.getElem?_eq_some_iff.mp e2).1
    unfold pkC at this
    rwa [List.length_map] at this
  have hi := h ks[j] (List.getElem_mem hj)
  rw [pkA_at (List.getElem?_eq_getElem hj) (by rw [w.len]; exact hi)] at e1
  rw [pkC_at (List.getElem?_eq_getElem hj) hi] at e2
  exact w.at' _ a c e1 e2
theorem Wd.liveB (w : Wd K B F H as ω) {k : Nat} {a : Addr} {c : Cell} (e1 : as[k]? = some a) (e2 : ω[k]? = some c) (hl : c.live = true) : B a = none := by
  have q := (w.at' k a c e1 e2).2.2
  cases c with
  | lst ds => exact q.1
  | dct kvs => exact q.1
  | oth o => exact q.1
  | tdc f kvs => exact q.1
  | gn p => exact q.1
  | dead => cases hl
  | kn p => cases hl
/-- what is ours but for the cells ks is others' for a call -/
theorem Wd.frameL (w : Wd K B F H as ω) {ks : List Nat} (hk : ∀ i ∈ ks, i < ω.length) (hn : ks.Nodup) : ∃ F', Wd K B F' H (pkA as ks) (pkC ω ks) ∧
    (∀ B' H' as2 ω2, Same B B' → pkA as ks <+: as2 → Wd K B' F' H' as2 ω2 → (∀ c ∈ ω2.drop ks.length, c.live = true) → (Wd K B' F H' (as ++ as2.drop ks.length) (putC ω ks ω2 ++ ω2.drop ks.length))) ∧ ∀ b, B b = none → F' b = none → b ∉ pkA as ks → b ∉ as ∧ F b = none := by
  classical
  have w0 := w.pick hk hn
  have hlA : (pkA as ks).length = ks.length := by unfold pkA; rw [List.length_map]
  have hka : ∀ i ∈ ks, i < as.length := fun i hi => by rw [w.len]; exact hk i hi
  refine ⟨fun b => if b ∉ pkA as ks ∧ b ∈ as ∧ B b = none then H b else F b, ⟨w.b, fun b o e => ?_, w0.len, w0.nd, fun j b c e1 e2 => ?_⟩, fun B' H' as2 ω2 sb p w' hlive => ?_, fun b hb hf hp => ?_⟩
  · by_cases h : b ∉ pkA as ks ∧ b ∈ as ∧ B b = none
    · rw [if_pos h] at e
      exact ⟨e, h.2.2⟩
    · rw [if_neg h] at e
      exact w.f b o e
  · obtain ⟨q1, q2, q3⟩ := w0.at' j b c e1 e2
    refine ⟨?_, q2, q3⟩
    show (if _ then _ else _) = _
    rw [if_neg (fun z => z.1 (List.mem_of_getElem? e1))]
    exact q1
  · -- the way back
    have hF' : ∀ b o, F b = some o → (if b ∉ pkA as ks ∧ b ∈ as ∧ B b = none then H b else F b) = some o := fun b o e => by
      have h : ¬ (b ∉ pkA as ks ∧ b ∈ as ∧ B b = none) := fun z => by
        obtain ⟨j, hj, q⟩ := List.mem_iff_getElem.mp z.2.1
        have hj2 : j < ω.length := by rw [← w.len]; exact hj
        have := (w.at' j b _ (by rw [List.getElem?_eq_getElem hj, q]) (List.getElem?_eq_getElem hj2)).1
        rw [this] at e
        cases e
      rw [if_neg h]
      exact e
    obtain ⟨t, ht⟩ := p
    have hdrop : as2.drop ks.length = t := by rw [← ht, ← hlA, List.drop_left]
    have hl2 : ω2.length = ks.length + t.length := by rw [← w'.len, ← ht, List.length_append, hlA]
    have old : ∀ (j : Nat) (b : Addr) (c : Cell), as[j]? = some b → (putC ω ks ω2)[j]? = some c → F b = none ∧ H' b ≠ none ∧ CellOk K B' H' b c := fun j b c e1 e2 => by
      by_cases hj : j ∈ ks
      · obtain ⟨m, hm, em⟩ := List.mem_iff_getElem.mp hj
        have hjl : j < ω.length := hk j hj
        have hm2 : m < ω2.length := by omega
        have ea : as2[m]? = some b := by
          rw [← ht, List.getElem?_append_left (by rw [hlA]; exact hm), pkA_at (by rw [List.getElem?_eq_getElem hm, em]) (by rw [w.len]; exact hjl)]
          exact e1
        have ec : ω2[m]? = some c := by
          rw [putC_at hn (by rw [List.getElem?_eq_getElem hm, em]) hjl (List.getElem?_eq_getElem hm2)] at e2
          rw [List.getElem?_eq_getElem hm2]
          exact e2
        obtain ⟨q1, q2, q3⟩ := w'.at' m b c ea ec
        refine ⟨?_, q2, q3⟩
        cases hFb : F b with
        | none => rfl
        | some o =>
          have := hF' b o hFb
          rw [q1] at this
          cases this
      · rw [putC_ne hj] at e2
        obtain ⟨q1, q2, q3⟩ := w.at' j b c e1 e2
        have hnp : b ∉ pkA as ks := fun z => by
          obtain ⟨i, hi, e⟩ := List.mem_map.mp z
          have hil := hka i hi
          rw [getD_at hil] at e
          exact hj ((nodup_at w.nd (i := i) (j := j) (by rw [List.getElem?_eq_getElem hil, e]) e1) ▸ hi)
        cases hb : B b with
        | some o => exact ⟨q1, by rw [w'.b _ _ (sb _ _ hb)]; simp, cell_keep q3 (by rw [hb]; simp) sb⟩
        | none =>
          obtain ⟨o, ho⟩ := Option.ne_none_iff_exists'.mp q2
          have hf := w'.f b o (by
            show (if _ then _ else _) = _
            rw [if_pos ⟨hnp, List.mem_of_getElem? e1, hb⟩]
            exact ho)
          exact ⟨q1, by rw [hf.1]; simp, cell_up q3 sb (fun _ => hf.2) (hf.1.trans ho.symm)⟩
    have new : ∀ (m : Nat) (b : Addr) (c : Cell), t[m]? = some b → (ω2.drop ks.length)[m]? = some c → (F b = none ∧ H' b ≠ none ∧ CellOk K B' H' b c) ∧ b ∉ as := fun m b c e1 e2 => by
      have ea : as2[ks.length + m]? = some b := by
        rw [← ht, List.getElem?_append_right (by omega), hlA, Nat.add_sub_cancel_left]
        exact e1
      have ec : ω2[ks.length + m]? = some c := by
        rw [List.getElem?_drop] at e2
        exact e2
      have hlv := hlive c (List.mem_of_getElem? e2)
      obtain ⟨q1, q2, q3⟩ := w'.at' _ b c ea ec
      have hB' := w'.liveB ea ec hlv
      have hB : B b = none := by
        cases hb : B b with
        | none => rfl
        | some o =>
          rw [sb _ _ hb] at hB'
          cases hB'
      refine ⟨⟨?_, q2, q3⟩, fun hm => ?_⟩
      · cases hFb : F b with
        | none => rfl
        | some o =>
          have := hF' b o hFb
          rw [q1] at this
          cases this
      · by_cases hp : b ∈ pkA as ks
        · have hnd := w'.nd
          rw [← ht] at hnd
          exact (List.nodup_append.mp hnd).2.2 b hp b (List.mem_of_getElem? e1) rfl
        · obtain ⟨j, hj, q⟩ := List.mem_iff_getElem.mp hm
          have hj2 : j < ω.length := by rw [← w.len]; exact hj
          have n2 := (w.at' j b _ (by rw [List.getElem?_eq_getElem hj, q]) (List.getElem?_eq_getElem hj2)).2.1
          have q1' : (if b ∉ pkA as ks ∧ b ∈ as ∧ B b = none then H b else F b) = none := q1
          rw [if_pos ⟨hp, hm, hB⟩] at q1'
          exact n2 q1'
    refine ⟨w'.b, fun b o e => w'.f b o (hF' b o e), ?_, ?_, fun j b c e1 e2 => ?_⟩
    · rw [List.length_append, List.length_append, putC_len, w.len, hdrop, List.length_drop]
      omega
    · rw [hdrop, List.nodup_append]
      have hnd := w'.nd
      rw [← ht] at hnd
      refine ⟨w.nd, (List.nodup_append.mp hnd).2.1, fun x hx y hy => fun z => ?_⟩
      obtain ⟨m, hm, e⟩ := List.mem_iff_getElem.mp hy
      have hm2 : m < (ω2.drop ks.length).length := by rw [List.length_drop]; omega
      exact (new m y _ (by rw [List.getElem?_eq_getElem hm, e]) (List.getElem?_eq_getElem hm2)).2 (z ▸ hx)
    · by_cases hj : j < as.length
      · rw [List.getElem?_append_left hj] at e1
        rw [List.getElem?_append_left (by rw [putC_len, ← w.len]; exact hj)] at e2
        exact old j b c e1 e2
      · rw [List.getElem?_append_right (by omega), hdrop] at e1
        rw [List.getElem?_append_right (by rw [putC_len, ← w.len]; omega), putC_len, ← w.len] at e2
        exact (new _ b c e1 e2).1
  · have hf' : (if b ∉ pkA as ks ∧ b ∈ as ∧ B b = none then H b else F b) = none := hf
    by_cases hm : b ∈ as
    · rw [if_pos ⟨hp, hm, hb⟩] at hf'
      obtain ⟨j, hj, q⟩ := List.mem_iff_getElem.mp hm
      have hj2 : j < ω.length := by rw [← w.len]; exact hj
      exact absurd hf' (w.at' j b _ (by rw [List.getElem?_eq_getElem hj, q]) (List.getElem?_eq_getElem hj2)).2.1
    · rw [if_neg (fun z => hm z.2.1)] at hf'
      exact ⟨hm, hf'⟩
end

/-! ### the widest promise -/
/-- a slot of a callee's, seen by the caller -/
def ren (ks : List Nat) (n : Nat) : Sl → Sl
  | .own j => if j < ks.length then .own (ks.getD j 0) else .own (n + (j - ks.length))
  | s => s
/-- data and owned things in; whatever is a slot out; what is new is behind -/
def spU (K : Fg) (φ : List Sl → List Cell → PO1 → Prop) : Sp := fun vs H Q _ => ∃ B F as rs ω Pp, Wd K B F H as ω ∧ RsOk K B as vs rs ∧ φ rs ω Pp ∧
  ∀ v B' H' as' r ω', Same B B' → as <+: as' → Wd K B' F H' as' ω' → (∀ c ∈ ω'.drop ω.length, c.live = true) → SlOk K B' as' (some v) r → Pp r ω' → Q v H'
theorem rsOk_len {K : Fg} {B : Hp} {as : List Addr} : ∀ {vs : List V} {rs : List Sl}, RsOk K B as vs rs → vs.length = rs.length
  | _, _, .nil => rfl
  | _, _, .cons _ q => by rw [List.length_cons, List.length_cons, rsOk_len q]
theorem env_of_rs {K : Fg} {B : Hp} {as : List Addr} : ∀ {vs : List V} {rs : List Sl}, RsOk K B as vs rs → EnvOk K B as (vs.map some) rs
  | _, _, .nil => .nil
  | _, _, .cons h q => .cons h (env_of_rs q)
/-- how a body with n cells hands back: a datum or one of the n; the cells behind the n are given up -/
def RetV (n : Nat) (Pp : PO1) : PO1 := fun r ω' => (∀ j, r = .own j → j < n) ∧ Pp r (ω'.take n)
/-- .. or one new cell -/
def RetC (n : Nat) (Pp : PO1) : PO1 := fun r ω' => ∃ j c, r = .own j ∧ n ≤ j ∧ ω'[j]? = some c ∧ c.live = true ∧ Pp (.own n) (ω'.take n ++ [c])
def RetU (n : Nat) (Pp : PO1) : PO1 := fun r ω' => RetV n Pp r ω' ∨ RetC n Pp r ω'
theorem pk_range {ω : List Cell} {n : Nat} (h : n ≤ ω.length) : pkC ω (List.range n) = ω.take n := by
  apply List.ext_getElem?
  intro i
  unfold pkC
  rw [List.getElem?_map, List.getElem?_take]
  by_cases hi : i < n
  · rw [List.getElem?_range hi, Option.map_some, if_pos hi, getD_at (by omega), List.getElem?_eq_getElem (by omega)]
  · rw [List.getElem?_eq_none (by rw [List.length_range]; omega), if_neg hi]
    rfl
theorem pkA_range {ω : List Addr} {n : Nat} (h : n ≤ ω.length) : pkA ω (List.range n) = ω.take n := by
  apply List.ext_getElem?
  intro i
  unfold pkA
  rw [List.getElem?_map, List.getElem?_take]
  by_cases hi : i < n
  · rw [List.getElem?_range hi, Option.map_some, if_pos hi, getD_at (by omega), List.getElem?_eq_getElem (by omega)]
  · rw [List.getElem?_eq_none (by rw [List.length_range]; omega), if_neg hi]
    rfl
section
variable {P : Program} {w : World} {K : Fg} {mg : Str → Option Value} {base : Heap} {x qual : Str} {st : Stmt} {f : Addr} {fd : FuncData} {N ps : List Str} {k : Nat}
theorem retU_run {K : Fg} {B B' F H' : Hp} {as as' : List Addr} {ω ω' : List Cell} {Pp : PO1} {r : Sl} {v : V} {Q : VK} (hl : as.length = ω.length)
    (hq : ∀ v B' H' as' r ω', Same B B' → as <+: as' → Wd K B' F H' as' ω' → (∀ c ∈ ω'.drop ω.length, c.live = true) → SlOk K B' as' (some v) r → Pp r ω' → Q v H')
    (e1 : Same B B') (p1 : as <+: as') (w1 : Wd K B' F H' as' ω') (s1 : SlOk K B' as' (some v) r) (q : RetU ω.length Pp r ω') : Q v H' := by
  obtain ⟨t, ht⟩ := p1
  have hn : ω.length ≤ ω'.length := by rw [← w1.len, ← ht, List.length_append, ← hl]; omega
  have hnA : ω.length ≤ as'.length := by rw [w1.len]; exact hn
  have htk : as'.take ω.length = as := by rw [← ht, ← hl, List.take_left]
  rcases q with ⟨h1, h2⟩ | ⟨j, c, rfl, hj, hc, hlv, h2⟩
  · have w2 := w1.pick (ks := List.range ω.length) (fun i hi => Nat.lt_of_lt_of_le (List.mem_range.mp hi) hn) List.nodup_range
    rw [pk_range hn, pkA_range hnA, htk] at w2
    refine hq v B' H' as r _ e1 (List.prefix_refl _) w2 (fun c hc => ?_) ?_ h2
    · rw [List.drop_eq_nil_of_le (by rw [List.length_take]; omega)] at hc
      cases hc
    · cases r with
      | no => trivial
      | val d => exact s1
      | kn q => exact s1
      | own j =>
        obtain ⟨a, ea, ha⟩ := s1
        have hj := h1 j rfl
        refine ⟨a, ea, ?_⟩
        rw [← ht, List.getElem?_append_left (by rw [hl]; exact hj)] at ha
        exact ha
  · have hjl : j < ω'.length := (List.getElem?_eq_some_iff.mp hc).1
    have w2 := w1.pick (ks := List.range ω.length ++ [j]) (fun i hi => by
      rcases List.mem_append.mp hi with z | z
      · exact Nat.lt_of_lt_of_le (List.mem_range.mp z) hn
      · have z2 : i = j := by simpa using z
        rw [z2]
        exact hjl) (by
      rw [List.nodup_append]
      refine ⟨List.nodup_range, by simp, fun x hx y hy z => ?_⟩
      have hy' : y = j := by simpa using hy
      have := List.mem_range.mp hx
      omega)
    have eC : pkC ω' (List.range ω.length ++ [j]) = ω'.take ω.length ++ [c] := by
      have : pkC ω' (List.range ω.length ++ [j]) = pkC ω' (List.range ω.length) ++ pkC ω' [j] := by
        unfold pkC
        rw [List.map_append]
      rw [this, pk_range hn]
      unfold pkC
      rw [List.map_cons, List.map_nil, List.getD_eq_getElem?_getD, hc]
      rfl
    obtain ⟨a, ea, ha⟩ := s1
    have eA : pkA as' (List.range ω.length ++ [j]) = as ++ [a] := by
      have : pkA as' (List.range ω.length ++ [j]) = pkA as' (List.range ω.length) ++ pkA as' [j] := by
        unfold pkA
        rw [List.map_append]
      rw [this, pkA_range hnA, htk]
      unfold pkA
      rw [List.map_cons, List.map_nil, List.getD_eq_getElem?_getD, ha]
      rfl
    rw [eC, eA] at w2
    have hlt : (ω'.take ω.length).length = ω.length := by rw [List.length_take]; omega
    refine hq v B' H' (as ++ [a]) (.own ω.length) _ e1 (List.prefix_append _ _) w2 (fun d hd => ?_) ⟨a, ea, ?_⟩ h2
    · rw [List.drop_left' hlt] at hd
      have : d = c := by simpa using hd
      rw [this]
      exact hlv
    · rw [← hl, List.getElem?_append_right (Nat.le_refl _), Nat.sub_self]
      rfl
theorem ok_U {φ : List Sl → List Cell → PO1 → Prop} (F : Fun K x qual st f fd) (S : FnScope N ps (defScope st)) (hn : ∀ rs ω Q, φ rs ω Q → rs.length = ps.length)
    (hb : ∀ rs ω Q, φ rs ω Q → Body P w K mg base N qual st f k fun X => DS X (defBody st) (slots N rs) ω { nx := fun _ ω' => RetU ω.length Q (.val .none) ω', rt := RetU ω.length Q }) :
    FnOk P w K mg base CX0 (k + 1) f fd ps (spU K φ) := by
  refine F.ok S (fun vs H Q E h => ?_) fun cdv A outer s H vs Q E hr h => ?_
  · obtain ⟨B, F', as, rs, ω, P', hw, hd, hφ, _⟩ := h
    rw [rsOk_len hd]
    exact hn _ _ _ hφ
  · obtain ⟨B, F', as, rs, ω, P', hw, hd, hφ, hq⟩ := h
    refine ⟨_, pss_w, hb rs ω P' hφ cdv A outer s H E hr B F' H as _ hw (env_start (env_of_rs hd)) _ ⟨fun σ' H' B' as' δ' ω' e1 p1 w1 ev1 q => ?_, fun _ _ _ _ _ _ _ _ _ _ q => q.elim, fun _ _ _ _ _ _ _ _ _ _ q => q.elim, fun v B' H' as' r ω' e1 p1 w1 s1 q => ?_⟩⟩
    · exact retU_run hw.len hq e1 p1 w1 (slv .non) q
    · exact retU_run hw.len hq e1 p1 w1 s1 q
end
section
variable {X : Cx} {e : Expr} {es : List Expr} {δ : List Sl} {ω : List Cell} {P : PO1} {pos : Pos}
def ownsLt (n : Nat) (rs : List Sl) : Bool := rs.all fun r => match r with
  | .own j => decide (j < n)
  | _ => true
theorem ownsLt_mem {n : Nat} {rs : List Sl} (h : ownsLt n rs = true) : ∀ j, Sl.own j ∈ rs → j < n := fun j hj => by
  have := List.all_eq_true.mp h _ hj
  exact of_decide_eq_true this
theorem rs_pick {K : Fg} {B : Hp} {as : List Addr} {ks : List Nat} (hk : ∀ i ∈ ks, i < as.length) : ∀ {rs : List Sl} {vs : List V}, (∀ j, Sl.own j ∈ rs → j < ks.length) → RsOk K B as vs (rs.map (ren ks as.length)) → RsOk K B (pkA as ks) vs rs
  | [], _, _, .nil => .nil
  | r :: rs, _, hj, .cons h q => by
    refine .cons ?_ (rs_pick hk (fun j hm => hj j (List.mem_cons_of_mem _ hm)) q)
    cases r with
    | no => trivial
    | val d => exact h
    | kn q => exact h
    | own j =>
      have hl := hj j List.mem_cons_self
      have e : ren ks as.length (.own j) = .own (ks.getD j 0) := if_pos hl
      rw [e] at h
      obtain ⟨a, ea, ha⟩ := h
      refine ⟨a, ea, ?_⟩
      rw [getD_at hl] at ha
      rw [pkA_at (List.getElem?_eq_getElem hl) (hk _ (List.getElem_mem hl))]
      exact ha
theorem sl_unpick {K : Fg} {B : Hp} {as as2 : List Addr} {ks : List Nat} (hk : ∀ i ∈ ks, i < as.length) (p : pkA as ks <+: as2) {v : V} {r : Sl} (h : SlOk K B as2 (some v) r) : SlOk K B (as ++ as2.drop ks.length) (some v) (ren ks as.length r) := by
  have hlA : (pkA as ks).length = ks.length := by unfold pkA; rw [List.length_map]
  cases r with
  | no => trivial
  | val d => exact h
  | kn q => exact h
  | own j =>
    obtain ⟨a, ea, ha⟩ := h
    by_cases hj : j < ks.length
    · have e : ren ks as.length (.own j) = .own (ks.getD j 0) := if_pos hj
      rw [e]
      refine ⟨a, ea, ?_⟩
      obtain ⟨t, ht⟩ := p
      have hi := hk _ (List.getElem_mem hj)
      rw [← ht, List.getElem?_append_left (by rw [hlA]; exact hj), pkA_at (List.getElem?_eq_getElem hj) hi] at ha
      rw [getD_at hj, List.getElem?_append_left hi]
      exact ha
    · have e : ren ks as.length (.own j) = .own (as.length + (j - ks.length)) := if_neg hj
      rw [e]
      refine ⟨a, ea, ?_⟩
      rw [List.getElem?_append_right (by omega), Nat.add_sub_cancel_left, List.getElem?_drop]
      rw [show ks.length + (j - ks.length) = j by omega]
      exact ha
/-- the call of a def with the widest promise: ks says which cells it is handed -/
theorem de_callU {x : Str} {p : Pos} {j : Nat} {φ : List Sl → List Cell → PO1 → Prop} (C : Has X.prog X.w X.K X.mg X.base j x (spU X.K φ)) (hr : Room j X.A) (hg : Gl X x)
    (h : DA X (e :: es) δ ω fun rs ω1 => ∃ (ks : List Nat) (rs' : List Sl), rs = rs'.map (ren ks ω1.length) ∧ (∀ i ∈ ks, i < ω1.length) ∧ ks.Nodup ∧ ownsLt ks.length rs' = true ∧
      φ rs' (pkC ω1 ks) fun r ω2 => P (ren ks ω1.length r) (putC ω1 ks ω2 ++ ω2.drop ks.length))
    (hdb : (x == ("__debug__" : Str)) = false := by decide) (he : starEach (e :: es) X.env = (false, eval e X.env) :: starEach es X.env := by rfl) (hpl : (backTo pos (starEach es X.env)).any (·.1) = false := by rfl) : DE X (.Call (.Name x p) (e :: es) [] pos) δ ω P := fun B F H as σ w ev Q o => by
  obtain ⟨f, fd, ps, hf, hm, hk, hb⟩ := C.ex
  refine ⟨_, pe_call hf hr hg hm hk hb .nil pass0 pa_w hdb he hpl, ?_⟩
  refine h B F H as σ w ev _ fun vs B1 H1 as1 rs ω1 e1 p1 w1 s1 ⟨ks, rs', er, hks, hnd, hown, hφ⟩ => ?_
  subst er
  have hka : ∀ i ∈ ks, i < as1.length := fun i hi => by rw [w1.len]; exact hks i hi
  obtain ⟨F', wF, back, _⟩ := w1.frameL hks hnd
  have hlC : (pkC ω1 ks).length = ks.length := by unfold pkC; rw [List.length_map]
  rw [← w1.len] at s1
  refine ⟨B1, F', pkA as1 ks, rs', pkC ω1 ks, _, wF, by rw [List.append_nil]; exact rs_pick hka (ownsLt_mem hown) s1, hφ, fun v B' H' as' r ω' sb pp w' hlv hs hp => ?_⟩
  rw [hlC] at hlv
  have w2 := back B' H' as' ω' sb pp w' hlv
  have s2 := sl_unpick hka pp hs
  rw [w1.len] at s2
  exact o v B' H' _ _ _ (e1.trans sb) (p1.trans (List.prefix_append _ _)) w2 s2 hp
end
end
section
/-! instances of own classes -/

abbrev AtOk (K : Fg) (B : Hp) : List (Str × V) → List (Str × D) → Prop := Paired fun p q => p.1 = q.1 ∧ Dp K B p.2 q.2
theorem at_up {K : Fg} {B B' : Hp} (e : Same B B') : ∀ {a : List (Str × V)} {b : List (Str × D)}, AtOk K B a b → AtOk K B' a b
  | _, _, .nil => .nil
  | _, _, .cons h q => .cons ⟨h.1, dp_up e h.2⟩ (at_up e q)
theorem at_get {K : Fg} {B : Hp} {f : Str} {d : D} : ∀ {a : List (Str × V)} {b : List (Str × D)}, AtOk K B a b → b.lookup f = some d → ∃ v, a.lookup f = some v ∧ Dp K B v d
  | _, _, .nil, h => by simp at h
  | (x, v) :: a, (y, c) :: b, .cons h q, e => by
    have hx : x = y := h.1
    subst hx
    by_cases hf : (f == x) = true
    · rw [List.lookup_cons, hf] at e ⊢
      cases e
      exact ⟨v, rfl, h.2⟩
    · rw [List.lookup_cons, Bool.eq_false_iff.mpr hf] at e ⊢
      exact at_get q e
theorem at_none {K : Fg} {B : Hp} {f : Str} : ∀ {a : List (Str × V)} {b : List (Str × D)}, AtOk K B a b → b.lookup f = none → a.lookup f = none
  | _, _, .nil, _ => rfl
  | (x, v) :: a, (y, c) :: b, .cons h q, e => by
    have hx : x = y := h.1
    subst hx
    by_cases hf : (f == x) = true
    · rw [List.lookup_cons, hf] at e
      cases e
    · rw [List.lookup_cons, Bool.eq_false_iff.mpr hf] at e ⊢
      exact at_none q e
def putD (f : Str) (d : D) : List (Str × D) → List (Str × D)
  | [] => [(f, d)]
  | (g, x) :: r => if g = f then (g, d) :: r else (g, x) :: putD f d r
theorem at_put {K : Fg} {B : Hp} {f : Str} {v : V} {d : D} (hv : Dp K B v d) : ∀ {a : List (Str × V)} {b : List (Str × D)}, AtOk K B a b → AtOk K B (L2.putF f v a) (putD f d b)
  | _, _, .nil => .cons ⟨rfl, hv⟩ .nil
  | (x, u) :: a, (y, c) :: b, .cons h q => by
    have hx : x = y := h.1
    subst hx
    show AtOk K B (if x = f then (x, v) :: a else (x, u) :: L2.putF f v a) (if x = f then (x, d) :: b else (x, c) :: putD f d b)
    by_cases e : x = f
    · rw [if_pos e, if_pos e]
      exact .cons ⟨rfl, hv⟩ q
    · rw [if_neg e, if_neg e]
      exact .cons ⟨rfl, h.2⟩ (at_put hv q)
theorem at_len {K : Fg} {B : Hp} {a : List (Str × V)} {b : List (Str × D)} (h : AtOk K B a b) : a.length = b.length := Paired.length h

/-- an instance that is known for good: its class, its attributes -/
def insK (C : Addr) (fs : List (Str × D)) : Fg → Hp → V → Prop := fun K B v => ∃ a dx vs, v = .ref a ∧ B a = some (.ins C dx vs) ∧ AtOk K B vs fs
/-- the class itself -/
def clsK (C : Addr) : Fg → Hp → V → Prop := fun _ _ v => v = .ref C
/-- an instance that is owned; its dict -/
def insC (C dx : Addr) (fs : List (Str × D)) : Cell := .gn fun K B o _ => ∃ vs, o = .ins C dx vs ∧ AtOk K B vs fs
def ownC (x : Addr) : Cell := .oth fun _ => .own x
theorem slk_ins {K : Fg} {B : Hp} {as : List Addr} {v : V} {C : Addr} {fs : List (Str × D)} (s : SlOk K B as (some v) (.kn (insK C fs))) : insK C fs K B v := by
  obtain ⟨v', B0, e, sb, a, dx, vs, h1, h2, h3⟩ := s
  cases e
  exact ⟨a, dx, vs, h1, sb _ _ h2, at_up sb h3⟩
theorem insK_slot {K : Fg} {B : Hp} {as : List Addr} {v : V} {C : Addr} {fs : List (Str × D)} (h : insK C fs K B v) : SlOk K B as (some v) (.kn (insK C fs)) := ⟨v, B, rfl, Same.refl _, h⟩
theorem slo_ins {K : Fg} {B F H : Hp} {as : List Addr} {ω : List Cell} {v : V} {k : Nat} {C dx : Addr} {fs : List (Str × D)} (w : Wd K B F H as ω) (s : SlOk K B as (some v) (.own k)) (hc : ω[k]? = some (insC C dx fs)) : ∃ a vs, v = .ref a ∧ as[k]? = some a ∧ B a = none ∧ H a = some (.ins C dx vs) ∧ AtOk K B vs fs := by
  obtain ⟨a, h1, h2⟩ := sl_own s
  obtain ⟨hb, B0, o, sb, h3, vs, rfl, h4⟩ := (w.at' k a _ h2 hc).2.2
  exact ⟨a, vs, h1, h2, hb, h3, at_up sb h4⟩
/-- an owned thing is from now on known for good -/
theorem Wd.freezeG {K : Fg} {B F H : Hp} {as : List Addr} {ω : List Cell} (w : Wd K B F H as ω) {k : Nat} {a : Addr} {o : HO} (ha : as[k]? = some a) (hB : B a = none) (hH : H a = some o) : Wd K (upd B a o) F H as (ω.set k .dead) ∧ Same B (upd B a o) := by
  have hk : k < ω.length := by rw [← w.len]; exact (List.getElem?_eq_some_iff.mp ha).1
  obtain ⟨q1, q2, q3⟩ := w.at' k a _ ha (List.getElem?_eq_getElem hk)
  have sb : Same B (upd B a o) := same_new hB
  refine ⟨⟨fun b x e => ?_, fun b x e => ?_, by rw [List.length_set]; exact w.len, w.nd, fun j b d e1 e2 => ?_⟩, sb⟩
  · by_cases hb : b = a
    · subst hb
      rw [upd_same] at e
      cases e
      exact hH
    · rw [upd_ne hb] at e
      exact w.b _ _ e
  · have hb : b ≠ a := fun z => by
      rw [z, q1] at e
      cases e
    rw [upd_ne hb]
    exact w.f _ _ e
  · by_cases hj : j = k
    · subst hj
      rw [ha] at e1
      cases e1
      rw [List.getElem?_set_self hk] at e2
      cases e2
      exact ⟨q1, q2, by show upd B _ _ _ ≠ none; rw [upd_same]; simp⟩
    · rw [List.getElem?_set_ne (Ne.symm hj)] at e2
      have hb : b ≠ a := fun z => hj (nodup_at w.nd (z ▸ e1) ha)
      obtain ⟨r1, r2, r3⟩ := w.at' j b d e1 e2
      exact ⟨r1, r2, cell_up r3 sb (fun z => by rw [upd_ne hb]; exact z) rfl⟩

/-! ### promises over slots without cells -/
def Sl.free : Sl → Bool
  | .own _ => false
  | _ => true
theorem sl_free {K : Fg} {B : Hp} {as as' : List Addr} {o : Option V} {r : Sl} (hf : r.free = true) (h : SlOk K B as o r) : SlOk K B as' o r := by
  cases r with
  | no => trivial
  | val d => exact h
  | kn p => exact h
  | own k => cases hf
theorem rs_free {K : Fg} {B : Hp} {as as' : List Addr} : ∀ {vs : List V} {rs : List Sl}, rs.all Sl.free = true → RsOk K B as vs rs → RsOk K B as' vs rs
  | _, _, _, .nil => .nil
  | v :: vs, r :: rs, hf, .cons h q => by
    rw [List.all_cons, Bool.and_eq_true] at hf
    exact .cons (sl_free hf.1 h) (rs_free hf.2 q)
def spS (K : Fg) (φ : List Sl → (Sl → Prop) → Prop) : Sp := fun vs H Q _ => ∃ B F rs P, Wd K B F H [] [] ∧ RsOk K B [] vs rs ∧ φ rs P ∧ ∀ v B' H' r, Same B B' → Wd K B' F H' [] [] → SlOk K B' [] (some v) r → P r → Q v H'
section
variable {P : Program} {w : World} {K : Fg} {mg : Str → Option Value} {base : Heap} {x qual : Str} {st : Stmt} {f : Addr} {fd : FuncData} {N ps : List Str} {k : Nat}
theorem ok_S {φ : List Sl → (Sl → Prop) → Prop} (F : Fun K x qual st f fd) (S : FnScope N ps (defScope st)) (hn : ∀ rs Q, φ rs Q → rs.length = ps.length)
    (hb : ∀ rs Q, φ rs Q → Body P w K mg base N qual st f k fun X => DS X (defBody st) (slots N rs) [] { nx := fun _ _ => Q (.val .none), rt := fun r _ => r.free = true ∧ Q r }) : FnOk P w K mg base CX0 (k + 1) f fd ps (spS K φ) := by
  refine F.ok S (fun vs H Q E h => ?_) fun cdv A outer s H vs Q E hr h => ?_
  · obtain ⟨B, F', rs, P', hw, hd, hφ, _⟩ := h
    rw [rsOk_len hd]
    exact hn _ _ hφ
  · obtain ⟨B, F', rs, P', hw, hd, hφ, hq⟩ := h
    refine ⟨_, pss_w, hb rs P' hφ cdv A outer s H E hr B F' H [] _ hw (env_start (env_of_rs hd)) _ ⟨fun σ' H' B' as' δ' ω' e1 p1 w1 ev1 q => ?_, fun _ _ _ _ _ _ _ _ _ _ q => q.elim, fun _ _ _ _ _ _ _ _ _ _ q => q.elim, fun v B' H' as' r ω' e1 p1 w1 s1 q => ?_⟩⟩
    · exact hq .non B' H' _ e1 w1.drop (slv .non) q
    · exact hq v B' H' r e1 w1.drop (sl_free q.1 s1) q.2
end
section
variable {X : Cx} {e o value : Expr} {es : List Expr} {δ : List Sl} {ω : List Cell} {P : PO1} {pos apos pos' : Pos} {f : Str} {k : Kd}
/-- the call of a def by slots -/
theorem de_callS {x : Str} {p : Pos} {j : Nat} {φ : List Sl → (Sl → Prop) → Prop} (C : Has X.prog X.w X.K X.mg X.base j x (spS X.K φ)) (hr : Room j X.A) (hg : Gl X x) (h : DA X (e :: es) δ ω fun rs ω1 => rs.all Sl.free = true ∧ φ rs fun r => r.free = true ∧ P r ω1)
    (hdb : (x == ("__debug__" : Str)) = false := by decide) (he : starEach (e :: es) X.env = (false, eval e X.env) :: starEach es X.env := by rfl) (hpl : (backTo pos (starEach es X.env)).any (·.1) = false := by rfl) : DE X (.Call (.Name x p) (e :: es) [] pos) δ ω P := fun B F H as σ w ev Q oo => by
  obtain ⟨g, fd, ps, hf, hm, hk, hb⟩ := C.ex
  refine ⟨_, pe_call hf hr hg hm hk hb .nil pass0 pa_w hdb he hpl, ?_⟩
  refine h B F H as σ w ev _ fun vs B1 H1 as1 rs ω1 e1 p1 w1 s1 ⟨hfr, hφ⟩ => ?_
  obtain ⟨F', wF, _, _, back⟩ := w1.frame
  refine ⟨B1, F', rs, _, wF, by rw [List.append_nil]; exact rs_free hfr s1, hφ, fun v B' H' r sb w' hs ⟨hrf, hp⟩ => ?_⟩
  exact oo v B' H' as1 r ω1 (e1.trans sb) p1 (back B' H' sb w') (sl_free hrf hs) hp

/-! ### attributes -/
/-- o.f of an instance that is known for good -/
theorem de_attrK (h : DE X e δ ω fun r ω1 => ∃ C fs d, r = .kn (insK C fs) ∧ Cls X.K C ∧ NoAttr X.K C f ∧ fs.lookup f = some d ∧ P (.val d) ω1) (hb : attributeBase e f X.env (eval e X.env) = eval e X.env := by rfl) : DE X (.Attribute e f pos) δ ω P := fun B F H as σ w ev Q oo => by
  refine ⟨_, pe_fld pe_w hb, ?_⟩
  refine h B F H as σ w ev _ fun v B1 H1 as1 r ω1 e1 p1 w1 s1 ⟨C, fs, d, er, c, n, hl, hp⟩ => ?_
  subst er
  obtain ⟨a, dx, vs, rfl, h2, h3⟩ := slk_ins s1
  obtain ⟨u, hu, hd⟩ := at_get h3 hl
  exact ⟨a, C, dx, vs, u, rfl, w1.b _ _ h2, c, n, hu, oo u B1 H1 as1 _ ω1 e1 p1 w1 (slv hd) hp⟩
/-- .. that is owned -/
theorem de_attrC (h : DE X e δ ω fun r ω1 => ∃ kx C dx fs d, r = .own kx ∧ ω1[kx]? = some (insC C dx fs) ∧ Cls X.K C ∧ NoAttr X.K C f ∧ fs.lookup f = some d ∧ P (.val d) ω1) (hb : attributeBase e f X.env (eval e X.env) = eval e X.env := by rfl) : DE X (.Attribute e f pos) δ ω P := fun B F H as σ w ev Q oo => by
  refine ⟨_, pe_fld pe_w hb, ?_⟩
  refine h B F H as σ w ev _ fun v B1 H1 as1 r ω1 e1 p1 w1 s1 ⟨kx, C, dx, fs, d, er, hk, c, n, hl, hp⟩ => ?_
  subst er
  obtain ⟨a, vs, rfl, ha, hb, hh, h3⟩ := slo_ins w1 s1 hk
  obtain ⟨u, hu, hd⟩ := at_get h3 hl
  exact ⟨a, C, dx, vs, u, rfl, hh, c, n, hu, oo u B1 H1 as1 _ ω1 e1 p1 w1 (slv hd) hp⟩
/-- o.f = value, o owned -/
theorem d1_setAttr (h : DE X value δ ω fun rv ω1 => DE X o δ ω1 fun r ω2 => ∃ kx C dx fs d, rv = .val d ∧ r = .own kx ∧ ω2[kx]? = some (insC C dx fs) ∧ Cls X.K C ∧ NoAttr X.K C f ∧ fs.length < 1000 ∧ k.nx δ (ω2.set kx (insC C dx (putD f d fs))))
    (hs : swapsWith value (some (.Attribute o f pos')) pos.line X.env = pure false := by rfl) : D1 X (.Assign [.Attribute o f pos'] value pos) δ ω k := fun B F H as σ w ev E oo => by
  refine ⟨_, ps_fld pe_w pe_w hs, ?_⟩
  refine h B F H as σ w ev _ fun y B1 H1 as1 rv ω1 e1 p1 w1 s1 q1 => ?_
  refine q1 B1 F H1 as1 σ w1 (envOk_up e1 p1 ev) _ fun v B2 H2 as2 r ω2 e2 p2 w2 s2 ⟨kx, C, dx, fs, d, erv, er, hk, c, n, hz, hp⟩ => ?_
  subst erv er
  obtain ⟨a, vs, rfl, ha, hb, hh, h3⟩ := slo_ins w2 s2 hk
  have hd := dp_up e2 (sl_val s1)
  refine ⟨a, C, dx, vs, rfl, hh, c, n, by rw [at_len h3]; exact hz, ?_⟩
  have w3 := w2.write (c' := insC C dx (putD f d fs)) (o := .ins C dx (L2.putF f y vs)) ha hk hb ⟨hb, B2, _, Same.refl _, upd_same, _, rfl, at_put hd h3⟩
  exact (oo.nx.up (e1.trans e2) (p1.trans p2)).here w3 (envOk_up (e1.trans e2) (p1.trans p2) ev) hp

/-! ### properties, methods, classmethods -/
structure HasM (P : Program) (w : World) (K : Fg) (mg : Str → Option Value) (base : Heap) (k : Nat) (g : Addr) (sp : Sp) : Prop where
  ex : ∃ (fd : FuncData) (ps : List Str), FnOk P w K mg base CX0 k g fd ps sp ∧ Binds K fd ps []
/-- e.f, a property of an instance that is known for good -/
theorem de_prop {C p g : Addr} {j : Nat} {φ : List Sl → (Sl → Prop) → Prop} (M : HasM X.prog X.w X.K X.mg X.base j g (spS X.K φ)) (c : Cls X.K C) (hp : PropOf X.K C f p g) (hr : Room (j + 1) X.A)
    (h : DE X e δ ω fun r ω1 => ∃ fs, r = .kn (insK C fs) ∧ φ [r] fun s => s.free = true ∧ P s ω1) (hb : attributeBase e f X.env (eval e X.env) = eval e X.env := by rfl) : DE X (.Attribute e f pos) δ ω P := fun B F H as σ w ev Q oo => by
  obtain ⟨fd, ps, hf, hbd⟩ := M.ex
  refine ⟨_, pe_prop pe_w c hp hf hr hbd .nil pass0 hb, ?_⟩
  refine h B F H as σ w ev _ fun v B1 H1 as1 r ω1 e1 p1 w1 s1 ⟨fs, er, hφ⟩ => ?_
  subst er
  have hins := slk_ins s1
  obtain ⟨a, dx, vs, rfl, h2, h3⟩ := hins
  obtain ⟨F', wF, _, _, back⟩ := w1.frame
  refine ⟨a, dx, vs, rfl, w1.b _ _ h2, B1, F', _, _, wF, .cons (sl_free rfl s1) .nil, hφ, fun v B' H' r sb w' hs ⟨hrf, hp⟩ => ?_⟩
  exact oo v B' H' as1 r ω1 (e1.trans sb) p1 (back B' H' sb w') (sl_free hrf hs) hp
/-- C.m(..), a classmethod -/
theorem de_cmeth {C p g : Addr} {mc : Value} {m : Str} {j : Nat} {φ : List Sl → (Sl → Prop) → Prop} (M : HasM X.prog X.w X.K X.mg X.base j g (spS X.K φ)) (r : ClX.CRead X.K C mc) (c : ClX.CMet X.K C mc m p g) (hr : Room j X.A)
    (h : DE X o δ ω fun ro ω0 => ro = .kn (clsK C) ∧ DA X (e :: es) δ ω0 fun rs ω1 => rs.all Sl.free = true ∧ φ (.kn (clsK C) :: rs) fun s => s.free = true ∧ P s ω1) {pl : Sem Bool}
    (hst : starEach (e :: es) X.env = (false, eval e X.env) :: starEach es X.env := by rfl) (hpl : (backTo pos (starEach es X.env)).any (·.1) = false := by rfl)
    (ht : eval (.Call (.Attribute o m apos) (e :: es) [] pos) X.env = (do
      let ov ← eval o X.env
      standAt apos.atName
      let (f, first) ← holding [ov] (getMethod ov m pl)
      callWith pos f first (backTo pos (starEach (e :: es) X.env)) (backToKw pos (keywordEach [] X.env))) := by rfl) : DE X (.Call (.Attribute o m apos) (e :: es) [] pos) δ ω P := fun B F H as σ w ev Q oo => by
  obtain ⟨fd, ps, hf, hbd⟩ := M.ex
  refine ⟨_, ClX.pe_cmeth pe_w r c (hf.raw hbd .nil) hr pass0 pa_w hst hpl ht, ?_⟩
  refine h B F H as σ w ev _ fun v B0 H0 as0 ro ω0 e0 p0 w0 s0 ⟨er, h1⟩ => ?_
  subst er
  obtain ⟨v', B9, e9, sb9, hv⟩ := s0
  cases e9
  have hv' : v = .ref C := hv
  subst hv'
  refine ⟨rfl, ?_⟩
  refine h1 B0 F H0 as0 σ w0 (envOk_up e0 p0 ev) _ fun vs B1 H1 as1 rs ω1 e1 p1 w1 s1 ⟨hfr, hφ⟩ => ?_
  obtain ⟨F', wF, _, _, back⟩ := w1.frame
  refine ⟨B1, F', _, _, wF, by rw [List.append_nil]; exact .cons ⟨_, B1, rfl, Same.refl _, rfl⟩ (rs_free hfr s1), hφ, fun v B' H' r sb w' hs ⟨hrf, hp⟩ => ?_⟩
  exact oo v B' H' as1 r ω1 ((e0.trans e1).trans sb) (p0.trans p1) (back B' H' sb w') (sl_free hrf hs) hp
/-- a class by its name -/
theorem de_cls {C : Addr} {x : Str} (hg : Gl X x) (hm : X.mg x = some (.ref C)) (hp : P (.kn (clsK C)) ω) (hdb : (x == ("__debug__" : Str)) = false := by decide) : DE X (.Name x pos) δ ω P := fun B F H as σ w ev Q oo =>
  ⟨_, pe_glob (v := .ref C) hg hm rfl hdb, oo (.ref C) B H as (.kn (clsK C)) ω (Same.refl _) (List.prefix_refl _) w ⟨_, B, rfl, Same.refl _, rfl⟩ hp⟩

/-! ### an instance is made -/
/-- what __init__ promises: the dict and the instance are the cells 0 and 1 -/
def spI (K : Fg) (φ : List Sl → List Cell → PO1 → Prop) : Sp := spU K φ
theorem Wd.made {K : Fg} {B F H : Hp} (w : Wd K B F H [] []) {C x dx : Addr} (hx : H x = none) (hdx : H dx = none) (hne : dx ≠ x) : Wd K B F (upd (upd H dx (.own x)) x (.ins C dx [])) [dx, x] [ownC x, insC C dx []] := by
  have w1 : Wd K B F (upd H dx (.own x)) [dx] [ownC x] := w.own hdx fun hb => ⟨hb, upd_same⟩
  have hx1 : upd H dx (.own x) x = none := by rw [upd_ne (Ne.symm hne)]; exact hx
  exact w1.own hx1 fun hb => ⟨hb, B, _, Same.refl _, upd_same, [], rfl, .nil⟩
theorem made_end {K : Fg} {B F F' : Hp} {as : List Addr} {ω : List Cell} (back : ∀ B' H', Same B B' → Wd K B' F' H' [] [] → Wd K B' F H' as ω) {C x dx : Addr} {fs : List (Str × D)} {B' H' : Hp} (sb : Same B B') (w' : Wd K B' F' H' [dx, x] [ownC x, insC C dx fs]) :
    ∃ B2, Same B B2 ∧ Wd K B2 F H' as ω ∧ insK C fs K B2 (.ref x) := by
  obtain ⟨q1, q2⟩ := (w'.at' 0 dx (ownC x) rfl rfl).2.2
  obtain ⟨hb, B0, o, sb0, h3, vs, rfl, h4⟩ := (w'.at' 1 x (insC C dx fs) rfl rfl).2.2
  obtain ⟨w2, s2⟩ := w'.freezeG (k := 0) rfl q1 q2
  have hne : x ≠ dx := fun z => by
    have := w'.nd
    rw [z] at this
    simp at this
  obtain ⟨w3, s3⟩ := w2.freezeG (k := 1) (a := x) rfl (by rw [upd_ne hne]; exact hb) h3
  have s13 := s2.trans s3
  exact ⟨_, sb.trans s13, back _ H' (sb.trans s13) w3.drop, x, dx, vs, rfl, upd_same, at_up (sb0.trans s13) h4⟩
/-- C(..), known for good from then on; x names the class -/
theorem de_make {x : Str} {p : Pos} {C g : Addr} {j : Nat} {φ : List Sl → List Cell → PO1 → Prop} (M : HasM X.prog X.w X.K X.mg X.base j g (spU X.K φ)) (mk : Mk X.K C g) (hr : Room (j + 1) X.A) (hg : Gl X x) (hm : X.mg x = some (.ref C))
    (h : DA X (e :: es) δ ω fun rs ω1 => rs.all Sl.free = true ∧ ∀ y dx, φ (.own 1 :: rs) [ownC y, insC C dx []] fun r ω2 => r = .val .none ∧ ∃ fs, ω2 = [ownC y, insC C dx fs] ∧ P (.kn (insK C fs)) ω1)
    (hdb : (x == ("__debug__" : Str)) = false := by decide) (he : starEach (e :: es) X.env = (false, eval e X.env) :: starEach es X.env := by rfl) (hpl : (backTo pos (starEach es X.env)).any (·.1) = false := by rfl) : DE X (.Call (.Name x p) (e :: es) [] pos) δ ω P := fun B F H as σ w ev Q oo => by
  obtain ⟨fd, ps, hf, hbd⟩ := M.ex
  refine ⟨_, pe_make mk hf hr hg hm hbd .nil pass0 pa_w hdb he hpl, ?_⟩
  refine h B F H as σ w ev _ fun vs B1 H1 as1 rs ω1 e1 p1 w1 s1 ⟨hfr, hφ⟩ y dx hy hdx hne => ?_
  obtain ⟨F', wF, _, _, back⟩ := w1.frame
  refine ⟨B1, F', [dx, y], .own 1 :: rs, _, _, wF.made hy hdx hne, by rw [List.append_nil]; exact .cons ⟨y, rfl, rfl⟩ (rs_free hfr s1), hφ y dx, fun v B' H' as' r ω' sb pp w' hlv hs ⟨er, fs, eω, hp⟩ => ?_⟩
  subst er eω
  obtain ⟨t, ht⟩ := pp
  have hl := w'.len
  have et : t = [] := by
    rw [← ht] at hl
    simpa using hl
  subst et
  have ea : as' = [dx, y] := by rw [← ht]; rfl
  subst ea
  obtain ⟨B2, sb2, w2, hi⟩ := made_end back sb w'
  exact ⟨dp_non_inv (sl_val hs), oo (.ref y) B2 H' as1 _ ω1 (e1.trans sb2) p1 w2 (insK_slot hi) hp⟩
/-- cls(..), cls a name that holds the class -/
theorem de_makeV {x : Str} {p : Pos} {C g : Addr} {j : Nat} {φ : List Sl → List Cell → PO1 → Prop} (M : HasM X.prog X.w X.K X.mg X.base j g (spU X.K φ)) (mk : Mk X.K C g) (hr : Room (j + 1) X.A)
    (hx : DE X (.Name x p) δ ω fun r0 ω0 => r0 = .kn (clsK C) ∧ DA X (e :: es) δ ω0 fun rs ω1 => rs.all Sl.free = true ∧ ∀ y dx, φ (.own 1 :: rs) [ownC y, insC C dx []] fun r ω2 => r = .val .none ∧ ∃ fs, ω2 = [ownC y, insC C dx fs] ∧ P (.kn (insK C fs)) ω1)
    (he : starEach (e :: es) X.env = (false, eval e X.env) :: starEach es X.env := by rfl) (hpl : (backTo pos (starEach es X.env)).any (·.1) = false := by rfl) : DE X (.Call (.Name x p) (e :: es) [] pos) δ ω P := fun B F H as σ w ev Q oo => by
  obtain ⟨fd, ps, hf, hbd⟩ := M.ex
  refine ⟨fun σ H Q => wE X (.Name x p) σ H fun v H0 => v = .ref C ∧ tMake C (spU X.K φ) [] E0 (wA X (e :: es)) σ H0 Q, ⟨fun pins s σ H Q I hh => ?_⟩, ?_⟩
  · refine wpAny_Call_Name_kw (L2.thn (pe_w.run pins s σ H _ I hh) fun u s0 ⟨v, H0, I0, r0, ev0, q0⟩ => ?_)
    subst ev0
    obtain rfl : u = Value.ref C := r0
    refine PySem.W.callWith_K (h₀ := X.base) I0.ok.mod.kin mk.kp (L2.thn (pa_w.run pos pins s0 σ H0 _ I0 q0) fun us s1 ⟨vs, H1, I1, r1, q1⟩ => ⟨I1.kIn, ?_⟩) he hpl
    exact run_make mk hf hr hbd .nil pass0 I1 r1 q1
  · refine hx B F H as σ w ev _ fun v B0 H0 as0 r0 ω0 e0 p0 w0 s0 ⟨er0, h⟩ => ?_
    subst er0
    obtain ⟨v', B9, e9, sb9, hv⟩ := s0
    cases e9
    have hv' : v = .ref C := hv
    subst hv'
    refine ⟨rfl, ?_⟩
    refine h B0 F H0 as0 σ w0 (envOk_up e0 p0 ev) _ fun vs B1 H1 as1 rs ω1 e1 p1 w1 s1 ⟨hfr, hφ⟩ y dx hy hdx hne => ?_
    obtain ⟨F', wF, _, _, back⟩ := w1.frame
    refine ⟨B1, F', [dx, y], .own 1 :: rs, _, _, wF.made hy hdx hne, by rw [List.append_nil]; exact .cons ⟨y, rfl, rfl⟩ (rs_free hfr s1), hφ y dx, fun v B' H' as' r ω' sb pp w' hlv hs ⟨er, fs, eω, hp⟩ => ?_⟩
    subst er eω
    obtain ⟨t, ht⟩ := pp
    have hl := w'.len
    have et : t = [] := by
      rw [← ht] at hl
      simpa using hl
    subst et
    have ea : as' = [dx, y] := by rw [← ht]; rfl
    subst ea
    obtain ⟨B2, sb2, w2, hi⟩ := made_end back sb w'
    exact ⟨dp_non_inv (sl_val hs), oo (.ref y) B2 H' as1 _ ω1 ((e0.trans e1).trans sb2) (p0.trans p1) w2 (insK_slot hi) hp⟩

/-! ### repr -/
def rReprO (C : Addr) (sp : Sp) : List V → Hp → VK → Prop := fun xs H Q => ∃ a dx fs, xs = [V.ref a] ∧ H a = some (.ins C dx fs) ∧ sp [.ref a] H (fun z H' => ∃ y, z = .str y ∧ Q z H') E0
theorem call_reprO {C g : Addr} {j : Nat} {fd : FuncData} {ps : List Str} {sp : Sp} (hs : PySem.W.findIn X.K (.ref C) "__repr__" = some (some (.ref g))) (hf : PySem.W.isFn X.K (.ref g) = true) (F : FnOk X.prog X.w X.K X.mg X.base CX0 j g fd ps sp) (hb : Binds X.K fd ps []) (hr : Room (j + 1) X.A) :
    CallR X (.builtin "repr") (rReprO C sp) := by
  intro pins s σ H xs us Q I r h
  obtain ⟨a, dx, fs, rfl, ha, q⟩ := h
  obtain ⟨u, rfl, ru⟩ := vals1 r
  obtain rfl : u = Value.ref a := ru
  obtain ⟨mA, O, _⟩ := ins_get I.hok ha
  obtain ⟨od, J, _⟩ := O.look
  obtain ⟨m, hF⟩ := I.fr
  have hr1 : Room j X.A.in1 := hr.in1
  refine PySem.W.repr_K hr1.units0 hF I.ok.mod.kin J hs hf ?_
  have hl : ([Value.ref a] ++ ([] : List Value)).length = ps.length := by
    rw [← F.len _ _ _ _ q]
    rfl
  refine wpAny_call (codeAny_mono (F.run X.A.in1 X.stack s H ⟨[.ref a], []⟩ [.ref a] [.ref a] _ E0 hr1 I.env0.in1 (hb s [.ref a] I.kIn hl) (.cons rfl .nil) q) fun r s' hq => ?_)
  cases r with
  | error e => exact hq.elim
  | ok fl =>
    cases fl with
    | ret u =>
      obtain ⟨z, H', I', rz, y, ey, qz⟩ := I.after hq
      subst ey
      obtain ⟨t, e⟩ := (show ∃ t, u = Value.str y t from rz)
      cases e
      exact ⟨.str y, H', I', ⟨t, rfl⟩, qz⟩
    | next => exact False.elim hq
    | brk => exact False.elim hq
    | cont => exact False.elim hq
theorem de_reprO {x : Str} {p : Pos} {C g : Addr} {j : Nat} {φ : List Sl → (Sl → Prop) → Prop} (hs : PySem.W.findIn X.K (.ref C) "__repr__" = some (some (.ref g))) (hf : PySem.W.isFn X.K (.ref g) = true) (M : HasM X.prog X.w X.K X.mg X.base j g (spS X.K φ)) (hr : Room (j + 1) X.A)
    (hg : Gl X "repr") (hm : X.mg "repr" = none) (h : DE X e δ ω fun r ω1 => ∃ fs, r = .kn (insK C fs) ∧ φ [r] fun s => ∃ y, s = .val (.str y) ∧ P s ω1)
    (he : starEach [e] X.env = (false, eval e X.env) :: starEach [] X.env := by rfl) : DE X (.Call (.Name "repr" p) [e] [] pos) δ ω P := fun B F H as σ w ev Q oo => by
  obtain ⟨fd, ps, hfn, hbd⟩ := M.ex
  refine ⟨_, pe_callB (call_reprO hs hf hfn hbd hr) hg hm PyProof.Rows.boot_repr (pa_cons pe_w pa_nil he) (by decide) (by decide) he rfl, ?_⟩
  refine h B F H as σ w ev _ fun v B1 H1 as1 r ω1 e1 p1 w1 s1 ⟨fs, er, hφ⟩ => ?_
  subst er
  have hins := slk_ins s1
  obtain ⟨a, dx, vs, rfl, h2, h3⟩ := hins
  obtain ⟨F', wF, _, _, back⟩ := w1.frame
  refine ⟨a, dx, vs, rfl, w1.b _ _ h2, B1, F', _, _, wF, .cons (sl_free rfl s1) .nil, hφ, fun v B' H' r sb w' hs ⟨y, er, hp⟩ => ?_⟩
  subst er
  obtain rfl := dp_str_inv (sl_val hs)
  exact ⟨y, rfl, oo _ B' H' as1 _ ω1 (e1.trans sb) p1 (back B' H' sb w') (sl_free rfl hs) hp⟩
end
end
section
/-! iterators over what is owned, as long as it stays -/
def ItOkG (K : Fg) (J : It) (B : Hp) (as0 : List Addr) (G : List Cell → Prop) (its : List D) : Prop :=
  ∀ B' F H as ω, Same B B' → as0 <+: as → Wd K B' F H as ω → G ω → (∀ i d, its[i]? = some d → J.go i H ∧ ∀ x H', J.yld i H x H' → ∃ B2, Same B' B2 ∧ Wd K B2 F H' as ω ∧ Dp K B2 x d) ∧ J.stop its.length H
def DIG (X : Cx) (tg iter : Expr) (δ : List Sl) (ω : List Cell) (P : (List Cell → Prop) → List D → List Cell → Prop) : Prop :=
  ∀ B F H as σ, Wd X.K B F H as ω → EnvOk X.K B as σ δ → ∀ R : It → Hp → Prop,
    (∀ J G its B' H' as' ω', Same B B' → as <+: as' → Wd X.K B' F H' as' ω' → ItOkG X.K J B' as' G its → P G its ω' → R J H') → wI X tg iter σ H R
section
variable {X : Cx} {e a b c tg iter elt : Expr} {es ifs : List Expr} {δ : List Sl} {ω : List Cell} {P : PO1} {pos : Pos} {scope : Scope} {own : List (Str × Nat)}
theorem lc_readG {vs : List Nat} (h : DIG X tg iter δ ω fun G its ω1 => its.length ≤ 100000 ∧ ∃ Iv : Nat → List D → List Cell → Prop, (∀ i acc ω', Iv i acc ω' → G ω') ∧ Iv 0 [] ω1 ∧ LcTurn X scope vs tg ifs elt δ its Iv ∧ ∀ acc ω', acc.length ≤ its.length → Iv its.length acc ω' → P (.val (.list acc)) ω' ∨ P (.own ω'.length) (ω' ++ [.lst acc]))
    {B F H : Hp} {as : List Addr} {σ : L2.St} (w : Wd X.K B F H as ω) (ev : EnvOk X.K B as σ δ) (Q : VK) (o : Out X.K B F as P Q) :
    tLc (wI X tg iter) (fun v σ H Q => Blk X scope fun Y => wG Y tg v σ H Q) (fun σ H Q => Blk X scope fun Y => wTs Y ifs σ H Q) (fun σ H Q => Blk X scope fun Y => wE Y elt σ H Q) vs σ H Q := by
  refine h B F H as σ w ev _ fun J G its B1 H1 as1 ω1 e1 p1 w1 hit ⟨hlen, Iv, hG, h0, ht, hd⟩ => ?_
  intro Dl hD
  have hF : F Dl = none := w1.freeF hD
  refine ⟨fun i m H' => m = its.length - i ∧ i ≤ its.length ∧ ∃ B' as' acc accV ω', Same B1 B' ∧ as1 <+: as' ∧ Wd X.K B' (upd F Dl (.lst accV)) H' as' ω' ∧ DpAll X.K B' accV acc ∧ acc.length ≤ i ∧ Iv i acc ω',
    ⟨its.length, by omega, Nat.zero_le _, B1, as1, [], [], ω1, Same.refl _, List.prefix_refl _, w1.hide hD, .nil, Nat.zero_le _, h0⟩, fun i m H' hW => ?_⟩
  obtain ⟨rfl, hi, B', as', acc, accV, ω', e2, p2, w2, hacc, hal, hI⟩ := hW
  by_cases hlt : i < its.length
  · obtain ⟨hgo, hy⟩ := (hit B' _ H' as' ω' e2 p2 w2 (hG _ _ _ hI)).1 i its[i] (List.getElem?_eq_getElem hlt)
    refine .inr ⟨hgo, fun H3 => ∃ B' as' acc accV ω', Same B1 B' ∧ as1 <+: as' ∧ Wd X.K B' (upd F Dl (.lst accV)) H3 as' ω' ∧ DpAll X.K B' accV acc ∧ acc.length ≤ i + 1 ∧ Iv (i + 1) acc ω', fun H3 q => ⟨its.length - (i + 1), by omega, rfl, hlt, q⟩, fun x H3 q => ?_⟩
    obtain ⟨B2, e3, w3, d3⟩ := hy x H3 q
    have ev3 : EnvOk X.K B2 as' (wipe σ vs) (wipeD δ vs) := envOk_wipe (envOk_up ((e1.trans e2).trans e3) (p1.trans p2) ev) vs
    intro s H0 C cl fp
    refine ht i its[i] acc ω' (List.getElem?_eq_getElem hlt) hI s H0 C cl fp B2 H3 as' (wipe σ vs) x w3.b ev3 d3 _ fun σ4 δ4 ev4 hl4 ha4 hb => ?_
    have hwipe : wipe σ4 vs = wipe σ vs := by
      refine wipe_eq (by rw [hl4, wipe_length]) fun j hj => ?_
      rw [ha4 j hj, wipe_get hj]
    refine ⟨hwipe, ?_⟩
    intro s H0 C cl fp
    refine dts_run (hb s H0 C cl fp) w3 ev4 _ fun bb B5 H5 as5 ω5 e5 p5 w5 hq => ?_
    cases bb with
    | true =>
      refine iteT ?_
      intro s H0 C cl fp
      refine hq s H0 C cl fp B5 _ H5 as5 σ4 w5 (envOk_up e5 p5 ev4) _ fun y B6 H6 as6 r ω6 e6 p6 w6 s6 ⟨dy, er, hI6⟩ => ?_
      subst er
      refine ⟨accV, (w6.f Dl _ upd_same).1, ?_, B6, as6, acc ++ [dy], accV ++ [y], ω6, ((e2.trans e3).trans e5).trans e6, (p2.trans p5).trans p6, w6.rehide, dpAll_app (dpAll_up ((e3.trans e5).trans e6) hacc) (.cons (sl_val s6) .nil), by rw [List.length_append]; exact Nat.succ_le_succ hal, hI6⟩
      rw [dpAll_len hacc]
      exact Nat.lt_of_le_of_lt (Nat.le_trans hal (Nat.le_trans hi hlen)) (by decide)
    | false =>
      exact iteF ⟨B5, as5, acc, accV, ω5, (e2.trans e3).trans e5, p2.trans p5, w5, dpAll_up (e3.trans e5) hacc, Nat.le_succ_of_le hal, hq⟩
  · have ei : i = its.length := by omega
    subst ei
    refine .inl ⟨(hit B' _ H' as' ω' e2 p2 w2 (hG _ _ _ hI)).2, ?_⟩
    rcases hd acc ω' hal hI with hp | hp
    · obtain ⟨w3, s3⟩ := w2.show hF
      exact o _ _ H' as' _ ω' ((e1.trans e2).trans s3) (p1.trans p2) w3 (slv (.lst (.inl (.inl upd_same)) (dpAll_up s3 hacc))) hp
    · refine o _ B' H' _ _ _ (e1.trans e2) ((p1.trans p2).trans (List.prefix_append _ _)) (w2.toOwn hF hacc) (slo ?_) hp
      rw [← w2.len, List.getElem?_append_right (Nat.le_refl _), Nat.sub_self]
      rfl
theorem de_lcG (hc : X.calm = true) (hN : X.N.Nodup) (ok : BlkOk X.N X.env.scope scope own)
    (h : DIG X tg iter δ ω fun G its ω1 => its.length ≤ 100000 ∧ ∃ Iv : Nat → List D → List Cell → Prop, (∀ i acc ω', Iv i acc ω' → G ω') ∧ Iv 0 [] ω1 ∧ LcTurn X scope (own.map (·.2)) tg ifs elt δ its Iv ∧ ∀ acc ω', acc.length ≤ its.length → Iv its.length acc ω' → P (.val (.list acc)) ω' ∨ P (.own ω'.length) (ω' ++ [.lst acc]))
    (hs : ∀ x, foldedSetIterable iter X.env x = pure x := by intro _; rfl) : DE X (.ListComp elt [⟨tg, iter, ifs, 0⟩] scope pos) δ ω P := fun B F H as σ w ev Q o =>
  ⟨_, pe_lc hc hN pi_w ok (fun s H0 C cl fp => ⟨fun pins s1 σ1 H1 v u Q1 I r hw => by obtain ⟨_, p, q⟩ := hw s H0 C cl fp; exact p.run pins s1 σ1 H1 v u Q1 I r q⟩)
    (fun s H0 C cl fp => ⟨fun pins s1 σ1 H1 Q1 I hw => by obtain ⟨_, p, q⟩ := hw s H0 C cl fp; exact p.run pins s1 σ1 H1 Q1 I q⟩)
    (fun s H0 C cl fp => ⟨fun pins s1 σ1 H1 Q1 I hw => by obtain ⟨_, p, q⟩ := hw s H0 C cl fp; exact p.run pins s1 σ1 H1 Q1 I q⟩) hs, lc_readG h w ev Q o⟩
theorem d1_asgLcG {k : Kd} {i : Nat} {y : Str} {py spos : Pos} (hc : X.calm = true) (hN : X.N.Nodup) (hy : X.N[i]? = some y) (hyl : X.env.scope.names.lookup y = some .local) (hsw : swapsWith (.ListComp elt [⟨tg, iter, ifs, 0⟩] scope pos) (some (.Name y py)) spos.line X.env = pure true) (ok : BlkOk X.N X.env.scope scope own)
    (h : DIG X tg iter δ ω fun G its ω1 => its.length ≤ 100000 ∧ ∃ Iv : Nat → List D → List Cell → Prop, (∀ i acc ω', Iv i acc ω' → G ω') ∧ Iv 0 [] ω1 ∧ LcTurn X scope (own.map (·.2)) tg ifs elt δ its Iv ∧ ∀ acc ω', acc.length ≤ its.length → Iv its.length acc ω' → k.nx (δ.set i (.val (.list acc))) ω' ∨ k.nx (δ.set i (.own ω'.length)) (ω' ++ [.lst acc]))
    (hs : ∀ x, foldedSetIterable iter X.env x = pure x := by intro _; rfl) : D1 X (.Assign [.Name y py] (.ListComp elt [⟨tg, iter, ifs, 0⟩] scope pos) spos) δ ω k := fun B F H as σ w ev E o =>
  ⟨_, ps_setLc hc hN hy hyl hsw pi_w ok (fun s H0 C cl fp => ⟨fun pins s1 σ1 H1 v u Q1 I r hw => by obtain ⟨_, p, q⟩ := hw s H0 C cl fp; exact p.run pins s1 σ1 H1 v u Q1 I r q⟩)
    (fun s H0 C cl fp => ⟨fun pins s1 σ1 H1 Q1 I hw => by obtain ⟨_, p, q⟩ := hw s H0 C cl fp; exact p.run pins s1 σ1 H1 Q1 I q⟩)
    (fun s H0 C cl fp => ⟨fun pins s1 σ1 H1 Q1 I hw => by obtain ⟨_, p, q⟩ := hw s H0 C cl fp; exact p.run pins s1 σ1 H1 Q1 I q⟩) hs,
    lc_readG (P := fun r ω1 => k.nx (δ.set i r) ω1) h w ev _ fun v B1 H1 as1 r ω1 e1 p1 w1 s1 hp => (o.nx.up e1 p1).here w1 (envOk_set s1 i (envOk_up e1 p1 ev)) hp⟩

/-! ### promises at the level of data -/
end
section
variable {X : Cx} {e a b c tg iter elt : Expr} {body : List Stmt} {es ifs : List Expr} {δ : List Sl} {ω : List Cell} {k : Kd} {pos : Pos}
theorem d1_forG (hp : PassesOwn (model X.prog X.w) X.A X.env X.xe) (hc : X.calm = true)
    (h : DIG X tg iter δ ω fun G its ω1 => ∃ Iv : Nat → List Sl → List Cell → Prop, (∀ i δ' ω', Iv i δ' ω' → G ω') ∧ Iv 0 δ ω1 ∧
      (∀ i d δ' ω', its[i]? = some d → Iv i δ' ω' → DG X (List.range δ'.length) tg d δ' fun δ2 => DS X body δ2 ω' { nx := Iv (i + 1), ct := Iv (i + 1), bk := k.nx, rt := k.rt }) ∧ ∀ δ' ω', Iv its.length δ' ω' → k.nx δ' ω')
    (hs : ∀ x, foldedSetIterable iter X.env x = pure x := by intro _; rfl) : D1 X (.For tg iter body [] pos) δ ω k := fun B F H as σ w ev E o => by
  refine ⟨_, ps_for hp hc pi_w pg_w pss_w hs, ?_⟩
  refine h B F H as σ w ev _ fun J G its B1 H1 as1 ω1 e1 p1 w1 hit ⟨Iv, hG, h0, ht, hd⟩ => ?_
  refine ⟨fun i m σ' H' => m = its.length - i ∧ i ≤ its.length ∧ ∃ B' as' δ' ω', Same B1 B' ∧ as1 <+: as' ∧ Wd X.K B' F H' as' ω' ∧ EnvOk X.K B' as' σ' δ' ∧ Iv i δ' ω',
    ⟨its.length, by omega, Nat.zero_le _, B1, as1, δ, ω1, Same.refl _, List.prefix_refl _, w1, envOk_up e1 p1 ev, h0⟩, fun i m σ' H' hW => ?_⟩
  obtain ⟨rfl, hi, B', as', δ', ω', e2, p2, w2, ev2, hI⟩ := hW
  by_cases hlt : i < its.length
  · obtain ⟨hgo, hy⟩ := (hit B' F H' as' ω' e2 p2 w2 (hG _ _ _ hI)).1 i its[i] (List.getElem?_eq_getElem hlt)
    refine .inr ⟨hgo, fun σ3 H3 => ∃ B' as' δ' ω', Same B1 B' ∧ as1 <+: as' ∧ Wd X.K B' F H3 as' ω' ∧ EnvOk X.K B' as' σ3 δ' ∧ Iv (i + 1) δ' ω', fun σ3 H3 q => ⟨its.length - (i + 1), by omega, rfl, hlt, q⟩, fun x H3 q => ?_⟩
    obtain ⟨B2, e3, w3, d3⟩ := hy x H3 q
    refine ht i its[i] δ' ω' (List.getElem?_eq_getElem hlt) hI B2 H3 as' σ' x w3.b (envOk_up e3 (List.prefix_refl _) ev2) d3 _ fun σ4 δ4 ev4 _ _ hb => ?_
    refine hb B2 F H3 as' σ4 w3 ev4 _ ⟨fun σ5 H5 B5 as5 δ5 ω5 e5 p5 w5 ev5 q5 => ?_, ?_, fun σ5 H5 B5 as5 δ5 ω5 e5 p5 w5 ev5 q5 => ?_, ?_⟩
    · exact ⟨B5, as5, δ5, ω5, (e2.trans e3).trans e5, p2.trans p5, w5, ev5, q5⟩
    · exact o.nx.up (((e1.trans e2).trans e3)) (p1.trans p2)
    · exact ⟨B5, as5, δ5, ω5, (e2.trans e3).trans e5, p2.trans p5, w5, ev5, q5⟩
    · exact o.rt.up (((e1.trans e2).trans e3)) (p1.trans p2)
  · have ei : i = its.length := by omega
    subst ei
    exact .inl ⟨(hit B' F H' as' ω' e2 p2 w2 (hG _ _ _ hI)).2, (o.nx.up (e1.trans e2) (p1.trans p2)).here w2 ev2 (hd δ' ω' hI)⟩

/-- for x in xs, xs an owned list that stays -/
theorem dig_own {P : (List Cell → Prop) → List D → List Cell → Prop} (h : DE X e δ ω fun r ω1 => ∃ kx ds, r = .own kx ∧ ω1[kx]? = some (.lst ds) ∧ P (fun ω' => ω'[kx]? = some (.lst ds)) ds ω1) : DIG X tg e δ ω P := fun B F H as σ w ev R o => by
  refine ⟨_, pi_list pe_w, ?_⟩
  refine h B F H as σ w ev _ fun v B1 H1 as1 r ω1 e1 p1 w1 s1 ⟨kx, ds, er, hk, hp⟩ => ?_
  subst er
  obtain ⟨a, xs, rfl, ha, h1, h2⟩ := slo_lst w1 s1 hk
  refine ⟨a, rfl, ⟨xs, SqL.of h1⟩, o _ _ ds B1 H1 as1 ω1 e1 p1 w1 (fun B' F H as ω sb pp w' hG => ?_) hp⟩
  obtain ⟨hb, ys, h3, h4⟩ := w'.cellL (pre_get pp ha) hG
  refine ⟨fun i d hd => ?_, ⟨ys, SqL.of h3, ?_⟩⟩
  · obtain ⟨x, e2, d2⟩ := dpAll_at h4 hd
    refine ⟨⟨ys, x, SqL.of h3, e2⟩, fun y H' q => ?_⟩
    obtain ⟨rfl, q⟩ := q
    have := q ys (SqL.of h3)
    rw [e2] at this
    cases this
    exact ⟨B', Same.refl _, w', d2⟩
  · rw [dpAll_len h4]
    exact Nat.le_refl _
theorem dig_en {p pos tp : Pos} {es : List Expr} {kk : Nat} {P : (List Cell → Prop) → List D → List Cell → Prop} (hg : Gl X "enumerate") (hm : X.mg "enumerate" = none) (h : DE X e δ ω fun r ω1 => ∃ kx ds, r = .own kx ∧ ω1[kx]? = some (.lst ds) ∧ P (fun ω' => ω'[kx]? = some (.lst ds)) (enD ds) ω1)
    (hs : starEach [e] X.env = [(false, eval e X.env)] := by rfl) : DIG X (.Tuple es kk tp) (.Call (.Name "enumerate" p) [e] [] pos) δ ω P := fun B F H as σ w ev R o => by
  refine ⟨_, pi_enum hg hm (pa_cons pe_w pa_nil hs) hs, ?_⟩
  refine h B F H as σ w ev _ fun v B1 H1 as1 r ω1 e1 p1 w1 s1 ⟨kx, ds, er, hk, hp⟩ => ?_
  subst er
  obtain ⟨a, xs, rfl, ha, h1, h2⟩ := slo_lst w1 s1 hk
  refine ⟨a, xs, rfl, SqL.of h1, o _ _ (enD ds) B1 H1 as1 ω1 e1 p1 w1 (fun B' F H as ω sb pp w' hG => ?_) hp⟩
  obtain ⟨hb, ys, h3, h4⟩ := w'.cellL (pre_get pp ha) hG
  refine ⟨fun i d hd => ?_, ⟨ys, SqL.of h3, ?_⟩⟩
  · obtain ⟨g, hg2, rfl⟩ := enD_at hd
    obtain ⟨x, e2, d2⟩ := dpAll_at h4 hg2
    refine ⟨⟨ys, x, SqL.of h3, e2⟩, fun y H' q => ?_⟩
    obtain ⟨T, z, rfl, hT, rfl, q⟩ := q
    have := q ys (SqL.of h3)
    rw [e2] at this
    cases this
    obtain ⟨w2, s2⟩ := w'.new (o := .tup [.int (i : Nat), x]) hT
    exact ⟨_, s2, w2, .tup (.inl (.inl upd_same)) (.cons (.int _) (.cons (dp_up s2 d2) .nil))⟩
  · rw [enD_len, dpAll_len h4]
    exact Nat.le_refl _
end
end
section
/-! zip of two sequences, lists or tuples each -/
/-- b: a list; else a tuple -/
def SqK (b : Bool) (K : Fg) (H : Hp) (a : Addr) (xs : List V) : Prop := match b with
  | true => SqL K H a xs
  | false => SqT K H a xs
def ItA (b : Bool) (h : Heap) (it l : Addr) (i : Nat) : Prop := match b with
  | true => h.IsListIter it l i
  | false => h.IsTupleIter it l i
def HsA (b : Bool) (h : Heap) (l : Addr) (xs : Array Value) : Prop := match b with
  | true => h.IsList l xs
  | false => h.IsTuple l xs
def obA (b : Bool) (l : Addr) : Obj := match b with
  | true => { cls := .type "list_iterator", data := .fields #[.ref l, .int 0 0] }
  | false => { cls := .type "tuple_iterator", data := .fields #[.ref l, .int 0 0] }
theorem drawsA {prog : Program} {w : World} {A : Around} (b : Bool) (hh : A.handled = none) (it l : Addr) (hne : l ≠ it) (items : Array Value) : Draws prog w A it [it, l] items.size (fun i v => items[i]? = some v) (fun i h => ItA b h it l i ∧ HsA b h l items) := by
  cases b
  · exact Draws.tuple hh it l hne items
  · exact Draws.list hh it l hne items
theorem beginsA (b : Bool) (l : Addr) (items : Array Value) : Begins (.ref l) (obA b l) fun h => HsA b h l items := by
  cases b
  · exact begins_tuple l items
  · exact begins_list l items
theorem itA_new {b : Bool} {h : Heap} {it l : Addr} (e : h.get? it = some (obA b l)) : ItA b h it l 0 := by
  cases b
  · exact ⟨_, e, rfl, rfl⟩
  · exact ⟨_, e, rfl, rfl⟩
theorem itA_ob {b : Bool} {h : Heap} {it l : Addr} {i : Nat} (e : ItA b h it l i) : ∃ o, h.get? it = some o ∧ ∀ v, o.data ≠ .cell v := by
  cases b
  · obtain ⟨o, ho, _, hd⟩ := e
    exact ⟨o, ho, fun v q => by rw [hd] at q; cases q⟩
  · obtain ⟨o, ho, _, hd⟩ := e
    exact ⟨o, ho, fun v q => by rw [hd] at q; cases q⟩
theorem itA_at {b : Bool} {h h' : Heap} {it l : Addr} {i : Nat} (e : ItA b h it l i) (k : ∀ o, h.get? it = some o → h'.get? it = some o) : ItA b h' it l i := by
  cases b
  · exact Heap.IsTupleIter.at e k
  · exact Heap.IsListIter.at e k
section
variable {X : Cx} {pins : List (Addr × Obj)} {σ : L2.St} {H : Hp} {s : Shared}
theorem seqA {b : Bool} {a : Addr} {xs : List V} (I : Inv X pins σ H s) (h : SqK b X.K H a xs) : ∃ its : List Value, Vals xs its ∧ HsA b s.heap a its.toArray ∧ a < s.heap.objs.size := by
  cases b
  · obtain ⟨its, rv, p, _⟩ := I.tuple h
    obtain ⟨o, ho, _⟩ := id p
    exact ⟨its, rv, p, Heap.lt_size ho⟩
  · obtain ⟨its, rv, p, _⟩ := I.list h
    exact ⟨its, rv, p.isList, p.lt⟩
theorem seqA_inj {b : Bool} {a : Addr} {xs ys : List V} (I : Inv X pins σ H s) (h : SqK b X.K H a xs) (h' : SqK b X.K H a ys) : xs = ys := by
  cases b
  · exact I.tuple_inj h h'
  · exact I.list_inj h h'
end
/-- the sequences at a and b as they stand at each turn, their items in new pairs -/
def ItzX (b1 b2 : Bool) (K : Fg) (a b : Addr) : It :=
  ⟨fun i H => ∃ (xs ys : List V) (x y : V), SqK b1 K H a xs ∧ SqK b2 K H b ys ∧ xs[i]? = some x ∧ ys[i]? = some y,
    fun i H v H' => ∃ (p : Addr) (x y : V), v = .ref p ∧ H p = none ∧ H' = upd H p (.tup [x, y]) ∧ (∀ xs, SqK b1 K H a xs → xs[i]? = some x) ∧ ∀ ys, SqK b2 K H b ys → ys[i]? = some y,
    fun i H => ∃ xs ys : List V, SqK b1 K H a xs ∧ SqK b2 K H b ys ∧ i ≤ xs.length ∧ i ≤ ys.length ∧ (i = xs.length ∨ i = ys.length)⟩
theorem five {z T O i j c : Addr} (h : c ∈ [z, T, O, i, j]) : c = z ∨ c = T ∨ c = O ∨ c = i ∨ c = j := by simpa using h
theorem turn_zipX {P : Program} {w : World} {K : Fg} {es : List Expr} {kk : Nat} {tp : Pos} {b1 b2 : Bool} {a b z T O i1 i2 : Addr} (S : ZipSep2 z T O i1 i2 [i1, a] [i2, b]) (n1 : a ≠ i1) (n2 : b ≠ i2) :
    Turn P w K (.Tuple es kk tp) (ItzX b1 b2 K a b) [z, T, O, i1, i2] z (fun i h => IsZip h z T O .none ∧ IsTupOf2 h T (.ref i1) (.ref i2) ∧ (∃ x y, IsTupOf2 h O x y) ∧ ItA b1 h i1 a i ∧ ItA b2 h i2 b i) := by
  refine ⟨by simp, fun i h st c hc => ?_, fun i h h' st k => ?_, ?_, ?_, fun A i s Q E st h => wpAny_pyIter_zip st.1 h⟩
  · obtain ⟨hz, hT, ⟨x, y, hO⟩, d1, d2⟩ := st
    rcases five hc with q | q | q | q | q <;> subst q
    · exact ⟨_, hz, fun v q => by cases q⟩
    · exact ⟨_, hT, fun v q => by cases q⟩
    · exact ⟨_, hO, fun v q => by cases q⟩
    · exact itA_ob d1
    · exact itA_ob d2
  · obtain ⟨hz, hT, ⟨x, y, hO⟩, d1, d2⟩ := st
    exact ⟨k z (by simp) _ hz, k T (by simp) _ hT, ⟨x, y, k O (by simp) _ hO⟩, itA_at d1 fun o q => k i1 (by simp) o q, itA_at d2 fun o q => k i2 (by simp) o q⟩
  · intro X hP hw hK hc i pins s σ H E I hf st hg
    subst hP hw hK
    obtain ⟨hz, hT, ⟨x0, y0, hO⟩, d1, d2⟩ := st
    obtain ⟨xs, ys, x, y, hqx, hqy, hx, hy⟩ := hg
    obtain ⟨its, rv, p, _⟩ := seqA I hqx
    obtain ⟨jts, rw', q, _⟩ := seqA I hqy
    obtain ⟨u, hu, ru⟩ := rv.get hx
    obtain ⟨v, hv, rv'⟩ := rw'.get hy
    have hzl : z < s.heap.objs.size := Heap.lt_size hz
    have D1 := drawsA (prog := X.prog) (w := X.w) (A := X.A.in1) b1 (I.ok.hd hc) i1 a n1 its.toArray
    have D2 := drawsA (prog := X.prog) (w := X.w) (A := X.A.in1) b2 (I.ok.hd hc) i2 b n2 jts.toArray
    have l1 : i < its.toArray.size := by rw [List.size_toArray]; exact (List.getElem?_eq_some_iff.mp hu).1
    have l2 : i < jts.toArray.size := by rw [List.size_toArray]; exact (List.getElem?_eq_some_iff.mp hv).1
    refine wpAny_pyNext_zipD2_item S D1 D2 hz hT hO ⟨d1, p⟩ ⟨d2, q⟩ l1 l2 fun x1 x2 h' tk e1 e2 z' O' s1 s2 hN hsz hk => ?_
    have ex : x1 = u := by
      rw [List.getElem?_toArray, hu] at e1
      exact (Option.some.inj e1).symm
    have ey : x2 = v := by
      rw [List.getElem?_toArray, hv] at e2
      exact (Option.some.inj e2).symm
    subst ex ey
    refine ⟨_, rfl, wpAny_letOwnedTupleGo_zip (s := { s with heap := h', toks := tk }) z' fun h2 z2 sb => ?_⟩
    have hN2 := (sb.2 _ (Nat.ne_of_gt hzl)).trans hN
    have new : ObjOk X.prog X.w (upd H s.heap.objs.size (.tup [x, y])) h2 s.heap.objs.size (.tup [x, y]) := ⟨by show 2 ≤ sizeLine; decide, [x1, x2], .cons ru (.cons rv' .nil), ⟨_, hN2, rfl, _, rfl⟩⟩
    have I1 : Inv X pins σ (upd H s.heap.objs.size (.tup [x, y])) { s with heap := h2, toks := tk } :=
      I.turnedNew (ch := [z, T, O, i1, i2]) (fun c ob hb e => (sb.2 c fun y => hb (by rw [y]; simp)).trans (hk c ob (fun y => hb (by rw [y]; simp)) (fun y => hb (by rw [y]; simp)) (fun y => hb (by rw [y]; simp)) (fun y => hb (by rw [y]; simp)) e)) hf (Nat.le_refl _) new
    refine ⟨.ref s.heap.objs.size, _, I1, rfl, ⟨_, x, y, rfl, I.hok.fresh (Nat.le_refl _), rfl, fun l hl => by rw [seqA_inj I hl hqx]; exact hx, fun l hl => by rw [seqA_inj I hl hqy]; exact hy⟩, ⟨z2, ?_, ⟨x1, x2, ?_⟩, ?_, ?_⟩, fun c hcm => ?_⟩
    · exact (sb.2 _ S.TIz).trans (hk _ _ S.TIz S.TITO S.TIi1 S.TIi2 hT)
    · exact (sb.2 _ S.TOz).trans O'
    · exact itA_at s1.1 fun o e => (sb.2 _ S.zi1.symm).trans e
    · exact itA_at s2.1 fun o e => (sb.2 _ S.zi2.symm).trans e
    · have hlt : c < s.heap.objs.size := by
        rcases five hcm with e | e | e | e | e <;> subst e
        · exact hzl
        · exact Heap.lt_size hT
        · exact Heap.lt_size hO
        · obtain ⟨o, e1, _⟩ := itA_ob d1
          exact Heap.lt_size e1
        · obtain ⟨o, e1, _⟩ := itA_ob d2
          exact Heap.lt_size e1
      rw [upd_ne (Nat.ne_of_lt hlt)]
      exact (hf c hcm).1
  · intro X hP hw hK hc i pins s σ H E I hf st hg
    subst hP hw hK
    obtain ⟨hz, hT, ⟨x0, y0, hO⟩, d1, d2⟩ := st
    obtain ⟨xs, ys, hqx, hqy, le1, le2, hend⟩ := hg
    obtain ⟨its, rv, p, _⟩ := seqA I hqx
    obtain ⟨jts, rw', q, _⟩ := seqA I hqy
    have D1 := drawsA (prog := X.prog) (w := X.w) (A := X.A.in1) b1 (I.ok.hd hc) i1 a n1 its.toArray
    have D2 := drawsA (prog := X.prog) (w := X.w) (A := X.A.in1) b2 (I.ok.hd hc) i2 b n2 jts.toArray
    have g1 := rv.length
    have g2 := rw'.length
    refine wpAny_pyNext_zipD2_end S D1 D2 hz hT hO ⟨d1, p⟩ ⟨d2, q⟩ (by rw [List.size_toArray, ← g1]; exact le1) (by rw [List.size_toArray, ← g2]; exact le2) (by rw [List.size_toArray, List.size_toArray, ← g1, ← g2]; exact hend) fun h' tk hk => ?_
    exact ⟨rfl, I.turnedL (t' := tk) (ch := [z, T, O, i1, i2]) (fun c ob hb e => hk c ob (fun y => hb (by rw [y]; simp)) (fun y => hb (by rw [y]; simp)) (fun y => hb (by rw [y]; simp)) (fun y => hb (by rw [y]; simp)) e) hf⟩
theorem sep5 (N a b : Nat) (ha : a < N) (hb : b < N) : ZipSep2 (N + 4) (N + 2) (N + 3) N (N + 1) [N, a] [N + 1, b] := by
  have m2 : ∀ {x y c : Nat}, c ≠ x → c ≠ y → c ∉ [x, y] := fun h1 h2 h => by
    simp only [List.mem_cons, List.not_mem_nil, or_false] at h
    exact h.elim h1 h2
  exact ⟨Nat.ne_of_lt (by omega), Nat.ne_of_lt (by omega), Nat.ne_of_lt (by omega), Nat.ne_of_gt (by omega), List.mem_cons_self, m2 (by omega) (by omega), m2 (by omega) (by omega), Nat.ne_of_gt (by omega), List.mem_cons_self, m2 (by omega) (by omega), m2 (by omega) (by omega), m2 (by omega) (by omega), m2 (by omega) (by omega)⟩
def iZipX (K : Fg) (ta : TA) : TI := fun σ H R => ta σ H fun vs H1 => ∃ b1 b2 a b xs ys, vs = [.ref a, .ref b] ∧ SqK b1 K H1 a xs ∧ SqK b2 K H1 b ys ∧ R (ItzX b1 b2 K a b) H1
theorem pi_zipX {X : Cx} {e e2 : Expr} {ta : TA} {p pos tp : Pos} {es : List Expr} {kk : Nat} (hg : Gl X "zip") (hm : X.mg "zip" = none) (ha : PA X [e, e2] ta)
    (hs : starEach [e, e2] X.env = (false, eval e X.env) :: starEach [e2] X.env := by rfl) (hpl : (backTo pos (starEach [e2] X.env)).any (·.1) = false := by rfl) : PI X (.Tuple es kk tp) (.Call (.Name "zip" p) [e, e2] [] pos) (iZipX X.K ta) := by
  refine ⟨fun pins s σ H R I h => ?_⟩
  refine Call_ (ld_blt I hg hm PyProof.Rows.boot_zip (PyProof.Rows.callWith_type1 (thn (ha.run pos pins s σ H _ I h) fun us s1 ⟨vs, H1, I1, r1, b1, b2, a, b, xs, ys, ex, hqx, hqy, q⟩ => ?_) hs hpl))
  subst ex
  cases r1 with
  | cons r r2 =>
    cases r2 with
    | cons r' r3 =>
      cases r3
      cases r
      cases r'
      obtain ⟨its, rv, p1, la⟩ := seqA I1 hqx
      obtain ⟨jts, rw', p2, lb⟩ := seqA I1 hqy
      refine zip_begins2 (beginsA b1 a its.toArray) (beginsA b2 b jts.toArray) p1 p2 fun h' hz hT hO h1 h2 hsz hk => wpAny_pyIter_zip hz ?_
      have I2 : Inv X pins σ H1 { s1 with heap := h' } := I1.kept (t' := s1.toks) hk
      have sep := sep5 s1.heap.objs.size a b la lb
      refine ⟨s1.heap.objs.size + 4, [s1.heap.objs.size + 4, s1.heap.objs.size + 2, s1.heap.objs.size + 3, s1.heap.objs.size, s1.heap.objs.size + 1], _, _, H1, rfl, I2, turn_zipX sep (Nat.ne_of_lt la) (Nat.ne_of_lt (Nat.lt_succ_of_lt lb)), ⟨hz, hT, ⟨_, _, hO⟩, itA_new h1, itA_new h2⟩, fun c hcm => ?_, q⟩
      have hle : s1.heap.objs.size ≤ c := by
        rcases five hcm with y | y | y | y | y <;> subst y
        · exact Nat.le_add_right _ _
        · exact Nat.le_add_right _ _
        · exact Nat.le_add_right _ _
        · exact Nat.le_refl _
        · exact Nat.le_add_right _ _
      exact I1.fpOk hle (I1.hok.fresh hle)
end
section
/-! containers of things that are known for good -/
def tupK (rs : List Sl) : Fg → Hp → V → Prop := fun K B v => ∃ a xs, v = .ref a ∧ SqT K B a xs ∧ RsOk K B [] xs rs
def lstK (rs : List Sl) : Fg → Hp → V → Prop := fun K B v => ∃ a xs, v = .ref a ∧ B a = some (.lst xs) ∧ RsOk K B [] xs rs
/-- an owned list of such -/
def lsC (rs : List Sl) : Cell := .gn fun K B o _ => ∃ xs, o = .lst xs ∧ RsOk K B [] xs rs
theorem slk_tup {K : Fg} {B : Hp} {as : List Addr} {v : V} {rs : List Sl} (s : SlOk K B as (some v) (.kn (tupK rs))) : ∃ a xs, v = .ref a ∧ SqT K B a xs ∧ RsOk K B as xs rs := by
  obtain ⟨v', B0, e, sb, a, xs, h1, h2, h3⟩ := s
  cases e
  exact ⟨a, xs, h1, sqT_up sb h2, rsOk_up sb (List.nil_prefix) h3⟩
theorem slk_lst {K : Fg} {B : Hp} {as : List Addr} {v : V} {rs : List Sl} (s : SlOk K B as (some v) (.kn (lstK rs))) : ∃ a xs, v = .ref a ∧ B a = some (.lst xs) ∧ RsOk K B as xs rs := by
  obtain ⟨v', B0, e, sb, a, xs, h1, h2, h3⟩ := s
  cases e
  exact ⟨a, xs, h1, sb _ _ h2, rsOk_up sb (List.nil_prefix) h3⟩
theorem slo_lsC {K : Fg} {B F H : Hp} {as : List Addr} {ω : List Cell} {v : V} {k : Nat} {rs : List Sl} (w : Wd K B F H as ω) (s : SlOk K B as (some v) (.own k)) (hc : ω[k]? = some (lsC rs)) : ∃ a xs, v = .ref a ∧ as[k]? = some a ∧ B a = none ∧ H a = some (.lst xs) ∧ RsOk K B as xs rs := by
  obtain ⟨a, h1, h2⟩ := sl_own s
  obtain ⟨hb, B0, o, sb, h3, xs, rfl, h4⟩ := (w.at' k a _ h2 hc).2.2
  exact ⟨a, xs, h1, h2, hb, h3, rsOk_up sb (List.nil_prefix) h4⟩
theorem rs_get {K : Fg} {B : Hp} {as : List Addr} : ∀ {vs : List V} {rs : List Sl} {i : Nat} {r : Sl}, RsOk K B as vs rs → rs[i]? = some r → ∃ v, vs[i]? = some v ∧ SlOk K B as (some v) r
  | _, _, i, r, .nil, e => by simp at e
  | _, _, 0, r, .cons h q, e => by
    simp at e
    subst e
    exact ⟨_, rfl, h⟩
  | _, _, i + 1, r, .cons h q, e => by
    simp at e
    obtain ⟨v, e1, e2⟩ := rs_get q e
    exact ⟨v, by simpa using e1, e2⟩
theorem rs_app {K : Fg} {B : Hp} {as : List Addr} : ∀ {vs ws : List V} {rs ss : List Sl}, RsOk K B as vs rs → RsOk K B as ws ss → RsOk K B as (vs ++ ws) (rs ++ ss)
  | _, _, _, _, .nil, q => q
  | _, _, _, _, .cons h r, q => .cons h (rs_app r q)
theorem rs_unval {K : Fg} {B : Hp} {as : List Addr} {vs : List V} {ds : List D} (h : RsOk K B as vs (ds.map Sl.val)) : DpAll K B vs ds := rsOk_vals h
theorem free_val (ds : List D) : (ds.map Sl.val).all Sl.free = true := by
  rw [List.all_eq_true]
  intro x hx
  obtain ⟨d, _, rfl⟩ := List.mem_map.mp hx
  rfl
theorem rs_nil {K : Fg} {B : Hp} {as : List Addr} {vs : List V} {rs : List Sl} (hf : rs.all Sl.free = true) (h : RsOk K B as vs rs) : RsOk K B [] vs rs := rs_free hf h
/-- sequences, by their items -/
inductive SeqS (ω : List Cell) : Sl → List Sl → Prop
  | tup (ds) : SeqS ω (.val (.tuple ds)) (ds.map Sl.val)
  | lst (ds) : SeqS ω (.val (.list ds)) (ds.map Sl.val)
  | own {k ds} : ω[k]? = some (.lst ds) → SeqS ω (.own k) (ds.map Sl.val)
  | tupK (rs) : SeqS ω (.kn (tupK rs)) rs
  | lstK (rs) : SeqS ω (.kn (lstK rs)) rs
  | lsC {k rs} : ω[k]? = some (lsC rs) → SeqS ω (.own k) rs
theorem SeqS.get {K : Fg} {B F H : Hp} {as : List Addr} {ω : List Cell} {v : V} {r : Sl} {rs : List Sl} (w : Wd K B F H as ω) (q : SeqS ω r rs) (s : SlOk K B as (some v) r) : ∃ b a xs, v = .ref a ∧ SqK b K H a xs ∧ RsOk K B as xs rs := by
  cases q with
  | tup =>
    obtain ⟨a, xs, h1, h2, h3⟩ := slv_tup s w.b
    exact ⟨false, a, xs, h1, h2, rs_of h3⟩
  | lst =>
    obtain ⟨a, xs, h1, h2, h3⟩ := slv_lst s w.b
    exact ⟨true, a, xs, h1, h2, rs_of h3⟩
  | own hc =>
    obtain ⟨a, xs, h1, _, h2, h3⟩ := slo_lst w s hc
    exact ⟨true, a, xs, h1, SqL.of h2, rs_of h3⟩
  | tupK =>
    obtain ⟨a, xs, h1, h2, h3⟩ := slk_tup s
    exact ⟨false, a, xs, h1, sqT_up w.b h2, h3⟩
  | lstK =>
    obtain ⟨a, xs, h1, h2, h3⟩ := slk_lst s
    exact ⟨true, a, xs, h1, SqL.of (w.b _ _ h2), h3⟩
  | lsC hc =>
    obtain ⟨a, xs, h1, _, _, h2, h3⟩ := slo_lsC w s hc
    exact ⟨true, a, xs, h1, SqL.of h2, h3⟩
/-- .. that stay for good -/
inductive SeqF : Sl → List Sl → Prop
  | tup (ds) : SeqF (.val (.tuple ds)) (ds.map Sl.val)
  | lst (ds) : SeqF (.val (.list ds)) (ds.map Sl.val)
  | tupK (rs) : SeqF (.kn (tupK rs)) rs
  | lstK (rs) : SeqF (.kn (lstK rs)) rs
theorem SeqF.get {K : Fg} {B : Hp} {as : List Addr} {v : V} {r : Sl} {rs : List Sl} (q : SeqF r rs) (s : SlOk K B as (some v) r) : ∃ b a xs, v = .ref a ∧ SqK b K B a xs ∧ RsOk K B as xs rs := by
  cases q with
  | tup =>
    obtain ⟨a, xs, h1, h2, h3⟩ := slv_tup s (Same.refl _)
    exact ⟨false, a, xs, h1, h2, rs_of h3⟩
  | lst =>
    obtain ⟨a, xs, h1, h2, h3⟩ := slv_lst s (Same.refl _)
    exact ⟨true, a, xs, h1, h2, rs_of h3⟩
  | tupK =>
    obtain ⟨a, xs, h1, h2, h3⟩ := slk_tup s
    exact ⟨false, a, xs, h1, h2, h3⟩
  | lstK =>
    obtain ⟨a, xs, h1, h2, h3⟩ := slk_lst s
    exact ⟨true, a, xs, h1, SqL.of h2, h3⟩
theorem sqK_up {b : Bool} {K : Fg} {H H' : Hp} {a : Addr} {xs : List V} (e : Same H H') (h : SqK b K H a xs) : SqK b K H' a xs := by
  cases b
  · exact sqT_up e h
  · exact sqL_up e h
theorem sqK_or {b : Bool} {K : Fg} {H : Hp} {a : Addr} {xs : List V} (h : SqK b K H a xs) : SqL K H a xs ∨ SqT K H a xs := by
  cases b
  · exact .inr h
  · exact .inl h

section
variable {X : Cx} {e a b c tg iter elt : Expr} {es ifs : List Expr} {δ : List Sl} {ω : List Cell} {P : PO1} {pos : Pos} {scope : Scope} {own : List (Str × Nat)}
theorem Out.kn {K : Fg} {B F H : Hp} {as : List Addr} {Q : VK} (o : Out K B F as P Q) (w : Wd K B F H as ω) {p : Addr} {u : HO} {q : Fg → Hp → V → Prop} (hp' : H p = none) (hq : q K (upd B p u) (.ref p)) (hp : P (.kn q) ω) : Q (.ref p) (upd H p u) := by
  obtain ⟨w2, sb⟩ := w.new (o := u) hp'
  exact o _ _ _ as (.kn q) ω sb (List.prefix_refl _) w2 ⟨_, _, rfl, Same.refl _, hq⟩ hp
/-- displays -/
theorem de_tupS {x1 : Nat} (h : DA X es δ ω fun rs ω1 => rs.all Sl.free = true ∧ rs.length ≤ sizeLine ∧ P (.kn (tupK rs)) ω1) : DE X (.Tuple es x1 pos) δ ω P := fun B F H as σ w ev Q o =>
  ⟨_, pe_tup pa_w, h B F H as σ w ev _ fun vs B1 H1 as1 rs ω1 e1 p1 w1 s1 ⟨hf, hl, hp⟩ => by
    refine ⟨by rw [rs_len s1]; exact hl, fun p hp' => (o.up e1 p1).kn w1 hp' ?_ hp⟩
    exact ⟨p, vs, rfl, SqT.of upd_same, rsOk_up (w1.new (o := .tup vs) hp').2 (List.prefix_refl _) (rs_free hf s1)⟩⟩
theorem de_lstS (h : DA X es δ ω fun rs ω1 => rs.all Sl.free = true ∧ rs.length ≤ sizeLine ∧ P (.kn (lstK rs)) ω1) : DE X (.List es pos) δ ω P := fun B F H as σ w ev Q o =>
  ⟨_, pe_lst pa_w, h B F H as σ w ev _ fun vs B1 H1 as1 rs ω1 e1 p1 w1 s1 ⟨hf, hl, hp⟩ => by
    refine ⟨by rw [rs_len s1]; exact hl, fun p hp' => (o.up e1 p1).kn w1 hp' ?_ hp⟩
    exact ⟨p, vs, rfl, upd_same, rsOk_up (w1.new (o := .lst vs) hp').2 (List.prefix_refl _) (rs_free hf s1)⟩⟩
/-- items -/
theorem de_ixS (hs : PlainIx b) (h : DE X a δ ω fun x ω1 => DE X b δ ω1 fun y ω2 => ∃ rs i r, y = .val (.int i) ∧ SeqS ω2 x rs ∧ atI rs i = some r ∧ P r ω2) : DE X (.Subscript a b pos) δ ω P := fun B F H as σ w ev Q o => by
  refine ⟨_, pe_ix ix_seq pe_w pe_w hs, ?_⟩
  refine h B F H as σ w ev _ fun x B1 H1 as1 rx ω1 e1 p1 w1 s1 q1 => ?_
  refine q1 B1 F H1 as1 σ w1 (envOk_up e1 p1 ev) _ fun y B2 H2 as2 ry ω2 e2 p2 w2 s2 ⟨rs, i, r, ey, hq, hd, hp⟩ => ?_
  subst ey
  obtain ⟨b, a, xs, rfl, hs, hr⟩ := hq.get w2 (slOk_up e2 p2 s1)
  obtain rfl := dp_int_inv (sl_val s2)
  obtain ⟨j, g1, g2⟩ := atI_len (rs_len hr) hd
  obtain ⟨z, g3, g4⟩ := rs_get hr g2
  have g5 : atI xs i = some z := by
    unfold atI
    rw [g1]
    exact g3
  have hz := oo_sl (o.up (e1.trans e2) (p1.trans p2)) w2 g4 hp
  rcases sqK_or hs with h | h
  · exact .inl ⟨a, xs, i, z, rfl, rfl, h, g5, hz⟩
  · exact .inr (.inl ⟨a, xs, i, z, rfl, rfl, h, g5, hz⟩)
where oo_sl {K : Fg} {B F H : Hp} {as : List Addr} {Q : VK} {r : Sl} {ω : List Cell} {v : V} (o : Out K B F as P Q) (w : Wd K B F H as ω) (s : SlOk K B as (some v) r) (hp : P r ω) : Q v H := o v B H as r ω (Same.refl _) (List.prefix_refl _) w s hp
theorem ra_lenS {r : Sl} {rs : List Sl} (hq : SeqS ω r rs) (hp : P (.val (.int rs.length)) ω) : RA X (fun xs H Q => ∃ p ys, xs = [.ref p] ∧ (SqL X.K H p ys ∨ SqT X.K H p ys) ∧ Q (.int ys.length) H) [r] ω P := fun B F H as vs w s Q o => by
  obtain ⟨v, rfl, s1⟩ := rs1 s
  obtain ⟨b, a, xs, rfl, h, hds⟩ := hq.get w s1
  refine ⟨a, xs, rfl, sqK_or h, ?_⟩
  rw [rs_len hds]
  exact o.here w (.int _) hp
theorem ra_tupleS {r : Sl} {rs : List Sl} (hq : SeqS ω r rs) (hf : rs.all Sl.free = true) (hp : P (.kn (tupK rs)) ω) :
    RA X (fun xs H Q => ∃ p ys, xs = [.ref p] ∧ ((SqL X.K H p ys ∧ ∀ l, H l = none → Q (.ref l) (upd H l (.tup ys))) ∨ (SqT X.K H p ys ∧ Q (.ref p) H))) [r] ω P := fun B F H as vs w s Q o => by
  obtain ⟨v, rfl, s1⟩ := rs1 s
  have new : ∀ {a : Addr} {xs : List V}, SqL X.K H a xs → RsOk X.K B as xs rs → ∃ p ys, [V.ref a] = [.ref p] ∧ ((SqL X.K H p ys ∧ ∀ l, H l = none → Q (.ref l) (upd H l (.tup ys))) ∨ (SqT X.K H p ys ∧ Q (.ref p) H)) := fun {a xs} h2 h3 =>
    ⟨a, xs, rfl, .inl ⟨h2, fun l hl => o.kn w hl ⟨l, xs, rfl, SqT.of upd_same, rsOk_up (w.new (o := .tup xs) hl).2 (List.prefix_refl _) (rs_free hf h3)⟩ hp⟩⟩
  have old : ∀ {a : Addr} {xs : List V}, SqT X.K B a xs → RsOk X.K B as xs rs → ∃ p ys, [V.ref a] = [.ref p] ∧ ((SqL X.K H p ys ∧ ∀ l, H l = none → Q (.ref l) (upd H l (.tup ys))) ∨ (SqT X.K H p ys ∧ Q (.ref p) H)) := fun {a xs} h2 h3 =>
    ⟨a, xs, rfl, .inr ⟨sqT_up w.b h2, o (.ref a) B H as (.kn (tupK rs)) ω (Same.refl _) (List.prefix_refl _) w ⟨_, B, rfl, Same.refl _, a, xs, rfl, h2, rs_free hf h3⟩ hp⟩⟩
  cases hq with
  | tup =>
    obtain ⟨a, xs, rfl, h2, h3⟩ := slv_tup s1 (Same.refl _)
    exact old h2 (rs_of h3)
  | tupK =>
    obtain ⟨a, xs, rfl, h2, h3⟩ := slk_tup s1
    exact old h2 h3
  | lst =>
    obtain ⟨a, xs, rfl, h2, h3⟩ := slv_lst s1 w.b
    exact new h2 (rs_of h3)
  | own hc =>
    obtain ⟨a, xs, rfl, _, h2, h3⟩ := slo_lst w s1 hc
    exact new (SqL.of h2) (rs_of h3)
  | lstK =>
    obtain ⟨a, xs, rfl, h2, h3⟩ := slk_lst s1
    exact new (SqL.of (w.b _ _ h2)) h3
  | lsC hc =>
    obtain ⟨a, xs, rfl, _, _, h2, h3⟩ := slo_lsC w s1 hc
    exact new (SqL.of h2) h3
/-- lists that are tracked as they stand -/
inductive SeqM (ω : List Cell) : Sl → List Sl → Prop
  | own {k ds} : ω[k]? = some (.lst ds) → SeqM ω (.own k) (ds.map Sl.val)
  | lstK (rs) : SeqM ω (.kn (DL.lstK rs)) rs
  | lsC {k rs} : ω[k]? = some (DL.lsC rs) → SeqM ω (.own k) rs
theorem SeqM.get {K : Fg} {B F H : Hp} {as : List Addr} {ω : List Cell} {v : V} {r : Sl} {rs : List Sl} (w : Wd K B F H as ω) (q : SeqM ω r rs) (s : SlOk K B as (some v) r) : ∃ a xs, v = .ref a ∧ H a = some (.lst xs) ∧ RsOk K B as xs rs := by
  cases q with
  | own hc =>
    obtain ⟨a, xs, h1, _, h2, h3⟩ := slo_lst w s hc
    exact ⟨a, xs, h1, h2, rs_of h3⟩
  | lstK =>
    obtain ⟨a, xs, h1, h2, h3⟩ := slk_lst s
    exact ⟨a, xs, h1, w.b _ _ h2, h3⟩
  | lsC hc =>
    obtain ⟨a, xs, h1, _, _, h2, h3⟩ := slo_lsC w s hc
    exact ⟨a, xs, h1, h2, h3⟩
/-- lists of such put together -/
theorem rr_catLS {x y : Sl} {rs ss : List Sl} (h1 : SeqM ω x rs) (h2 : SeqM ω y ss) (f1 : rs.all Sl.free = true) (f2 : ss.all Sl.free = true) (hz : rs.length + ss.length ≤ 1000000) (hp : P (.kn (lstK (rs ++ ss))) ω) : RR X (rPlus X.K) x y ω P := fun B F H as v u w s1 s2 Q o => by
  obtain ⟨a, xs, rfl, g1, g2⟩ := h1.get w s1
  obtain ⟨b, ys, rfl, g3, g4⟩ := h2.get w s2
  exact .inr (.inr ⟨a, b, xs, ys, rfl, rfl, g1, g3, by rw [rs_len g2, rs_len g4]; exact Nat.le_trans hz (by decide), fun p hp' => o.kn w hp' ⟨p, xs ++ ys, rfl, upd_same, rsOk_up (w.new (o := .lst (xs ++ ys)) hp').2 (List.prefix_refl _) (rs_app (rs_free f1 g2) (rs_free f2 g4))⟩ hp⟩)
end
end
section
/-! walks of such containers -/
def ItOkS (K : Fg) (J : It) (B : Hp) (as0 : List Addr) (G : List Cell → Prop) (its : List Sl) : Prop :=
  ∀ B' F H as ω, Same B B' → as0 <+: as → Wd K B' F H as ω → G ω → (∀ i r, its[i]? = some r → J.go i H ∧ ∀ x H', J.yld i H x H' → ∃ B2, Same B' B2 ∧ Wd K B2 F H' as ω ∧ SlOk K B2 as (some x) r) ∧ J.stop its.length H
def DIS (X : Cx) (tg iter : Expr) (δ : List Sl) (ω : List Cell) (P : (List Cell → Prop) → List Sl → List Cell → Prop) : Prop :=
  ∀ B F H as σ, Wd X.K B F H as ω → EnvOk X.K B as σ δ → ∀ R : It → Hp → Prop,
    (∀ J G its B' H' as' ω', Same B B' → as <+: as' → Wd X.K B' F H' as' ω' → ItOkS X.K J B' as' G its → P G its ω' → R J H') → wI X tg iter σ H R
def DGS (X : Cx) (vs : List Nat) (tg : Expr) (r : Sl) (δ : List Sl) (k : List Sl → Prop) : Prop :=
  ∀ B H as σ v, Same B H → EnvOk X.K B as σ δ → SlOk X.K B as (some v) r → ∀ Q, (∀ σ' δ', EnvOk X.K B as σ' δ' → σ'.length = σ.length → (∀ i, i ∉ vs → σ'[i]? = σ[i]?) → k δ' → Q σ' H) → wG X tg v σ H Q
section
variable {X : Cx} {e a b c tg iter elt : Expr} {es ifs : List Expr} {δ : List Sl} {ω : List Cell} {P : PO1} {pos : Pos} {scope : Scope} {own : List (Str × Nat)}
theorem dgs_name {vs : List Nat} {i : Nat} {x : Str} {r : Sl} {k : List Sl → Prop} (hN : X.N.Nodup) (hi : X.N[i]? = some x) (hx : Loc X.env.scope x) (hv : i ∈ vs) (hk : k (δ.set i r))
    (hf : X.fn x = true ∨ X.env.scope.names.lookup x = some .local := by first | exact .inl rfl | exact .inr rfl | assumption) : DGS X vs (.Name x pos) r δ k := fun B H as σ v sb ev hd Q o =>
  ⟨_, pg_name hN hi hx hf, o _ _ (envOk_set hd i ev) (by rw [List.length_set]) (fun j hj => by rw [List.getElem?_set_ne (fun (z : i = j) => hj (z ▸ hv))]) hk⟩
theorem dgs_tup2 {vs : List Nat} {i j : Nat} {x y : Str} {r s : Sl} {p1 p2 : Pos} {kk : Nat} {k : List Sl → Prop} (hc : X.calm = true) (hN : X.N.Nodup) (hi : X.N[i]? = some x) (hj : X.N[j]? = some y) (hx : Loc X.env.scope x) (hy : Loc X.env.scope y) (hv : i ∈ vs) (hw : j ∈ vs)
    (hk : k ((δ.set i r).set j s))
    (hf : X.fn x = true ∨ X.env.scope.names.lookup x = some .local := by first | exact .inl rfl | exact .inr rfl | assumption) (hg : X.fn y = true ∨ X.env.scope.names.lookup y = some .local := by first | exact .inl rfl | exact .inr rfl | assumption)
    (hs1 : (assignEach [.Name x p1, .Name y p2] X.env).map (·.2) = assign (.Name x p1) X.env :: (assignEach [.Name y p2] X.env).map (·.2) := by rfl) (hs2 : (assignEach [.Name y p2] X.env).map (·.2) = assign (.Name y p2) X.env :: (assignEach [] X.env).map (·.2) := by rfl)
    (hn : (assignEach [.Name x p1, .Name y p2] X.env).length = 2 := by rfl) (hst : (assignEach [.Name x p1, .Name y p2] X.env).findIdx? (·.1) = none := by rfl) :
    DGS X vs (.Tuple [.Name x p1, .Name y p2] kk pos) (.kn (tupK [r, s])) δ k := fun B H as σ v sb ev hd Q o => by
  refine ⟨_, pg_tup hc (pgs_cons (pg_name hN hi hx hf) (pgs_cons (pg_name hN hj hy hg) pgs_nil hs2) hs1) hn hst, ?_⟩
  obtain ⟨a, xs, rfl, h1, h2⟩ := slk_tup hd
  cases h2 with
  | cons d1 q =>
    cases q with
    | cons d2 q =>
      cases q
      refine ⟨a, _, rfl, sqT_up sb h1, rfl, _, _, rfl, _, _, rfl, rfl, ?_⟩
      refine o _ _ (envOk_set d2 j (envOk_set d1 i ev)) (by rw [List.length_set, List.length_set]) (fun l hl => ?_) hk
      rw [List.getElem?_set_ne (fun (z : j = l) => hl (z ▸ hw)), List.getElem?_set_ne (fun (z : i = l) => hl (z ▸ hv))]
/-- data as slots -/
theorem dgs_val {vs : List Nat} {d : D} {k : List Sl → Prop} (h : DG X vs tg d δ k) : DGS X vs tg (.val d) δ k := fun B H as σ v sb ev hd Q o => h B H as σ v sb ev (sl_val hd) Q o
/-- sequences that stay for good -/
theorem itS_seq {K : Fg} {B : Hp} {as0 : List Addr} {b : Bool} {a : Addr} {xs : List V} {rs : List Sl} {J : It} (hJ : J = (match b with | true => Itl K a | false => Itt K a)) (h1 : SqK b K B a xs) (h2 : RsOk K B as0 xs rs) : ItOkS K J B as0 (fun _ => True) rs := by
  intro B' F H as ω sb pp w' _
  have h3 := sqK_up (sb.trans w'.b) h1
  have h4 := rsOk_up sb pp h2
  subst hJ
  cases b
  · refine ⟨fun i r hr => ?_, ⟨xs, h3, by rw [rs_len h4]; exact Nat.le_refl _⟩⟩
    obtain ⟨x, e2, d2⟩ := rs_get h4 hr
    refine ⟨⟨xs, x, h3, e2⟩, fun y H' q => ?_⟩
    obtain ⟨rfl, q⟩ := q
    have := q xs h3
    rw [e2] at this
    cases this
    exact ⟨B', Same.refl _, w', d2⟩
  · refine ⟨fun i r hr => ?_, ⟨xs, h3, by rw [rs_len h4]; exact Nat.le_refl _⟩⟩
    obtain ⟨x, e2, d2⟩ := rs_get h4 hr
    refine ⟨⟨xs, x, h3, e2⟩, fun y H' q => ?_⟩
    obtain ⟨rfl, q⟩ := q
    have := q xs h3
    rw [e2] at this
    cases this
    exact ⟨B', Same.refl _, w', d2⟩
theorem dis_lst {P : (List Cell → Prop) → List Sl → List Cell → Prop} (h : DE X e δ ω fun r ω1 => ∃ rs, r = .kn (lstK rs) ∧ P (fun _ => True) rs ω1) : DIS X tg e δ ω P := fun B F H as σ w ev R o => by
  refine ⟨_, pi_list pe_w, ?_⟩
  refine h B F H as σ w ev _ fun v B1 H1 as1 r ω1 e1 p1 w1 s1 ⟨rs, er, hp⟩ => ?_
  subst er
  obtain ⟨a, xs, rfl, h1, h2⟩ := slk_lst s1
  exact ⟨a, rfl, ⟨xs, SqL.of (w1.b _ _ h1)⟩, o _ _ rs B1 H1 as1 ω1 e1 p1 w1 (itS_seq (b := true) rfl (SqL.of h1) h2) hp⟩
theorem dis_tup {P : (List Cell → Prop) → List Sl → List Cell → Prop} (h : DE X e δ ω fun r ω1 => ∃ rs, r = .kn (tupK rs) ∧ P (fun _ => True) rs ω1) : DIS X tg e δ ω P := fun B F H as σ w ev R o => by
  refine ⟨_, pi_tup pe_w, ?_⟩
  refine h B F H as σ w ev _ fun v B1 H1 as1 r ω1 e1 p1 w1 s1 ⟨rs, er, hp⟩ => ?_
  subst er
  obtain ⟨a, xs, rfl, h1, h2⟩ := slk_tup s1
  exact ⟨a, rfl, ⟨xs, sqT_up w1.b h1⟩, o _ _ rs B1 H1 as1 ω1 e1 p1 w1 (itS_seq (b := false) rfl h1 h2) hp⟩
/-- a walk over data -/
theorem dis_of {P : (List Cell → Prop) → List Sl → List Cell → Prop} (h : DI X tg iter δ ω fun its ω1 => P (fun _ => True) (its.map Sl.val) ω1) : DIS X tg iter δ ω P := fun B F H as σ w ev R o =>
  h B F H as σ w ev R fun J its B1 H1 as1 ω1 e1 p1 w1 hit hp => o J _ _ B1 H1 as1 ω1 e1 p1 w1 (fun B' F' H' as' ω' sb pp w' _ => by
    obtain ⟨h1, h2⟩ := hit B' F' H' as' ω' sb w'
    refine ⟨fun i r hr => ?_, by rw [List.length_map]; exact h2⟩
    rw [List.getElem?_map] at hr
    cases hd : its[i]? with
    | none =>
      rw [hd] at hr
      cases hr
    | some d =>
      rw [hd] at hr
      cases hr
      obtain ⟨h3, h4⟩ := h1 i d hd
      exact ⟨h3, fun x H2 q => by
        obtain ⟨B2, q1, q2, q3⟩ := h4 x H2 q
        exact ⟨B2, q1, q2, slv q3⟩⟩) hp
/-- zip: pairs -/
def zipS (rs ss : List Sl) : List Sl := (rs.zip ss).map fun p => .kn (tupK [p.1, p.2])
theorem zipS_at {rs ss : List Sl} {i : Nat} {r : Sl} (h : (zipS rs ss)[i]? = some r) : ∃ x y, rs[i]? = some x ∧ ss[i]? = some y ∧ r = .kn (tupK [x, y]) := by
  unfold zipS at h
  rw [List.getElem?_map] at h
  cases hz : (rs.zip ss)[i]? with
  | none =>
    rw [hz] at h
    cases h
  | some p =>
    rw [hz] at h
    cases h
    obtain ⟨h1, h2⟩ := List.getElem?_zip_eq_some.mp hz
    exact ⟨_, _, h1, h2, rfl⟩
theorem itS_zip {K : Fg} {B : Hp} {as0 : List Addr} {b1 b2 : Bool} {a b : Addr} {xs ys : List V} {rs ss : List Sl} (h1 : SqK b1 K B a xs) (h2 : RsOk K B as0 xs rs) (g1 : SqK b2 K B b ys) (g2 : RsOk K B as0 ys ss) (f1 : rs.all Sl.free = true) (f2 : ss.all Sl.free = true) : ItOkS K (ItzX b1 b2 K a b) B as0 (fun _ => True) (zipS rs ss) := by
  intro B' F H as ω sb pp w' _
  have h3 := sqK_up (sb.trans w'.b) h1
  have g3 := sqK_up (sb.trans w'.b) g1
  have h4 := rsOk_up sb pp h2
  have g4 := rsOk_up sb pp g2
  refine ⟨fun i r hr => ?_, ⟨xs, ys, h3, g3, ?_⟩⟩
  · obtain ⟨x, y, hx, hy, rfl⟩ := zipS_at hr
    obtain ⟨u, e1, d1⟩ := rs_get h4 hx
    obtain ⟨v, e2, d2⟩ := rs_get g4 hy
    refine ⟨⟨xs, ys, u, v, h3, g3, e1, e2⟩, fun z H' q => ?_⟩
    obtain ⟨p, u', v', rfl, hp, rfl, q1, q2⟩ := q
    have q1 := q1 xs h3
    rw [e1] at q1
    cases q1
    have q2 := q2 ys g3
    rw [e2] at q2
    cases q2
    obtain ⟨w2, s2⟩ := w'.new (o := .tup [u, v]) hp
    refine ⟨_, s2, w2, _, _, rfl, Same.refl _, p, _, rfl, SqT.of upd_same, .cons (slOk_up s2 (List.prefix_refl _) (sl_free (List.all_eq_true.mp f1 _ (List.mem_of_getElem? hx)) d1)) (.cons (slOk_up s2 (List.prefix_refl _) (sl_free (List.all_eq_true.mp f2 _ (List.mem_of_getElem? hy)) d2)) .nil)⟩
  · unfold zipS
    rw [List.length_map, List.length_zip, rs_len h4, rs_len g4]
    omega
theorem dis_zip {e2 : Expr} {p tp : Pos} {kk : Nat} {P : (List Cell → Prop) → List Sl → List Cell → Prop} (hg : Gl X "zip") (hm : X.mg "zip" = none)
    (h : DA X [e, e2] δ ω fun qs ω1 => ∃ x y rs ss, qs = [x, y] ∧ SeqF x rs ∧ SeqF y ss ∧ rs.all Sl.free = true ∧ ss.all Sl.free = true ∧ P (fun _ => True) (zipS rs ss) ω1)
    (hs : starEach [e, e2] X.env = (false, eval e X.env) :: starEach [e2] X.env := by rfl) (hpl : (backTo pos (starEach [e2] X.env)).any (·.1) = false := by rfl) : DIS X (.Tuple es kk tp) (.Call (.Name "zip" p) [e, e2] [] pos) δ ω P := fun B F H as σ w ev R o => by
  refine ⟨_, pi_zipX hg hm pa_w hs hpl, ?_⟩
  refine h B F H as σ w ev _ fun vs B1 H1 as1 qs ω1 e1 p1 w1 s1 ⟨x, y, rs, ss, eq, hx, hy, f1, f2, hp⟩ => ?_
  subst eq
  obtain ⟨u, v, rfl, su, sv⟩ := rs2 s1
  obtain ⟨b1, a, xs, rfl, g1, g2⟩ := hx.get su
  obtain ⟨b2, b, ys, rfl, g3, g4⟩ := hy.get sv
  exact ⟨b1, b2, a, b, xs, ys, rfl, sqK_up w1.b g1, sqK_up w1.b g3, o _ _ _ B1 H1 as1 ω1 e1 p1 w1 (itS_zip g1 g2 g3 g4 f1 f2) hp⟩

/-! ### for, comprehensions -/
theorem d1_forS {body : List Stmt} {k : Kd} (hp : PassesOwn (model X.prog X.w) X.A X.env X.xe) (hc : X.calm = true)
    (h : DIS X tg iter δ ω fun G its ω1 => ∃ Iv : Nat → List Sl → List Cell → Prop, (∀ i δ' ω', Iv i δ' ω' → G ω') ∧ Iv 0 δ ω1 ∧
      (∀ i d δ' ω', its[i]? = some d → Iv i δ' ω' → DGS X (List.range δ'.length) tg d δ' fun δ2 => DS X body δ2 ω' { nx := Iv (i + 1), ct := Iv (i + 1), bk := k.nx, rt := k.rt }) ∧ ∀ δ' ω', Iv its.length δ' ω' → k.nx δ' ω')
    (hs : ∀ x, foldedSetIterable iter X.env x = pure x := by intro _; rfl) : D1 X (.For tg iter body [] pos) δ ω k := fun B F H as σ w ev E o => by
  refine ⟨_, ps_for hp hc pi_w pg_w pss_w hs, ?_⟩
  refine h B F H as σ w ev _ fun J G its B1 H1 as1 ω1 e1 p1 w1 hit ⟨Iv, hG, h0, ht, hd⟩ => ?_
  refine ⟨fun i m σ' H' => m = its.length - i ∧ i ≤ its.length ∧ ∃ B' as' δ' ω', Same B1 B' ∧ as1 <+: as' ∧ Wd X.K B' F H' as' ω' ∧ EnvOk X.K B' as' σ' δ' ∧ Iv i δ' ω',
    ⟨its.length, by omega, Nat.zero_le _, B1, as1, δ, ω1, Same.refl _, List.prefix_refl _, w1, envOk_up e1 p1 ev, h0⟩, fun i m σ' H' hW => ?_⟩
  obtain ⟨rfl, hi, B', as', δ', ω', e2, p2, w2, ev2, hI⟩ := hW
  by_cases hlt : i < its.length
  · obtain ⟨hgo, hy⟩ := (hit B' F H' as' ω' e2 p2 w2 (hG _ _ _ hI)).1 i its[i] (List.getElem?_eq_getElem hlt)
    refine .inr ⟨hgo, fun σ3 H3 => ∃ B' as' δ' ω', Same B1 B' ∧ as1 <+: as' ∧ Wd X.K B' F H3 as' ω' ∧ EnvOk X.K B' as' σ3 δ' ∧ Iv (i + 1) δ' ω', fun σ3 H3 q => ⟨its.length - (i + 1), by omega, rfl, hlt, q⟩, fun x H3 q => ?_⟩
    obtain ⟨B2, e3, w3, d3⟩ := hy x H3 q
    refine ht i its[i] δ' ω' (List.getElem?_eq_getElem hlt) hI B2 H3 as' σ' x w3.b (envOk_up e3 (List.prefix_refl _) ev2) d3 _ fun σ4 δ4 ev4 _ _ hb => ?_
    refine hb B2 F H3 as' σ4 w3 ev4 _ ⟨fun σ5 H5 B5 as5 δ5 ω5 e5 p5 w5 ev5 q5 => ?_, ?_, fun σ5 H5 B5 as5 δ5 ω5 e5 p5 w5 ev5 q5 => ?_, ?_⟩
    · exact ⟨B5, as5, δ5, ω5, (e2.trans e3).trans e5, p2.trans p5, w5, ev5, q5⟩
    · exact o.nx.up (((e1.trans e2).trans e3)) (p1.trans p2)
    · exact ⟨B5, as5, δ5, ω5, (e2.trans e3).trans e5, p2.trans p5, w5, ev5, q5⟩
    · exact o.rt.up (((e1.trans e2).trans e3)) (p1.trans p2)
  · have ei : i = its.length := by omega
    subst ei
    exact .inl ⟨(hit B' F H' as' ω' e2 p2 w2 (hG _ _ _ hI)).2, (o.nx.up (e1.trans e2) (p1.trans p2)).here w2 ev2 (hd δ' ω' hI)⟩
def LcTurnS (X : Cx) (scope : Scope) (vs : List Nat) (tg : Expr) (ifs : List Expr) (elt : Expr) (δ : List Sl) (its : List Sl) (Iv : Nat → List Sl → List Cell → Prop) : Prop :=
  ∀ i d acc ω', its[i]? = some d → Iv i acc ω' → Blk X scope fun Y => DGS Y vs tg d (wipeD δ vs) fun δ2 => Blk X scope fun Y => DTs Y ifs δ2 ω' fun b ω2 =>
    if b = true then Blk X scope fun Y => DE Y elt δ2 ω2 fun r ω3 => r.free = true ∧ Iv (i + 1) (acc ++ [r]) ω3 else Iv (i + 1) acc ω2
/-- what a comprehension is worth -/
def LcOut (P : PO1) (acc : List Sl) (ω' : List Cell) : Prop := P (.kn (lstK acc)) ω' ∨ ∃ ds, acc = ds.map Sl.val ∧ (P (.val (.list ds)) ω' ∨ P (.own ω'.length) (ω' ++ [.lst ds]))
theorem lc_readS {vs : List Nat} (h : DIS X tg iter δ ω fun G its ω1 => its.length ≤ 100000 ∧ ∃ Iv : Nat → List Sl → List Cell → Prop, (∀ i acc ω', Iv i acc ω' → G ω') ∧ Iv 0 [] ω1 ∧ LcTurnS X scope vs tg ifs elt δ its Iv ∧ ∀ acc ω', acc.length ≤ its.length → Iv its.length acc ω' → LcOut P acc ω')
    {B F H : Hp} {as : List Addr} {σ : L2.St} (w : Wd X.K B F H as ω) (ev : EnvOk X.K B as σ δ) (Q : VK) (o : Out X.K B F as P Q) :
    tLc (wI X tg iter) (fun v σ H Q => Blk X scope fun Y => wG Y tg v σ H Q) (fun σ H Q => Blk X scope fun Y => wTs Y ifs σ H Q) (fun σ H Q => Blk X scope fun Y => wE Y elt σ H Q) vs σ H Q := by
  refine h B F H as σ w ev _ fun J G its B1 H1 as1 ω1 e1 p1 w1 hit ⟨hlen, Iv, hG, h0, ht, hd⟩ => ?_
  intro Dl hD
  have hF : F Dl = none := w1.freeF hD
  refine ⟨fun i m H' => m = its.length - i ∧ i ≤ its.length ∧ ∃ B' as' acc accV ω', Same B1 B' ∧ as1 <+: as' ∧ Wd X.K B' (upd F Dl (.lst accV)) H' as' ω' ∧ RsOk X.K B' [] accV acc ∧ acc.length ≤ i ∧ Iv i acc ω',
    ⟨its.length, by omega, Nat.zero_le _, B1, as1, [], [], ω1, Same.refl _, List.prefix_refl _, w1.hide hD, .nil, Nat.zero_le _, h0⟩, fun i m H' hW => ?_⟩
  obtain ⟨rfl, hi, B', as', acc, accV, ω', e2, p2, w2, hacc, hal, hI⟩ := hW
  by_cases hlt : i < its.length
  · obtain ⟨hgo, hy⟩ := (hit B' _ H' as' ω' e2 p2 w2 (hG _ _ _ hI)).1 i its[i] (List.getElem?_eq_getElem hlt)
    refine .inr ⟨hgo, fun H3 => ∃ B' as' acc accV ω', Same B1 B' ∧ as1 <+: as' ∧ Wd X.K B' (upd F Dl (.lst accV)) H3 as' ω' ∧ RsOk X.K B' [] accV acc ∧ acc.length ≤ i + 1 ∧ Iv (i + 1) acc ω', fun H3 q => ⟨its.length - (i + 1), by omega, rfl, hlt, q⟩, fun x H3 q => ?_⟩
    obtain ⟨B2, e3, w3, d3⟩ := hy x H3 q
    have ev3 : EnvOk X.K B2 as' (wipe σ vs) (wipeD δ vs) := envOk_wipe (envOk_up ((e1.trans e2).trans e3) (p1.trans p2) ev) vs
    intro s H0 C cl fp
    refine ht i its[i] acc ω' (List.getElem?_eq_getElem hlt) hI s H0 C cl fp B2 H3 as' (wipe σ vs) x w3.b ev3 d3 _ fun σ4 δ4 ev4 hl4 ha4 hb => ?_
    have hwipe : wipe σ4 vs = wipe σ vs := by
      refine wipe_eq (by rw [hl4, wipe_length]) fun j hj => ?_
      rw [ha4 j hj, wipe_get hj]
    refine ⟨hwipe, ?_⟩
    intro s H0 C cl fp
    refine dts_run (hb s H0 C cl fp) w3 ev4 _ fun bb B5 H5 as5 ω5 e5 p5 w5 hq => ?_
    cases bb with
    | true =>
      refine iteT ?_
      intro s H0 C cl fp
      refine hq s H0 C cl fp B5 _ H5 as5 σ4 w5 (envOk_up e5 p5 ev4) _ fun y B6 H6 as6 r ω6 e6 p6 w6 s6 ⟨hfr, hI6⟩ => ?_
      refine ⟨accV, (w6.f Dl _ upd_same).1, ?_, B6, as6, acc ++ [r], accV ++ [y], ω6, ((e2.trans e3).trans e5).trans e6, (p2.trans p5).trans p6, w6.rehide, rs_app (rsOk_up ((e3.trans e5).trans e6) (List.prefix_refl _) hacc) (.cons (sl_free hfr s6) .nil), by rw [List.length_append]; exact Nat.succ_le_succ hal, hI6⟩
      rw [rs_len hacc]
      exact Nat.lt_of_le_of_lt (Nat.le_trans hal (Nat.le_trans hi hlen)) (by decide)
    | false =>
      exact iteF ⟨B5, as5, acc, accV, ω5, (e2.trans e3).trans e5, p2.trans p5, w5, rsOk_up (e3.trans e5) (List.prefix_refl _) hacc, Nat.le_succ_of_le hal, hq⟩
  · have ei : i = its.length := by omega
    subst ei
    refine .inl ⟨(hit B' _ H' as' ω' e2 p2 w2 (hG _ _ _ hI)).2, ?_⟩
    rcases hd acc ω' hal hI with hp | ⟨ds, rfl, hp | hp⟩
    · obtain ⟨w3, s3⟩ := w2.show hF
      exact o _ _ H' as' (.kn (lstK acc)) ω' ((e1.trans e2).trans s3) (p1.trans p2) w3 ⟨_, _, rfl, Same.refl _, Dl, accV, rfl, upd_same, rsOk_up s3 (List.prefix_refl _) hacc⟩ hp
    · obtain ⟨w3, s3⟩ := w2.show hF
      exact o _ _ H' as' _ ω' ((e1.trans e2).trans s3) (p1.trans p2) w3 (slv (.lst (.inl (.inl upd_same)) (dpAll_up s3 (rs_unval hacc)))) hp
    · refine o _ B' H' _ _ _ (e1.trans e2) ((p1.trans p2).trans (List.prefix_append _ _)) (w2.toOwn hF (rs_unval hacc)) (slo ?_) hp
      rw [← w2.len, List.getElem?_append_right (Nat.le_refl _), Nat.sub_self]
      rfl
theorem de_lcS (hc : X.calm = true) (hN : X.N.Nodup) (ok : BlkOk X.N X.env.scope scope own)
    (h : DIS X tg iter δ ω fun G its ω1 => its.length ≤ 100000 ∧ ∃ Iv : Nat → List Sl → List Cell → Prop, (∀ i acc ω', Iv i acc ω' → G ω') ∧ Iv 0 [] ω1 ∧ LcTurnS X scope (own.map (·.2)) tg ifs elt δ its Iv ∧ ∀ acc ω', acc.length ≤ its.length → Iv its.length acc ω' → LcOut P acc ω')
    (hs : ∀ x, foldedSetIterable iter X.env x = pure x := by intro _; rfl) : DE X (.ListComp elt [⟨tg, iter, ifs, 0⟩] scope pos) δ ω P := fun B F H as σ w ev Q o =>
  ⟨_, pe_lc hc hN pi_w ok (fun s H0 C cl fp => ⟨fun pins s1 σ1 H1 v u Q1 I r hw => by obtain ⟨_, p, q⟩ := hw s H0 C cl fp; exact p.run pins s1 σ1 H1 v u Q1 I r q⟩)
    (fun s H0 C cl fp => ⟨fun pins s1 σ1 H1 Q1 I hw => by obtain ⟨_, p, q⟩ := hw s H0 C cl fp; exact p.run pins s1 σ1 H1 Q1 I q⟩)
    (fun s H0 C cl fp => ⟨fun pins s1 σ1 H1 Q1 I hw => by obtain ⟨_, p, q⟩ := hw s H0 C cl fp; exact p.run pins s1 σ1 H1 Q1 I q⟩) hs, lc_readS h w ev Q o⟩
theorem d1_asgLcS {k : Kd} {i : Nat} {y : Str} {py spos : Pos} (hc : X.calm = true) (hN : X.N.Nodup) (hy : X.N[i]? = some y) (hyl : X.env.scope.names.lookup y = some .local) (hsw : swapsWith (.ListComp elt [⟨tg, iter, ifs, 0⟩] scope pos) (some (.Name y py)) spos.line X.env = pure true) (ok : BlkOk X.N X.env.scope scope own)
    (h : DIS X tg iter δ ω fun G its ω1 => its.length ≤ 100000 ∧ ∃ Iv : Nat → List Sl → List Cell → Prop, (∀ i acc ω', Iv i acc ω' → G ω') ∧ Iv 0 [] ω1 ∧ LcTurnS X scope (own.map (·.2)) tg ifs elt δ its Iv ∧ ∀ acc ω', acc.length ≤ its.length → Iv its.length acc ω' → LcOut (fun r ω' => k.nx (δ.set i r) ω') acc ω')
    (hs : ∀ x, foldedSetIterable iter X.env x = pure x := by intro _; rfl) : D1 X (.Assign [.Name y py] (.ListComp elt [⟨tg, iter, ifs, 0⟩] scope pos) spos) δ ω k := fun B F H as σ w ev E o =>
  ⟨_, ps_setLc hc hN hy hyl hsw pi_w ok (fun s H0 C cl fp => ⟨fun pins s1 σ1 H1 v u Q1 I r hw => by obtain ⟨_, p, q⟩ := hw s H0 C cl fp; exact p.run pins s1 σ1 H1 v u Q1 I r q⟩)
    (fun s H0 C cl fp => ⟨fun pins s1 σ1 H1 Q1 I hw => by obtain ⟨_, p, q⟩ := hw s H0 C cl fp; exact p.run pins s1 σ1 H1 Q1 I q⟩)
    (fun s H0 C cl fp => ⟨fun pins s1 σ1 H1 Q1 I hw => by obtain ⟨_, p, q⟩ := hw s H0 C cl fp; exact p.run pins s1 σ1 H1 Q1 I q⟩) hs,
    lc_readS (P := fun r ω1 => k.nx (δ.set i r) ω1) h w ev _ fun v B1 H1 as1 r ω1 e1 p1 w1 s1 hp => (o.nx.up e1 p1).here w1 (envOk_set s1 i (envOk_up e1 p1 ev)) hp⟩
/-- each item gives one -/
theorem lcS_map {vs : List Nat} {its : List Sl} (f : Sl → Sl) (h : ∀ (i : Nat) (d : Sl), its[i]? = some d → Blk X scope fun Y => DGS Y vs tg d (wipeD δ vs) fun δ2 => Blk X scope fun Y => DE Y elt δ2 ω fun r ω3 => r.free = true ∧ r = f d ∧ ω3 = ω) :
    LcTurnS X scope vs tg [] elt δ its fun i acc ω' => ω' = ω ∧ acc = (its.take i).map f := by
  rintro i d acc ω' hd ⟨rfl, rfl⟩ s H C cl fp B H2 as σ v sb ev hv Q o
  refine h i d hd s H C cl fp B H2 as σ v sb ev hv Q fun σ' δ' ev' hl ha hk => o σ' δ' ev' hl ha ?_
  intro s H C cl fp
  refine dts_nil (iteT ?_)
  intro s H C cl fp
  refine (hk s H C cl fp).mono fun r ω3 ⟨hf, er, eω⟩ => ⟨hf, eω, ?_⟩
  rw [er, List.take_add_one, hd, List.map_append]
  rfl
theorem lcS_filt {vs : List Nat} {its : List Sl} (g : Sl → Bool) (f : Sl → Sl) (h : ∀ (i : Nat) (d : Sl), its[i]? = some d → Blk X scope fun Y => DGS Y vs tg d (wipeD δ vs) fun δ2 => (Blk X scope fun Y => DT Y c δ2 ω fun b ω2 => b = g d ∧ ω2 = ω) ∧ (g d = true → Blk X scope fun Y => DE Y elt δ2 ω fun r ω3 => r.free = true ∧ r = f d ∧ ω3 = ω)) :
    LcTurnS X scope vs tg [c] elt δ its fun i acc ω' => ω' = ω ∧ acc = ((its.take i).filter g).map f := by
  rintro i d acc ω' hd ⟨rfl, rfl⟩ s H C cl fp B H2 as σ v sb ev hv Q o
  refine h i d hd s H C cl fp B H2 as σ v sb ev hv Q fun σ' δ' ev' hl ha ⟨hk1, hk2⟩ => o σ' δ' ev' hl ha ?_
  intro s H C cl fp
  show DT _ c δ' ω' _
  refine (hk1 s H C cl fp).mono fun b ω2 ⟨eb, eω⟩ => ?_
  subst eω
  have et : its.take (i + 1) = its.take i ++ [d] := by
    rw [List.take_add_one, hd]
    rfl
  cases hg : g d with
  | true =>
    rw [eb, hg]
    refine iteT ?_
    intro s H C cl fp
    refine (hk2 hg s H C cl fp).mono fun r ω3 ⟨hf, er, eω⟩ => ⟨hf, eω, ?_⟩
    rw [er, et, List.filter_append, List.map_append, List.filter_cons, hg]
    rfl
  | false =>
    rw [eb, hg]
    refine iteF ⟨rfl, ?_⟩
    rw [et, List.filter_append, List.map_append, List.filter_cons, hg]
    exact (List.append_nil _).symm
theorem lcS_mapA {α : Type} {vs : List Nat} {src : List α} (emb f : α → Sl) (h : ∀ (i : Nat) (x : α), src[i]? = some x → Blk X scope fun Y => DGS Y vs tg (emb x) (wipeD δ vs) fun δ2 => Blk X scope fun Y => DE Y elt δ2 ω fun r ω3 => r.free = true ∧ r = f x ∧ ω3 = ω) :
    LcTurnS X scope vs tg [] elt δ (src.map emb) fun i acc ω' => ω' = ω ∧ acc = (src.take i).map f := by
  rintro i d acc ω' hd ⟨rfl, rfl⟩ s H C cl fp B H2 as σ v sb ev hv Q o
  obtain ⟨x, hx, rfl⟩ : ∃ x, src[i]? = some x ∧ d = emb x := by
    rw [List.getElem?_map] at hd
    cases hz : src[i]? with
    | none =>
      rw [hz] at hd
      cases hd
    | some x =>
      rw [hz] at hd
      cases hd
      exact ⟨x, rfl, rfl⟩
  refine h i x hx s H C cl fp B H2 as σ v sb ev hv Q fun σ' δ' ev' hl ha hk => o σ' δ' ev' hl ha ?_
  intro s H C cl fp
  refine dts_nil (iteT ?_)
  intro s H C cl fp
  refine (hk s H C cl fp).mono fun r ω3 ⟨hf, er, eω⟩ => ⟨hf, eω, ?_⟩
  rw [er, List.take_add_one, hx, List.map_append]
  rfl
theorem lcS_filtA {α : Type} {vs : List Nat} {src : List α} (emb : α → Sl) (g : α → Bool) (f : α → Sl) (h : ∀ (i : Nat) (x : α), src[i]? = some x → Blk X scope fun Y => DGS Y vs tg (emb x) (wipeD δ vs) fun δ2 => (Blk X scope fun Y => DT Y c δ2 ω fun b ω2 => b = g x ∧ ω2 = ω) ∧ (g x = true → Blk X scope fun Y => DE Y elt δ2 ω fun r ω3 => r.free = true ∧ r = f x ∧ ω3 = ω)) :
    LcTurnS X scope vs tg [c] elt δ (src.map emb) fun i acc ω' => ω' = ω ∧ acc = ((src.take i).filter g).map f := by
  rintro i d acc ω' hd ⟨rfl, rfl⟩ s H C cl fp B H2 as σ v sb ev hv Q o
  obtain ⟨x, hx, rfl⟩ : ∃ x, src[i]? = some x ∧ d = emb x := by
    rw [List.getElem?_map] at hd
    cases hz : src[i]? with
    | none =>
      rw [hz] at hd
      cases hd
    | some x =>
      rw [hz] at hd
      cases hd
      exact ⟨x, rfl, rfl⟩
  refine h i x hx s H C cl fp B H2 as σ v sb ev hv Q fun σ' δ' ev' hl ha ⟨hk1, hk2⟩ => o σ' δ' ev' hl ha ?_
  intro s H C cl fp
  show DT _ c δ' ω' _
  refine (hk1 s H C cl fp).mono fun b ω2 ⟨eb, eω⟩ => ?_
  subst eω
  have et : src.take (i + 1) = src.take i ++ [x] := by
    rw [List.take_add_one, hx]
    rfl
  cases hg : g x with
  | true =>
    rw [eb, hg]
    refine iteT ?_
    intro s H C cl fp
    refine (hk2 hg s H C cl fp).mono fun r ω3 ⟨hf, er, eω⟩ => ⟨hf, eω, ?_⟩
    rw [er, et, List.filter_append, List.map_append, List.filter_cons, hg]
    rfl
  | false =>
    rw [eb, hg]
    refine iteF ⟨rfl, ?_⟩
    rw [et, List.filter_append, List.map_append, List.filter_cons, hg]
    exact (List.append_nil _).symm
theorem zipS_map {α β : Type} (f : α → Sl) (g : β → Sl) (l : List α) (m : List β) : zipS (l.map f) (m.map g) = (l.zip m).map fun p => .kn (tupK [f p.1, g p.2]) := by
  unfold zipS
  rw [List.zip_map, List.map_map]
  rfl
end
end
section
/-! tuples that are known to be plain: count of what stands in them -/
def tupC (ds : List D) : Cell := .gn fun K B o _ => ∃ ob ys, o = .frz ob (.tup ys) ∧ ob.cls = .type "tuple" ∧ ob.dict = none ∧ DpAll K B ys ds
section
variable {X : Cx} {e o : Expr} {δ : List Sl} {ω : List Cell} {P : Sl → List Cell → Prop} {pos : Pos}
theorem call_tupleF : CallR X (.type "tuple") (fun xs H Q => ∃ p ys, xs = [.ref p] ∧ SqL X.K H p ys ∧ ∀ l ob, H l = none → ob.cls = .type "tuple" → ob.dict = none → Q (.ref l) (upd H l (.frz ob (.tup ys)))) := by
  intro pins s σ H xs us Q I r h
  obtain ⟨p, ys, rfl, hq, q⟩ := h
  obtain ⟨u, rfl, rx⟩ := vals1 r
  cases rx
  obtain ⟨its, r', pl, hz⟩ := I.list hq
  have hlen := r'.length
  refine call_tuple_list pl.isList (fun h' kp => ?_) (by simp only [List.size_toArray] <;> omega)
  have I1 : Inv X pins σ H { s with heap := h' } := I.kept (t' := s.toks) kp
  have I2 : Inv X pins σ (upd H h'.objs.size (.frz { cls := .type "tuple", data := .seq its.toArray } (.tup ys))) { s with heap := h'.push { cls := .type "tuple", data := .seq its.toArray } } :=
    I1.laid (t' := s.toks) (fun b o e => Heap.get?_push_of_some _ e) (Nat.le_refl _) (show ObjOk X.prog X.w _ _ _ (.frz _ (.tup ys)) from ⟨Heap.get?_push_size _ rfl, hz, its, r', IsTup.new _ _⟩)
  exact ⟨.ref h'.objs.size, _, I2, rfl, q _ _ (I1.hok.fresh (Nat.le_refl _)) rfl rfl⟩
theorem ra_tupF {r : Sl} {ds : List D} (hq : Seq ω r ds) (hl : r ≠ .val (.tuple ds)) (hp : P (.own ω.length) (ω ++ [tupC ds])) :
    RA X (fun xs H Q => ∃ p ys, xs = [.ref p] ∧ SqL X.K H p ys ∧ ∀ l ob, H l = none → ob.cls = .type "tuple" → ob.dict = none → Q (.ref l) (upd H l (.frz ob (.tup ys)))) [r] ω P := fun B F H as vs w s Q o => by
  obtain ⟨v, rfl, s1⟩ := rs1 s
  have fin : ∀ ys, DpAll X.K B ys ds → ∀ l ob, H l = none → ob.cls = .type "tuple" → ob.dict = none → Q (.ref l) (upd H l (.frz ob (.tup ys))) := fun ys hd l ob hl hc hn => by
    have w2 := w.own (o := .frz ob (.tup ys)) (c := tupC ds) hl (fun hb => ⟨hb, B, _, Same.refl _, upd_same, ob, ys, rfl, hc, hn, hd⟩)
    refine o _ B _ (as ++ [l]) (.own ω.length) _ (Same.refl _) (List.prefix_append _ _) w2 ⟨l, rfl, ?_⟩ hp
    rw [← w.len, List.getElem?_append_right (Nat.le_refl _), Nat.sub_self]
    rfl
  cases hq with
  | tup => exact absurd rfl hl
  | lst =>
    obtain ⟨a, xs, rfl, h2, h3⟩ := slv_lst s1 w.b
    exact ⟨a, xs, rfl, h2, fun l ob => fin xs h3 l ob⟩
  | own hc =>
    obtain ⟨a, xs, rfl, _, h2, h3⟩ := slo_lst w s1 hc
    exact ⟨a, xs, rfl, SqL.of h2, fun l ob => fin xs h3 l ob⟩
/-! ### count -/
theorem countP_vals {k : V} : ∀ {ys : List V} {its : List Value}, Vals ys its → ys.all flatV = true → its.countP (eqU k) = ys.countP fun y => eqV y k
  | _, _, .nil, _ => rfl
  | y :: ys, z :: its, .cons r q, h => by
    rw [List.all_cons, Bool.and_eq_true] at h
    rw [List.countP_cons, List.countP_cons, countP_vals q h.2, eqU_of r h.1]
def rCntT (K : Fg) : V → List V → Hp → VK → Prop := fun x xs H Q => ∃ (p : Addr) (ys : List V) (k : V), x = .ref p ∧ xs = [k] ∧ flatV k = true ∧ ys.all flatV = true ∧ SqT K H p ys ∧ Q (.int (ys.countP fun y => eqV y k : Nat)) H
theorem mt_tcount : MtR X "tuple.count" (rCntT X.K) := by
  intro pins s σ H x xs v us Q I rx rxs h
  obtain ⟨p, ys, k, rfl, rfl, hk, hys, hs, q⟩ := h
  cases rx
  obtain ⟨u, rfl, ru⟩ := rxs.one
  obtain ⟨its, rv, pl, hz⟩ := I.tuple hs
  obtain ⟨⟨cls, dd, dt, sl⟩, ho, hc, n, hd⟩ := pl
  simp only at hc hd
  subst hc hd
  refine call_meets PySem.F.slot_tuple_count ⟨_, ho, rfl⟩ PySem.F.entry_tuple_count (PySem.F.args_tuple_count_2 _ _)
    (SeqAt.tuple_countAt p its.toArray n dd sl u (eqU k)) ⟨ho, fun y hy => mem_eqAt ru hk rv hys y (by simpa using hy), ?_⟩
  refine ⟨.int (ys.countP fun y => eqV y k : Nat), H, I.tok _, ⟨s.toks, ?_⟩, q⟩
  have ec : its.toArray.toList.countP (eqU k) = ys.countP fun y => eqV y k := countP_vals rv hys
  rw [ec]
def tyF (T : String) (x : V) (H : Hp) : Prop := ∃ p ob u, x = .ref p ∧ H p = some (.frz ob u) ∧ ob.cls = .type T ∧ ob.dict = none
def tBMF (T : String) (r : V → List V → Hp → VK → Prop) (to : TE) (t : TA) : TE := fun σ H Q => to σ H fun x H1 => tyF T x H1 ∧ t σ H1 fun xs H2 => r x xs H2 Q
theorem pe_bmF {es : List Expr} {to : TE} {t : TA} {name : Str} {apos cpos : Pos} {T id : String} {r : V → List V → Hp → VK → Prop} (pa : PlainAttrs T) (slot : Slot T name id) (hty : typeOf (.builtin id) = pure (.type "method_descriptor")) (hm : MtR X id r) (ho : PE X o to) (ha : PA X (e :: es) t)
    (hbase : attributeBase o name X.env (eval o X.env) = eval o X.env := by rfl)
    (hfew : ((backTo cpos (starEach (e :: es) X.env)).all (fun x => !x.1) && (backToKw cpos (keywordEach [] X.env)).all (fun x => x.1.isSome)
      && decide ((e :: es).length + ([] : List Keyword).length + (if ([] : List Keyword).isEmpty then 0 else 1) < 30)) = true := by rfl)
    (hline : (apos.endLine == cpos.line) = true := by rfl) (hs : starEach (e :: es) X.env = (false, eval e X.env) :: starEach es X.env := by rfl) (hplain : (backTo cpos (starEach es X.env)).any (·.1) = false := by rfl) :
    PE X (.Call (.Attribute o name apos) (e :: es) [] cpos) (tBMF T r to t) := by
  refine ⟨fun pins s σ H Q I h => ?_⟩
  refine wpAny_Call_method_late hbase hfew hline rfl (L2.thn (ho.run pins s σ H _ I h) fun v s1 ⟨x, H1, I1, r1, ⟨p, ob, u, hx, hp, hc, hd⟩, q1⟩ => ?_)
  subst hx
  cases r1
  have hg := (I1.hok p _ hp).1
  refine ⟨T, id, pa, slot, hty, ⟨ob, hg, hc⟩, fun a e => ?_, ?_⟩
  · cases e
    exact ⟨ob, hg, hd⟩
  have hA := ha.run cpos pins s1 σ H1 _ I1 q1
  rw [hs] at hA ⊢
  refine Calls.callWith_builtin (by show (false || (backTo cpos (starEach es X.env)).any (·.1)) = false; rw [hplain] <;> rfl) (Calls.evalArgs_plain ?_)
  exact L2.thn hA fun us s2 ⟨vs, H2, I2, r2, q2⟩ => hm pins s2 σ H2 (.ref p) vs _ us Q I2 rfl r2 q2
def cntD (ds : List D) (d : D) : Nat := (ds.map fv).countP fun y => eqV y (fv d)
theorem slo_tupC {K : Fg} {B F H : Hp} {as : List Addr} {v : V} {k : Nat} {ds : List D} (w : Wd K B F H as ω) (s : SlOk K B as (some v) (.own k)) (hc : ω[k]? = some (tupC ds)) : ∃ a ob ys, v = .ref a ∧ H a = some (.frz ob (.tup ys)) ∧ ob.cls = .type "tuple" ∧ ob.dict = none ∧ DpAll K B ys ds := by
  obtain ⟨a, h1, h2⟩ := sl_own s
  obtain ⟨_, B0, o, sb, h3, ob, ys, rfl, h4, h5, h6⟩ := (w.at' k a _ h2 hc).2.2
  exact ⟨a, ob, ys, h1, h3, h4, h5, dpAll_up sb h6⟩
theorem de_countF {apos cpos : Pos} (h : DE X o δ ω fun r ω1 => ∃ kx ds, r = .own kx ∧ ω1[kx]? = some (tupC ds) ∧ DE X e δ ω1 fun s ω2 => ∃ d, s = .val d ∧ flat d = true ∧ ds.all flat = true ∧ ω2[kx]? = some (tupC ds) ∧ P (.val (.int (cntD ds d : Nat))) ω2)
    (hbase : attributeBase o "count" X.env (eval o X.env) = eval o X.env := by rfl)
    (hfew : ((backTo cpos (starEach (e :: []) X.env)).all (fun x => !x.1) && (backToKw cpos (keywordEach [] X.env)).all (fun x => x.1.isSome) && decide ((e :: ([] : List Expr)).length + ([] : List Keyword).length + (if ([] : List Keyword).isEmpty then 0 else 1) < 30)) = true := by rfl)
    (hline : (apos.endLine == cpos.line) = true := by rfl) (hs : starEach (e :: []) X.env = (false, eval e X.env) :: starEach [] X.env := by rfl) (hplain : (backTo cpos (starEach [] X.env)).any (·.1) = false := by rfl) :
    DE X (.Call (.Attribute o "count" apos) [e] [] cpos) δ ω P := fun B F H as σ w ev Q oo => by
  refine ⟨_, pe_bmF PySem.F.plainAttrs_tuple PySem.F.slot_tuple_count PySem.F.type_tuple_count mt_tcount pe_w (pa_cons pe_w pa_nil hs) hbase hfew hline hs hplain, ?_⟩
  refine h B F H as σ w ev _ fun v B1 H1 as1 r ω1 e1 p1 w1 s1 ⟨kx, ds, er, hk, q1⟩ => ?_
  subst er
  obtain ⟨a, ob, xs, rfl, h1, h2, h3, h4⟩ := slo_tupC w1 s1 hk
  refine ⟨⟨a, ob, _, rfl, h1, h2, h3⟩, ?_⟩
  refine q1 B1 F H1 as1 σ w1 (envOk_up e1 p1 ev) _ fun u B2 H2 as2 r2 ω2 e2 p2 w2 s2 ⟨d, er2, hfd, hfa, hk2, hp⟩ => ?_
  subst er2
  obtain ⟨a', ob', ys, ea, h5, h6, h7, h8⟩ := slo_tupC w2 (slOk_up e2 p2 s1) hk2
  cases ea
  obtain ⟨f1, f2⟩ := dp_flat (sl_val s2) hfd
  obtain ⟨f3, f4⟩ := dpAll_flat h8 hfa
  refine ⟨a, ys, u, rfl, rfl, f2, f4, .inl (.inr ⟨_, h5⟩), ?_⟩
  rw [f1, f3]
  exact (oo.up (e1.trans e2) (p1.trans p2)).here w2 (.int _) hp
end
end
section
/-! instances whose attributes are slots -/
abbrev AtS (K : Fg) (B : Hp) : List (Str × V) → List (Str × Sl) → Prop := Paired fun p q => p.1 = q.1 ∧ SlOk K B [] (some p.2) q.2
theorem ats_up {K : Fg} {B B' : Hp} (e : Same B B') : ∀ {a : List (Str × V)} {b : List (Str × Sl)}, AtS K B a b → AtS K B' a b
  | _, _, .nil => .nil
  | _, _, .cons h q => .cons ⟨h.1, slOk_up e (List.prefix_refl _) h.2⟩ (ats_up e q)
theorem ats_get {K : Fg} {B : Hp} {f : Str} {r : Sl} : ∀ {a : List (Str × V)} {b : List (Str × Sl)}, AtS K B a b → b.lookup f = some r → ∃ v, a.lookup f = some v ∧ SlOk K B [] (some v) r
  | _, _, .nil, h => by simp at h
  | (x, v) :: a, (y, c) :: b, .cons h q, e => by
    have hx : x = y := h.1
    subst hx
    by_cases hf : (f == x) = true
    · rw [List.lookup_cons, hf] at e ⊢
      cases e
      exact ⟨v, rfl, h.2⟩
    · rw [List.lookup_cons, Bool.eq_false_iff.mpr hf] at e ⊢
      exact ats_get q e
theorem ats_none {K : Fg} {B : Hp} {f : Str} : ∀ {a : List (Str × V)} {b : List (Str × Sl)}, AtS K B a b → b.lookup f = none → a.lookup f = none
  | _, _, .nil, _ => rfl
  | (x, v) :: a, (y, c) :: b, .cons h q, e => by
    have hx : x = y := h.1
    subst hx
    by_cases hf : (f == x) = true
    · rw [List.lookup_cons, hf] at e
      cases e
    · rw [List.lookup_cons, Bool.eq_false_iff.mpr hf] at e ⊢
      exact ats_none q e
def putS (f : Str) (r : Sl) : List (Str × Sl) → List (Str × Sl)
  | [] => [(f, r)]
  | (g, x) :: l => if g = f then (g, r) :: l else (g, x) :: putS f r l
theorem putS_len (f : Str) (r : Sl) : ∀ fs : List (Str × Sl), (putS f r fs).length ≤ fs.length + 1
  | [] => Nat.le_refl _
  | (g, x) :: l => by
    show (if g = f then (g, r) :: l else (g, x) :: putS f r l).length ≤ _
    by_cases e : g = f
    · rw [if_pos e]
      exact Nat.le_succ _
    · rw [if_neg e]
      exact Nat.succ_le_succ (putS_len f r l)
theorem ats_put {K : Fg} {B : Hp} {f : Str} {v : V} {r : Sl} (hv : SlOk K B [] (some v) r) : ∀ {a : List (Str × V)} {b : List (Str × Sl)}, AtS K B a b → AtS K B (L2.putF f v a) (putS f r b)
  | _, _, .nil => .cons ⟨rfl, hv⟩ .nil
  | (x, u) :: a, (y, c) :: b, .cons h q => by
    have hx : x = y := h.1
    subst hx
    show AtS K B (if x = f then (x, v) :: a else (x, u) :: L2.putF f v a) (if x = f then (x, r) :: b else (x, c) :: putS f r b)
    by_cases e : x = f
    · rw [if_pos e, if_pos e]
      exact .cons ⟨rfl, hv⟩ q
    · rw [if_neg e, if_neg e]
      exact .cons ⟨rfl, h.2⟩ (ats_put hv q)
theorem ats_len {K : Fg} {B : Hp} {a : List (Str × V)} {b : List (Str × Sl)} (h : AtS K B a b) : a.length = b.length := Paired.length h
/-- known for good: an instance; the thing at an address; a tuple as it was made -/
def insI (C : Addr) (fs : List (Str × Sl)) : Fg → Hp → V → Prop := fun K B v => ∃ a dx vs, v = .ref a ∧ B a = some (.ins C dx vs) ∧ AtS K B vs fs
def refK (x : Addr) : Fg → Hp → V → Prop := fun _ _ v => v = .ref x
def ftupK (ds : List D) : Fg → Hp → V → Prop := fun K B v => ∃ a ob ys, v = .ref a ∧ B a = some (.frz ob (.tup ys)) ∧ ob.cls = .type "tuple" ∧ ob.dict = none ∧ DpAll K B ys ds
/-- owned: the instance at x, its dict at dx; the list at x -/
def insA (C dx x : Addr) (fs : List (Str × Sl)) : Cell := .gn fun K B o a => a = x ∧ ∃ vs, o = .ins C dx vs ∧ AtS K B vs fs
def lstA (x : Addr) (ds : List D) : Cell := .gn fun K B o a => a = x ∧ ∃ xs, o = .lst xs ∧ DpAll K B xs ds
theorem slk_insI {K : Fg} {B : Hp} {as : List Addr} {v : V} {C : Addr} {fs : List (Str × Sl)} (s : SlOk K B as (some v) (.kn (insI C fs))) : insI C fs K B v := by
  obtain ⟨v', B0, e, sb, a, dx, vs, h1, h2, h3⟩ := s
  cases e
  exact ⟨a, dx, vs, h1, sb _ _ h2, ats_up sb h3⟩
theorem slk_ref {K : Fg} {B : Hp} {as : List Addr} {v : V} {x : Addr} (s : SlOk K B as (some v) (.kn (refK x))) : v = .ref x := by
  obtain ⟨v', B0, e, sb, h⟩ := s
  cases e
  exact h
theorem slk_ftup {K : Fg} {B : Hp} {as : List Addr} {v : V} {ds : List D} (s : SlOk K B as (some v) (.kn (ftupK ds))) : ftupK ds K B v := by
  obtain ⟨v', B0, e, sb, a, ob, ys, h1, h2, h3, h4, h5⟩ := s
  cases e
  exact ⟨a, ob, ys, h1, sb _ _ h2, h3, h4, dpAll_up sb h5⟩
theorem cell_insA {K : Fg} {B F H : Hp} {as : List Addr} {ω : List Cell} {k : Nat} {C dx x : Addr} {fs : List (Str × Sl)} (w : Wd K B F H as ω) (hc : ω[k]? = some (insA C dx x fs)) : as[k]? = some x ∧ B x = none ∧ ∃ vs, H x = some (.ins C dx vs) ∧ AtS K B vs fs := by
  have hk : k < as.length := by
    rw [w.len]
    exact (List.getElem?_eq_some_iff.mp hc).1
  obtain ⟨hb, B0, o, sb, h3, hx, vs, rfl, h4⟩ := (w.at' k _ _ (List.getElem?_eq_getElem hk) hc).2.2
  have ha := List.getElem?_eq_getElem hk
  rw [hx] at ha hb h3
  exact ⟨ha, hb, vs, h3, ats_up sb h4⟩
theorem cell_lstA {K : Fg} {B F H : Hp} {as : List Addr} {ω : List Cell} {k : Nat} {x : Addr} {ds : List D} (w : Wd K B F H as ω) (hc : ω[k]? = some (lstA x ds)) : as[k]? = some x ∧ B x = none ∧ ∃ xs, H x = some (.lst xs) ∧ DpAll K B xs ds := by
  have hk : k < as.length := by
    rw [w.len]
    exact (List.getElem?_eq_some_iff.mp hc).1
  obtain ⟨hb, B0, o, sb, h3, hx, xs, rfl, h4⟩ := (w.at' k _ _ (List.getElem?_eq_getElem hk) hc).2.2
  have ha := List.getElem?_eq_getElem hk
  rw [hx] at ha hb h3
  exact ⟨ha, hb, xs, h3, dpAll_up sb h4⟩
section
variable {X : Cx} {e o value a b c : Expr} {es : List Expr} {δ : List Sl} {ω : List Cell} {P : PO1} {T : Bool → List Cell → Prop} {pos apos pos' cpos : Pos} {f : Str} {k : Kd}
theorem ref_slot {K : Fg} {B : Hp} {as : List Addr} {x : Addr} : SlOk K B as (some (.ref x)) (.kn (refK x)) := ⟨_, B, rfl, Same.refl _, rfl⟩
/-- a tuple as it was made is a datum -/
theorem DE.asF (h : DE X e δ ω fun r ω1 => ∃ ds, r = .kn (ftupK ds) ∧ P (.val (.tuple ds)) ω1) : DE X e δ ω P := fun B F H as σ w ev Q oo => by
  refine h B F H as σ w ev _ fun v B1 H1 as1 r ω1 e1 p1 w1 s1 ⟨ds, er, hp⟩ => ?_
  subst er
  obtain ⟨a, ob, ys, rfl, h2, _, _, h5⟩ := slk_ftup s1
  exact oo (.ref a) B1 H1 as1 _ ω1 e1 p1 w1 (slv (.tup (.inl (.inr ⟨ob, h2⟩)) h5)) hp
/-- an owned list gets to be known by its address -/
theorem DE.tagL (h : DE X e δ ω fun r ω1 => ∃ (kx : Nat) (ds : List D), r = .own kx ∧ ω1[kx]? = some (.lst ds) ∧ ∀ x, P (.kn (refK x)) (ω1.set kx (lstA x ds))) : DE X e δ ω P := fun B F H as σ w ev Q oo => by
  refine h B F H as σ w ev _ fun v B1 H1 as1 r ω1 e1 p1 w1 s1 ⟨kx, ds, er, hk, hp⟩ => ?_
  subst er
  obtain ⟨a, rfl, ha⟩ := sl_own s1
  obtain ⟨hb, xs, h1, h2⟩ := w1.cellL ha hk
  have hl : kx < ω1.length := (List.getElem?_eq_some_iff.mp hk).1
  have w2 : Wd X.K B1 F H1 as1 (ω1.set kx (lstA a ds)) := by
    refine ⟨w1.b, w1.f, by rw [List.length_set]; exact w1.len, w1.nd, fun j x c e1 e2 => ?_⟩
    by_cases hj : j = kx
    · subst hj
      rw [ha] at e1
      cases e1
      rw [List.getElem?_set_self hl] at e2
      cases e2
      obtain ⟨q1, q2, _⟩ := w1.at' j a _ ha hk
      exact ⟨q1, q2, hb, B1, _, Same.refl _, h1, rfl, xs, rfl, h2⟩
    · rw [List.getElem?_set_ne (Ne.symm hj)] at e2
      exact w1.at' j x c e1 e2
  exact oo (.ref a) B1 H1 as1 _ _ e1 p1 w2 ref_slot (hp a)
/-! ### attributes -/
theorem de_attrI (h : DE X e δ ω fun r ω1 => ∃ C fs d, r = .kn (insI C fs) ∧ Cls X.K C ∧ NoAttr X.K C f ∧ fs.lookup f = some d ∧ P d ω1) (hb : attributeBase e f X.env (eval e X.env) = eval e X.env := by rfl) : DE X (.Attribute e f pos) δ ω P := fun B F H as σ w ev Q oo => by
  refine ⟨_, pe_fld pe_w hb, ?_⟩
  refine h B F H as σ w ev _ fun v B1 H1 as1 r ω1 e1 p1 w1 s1 ⟨C, fs, d, er, c, n, hl, hp⟩ => ?_
  subst er
  obtain ⟨a, dx, vs, rfl, h2, h3⟩ := slk_insI s1
  obtain ⟨u, hu, hd⟩ := ats_get h3 hl
  exact ⟨a, C, dx, vs, u, rfl, w1.b _ _ h2, c, n, hu, oo u B1 H1 as1 _ ω1 e1 p1 w1 (slOk_up (Same.refl _) List.nil_prefix hd) hp⟩
theorem de_attrA (h : DE X e δ ω fun r ω1 => ∃ (kx : Nat) (C dx x : Addr) (fs : List (Str × Sl)) (d : Sl), r = .kn (refK x) ∧ ω1[kx]? = some (insA C dx x fs) ∧ Cls X.K C ∧ NoAttr X.K C f ∧ fs.lookup f = some d ∧ P d ω1) (hb : attributeBase e f X.env (eval e X.env) = eval e X.env := by rfl) : DE X (.Attribute e f pos) δ ω P := fun B F H as σ w ev Q oo => by
  refine ⟨_, pe_fld pe_w hb, ?_⟩
  refine h B F H as σ w ev _ fun v B1 H1 as1 r ω1 e1 p1 w1 s1 ⟨kx, C, dx, x, fs, d, er, hk, c, n, hl, hp⟩ => ?_
  subst er
  obtain rfl := slk_ref s1
  obtain ⟨ha, hb, vs, hh, h3⟩ := cell_insA w1 hk
  obtain ⟨u, hu, hd⟩ := ats_get h3 hl
  exact ⟨x, C, dx, vs, u, rfl, hh, c, n, hu, oo u B1 H1 as1 _ ω1 e1 p1 w1 (slOk_up (Same.refl _) List.nil_prefix hd) hp⟩
theorem d1_setAttrA (h : DE X value δ ω fun rv ω1 => DE X o δ ω1 fun r ω2 => ∃ (kx : Nat) (C dx x : Addr) (fs : List (Str × Sl)), rv.free = true ∧ r = .kn (refK x) ∧ ω2[kx]? = some (insA C dx x fs) ∧ Cls X.K C ∧ NoAttr X.K C f ∧ fs.length < 1000 ∧ k.nx δ (ω2.set kx (insA C dx x (putS f rv fs))))
    (hs : swapsWith value (some (.Attribute o f pos')) pos.line X.env = pure false := by rfl) : D1 X (.Assign [.Attribute o f pos'] value pos) δ ω k := fun B F H as σ w ev E oo => by
  refine ⟨_, ps_fld pe_w pe_w hs, ?_⟩
  refine h B F H as σ w ev _ fun y B1 H1 as1 rv ω1 e1 p1 w1 s1 q1 => ?_
  refine q1 B1 F H1 as1 σ w1 (envOk_up e1 p1 ev) _ fun v B2 H2 as2 r ω2 e2 p2 w2 s2 ⟨kx, C, dx, x, fs, hfr, er, hk, c, n, hz, hp⟩ => ?_
  subst er
  obtain rfl := slk_ref s2
  obtain ⟨ha, hb, vs, hh, h3⟩ := cell_insA w2 hk
  have hd : SlOk X.K B2 [] (some y) rv := sl_free hfr (slOk_up e2 p2 s1)
  refine ⟨x, C, dx, vs, rfl, hh, c, n, by rw [ats_len h3]; exact hz, ?_⟩
  have w3 := w2.write (c' := insA C dx x (putS f rv fs)) (o := .ins C dx (L2.putF f y vs)) ha hk hb ⟨hb, B2, _, Same.refl _, upd_same, rfl, _, rfl, ats_put hd h3⟩
  exact (oo.nx.up (e1.trans e2) (p1.trans p2)).here w3 (envOk_up (e1.trans e2) (p1.trans p2) ev) hp

/-! ### tuples as they are made -/
theorem ra_tupFK {r : Sl} {ds : List D} (hq : Seq ω r ds) (hl : r ≠ .val (.tuple ds)) (hp : P (.kn (ftupK ds)) ω) :
    RA X (fun xs H Q => ∃ p ys, xs = [.ref p] ∧ SqL X.K H p ys ∧ ∀ l ob, H l = none → ob.cls = .type "tuple" → ob.dict = none → Q (.ref l) (upd H l (.frz ob (.tup ys)))) [r] ω P := fun B F H as vs w s Q o => by
  obtain ⟨v, rfl, s1⟩ := rs1 s
  have fin : ∀ ys, DpAll X.K B ys ds → ∀ l ob, H l = none → ob.cls = .type "tuple" → ob.dict = none → Q (.ref l) (upd H l (.frz ob (.tup ys))) := fun ys hd l ob hl hc hn =>
    o.kn w hl ⟨l, ob, ys, rfl, upd_same, hc, hn, dpAll_up (w.new (o := .frz ob (.tup ys)) hl).2 hd⟩ hp
  cases hq with
  | tup => exact absurd rfl hl
  | lst =>
    obtain ⟨a, xs, rfl, h2, h3⟩ := slv_lst s1 w.b
    exact ⟨a, xs, rfl, h2, fun l ob => fin xs h3 l ob⟩
  | own hc =>
    obtain ⟨a, xs, rfl, _, h2, h3⟩ := slo_lst w s1 hc
    exact ⟨a, xs, rfl, SqL.of h2, fun l ob => fin xs h3 l ob⟩
def rIxT (K : Fg) : V → List V → Hp → VK → Prop := fun x xs H Q => ∃ (p : Addr) (ys : List V) (k z : V) (j : Nat), x = .ref p ∧ xs = [k] ∧ flatV k = true ∧ ys.all flatV = true ∧ SqT K H p ys ∧ ys[j]? = some z ∧ eqV z k = true ∧ (∀ m z', m < j → ys[m]? = some z' → eqV z' k = false) ∧ Q (.int (j : Nat)) H
theorem mt_tindex : MtR X "tuple.index" (rIxT X.K) := by
  intro pins s σ H x xs v us Q I rx rxs h
  obtain ⟨p, ys, k, z, j, rfl, rfl, hk, hys, hs, hj, hz, hno, q⟩ := h
  cases rx
  obtain ⟨u, rfl, ru⟩ := rxs.one
  obtain ⟨its, rv, pl, _⟩ := I.tuple hs
  obtain ⟨⟨cls, dd, dt, sl⟩, ho, hc, n, hd⟩ := pl
  simp only at hc hd
  subst hc hd
  have hl : its.toArray.size = ys.length := by rw [List.size_toArray, ← rv.length]
  have hjl : j < its.toArray.size := by rw [hl]; exact (List.getElem?_eq_some_iff.mp hj).1
  have at' : ∀ (m : Nat) (hm : m < its.toArray.size), ∃ y, ys[m]? = some y ∧ eqU k its.toArray[m] = eqV y k := fun m hm => by
    have hm' : m < ys.length := by rw [← hl]; exact hm
    obtain ⟨w, hw, hr⟩ := rv.get (List.getElem?_eq_getElem hm')
    have e := (List.getElem?_eq_some_iff.mp hw).2
    refine ⟨ys[m], List.getElem?_eq_getElem hm', ?_⟩
    have hf : flatV ys[m] = true := List.all_eq_true.mp hys _ (List.getElem_mem _)
    have e2 : its.toArray[m] = w := by rw [← e]; simp
    rw [e2, eqU_of hr hf]
  refine call_meets PySem.F.slot_tuple_index ⟨_, ho, rfl⟩ PySem.F.entry_tuple_index (PySem.F.args_tuple_index_2 _ _) (_root_.TI.tuple_indexAt p its.toArray n dd sl u (eqU k) j hjl ?_ ?_)
    ⟨ho, fun y hy => mem_eqAt ru hk rv hys y (by simpa using hy), ⟨.int (j : Nat), H, I.tok _, ⟨_, rfl⟩, q⟩⟩
  · obtain ⟨y, h1, h2⟩ := at' j hjl
    rw [hj] at h1
    cases h1
    rw [h2, hz]
  · intro m hm hmj
    obtain ⟨y, h1, h2⟩ := at' m hm
    rw [h2]
    exact hno m y hmj h1
theorem de_indexF (h : DE X o δ ω fun r ω1 => ∃ ds, r = .kn (ftupK ds) ∧ DE X e δ ω1 fun s ω2 => ∃ (d z : D) (j : Nat), s = .val d ∧ flat d = true ∧ ds.all flat = true ∧ ds[j]? = some z ∧ eqV (fv z) (fv d) = true ∧ (∀ (m : Nat) (z' : D), m < j → ds[m]? = some z' → eqV (fv z') (fv d) = false) ∧ P (.val (.int (j : Nat))) ω2)
    (hbase : attributeBase o "index" X.env (eval o X.env) = eval o X.env := by rfl)
    (hfew : ((backTo cpos (starEach (e :: []) X.env)).all (fun x => !x.1) && (backToKw cpos (keywordEach [] X.env)).all (fun x => x.1.isSome) && decide ((e :: ([] : List Expr)).length + ([] : List Keyword).length + (if ([] : List Keyword).isEmpty then 0 else 1) < 30)) = true := by rfl)
    (hline : (apos.endLine == cpos.line) = true := by rfl) (hs : starEach (e :: []) X.env = (false, eval e X.env) :: starEach [] X.env := by rfl) (hplain : (backTo cpos (starEach [] X.env)).any (·.1) = false := by rfl) :
    DE X (.Call (.Attribute o "index" apos) [e] [] cpos) δ ω P := fun B F H as σ w ev Q oo => by
  refine ⟨_, pe_bmF PySem.F.plainAttrs_tuple PySem.F.slot_tuple_index PySem.F.type_tuple_index mt_tindex pe_w (pa_cons pe_w pa_nil hs) hbase hfew hline hs hplain, ?_⟩
  refine h B F H as σ w ev _ fun v B1 H1 as1 r ω1 e1 p1 w1 s1 ⟨ds, er, q1⟩ => ?_
  subst er
  obtain ⟨a, ob, ys, rfl, h2, h3, h4, h5⟩ := slk_ftup s1
  refine ⟨⟨a, ob, _, rfl, w1.b _ _ h2, h3, h4⟩, ?_⟩
  refine q1 B1 F H1 as1 σ w1 (envOk_up e1 p1 ev) _ fun u B2 H2 as2 r2 ω2 e2 p2 w2 s2 ⟨d, z, j, er2, hf, hall, hj, hz, hno, hp⟩ => ?_
  subst er2
  obtain ⟨eu, fu⟩ := dp_flat (sl_val s2) hf
  obtain ⟨ey, fy⟩ := dpAll_flat (dpAll_up e2 h5) hall
  subst eu ey
  refine ⟨a, _, fv d, fv z, j, rfl, rfl, fu, fy, .inl (.inr ⟨ob, w2.b _ _ (e2 _ _ h2)⟩), by rw [List.getElem?_map, hj]; rfl, hz, fun m z' hm hz' => ?_, (oo.up (e1.trans e2) (p1.trans p2)).here w2 (.int _) hp⟩
  rw [List.getElem?_map] at hz'
  cases hd : ds[m]? with
  | none =>
    rw [hd] at hz'
    cases hz'
  | some d' =>
    rw [hd] at hz'
    cases hz'
    exact hno m d' hm hd
end
end
section
/-! exceptions: what is wished of one that is let out, beside what is wished of the end -/

/-- class, attributes, slots, cells -/
abbrev RX := Value → List (Str × D) → List Sl → List Cell → Prop
abbrev FsOk (K : Fg) (B : Hp) : List (Str × V) → List (Str × D) → Prop := Paired fun p q => p.1 = q.1 ∧ Dp K B p.2 q.2
def XdOk (K : Fg) (B F H : Hp) (as : List Addr) : Option Addr → List (Str × D) → Prop
  | none, fs => fs = []
  | some dx, fs => B dx = none ∧ F dx = none ∧ dx ∉ as ∧ ∃ vs, H dx = some (.xd vs) ∧ FsOk K B vs fs
def Tk (X : Cx) (B F : Hp) (as : List Addr) (R : RX) : Prop :=
  ∃ W : WX, Takes X W ∧ ∀ cls d σ' B' H' as' δ' ω' fs, Same B B' → as <+: as' → Wd X.K B' F H' as' ω' → EnvOk X.K B' as' σ' δ' → XdOk X.K B' F H' as' d fs → R cls fs δ' ω' → W cls d σ' H'
theorem Tk.up {X : Cx} {B B' F : Hp} {as as' : List Addr} {R : RX} (t : Tk X B F as R) (e : Same B B') (p : as <+: as') : Tk X B' F as' R := by
  obtain ⟨W, h1, h2⟩ := t
  exact ⟨W, h1, fun cls d σ' B2 H' as2 δ' ω' fs e2 p2 => h2 cls d σ' B2 H' as2 δ' ω' fs (e.trans e2) (p.trans p2)⟩
def DSx (X : Cx) (st : List Stmt) (δ : List Sl) (ω : List Cell) (k : Kd) (R : RX) : Prop :=
  ∀ B F H as σ, Wd X.K B F H as ω → EnvOk X.K B as σ δ → ∀ E, Lift X.K B F as k E → Tk X B F as R → wSs X st E σ H
def D1x (X : Cx) (st : Stmt) (δ : List Sl) (ω : List Cell) (k : Kd) (R : RX) : Prop :=
  ∀ B F H as σ, Wd X.K B F H as ω → EnvOk X.K B as σ δ → ∀ E, Lift X.K B F as k E → Tk X B F as R → wS X st E σ H
/-- R: at the slots of where it stands -/
def DEx (X : Cx) (e : Expr) (δ : List Sl) (ω : List Cell) (P : PO1) (R : RX) : Prop :=
  ∀ B F H as σ, Wd X.K B F H as ω → EnvOk X.K B as σ δ → ∀ Q, Out X.K B F as P Q → Tk X B F as R → wE X e σ H Q
section
variable {X : Cx} {e : Expr} {es : List Expr} {δ : List Sl} {ω : List Cell} {P : PO1} {pos : Pos} {R : RX} {k : Kd} {st : Stmt} {rest body orelse : List Stmt}
theorem dsx_of (h : DS X rest δ ω k) : DSx X rest δ ω k R := fun B F H as σ w ev E o _ => h B F H as σ w ev E o
theorem d1x_of (h : D1 X st δ ω k) : D1x X st δ ω k R := fun B F H as σ w ev E o _ => h B F H as σ w ev E o
theorem dex_of (h : DE X e δ ω P) : DEx X e δ ω P R := fun B F H as σ w ev Q o _ => h B F H as σ w ev Q o
theorem dsx_nil (h : k.nx δ ω) : DSx X [] δ ω k R := dsx_of (ds_nil h)
theorem dsx_cons (h : D1x X st δ ω { k with nx := fun δ' ω' => DSx X rest δ' ω' k R } R) : DSx X (st :: rest) δ ω k R := fun B F H as σ w ev E o t =>
  ⟨_, pss_cons ps_w pss_w, h B F H as σ w ev { E with nx := wSs X rest E } ⟨fun σ' H' B' as' δ' ω' e1 p1 w1 ev1 q => q B' F H' as' σ' w1 ev1 E (o.up e1 p1) (t.up e1 p1), o.bk, o.ct, o.rt⟩ t⟩
/-- a statement that lets nothing out -/
theorem dsx_cons0 (h : D1 X st δ ω { k with nx := fun δ' ω' => DSx X rest δ' ω' k R }) : DSx X (st :: rest) δ ω k R := dsx_cons (d1x_of h)
theorem d1x_if {t : Expr} (h : DT X t δ ω fun b ω1 => if b = true then DSx X body δ ω1 k R else DSx X orelse δ ω1 k R) : D1x X (.If t body orelse pos) δ ω k R := fun B F H as σ w ev E o tk => by
  refine ⟨_, ps_if pt_w pss_w pss_w, ?_⟩
  refine h B F H as σ w ev _ fun b B1 H1 as1 ω1 e1 p1 w1 hp => ?_
  cases b with
  | true => exact hp B1 F H1 as1 σ w1 (envOk_up e1 p1 ev) E (o.up e1 p1) (tk.up e1 p1)
  | false => exact hp B1 F H1 as1 σ w1 (envOk_up e1 p1 ev) E (o.up e1 p1) (tk.up e1 p1)
theorem d1x_expr (h : DEx X e δ ω (fun _ ω1 => k.nx δ ω1) R) (hs : swapsWith e none pos.line X.env = pure false := by rfl) : D1x X (.Expr e pos) δ ω k R := fun B F H as σ w ev E o t =>
  ⟨_, ps_expr pe_w hs, h B F H as σ w ev _ (fun v B1 H1 as1 r ω1 e1 p1 w1 s1 hp => (o.nx.up e1 p1).here w1 (envOk_up e1 p1 ev) hp) t⟩
theorem d1x_ret (h : DEx X e δ ω k.rt R) : D1x X (.Return (some e) pos) δ ω k R := fun B F H as σ w ev E o t => ⟨_, ps_ret pe_w, h B F H as σ w ev _ o.rt t⟩
theorem d1x_asg {i : Nat} {x : Str} {p : Pos} (hN : X.N.Nodup) (hi : X.N[i]? = some x) (hx : Loc X.env.scope x) (h : DEx X e δ ω (fun r ω1 => k.nx (δ.set i r) ω1) R) (hs : swapsWith e (some (.Name x p)) pos.line X.env = pure false := by rfl)
    (hf : X.fn x = true ∨ X.env.scope.names.lookup x = some .local := by first | exact .inl rfl | exact .inr rfl | assumption) : D1x X (.Assign [.Name x p] e pos) δ ω k R := fun B F H as σ w ev E o t =>
  ⟨_, ps_set hN hi hx pe_w hs hf, h B F H as σ w ev _ (fun v B1 H1 as1 r ω1 e1 p1 w1 s1 hp => (o.nx.up e1 p1).here w1 (envOk_set s1 i (envOk_up e1 p1 ev)) hp) t⟩
end

/-! ### classes of exceptions, raise -/
/-- an own class of exceptions that derives from ValueError, without own __init__ -/
structure ExcC (K : Fg) (mg : Str → Option Value) (x : Str) (C : Addr) : Prop where
  q : PySem.W.excIn K C [.type "ValueError", .type "Exception", .type "BaseException", .type "object"] "ValueError.__new__" = true
  m : mg x = some (.ref C)
  kp : PySem.W.keepIn K (.ref C) = true
  r1 : PySem.W.subIn K (.ref C) (.type "BaseException") = some true
  r2 : PySem.W.typeIn K (.ref C) = some (.type "type")
/-- what the clause of the class at c says of an exception of the class at C -/
theorem exm_mk {K : Fg} {C c : Addr} {b : Bool} (h1 : PySem.W.subIn K (.ref c) (.type "BaseException") = some true) (h2 : PySem.W.isClsIn K c = true) (h3 : PySem.W.typeIn K (.ref c) = some (.type "type")) (h4 : PySem.W.subIn K (.ref C) (.ref c) = some b) :
    PySem.W.exmOne K (.ref C) (.ref c) = some b := by
  have h2' : (PySem.W.clsIn K c).isSome = true := h2
  unfold PySem.W.exmOne
  rw [h1, if_pos (by rfl)]
  show (if ((PySem.W.clsIn K c).isSome && PySem.W.typeIn K (.ref c) == some (.type "type")) = true then PySem.W.subIn K (.ref C) (.ref c) else none) = some b
  rw [h2', h3, if_pos (by rfl)]
  exact h4
section
variable {X : Cx} {e : Expr} {es : List Expr} {δ : List Sl} {ω : List Cell} {P : PO1} {pos : Pos} {R : RX} {k : Kd} {st : Stmt} {rest body orelse : List Stmt}
theorem pmk_own0 {C : Addr} {x : Str} {p : Pos} (c : ExcC X.K X.mg x C) (hg : Gl X x) (hdb : (x == ("__debug__" : Str)) = false := by decide) : PMk X (.Call (.Name x p) [] [] pos) (fun _ H Q => Q (.ref C) none H) := by
  intro pins s σ H Q I h
  refine wpAny_Call_Name_kw (ld_glob I hg c.m ?_ hdb)
  refine PySem.W.callWith_K0 I.kIn c.kp ?_
  show wpAny _ _ (call (.ref C) []) _ _ _
  obtain ⟨bm, N, nm, qn, bs, hdct, sn, sub, ab, col, dd, k0, k1, k2, k3, k5, mN, hC, hN, hni, T⟩ := exc_obj I.kIn c.q
  refine wpAny_call_exc_subT PySem.F.excBase_ValueError T hC hN hni (fun h' e hm => ?_) (by show 0 ≤ sizeLine; rw [sizeLine_eq]; omega)
  exact mk_of I hm (raises_own c.r1 c.r2) h (I.hok.gone hm.new)
/-- raise x() -/
theorem d1x_raise {C : Addr} {x : Str} {p pos' : Pos} (hc : X.calm = true) (c : ExcC X.K X.mg x C) (hg : Gl X x) (h : R (.ref C) [] δ ω) (hdb : (x == ("__debug__" : Str)) = false := by decide) : D1x X (.Raise (some (.Call (.Name x p) [] [] pos)) none pos') δ ω k R := fun B F H as σ w ev E o t => by
  obtain ⟨W, h1, h2⟩ := t
  exact ⟨_, ps_raise hc h1 (pmk_own0 c hg hdb), h2 _ none σ B H as δ ω [] (Same.refl _) (List.prefix_refl _) w ev rfl h⟩
end

/-! ### the promise of a def that may raise -/
abbrev RC := Value → List (Str × D) → List Cell → Prop
def spX (K : Fg) (φ : List Sl → List Cell → PO1 → RC → Prop) : Sp := fun vs H Q E => ∃ B F as rs ω Pp Rp, Wd K B F H as ω ∧ RsOk K B as vs rs ∧ φ rs ω Pp Rp ∧
  (∀ v B' H' as' r ω', Same B B' → as <+: as' → Wd K B' F H' as' ω' → (∀ c ∈ ω'.drop ω.length, c.live = true) → SlOk K B' as' (some v) r → Pp r ω' → Q v H') ∧
  ∀ cls d B' H' ω' fs, Same B B' → Wd K B' F H' as ω' → XdOk K B' F H' as d fs → Rp cls fs ω' → E cls d H'
structure HasX (P : Program) (w : World) (K : Fg) (mg : Str → Option Value) (base : Heap) (k : Nat) (x : Str) (sp : Sp) : Prop where
  ex : ∃ (f : Addr) (fd : FuncData) (ps : List Str), FnOk P w K mg base (L2.CX P w) k f fd ps sp ∧ mg x = some (.ref f) ∧ PySem.W.keepIn K (.ref f) = true ∧ Binds K fd ps []
theorem xd_take {K : Fg} {B F H : Hp} {as as' : List Addr} (p : as <+: as') {d : Option Addr} {fs : List (Str × D)} (h : XdOk K B F H as' d fs) : XdOk K B F H as d fs := by
  cases d with
  | none => exact h
  | some dx =>
    obtain ⟨h1, h2, h3, h4⟩ := h
    exact ⟨h1, h2, fun z => h3 (p.subset z), h4⟩
section
variable {P : Program} {w : World} {K : Fg} {mg : Str → Option Value} {base : Heap} {x qual : Str} {st : Stmt} {f : Addr} {fd : FuncData} {N ps : List Str} {k : Nat}
abbrev BodyX (P : Program) (w : World) (K : Fg) (mg : Str → Option Value) (base : Heap) (N : List Str) (qual : Str) (st : Stmt) (f : Addr) (k : Nat) (p : Cx → Prop) : Prop :=
  ∀ (cdv : Value) (A : Around) (outer : List Env) (s : Shared) (H : Hp) (E : XK), Room k (A.deeper (envOfC qual (defScope st) s.heap.objs.size f cdv)) → p (cxOf (L2.CX P w) P w K mg base N qual (defScope st) f cdv A outer s H E)
def RetR (n : Nat) (Rp : RC) : RX := fun cls fs _ ω' => Rp cls fs (ω'.take n)
theorem ok_X {φ : List Sl → List Cell → PO1 → RC → Prop} (F : Fun K x qual st f fd) (S : FnScope N ps (defScope st)) (hn : ∀ rs ω Q R, φ rs ω Q R → rs.length = ps.length)
    (hb : ∀ rs ω Q R, φ rs ω Q R → BodyX P w K mg base N qual st f k fun X => DSx X (defBody st) (slots N rs) ω { nx := fun _ ω' => RetU ω.length Q (.val .none) ω', rt := RetU ω.length Q } (RetR ω.length R)) :
    FnOk P w K mg base (L2.CX P w) (k + 1) f fd ps (spX K φ) := by
  refine F.okX S (fun vs H Q E h => ?_) fun cdv A outer s H vs Q E hr h => ?_
  · obtain ⟨B, F', as, rs, ω, P', R', hw, hd, hφ, _⟩ := h
    rw [rsOk_len hd]
    exact hn _ _ _ _ hφ
  · obtain ⟨B, F', as, rs, ω, P', R', hw, hd, hφ, hq, hx⟩ := h
    refine ⟨_, pss_w, hb rs ω P' R' hφ cdv A outer s H E hr B F' H as _ hw (env_start (env_of_rs hd)) _ ⟨fun σ' H' B' as' δ' ω' e1 p1 w1 ev1 q => ?_, fun _ _ _ _ _ _ _ _ _ _ q => q.elim, fun _ _ _ _ _ _ _ _ _ _ q => q.elim, fun v B' H' as' r ω' e1 p1 w1 s1 q => ?_⟩ ?_⟩
    · exact retU_run hw.len hq e1 p1 w1 (slv .non) q
    · exact retU_run hw.len hq e1 p1 w1 s1 q
    · refine ⟨_, takes_of rfl rfl rfl rfl, fun cls d σ' B' H' as' δ' ω' fs e1 p1 w1 ev1 hxd hR => ?_⟩
      obtain ⟨t, ht⟩ := p1
      have hn : ω.length ≤ ω'.length := by rw [← w1.len, ← ht, List.length_append, ← hw.len]; omega
      have hnA : ω.length ≤ as'.length := by rw [w1.len]; exact hn
      have htk : as'.take ω.length = as := by rw [← ht, ← hw.len, List.take_left]
      have w2 := w1.pick (ks := List.range ω.length) (fun i hi => Nat.lt_of_lt_of_le (List.mem_range.mp hi) hn) List.nodup_range
      rw [pk_range hn, pkA_range hnA, htk] at w2
      exact hx cls d B' H' _ fs e1 w2 (xd_take ⟨t, ht⟩ hxd) hR
end
section
variable {X : Cx} {e : Expr} {es : List Expr} {δ : List Sl} {ω : List Cell} {P : PO1} {pos : Pos} {R : RX}
/-- the call of a def that may raise; ks: the cells that it is handed -/
theorem dex_call {x : Str} {p : Pos} {j : Nat} {φ : List Sl → List Cell → PO1 → RC → Prop} (C : HasX X.prog X.w X.K X.mg X.base j x (spX X.K φ)) (hr : Room j X.A) (hg : Gl X x)
    (h : DA X (e :: es) δ ω fun rs ω1 => ∃ (ks : List Nat) (rs' : List Sl), rs = rs'.map (ren ks ω1.length) ∧ (∀ i ∈ ks, i < ω1.length) ∧ ks.Nodup ∧ ownsLt ks.length rs' = true ∧
      φ rs' (pkC ω1 ks) (fun r ω2 => P (ren ks ω1.length r) (putC ω1 ks ω2 ++ ω2.drop ks.length)) (fun cls fs ω2 => ks.length = ω2.length → R cls fs δ (putC ω1 ks ω2)))
    (hdb : (x == ("__debug__" : Str)) = false := by decide) (he : starEach (e :: es) X.env = (false, eval e X.env) :: starEach es X.env := by rfl) (hpl : (backTo pos (starEach es X.env)).any (·.1) = false := by rfl) : DEx X (.Call (.Name x p) (e :: es) [] pos) δ ω P R := fun B F H as σ w ev Q o tk => by
  obtain ⟨f, fd, ps, hf, hm, hk, hb⟩ := C.ex
  obtain ⟨W, tk1, tk2⟩ := tk
  refine ⟨_, pe_callS hf hr hg hm hk hb (passAt tk1) pa_w hdb he hpl, ?_⟩
  refine h B F H as σ w ev _ fun vs B1 H1 as1 rs ω1 e1 p1 w1 s1 ⟨ks, rs', er, hks, hnd, hown, hφ⟩ => ?_
  subst er
  have hka : ∀ i ∈ ks, i < as1.length := fun i hi => by rw [w1.len]; exact hks i hi
  obtain ⟨F', wF, back, fre⟩ := w1.frameL hks hnd
  have hlC : (pkC ω1 ks).length = ks.length := by unfold pkC; rw [List.length_map]
  have hlA : (pkA as1 ks).length = ks.length := by unfold pkA; rw [List.length_map]
  rw [← w1.len] at s1
  refine ⟨B1, F', pkA as1 ks, rs', pkC ω1 ks, _, _, wF, rs_pick hka (ownsLt_mem hown) s1, hφ, fun v B' H' as' r ω' sb pp w' hlv hs hp => ?_, fun cls d B' H' ω' fs sb w' hxd hR => ?_⟩
  · rw [hlC] at hlv
    have w2 := back B' H' as' ω' sb pp w' hlv
    have s2 := sl_unpick hka pp hs
    rw [w1.len] at s2
    exact o v B' H' _ _ _ (e1.trans sb) (p1.trans (List.prefix_append _ _)) w2 s2 hp
  · have hle : ω'.length = ks.length := by rw [← w'.len, hlA]
    have w2 := back B' H' (pkA as1 ks) ω' sb (List.prefix_refl _) w' (by rw [← hle, List.drop_length]; exact nofun)
    rw [← hle, List.drop_length, hle, ← hlA, List.drop_length, List.append_nil, List.append_nil] at w2
    have ev1 := envOk_up sb (List.prefix_refl _) (envOk_up e1 p1 ev)
    refine tk2 cls d σ B' H' as1 δ _ fs (e1.trans sb) p1 w2 ev1 ?_ (hR hle.symm)
    cases d with
    | none => exact hxd
    | some dx =>
      obtain ⟨h1, h2, h3, vs', h4, h5⟩ := hxd
      have hB1 : B1 dx = none := by
        cases q : B1 dx with
        | none => rfl
        | some u =>
          rw [sb _ _ q] at h1
          cases h1
      obtain ⟨f1, f2⟩ := fre dx hB1 h2 h3
      exact ⟨h1, f2, f1, vs', h4, h5⟩
end

/-! ### try .. except x: all that the body lets out is caught -/
section
variable {X : Cx} {δ : List Sl} {ω : List Cell} {k : Kd} {b₀ : Stmt} {body suite : List Stmt} {x : Str} {c : Value} {np pos pos' : Pos}
theorem d1_tryO (hs : X.stack = X.env :: X.outer) (hf : X.env.frame = some X.env.locals) (hc : Names X x c)
    (h : ∀ pn xe, PassesOwn (model X.prog X.w) X.A X.env xe → DSx (X.tr pn xe) body δ ω k fun cls fs δ' ω' => PySem.W.exmOne X.K cls c = some true ∧ ∀ a oe pn, DS (X.suite a ((a, oe) :: pn)) (b₀ :: suite) δ' ω' k) :
    D1 X (.Try body [.ExceptHandler (some (.Name x np)) none (b₀ :: suite) pos'] [] [] pos) δ ω k := fun B F H as σ w ev E o => by
  refine ⟨_, ps_try_only (tb := fun W D σ H => ∀ pn xe, Takes (X.tr pn xe) W → PassesOwn (model X.prog X.w) X.A X.env xe → wSs (X.tr pn xe) body D σ H) (ts := fun a _ _ D σ H => ∀ oe pn, wSs (X.suite a ((a, oe) :: pn)) (b₀ :: suite) D σ H) hs hf hc takes0
    (fun W pn xe tk po => ⟨fun pins s σ H D I q => pss_w.run pins s σ H D I (q pn xe tk po)⟩) (fun a oe cls d pn _ _ => ⟨fun pins s σ H D I q => pss_w.run pins s σ H D I (q oe pn)⟩), ?_⟩
  intro pn xe tk po
  refine h pn xe po B F H as σ w ev E o ⟨_, tk, fun cls d σ' B' H' as' δ' ω' fs e1 p1 w1 ev1 _ ⟨hm, hsu⟩ => ⟨true, hm, fun _ a _ oe pn => ?_, nofun⟩⟩
  exact hsu a oe pn B' F H' as' σ' w1 ev1 E (o.up e1 p1)
end
end
section
/-! instances with slots: made, called, asked -/
theorem HasM.fr {P : Program} {w : World} {K : Fg} {mg : Str → Option Value} {base : Heap} {j : Nat} {g : Addr} {sp : Sp} (M : HasM P w K mg base j g sp) : FnR P w K mg base CX0 j g (fun vs H Q E => sp (vs ++ []) H Q E) := by
  obtain ⟨fd, ps, hf, hb⟩ := M.ex
  exact hf.raw hb .nil
/-- a method's def that may raise -/
structure HasMX (P : Program) (w : World) (K : Fg) (mg : Str → Option Value) (base : Heap) (k : Nat) (g : Addr) (sp : Sp) : Prop where
  ex : ∃ (fd : FuncData) (ps : List Str), FnOk P w K mg base (L2.CX P w) k g fd ps sp ∧ Binds K fd ps []
theorem HasMX.fr {P : Program} {w : World} {K : Fg} {mg : Str → Option Value} {base : Heap} {j : Nat} {g : Addr} {sp : Sp} (M : HasMX P w K mg base j g sp) : FnR P w K mg base (L2.CX P w) j g (fun vs H Q E => sp (vs ++ []) H Q E) := by
  obtain ⟨fd, ps, hf, hb⟩ := M.ex
  exact hf.raw hb .nil
/-- a call that raises nothing after all -/
theorem passX0 {X : Cx} : Passes (L2.CX X.prog X.w) X E0 := by
  rintro pins σ H s e s' _ ⟨a, B, H', cls, d, ea, fl, hok, ub, na, os, ag, he⟩
  exact he.elim
section
variable {K : Fg} {B F H : Hp} {as : List Addr} {ω : List Cell} {vs : List V} {P : PO1} {Q : VK} {E : XK}
theorem spS_at {φ : List Sl → (Sl → Prop) → Prop} {rs : List Sl} (w : Wd K B F H as ω) (o : Out K B F as P Q) (hf : rs.all Sl.free = true) (hr : RsOk K B as vs rs) (hφ : φ rs fun s => s.free = true ∧ P s ω) : spS K φ vs H Q E := by
  obtain ⟨F', wF, _, _, back⟩ := w.frame
  exact ⟨B, F', rs, _, wF, rs_free hf hr, hφ, fun v B' H' r sb w' hs ⟨hrf, hp⟩ => o v B' H' as r ω sb (List.prefix_refl _) (back B' H' sb w') (sl_free hrf hs) hp⟩
theorem spX_at {φ : List Sl → List Cell → PO1 → RC → Prop} {rs' : List Sl} {ks : List Nat} {R : RC} (w : Wd K B F H as ω) (o : Out K B F as P Q) (hks : ∀ i ∈ ks, i < ω.length) (hnd : ks.Nodup) (hown : ownsLt ks.length rs' = true) (hr : RsOk K B as vs (rs'.map (ren ks ω.length)))
    (hφ : φ rs' (pkC ω ks) (fun r ω2 => P (ren ks ω.length r) (putC ω ks ω2 ++ ω2.drop ks.length)) (fun cls fs ω2 => ks.length = ω2.length → R cls fs (putC ω ks ω2)))
    (hx : ∀ cls d B' H' ω' fs, Same B B' → Wd K B' F H' as ω' → XdOk K B' F H' as d fs → R cls fs ω' → E cls d H') : spX K φ vs H Q E := by
  have hka : ∀ i ∈ ks, i < as.length := fun i hi => by rw [w.len]; exact hks i hi
  obtain ⟨F', wF, back, fre⟩ := w.frameL hks hnd
  have hlC : (pkC ω ks).length = ks.length := by unfold pkC; rw [List.length_map]
  have hlA : (pkA as ks).length = ks.length := by unfold pkA; rw [List.length_map]
  rw [← w.len] at hr
  refine ⟨B, F', pkA as ks, rs', pkC ω ks, _, _, wF, rs_pick hka (ownsLt_mem hown) hr, hφ, fun v B' H' as' r ω' sb pp w' hlv hs hp => ?_, fun cls d B' H' ω' fs sb w' hxd hR => ?_⟩
  · rw [hlC] at hlv
    have w2 := back B' H' as' ω' sb pp w' hlv
    have s2 := sl_unpick hka pp hs
    rw [w.len] at s2
    exact o v B' H' _ _ _ sb (List.prefix_append _ _) w2 s2 hp
  · have hle : ω'.length = ks.length := by rw [← w'.len, hlA]
    have w2 := back B' H' (pkA as ks) ω' sb (List.prefix_refl _) w' (by rw [← hle, List.drop_length]; exact nofun)
    rw [← hle, List.drop_length, hle, ← hlA, List.drop_length, List.append_nil, List.append_nil] at w2
    refine hx cls d B' H' _ fs sb w2 ?_ (hR hle.symm)
    cases d with
    | none => exact hxd
    | some dx =>
      obtain ⟨h1, h2, h3, vs', h4, h5⟩ := hxd
      have hB1 : B dx = none := by
        cases q : B dx with
        | none => rfl
        | some u =>
          rw [sb _ _ q] at h1
          cases h1
      obtain ⟨f1, f2⟩ := fre dx hB1 h2 h3
      exact ⟨h1, f2, f1, vs', h4, h5⟩
theorem Wd.madeA (w : Wd K B F H [] []) {C x dx : Addr} (hx : H x = none) (hdx : H dx = none) (hne : dx ≠ x) : Wd K B F (upd (upd H dx (.own x)) x (.ins C dx [])) [dx, x] [ownC x, insA C dx x []] := by
  have w1 : Wd K B F (upd H dx (.own x)) [dx] [ownC x] := w.own hdx fun hb => ⟨hb, upd_same⟩
  have hx1 : upd H dx (.own x) x = none := by rw [upd_ne (Ne.symm hne)]; exact hx
  exact w1.own hx1 fun hb => ⟨hb, B, _, Same.refl _, upd_same, rfl, [], rfl, .nil⟩
theorem madeA_end {F' : Hp} (back : ∀ B' H', Same B B' → Wd K B' F' H' [] [] → Wd K B' F H' as ω) {C x dx : Addr} {fs : List (Str × Sl)} {B' H' : Hp} (sb : Same B B') (w' : Wd K B' F' H' [dx, x] [ownC x, insA C dx x fs]) :
    ∃ B2, Same B B2 ∧ Wd K B2 F H' as ω ∧ insI C fs K B2 (.ref x) := by
  obtain ⟨q1, q2⟩ := (w'.at' 0 dx (ownC x) rfl rfl).2.2
  obtain ⟨_, hb, vs, h3, h4⟩ := cell_insA w' (k := 1) rfl
  obtain ⟨w2, s2⟩ := w'.freezeG (k := 0) rfl q1 q2
  have hne : x ≠ dx := fun z => by
    have := w'.nd
    rw [z] at this
    simp at this
  obtain ⟨w3, s3⟩ := w2.freezeG (k := 1) (a := x) rfl (by rw [upd_ne hne]; exact hb) h3
  have s13 := s2.trans s3
  exact ⟨_, sb.trans s13, back _ H' (sb.trans s13) w3.drop, x, dx, vs, rfl, upd_same, ats_up s13 h4⟩
end
section
variable {X : Cx} {e o : Expr} {es : List Expr} {δ : List Sl} {ω : List Cell} {P : PO1} {pos apos : Pos} {f : Str}
/-- what a run of __init__ that hands back just the instance is worth: it is known for good from then on -/
theorem makeI_run {C g y dx : Addr} {φ : List Sl → List Cell → PO1 → Prop} {B1 F H1 : Hp} {as1 : List Addr} {ω1 : List Cell} {vs : List V} {rs : List Sl} {Q : VK} (w1 : Wd X.K B1 F H1 as1 ω1) (s1 : RsOk X.K B1 as1 vs rs) (hfr : rs.all Sl.free = true) (oo : Out X.K B1 F as1 P Q) (hy : H1 y = none) (hdx : H1 dx = none) (hne : dx ≠ y)
    (hφ : φ (.kn (refK y) :: rs) [ownC y, insA C dx y []] fun r ω2 => r = .val .none ∧ ∃ fs, ω2 = [ownC y, insA C dx y fs] ∧ P (.kn (insI C fs)) ω1) :
    spU X.K φ (.ref y :: (vs ++ [])) (upd (upd H1 dx (.own y)) y (.ins C dx [])) (fun v H2 => v = .non ∧ Q (.ref y) H2) E0 := by
  obtain ⟨F', wF, _, _, back⟩ := w1.frame
  refine ⟨B1, F', [dx, y], .kn (refK y) :: rs, _, _, wF.madeA hy hdx hne, by rw [List.append_nil]; exact .cons ref_slot (rs_free hfr s1), hφ, fun v B' H' as' r ω' sb pp w' hlv hs ⟨er, fs, eω, hp⟩ => ?_⟩
  subst er eω
  obtain ⟨t, ht⟩ := pp
  have hl := w'.len
  have et : t = [] := by
    rw [← ht] at hl
    simpa using hl
  subst et
  have ea : as' = [dx, y] := by rw [← ht]; rfl
  subst ea
  obtain ⟨B2, sb2, w2, hi⟩ := madeA_end back sb w'
  exact ⟨dp_non_inv (sl_val hs), oo (.ref y) B2 H' as1 (.kn (insI C fs)) ω1 sb2 (List.prefix_refl _) w2 ⟨_, B2, rfl, Same.refl _, hi⟩ hp⟩
theorem de_makeI {x : Str} {p : Pos} {C g : Addr} {j : Nat} {φ : List Sl → List Cell → PO1 → Prop} (M : HasM X.prog X.w X.K X.mg X.base j g (spU X.K φ)) (mk : Mk X.K C g) (hr : Room (j + 1) X.A) (hg : Gl X x) (hm : X.mg x = some (.ref C))
    (h : DA X (e :: es) δ ω fun rs ω1 => rs.all Sl.free = true ∧ ∀ y dx, φ (.kn (refK y) :: rs) [ownC y, insA C dx y []] fun r ω2 => r = .val .none ∧ ∃ fs, ω2 = [ownC y, insA C dx y fs] ∧ P (.kn (insI C fs)) ω1)
    (hdb : (x == ("__debug__" : Str)) = false := by decide) (he : starEach (e :: es) X.env = (false, eval e X.env) :: starEach es X.env := by rfl) (hpl : (backTo pos (starEach es X.env)).any (·.1) = false := by rfl) : DE X (.Call (.Name x p) (e :: es) [] pos) δ ω P := fun B F H as σ w ev Q oo => by
  obtain ⟨fd, ps, hf, hbd⟩ := M.ex
  refine ⟨_, pe_make mk hf hr hg hm hbd .nil pass0 pa_w hdb he hpl, ?_⟩
  refine h B F H as σ w ev _ fun vs B1 H1 as1 rs ω1 e1 p1 w1 s1 ⟨hfr, hφ⟩ y dx hy hdx hne => ?_
  exact makeI_run (g := g) w1 s1 hfr (oo.up e1 p1) hy hdx hne (hφ y dx)
theorem de_makeVI {x : Str} {p : Pos} {C g : Addr} {j : Nat} {φ : List Sl → List Cell → PO1 → Prop} (M : HasM X.prog X.w X.K X.mg X.base j g (spU X.K φ)) (mk : Mk X.K C g) (hr : Room (j + 1) X.A)
    (hx : DE X (.Name x p) δ ω fun r0 ω0 => r0 = .kn (clsK C) ∧ DA X (e :: es) δ ω0 fun rs ω1 => rs.all Sl.free = true ∧ ∀ y dx, φ (.kn (refK y) :: rs) [ownC y, insA C dx y []] fun r ω2 => r = .val .none ∧ ∃ fs, ω2 = [ownC y, insA C dx y fs] ∧ P (.kn (insI C fs)) ω1)
    (he : starEach (e :: es) X.env = (false, eval e X.env) :: starEach es X.env := by rfl) (hpl : (backTo pos (starEach es X.env)).any (·.1) = false := by rfl) : DE X (.Call (.Name x p) (e :: es) [] pos) δ ω P := fun B F H as σ w ev Q oo => by
  obtain ⟨fd, ps, hf, hbd⟩ := M.ex
  refine ⟨fun σ H Q => wE X (.Name x p) σ H fun v H0 => v = .ref C ∧ tMake C (spU X.K φ) [] E0 (wA X (e :: es)) σ H0 Q, ⟨fun pins s σ H Q I hh => ?_⟩, ?_⟩
  · refine wpAny_Call_Name_kw (L2.thn (pe_w.run pins s σ H _ I hh) fun u s0 ⟨v, H0, I0, r0, ev0, q0⟩ => ?_)
    subst ev0
    obtain rfl : u = Value.ref C := r0
    refine PySem.W.callWith_K (h₀ := X.base) I0.ok.mod.kin mk.kp (L2.thn (pa_w.run pos pins s0 σ H0 _ I0 q0) fun us s1 ⟨vs, H1, I1, r1, q1⟩ => ⟨I1.kIn, ?_⟩) he hpl
    exact run_make mk hf hr hbd .nil pass0 I1 r1 q1
  · refine hx B F H as σ w ev _ fun v B0 H0 as0 r0 ω0 e0 p0 w0 s0 ⟨er0, h⟩ => ?_
    subst er0
    obtain ⟨v', B9, e9, sb9, hv⟩ := s0
    cases e9
    have hv' : v = .ref C := hv
    subst hv'
    refine ⟨rfl, ?_⟩
    refine h B0 F H0 as0 σ w0 (envOk_up e0 p0 ev) _ fun vs B1 H1 as1 rs ω1 e1 p1 w1 s1 ⟨hfr, hφ⟩ y dx hy hdx hne => ?_
    exact makeI_run (g := g) w1 s1 hfr (oo.up (e0.trans e1) (p0.trans p1)) hy hdx hne (hφ y dx)
/-- e.f, a property of an instance that is known for good -/
theorem de_propI {C p g : Addr} {j : Nat} {φ : List Sl → (Sl → Prop) → Prop} (M : HasM X.prog X.w X.K X.mg X.base j g (spS X.K φ)) (c : Cls X.K C) (hp : PropOf X.K C f p g) (hr : Room (j + 1) X.A)
    (h : DE X e δ ω fun r ω1 => ∃ fs, r = .kn (insI C fs) ∧ φ [r] fun s => s.free = true ∧ P s ω1) (hb : attributeBase e f X.env (eval e X.env) = eval e X.env := by rfl) : DE X (.Attribute e f pos) δ ω P := fun B F H as σ w ev Q oo => by
  obtain ⟨fd, ps, hf, hbd⟩ := M.ex
  refine ⟨_, pe_prop pe_w c hp hf hr hbd .nil pass0 hb, ?_⟩
  refine h B F H as σ w ev _ fun v B1 H1 as1 r ω1 e1 p1 w1 s1 ⟨fs, er, hφ⟩ => ?_
  subst er
  obtain ⟨a, dx, vs, rfl, h2, h3⟩ := slk_insI s1
  exact ⟨a, dx, vs, rfl, w1.b _ _ h2, spS_at w1 (oo.up e1 p1) rfl (.cons s1 .nil) hφ⟩
/-- repr of one -/
theorem de_reprI {p : Pos} {C g : Addr} {j : Nat} {φ : List Sl → (Sl → Prop) → Prop} (hs : PySem.W.findIn X.K (.ref C) "__repr__" = some (some (.ref g))) (hf : PySem.W.isFn X.K (.ref g) = true) (M : HasM X.prog X.w X.K X.mg X.base j g (spS X.K φ)) (hr : Room (j + 1) X.A)
    (hg : Gl X "repr") (hm : X.mg "repr" = none) (h : DE X e δ ω fun r ω1 => ∃ fs, r = .kn (insI C fs) ∧ φ [r] fun s => ∃ y, s = .val (.str y) ∧ P s ω1)
    (he : starEach [e] X.env = (false, eval e X.env) :: starEach [] X.env := by rfl) : DE X (.Call (.Name "repr" p) [e] [] pos) δ ω P := fun B F H as σ w ev Q oo => by
  obtain ⟨fd, ps, hfn, hbd⟩ := M.ex
  refine ⟨_, pe_callB (call_reprO hs hf hfn hbd hr) hg hm PyProof.Rows.boot_repr (pa_cons pe_w pa_nil he) (by decide) (by decide) he rfl, ?_⟩
  refine h B F H as σ w ev _ fun v B1 H1 as1 r ω1 e1 p1 w1 s1 ⟨fs, er, hφ⟩ => ?_
  subst er
  obtain ⟨a, dx, vs, rfl, h2, h3⟩ := slk_insI s1
  obtain ⟨F', wF, _, _, back⟩ := w1.frame
  refine ⟨a, dx, vs, rfl, w1.b _ _ h2, B1, F', _, _, wF, .cons (sl_free rfl s1) .nil, hφ, fun v B' H' r sb w' hs ⟨y, er, hp⟩ => ?_⟩
  subst er
  obtain rfl := dp_str_inv (sl_val hs)
  exact ⟨y, rfl, oo _ B' H' as1 _ ω1 (e1.trans sb) p1 (back B' H' sb w') (sl_free rfl hs) hp⟩
end
end
section
/-! operators, tests, static methods of instances -/
/-! ### != by an own == -/
section
variable {prog : Program} {w : World} {A : Around} {E : Value → Shared → Prop} {s : Shared} {K : PySem.W.Frag} {x C L f : Addr} {h₀ : Heap} {m : Str → Option Value} {ox : Obj} {od : Option Obj} {b tb : Value}
open PySem.W in
theorem bound_bi {M : Model} {name : Str} {g : String} {args : List Value} {Q : Option Value → Shared → Prop} (X : K.In s.heap) (I : InstAt s.heap x ox C od) (hs : findIn K (.ref C) name = some (some (.builtin g))) (hb : bindSpecial (.builtin g) (.ref x) = pure (.builtin g, [.ref x]))
    (h : wpAny M A (call (.builtin g) (.ref x :: args)) (fun v => Q (some v)) E s) : wpAny M A (callSpecialIfBound? (.ref x) name args) Q E s := by
  simp only [bindSpecialIfBound?, callSpecialIfBound?]
  refine wpAny_holding (wpAny_bind (wpAny_bind (wpAny_bind (I.type.here ((looks_findIn X hs).here ?_)))))
  refine wpAny_bind (wpAny_askSetting (wpAny_ite ?_))
  have done : wpAny M A (call (.builtin g) ([.ref x] ++ args) >>= fun v => pure (some v)) Q E s := wpAny_bind (wpAny_mono h (fun v s' z => wpAny_pure z) fun _ _ z => z)
  rw [hb]
  split
  · exact wpAny_bind (wpAny_pure (wpAny_pure (by exact done)))
  · exact wpAny_tryCatch (wpAny_bind (wpAny_pure (wpAny_pure (by exact done))))
theorem ne_plain : plainId "object.__ne__" = true := by decide +kernel
theorem ne_kind : builtinKind "object.__ne__" = some .slot := by decide +kernel
theorem ne_split : splitId "object.__ne__" = some ("object", "__ne__") := by decide +kernel
open PySem.W in
/-- != where == is the program's own: the other truth -/
theorem ne_lib {Q : Value → Shared → Prop} (hu : A.units + 1 < cLine) (F : Fr h₀ L s.heap m) (X₀ : K.In h₀) (I : InstAt s.heap x ox C od) (hb : Looks (model prog w) s.heap (typeOf b) tb) (hn : notFirst K C tb = true) (ho : mroIn K C (.type "object") = some true)
    (hne : findIn K (.ref C) "__ne__" = some (some (.builtin "object.__ne__"))) (hs : findIn K (.ref C) "__eq__" = some (some (.ref f))) (hf : isFn K (.ref f) = true)
    (h : wpAny (model prog w) A.in1 (call (.ref f) [.ref x, b]) (fun v s' => ∃ k, v = .bool k ∧ Q (.bool (!k)) s') E s) : wpAny (model prog w) A (richCompare .NotEq (.ref x) b) Q E s := by
  have X := X₀.keeps F.keep
  have hu0 : A.units < cLine := by omega
  have sub : Looks (model prog w) s.heap (isInstance (.ref x) (.type "object")) true := I.type.andThen (looks_mroIn X ho)
  have one : wpAny (model prog w) A (tryCompare (.ref x) (cmpInfo .NotEq).2.1 b) (fun r s' => ∃ v, r = some v ∧ Q v s') E s := by
    unfold tryCompare
    refine wpAny_bind (bound_bi (name := "__ne__") X I hne (PySem.F.slot_object_ne.bind _) ?_)
    refine wpAny_call (codeAny_call_builtin ne_plain PySem.F.entry_object_ne (@check_slot (model prog w) _ _ s "object.__ne__" "object" "__ne__" (.ref x) [b] [] _ ne_kind ne_split sub (PySem.F.args_object_ne_2 _ _) ?_))
    show wpAny _ _ (Builtin.«object.__ne__» ⟨[.ref x, b], []⟩) _ _ _
    unfold Builtin.«object.__ne__»
    show wpAny _ _ (cRoomFor "comparison" [.ref x, b] >>= _) _ _ _
    refine wpAny_bind (wpAny_cRoomFor (by show A.in1.units < cLine; exact hu) ?_)
    refine wpAny_bind (ifBound_K X I hs hf (wpAny_mono h (fun v s' z => ?_) fun _ _ z => z))
    obtain ⟨k, rfl, q⟩ := z
    show wpAny _ _ (truthy (.bool k) >>= fun t => ret (.bool (!t))) _ _ _
    refine wpAny_bind ?_
    show wpAny _ _ (pure k) _ _ _
    refine wpAny_pure (wpAny_pure ?_)
    exact wpAny_pure ⟨.bool (!k), rfl, q⟩
  unfold richCompare
  simp only [oneThing_ref]
  refine wpAny_holding (wpAny_bind (wpAny_cRoomFor hu0 ?_))
  refine wpAny_bind (I.type.here (wpAny_bind (hb.here ?_)))
  split
  · rename_i q
    have e : subIn K tb (.ref C) = some false := by
      rcases Bool.or_eq_true_iff.mp hn with z | z
      · rw [beq_iff_eq.mp z] at q
        simp at q
      · exact beq_iff_eq.mp z
    refine wpAny_bind ((looks_subIn X e).here ?_)
    simp only [if_false, Bool.false_eq_true]
    refine wpAny_bind (wpAny_mono one (fun r s' z => ?_) fun _ _ z => z)
    obtain ⟨v, rfl, hq⟩ := z
    exact wpAny_pure hq
  · refine wpAny_bind (wpAny_pure ?_)
    simp only [if_false, Bool.false_eq_true]
    refine wpAny_bind (wpAny_mono one (fun r s' z => ?_) fun _ _ z => z)
    obtain ⟨v, rfl, hq⟩ := z
    exact wpAny_pure hq
end
/-! ### types of slots -/
inductive TyS (K : Fg) : Sl → Value → Prop
  | val (d : D) : TyS K (.val d) (.type (tyD d))
  | ins {C : Addr} (fs : List (Str × Sl)) (c : Cls K C) (i : SlX.SIsi K C) : TyS K (.kn (insI C fs)) (.ref C)
  | tup (rs : List Sl) : TyS K (.kn (tupK rs)) (.type "tuple")
  | lst (rs : List Sl) : TyS K (.kn (lstK rs)) (.type "list")
theorem ty_seqT {K : Fg} {H : Hp} {a : Addr} {xs : List V} (h : SqT K H a xs) : TyX K H (.ref a) (.type "tuple") := by
  rcases h with (h | ⟨o, h⟩) | ⟨o, its, n, h1, h2, _⟩
  · exact .base (.tup h)
  · exact .fTuple h
  · exact .kTuple h1 h2
theorem TyS.get {K : Fg} {B F H : Hp} {as : List Addr} {ω : List Cell} {v : V} {r : Sl} {t : Value} (w : Wd K B F H as ω) (y : TyS K r t) (s : SlOk K B as (some v) r) : TyX K H v t := by
  cases y with
  | val d => exact ty_of (dp_up w.b (sl_val s))
  | ins fs c i =>
    obtain ⟨a, dx, vs, rfl, h1, _⟩ := slk_insI s
    exact .base (.ins (w.b _ _ h1) c i.ca i.cn i.ct i.cm)
  | tup rs =>
    obtain ⟨a, xs, rfl, h1, _⟩ := slk_tup s
    exact ty_seqT (sqT_up w.b h1)
  | lst rs =>
    obtain ⟨a, xs, rfl, h1, _⟩ := slk_lst s
    exact .base (.lst (w.b _ _ h1))
section
variable {X : Cx} {e a b c fe : Expr} {es : List Expr} {δ : List Sl} {ω : List Cell} {P : PO1} {T : Bool → List Cell → Prop} {pos : Pos}
theorem de_isiS {x : Str} {Ty : String} {p p2 : Pos} (hg : Gl X "isinstance") (hm : X.mg "isinstance" = none) (hgT : Gl X x) (hmT : X.mg x = none) (hv : bootBuiltins x = some (.type Ty))
    (h : DE X e δ ω fun r ω1 => ∃ t k, TyS X.K r t ∧ PySem.W.kitOne X.K t (.type Ty) = some k ∧ P (.val (.bool k)) ω1) (hn : x ≠ "__name__" := by decide) (hdb : (x == ("__debug__" : Str)) = false := by decide)
    (hs1 : starEach [e, .Name x p2] X.env = (false, eval e X.env) :: starEach [.Name x p2] X.env := by rfl) (hs2 : starEach [.Name x p2] X.env = (false, eval (.Name x p2) X.env) :: starEach [] X.env := by rfl)
    (hpl : (backTo pos (starEach [.Name x p2] X.env)).any (·.1) = false := by rfl) : DE X (.Call (.Name "isinstance" p) [e, .Name x p2] [] pos) δ ω P := fun B F H as σ w ev Q o => by
  refine ⟨_, pe_callB call_isi hg hm boot_isinstance (pa_cons pe_w (pa_cons (pe_bltn (v := .ty Ty) hgT hmT hv rfl hn hdb) pa_nil hs2) hs1) (by decide) (by decide) hs1 hpl, ?_⟩
  refine h B F H as σ w ev _ fun v B1 H1 as1 r ω1 e1 p1 w1 s1 ⟨t, k, ty, hk, hp⟩ => ?_
  exact ⟨v, .ty Ty, t, .type Ty, k, rfl, .ty Ty, ty.get w1 s1, hk, (o.up e1 p1).here w1 (.bl _) hp⟩
theorem de_isiC {x : Str} {C : Addr} {p p2 : Pos} (hg : Gl X "isinstance") (hm : X.mg "isinstance" = none) (hgC : Gl X x) (hmC : X.mg x = some (.ref C))
    (h : DE X e δ ω fun r ω1 => ∃ t k, TyS X.K r t ∧ PySem.W.kitOne X.K t (.ref C) = some k ∧ P (.val (.bool k)) ω1) (hdb : (x == ("__debug__" : Str)) = false := by decide)
    (hs1 : starEach [e, .Name x p2] X.env = (false, eval e X.env) :: starEach [.Name x p2] X.env := by rfl) (hs2 : starEach [.Name x p2] X.env = (false, eval (.Name x p2) X.env) :: starEach [] X.env := by rfl)
    (hpl : (backTo pos (starEach [.Name x p2] X.env)).any (·.1) = false := by rfl) : DE X (.Call (.Name "isinstance" p) [e, .Name x p2] [] pos) δ ω P := fun B F H as σ w ev Q o => by
  refine ⟨_, pe_callB call_isi hg hm boot_isinstance (pa_cons pe_w (pa_cons (pe_glob (v := .ref C) hgC hmC rfl hdb) pa_nil hs2) hs1) (by decide) (by decide) hs1 hpl, ?_⟩
  refine h B F H as σ w ev _ fun v B1 H1 as1 r ω1 e1 p1 w1 s1 ⟨t, k, ty, hk, hp⟩ => ?_
  exact ⟨v, .ref C, t, .ref C, k, rfl, .own C, ty.get w1 s1, hk, (o.up e1 p1).here w1 (.bl _) hp⟩
/-- the truth of a sequence -/
theorem dt_seq (h : DE X e δ ω fun r ω1 => ∃ rs, SeqS ω1 r rs ∧ T (!rs.isEmpty) ω1) (he : ∀ whole, isTrue e X.env whole = (do let v ← whole; standAt e.pos; holding [v] (truthy v)) := by intro _; rfl) : DT X e δ ω T := fun B F H as σ w ev Q o => by
  refine ⟨_, pt_truth pe_w he, ?_⟩
  refine h B F H as σ w ev _ fun v B1 H1 as1 r ω1 e1 p1 w1 s1 ⟨rs, hq, hp⟩ => ?_
  obtain ⟨b, a, xs, rfl, h1, h2⟩ := hq.get w1 s1
  have ee : xs.isEmpty = rs.isEmpty := by cases h2 <;> rfl
  refine ⟨!rs.isEmpty, ?_, o _ B1 H1 as1 ω1 e1 p1 w1 hp⟩
  cases b
  · exact .inr (.inl ⟨xs, h1, by rw [ee]⟩)
  · exact .inl ⟨xs, h1, by rw [ee]⟩

/-! ### operators of one's own -/
/-- x op y: an instance of the class, and another one -/
def rBinO (C : Addr) (sp : Sp) : R2 := fun x y H Q => ∃ a dx fs b dy gs, x = .ref a ∧ y = .ref b ∧ H a = some (.ins C dx fs) ∧ H b = some (.ins C dy gs) ∧ sp ([x, y] ++ []) H Q E0
theorem op_binO {op : Operator} {C g : Addr} {j : Nat} {sp : Sp} (M : HasM X.prog X.w X.K X.mg X.base j g sp) (hc : PySem.W.selfFirst X.K C = true) (hs : PySem.W.findIn X.K (.ref C) (PySem.dunder op.info.2) = some (some (.ref g))) (hf : PySem.W.isFn X.K (.ref g) = true) (hr : Room j X.A) : OpR X (binaryOp op) (rBinO C sp) := by
  intro pins s σ H x y v u Q I rx ry h
  obtain ⟨a, dx, fs, b, dy, gs, rfl, rfl, ha, hb, q⟩ := h
  cases (show v = Value.ref a from rx)
  cases (show u = Value.ref b from ry)
  obtain ⟨mA, O, _⟩ := ins_get I.hok ha
  obtain ⟨od, J, _⟩ := O.look
  obtain ⟨mB, O', _⟩ := ins_get I.hok hb
  obtain ⟨od', J', _⟩ := O'.look
  obtain ⟨m, hF⟩ := I.fr
  refine PySem.W.binop_K hF I.ok.mod.kin J J'.type hc hs hf ?_
  refine wpAny_mono (wpAny_call (run_fnR (us := [.ref a, .ref b]) (vs := [.ref a, .ref b]) M.fr hr pass0 I (.cons rfl (.cons rfl .nil)) q)) (fun w s' z => ?_) fun _ _ x => x
  obtain ⟨z', H', I', rz, qz⟩ := z
  exact SlX.cmpback rz ⟨z', H', I', rz, qz⟩
/-- x op y: an instance of the class, and an int -/
def rBinI (C : Addr) (sp : Sp) : R2 := fun x y H Q => ∃ a dx fs i, x = .ref a ∧ y = .int i ∧ H a = some (.ins C dx fs) ∧ sp ([x, y] ++ []) H Q E0
theorem op_binI {op : Operator} {C g : Addr} {j : Nat} {sp : Sp} {fo ro rc : Option Value} (M : HasM X.prog X.w X.K X.mg X.base j g sp) (hc : PySem.W.selfFirst X.K C = true) (hs : PySem.W.findIn X.K (.ref C) (PySem.dunder op.info.2) = some (some (.ref g))) (hf : PySem.W.isFn X.K (.ref g) = true) (hrr : PySem.W.findIn X.K (.ref C) (dunderR op.info.2) = some rc)
    (hp : rc = none ∨ ∃ g : Addr, rc = some (.ref g)) (h1 : PySem.W.findIn X.K (.type "int") (PySem.dunder op.info.2) = some fo) (h2 : PySem.W.findIn X.K (.type "int") (dunderR op.info.2) = some ro) (hsub : PySem.W.subIn X.K (.type "int") (.ref C) = some false) (hr : Room j X.A) : OpR X (binaryOp op) (rBinI C sp) := by
  intro pins s σ H x y v u Q I rx ry h
  obtain ⟨a, dx, fs, i, rfl, rfl, ha, q⟩ := h
  cases (show v = Value.ref a from rx)
  obtain ⟨t, hu⟩ := (show ∃ t, u = Value.int i t from ry)
  subst hu
  obtain ⟨mA, O, _⟩ := ins_get I.hok ha
  obtain ⟨od, J, _⟩ := O.look
  obtain ⟨m, hF⟩ := I.fr
  refine PySem.W.ksp_binT (T := "int") hF I.ok.mod.kin J rfl hc hs hf hrr hp h1 h2 hsub ?_
  refine wpAny_mono (wpAny_call (run_fnR (us := [.ref a, .int i t]) (vs := [.ref a, .int i]) M.fr hr pass0 I (.cons rfl (.cons ⟨t, rfl⟩ .nil)) q)) (fun w s' z => ?_) fun _ _ x => x
  obtain ⟨z', H', I', rz, qz⟩ := z
  exact SlX.cmpback rz ⟨z', H', I', rz, qz⟩
/-- x == y by the class's own def; y of any type that is not below it -/
def rEqO (K : Fg) (C : Addr) (sp : Sp) : R2 := fun x y H Q => ∃ a dx fs tb, x = .ref a ∧ H a = some (.ins C dx fs) ∧ TyX K H y tb ∧ PySem.W.notFirst K C tb = true ∧ sp ([x, y] ++ []) H Q E0
theorem op_eqO {C g : Addr} {j : Nat} {sp : Sp} (M : HasM X.prog X.w X.K X.mg X.base j g sp) (hs : PySem.W.findIn X.K (.ref C) "__eq__" = some (some (.ref g))) (hf : PySem.W.isFn X.K (.ref g) = true) (hr : Room j X.A) : OpR X (compareOp .Eq) (rEqO X.K C sp) := by
  intro pins s σ H x y v u Q I rx ry h
  obtain ⟨a, dx, fs, tb, rfl, ha, ty, hn, q⟩ := h
  cases (show v = Value.ref a from rx)
  obtain ⟨mA, O, _⟩ := ins_get I.hok ha
  obtain ⟨od, J, _⟩ := O.look
  obtain ⟨m, hF⟩ := I.fr
  obtain ⟨Pt, Z, pz, _⟩ := kit_of I ry ty
  rw [show compareOp .Eq (.ref a) u = richCompare .Eq (.ref a) u from rfl]
  refine PySem.W.cmp_K (op := .Eq) (tb := tb) hr.units0 hF I.ok.mod.kin J (Z.ty _ _ I.kIn pz) hn hs hf ?_
  refine wpAny_mono (wpAny_call (run_fnR (us := [.ref a, u]) (vs := [.ref a, y]) M.fr hr pass0 I (.cons rfl (.cons ry .nil)) q)) (fun w s' z => ?_) fun _ _ x => x
  obtain ⟨z', H', I', rz, qz⟩ := z
  exact SlX.cmpback rz ⟨z', H', I', rz, qz⟩
/-- != -/
def rNeO (K : Fg) (C : Addr) (sp : Sp) : R2 := fun x y H Q => ∃ a dx fs tb, x = .ref a ∧ H a = some (.ins C dx fs) ∧ TyX K H y tb ∧ PySem.W.notFirst K C tb = true ∧ sp ([x, y] ++ []) H (fun z H' => ∃ k, z = .bl k ∧ Q (.bl (!k)) H') E0
theorem op_neO {C g : Addr} {j : Nat} {sp : Sp} (M : HasM X.prog X.w X.K X.mg X.base j g sp) (ho : PySem.W.mroIn X.K C (.type "object") = some true) (hne : PySem.W.findIn X.K (.ref C) "__ne__" = some (some (.builtin "object.__ne__"))) (hs : PySem.W.findIn X.K (.ref C) "__eq__" = some (some (.ref g))) (hf : PySem.W.isFn X.K (.ref g) = true) (hr : Room (j + 1) X.A) : OpR X (compareOp .NotEq) (rNeO X.K C sp) := by
  intro pins s σ H x y v u Q I rx ry h
  obtain ⟨a, dx, fs, tb, rfl, ha, ty, hn, q⟩ := h
  cases (show v = Value.ref a from rx)
  obtain ⟨mA, O, _⟩ := ins_get I.hok ha
  obtain ⟨od, J, _⟩ := O.look
  obtain ⟨m, hF⟩ := I.fr
  obtain ⟨Pt, Z, pz, _⟩ := kit_of I ry ty
  rw [show compareOp .NotEq (.ref a) u = richCompare .NotEq (.ref a) u from rfl]
  refine ne_lib (tb := tb) (hu_of hr) hF I.ok.mod.kin J (Z.ty _ _ I.kIn pz) hn ho hne hs hf ?_
  have hr1 : Room j X.A.in1 := hr.in1
  refine wpAny_mono (wpAny_call (SlX.run_at (us := [.ref a, u]) (ws := [.ref a, y]) M.fr hr1 I.env0.in1 pass0 I (.cons rfl (.cons ry .nil)) q)) (fun w s' z => ?_) fun _ _ x => x
  obtain ⟨z', H', I', rz, k, ek, qz⟩ := z
  subst ek
  exact ⟨k, rz, .bl (!k), H', I', rfl, qz⟩
theorem rs_two {K : Fg} {B : Hp} {as : List Addr} {v u : V} {x y : Sl} (s1 : SlOk K B as (some v) x) (s2 : SlOk K B as (some u) y) : RsOk K B as ([v, u] ++ []) [x, y] := .cons s1 (.cons s2 .nil)
theorem rr_binO {C : Addr} {fs gs : List (Str × Sl)} {φ : List Sl → (Sl → Prop) → Prop} (h : φ [.kn (insI C fs), .kn (insI C gs)] fun s => s.free = true ∧ P s ω) : RR X (rBinO C (spS X.K φ)) (.kn (insI C fs)) (.kn (insI C gs)) ω P := fun B F H as v u w s1 s2 Q o => by
  obtain ⟨a, dx, xs, rfl, h1, _⟩ := slk_insI s1
  obtain ⟨b, dy, ys, rfl, h2, _⟩ := slk_insI s2
  exact ⟨a, dx, xs, b, dy, ys, rfl, rfl, w.b _ _ h1, w.b _ _ h2, spS_at w o rfl (rs_two s1 s2) h⟩
theorem rr_binI {C : Addr} {fs : List (Str × Sl)} {i : Int} {φ : List Sl → (Sl → Prop) → Prop} (h : φ [.kn (insI C fs), .val (.int i)] fun s => s.free = true ∧ P s ω) : RR X (rBinI C (spS X.K φ)) (.kn (insI C fs)) (.val (.int i)) ω P := fun B F H as v u w s1 s2 Q o => by
  obtain ⟨a, dx, xs, rfl, h1, _⟩ := slk_insI s1
  obtain rfl := dp_int_inv (sl_val s2)
  exact ⟨a, dx, xs, i, rfl, rfl, w.b _ _ h1, spS_at w o rfl (rs_two s1 s2) h⟩
theorem rr_eqO {C : Addr} {fs : List (Str × Sl)} {y : Sl} {tb : Value} {φ : List Sl → (Sl → Prop) → Prop} (hy : TyS X.K y tb) (hn : PySem.W.notFirst X.K C tb = true) (hf : y.free = true) (h : φ [.kn (insI C fs), y] fun s => s.free = true ∧ P s ω) : RR X (rEqO X.K C (spS X.K φ)) (.kn (insI C fs)) y ω P := fun B F H as v u w s1 s2 Q o => by
  obtain ⟨a, dx, xs, rfl, h1, _⟩ := slk_insI s1
  exact ⟨a, dx, xs, tb, rfl, w.b _ _ h1, hy.get w s2, hn, spS_at w o (by rw [List.all_cons, List.all_cons, hf]; rfl) (rs_two s1 s2) h⟩
theorem rr_neO {C : Addr} {fs : List (Str × Sl)} {y : Sl} {tb : Value} {φ : List Sl → (Sl → Prop) → Prop} (hy : TyS X.K y tb) (hn : PySem.W.notFirst X.K C tb = true) (hf : y.free = true) (h : φ [.kn (insI C fs), y] fun s => ∃ k, s = .val (.bool k) ∧ P (.val (.bool (!k))) ω) : RR X (rNeO X.K C (spS X.K φ)) (.kn (insI C fs)) y ω P := fun B F H as v u w s1 s2 Q o => by
  obtain ⟨a, dx, xs, rfl, h1, _⟩ := slk_insI s1
  refine ⟨a, dx, xs, tb, rfl, w.b _ _ h1, hy.get w s2, hn, ?_⟩
  obtain ⟨F', wF, _, _, back⟩ := w.frame
  refine ⟨B, F', _, _, wF, rs_free (by rw [List.all_cons, List.all_cons, hf]; rfl) (rs_two s1 s2), h, fun v B' H' r sb w' hs ⟨k, er, hp⟩ => ?_⟩
  subst er
  exact ⟨k, dp_bl_inv (sl_val hs), o (.bl (!k)) B' H' as _ ω sb (List.prefix_refl _) (back B' H' sb w') (slv (.bl _)) hp⟩
/-- e(..), e an instance: its own __call__ -/
theorem de_callI {C g : Addr} {j : Nat} {φ : List Sl → (Sl → Prop) → Prop} (M : HasM X.prog X.w X.K X.mg X.base j g (spS X.K φ)) (cO : StX.CallO X.K C g) (hr : Room j X.A)
    (h : DE X fe δ ω fun r0 ω0 => ∃ fs, r0 = .kn (insI C fs) ∧ DA X (e :: es) δ ω0 fun rs ω1 => rs.all Sl.free = true ∧ φ (.kn (insI C fs) :: rs) fun s => s.free = true ∧ P s ω1)
    (ht : eval (.Call fe (e :: es) [] pos) X.env = (do callWith pos (← eval fe X.env) [] (backTo pos (starEach (e :: es) X.env)) (backToKw pos (keywordEach [] X.env))) := by rfl)
    (he : starEach (e :: es) X.env = (false, eval e X.env) :: starEach es X.env := by rfl) (hpl : (backTo pos (starEach es X.env)).any (·.1) = false := by rfl) : DE X (.Call fe (e :: es) [] pos) δ ω P := fun B F H as σ w ev Q oo => by
  refine ⟨_, StX.pe_callO pe_w cO M.fr hr pass0 pa_w ht he hpl, ?_⟩
  refine h B F H as σ w ev _ fun v B0 H0 as0 r0 ω0 e0 p0 w0 s0 ⟨fs, er, h1⟩ => ?_
  subst er
  obtain ⟨a, dx, xs, rfl, i1, i2⟩ := slk_insI s0
  refine ⟨a, rfl, ?_⟩
  refine h1 B0 F H0 as0 σ w0 (envOk_up e0 p0 ev) _ fun vs B1 H1 as1 rs ω1 e1 p1 w1 s1 ⟨hfr, hφ⟩ => ?_
  refine ⟨.inr ⟨dx, xs, w1.b _ _ (e1 _ _ i1)⟩, ?_⟩
  show spS X.K φ ((V.ref a :: vs) ++ []) H1 Q E0
  rw [List.append_nil]
  exact spS_at w1 (oo.up (e0.trans e1) (p0.trans p1)) (by rw [List.all_cons, hfr]; rfl) (.cons (slOk_up e1 p1 s0) s1) hφ
end
/-! ### static methods read off the class -/
structure SMet (K : Fg) (C : Addr) (mc : Value) (m : Str) (p g : Addr) : Prop where
  at_ : PySem.W.findCls K (.ref C) mc m = some (.get (.builtin "staticmethod.__get__") (.ref p) .none (.ref C))
  rc : ∃ rest, PySem.W.recIn K p "staticmethod" = some (.ref g :: rest)
  kp : PySem.W.keepIn K (.ref g) = true
section
variable {X : Cx} {o e : Expr} {es : List Expr} {m : Str} {pos apos : Pos} {δ : List Sl} {ω : List Cell} {P : PO1}
def tSMeth (C : Addr) (sp : Sp) (E : XK) (ta : TE) (t : TA) : TE := fun σ H Q => ta σ H fun x H1 => x = .ref C ∧ t σ H1 fun vs H2 => sp vs H2 Q E
theorem pe_smeth {CX : CXT} {k : Nat} {C p g : Addr} {mc : Value} {sp : Sp} {E : XK} {ta : TE} {t : TA} {pl : Sem Bool} (he : PE X o ta) (r : ClX.CRead X.K C mc) (c : SMet X.K C mc m p g) (F : FnR X.prog X.w X.K X.mg X.base CX k g sp) (hr : Room k X.A) (hx : Passes CX X E) (ha : PA X (e :: es) t)
    (hst : starEach (e :: es) X.env = (false, eval e X.env) :: starEach es X.env := by rfl) (hpl : (backTo pos (starEach es X.env)).any (·.1) = false := by rfl)
    (ht : eval (.Call (.Attribute o m apos) (e :: es) [] pos) X.env = (do
      let ov ← eval o X.env
      standAt apos.atName
      let (f, first) ← holding [ov] (getMethod ov m pl)
      callWith pos f first (backTo pos (starEach (e :: es) X.env)) (backToKw pos (keywordEach [] X.env))) := by rfl) :
    PE X (.Call (.Attribute o m apos) (e :: es) [] pos) (tSMeth C sp E ta t) := by
  refine ⟨fun pins s σ H Q I h => ?_⟩
  refine PySem.W.methodCall_KW (pl := pl) (thn (he.run pins s σ H _ I h) fun u s1 ⟨x, H1, I1, rx, ex, q⟩ => ?_) ht
  subst ex
  obtain rfl : u = Value.ref C := rx
  obtain ⟨rest, hp⟩ := c.rc
  refine PySem.W.method_cls I1.kIn r.ga (PySem.W.cls_bind I1.kIn r.rd c.at_ (wpAny_call (PySem.W.sm_get (s := { s1 with toks := s1.toks + 1 }) I1.kIn hp (PySem.W.handed_on rfl ?_))))
  have I2 := I1.tok (s1.toks + 1)
  refine PySem.W.callWith_K (h₀ := X.base) I2.ok.mod.kin c.kp (thn (ha.run pos pins _ σ H1 _ I2 q) fun us s3 ⟨vs, H2, I3, rv, q2⟩ => ⟨I3.kIn, ?_⟩) hst hpl
  exact wpAny_call (run_fnR F hr hx I3 rv q2)
theorem de_smeth {C p g : Addr} {mc : Value} {j : Nat} {φ : List Sl → (Sl → Prop) → Prop} (M : HasM X.prog X.w X.K X.mg X.base j g (spS X.K φ)) (r : ClX.CRead X.K C mc) (c : SMet X.K C mc m p g) (hr : Room j X.A)
    (h : DE X o δ ω fun ro ω0 => ro = .kn (clsK C) ∧ DA X (e :: es) δ ω0 fun rs ω1 => rs.all Sl.free = true ∧ φ rs fun s => s.free = true ∧ P s ω1) {pl : Sem Bool}
    (hst : starEach (e :: es) X.env = (false, eval e X.env) :: starEach es X.env := by rfl) (hpl : (backTo pos (starEach es X.env)).any (·.1) = false := by rfl)
    (ht : eval (.Call (.Attribute o m apos) (e :: es) [] pos) X.env = (do
      let ov ← eval o X.env
      standAt apos.atName
      let (f, first) ← holding [ov] (getMethod ov m pl)
      callWith pos f first (backTo pos (starEach (e :: es) X.env)) (backToKw pos (keywordEach [] X.env))) := by rfl) : DE X (.Call (.Attribute o m apos) (e :: es) [] pos) δ ω P := fun B F H as σ w ev Q oo => by
  refine ⟨_, pe_smeth pe_w r c M.fr hr pass0 pa_w hst hpl ht, ?_⟩
  refine h B F H as σ w ev _ fun v B0 H0 as0 ro ω0 e0 p0 w0 s0 ⟨er, h1⟩ => ?_
  subst er
  obtain ⟨v', B9, e9, sb9, hv⟩ := s0
  cases e9
  have hv' : v = .ref C := hv
  subst hv'
  refine ⟨rfl, ?_⟩
  refine h1 B0 F H0 as0 σ w0 (envOk_up e0 p0 ev) _ fun vs B1 H1 as1 rs ω1 e1 p1 w1 s1 ⟨hfr, hφ⟩ => ?_
  show spS X.K φ (vs ++ []) H1 Q E0
  rw [List.append_nil]
  exact spS_at w1 (oo.up (e0.trans e1) (p0.trans p1)) hfr s1 hφ
end
end
section
theorem rr_eqM {X : Cx} {P : Sl → List Cell → Prop} {ω : List Cell} {a b : Nat} (hp : P (.val (.bool (decide (a = b)))) ω) : RR X rEq (.val (nD a)) (.val (nD b)) ω P := fun B F H as v u w s1 s2 Q o => by
  obtain rfl := dp_int_inv (sl_val s1)
  obtain rfl := dp_int_inv (sl_val s2)
  refine ⟨rfl, ?_⟩
  rw [dec_int, show ((a : Int) == (b : Int)) = decide (a = b) by rw [Bool.eq_iff_iff, beq_iff_eq, decide_eq_true_eq]; omega]
  exact o.here w (.bl _) hp
end
section
/-! ### effects: what they are -/
def isR (d : D) (l : List Nat) : Bool := match d with
  | .int i => (decide (0 ≤ i) && decide (i ≤ 5)) && decide (i.toNat ∈ l)
  | _ => false
def isMv (d : D) (l : List Nat) : Bool := match d with
  | .tuple ds => decide (ds.length = l.length) && ds.all fun p => isR p l
  | _ => false
def MvOk (S : Sys) (m : List Nat) : Prop := m.length = (reach S).length ∧ ∀ x ∈ m, x ∈ reach S
def movesOf (S : Sys) (l : List Nat) : List Nat := (reach S).map fun s => endOf S s l
def fixedOf (S : Sys) (m : List Nat) : List Nat := (((reach S).zip m).filter fun p => decide (p.1 = p.2)).map (·.1)
def effF (S : Sys) (m : List Nat) : List (Str × Sl) := [("_system", .val (sysD S)), ("_moves", .val (logD m)), ("_reached", .kn (ftupK ((reach S).map nD)))]
def effS (C : Addr) (S : Sys) (m : List Nat) : Sl := .kn (insI C (effF S m))
theorem effF_put (S : Sys) (m : List Nat) : putS "_reached" (.kn (ftupK ((reach S).map nD))) (putS "_moves" (.val (logD m)) (putS "_system" (.val (sysD S)) [])) = effF S m := by
  have h1 : ¬ (("_system" : Str) = "_moves") := by decide +kernel
  have h2 : ¬ (("_system" : Str) = "_reached") := by decide +kernel
  have h3 : ¬ (("_moves" : Str) = "_reached") := by decide +kernel
  show putS "_reached" _ (if ("_system" : Str) = "_moves" then [(("_system" : Str), Sl.val (logD m))] else (("_system" : Str), Sl.val (sysD S)) :: [(("_moves" : Str), Sl.val (logD m))]) = effF S m
  rw [if_neg h1]
  show (if ("_system" : Str) = "_reached" then _ else (("_system" : Str), Sl.val (sysD S)) :: (if ("_moves" : Str) = "_reached" then _ else (("_moves" : Str), Sl.val (logD m)) :: [(("_reached" : Str), Sl.kn (ftupK ((reach S).map nD)))])) = effF S m
  rw [if_neg h2, if_neg h3]
  rfl
def φ_isr : List D → (D → Prop) → Prop := fun ds P => ∃ d l, ds = [d, logD l] ∧ P (.bool (isR d l))
def φ_isMv : List D → (D → Prop) → Prop := fun ds P => ∃ d l, ds = [d, logD l] ∧ Sm d ∧ l.length ≤ 10 ∧ P (.bool (isMv d l))
theorem isR_nD {x : Nat} {l : List Nat} (h : x ∈ l) (h5 : x ≤ 5) : isR (nD x) l = true := by
  show ((decide ((0 : Int) ≤ (x : Int)) && decide ((x : Int) ≤ 5)) && decide (((x : Int)).toNat ∈ l)) = true
  rw [decide_eq_true (by omega), decide_eq_true (by omega), Int.toNat_natCast, decide_eq_true h]
  rfl
theorem reach_len {S : Sys} (hS : S.Ok) : (reach S).length ≤ 6 := by
  have h1 := List.length_filter_le (fun s => decide (s ∈ (bfs S).map (·.1))) (List.range S.n)
  rw [List.length_range] at h1
  have := hS.n6
  unfold reach
  omega
theorem reach_5 {S : Sys} (hS : S.Ok) {x : Nat} (h : x ∈ reach S) : x ≤ 5 := by
  have h1 := reach_lt h
  have := hS.n6
  omega
theorem isMv_of {S : Sys} (hS : S.Ok) {m : List Nat} (h : MvOk S m) : isMv (logD m) (reach S) = true := by
  show (decide ((m.map nD).length = (reach S).length) && (m.map nD).all fun p => isR p (reach S)) = true
  rw [List.length_map, decide_eq_true h.1, Bool.true_and, List.all_map, List.all_eq_true]
  exact fun x hx => isR_nD (h.2 x hx) (reach_5 hS (h.2 x hx))
theorem mv_log {S : Sys} (hS : S.Ok) {m : List Nat} (h : MvOk S m) : m.length ≤ 6 ∧ ∀ x ∈ m, x ≤ 5 := ⟨by rw [h.1]; exact reach_len hS, fun x hx => reach_5 hS (h.2 x hx)⟩
section
variable {P : Program} {w : World} {K : Fg} {mg : Str → Option Value} {base : Heap} {f : Addr} {fd : FuncData} {k : Nat}
theorem ok_is_reached {t6 : Tok} (F : Fun K "is_reached" "is_reached" s_is_reached f fd) (c1 : Has P w K mg base 2 "is_place" (spP K φ_is_place)) (m6 : mg "MOST_STATES" = some (.int 6 t6)) : FnOk P w K mg base CX0 3 f fd ["thing", "reached"] (spP K φ_isr) := by
  refine ok_P F sc_is_reached (fun ds Q h => ?_) fun ds Q h cdv A outer s H E hr => ?_
  · obtain ⟨d, l, rfl, _⟩ := h
    rfl
  · obtain ⟨d, l, rfl, hq⟩ := h
    have nd := sc_is_reached.nd
    refine ds_cons (d1_ret (de_andB (x := isNum d 0 (6 - 1)) (y := isR d l) (de_call c1 (by walk_at "room") (by rfl) (da_cons (de_var 0 rfl (by nofun) rfl (by walk_at "vis") (da_cons (de_glob (v := .int 6) rfl m6 ⟨_, rfl⟩ (fun _ _ => .int _) (da_nil ⟨[_, _], rfl, d, 6, rfl, rfl, rfl⟩)))))) (fun h1 => ?_) ?_))
    · cases d with
      | int i =>
        have h2 : (decide ((0 : Int) ≤ i) && decide (i ≤ 5)) = true := h1
        rw [Bool.and_eq_true, decide_eq_true_eq, decide_eq_true_eq] at h2
        refine de_one (de_cmp op_in_seq (by rfl) (de_var 0 rfl (by nofun) rfl (by walk_at "vis") (de_var 1 rfl (by nofun) rfl (by walk_at "vis") (rr_in rfl (.tup _) (flat_nD' _) ⟨?_, rfl⟩))))
        show Sl.val (.bool (inD (.int i) (l.map nD))) = .val (.bool ((decide ((0 : Int) ≤ i) && decide (i ≤ 5)) && decide (i.toNat ∈ l)))
        have e : PyData.int i = nD i.toNat := by
          show PyData.int i = PyData.int ((i.toNat : Nat) : Int)
          rw [Int.toNat_of_nonneg h2.1]
        rw [e, inD_map, decide_eq_true h2.1, decide_eq_true h2.2]
        rfl
      | _ => cases h1
    · have e : (isNum d 0 (6 - 1) && isR d l) = isR d l := by
        cases d with
        | int i =>
          show ((decide ((0 : Int) ≤ i) && decide (i ≤ 5)) && ((decide ((0 : Int) ≤ i) && decide (i ≤ 5)) && decide (i.toNat ∈ l))) = ((decide ((0 : Int) ≤ i) && decide (i ≤ 5)) && decide (i.toNat ∈ l))
          cases (decide ((0 : Int) ≤ i) && decide (i ≤ 5)) <;> rfl
        | _ => rfl
      rw [e]
      exact ⟨_, rfl, hq⟩
theorem ok_are_moves (F : Fun K "are_moves" "are_moves" s_are_moves f fd) (c1 : Has P w K mg base 3 "is_reached" (spP K φ_isr)) (mI : mg "isinstance" = none) (mT : mg "tuple" = none) (mL : mg "len" = none) (mA : mg "all" = none) : FnOk P w K mg base CX0 4 f fd ["thing", "reached"] (spP K φ_isMv) := by
  refine ok_P F sc_are_moves (fun ds Q h => ?_) fun ds Q h cdv A outer s H E hr => ?_
  · obtain ⟨d, l, rfl, _⟩ := h
    rfl
  · obtain ⟨d, l, rfl, hz, hl, hq⟩ := h
    have nd := sc_are_moves.nd
    refine ds_cons (d1_if (dt_w (dw_orB (x := !isTup d) (y := !decide (lenD d = (l.length : Int))) (dt_not (dt_val (de_isi (by rfl) mI (by rfl) mT PyProof.Rows.boot_tuple kit_tuple (de_var 0 rfl (by nofun) rfl (by walk_at "vis") ⟨_, rfl, fun hnd => ⟨_, rfl, congrArg (fun b => !b) (isi_tuple d hnd), rfl⟩⟩)))) (fun h1 => ?_) ?_)))
    · cases d with
      | tuple es =>
        refine dw_or1 (dt_cmp op_ne (nomark _) (de_callB call_len_seq (by rfl) mL PySem.boot_len (da_cons (de_var 0 rfl (by nofun) rfl (by walk_at "vis") (da_nil (ra_len (.tup _) (de_callB call_len_seq (by rfl) mL PySem.boot_len (da_cons (de_var 1 rfl (by nofun) rfl (by walk_at "vis") (da_nil (ra_len (.tup _) (rr_neN (a := es.length) (b := (l.map nD).length) ⟨_, rfl, ?_, rfl⟩))))))))))))
        rw [List.length_map]
        show (!decide (es.length = l.length)) = !decide ((es.length : Int) = (l.length : Int))
        congr 1
        rw [decide_eq_decide]
        omega
      | _ => cases h1
    · cases d with
      | tuple es =>
        show if (false || !decide ((es.length : Int) = (l.length : Int))) = true then _ else _
        rw [Bool.false_or]
        refine ite2 (fun hc => ?_) (fun hc => ds_nil ?_)
        · refine ds_cons (d1_ret (de_bool ⟨_, rfl, ?_⟩))
          have e : isMv (.tuple es) l = false := by
            show (decide (es.length = l.length) && _) = false
            rw [decide_eq_false (fun z => by rw [Bool.not_eq_true', decide_eq_false_iff_not] at hc; omega), Bool.false_and]
          rw [e] at hq
          exact hq
        · refine ds_cons (d1_ret (de_callB (cr_all rfl) (by rfl) mA PyProof.Rows.boot_all (da_cons ?_)))
          refine de_lc rfl nd (blkOk_by (own := [("part", 2)]) (N := n_are_moves) (sc := defScope s_are_moves) (by decide +kernel)) (di_tup (de_var 0 rfl (by nofun) rfl (by walk_at "vis") ⟨es, rfl, ?_⟩))
          refine ⟨sm_len hz, _, ⟨rfl, rfl⟩, lc_map (fun d => .bool (isR d l)) (fun j d hd s H C cl fp => ?_), fun acc ω' hacc ⟨ew, ea⟩ => .inl ?_⟩
          · refine dg_name (i := 2) nd rfl (.inl rfl) (by decide) ?_
            intro s H C cl fp
            exact de_call c1 (by walk_at "room") (by rfl) (da_cons (de_var 2 rfl (by nofun) rfl (by walk_at "vis") (da_cons (de_var 1 rfl (by nofun) rfl (by walk_at "vis") (da_nil ⟨[_, _], rfl, d, l, rfl, rfl, rfl⟩)))))
          · rw [List.take_length, (all_map es _).1] at ea
            subst ew ea
            refine da_nil (ra_all ⟨_, rfl, ?_⟩)
            rw [(all_map es _).2]
            have e : isMv (.tuple es) l = es.all fun p => isR p l := by
              show (decide (es.length = l.length) && _) = _
              rw [decide_eq_true (by simp only [Bool.not_eq_true', Bool.not_eq_false, decide_eq_true_eq] at hc; omega), Bool.true_and]
            rw [e] at hq
            exact hq
      | dict kv =>
        refine iteT (ds_cons (d1_ret (de_bool ⟨_, rfl, hq⟩)))
      | _ => exact iteT (ds_cons (d1_ret (de_bool ⟨_, rfl, hq⟩)))
end
end
section
/-! ### the class Effect -/
structure EffT (K : Fg) (mg : Str → Option Value) (C : Addr) : Prop where
  cl : Cls K C
  n1 : NoAttr K C "_system"
  n2 : NoAttr K C "_moves"
  n3 : NoAttr K C "_reached"
  mc : mg "Effect" = some (.ref C)
  isi : SlX.SIsi K C
  kit : PySem.W.kitOne K (.ref C) (.ref C) = some true
def φ_einit (C : Addr) : List Sl → List Cell → PO1 → Prop := fun rs ω P => ∃ S m y dx, rs = [.kn (refK y), .val (sysD S), .val (logD m)] ∧ S.Ok ∧ MvOk S m ∧ ω = [ownC y, insA C dx y []] ∧ P (.val .none) [ownC y, insA C dx y (effF S m)]
def φ_eof (C : Addr) : List Sl → (Sl → Prop) → Prop := fun rs P => ∃ S l, rs = [.kn (clsK C), .val (sysD S), .val (logD l)] ∧ S.Ok ∧ LogOk S l ∧ l.length ≤ 1000 ∧ P (effS C S (movesOf S l))
def φ_eget (C : Addr) (f : Str) : List Sl → (Sl → Prop) → Prop := fun rs P => ∃ S m d, rs = [effS C S m] ∧ (effF S m).lookup f = some (.val d) ∧ P (.val d)
def φ_efix (C : Addr) : List Sl → (Sl → Prop) → Prop := fun rs P => ∃ S m, rs = [effS C S m] ∧ S.Ok ∧ MvOk S m ∧ P (.val (logD (fixedOf S m)))
def effStr (n k : Nat) : Str := ((((("Effect(" : Str) ++ toString (n : Int)) ++ (" states, " : Str)) ++ toString (k : Int)) ++ (" fixed)" : Str))
def φ_erepr (C : Addr) : List Sl → (Sl → Prop) → Prop := fun rs P => ∃ S m, rs = [effS C S m] ∧ S.Ok ∧ MvOk S m ∧ P (.val (.str (effStr m.length (fixedOf S m).length)))
def φ_reachF : List Sl → (Sl → Prop) → Prop := fun rs P => ∃ S, rs = [.val (sysD S)] ∧ S.Ok ∧ P (.kn (ftupK ((reach S).map nD)))
theorem sm_mv {S : Sys} (hS : S.Ok) {m : List Nat} (h : MvOk S m) : Sm (logD m) := by
  have h1 := (mv_log hS h).1
  show (logD m).bulk ≤ 100000
  rw [bulk_log]
  omega
theorem fixed_len (S : Sys) (m : List Nat) : (fixedOf S m).length ≤ (reach S).length := by
  unfold fixedOf
  rw [List.length_map]
  refine Nat.le_trans (List.length_filter_le _ _) ?_
  rw [List.length_zip]
  omega
theorem mv_of {S : Sys} (hS : S.Ok) {l : List Nat} (hl : LogOk S l) : MvOk S (movesOf S l) := by
  refine ⟨List.length_map _, fun x hx => ?_⟩
  obtain ⟨s, hs, rfl⟩ := List.mem_map.mp hx
  exact closed_end (reach_closed hS).1 l s hl hs
section
variable {P : Program} {w : World} {K : Fg} {mg : Str → Option Value} {base : Heap} {f C : Addr} {fd : FuncData} {k : Nat}
theorem ok_reachF (F : Fun K "reachable" "reachable" s_reachable f fd) (c1 : Has P w K mg base 6 "check_system" (spP K φ_check_system)) (c2 : Has P w K mg base 1 "first_paths" (spD K φ_paths)) (mR : mg "range" = none) (mT : mg "tuple" = none) : FnOk P w K mg base CX0 7 f fd ["system"] (spS K φ_reachF) := by
  refine ok_S F sc_reachable (fun rs Q h => ?_) fun rs Q h cdv A outer s H E hr => ?_
  · obtain ⟨S, rfl, _⟩ := h
    rfl
  · obtain ⟨S, rfl, hS, hq⟩ := h
    have nd := sc_reachable.nd
    have hu := hu_of hr
    have h6 := hS.n6
    refine ds_cons (d1_expr (de_call c1 (by walk_at "room") (by rfl) (da_cons (de_var 0 rfl (by nofun) rfl (by walk_at "vis") (da_nil ⟨[_], rfl, _, rfl, sm_sys hS, isSys_of hS, ?_⟩)))))
    refine ds_cons (d1_asg (i := 1) nd rfl (by walk_at "loc") (de_callD c2 (by walk_at "room") (by rfl) (da_cons (de_var 0 rfl (by nofun) rfl (by walk_at "vis") (da_nil ⟨[_], rfl, S, rfl, hS, ?_⟩)))))
    refine ds_cons (d1_ret (de_callTy call_tupleF (by rfl) mT PyProof.Rows.boot_tuple (da_cons ?_)))
    refine de_lc rfl nd (blkOk_by (own := [("state", 2)]) (N := n_reachable) (sc := defScope s_reachable) (by decide +kernel)) (di_rng1 (by rfl) mR (de_ix (fun _ _ => rfl) (de_var 0 rfl (by nofun) rfl (by walk_at "vis") (de_int ⟨_, _, _, rfl, (by walk_at "seq"), rfl, _, rfl, by omega, by omega, ?_⟩))))
    refine ⟨by rw [rgD_len]; omega, _, ⟨rfl, rfl⟩, lc_filt (fun d => match d with | .int s => decide (s.toNat ∈ (bfs S).map (·.1)) | _ => false) (fun d => d) (fun x d hd => ?_), fun acc ω3 hacc ⟨ew, ea⟩ => .inl ?_⟩
    · intro s H C cl fp
      obtain ⟨hx, rfl⟩ := rgD_at hd
      refine dg_name (i := 2) nd rfl (.inl rfl) (by decide) ⟨?_, fun _ => ?_⟩
      · intro s H C cl fp
        refine dt_din hu (de_var 2 rfl (by nofun) rfl (by walk_at "vis") (de_var 1 rfl (by nofun) rfl (by walk_at "vis") ⟨0, _, .inl ((x : Nat) : Int), rfl, rfl, ?_, ?_, rfl⟩))
        · rw [Int.zero_add]
          rfl
        · rw [isB, Int.zero_add]
          rfl
      · intro s H C cl fp
        exact de_var 2 rfl (by nofun) rfl (by walk_at "vis") ⟨rfl, rfl⟩
    · rw [List.take_length] at ea
      subst ew ea
      refine da_nil (ra_tupFK (.lst _) nofun ⟨rfl, ?_⟩)
      have e : ((rgD 0 (S.n : Int)).filter (fun d => match d with | .int s => decide (s.toNat ∈ (bfs S).map (·.1)) | _ => false)).map (fun d => d) = (reach S).map nD := by
        rw [List.map_id', rgD0, List.filter_map]
        rfl
      show Q (.kn (ftupK (((rgD 0 (S.n : Int)).filter _).map _)))
      rw [e]
      exact hq
theorem ok_einit (T : EffT K mg C) (F : Fun K "__init__" "Effect.__init__" s_Effect_init f fd) (c1 : Has P w K mg base 7 "reachable" (spS K φ_reachF)) (c2 : Has P w K mg base 4 "are_moves" (spP K φ_isMv)) : FnOk P w K mg base CX0 8 f fd ["self", "system", "moves"] (spU K (φ_einit C)) := by
  refine ok_U F sc_Effect_init (fun rs ω Q h => ?_) fun rs ω Q h cdv A outer s H E hr => ?_
  · obtain ⟨S, m, y, dx, rfl, _⟩ := h
    rfl
  · obtain ⟨S, m, y, dx, rfl, hS, hm, rfl, hq⟩ := h
    have nd := sc_Effect_init.nd
    refine ds_cons (d1_asg (i := 3) nd rfl (by walk_at "loc") (de_callS c1 (by walk_at "room") (by rfl) (da_cons (de_var 1 rfl (by nofun) rfl (by walk_at "vis") (da_nil ⟨rfl, S, rfl, hS, rfl, ?_⟩)))))
    refine ds_cons (d1_if (dt_not (dt_val (de_call c2 (by walk_at "room") (by rfl) (da_cons (de_var 2 rfl (by nofun) rfl (by walk_at "vis") (da_cons (DE.asF (de_var 3 rfl (by nofun) rfl (by walk_at "vis") ⟨_, rfl, (da_nil ⟨[_, _], rfl, logD m, reach S, rfl, sm_mv hS hm, by have := reach_len hS; omega, _, rfl, ?_⟩)⟩)))))))))
    rw [isMv_of hS hm]
    refine iteF (ds_nil ?_)
    refine ds_cons (d1_setAttrA (de_var 1 rfl (by nofun) rfl (by walk_at "vis") (de_var 0 rfl (by nofun) rfl (by walk_at "vis") ⟨1, C, dx, y, [], rfl, rfl, rfl, T.cl, T.n1, by decide, ?_⟩)))
    refine ds_cons (d1_setAttrA (de_var 2 rfl (by nofun) rfl (by walk_at "vis") (de_var 0 rfl (by nofun) rfl (by walk_at "vis") ⟨1, C, dx, y, _, rfl, rfl, rfl, T.cl, T.n2, by have := putS_len "_system" (.val (sysD S)) []; simp only [List.length_nil] at this; omega, ?_⟩)))
    refine ds_cons (d1_setAttrA (de_var 3 rfl (by nofun) rfl (by walk_at "vis") (de_var 0 rfl (by nofun) rfl (by walk_at "vis") ⟨1, C, dx, y, _, rfl, rfl, rfl, T.cl, T.n3, by have := putS_len "_system" (.val (sysD S)) []; have := putS_len "_moves" (.val (logD m)) (putS "_system" (.val (sysD S)) []); simp only [List.length_nil] at *; omega, ?_⟩)))
    refine ds_nil (.inl ⟨nofun, ?_⟩)
    rw [effF_put]
    exact hq
theorem ok_eget (T : EffT K mg C) {x q : Str} {st : Stmt} {fl : Str} {p1 p2 p3 : Pos} (F : Fun K x q st f fd) (sc : FnScope ["self"] ["self"] (defScope st)) (hb : defBody st = [.Return (some (.Attribute (.Name "self" p1) fl p2)) p3]) (n : NoAttr K C fl) : FnOk P w K mg base CX0 1 f fd ["self"] (spS K (φ_eget C fl)) := by
  refine ok_S F sc (fun rs Q h => ?_) fun rs Q h cdv A outer s H E hr => ?_
  · obtain ⟨S, m, d, rfl, _⟩ := h
    rfl
  · obtain ⟨S, m, d, rfl, hl, hq⟩ := h
    rw [hb]
    refine ds_cons (d1_ret (de_attrI (de_var 0 rfl (by nofun) rfl ?_ ⟨C, effF S m, .val d, rfl, T.cl, n, hl, rfl, hq⟩)))
    exact (sc.par "self" (List.Mem.head _)).elim (fun z => .inl z) (fun z => .inr (.inl z))
theorem ok_efix (T : EffT K mg C) (F : Fun K "fixed" "Effect.fixed" s_Effect_fixed f fd) (mZ : mg "zip" = none) (mT : mg "tuple" = none) : FnOk P w K mg base CX0 1 f fd ["self"] (spS K (φ_efix C)) := by
  refine ok_S F sc_Effect_fixed (fun rs Q h => ?_) fun rs Q h cdv A outer s H E hr => ?_
  · obtain ⟨S, m, rfl, _⟩ := h
    rfl
  · obtain ⟨S, m, rfl, hS, hm, hq⟩ := h
    have nd := sc_Effect_fixed.nd
    have hl6 := reach_len hS
    refine ds_cons (d1_ret (de_callTy call_tuple_of (by rfl) mT PyProof.Rows.boot_tuple (da_cons ?_)))
    refine de_lcS rfl nd (blkOk_by (own := [("state", 1), ("target", 2)]) (N := n_Effect_fixed) (sc := defScope s_Effect_fixed) (by decide +kernel)) (dis_zip (by rfl) mZ (da_cons (DE.asF (de_attrI (de_var 0 rfl (by nofun) rfl (by walk_at "vis") ⟨C, effF S m, _, rfl, T.cl, T.n3, rfl, _, rfl, (da_cons (de_attrI (de_var 0 rfl (by nofun) rfl (by walk_at "vis") ⟨C, effF S m, _, rfl, T.cl, T.n2, rfl, (da_nil ⟨_, _, _, _, rfl, .tup _, .tup _, free_val _, free_val _, ?_⟩)⟩)))⟩)))))
    rw [List.map_map, List.map_map, zipS_map]
    refine ⟨by rw [List.length_map, List.length_zip]; omega, _, fun _ _ _ _ => trivial, ⟨rfl, rfl⟩, lcS_filtA _ (fun p : Nat × Nat => decide (p.1 = p.2)) (fun p : Nat × Nat => .val (nD p.1)) (fun j p hp s H C cl fp => ?_), fun acc ω' hacc ⟨ew, ea⟩ => .inr ?_⟩
    · refine dgs_tup2 (i := 1) (j := 2) rfl nd rfl rfl (.inl rfl) (.inl rfl) (by decide) (by decide) ⟨?_, fun _ => ?_⟩
      · intro s H C cl fp
        exact dt_cmp op_eq (nomark _) (de_var 1 rfl (by nofun) rfl (by walk_at "vis") (de_var 2 rfl (by nofun) rfl (by walk_at "vis") (rr_eqM ⟨_, rfl, rfl, rfl⟩)))
      · intro s H C cl fp
        exact de_var 1 rfl (by nofun) rfl (by walk_at "vis") ⟨rfl, rfl, rfl⟩
    · rw [List.length_map, List.take_length] at ea
      subst ew ea
      refine ⟨(fixedOf S m).map nD, ?_, .inl (da_nil (ra_tuple (.lst _) ⟨rfl, hq⟩))⟩
      unfold fixedOf
      rw [List.map_map, List.map_map]
      rfl
theorem small_6 {i : Nat} (h : i ≤ 9) : ((i : Int)).natAbs.log2 < 1920 := small_log h
theorem ok_erepr (T : EffT K mg C) {pF gF : Addr} (F : Fun K "__repr__" "Effect.__repr__" s_Effect_repr f fd) (c1 : HasM P w K mg base 1 gF (spS K (φ_efix C))) (pf : PropOf K C "fixed" pF gF) (mL : mg "len" = none) : FnOk P w K mg base CX0 3 f fd ["self"] (spS K (φ_erepr C)) := by
  refine ok_S F sc_Effect_repr (fun rs Q h => ?_) fun rs Q h cdv A outer s H E hr => ?_
  · obtain ⟨S, m, rfl, _⟩ := h
    rfl
  · obtain ⟨S, m, rfl, hS, hm, hq⟩ := h
    have nd := sc_Effect_repr.nd
    have hl6 := (mv_log hS hm).1
    have hf6 := fixed_len S m
    have hr6 := reach_len hS
    have e1 : (strN m.length).length = 1 := strN_len (by omega)
    have e2 : (strN (fixedOf S m).length).length = 1 := strN_len (by omega)
    have k1 : ("Effect(" : Str).length = 7 := by decide +kernel
    have k2 : (" states, " : Str).length = 9 := by decide +kernel
    have k3 : (" fixed)" : Str).length = 7 := by decide +kernel
    refine ds_cons (d1_ret (de_joined (de_str ⟨_, rfl, ?_, (de_fmtI (de_callB call_len_seq (by rfl) mL PySem.boot_len (da_cons (de_attrI (de_var 0 rfl (by nofun) rfl (by walk_at "vis") ⟨C, effF S m, .val (logD m), rfl, T.cl, T.n2, rfl, (da_nil (ra_len (.tup _) ⟨_, rfl, ?_, _, rfl, ?_, (de_str ⟨_, rfl, ?_, ?_⟩)⟩))⟩)))))⟩)))
    · rw [empty_app1, k1]
      decide
    · rw [List.length_map]
      exact small_log (by omega)
    · rw [List.length_map, empty_app, toStr_nD, app_len, k1, e1]
      decide
    · rw [List.length_map, empty_app, toStr_nD, app_len, app_len, k1, e1, k2]
      decide
    rw [List.length_map, empty_app, toStr_nD]
    refine de_fmtI (de_callB call_len_seq (by rfl) mL PySem.boot_len (da_cons (de_propI c1 T.cl pf (by walk_at "room") (de_var 0 rfl (by nofun) rfl (by walk_at "vis") ⟨effF S m, rfl, S, m, rfl, hS, hm, rfl, (da_nil (ra_len (.tup _) ⟨_, rfl, ?_, _, rfl, ?_, (de_str ⟨_, rfl, ?_, ?_⟩)⟩))⟩))))
    · rw [List.length_map]
      exact small_log (by omega)
    · rw [List.length_map, toStr_nD, app_len, app_len, app_len, k1, e1, k2, e2]
      decide
    · rw [List.length_map, toStr_nD, app_len, app_len, app_len, app_len, k1, e1, k2, e2, k3]
      decide
    rw [List.length_map, toStr_nD]
    exact ⟨rfl, hq⟩
theorem ok_eof (T : EffT K mg C) {gI : Addr} (F : Fun K "of" "Effect.of" s_Effect_of f fd) (c1 : Has P w K mg base 6 "check_system" (spP K φ_check_system)) (c2 : Has P w K mg base 5 "check_log" (spP K φ_check_log)) (c3 : Has P w K mg base 7 "reachable" (spP K φ_reach)) (c4 : Has P w K mg base 1 "end_of" (spP K φ_end_of))
    (cI : HasM P w K mg base 8 gI (spU K (φ_einit C))) (mk : Mk K C gI) (mT : mg "tuple" = none) : FnOk P w K mg base CX0 10 f fd ["cls", "system", "log"] (spS K (φ_eof C)) := by
  refine ok_S F sc_Effect_of (fun rs Q h => ?_) fun rs Q h cdv A outer s H E hr => ?_
  · obtain ⟨S, l, rfl, _⟩ := h
    rfl
  · obtain ⟨S, l, rfl, hS, hl, hz, hq⟩ := h
    have nd := sc_Effect_of.nd
    have hl6 := reach_len hS
    refine ds_cons (d1_expr (de_call c1 (by walk_at "room") (by rfl) (da_cons (de_var 1 rfl (by nofun) rfl (by walk_at "vis") (da_nil ⟨[_], rfl, _, rfl, sm_sys hS, isSys_of hS, ?_⟩)))))
    refine ds_cons (d1_expr (de_call c2 (by walk_at "room") (by rfl) (da_cons (de_var 1 rfl (by nofun) rfl (by walk_at "vis") (da_cons (de_var 2 rfl (by nofun) rfl (by walk_at "vis") (da_nil ⟨[_, _], rfl, S, _, rfl, sm_log (by omega), isLog_of hl, ?_⟩)))))))
    refine ds_cons (d1_asg (i := 3) nd rfl (by walk_at "loc") (de_callTy call_tuple_of (by rfl) mT PyProof.Rows.boot_tuple (da_cons ?_)))
    refine de_lc rfl nd (blkOk_by (own := [("state", 4)]) (N := n_Effect_of) (sc := defScope s_Effect_of) (by decide +kernel)) (di_tup (de_call c3 (by walk_at "room") (by rfl) (da_cons (de_var 1 rfl (by nofun) rfl (by walk_at "vis") (da_nil ⟨[_], rfl, S, rfl, hS, _, rfl, ?_⟩)))))
    refine ⟨by rw [List.length_map]; omega, _, ⟨rfl, rfl⟩, lc_map (fun d => match d with | .int i => nD (endOf S i.toNat l) | _ => .none) (fun j d hd s H C cl fp => ?_), fun acc ω' hacc ⟨ew, ea⟩ => .inl ?_⟩
    · obtain ⟨x, hx, rfl⟩ := map_at hd
      refine dg_name (i := 4) nd rfl (.inl rfl) (by decide) ?_
      intro s H C cl fp
      exact de_call c4 (by walk_at "room") (by rfl) (da_cons (de_var 1 rfl (by nofun) rfl (by walk_at "vis") (da_cons (de_var 4 rfl (by nofun) rfl (by walk_at "vis") (da_cons (de_var 2 rfl (by nofun) rfl (by walk_at "vis") (da_nil ⟨[_, _, _], rfl, S, x, l, rfl, hS, reach_lt (List.mem_of_getElem? hx), hl, rfl, rfl⟩)))))))
    · rw [List.take_length] at ea
      subst ew ea
      have e : ((reach S).map nD).map (fun d => match d with | .int i => nD (endOf S i.toNat l) | _ => .none) = (movesOf S l).map nD := by
        unfold movesOf
        rw [List.map_map, List.map_map]
        rfl
      rw [e]
      refine da_nil (ra_tuple (.lst _) ?_)
      exact ds_cons (d1_ret (de_makeVI cI mk (by walk_at "room") (de_var 0 rfl (by nofun) rfl (by walk_at "vis") ⟨rfl, (da_cons (de_var 1 rfl (by nofun) rfl (by walk_at "vis") (da_cons (de_var 3 rfl (by nofun) rfl (by walk_at "vis") (da_nil ⟨rfl, fun y dx => ⟨S, movesOf S l, y, dx, rfl, hS, mv_of hS hl, rfl, rfl, effF S (movesOf S l), rfl, rfl, hq⟩⟩)))))⟩)))
end
end
section
/-! ### what can be shown, texts too -/
mutual
def shX : D → Bool
  | .none => true
  | .bool _ => true
  | .int i => decide (-999999999999 ≤ i ∧ i ≤ 1000000000000)
  | .str x => x.cps.toList.all fun c => decide (c < 16 ^ 8)
  | .list xs => shXAll xs
  | .tuple xs => shXAll xs
  | .dict _ => false
def shXAll : List D → Bool
  | [] => true
  | x :: xs => shX x && shXAll xs
end
theorem log2_smallX {i : Int} (h1 : -999999999999 ≤ i) (h2 : i ≤ 1000000000000) : i.natAbs.log2 < 1920 := by
  have hn : i.natAbs < 2 ^ 44 := by
    have : (2 : Nat) ^ 44 = 17592186044416 := by decide
    omega
  have h3 : i.natAbs.log2 < 44 := by
    by_cases hz : i.natAbs = 0
    · rw [hz]
      decide
    · exact (Nat.log2_lt hz).mpr hn
  omega
theorem shown_13 {i : Int} (h1 : -999999999999 ≤ i) (h2 : i ≤ 1000000000000) : (PySem.PyData.shown (.int i)).length ≤ 13 := by
  by_cases h : i ≤ 999999999999
  · exact PySem.PyData.shown_int_le2 h1 h
  · obtain rfl : i = 1000000000000 := by omega
    decide +kernel
mutual
theorem shX_ok : ∀ d : D, shX d = true → d.showable = true ∧ d.hasDict = false ∧ d.leavesShort 13 = true
  | .none, _ => ⟨rfl, rfl, rfl⟩
  | .bool _, _ => ⟨rfl, rfl, rfl⟩
  | .int i, h => by
    have h := of_decide_eq_true (show decide (-999999999999 ≤ i ∧ i ≤ 1000000000000) = true from h)
    exact ⟨decide_eq_true (log2_smallX h.1 h.2), rfl, decide_eq_true (shown_13 h.1 h.2)⟩
  | .str _, h => ⟨rfl, rfl, h⟩
  | .list xs, h => by
    have q := shXAll_ok xs h
    exact ⟨q.1, q.2.1, q.2.2⟩
  | .tuple xs, h => by
    have q := shXAll_ok xs h
    exact ⟨q.1, q.2.1, q.2.2⟩
  | .dict _, h => by cases h
theorem shXAll_ok : ∀ xs : List D, shXAll xs = true → PyData.showableAll xs = true ∧ PyData.hasDictAll xs = false ∧ PyData.leavesShortAll 13 xs = true
  | [], _ => ⟨rfl, rfl, rfl⟩
  | x :: xs, h => by
    have h : (shX x && shXAll xs) = true := h
    rw [Bool.and_eq_true] at h
    have q1 := shX_ok x h.1
    have q2 := shXAll_ok xs h.2
    refine ⟨?_, ?_, ?_⟩
    · show (x.showable && PyData.showableAll xs) = true
      rw [q1.1, q2.1]
      rfl
    · show (x.hasDict || PyData.hasDictAll xs) = false
      rw [q1.2.1, q2.2.1]
      rfl
    · show (x.leavesShort 13 && PyData.leavesShortAll 13 xs) = true
      rw [q1.2.2, q2.2.2]
      rfl
end
theorem Shows.ofX {d : D} (h : shX d = true) (hp : d.depth ≤ 40) (hb : d.bulk ≤ 1000000) : Shows d := by
  have q := shX_ok d h
  exact ⟨q.1, q.2.1, hp, PyData.shown_fits_bulk (B := 13) (by decide) (by decide) q.2.2 (Nat.le_trans hb (by decide))⟩
mutual
theorem shX_of : ∀ d : D, shD d = true → shX d = true
  | .none, _ => rfl
  | .bool _, _ => rfl
  | .int i, h => by
    have h := of_decide_eq_true (show decide (-999999999999 ≤ i ∧ i ≤ 999999999999) = true from h)
    exact decide_eq_true ⟨h.1, by omega⟩
  | .str _, h => by cases h
  | .list xs, h => shXAll_of xs h
  | .tuple xs, h => shXAll_of xs h
  | .dict _, h => by cases h
theorem shXAll_of : ∀ xs : List D, shAll xs = true → shXAll xs = true
  | [], _ => rfl
  | x :: xs, h => by
    have h : (shD x && shAll xs) = true := h
    rw [Bool.and_eq_true] at h
    show (shX x && shXAll xs) = true
    rw [shX_of x h.1, shXAll_of xs h.2]
    rfl
end
theorem shXAll_iff (xs : List D) : shXAll xs = xs.all shX := by
  induction xs with
  | nil => rfl
  | cons x xs ih =>
    show (shX x && shXAll xs) = _
    rw [ih, List.all_cons]
end
section
/-! tuple * int, any tuple of tuples' own class and any small count -/
theorem mul_same (l : Addr) (items : Array Value) (n : Nat) (dd : Option Addr) (sl : Array (Option Value)) (x : Int) (u : Tok) (g0 : (decide (x < -(2 ^ 63)) || decide (x ≥ 2 ^ 63)) = false) (g1 : (items.isEmpty || x == 1) = true) :
    Meets (Builtin.«tuple.__mul__» ⟨[.ref l, .int x u], []⟩) (fun _ R s => s.heap.get? l = some { cls := .type "tuple", dict := dd, data := .seq items n, slots := sl } ∧ R (.ok (.ret (.ref l))) s) :=
  .of_wp fun prog w A R s h => by
    obtain ⟨hp, g, d, tk, os⟩ := s
    obtain ⟨hl, h⟩ := h
    have f1 := AutoSeq1.idx_int
    wp_walk using wpAny_loadPart' hl
    repeat (first
      | (refine wpAny_ite_false (decide_eq_false (by rw [g0]; exact Bool.false_ne_true)) ?_; wp_walk using wpAny_loadPart' hl)
      | (refine wpAny_ite_true (decide_eq_true (by rw [g1])) ?_; wp_walk using wpAny_loadPart' hl))
    exact ⟨_, rfl, h⟩
theorem mul_none (l : Addr) (items : Array Value) (n : Nat) (dd : Option Addr) (sl : Array (Option Value)) (x : Int) (u : Tok) (g0 : (decide (x < -(2 ^ 63)) || decide (x ≥ 2 ^ 63)) = false) (g1 : (items.isEmpty || x == 1) = false) (g2 : (decide (x ≤ 0) || items.isEmpty) = true) :
    Meets (Builtin.«tuple.__mul__» ⟨[.ref l, .int x u], []⟩) (fun _ R s => s.heap.get? l = some { cls := .type "tuple", dict := dd, data := .seq items n, slots := sl } ∧ R (.ok (.ret (Value.ref s.heap.objs.size))) { s with heap := s.heap.push { cls := Value.type "tuple", data := Data.seq #[] }, toks := s.toks }) :=
  .of_wp fun prog w A R s h => by
    obtain ⟨hp, g, d, tk, os⟩ := s
    obtain ⟨hl, h⟩ := h
    have f1 := AutoSeq1.idx_int
    wp_walk using wpAny_loadPart' hl
    repeat (first
      | (refine wpAny_ite_false (decide_eq_false (by rw [g0]; exact Bool.false_ne_true)) ?_; wp_walk using wpAny_loadPart' hl)
      | (refine wpAny_ite_false (decide_eq_false (by rw [g1]; exact Bool.false_ne_true)) ?_; wp_walk using wpAny_loadPart' hl)
      | (refine wpAny_ite_true (decide_eq_true (by rw [g2])) ?_; wp_walk using wpAny_loadPart' hl))
    exact ⟨_, rfl, h⟩
def rRepA (K : PySem.W.Frag) : R2 := fun x y H Q => ∃ l k xs, x = .ref l ∧ y = .int k ∧ SqT K H l xs ∧ 0 ≤ k ∧ k ≤ 1000 ∧ xs.length ≤ 1000 ∧
  (((xs = [] ∨ k = 1) ∧ Q (.ref l) H) ∨ (¬ (xs = [] ∨ k = 1) ∧ ∀ p, H p = none → Q (.ref p) (upd H p (.tup (List.replicate k.toNat xs).flatten))))
section
variable {X : Cx} {a b : Expr} {δ : List Sl} {ω : List Cell} {P : PO1} {pos : Pos}
theorem op_repA : OpR X (binaryOp .Mult) (rRepA X.K) := by
  intro pins s σ H x y v u Q I rx ry h
  obtain ⟨l, k, xs, ex, ey, hT, k0, k1, hz, q⟩ := h
  subst ex ey
  by_cases hbig : 2 ≤ k ∧ xs ≠ []
  · rcases q with ⟨q1, _⟩ | ⟨_, q⟩
    · rcases q1 with z | z
      · exact absurd z hbig.2
      · omega
    · exact op_repT pins s σ H _ _ v u Q I rx ry ⟨l, k, xs, rfl, rfl, hT, hbig.2, hbig.1, k1, hz, q⟩
  · cases (show v = Value.ref l from rx)
    obtain ⟨t, hu⟩ := (show ∃ t, u = Value.int k t from ry)
    subst hu
    obtain ⟨its, r, ⟨⟨cls, dd, data, sl⟩, ho, hc, n, hd⟩, hs⟩ := I.tuple hT
    simp only at hc hd
    subst hc hd
    have hle : its.length = xs.length := r.length.symm
    have g0 : (decide (k < -(2 ^ 63)) || decide (k ≥ 2 ^ 63)) = false := by
      rw [decide_eq_false (by omega), decide_eq_false (by omega)] <;> rfl
    have road : ∀ {R : Value → Shared → Prop}, wpAny (model X.prog X.w) X.A (call (.builtin "tuple.__mul__") [.ref l, .int k t]) R X.xe s → wpAny (model X.prog X.w) X.A (binaryOp .Mult (.ref l) (.int k t)) R X.xe s := fun hcall =>
      wpAny_binaryOp_repeat_ref (T := "tuple") (U := "int") (by decide) ⟨_, ho, rfl⟩ (fun s' => typeIs_int s' k t) noFill_tuple_mul F.fills_int_mul F.slot_int_rmul repeat_tuple F.slot_int_index.lookup
        (call_meets F.slot_int_rmul (typeIs_int s k t) F.entry_int_rmul (F.args_int_rmul_2 _ _) (int_rmul_tuple k t l its.toArray n dd sl) ⟨ho, rfl, ⟨_, ho, rfl⟩, hcall⟩)
    have he : its.toArray.isEmpty = decide (xs = []) := by
      cases its with
      | nil =>
        cases xs with
        | nil => rfl
        | cons a b => simp at hle
      | cons a b =>
        cases xs with
        | nil => simp at hle
        | cons c d => rfl
    by_cases hsame : xs = [] ∨ k = 1
    · rcases q with ⟨_, q⟩ | ⟨z, _⟩
      · refine road (call_meets F.slot_tuple_mul ⟨_, ho, rfl⟩ F.entry_tuple_mul (F.args_tuple_mul_2 _ _) (mul_same l its.toArray n dd sl k t g0 ?_) ⟨ho, ?_⟩)
        · rw [he]
          rcases hsame with z | z
          · rw [decide_eq_true z]
            rfl
          · subst z
            rw [Bool.or_comm]
            rfl
        · exact ⟨.ref l, H, I, rfl, q⟩
      · exact absurd hsame z
    · rcases q with ⟨z, _⟩ | ⟨_, q⟩
      · exact absurd z hsame
      · have hk : k = 0 := by
          have h1 : ¬ xs = [] := fun z => hsame (.inl z)
          have h2 : ¬ k = 1 := fun z => hsame (.inr z)
          have h3 : ¬ 2 ≤ k := fun z => hbig ⟨z, h1⟩
          omega
        subst hk
        have h1 : ¬ xs = [] := fun z => hsame (.inl z)
        refine road (call_meets F.slot_tuple_mul ⟨_, ho, rfl⟩ F.entry_tuple_mul (F.args_tuple_mul_2 _ _) (mul_none l its.toArray n dd sl 0 t g0 ?_ rfl) ⟨ho, ?_⟩)
        · rw [he, decide_eq_false h1]
          rfl
        · refine ⟨.ref s.heap.objs.size, _, I.laid (t' := s.toks) (o := .tup []) (fun b ob q => Heap.get?_push_of_some _ q) (Nat.le_refl _) ?_, rfl, q _ (I.hok.fresh (Nat.le_refl _))⟩
          exact ⟨by decide, _, .nil, IsTup.new _ _⟩
theorem rep_one {α : Type} {l : List α} {n : Nat} (h : l = [] ∨ n = 1) : (List.replicate n l).flatten = l := by
  rcases h with h | h
  · subst h
    induction n with
    | zero => rfl
    | succ n ih =>
      rw [List.replicate_succ, List.flatten_cons, ih]
      rfl
  · subst h
    exact List.append_nil l
theorem rr_repV {ds : List D} {n : Nat} (hn : n ≤ 1000) (hz : ds.length ≤ 1000) (hp : P (.val (.tuple (repD n ds))) ω) : RR X (rRepA X.K) (.val (.tuple ds)) (.val (.int (n : Int))) ω P := fun B F H as v u w s1 s2 Q o => by
  obtain ⟨l, xs, rfl, h1, hd⟩ := slv_tup s1 w.b
  have hl := dpAll_len hd
  refine ⟨l, (n : Int), xs, rfl, dp_int_inv (sl_val s2), h1, by omega, by omega, by omega, ?_⟩
  by_cases hs : xs = [] ∨ (n : Int) = 1
  · refine .inl ⟨hs, o (.ref l) B H as _ ω (Same.refl _) (List.prefix_refl _) w ?_ hp⟩
    have e : repD n ds = ds := by
      refine rep_one ?_
      rcases hs with z | z
      · subst z
        cases hd
        exact .inl rfl
      · exact .inr (by omega)
    rw [e]
    exact s1
  · refine .inr ⟨hs, fun p hp' => o.tup w hp' ?_ hp⟩
    rw [Int.toNat_natCast]
    exact dp_rep hd n
theorem rs_rep {K : Fg} {B : Hp} {as : List Addr} {vs : List V} {rs : List Sl} (h : RsOk K B as vs rs) : ∀ n : Nat, RsOk K B as (List.replicate n vs).flatten (List.replicate n rs).flatten
  | 0 => .nil
  | n + 1 => by
    rw [List.replicate_succ, List.replicate_succ, List.flatten_cons, List.flatten_cons]
    exact rs_app h (rs_rep h n)
theorem rr_repS {rs : List Sl} {n : Nat} (hne : rs ≠ []) (hn : 2 ≤ n ∧ n ≤ 1000) (hz : rs.length ≤ 1000) (hf : rs.all Sl.free = true) (hp : P (.kn (tupK (List.replicate n rs).flatten)) ω) : RR X (rRepA X.K) (.kn (tupK rs)) (.val (.int (n : Int))) ω P := fun B F H as v u w s1 s2 Q o => by
  obtain ⟨l, xs, rfl, h1, hd⟩ := slk_tup s1
  have hl := rs_len hd
  have hx : ¬ (xs = [] ∨ (n : Int) = 1) := by
    rintro (z | z)
    · subst z
      cases hd
      exact hne rfl
    · omega
  refine ⟨l, (n : Int), xs, rfl, dp_int_inv (sl_val s2), sqT_up w.b h1, by omega, by omega, by omega, .inr ⟨hx, fun p hp' => ?_⟩⟩
  rw [Int.toNat_natCast]
  exact o.kn w hp' ⟨p, _, rfl, SqT.of upd_same, rs_rep (rsOk_up (w.new (o := .tup (List.replicate n xs).flatten) hp').2 (List.prefix_refl _) (rs_free hf hd)) n⟩ hp
end
end
section
/-! instances that change: their methods by promises that may raise, known by their address -/
/-- a body that hands back all its cells, the new ones too -/
def RetW (n : Nat) (Pp : PO1) : PO1 := fun r ω' => (∀ c ∈ ω'.drop n, c.live = true) ∧ Pp r ω'
section
variable {P : Program} {w : World} {K : Fg} {mg : Str → Option Value} {base : Heap} {x qual : Str} {st : Stmt} {f : Addr} {fd : FuncData} {N ps : List Str} {k : Nat}
theorem ok_XW {φ : List Sl → List Cell → PO1 → RC → Prop} (F : Fun K x qual st f fd) (S : FnScope N ps (defScope st)) (hn : ∀ rs ω Q R, φ rs ω Q R → rs.length = ps.length)
    (hb : ∀ rs ω Q R, φ rs ω Q R → BodyX P w K mg base N qual st f k fun X => DSx X (defBody st) (slots N rs) ω { nx := fun _ ω' => RetW ω.length Q (.val .none) ω', rt := RetW ω.length Q } (RetR ω.length R)) :
    FnOk P w K mg base (L2.CX P w) (k + 1) f fd ps (spX K φ) := by
  refine F.okX S (fun vs H Q E h => ?_) fun cdv A outer s H vs Q E hr h => ?_
  · obtain ⟨B, F', as, rs, ω, P', R', hw, hd, hφ, _⟩ := h
    exact (rsOk_len hd).trans (hn _ _ _ _ hφ)
  · obtain ⟨B, F', as, rs, ω, P', R', hw, hd, hφ, hq, hx⟩ := h
    refine ⟨_, pss_w, hb rs ω P' R' hφ cdv A outer s H E hr B F' H as _ hw (env_start (env_of_rs hd)) _ ⟨fun σ' H' B' as' δ' ω' e1 p1 w1 ev1 z => ?_, fun _ _ _ _ _ _ _ _ _ _ z => z.elim, fun _ _ _ _ _ _ _ _ _ _ z => z.elim, fun v B' H' as' r ω' e1 p1 w1 s1 z => ?_⟩ ?_⟩
    · exact hq .non B' H' as' _ ω' e1 p1 w1 z.1 (slv .non) z.2
    · exact hq v B' H' as' r ω' e1 p1 w1 z.1 s1 z.2
    · refine ⟨_, takes_of rfl rfl rfl rfl, fun cls d σ' B' H' as' δ' ω' fs e1 p1 w1 ev1 hxd hR => ?_⟩
      obtain ⟨t, ht⟩ := p1
      have hn : ω.length ≤ ω'.length := by
        rw [← w1.len, ← ht, List.length_append, ← hw.len]
        omega
      have hnA : ω.length ≤ as'.length := by
        rw [w1.len]
        exact hn
      have htk : as'.take ω.length = as := by
        rw [← ht, ← hw.len, List.take_left]
      have w2 := w1.pick (ks := List.range ω.length) (fun i hi => Nat.lt_of_lt_of_le (List.mem_range.mp hi) hn) List.nodup_range
      rw [pk_range hn, pkA_range hnA, htk] at w2
      exact hx cls d B' H' _ fs e1 w2 (xd_take ⟨t, ht⟩ hxd) hR
end
/-! ### methods called -/
section
variable {X : Cx} {CX : CXT} {o e : Expr} {es : List Expr} {m f : Str} {pos apos : Pos} {δ : List Sl} {ω : List Cell} {P : PO1} {R : RX}
def tMethW (C : Addr) (m : Str) (sp : Sp) (E : L2.St → XK) (ta : TE) (t : TA) : TE := fun σ H Q => ta σ H fun x H1 => ∃ a dx fs, x = .ref a ∧ H1 a = some (.ins C dx fs) ∧ fs.lookup m = none ∧ t σ H1 fun vs H2 => sp (x :: vs) H2 Q (E σ)
theorem pe_methW {k : Nat} {C g : Addr} {sp : Sp} {E : L2.St → XK} {fd : FuncData} {ps : List Str} {ta : TE} {t : TA} {pl : Sem Bool} (he : PE X o ta) (c : Cls X.K C) (hm : Meth X.K C m g) (F : FnOk X.prog X.w X.K X.mg X.base CX k g fd ps sp) (hb : Binds X.K fd ps []) (hr : Room k X.A) (hx : ∀ σ, PassesAt CX X σ (E σ)) (ha : PA X (e :: es) t)
    (hst : starEach (e :: es) X.env = (false, eval e X.env) :: starEach es X.env := by rfl) (hpl : (backTo pos (starEach es X.env)).any (·.1) = false := by rfl)
    (ht : eval (.Call (.Attribute o m apos) (e :: es) [] pos) X.env = (do
      let me ← eval o X.env
      standAt apos.atName
      let (g, front) ← holding [me] (getMethod me m pl)
      callWith pos g front (backTo pos (starEach (e :: es) X.env)) (backToKw pos (keywordEach [] X.env))) := by rfl) :
    PE X (.Call (.Attribute o m apos) (e :: es) [] pos) (tMethW C m sp E ta t) := by
  refine ⟨fun pins s σ H Q I h => ?_⟩
  refine PySem.W.methodCall_KW (pl := pl) (thn (he.run pins s σ H _ I h) fun u s1 ⟨x, H1, I1, rx, a, dx, fs, ex, ea, l, z⟩ => ?_) ht
  subst ex
  cases (show u = Value.ref a from rx)
  refine getmeth_ok I1 ea c hm l ?_
  refine PySem.W.callWith_K (first := [.ref a]) (h₀ := X.base) I.ok.mod.kin hm.kp (thn (ha.run pos pins s1 σ H1 _ I1 z) fun us s2 ⟨vs, H2, I2, r, z2⟩ => ?_) hst hpl
  exact ⟨I2.kIn, run_fnS (us := .ref a :: us) (vs := .ref a :: vs) F hr hb (hx σ) I2 (.cons rfl r) z2⟩
theorem pe_methW0 {k : Nat} {C g : Addr} {sp : Sp} {E : L2.St → XK} {fd : FuncData} {ps : List Str} {ta : TE} {pl : Sem Bool} (he : PE X o ta) (c : Cls X.K C) (hm : Meth X.K C m g) (F : FnOk X.prog X.w X.K X.mg X.base CX k g fd ps sp) (hb : Binds X.K fd ps []) (hr : Room k X.A) (hx : ∀ σ, PassesAt CX X σ (E σ))
    (ht : eval (.Call (.Attribute o m apos) [] [] pos) X.env = (do
      let me ← eval o X.env
      standAt apos.atName
      let (g, front) ← holding [me] (getMethod me m pl)
      callWith pos g front (backTo pos (starEach [] X.env)) (backToKw pos (keywordEach [] X.env))) := by rfl) :
    PE X (.Call (.Attribute o m apos) [] [] pos) (tMethW C m sp E ta fun _ H Q => Q [] H) := by
  refine ⟨fun pins s σ H Q I h => ?_⟩
  refine PySem.W.methodCall_KW (pl := pl) (thn (he.run pins s σ H _ I h) fun u s1 ⟨x, H1, I1, rx, a, dx, fs, ex, ea, l, z⟩ => ?_) ht
  subst ex
  cases (show u = Value.ref a from rx)
  refine getmeth_ok I1 ea c hm l ?_
  exact PySem.W.callWith_K0 (first := [.ref a]) I1.kIn hm.kp (run_fnS (us := [.ref a]) (vs := [.ref a]) F hr hb (hx σ) I1 (.cons rfl .nil) z)
theorem passAt0 : ∀ σ, PassesAt (L2.CX X.prog X.w) X σ ((fun _ => E0) σ) := fun σ pins H s e s' I c => passX0 pins σ H s e s' I c
/-- what is asked where a promise is called at the thing at y; ks: the cells that are handed on -/
def MethAt (φ : List Sl → List Cell → PO1 → RC → Prop) (y : Addr) (rs : List Sl) (ω : List Cell) (P : PO1) (R : RC) : Prop :=
  ∃ (ks : List Nat) (rs' : List Sl), rs = rs'.map (ren ks ω.length) ∧ (∀ i ∈ ks, i < ω.length) ∧ ks.Nodup ∧ ownsLt ks.length rs' = true ∧
    φ (.kn (refK y) :: rs') (pkC ω ks) (fun r ω2 => P (ren ks ω.length r) (putC ω ks ω2 ++ ω2.drop ks.length)) (fun cls fs ω2 => ks.length = ω2.length → R cls fs (putC ω ks ω2))
theorem own_cons {n : Nat} {y : Addr} {rs : List Sl} (h : ownsLt n rs = true) : ownsLt n (.kn (refK y) :: rs) = true := by
  show (true && ownsLt n rs) = true
  rw [h]
  rfl
theorem meth_at {φ : List Sl → List Cell → PO1 → RC → Prop} {K : Fg} {B F H : Hp} {as : List Addr} {y : Addr} {vs : List V} {rs : List Sl} {Q : VK} {E : XK} {R : RC} (w : Wd K B F H as ω) (o : Out K B F as P Q) (s : RsOk K B as vs rs) (h : MethAt φ y rs ω P R)
    (hx : ∀ cls d B' H' ω' fs, Same B B' → Wd K B' F H' as ω' → XdOk K B' F H' as d fs → R cls fs ω' → E cls d H') : spX K φ (.ref y :: vs) H Q E := by
  obtain ⟨ks, rs', er, hks, hnd, hown, hφ⟩ := h
  subst er
  exact spX_at w o hks hnd (own_cons hown) (.cons ref_slot s) hφ hx
/-- the instance at y is one of the cells -/
def InsAt (ω : List Cell) (C y : Addr) (m : Str) : Prop := ∃ (kx : Nat) (dx : Addr) (fs : List (Str × Sl)), ω[kx]? = some (insA C dx y fs) ∧ fs.lookup m = none
theorem InsAt.get {K : Fg} {B F H : Hp} {as : List Addr} {C y : Addr} (w : Wd K B F H as ω) (h : InsAt ω C y m) : ∃ dx vs, H y = some (.ins C dx vs) ∧ vs.lookup m = none := by
  obtain ⟨kx, dx, fs, hk, hl⟩ := h
  obtain ⟨_, _, vs, h1, h2⟩ := cell_insA w hk
  exact ⟨dx, vs, h1, ats_none h2 hl⟩
theorem de_methX {C g : Addr} {j : Nat} {φ : List Sl → List Cell → PO1 → RC → Prop} (M : HasMX X.prog X.w X.K X.mg X.base j g (spX X.K φ)) (c : Cls X.K C) (hm : Meth X.K C m g) (hr : Room j X.A)
    (h : DE X o δ ω fun r0 ω0 => ∃ y, r0 = .kn (refK y) ∧ InsAt ω0 C y m ∧ DA X (e :: es) δ ω0 fun rs ω1 => MethAt φ y rs ω1 P fun _ _ _ => False) {pl : Sem Bool}
    (hst : starEach (e :: es) X.env = (false, eval e X.env) :: starEach es X.env := by rfl) (hpl : (backTo pos (starEach es X.env)).any (·.1) = false := by rfl)
    (ht : eval (.Call (.Attribute o m apos) (e :: es) [] pos) X.env = (do
      let me ← eval o X.env
      standAt apos.atName
      let (g, front) ← holding [me] (getMethod me m pl)
      callWith pos g front (backTo pos (starEach (e :: es) X.env)) (backToKw pos (keywordEach [] X.env))) := by rfl) : DE X (.Call (.Attribute o m apos) (e :: es) [] pos) δ ω P := fun B F H as σ w ev Q oo => by
  obtain ⟨fd, ps, hf, hbd⟩ := M.ex
  refine ⟨_, pe_methW (E := fun _ => E0) pe_w c hm hf hbd hr passAt0 pa_w hst hpl ht, ?_⟩
  refine h B F H as σ w ev _ fun v B0 H0 as0 r0 ω0 e0 p0 w0 s0 ⟨y, er, hi, h1⟩ => ?_
  subst er
  obtain rfl := slk_ref s0
  obtain ⟨dx, vs0, i1, i2⟩ := hi.get w0
  refine ⟨y, dx, vs0, rfl, i1, i2, ?_⟩
  exact h1 B0 F H0 as0 σ w0 (envOk_up e0 p0 ev) _ fun vs B1 H1 as1 rs ω1 e1 p1 w1 s1 ha => meth_at w1 (oo.up (e0.trans e1) (p0.trans p1)) s1 ha fun _ _ _ _ _ _ _ _ _ z => z.elim
theorem de_methX0 {C g : Addr} {j : Nat} {φ : List Sl → List Cell → PO1 → RC → Prop} (M : HasMX X.prog X.w X.K X.mg X.base j g (spX X.K φ)) (c : Cls X.K C) (hm : Meth X.K C m g) (hr : Room j X.A)
    (h : DE X o δ ω fun r0 ω0 => ∃ y, r0 = .kn (refK y) ∧ InsAt ω0 C y m ∧ MethAt φ y [] ω0 P fun _ _ _ => False) {pl : Sem Bool}
    (ht : eval (.Call (.Attribute o m apos) [] [] pos) X.env = (do
      let me ← eval o X.env
      standAt apos.atName
      let (g, front) ← holding [me] (getMethod me m pl)
      callWith pos g front (backTo pos (starEach [] X.env)) (backToKw pos (keywordEach [] X.env))) := by rfl) : DE X (.Call (.Attribute o m apos) [] [] pos) δ ω P := fun B F H as σ w ev Q oo => by
  obtain ⟨fd, ps, hf, hbd⟩ := M.ex
  refine ⟨_, pe_methW0 (E := fun _ => E0) pe_w c hm hf hbd hr passAt0 ht, ?_⟩
  refine h B F H as σ w ev _ fun v B0 H0 as0 r0 ω0 e0 p0 w0 s0 ⟨y, er, hi, h1⟩ => ?_
  subst er
  obtain rfl := slk_ref s0
  obtain ⟨dx, vs0, i1, i2⟩ := hi.get w0
  refine ⟨y, dx, vs0, rfl, i1, i2, ?_⟩
  exact meth_at w0 (oo.up e0 p0) .nil h1 fun _ _ _ _ _ _ _ _ _ z => z.elim
/-- .. where something may be let out -/
theorem dex_methX {C g : Addr} {j : Nat} {φ : List Sl → List Cell → PO1 → RC → Prop} (M : HasMX X.prog X.w X.K X.mg X.base j g (spX X.K φ)) (c : Cls X.K C) (hm : Meth X.K C m g) (hr : Room j X.A)
    (h : DE X o δ ω fun r0 ω0 => ∃ y, r0 = .kn (refK y) ∧ InsAt ω0 C y m ∧ DA X (e :: es) δ ω0 fun rs ω1 => MethAt φ y rs ω1 P fun cls fs ω2 => R cls fs δ ω2) {pl : Sem Bool}
    (hst : starEach (e :: es) X.env = (false, eval e X.env) :: starEach es X.env := by rfl) (hpl : (backTo pos (starEach es X.env)).any (·.1) = false := by rfl)
    (ht : eval (.Call (.Attribute o m apos) (e :: es) [] pos) X.env = (do
      let me ← eval o X.env
      standAt apos.atName
      let (g, front) ← holding [me] (getMethod me m pl)
      callWith pos g front (backTo pos (starEach (e :: es) X.env)) (backToKw pos (keywordEach [] X.env))) := by rfl) : DEx X (.Call (.Attribute o m apos) (e :: es) [] pos) δ ω P R := fun B F H as σ w ev Q oo tk => by
  obtain ⟨fd, ps, hf, hbd⟩ := M.ex
  obtain ⟨W, tk1, tk2⟩ := tk
  refine ⟨_, pe_methW (E := WE W) pe_w c hm hf hbd hr (passAt tk1) pa_w hst hpl ht, ?_⟩
  refine h B F H as σ w ev _ fun v B0 H0 as0 r0 ω0 e0 p0 w0 s0 ⟨y, er, hi, h1⟩ => ?_
  subst er
  obtain rfl := slk_ref s0
  obtain ⟨dx, vs0, i1, i2⟩ := hi.get w0
  refine ⟨y, dx, vs0, rfl, i1, i2, ?_⟩
  exact h1 B0 F H0 as0 σ w0 (envOk_up e0 p0 ev) _ fun vs B1 H1 as1 rs ω1 e1 p1 w1 s1 ha => meth_at w1 (oo.up (e0.trans e1) (p0.trans p1)) s1 ha fun cls d B' H' ω' fs sb w' hd hR =>
    tk2 cls d σ B' H' as1 δ ω' fs ((e0.trans e1).trans sb) (p0.trans p1) w' (envOk_up sb (List.prefix_refl _) (envOk_up (e0.trans e1) (p0.trans p1) ev)) hd hR
theorem dex_methX0 {C g : Addr} {j : Nat} {φ : List Sl → List Cell → PO1 → RC → Prop} (M : HasMX X.prog X.w X.K X.mg X.base j g (spX X.K φ)) (c : Cls X.K C) (hm : Meth X.K C m g) (hr : Room j X.A)
    (h : DE X o δ ω fun r0 ω0 => ∃ y, r0 = .kn (refK y) ∧ InsAt ω0 C y m ∧ MethAt φ y [] ω0 P fun cls fs ω2 => R cls fs δ ω2) {pl : Sem Bool}
    (ht : eval (.Call (.Attribute o m apos) [] [] pos) X.env = (do
      let me ← eval o X.env
      standAt apos.atName
      let (g, front) ← holding [me] (getMethod me m pl)
      callWith pos g front (backTo pos (starEach [] X.env)) (backToKw pos (keywordEach [] X.env))) := by rfl) : DEx X (.Call (.Attribute o m apos) [] [] pos) δ ω P R := fun B F H as σ w ev Q oo tk => by
  obtain ⟨fd, ps, hf, hbd⟩ := M.ex
  obtain ⟨W, tk1, tk2⟩ := tk
  refine ⟨_, pe_methW0 (E := WE W) pe_w c hm hf hbd hr (passAt tk1) ht, ?_⟩
  refine h B F H as σ w ev _ fun v B0 H0 as0 r0 ω0 e0 p0 w0 s0 ⟨y, er, hi, h1⟩ => ?_
  subst er
  obtain rfl := slk_ref s0
  obtain ⟨dx, vs0, i1, i2⟩ := hi.get w0
  refine ⟨y, dx, vs0, rfl, i1, i2, ?_⟩
  exact meth_at w0 (oo.up e0 p0) .nil h1 fun cls d B' H' ω' fs sb w' hd hR => tk2 cls d σ B' H' as0 δ ω' fs (e0.trans sb) p0 w' (envOk_up sb (List.prefix_refl _) (envOk_up e0 p0 ev)) hd hR
/-! ### a property of a thing that changes -/
def InsOf (ω : List Cell) (C y : Addr) : Prop := ∃ (kx : Nat) (dx : Addr) (fs : List (Str × Sl)), ω[kx]? = some (insA C dx y fs)
theorem InsOf.get {K : Fg} {B F H : Hp} {as : List Addr} {C y : Addr} (w : Wd K B F H as ω) (h : InsOf ω C y) : ∃ dx vs, H y = some (.ins C dx vs) := by
  obtain ⟨kx, dx, fs, hk⟩ := h
  obtain ⟨_, _, vs, h1, _⟩ := cell_insA w hk
  exact ⟨dx, vs, h1⟩
theorem de_propX {C p g : Addr} {j : Nat} {φ : List Sl → List Cell → PO1 → RC → Prop} (M : HasMX X.prog X.w X.K X.mg X.base j g (spX X.K φ)) (c : Cls X.K C) (hp : PropOf X.K C f p g) (hr : Room (j + 1) X.A)
    (h : DE X o δ ω fun r0 ω0 => ∃ y, r0 = .kn (refK y) ∧ InsOf ω0 C y ∧ MethAt φ y [] ω0 P fun _ _ _ => False) (hb : attributeBase o f X.env (eval o X.env) = eval o X.env := by rfl) : DE X (.Attribute o f pos) δ ω P := fun B F H as σ w ev Q oo => by
  obtain ⟨fd, ps, hf, hbd⟩ := M.ex
  refine ⟨_, pe_prop pe_w c hp hf hr hbd .nil passX0 hb, ?_⟩
  refine h B F H as σ w ev _ fun v B0 H0 as0 r0 ω0 e0 p0 w0 s0 ⟨y, er, hi, h1⟩ => ?_
  subst er
  obtain rfl := slk_ref s0
  obtain ⟨dx, vs, i1⟩ := hi.get w0
  exact ⟨y, dx, vs, rfl, i1, meth_at w0 (oo.up e0 p0) .nil h1 fun _ _ _ _ _ _ _ _ _ z => z.elim⟩
/-! ### lists known by their address -/
theorem de_appendA {xs : Expr} {cpos : Pos} (h : DE X xs δ ω fun r ω1 => ∃ x, r = .kn (refK x) ∧ (∃ kx : Nat, ∃ ds : List D, ω1[kx]? = some (lstA x ds)) ∧ DE X e δ ω1 fun s ω2 => ∃ (kx : Nat) (d : D) (ds : List D), s = .val d ∧ ω2[kx]? = some (lstA x ds) ∧ ds.length < 100000 ∧ P (.val .none) (ω2.set kx (lstA x (ds ++ [d]))))
    (hbase : attributeBase xs "append" X.env (eval xs X.env) = eval xs X.env := by rfl)
    (hfew : ((backTo cpos (starEach (e :: []) X.env)).all (fun x => !x.1) && (backToKw cpos (keywordEach [] X.env)).all (fun x => x.1.isSome) && decide ((e :: ([] : List Expr)).length + ([] : List Keyword).length + (if ([] : List Keyword).isEmpty then 0 else 1) < 30)) = true := by rfl)
    (hline : (apos.endLine == cpos.line) = true := by rfl) (hs : starEach (e :: []) X.env = (false, eval e X.env) :: starEach [] X.env := by rfl) (hplain : (backTo cpos (starEach [] X.env)).any (·.1) = false := by rfl) :
    DE X (.Call (.Attribute xs "append" apos) [e] [] cpos) δ ω P := fun B F H as σ w ev Q oo => by
  refine ⟨_, pe_bm PySem.F.plainAttrs_list PySem.F.slot_list_append PySem.F.type_list_append mt_append pe_w (pa_cons pe_w pa_nil hs) hbase hfew hline hs hplain, ?_⟩
  refine h B F H as σ w ev _ fun v B1 H1 as1 r ω1 e1 p1 w1 s1 ⟨x, er, ⟨kx, ds, hk⟩, q1⟩ => ?_
  subst er
  obtain rfl := slk_ref s1
  obtain ⟨_, _, ys, i1, i2⟩ := cell_lstA w1 hk
  refine ⟨.inl ⟨rfl, ys, SqL.of i1⟩, ?_⟩
  refine q1 B1 F H1 as1 σ w1 (envOk_up e1 p1 ev) _ fun u B2 H2 as2 r2 ω2 e2 p2 w2 s2 ⟨k2, d, ds2, er2, hk2, hz, hp⟩ => ?_
  subst er2
  obtain ⟨ha, hb, zs, h3, h4⟩ := cell_lstA w2 hk2
  refine ⟨x, zs, u, rfl, rfl, h3, ?_, ?_⟩
  · rw [dpAll_len h4]
    exact Nat.lt_trans hz (by decide)
  · have w3 := w2.write (c' := lstA x (ds2 ++ [d])) (o := .lst (zs ++ [u])) ha hk2 hb ⟨hb, B2, _, Same.refl _, upd_same, rfl, _, rfl, dpAll_app h4 (.cons (sl_val s2) .nil)⟩
    exact oo _ B2 _ as2 _ _ (e1.trans e2) (p1.trans p2) w3 (slv .non) hp
/-- its length -/
theorem ra_lenA {x : Addr} {kx : Nat} {ds : List D} (hk : ω[kx]? = some (lstA x ds)) (hp : P (.val (.int ds.length)) ω) : RA X (fun xs H Q => ∃ p ys, xs = [.ref p] ∧ (SqL X.K H p ys ∨ SqT X.K H p ys) ∧ Q (.int ys.length) H) [.kn (refK x)] ω P := fun B F H as vs w s Q o => by
  obtain ⟨v, rfl, s1⟩ := rs1 s
  obtain rfl := slk_ref s1
  obtain ⟨_, _, ys, h1, h2⟩ := cell_lstA w hk
  refine ⟨x, ys, rfl, .inl (SqL.of h1), ?_⟩
  rw [dpAll_len h2]
  exact o.here w (.int _) hp
/-- its truth -/
theorem dt_lstA {T : Bool → List Cell → Prop} (h : DE X e δ ω fun r ω1 => ∃ (x : Addr) (kx : Nat) (ds : List D), r = .kn (refK x) ∧ ω1[kx]? = some (lstA x ds) ∧ T (!ds.isEmpty) ω1) (he : ∀ whole, isTrue e X.env whole = (do let v ← whole; standAt e.pos; holding [v] (truthy v)) := by intro _; rfl) : DT X e δ ω T := fun B F H as σ w ev Q oo => by
  refine ⟨_, pt_truth pe_w he, ?_⟩
  refine h B F H as σ w ev _ fun v B1 H1 as1 r ω1 e1 p1 w1 s1 ⟨x, kx, ds, er, hk, hp⟩ => ?_
  subst er
  obtain rfl := slk_ref s1
  obtain ⟨_, _, ys, h1, h2⟩ := cell_lstA w1 hk
  have ee : ys.isEmpty = ds.isEmpty := by cases h2 <;> rfl
  exact ⟨!ds.isEmpty, .inl ⟨ys, SqL.of h1, by rw [ee]⟩, oo _ B1 H1 as1 ω1 e1 p1 w1 hp⟩
/-! ### made -/
theorem makeX_run {C y dx : Addr} {φ : List Sl → List Cell → PO1 → RC → Prop} {B1 F H1 : Hp} {as1 : List Addr} {vs : List V} {rs : List Sl} {Q : VK} (w1 : Wd X.K B1 F H1 as1 ω) (s1 : RsOk X.K B1 as1 vs rs) (hfr : rs.all Sl.free = true) (oo : Out X.K B1 F as1 P Q) (hy : H1 y = none) (hdx : H1 dx = none) (hne : dx ≠ y)
    (hφ : φ (.kn (refK y) :: rs) [ownC y, insA C dx y []] (fun r ω2 => r = .val .none ∧ (∀ c ∈ ω2, c.live = true) ∧ P (.kn (refK y)) (ω ++ ω2)) fun _ _ _ => False) :
    spX X.K φ (.ref y :: (vs ++ [])) (upd (upd H1 dx (.own y)) y (.ins C dx [])) (fun v H2 => v = .non ∧ Q (.ref y) H2) E0 := by
  obtain ⟨F', wF, back, _⟩ := w1.frameL (ks := []) nofun .nil
  refine ⟨B1, F', [dx, y], .kn (refK y) :: rs, _, _, _, Wd.madeA (by exact wF) hy hdx hne, by rw [List.append_nil]; exact .cons ref_slot (rs_free hfr s1), hφ, fun v B' H' as' r ω' sb pp w' hlv hs ⟨er, hl, hp⟩ => ?_, fun _ _ _ _ _ _ _ _ _ z => z.elim⟩
  subst er
  have w2 := back B' H' as' ω' sb List.nil_prefix w' hl
  rw [show putC ω [] ω' = ω by cases ω' <;> rfl] at w2
  exact ⟨dp_non_inv (sl_val hs), oo (.ref y) B' H' _ (.kn (refK y)) _ sb (List.prefix_append _ _) w2 ref_slot hp⟩
theorem de_makeX {x : Str} {p : Pos} {C g : Addr} {j : Nat} {φ : List Sl → List Cell → PO1 → RC → Prop} (M : HasMX X.prog X.w X.K X.mg X.base j g (spX X.K φ)) (mk : Mk X.K C g) (hr : Room (j + 1) X.A) (hg : Gl X x) (hm : X.mg x = some (.ref C))
    (h : DA X (e :: es) δ ω fun rs ω1 => rs.all Sl.free = true ∧ ∀ y dx, φ (.kn (refK y) :: rs) [ownC y, insA C dx y []] (fun r ω2 => r = .val .none ∧ (∀ c ∈ ω2, c.live = true) ∧ P (.kn (refK y)) (ω1 ++ ω2)) fun _ _ _ => False)
    (hdb : (x == ("__debug__" : Str)) = false := by decide) (he : starEach (e :: es) X.env = (false, eval e X.env) :: starEach es X.env := by rfl) (hpl : (backTo pos (starEach es X.env)).any (·.1) = false := by rfl) : DE X (.Call (.Name x p) (e :: es) [] pos) δ ω P := fun B F H as σ w ev Q oo => by
  obtain ⟨fd, ps, hf, hbd⟩ := M.ex
  refine ⟨_, pe_make mk hf hr hg hm hbd .nil passX0 pa_w hdb he hpl, ?_⟩
  refine h B F H as σ w ev _ fun vs B1 H1 as1 rs ω1 e1 p1 w1 s1 ⟨hfr, hφ⟩ y dx hy hdx hne => ?_
  exact makeX_run w1 s1 hfr (oo.up e1 p1) hy hdx hne (hφ y dx)
end
end
section
/-! len(x), x[i], repr(x), x(..), y in x of instances that change -/
section
variable {X : Cx} {o e a b fe : Expr} {es : List Expr} {m f : Str} {pos apos : Pos} {δ : List Sl} {ω : List Cell} {P : PO1} {R : RX}
def rLenX (C : Addr) (sp : Sp) : List V → Hp → VK → Prop := fun xs H Q => ∃ a dx fs, xs = [V.ref a] ∧ H a = some (.ins C dx fs) ∧ sp ([.ref a] ++ []) H (fun z H' => ∃ n : Nat, z = .int (n : Int) ∧ n ≤ 1000000 ∧ Q (.int (n : Int)) H') E0
theorem call_lenX {C g : Addr} {j : Nat} {sp : Sp} (M : HasMX X.prog X.w X.K X.mg X.base j g sp) (hs : PySem.W.findIn X.K (.ref C) "__len__" = some (some (.ref g))) (hf : PySem.W.isFn X.K (.ref g) = true) (hr : Room (j + 1) X.A) : CallR X (.builtin "len") (rLenX C sp) := by
  intro pins s σ H xs us Q I r h
  obtain ⟨a, dx, fs, rfl, ha, q⟩ := h
  obtain ⟨u, rfl, ru⟩ := vals1 r
  cases (show u = Value.ref a from ru)
  obtain ⟨mA, O, _⟩ := ins_get I.hok ha
  obtain ⟨od, J, _⟩ := O.look
  obtain ⟨m, hF⟩ := I.fr
  have hr1 : Room j X.A.in1 := hr.in1
  refine PySem.W.len_K hF I.ok.mod.kin J hs hf (wpAny_mono (wpAny_call (SlX.run_at (us := [.ref a]) (ws := [.ref a]) M.fr hr1 I.env0.in1 passX0 I (.cons rfl .nil) q)) (fun w s' z => ?_) fun _ _ x => x)
  obtain ⟨z', H', I', rz, n, ez, hn, qz⟩ := z
  subst ez
  obtain ⟨t, e⟩ := (show ∃ t, w = Value.int n t from rz)
  cases e
  exact ⟨⟨by omega, by omega⟩, .int n, H', I'.tok _, ⟨_, rfl⟩, qz⟩
theorem de_lenX {p : Pos} {C g : Addr} {j : Nat} {φ : List Sl → List Cell → PO1 → RC → Prop} (M : HasMX X.prog X.w X.K X.mg X.base j g (spX X.K φ)) (hs : PySem.W.findIn X.K (.ref C) "__len__" = some (some (.ref g))) (hf : PySem.W.isFn X.K (.ref g) = true) (hr : Room (j + 1) X.A) (hg : Gl X "len") (hm : X.mg "len" = none)
    (h : DE X e δ ω fun r0 ω0 => ∃ y, r0 = .kn (refK y) ∧ InsOf ω0 C y ∧ MethAt φ y [] ω0 (fun r ω1 => ∃ n : Nat, r = .val (.int (n : Int)) ∧ n ≤ 1000000 ∧ P r ω1) fun _ _ _ => False)
    (he : starEach [e] X.env = (false, eval e X.env) :: starEach [] X.env := by rfl) : DE X (.Call (.Name "len" p) [e] [] pos) δ ω P := fun B F H as σ w ev Q oo => by
  refine ⟨_, pe_callB (call_lenX M hs hf hr) hg hm PySem.boot_len (pa_cons pe_w pa_nil he) (by decide) (by decide) he rfl, ?_⟩
  refine h B F H as σ w ev _ fun v B0 H0 as0 r0 ω0 e0 p0 w0 s0 ⟨y, er, hi, h1⟩ => ?_
  subst er
  obtain rfl := slk_ref s0
  obtain ⟨dx, vs, i1⟩ := hi.get w0
  refine ⟨y, dx, vs, rfl, i1, ?_⟩
  refine meth_at (rs := []) w0 (fun v B' H' as' r ω' sb pp w' hs' ⟨n, er, hn, hp⟩ => ?_) .nil h1 fun _ _ _ _ _ _ _ _ _ z => z.elim
  subst er
  obtain rfl := dp_int_inv (sl_val hs')
  exact ⟨n, rfl, hn, oo _ B' H' as' _ ω' (e0.trans sb) (p0.trans pp) w' hs' hp⟩
/-- x[i] -/
theorem pe_ixW {CX : CXT} {E : XK} {k : Nat} {C g : Addr} {sp : Sp} {ta tb : TE} (F : FnR X.prog X.w X.K X.mg X.base CX k g sp) (hr : Room (k + 1) X.A) (hx : Passes CX X E) (hs : PySem.W.findIn X.K (.ref C) "__getitem__" = some (some (.ref g))) (hf : PySem.W.fnIn X.K g = true) (hfn : PySem.W.isFn X.K (.ref g) = true)
    (ha : PE X a ta) (hb : PE X b tb) (hsl : ∀ o i, subscripted b true o i = runValue (.builtin "lifetime.subscript" ⟨[o, i], []⟩)) : PE X (.Subscript a b pos) (tOp (fun x y H Q => ∃ p dx fs, x = .ref p ∧ H p = some (.ins C dx fs) ∧ sp [x, y] H Q E) ta tb) := by
  refine ⟨fun pins s σ H Q I h => ?_⟩
  refine Subscript_ (binT ha hb I h fun v u s2 x y H2 I2 rx ry z => ?_)
  obtain ⟨p, dx, fs, ex, hp, z⟩ := z
  subst ex
  cases (show v = Value.ref p from rx)
  obtain ⟨mA, O, _⟩ := ins_get I2.hok hp
  obtain ⟨od, J, _⟩ := O.look
  obtain ⟨m, hF⟩ := I2.fr
  have hr1 : Room k X.A.in1 := hr.in1
  refine PySem.W.sub_K hF I2.ok.mod.kin J hs hf hfn (wpAny_mono (wpAny_call (SlX.run_at (us := [.ref p, u]) (ws := [.ref p, y]) F hr1 I2.env0.in1 hx I2 (.cons rfl (.cons ry .nil)) z)) (fun w s' q => ?_) fun _ _ q => q) (hsl _ _)
  exact q
theorem de_getX {C g : Addr} {j : Nat} {φ : List Sl → List Cell → PO1 → RC → Prop} (M : HasMX X.prog X.w X.K X.mg X.base j g (spX X.K φ)) (hs : PySem.W.findIn X.K (.ref C) "__getitem__" = some (some (.ref g))) (hf : PySem.W.fnIn X.K g = true) (hfn : PySem.W.isFn X.K (.ref g) = true) (hr : Room (j + 1) X.A)
    (h : DE X a δ ω fun r0 ω0 => ∃ y, r0 = .kn (refK y) ∧ DE X b δ ω0 fun s ω1 => InsOf ω1 C y ∧ MethAt φ y [s] ω1 P fun _ _ _ => False) (hsl : ∀ o i, subscripted b true o i = runValue (.builtin "lifetime.subscript" ⟨[o, i], []⟩) := by intros; with_unfolding_all rfl) : DE X (.Subscript a b pos) δ ω P := fun B F H as σ w ev Q oo => by
  obtain ⟨fd, ps, hfk, hbd⟩ := M.ex
  refine ⟨_, pe_ixW M.fr hr passX0 hs hf hfn pe_w pe_w hsl, ?_⟩
  refine h B F H as σ w ev _ fun v B0 H0 as0 r0 ω0 e0 p0 w0 s0 ⟨y, er, h1⟩ => ?_
  subst er
  obtain rfl := slk_ref s0
  refine h1 B0 F H0 as0 σ w0 (envOk_up e0 p0 ev) _ fun u B1 H1 as1 r1 ω1 e1 p1 w1 s1 ⟨hi, h2⟩ => ?_
  obtain ⟨dx, vs, i1⟩ := hi.get w1
  exact ⟨y, dx, vs, rfl, i1, meth_at w1 (oo.up (e0.trans e1) (p0.trans p1)) (.cons s1 .nil) h2 fun _ _ _ _ _ _ _ _ _ z => z.elim⟩
/-- repr(x) -/
def rReprX (C : Addr) (sp : Sp) : List V → Hp → VK → Prop := fun xs H Q => ∃ a dx fs, xs = [V.ref a] ∧ H a = some (.ins C dx fs) ∧ sp ([.ref a] ++ []) H (fun z H' => ∃ y, z = .str y ∧ Q z H') E0
theorem call_reprX {C g : Addr} {j : Nat} {sp : Sp} (M : HasMX X.prog X.w X.K X.mg X.base j g sp) (hs : PySem.W.findIn X.K (.ref C) "__repr__" = some (some (.ref g))) (hf : PySem.W.isFn X.K (.ref g) = true) (hr : Room (j + 1) X.A) : CallR X (.builtin "repr") (rReprX C sp) := by
  intro pins s σ H xs us Q I r h
  obtain ⟨a, dx, fs, rfl, ha, q⟩ := h
  obtain ⟨u, rfl, ru⟩ := vals1 r
  cases (show u = Value.ref a from ru)
  obtain ⟨mA, O, _⟩ := ins_get I.hok ha
  obtain ⟨od, J, _⟩ := O.look
  obtain ⟨m, hF⟩ := I.fr
  have hr1 : Room j X.A.in1 := hr.in1
  refine PySem.W.repr_K hr1.units0 hF I.ok.mod.kin J hs hf (wpAny_mono (wpAny_call (SlX.run_at (us := [.ref a]) (ws := [.ref a]) M.fr hr1 I.env0.in1 passX0 I (.cons rfl .nil) q)) (fun w s' z => ?_) fun _ _ x => x)
  obtain ⟨z', H', I', rz, y, ez, qz⟩ := z
  subst ez
  obtain ⟨t, e⟩ := (show ∃ t, w = Value.str y t from rz)
  cases e
  exact ⟨.str y, H', I', ⟨t, rfl⟩, qz⟩
theorem de_reprX {p : Pos} {C g : Addr} {j : Nat} {φ : List Sl → List Cell → PO1 → RC → Prop} (M : HasMX X.prog X.w X.K X.mg X.base j g (spX X.K φ)) (hs : PySem.W.findIn X.K (.ref C) "__repr__" = some (some (.ref g))) (hf : PySem.W.isFn X.K (.ref g) = true) (hr : Room (j + 1) X.A) (hg : Gl X "repr") (hm : X.mg "repr" = none)
    (h : DE X e δ ω fun r0 ω0 => ∃ y, r0 = .kn (refK y) ∧ InsOf ω0 C y ∧ MethAt φ y [] ω0 (fun r ω1 => ∃ z, r = .val (.str z) ∧ P r ω1) fun _ _ _ => False)
    (he : starEach [e] X.env = (false, eval e X.env) :: starEach [] X.env := by rfl) : DE X (.Call (.Name "repr" p) [e] [] pos) δ ω P := fun B F H as σ w ev Q oo => by
  refine ⟨_, pe_callB (call_reprX M hs hf hr) hg hm PyProof.Rows.boot_repr (pa_cons pe_w pa_nil he) (by decide) (by decide) he rfl, ?_⟩
  refine h B F H as σ w ev _ fun v B0 H0 as0 r0 ω0 e0 p0 w0 s0 ⟨y, er, hi, h1⟩ => ?_
  subst er
  obtain rfl := slk_ref s0
  obtain ⟨dx, vs, i1⟩ := hi.get w0
  refine ⟨y, dx, vs, rfl, i1, ?_⟩
  refine meth_at (rs := []) w0 (fun v B' H' as' r ω' sb pp w' hs' ⟨z, er, hp⟩ => ?_) .nil h1 fun _ _ _ _ _ _ _ _ _ z => z.elim
  subst er
  obtain rfl := dp_str_inv (sl_val hs')
  exact ⟨z, rfl, oo _ B' H' as' _ ω' (e0.trans sb) (p0.trans pp) w' hs' hp⟩
/-- x(..) -/
theorem de_callX {C g : Addr} {j : Nat} {φ : List Sl → List Cell → PO1 → RC → Prop} (M : HasMX X.prog X.w X.K X.mg X.base j g (spX X.K φ)) (cO : StX.CallO X.K C g) (hr : Room j X.A)
    (h : DE X fe δ ω fun r0 ω0 => ∃ y, r0 = .kn (refK y) ∧ DA X (e :: es) δ ω0 fun rs ω1 => InsOf ω1 C y ∧ MethAt φ y rs ω1 P fun _ _ _ => False)
    (ht : eval (.Call fe (e :: es) [] pos) X.env = (do callWith pos (← eval fe X.env) [] (backTo pos (starEach (e :: es) X.env)) (backToKw pos (keywordEach [] X.env))) := by rfl)
    (he : starEach (e :: es) X.env = (false, eval e X.env) :: starEach es X.env := by rfl) (hpl : (backTo pos (starEach es X.env)).any (·.1) = false := by rfl) : DE X (.Call fe (e :: es) [] pos) δ ω P := fun B F H as σ w ev Q oo => by
  refine ⟨_, StX.pe_callO pe_w cO M.fr hr passX0 pa_w ht he hpl, ?_⟩
  refine h B F H as σ w ev _ fun v B0 H0 as0 r0 ω0 e0 p0 w0 s0 ⟨y, er, h1⟩ => ?_
  subst er
  obtain rfl := slk_ref s0
  refine ⟨y, rfl, ?_⟩
  refine h1 B0 F H0 as0 σ w0 (envOk_up e0 p0 ev) _ fun vs B1 H1 as1 rs ω1 e1 p1 w1 s1 ⟨hi, h2⟩ => ?_
  obtain ⟨dx, vs0, i1⟩ := hi.get w1
  refine ⟨.inr ⟨dx, vs0, i1⟩, ?_⟩
  show spX X.K φ ((V.ref y :: vs) ++ []) H1 Q E0
  rw [List.append_nil]
  exact meth_at w1 (oo.up (e0.trans e1) (p0.trans p1)) s1 h2 fun _ _ _ _ _ _ _ _ _ z => z.elim
/-! ### .. that may let something out -/
theorem run_at2 {CX : CXT} {pins : List (Addr × Obj)} {σ : L2.St} {H : Hp} {s : Shared} {k : Nat} {g : Addr} {sp : Sp} {E : XK} {Q : VK} {us : List Value} {vs : List V} (F : FnR X.prog X.w X.K X.mg X.base CX k g sp) (hr : Room k X.A) (hx : PassesAt CX X σ E) (I : Inv X pins σ H s) (r : Vals vs us) (h : sp vs H Q E) :
    codeAny (model X.prog X.w) X.A (.call (.ref g) ⟨us, []⟩) (fun res s' => match res with | .ok (.ret v) => EP X pins σ Q v s' | .ok _ => False | .error e => X.xe e s') s := by
  refine codeAny_mono (F X.A X.stack s H us vs Q E hr I.env0 r h) fun res s' hq => ?_
  match res, hq with
  | .error e, hq => exact hx pins H s e s' I hq
  | .ok (.ret u), hq => exact I.after hq
  | .ok .next, hq => exact hq.elim
  | .ok .brk, hq => exact hq.elim
  | .ok .cont, hq => exact hq.elim
def tCallW (X : Cx) (C : Addr) (sp : Sp) (E : L2.St → XK) (tf : TE) (t : TA) : TE := fun σ H Q => tf σ H fun y H1 => ∃ a, y = V.ref a ∧ t σ H1 fun vs H2 => StX.InsC X H2 a C ∧ sp (V.ref a :: vs) H2 Q (E σ)
theorem pe_callW {CX : CXT} {k : Nat} {C g : Addr} {sp : Sp} {E : L2.St → XK} {tf : TE} {t : TA} (hf : PE X fe tf) (c : StX.CallO X.K C g) (F : FnR X.prog X.w X.K X.mg X.base CX k g sp) (hr : Room k X.A) (hx : ∀ σ, PassesAt CX X σ (E σ)) (ha : PA X (e :: es) t)
    (ht : eval (.Call fe (e :: es) [] pos) X.env = (do callWith pos (← eval fe X.env) [] (backTo pos (starEach (e :: es) X.env)) (backToKw pos (keywordEach [] X.env))) := by rfl)
    (he : starEach (e :: es) X.env = (false, eval e X.env) :: starEach es X.env := by rfl) (hpl : (backTo pos (starEach es X.env)).any (·.1) = false := by rfl) : PE X (.Call fe (e :: es) [] pos) (tCallW X C sp E tf t) := by
  refine ⟨fun pins s σ H Q I h => ?_⟩
  refine Call_ (thn (hf.run pins s σ H _ I h) fun u s1 ⟨y, H1, I1, ry, a, ey, z⟩ => ?_) ht
  subst ey
  cases (show u = Value.ref a from ry)
  refine StX.callO_with (thn (ha.run pos pins s1 σ H1 _ I1 z) fun us s2 ⟨vs, H2, I2, r, hi, z2⟩ => ?_) he hpl
  obtain ⟨ox, od, J, hd⟩ := StX.insC_at I2 hi
  exact ⟨⟨C, ox, od, J, hd⟩, wpAny_call (PySem.W.kco_code I2.kIn J hd c.at_ c.fn c.fi (run_at2 (us := .ref a :: us) (vs := .ref a :: vs) F hr (hx σ) I2 (.cons rfl r) z2))⟩
theorem dex_callX {C g : Addr} {j : Nat} {φ : List Sl → List Cell → PO1 → RC → Prop} (M : HasMX X.prog X.w X.K X.mg X.base j g (spX X.K φ)) (cO : StX.CallO X.K C g) (hr : Room j X.A)
    (h : DE X fe δ ω fun r0 ω0 => ∃ y, r0 = .kn (refK y) ∧ DA X (e :: es) δ ω0 fun rs ω1 => InsOf ω1 C y ∧ MethAt φ y rs ω1 P fun cls fs ω2 => R cls fs δ ω2)
    (ht : eval (.Call fe (e :: es) [] pos) X.env = (do callWith pos (← eval fe X.env) [] (backTo pos (starEach (e :: es) X.env)) (backToKw pos (keywordEach [] X.env))) := by rfl)
    (he : starEach (e :: es) X.env = (false, eval e X.env) :: starEach es X.env := by rfl) (hpl : (backTo pos (starEach es X.env)).any (·.1) = false := by rfl) : DEx X (.Call fe (e :: es) [] pos) δ ω P R := fun B F H as σ w ev Q oo tk => by
  obtain ⟨W, tk1, tk2⟩ := tk
  refine ⟨_, pe_callW (E := WE W) pe_w cO M.fr hr (passAt tk1) pa_w ht he hpl, ?_⟩
  refine h B F H as σ w ev _ fun v B0 H0 as0 r0 ω0 e0 p0 w0 s0 ⟨y, er, h1⟩ => ?_
  subst er
  obtain rfl := slk_ref s0
  refine ⟨y, rfl, ?_⟩
  refine h1 B0 F H0 as0 σ w0 (envOk_up e0 p0 ev) _ fun vs B1 H1 as1 rs ω1 e1 p1 w1 s1 ⟨hi, h2⟩ => ?_
  obtain ⟨dx, vs0, i1⟩ := hi.get w1
  refine ⟨.inr ⟨dx, vs0, i1⟩, ?_⟩
  show spX X.K φ ((V.ref y :: vs) ++ []) H1 Q (WE W σ)
  rw [List.append_nil]
  exact meth_at w1 (oo.up (e0.trans e1) (p0.trans p1)) s1 h2 fun cls d B' H' ω' fs sb w' hd hR =>
    tk2 cls d σ B' H' as1 δ ω' fs ((e0.trans e1).trans sb) (p0.trans p1) w' (envOk_up sb (List.prefix_refl _) (envOk_up (e0.trans e1) (p0.trans p1) ev)) hd hR
/-- C(..), where __init__ may let something out -/
theorem run_make2 {CX : CXT} {pins : List (Addr × Obj)} {σ : L2.St} {H : Hp} {s : Shared} {k : Nat} {C g : Addr} {sp : Sp} {E : XK} {Q : VK} {us : List Value} {vs : List V} (M : Mk X.K C g) (F : FnR X.prog X.w X.K X.mg X.base CX k g sp) (hr : Room (k + 1) X.A) (hx : PassesAt CX X σ E) (I : Inv X pins σ H s) (r : Vals vs us)
    (h : ∀ y dx, H y = none → H dx = none → dx ≠ y → sp (V.ref y :: vs) (upd (upd H dx (.own y)) y (.ins C dx [])) (fun v H2 => v = .non ∧ Q (.ref y) H2) E) : wpAny (model X.prog X.w) X.A (call (.ref C) us) (EP X pins σ Q) X.xe s := by
  have z := h (s.heap.objs.size + 1) s.heap.objs.size (I.hok.fresh (Nat.le_succ _)) (I.hok.fresh (Nat.le_refl _)) (Nat.ne_of_lt (Nat.lt_succ_self _))
  have J := Inv.made (C := C) I
  have r2 : Vals (V.ref (s.heap.objs.size + 1) :: vs) (Value.ref (s.heap.objs.size + 1) :: us) := .cons rfl r
  refine wpAny_call (make_map (f := g) I.kIn M.makes M.init (beq_iff_eq.mp M.fn) (codeAny_mono (F _ X.stack _ _ (Value.ref (s.heap.objs.size + 1) :: us) _ _ E (hr.make C us []) (J.env0.make C us []) r2 z) fun res s' hq => ?_))
  match res, hq with
  | .error e, hq => exact hx pins _ _ e s' J hq
  | .ok (.ret u), hq =>
    obtain ⟨v, H', I3, rv, ev, q3⟩ := J.after hq
    subst ev
    exact ⟨rv, ⟨V.ref (s.heap.objs.size + 1), H', I3, rfl, q3⟩⟩
  | .ok .next, hq => exact hq.elim
  | .ok .brk, hq => exact hq.elim
  | .ok .cont, hq => exact hq.elim
end
end
section
/-! x.__class__.__name__ of instances of own classes -/
/-- the class at C, its name as its object holds it -/
structure NmC (K : Fg) (C : Addr) (nm : Str) : Prop where
  ob : ∃ (c : Value) (d : Option Addr) (cd : ClassData) (sl : Array (Option Value)) (tk : Tok), K.lookup C = some ⟨c, d, .cls cd, sl⟩ ∧ sl[2]? = some (some (.str nm tk))
  rd : PySem.W.readsIn K C (.type "type") = true
  at_ : PySem.W.findCls K (.ref C) (.type "type") "__name__" = some (.get (.builtin "getset_descriptor.__get__") (.builtin "type.__name__") (.ref C) (.type "type"))
  ty : PySem.W.typeIn K (.ref C) = some (.type "type")
section
open PySem.W Builtin Builtin.ObjectAttr Builtin.Getset_descriptor
variable {prog : Program} {w : World} {A : Around} {s : Shared} {K : Frag} {R : Result → Shared → Prop}
theorem nm_dga (d tp : Value) (C : Addr) : descrGetArgs ⟨[d, .ref C, tp], []⟩ = pure (d, some (.ref C), given tp) := by kernel_rfl
theorem nm_get {C : Addr} {nm : Str} {tp : Value} (X : K.In s.heap) (N : NmC K C nm) (h : ∀ tk, R (.ok (.ret (.str nm tk))) s) :
    codeAny (model prog w) A (.call (.builtin "getset_descriptor.__get__") ⟨[.builtin "type.__name__", .ref C, tp], []⟩) R s := by
  obtain ⟨c, d0, cd, sl, tk, hl, hs⟩ := N.ob
  obtain ⟨hh, g, dr, t, os⟩ := s
  have hC : hh.get? C = some ⟨c, d0, .cls cd, sl⟩ := X _ _ hl
  have L0 : Looks (model prog w) hh (typeOf (.ref C)) (.type "type") := looks_typeIn X N.ty
  have L1 : Looks (model prog w) hh (isSubtype (.type "type") (.type "type")) true := Looks.of_pure (by rw [isSubtype_type]; kernel_rfl)
  refine codeAny_call_builtin KF.slot_gs.plain KF.entry_gs (KF.slot_gs.check _ _ _ _ _ _ _ _ ktyn_type (KF.args_gs _ _ _) ?_)
  unfold Builtin.«getset_descriptor.__get__» descrGet
  rw [nm_dga]
  refine wpAny_bind (wpAny_pure ?_)
  unfold descrGetter descrCheckInstance descrNameAndClass isInstance
  simp only [ktyn_owner]
  repeat lk
  refine ⟨Code.quiet_builtin _ (by decide +kernel), codeAny_builtin ktyn_entry ?_⟩
  unfold Builtin.«type.__name__»
  dsimp only
  unfold keptObject PySem.slotAt
  refine wpAny_bind (wpAny_bind (wpAny_loadPart' hC (wpAny_pure ?_)))
  dsimp only
  rw [hs]
  exact wpAny_pure (h tk)
end
section
variable {X : Cx} {e : Expr} {δ : List Sl} {ω : List Cell} {P : PO1} {pos : Pos} {ta : TE}
/-- x.__class__ -/
theorem pe_ofcls (he : PE X e ta) (hb : attributeBase e "__class__" X.env (eval e X.env) = eval e X.env) : PE X (.Attribute e "__class__" pos) (fun σ H Q => ta σ H fun x H1 => ∃ a C dx fs, x = .ref a ∧ H1 a = some (.ins C dx fs) ∧ Cls X.K C ∧ SlX.SIsi X.K C ∧ Q (.ref C) H1) := by
  refine ⟨fun pins s σ H Q I h => ?_⟩
  refine attr_of hb (thn (he.run pins s σ H _ I h) fun u s1 ⟨x, H1, I1, rx, a, C, dx, fs, ex, ea, c, i, q⟩ => ?_)
  subst ex
  cases (show u = Value.ref a from rx)
  obtain ⟨mA, O, _, _, _, _⟩ := ins_get I1.hok ea
  obtain ⟨od, J, _⟩ := O.look
  have hc : (PySem.W.clsIn X.K C).isSome = true := by
    obtain ⟨cd, hc, _⟩ := PySem.W.any_some c.hd
    rw [hc]
    rfl
  refine PySem.W.get_bind I1.kIn J (PySem.W.plainGet_of (c.get "__class__")).1 (PySem.W.findObj_data hc i.ca i.cn i.ct) (PySem.W.plainGet_of (c.get "__class__")).2 (wpAny_call (PySem.W.class_get (s := { s1 with toks := s1.toks + 1 }) (ox := _) (od := some od) I1.kIn J i.cm (PySem.W.handed_on rfl ?_)))
  exact ⟨.ref C, H1, I1.tok _, rfl, q⟩
/-- c.__name__ -/
theorem pe_nameof {C : Addr} {nm : Str} (N : NmC X.K C nm) (he : PE X e ta) (hb : attributeBase e "__name__" X.env (eval e X.env) = eval e X.env) : PE X (.Attribute e "__name__" pos) (fun σ H Q => ta σ H fun x H1 => x = .ref C ∧ Q (.str nm) H1) := by
  refine ⟨fun pins s σ H Q I h => ?_⟩
  refine attr_of hb (thn (he.run pins s σ H _ I h) fun u s1 ⟨x, H1, I1, rx, ex, q⟩ => ?_)
  subst ex
  cases (show u = Value.ref C from rx)
  refine PySem.W.cls_bind I1.kIn N.rd N.at_ (wpAny_call (nm_get (s := { s1 with toks := s1.toks + 1 }) I1.kIn N fun tk => PySem.W.handed_on rfl ?_))
  exact ⟨.str nm, H1, I1.tok _, ⟨tk, rfl⟩, q⟩
theorem de_clsName {C : Addr} {nm : Str} {pos2 : Pos} (N : NmC X.K C nm) (c : Cls X.K C) (i : SlX.SIsi X.K C) (h : DE X e δ ω fun r0 ω0 => ∃ y, r0 = .kn (refK y) ∧ InsOf ω0 C y ∧ P (.val (.str nm)) ω0)
    (hb1 : attributeBase e "__class__" X.env (eval e X.env) = eval e X.env := by rfl) (hb2 : attributeBase (.Attribute e "__class__" pos2) "__name__" X.env (eval (.Attribute e "__class__" pos2) X.env) = eval (.Attribute e "__class__" pos2) X.env := by rfl) : DE X (.Attribute (.Attribute e "__class__" pos2) "__name__" pos) δ ω P := fun B F H as σ w ev Q oo => by
  refine ⟨_, pe_nameof N (pe_ofcls pe_w hb1) hb2, ?_⟩
  refine h B F H as σ w ev _ fun v B0 H0 as0 r0 ω0 e0 p0 w0 s0 ⟨y, er, hi, hp⟩ => ?_
  subst er
  obtain rfl := slk_ref s0
  obtain ⟨dx, vs, i1⟩ := hi.get w0
  exact ⟨y, C, dx, vs, rfl, i1, c, i, rfl, (oo.up e0 p0).here w0 (.str _) hp⟩
end
end
section
/-! lambdas without parameters, handed to a def; the maker's table of code objects is one of the cells -/
open LamX (CodeO TabB LamS lamEnv lamCx GivesTo)
/-- the table at p: each code object in it bears the name q -/
def TabAt (H : Hp) (p : Addr) (q : Str) (ps : Array Value) : Prop := H p = some (.tbl ps) ∧ TriplesOk ps.toList ∧ ∀ (pos : Pos) (cv : Value), codeAmong pos ps.toList = some cv → ∃ c, cv = .ref c ∧ H c = some (CodeO c q)
/-- what the making of a lambda does: nothing, or one code object more -/
def LamTo (p : Addr) (q : Str) (ps : Array Value) (H H1 : Hp) : Prop := H1 = H ∨ ∃ (c : Addr) (ps2 : Array Value), H1 = upd (upd H p (.tbl ps2)) c (CodeO c q) ∧ H c = none ∧ TriplesOk ps2.toList ∧
  ∀ (pos : Pos) (cv : Value), codeAmong pos ps2.toList = some cv → codeAmong pos ps.toList = some cv ∨ cv = .ref c
section
variable {X : Cx} {pins : List (Addr × Obj)} {σ : L2.St} {H : Hp} {s : Shared}
theorem lam_make3 {c p : Addr} {ps : Array Value} {params : Arguments} {body : Expr} {scope : Scope} {pos : Pos} {E : Value → Shared → Prop} {Q : Value → Shared → Prop} (I : Inv X pins σ H s) (B : TabB X.base X.mg c p) (hcode : X.env.code = .ref c)
    (T : TabAt H p (X.env.qual ++ "<lambda>") ps) (hdef : defaultsOf params X.env = ([], [])) (hfree : ∀ y ∈ scope.names, y.2 = .free → ∃ c, X.env.cells.lookup y.1 = some c)
    (h : ∀ (g c' : Addr) (pm ctv : Value) (H1 : Hp) (s' : Shared), Inv X pins σ H1 s' → LamTo p (X.env.qual ++ "<lambda>") ps H H1 →
      s'.heap.get? g = some (PySem.W.kla_obj "<lambda>" (X.env.qual ++ "<lambda>") params body scope (cloFrom X.env.cells scope.names []) pm c' ctv) → H1 g = none → g ∉ frs X.stack → H1 c' = some (CodeO c' (X.env.qual ++ "<lambda>")) → Q (.ref g) s') :
    wpAny (model X.prog X.w) X.A (eval (.Lambda params body scope pos) X.env) Q E s := by
  obtain ⟨tP, tOk, tAll⟩ := T
  refine PySem.W.kla_eval hdef ?_
  have bm := B.bm.keeps I.bk
  have atP : s.heap.get? p = some { cls := .none, data := .fields ps } := I.hok p _ tP
  have noFrame : ∀ g, s.heap.objs.size ≤ g → g ∉ frs X.stack := fun g hg z => by
    rcases List.mem_cons.mp (I.stkSub _ z) with e | e
    · have h1 := I.lt
      rw [← e] at h1
      exact absurd (Nat.lt_of_lt_of_le h1 hg) (Nat.lt_irrefl _)
    · exact I.nofs hg e
  cases hc : codeAmong pos ps.toList with
  | none =>
    refine PySem.W.kla_makeFunction (mg := X.mg) (c := c) (P := p) (ps := ps) (closure_ok hfree) I.ok.glob (I.mod.glob.keeps I.bk) hcode (B.code.keeps I.bk) atP tOk hc B.gP bm fun c' ctv h' tk hx hge hlt hrec htb => ?_
    obtain ⟨c2, oc, vs, t, e2, hoc, hd, hv⟩ := hrec
    cases e2
    have big : s.heap.objs.size ≤ h'.objs.size := Nat.le_trans hge (Nat.le_of_lt hlt)
    have cNew : H c' = none := I.hok.fresh hge
    have J := LamX.inv_table (t' := tk) (more := #[rawInt pos.line, rawInt pos.col, .ref c']) (h' := h'.push (PySem.W.kla_obj "<lambda>" (X.env.qual ++ "<lambda>") params body scope (cloFrom X.env.cells scope.names []) ((X.mg "__name__").getD .none) c' ctv)) I tP
      (fun b o hb e => Heap.get?_push_of_some _ (hx b o hb e)) (Heap.get?_push_of_some _ htb) hge ⟨oc, vs, t, Heap.get?_push_of_some _ hoc, hd, hv⟩
    have eL : (ps ++ #[rawInt pos.line, rawInt pos.col, .ref c']).toList = ps.toList ++ [rawInt pos.line, rawInt pos.col, .ref c'] := by simp
    have lt1 : h'.objs.size ≠ c' := Nat.ne_of_gt hlt
    have lt2 : h'.objs.size ≠ p := Nat.ne_of_gt (Nat.lt_of_lt_of_le (Heap.lt_size atP) big)
    refine h h'.objs.size c' ((X.mg "__name__").getD .none) ctv _ _ J (.inr ⟨c', _, rfl, cNew, ?_, fun p' cv hcv => ?_⟩) (Heap.get?_push_size _ rfl) ?_ (noFrame _ big) upd_same
    · rw [eL]
      exact PySem.TriplesOk_snoc _ _ _ _ tOk
    · rw [eL] at hcv
      exact LamX.among_app _ tOk hcv
    · rw [upd_ne lt1, upd_ne lt2]
      exact I.hok.fresh big
  | some cv =>
    obtain ⟨c', e, hco⟩ := tAll pos cv hc
    subst e
    refine PySem.W.kla_makeFunctionHit (mg := X.mg) (c := c) (P := p) (ps := ps) (closure_ok hfree) I.ok.glob (I.mod.glob.keeps I.bk) hcode (B.code.keeps I.bk) atP tOk hc bm fun ctv h' tk hx hsz => ?_
    have J : Inv X pins σ H { s with heap := h'.push (PySem.W.kla_obj "<lambda>" (X.env.qual ++ "<lambda>") params body scope (cloFrom X.env.cells scope.names []) ((X.mg "__name__").getD .none) c' ctv), toks := tk } := I.kept fun b o e => Heap.get?_push_of_some _ (hx b o e)
    exact h h'.objs.size c' ((X.mg "__name__").getD .none) ctv H _ J (.inl rfl) (Heap.get?_push_size _ rfl) (I.hok.fresh hsz) (noFrame _ hsz) hco
end
def tLam3 (p : Addr) (q : Str) (TT : (XK → Hp → VK → Prop) → Hp → VK → Prop) (t : XK → TE) : TE := fun σ H Q => ∃ ps, TabAt H p q ps ∧ ∀ H1, LamTo p q ps H H1 → TT (fun E H' Q' => t E σ H' Q') H1 Q
section
variable {X : Cx}
/-- x(lambda: body) -/
theorem pe_lam3 {TT : (XK → Hp → VK → Prop) → Hp → VK → Prop} {x a : Str} {g c P : Addr} {k : Nat} {pg : Arguments} {bg : List Stmt} {sg : Scope} {dV kV doc pm cdv ct oc : Value} {an od : Option Addr} {osl : Array (Option Value)} {Ng : List Str}
    {params : Arguments} {body : Expr} {scope : Scope} {t : XK → TE} {p lpos pos : Pos} (hg : Gl X x) (hm : X.mg x = some (.ref g)) (hk : PySem.W.keepIn X.K (.ref g) = true)
    (lk : X.K.lookup g = some ⟨oc, od, .func (PySem.W.fnOf x x pg bg sg dV kV doc pm an cdv ct), osl⟩) (hcg : PySem.W.codeIn X.K cdv x = true) (hb : L2.Binds X.K (PySem.W.fnOf x x pg bg sg dV kV doc pm an cdv ct) [a] []) (Sg : FnScope Ng [a] sg) (hNg : Ng[0]? = some a) (hva : Vis sg a)
    (hG : GivesTo X Ng x sg g cdv bg a (X.env.qual ++ "<lambda>") TT)
    (TB : TabB X.base X.mg c P) (hcode : X.env.code = .ref c) (hr : Room (k + 2) X.A) (L : LamS X.env.scope scope) (hdef : defaultsOf params X.env = ([], []))
    (hbind : ∀ (q : Str) (cl : List (Str × Addr)) (pm cv ctv : Value), bindArgs (PySem.W.kla_fn "<lambda>" q params body scope cl pm cv ctv) ⟨[], []⟩ = pure [])
    (hbody : ∀ (A : Around) (outer : List Env) (s : Shared) (H : Hp) (E : XK) (f c' : Addr), Room k (A.deeper (lamEnv X scope s.heap.objs.size f c')) → PE (lamCx X A outer s H E scope f c') body (t E))
    (hdb : (x == ("__debug__" : Str)) = false := by decide) (hd : (a == ("__debug__" : Str)) = false := by decide) (hcd : (a == ("__classdict__" : Str)) = false := by decide) :
    PE X (.Call (.Name x p) [.Lambda params body scope lpos] [] pos) (tLam3 P (X.env.qual ++ "<lambda>") TT t) := by
  refine ⟨fun pins s σ H Q I h => ?_⟩
  obtain ⟨ps, hT, h⟩ := h
  refine wpAny_Call_Name_kw (ld_glob I hg hm ?_ hdb)
  refine PySem.W.callWith_K (h₀ := X.base) I.ok.mod.kin hk ?_ (by rfl) (by rfl)
  show wpAny _ _ (spliced ((false, eval (.Lambda params body scope lpos) X.env) :: backTo pos (starEach [] X.env))) _ _ s
  refine Calls.spliced_cons (lam_make3 I TB hcode hT hdef (L.has I.ok) fun f c' pm' ctv H1 s' J eN hf hfn hfr hco => ?_)
  refine Calls.spliced_nil ⟨J.kIn, ?_⟩
  have run : codeAny (model X.prog X.w) X.A (.call (.ref g) ⟨[.ref f], []⟩) (CR C8.CX0 X.stack X.prog X.w H1 s' Q C8.E0) s' := by
    refine LamX.run_ofS (N := Ng) (ps := [a]) (us := [.ref f]) (vs := [.ref f]) lk hcg Sg hr J.env0 (hb s' [.ref f] J.kIn rfl) (.cons rfl .nil) rfl fun hr' => ?_
    obtain ⟨t', ht', z⟩ := hG f c' s' H1 Q (fun E H' Q' => t E σ H' Q') (fun W pn xe E p1 p2 tk hW => LamX.pe_act (i := 0) J L hf hfn hfr (hbind _ _ _ _ _) tk hW hr' (fun A outer s H hr2 => hbody A outer s H E f c' hr2) hNg hva hd hcd) hco (h H1 eN)
    exact ⟨t', ht'.nox, z⟩
  refine wpAny_call (codeAny_mono run fun r s2 z => ?_)
  match r, z with
  | .error _, z => exact (show False from z).elim
  | .ok (.ret _), z => exact J.after z
  | .ok .next, z => exact z.elim
  | .ok .brk, z => exact z.elim
  | .ok .cont, z => exact z.elim
end
/-! ### the table as a cell -/
def tabC (p : Addr) (q : Str) : Cell := .gn fun _ B o a => a = p ∧ ∃ ps : Array Value, o = .tbl ps ∧ TriplesOk ps.toList ∧ ∀ (pos : Pos) (cv : Value), codeAmong pos ps.toList = some cv → ∃ c, cv = .ref c ∧ B c = some (CodeO c q)
section
variable {K : Fg} {B F H H1 : Hp} {as : List Addr} {ω : List Cell} {k : Nat} {p : Addr} {q : Str} {ps : Array Value}
theorem cell_tab (w : Wd K B F H as ω) (hc : ω[k]? = some (tabC p q)) : as[k]? = some p ∧ B p = none ∧ ∃ ps, TabAt H p q ps ∧ ∀ (pos : Pos) (cv : Value), codeAmong pos ps.toList = some cv → ∃ c, cv = .ref c ∧ B c = some (CodeO c q) := by
  have hk : k < as.length := by
    rw [w.len]
    exact (List.getElem?_eq_some_iff.mp hc).1
  obtain ⟨hb, B0, o, sb, h3, hx, ps, rfl, h4, h5⟩ := (w.at' k _ _ (List.getElem?_eq_getElem hk) hc).2.2
  have ha := List.getElem?_eq_getElem hk
  rw [hx] at ha hb h3
  have all : ∀ (pos : Pos) (cv : Value), codeAmong pos ps.toList = some cv → ∃ c, cv = .ref c ∧ B c = some (CodeO c q) := fun pos cv e => by
    obtain ⟨c, e1, e2⟩ := h5 pos cv e
    exact ⟨c, e1, sb _ _ e2⟩
  exact ⟨ha, hb, ps, ⟨h3, h4, fun pos cv e => by
    obtain ⟨c, e1, e2⟩ := all pos cv e
    exact ⟨c, e1, w.b _ _ e2⟩⟩, all⟩
/-- behind the making of a lambda the world is as it was -/
theorem tab_after (w : Wd K B F H as ω) (hc : ω[k]? = some (tabC p q)) (T : TabAt H p q ps) (e : LamTo p q ps H H1) : ∃ B1, Same B B1 ∧ Wd K B1 F H1 as ω := by
  rcases e with rfl | ⟨c, ps2, rfl, hn, ht, hal⟩
  · exact ⟨B, Same.refl _, w⟩
  · obtain ⟨ha, hb, ps', T', all⟩ := cell_tab w hc
    obtain ⟨tP, _, _⟩ := T
    have eps : ps' = ps := by
      have := T'.1.symm.trans tP
      cases this
      rfl
    subst eps
    obtain ⟨w2, s2⟩ := w.new (o := CodeO c q) hn
    have hpc : p ≠ c := ne_of_none tP hn
    have hb2 : upd B c (CodeO c q) p = none := by
      rw [upd_ne hpc]
      exact hb
    have w3 := w2.write (c' := tabC p q) (o := .tbl ps2) ha hc hb2 ⟨hb2, upd B c (CodeO c q), _, Same.refl _, upd_same, rfl, ps2, rfl, ht, fun pos cv e => by
      rcases hal pos cv e with z | z
      · obtain ⟨c0, e1, e2⟩ := all pos cv z
        exact ⟨c0, e1, s2 _ _ e2⟩
      · exact ⟨c, z, upd_same⟩⟩
    have eH : upd (upd H c (CodeO c q)) p (.tbl ps2) = upd (upd H p (.tbl ps2)) c (CodeO c q) := by
      funext b
      by_cases b1 : b = p
      · subst b1
        rw [upd_same, upd_ne hpc, upd_same]
      · by_cases b2 : b = c
        · subst b2
          rw [upd_ne b1, upd_same, upd_same]
        · rw [upd_ne b1, upd_ne b2, upd_ne b2, upd_ne b1]
    rw [eH] at w3
    have eω : ω.set k (tabC p q) = ω := by
      apply List.ext_getElem?
      intro j
      by_cases hj : k = j
      · subst hj
        rw [List.getElem?_set_self (List.getElem?_eq_some_iff.mp hc).1, hc]
      · rw [List.getElem?_set_ne hj]
    rw [eω] at w3
    exact ⟨_, s2, w3⟩
end
/-- as Wd.frame; what is free before is free in it -/
theorem Wd.frameN {K : Fg} {B F H : Hp} {as : List Addr} {ω : List Cell} (w : Wd K B F H as ω) : ∃ F', Wd K B F' H [] [] ∧ (∀ a, a ∉ as → F a = none → F' a = none) ∧ ∀ B' H', Same B B' → Wd K B' F' H' [] [] → Wd K B' F H' as ω := by
  classical
  refine ⟨fun a => if a ∈ as ∧ B a = none then H a else F a, ⟨w.b, fun a o e => ?_, rfl, .nil, fun k a c e1 _ => by simp at e1⟩, fun a hn hf => ?_, fun B' H' sb w' => ⟨w'.b, fun a o e => ?_, w.len, w.nd, fun k a c e1 e2 => ?_⟩⟩
  · by_cases h : a ∈ as ∧ B a = none
    · rw [if_pos h] at e
      exact ⟨e, h.2⟩
    · rw [if_neg h] at e
      exact w.f a o e
  · have h : ¬ (a ∈ as ∧ B a = none) := fun z => hn z.1
    show (if _ then _ else _) = _
    rw [if_neg h]
    exact hf
  · have h : ¬ (a ∈ as ∧ B a = none) := fun z => by
      obtain ⟨k, hk, q⟩ := List.mem_iff_getElem.mp z.1
      have hk2 : k < ω.length := by rw [← w.len]; exact hk
      have := (w.at' k a _ (by rw [List.getElem?_eq_getElem hk, q]) (List.getElem?_eq_getElem hk2)).1
      rw [this] at e
      cases e
    refine w'.f a o ?_
    show (if _ then _ else _) = _
    rw [if_neg h]
    exact e
  · obtain ⟨q1, q2, q3⟩ := w.at' k a c e1 e2
    cases hb : B a with
    | some o =>
      exact ⟨q1, by rw [w'.b _ _ (sb _ _ hb)]; simp, cell_keep q3 (by rw [hb]; simp) sb⟩
    | none =>
      obtain ⟨o, ho⟩ := Option.ne_none_iff_exists'.mp q2
      have hf := w'.f a o (by
        show (if _ then _ else _) = _
        rw [if_pos ⟨List.mem_of_getElem? e1, hb⟩]
        exact ho)
      exact ⟨q1, by rw [hf.1]; simp, cell_up q3 sb (fun _ => hf.2) (hf.1.trans ho.symm)⟩
/-! ### what the def that calls it makes of the lambda: a text of the answer, or of the exception -/
def TTw (K : Fg) (KE : Addr) (RV : List V → Hp → VK → Prop) (Wrd : Value → List (Str × D) → Str → Prop) : (XK → Hp → VK → Prop) → Hp → VK → Prop := fun tl H Q =>
  tl (fun cls d H' => ∃ B' F' fs y, Wd K B' F' H' [] [] ∧ XdOk K B' F' H' [] d fs ∧ PySem.W.exmOne K cls (.ref KE) = some true ∧ Wrd cls fs y ∧ ∀ B2 H2, Same B' B2 → Wd K B2 F' H2 [] [] → Q (.str y) H2) H (fun v H' => RV [v] H' Q)
section
variable {X : Cx} {δ : List Sl} {ω : List Cell} {P : PO1}
/-- the lambda's body runs in each of its frames -/
def LamB (X : Cx) (scope : Scope) (k : Nat) (p : Cx → Prop) : Prop := ∀ (A : Around) (outer : List Env) (s : Shared) (H : Hp) (E : XK) (f c' : Addr), Room k (A.deeper (lamEnv X scope s.heap.objs.size f c')) → p (lamCx X A outer s H E scope f c')
theorem de_lam {RV : List V → Hp → VK → Prop} {Rep : D → Str → Prop} {Wrd : Value → List (Str × D) → Str → Prop} {KE : Addr} {x a : Str} {g c p : Addr} {k j : Nat} {pg : Arguments} {bg : List Stmt} {sg : Scope} {dV kV doc pm cdv ct oc : Value} {an od : Option Addr} {osl : Array (Option Value)} {Ng : List Str}
    {params : Arguments} {body : Expr} {scope : Scope} {p1 lpos pos : Pos} (hg : Gl X x) (hm : X.mg x = some (.ref g)) (hk : PySem.W.keepIn X.K (.ref g) = true)
    (lk : X.K.lookup g = some ⟨oc, od, .func (PySem.W.fnOf x x pg bg sg dV kV doc pm an cdv ct), osl⟩) (hcg : PySem.W.codeIn X.K cdv x = true) (hb : L2.Binds X.K (PySem.W.fnOf x x pg bg sg dV kV doc pm an cdv ct) [a] []) (Sg : FnScope Ng [a] sg) (hNg : Ng[0]? = some a) (hva : Vis sg a)
    (hG : GivesTo X Ng x sg g cdv bg a (X.env.qual ++ "<lambda>") (TTw X.K KE RV Wrd)) (TB : TabB X.base X.mg c p) (hcode : X.env.code = .ref c) (hr : Room (k + 2) X.A) (L : LamS X.env.scope scope) (hdef : defaultsOf params X.env = ([], []))
    (hbind : ∀ (q : Str) (cl : List (Str × Addr)) (pm cv ctv : Value), bindArgs (PySem.W.kla_fn "<lambda>" q params body scope cl pm cv ctv) ⟨[], []⟩ = pure [])
    (hRV : ∀ (B H : Hp) (v : V) (d : D) (y : Str) (Q : VK), Same B H → Dp X.K B v d → Rep d y → Q (.str y) H → RV [v] H Q)
    (hc : ω[j]? = some (tabC p (X.env.qual ++ "<lambda>")))
    (h : LamB X scope k fun Y => DEx Y body δ ω (fun r ω' => ∃ d y, r = .val d ∧ Rep d y ∧ P (.val (.str y)) ω') fun cls fs _ ω' => PySem.W.exmOne X.K cls (.ref KE) = some true ∧ ∃ y, Wrd cls fs y ∧ P (.val (.str y)) ω')
    (hdb : (x == ("__debug__" : Str)) = false := by decide) (hd : (a == ("__debug__" : Str)) = false := by decide) (hcd : (a == ("__classdict__" : Str)) = false := by decide) :
    DE X (.Call (.Name x p1) [.Lambda params body scope lpos] [] pos) δ ω P := fun B F H as σ w ev Q oo => by
  refine ⟨_, pe_lam3 (t := fun E' σ' H' Q' => ∀ (A : Around) (outer : List Env) (s : Shared) (H0 : Hp) (f c' : Addr), Room k (A.deeper (lamEnv X scope s.heap.objs.size f c')) → wE (lamCx X A outer s H0 E' scope f c') body σ' H' Q') hg hm hk lk hcg hb Sg hNg hva hG TB hcode hr L hdef hbind
    (fun A outer s H0 E' f c' hr2 => ⟨fun pins s1 σ1 H1 Q1 I hw => by obtain ⟨_, q1, q2⟩ := hw A outer s H0 f c' hr2; exact q1.run pins s1 σ1 H1 Q1 I q2⟩) hdb hd hcd, ?_⟩
  obtain ⟨_, _, ps, T, _⟩ := cell_tab w hc
  refine ⟨ps, T, fun H1 e1 => ?_⟩
  obtain ⟨B1, s1, w1⟩ := tab_after w hc T e1
  intro A outer s H0 f c' hr2
  refine h A outer s H0 _ f c' hr2 B1 F H1 as σ w1 (envOk_up s1 (List.prefix_refl _) ev) _ (fun v B' H' as' r ω' sb pp w' hs ⟨d, y, er, hR, hp⟩ => ?_) ⟨_, takes_of rfl rfl rfl rfl, fun cls d σ' B' H' as' δ' ω' fs sb pp w' ev' hx ⟨hm, y, hW, hp⟩ => ?_⟩
  · subst er
    exact hRV B' H' v d y Q w'.b (sl_val hs) hR (oo (.str y) B' H' as' (.val (.str y)) ω' (s1.trans sb) pp w' (slv (.str _)) hp)
  · obtain ⟨F', wF, hF, back⟩ := w'.frameN
    refine ⟨B', F', fs, y, wF, ?_, hm, hW, fun B2 H2 sb2 w2 => oo (.str y) B2 H2 as' (.val (.str y)) ω' ((s1.trans sb).trans sb2) pp (back B2 H2 sb2 w2) (slv (.str _)) hp⟩
    cases d with
    | none => exact hx
    | some dx =>
      obtain ⟨x1, x2, x3, x4⟩ := hx
      exact ⟨x1, hF dx x3 x2, List.not_mem_nil, x4⟩
end
end
section
/-! the end of a law whose defs make lambdas: the tables of code objects are handed to the law as cells -/
open LamX (CodeO TabB)
section
variable {P : Program} {w : World} {K : Fg} {mg mb : Str → Option Value} {k : Nat} {fa a : Addr} {fd : FuncData} {x : Str} {sp : Sp} {s1 : Shared}
/-- the law is called from an abstract heap H in which no dict and nothing of K is tracked -/
theorem end_gen (KX : K.In s1.heap) (hns : s1.heap.Ns mainGlobals mg) (hb : s1.heap.Ns builtinsNs mb) (hbb : ∀ z : Str, z ≠ "__name__" → mb z = bootBuiltins z) (hlim : s1.heap.NoLimit) (hgens : s1.gens = #[]) (hr : Room k callerA) (H : Hp)
    (noDict : ∀ {c : Addr} {o : Obj} {es : Array DictEntry} {ep : Nat}, s1.heap.get? c = some o → o.data = .dict es ep → H c = none) (noK : ∀ c, H c ≠ none → K.lookup c = none) (hok : HOk P w H s1.heap)
    (F : K.In (hidT s1.heap H) → (hidT s1.heap H).Ns mainGlobals mg → FnG P w K mg (hidT s1.heap H) k fa fd [x] sp) (hbind : ∀ (s : Shared) (u : Value), BindsTo s fd ⟨[u], []⟩ [(x, u)]) (hsp : sp [.ref a] H (fun v _ => v = .bl true) E0)
    (hend : ∀ (H2 : Hp) (s2 : Shared), Un (frs []) [] H H2 s1.heap s2.heap → HOk P w H2 s2.heap → OldK s1.heap s2.heap) :
    codeAny (model P w) callerA (.call (.ref fa) ⟨[.ref a], []⟩) (fun res s2 => res = .ok (.ret (.bool true)) ∧ OldK s1.heap s2.heap ∧ s2.os = s1.os ∧ AllBare s2.gens) s1 := by
  have nsKept : ∀ {c : Addr} {m : Str → Option Value}, s1.heap.Ns c m → (hidT s1.heap H).Ns c m := fun {c m} ⟨o, es, ep, g, dd, rr⟩ => ⟨o, es, ep, hidT_get g (noDict g dd), dd, rr⟩
  have inBase : K.In (hidT s1.heap H) := fun c o g => hidT_get (KX c o g) (by
    cases q : H c with
    | none => rfl
    | some u =>
      rw [noK c (by rw [q]; simp)] at g
      cases g)
  have md : Mod K mg (hidT s1.heap H) := by
    obtain ⟨mc, l1, l2⟩ := hlim
    exact ⟨inBase, nsKept hns, ⟨mb, nsKept hb, hbb⟩, ⟨mc, nsKept l1, l2⟩⟩
  have env0 : Env0 P w K mg (hidT s1.heap H) callerA [] s1 H :=
    ⟨rfl, md, fun c o g => of_hidT g, Nat.le_of_eq (hidT_size _ _), trivial, fun c hc => absurd (show c ∈ ([] : List Addr) from hc) List.not_mem_nil, hok, .of_eq hgens⟩
  refine codeAny_mono ((F inBase (nsKept hns)).run callerA [] s1 H ⟨[.ref a], []⟩ [.ref a] [.ref a] _ E0 rfl hr env0 (hbind s1 (.ref a)) (.cons rfl .nil) hsp) fun res s2 hres => ?_
  match res, hres with
  | .error _, hres => exact hres.elim
  | .ok .next, hres => exact hres.elim
  | .ok .brk, hres => exact hres.elim
  | .ok .cont, hres => exact hres.elim
  | .ok (.ret u), ⟨v, H2, os, bare, un, hok2, rv, ev⟩ =>
    have ev2 : v = .bl true := ev
    subst ev2
    cases (show u = Value.bool true from rv)
    exact ⟨rfl, hend H2 s2 un hok2, os, bare⟩
/-- what a law with tables promises: True for every script -/
def φLawT (ts : List (Addr × Str)) : List Sl → List Cell → PO1 → Prop := fun rs ω P => ∃ ns : List Int, rs = [.val (.list (ns.map PyData.int))] ∧ ns.length ≤ 63 ∧ ω = ts.map (fun t => tabC t.1 t.2) ∧ ∀ ω', P (.val (.bool true)) ω'
/-- the abstract heap: the script (where it is not K's), the empty tables -/
def startT (K : Fg) (a : Addr) (u : HO) (ts : List Addr) : Hp := fun c => if c ∈ ts then some (.tbl #[]) else if c = a ∧ K.lookup a = none then some u else none
theorem startT_tab {u : HO} {ts : List Addr} {c : Addr} (h : c ∈ ts) : startT K a u ts c = some (.tbl #[]) := if_pos h
theorem startT_cases {u o : HO} {ts : List Addr} {c : Addr} (h : startT K a u ts c = some o) : (c ∈ ts ∧ o = .tbl #[]) ∨ (c ∉ ts ∧ c = a ∧ K.lookup a = none ∧ o = u) := by
  unfold startT at h
  by_cases h1 : c ∈ ts
  · rw [if_pos h1] at h
    cases h
    exact .inl ⟨h1, rfl⟩
  · rw [if_neg h1] at h
    by_cases h2 : c = a ∧ K.lookup a = none
    · rw [if_pos h2] at h
      cases h
      exact .inr ⟨h1, h2.1, h2.2, rfl⟩
    · rw [if_neg h2] at h
      cases h
theorem end_callT {vs : List Value} {ns : List Int} {cs : List (Addr × Addr × Str)} (KX : K.In s1.heap) (hns : s1.heap.Ns mainGlobals mg) (hb : s1.heap.Ns builtinsNs mb) (hbb : ∀ z : Str, z ≠ "__name__" → mb z = bootBuiltins z) (hlim : s1.heap.NoLimit) (hgens : s1.gens = #[]) (hr : Room k callerA)
    (hobj : s1.heap.get? a = some { cls := .type "list", data := .seq vs.toArray }) (hints : IntsAre vs ns) (hl : ns.length ≤ 63) (nd : (cs.map (·.2.1)).Nodup)
    (hT : ∀ p ∈ cs, s1.heap.get? p.2.1 = some { cls := .none, data := .fields #[] }) (hK : ∀ p ∈ cs, K.lookup p.2.1 = none) (hC : ∀ p ∈ cs, PySem.W.CodeHd s1.heap p.1 p.2.1)
    (hbm : ∃ (m : Addr) (ob : Obj), mg "__builtins__" = some (.ref m) ∧ m ≠ builtinsNs ∧ s1.heap.get? m = some ob ∧ ob.cls = .type "module" ∧ ob.dict = some builtinsNs ∧ ob.data = .plain)
    (F : ∀ base : Heap, K.In base → base.Ns mainGlobals mg → (∀ p ∈ cs, TabB base mg p.1 p.2.1) → FnG P w K mg base k fa fd [x] (spU K (φLawT (cs.map (·.2))))) (hbind : ∀ (s : Shared) (u : Value), BindsTo s fd ⟨[u], []⟩ [(x, u)]) :
    codeAny (model P w) callerA (.call (.ref fa) ⟨[.ref a], []⟩) (fun res s2 => res = .ok (.ret (.bool true)) ∧ OldK s1.heap s2.heap ∧ s2.os = s1.os ∧ AllBare s2.gens) s1 := by
  have rv := vals_ints hints
  have small : ns.length ≤ sizeLine := Nat.le_trans hl (by decide)
  obtain ⟨H, eH⟩ : ∃ H, H = startT K a (.frz { cls := .type "list", data := .seq vs.toArray } (.lst (ns.map V.int))) (cs.map (·.2.1)) := ⟨_, rfl⟩
  have tabObj : ∀ {c : Addr}, c ∈ cs.map (·.2.1) → s1.heap.get? c = some { cls := .none, data := .fields #[] } := fun {c} hc => by
    obtain ⟨p, hp, e⟩ := List.mem_map.mp hc
    subst e
    exact hT p hp
  have aT : a ∉ cs.map (·.2.1) := fun z => by
    have e := (tabObj z).symm.trans hobj
    have e2 := congrArg Obj.data (Option.some.inj e)
    cases e2
  have track : ∀ {c : Addr} {o : HO}, H c = some o → (c ∈ cs.map (·.2.1) ∧ o = .tbl #[]) ∨ (c ∉ cs.map (·.2.1) ∧ c = a ∧ K.lookup a = none ∧ o = .frz { cls := .type "list", data := .seq vs.toArray } (.lst (ns.map V.int))) := fun {c o} h => startT_cases (eH ▸ h)
  have untr : ∀ {c : Addr} {o : Obj}, s1.heap.get? c = some o → (∀ xs n, o.data ≠ .seq xs n) → o.data ≠ .fields #[] → H c = none := fun {c o} g h1 h2 => by
    cases q : H c with
    | none => rfl
    | some u =>
      rcases track q with ⟨hm, _⟩ | ⟨_, ea, _, _⟩
      · rw [tabObj hm] at g
        cases g
        exact absurd rfl h2
      · rw [ea, hobj] at g
        cases g
        exact absurd rfl (h1 _ _)
  refine end_gen KX hns hb hbb hlim hgens hr H (fun {c o es ep} g dd => untr g (fun xs n z => by rw [dd] at z; cases z) fun z => by rw [dd] at z; cases z) (fun c hc => ?_) (fun c u hu => ?_) (fun i n => F _ i n fun p hp => ?_) hbind ?_ (fun H2 s2 un hok2 => ?_)
  · cases q : H c with
    | none => exact absurd q hc
    | some u =>
      rcases track q with ⟨hm, _⟩ | ⟨_, ea, hk, _⟩
      · obtain ⟨p, hp, e⟩ := List.mem_map.mp hm
        subst e
        exact hK p hp
      · rw [ea]
        exact hk
  · rcases track hu with ⟨hm, eo⟩ | ⟨_, ea, hk, eo⟩
    · subst eo
      exact tabObj hm
    · subst eo ea
      exact ⟨hobj, by rw [List.length_map]; exact small, vs, _, rv, hobj⟩
  · have hTp := hT p hp
    refine ⟨?_, ?_, fun z => ?_⟩
    · obtain ⟨o, us, file, tf, flags, tg, inF, text, tt, e1, r1, r2, r3, r4⟩ := hC p hp
      refine ⟨o, us, file, tf, flags, tg, inF, text, tt, hidT_get e1 (untr e1 (fun xs n z => ?_) fun z => ?_), r1, r2, r3, r4⟩
      · rw [r2] at z
        cases z
      · rw [r2] at z
        cases z
        simp at r3
    · obtain ⟨m, ob, b1, b2, b3, b4, b5, b6⟩ := hbm
      have nG : m ≠ mainGlobals := fun z => by
        obtain ⟨o, es, ep, e, hd, _⟩ := hns
        rw [z, e] at b3
        cases b3
        rw [hd] at b6
        cases b6
      have nP : m ≠ p.2.1 := fun z => by
        rw [z, hTp] at b3
        cases b3
        cases b6
      exact ⟨m, ob, b1, b2, nG, nP, hidT_get b3 (untr b3 (fun xs n z => by rw [b6] at z; cases z) fun z => by rw [b6] at z; cases z), b4, b5, b6⟩
    · obtain ⟨o, es, ep, e, hd, _⟩ := hns
      rw [z, hTp] at e
      cases e
      cases hd
  · have hB : ∀ {c : Addr} {o : HO}, (fun c : Addr => if c ∈ cs.map (·.2.1) then none else H c) c = some o → H c = some o := fun {c o} e => by
      by_cases hc : c ∈ cs.map (·.2.1)
      · rw [show (fun c : Addr => if c ∈ cs.map (·.2.1) then none else H c) c = none from if_pos hc] at e
        cases e
      · rw [show (fun c : Addr => if c ∈ cs.map (·.2.1) then none else H c) c = H c from if_neg hc] at e
        exact e
    have hS : SqL K (fun c : Addr => if c ∈ cs.map (·.2.1) then none else H c) a (ns.map V.int) := by
      cases hk : K.lookup a with
      | some o =>
        have g := KX a o hk
        rw [hobj] at g
        cases g
        refine .inr ⟨_, vs.toArray, _, hk, rfl, rfl, rfl, ?_, ?_⟩
        · rw [List.size_toArray, hints.length]
          exact small
        · simpa using rv
      | none =>
        refine .inl (.inr ⟨{ cls := .type "list", data := .seq vs.toArray }, ?_⟩)
        show (if a ∈ cs.map (·.2.1) then none else H a) = _
        rw [if_neg aT, eH]
        unfold startT
        rw [if_neg aT, if_pos ⟨rfl, hk⟩]
    refine ⟨fun c : Addr => if c ∈ cs.map (·.2.1) then none else H c, fun _ => none, cs.map (·.2.1), [.val (.list (ns.map PyData.int))], _, fun r _ => r = .val (.bool true), ⟨fun c o e => hB e, (fun c o e => by cases e), ?_, nd, fun j c cell e1 e2 => ?_⟩, .cons (slv (.lst hS (dp_script ns))) .nil, ⟨ns, rfl, hl, rfl, fun _ => rfl⟩, fun v B' H' as' r ω' _ _ _ _ hs er => ?_⟩
    · rw [List.length_map, List.length_map, List.length_map]
    · rw [List.getElem?_map] at e1
      rw [List.getElem?_map, List.getElem?_map] at e2
      cases hp : cs[j]? with
      | none =>
        rw [hp] at e1
        cases e1
      | some p =>
        rw [hp] at e1 e2
        cases e1
        cases e2
        have hm : p.2.1 ∈ cs.map (·.2.1) := List.mem_map.mpr ⟨p, List.mem_of_getElem? hp, rfl⟩
        have h1 : H p.2.1 = some (.tbl #[]) := by
          rw [eH]
          exact startT_tab hm
        have h2 : (fun c : Addr => if c ∈ cs.map (·.2.1) then none else H c) p.2.1 = none := if_pos hm
        refine ⟨rfl, by rw [h1]; simp, h2, _, _, Same.refl _, h1, rfl, #[], rfl, trivial, fun pos cv z => ?_⟩
        have z : codeAmong pos [] = some cv := z
        simp [codeAmong] at z
    · subst er
      exact dp_bl_inv (sl_val hs)
  · have more : ∀ {c : Addr}, c ∈ cs.map (·.2.1) → ∃ xs : Array Value, s2.heap.get? c = some { cls := .none, data := .fields xs } := fun {c} hc => by
      obtain ⟨xs, z⟩ := un.tbls c #[] (by rw [eH]; exact startT_tab hc)
      exact ⟨_, hok2 c _ z⟩
    have same : ∀ c o, c ∉ cs.map (·.2.1) → s1.heap.get? c = some o → s2.heap.get? c = some o := fun c o hc g => by
      cases q : H c with
      | none => exact un.keep c o g q (fun z => absurd (show c ∈ ([] : List Addr) from z) List.not_mem_nil) List.not_mem_nil
      | some u =>
        rcases track q with ⟨hm, _⟩ | ⟨_, ea, _, eo⟩
        · exact absurd hm hc
        · subst eo ea
          obtain ⟨g2, _⟩ := hok2 c _ (un.frzs c _ _ q)
          rw [hobj] at g
          cases g
          exact g2
    refine ⟨fun c o g => ?_, fun c o g => ?_⟩
    · by_cases hc : c ∈ cs.map (·.2.1)
      · obtain ⟨xs, hx⟩ := more hc
        obtain ⟨p, hp, e⟩ := List.mem_map.mp hc
        subst e
        have g0 := (hT p hp).symm.trans g
        cases g0
        exact .inr (.inl ⟨((hC p hp).tab (hT p hp)).isCodeTable, rfl, #[], xs, rfl, by rw [Array.empty_append]; exact hx⟩)
      · exact .inl (same c o hc g)
    · by_cases hc : c ∈ cs.map (·.2.1)
      · obtain ⟨xs, hx⟩ := more hc
        exact ⟨_, hx⟩
      · exact ⟨o, same c o hc g⟩
end
/-- what is known of the tables of the top's defs when the law is called -/
abbrev TabsOf (q : Program) (mg : Str → Option Value) (h : Heap) : Prop := ∀ d ∈ PyProof.Rows.recsOf q, ∃ (a : Addr) (o : Obj) (fd : FuncData) (c P : Addr), mg d.name = some (.ref a) ∧ h.get? a = some o ∧ o.data = .func fd ∧ fd.code = .ref c ∧ h.IsCode c P #[] ∧ h.TableAt c P #[]
theorem tab_use {q : Program} {mg : Str → Option Value} {h : Heap} {K : Fg} {x : Str} {f c P : Addr} {fd : FuncData} {oc : Value} {od : Option Addr} {sl : Array (Option Value)} {cc : Value} {cd : Option Addr} {vs : Array Value} {csl : Array (Option Value)} (tab : TabsOf q mg h) (KX : K.In h) (hx : ((PyProof.Rows.recsOf q).any fun d => d.name == x) = true) (hm : mg x = some (.ref f))
    (h1 : K.lookup f = some ⟨oc, od, .func fd, sl⟩) (h2 : fd.code = .ref c) (h3 : K.lookup c = some ⟨cc, cd, .fields vs, csl⟩) (h4 : vs[11]? = some (.ref P)) : h.get? P = some { cls := .none, data := .fields #[] } ∧ PySem.W.CodeHd h c P := by
  obtain ⟨d, hd, hn⟩ := List.any_eq_true.mp hx
  obtain ⟨a', o', fd', c', P', q1, q2, q3, q4, q5, q6⟩ := tab d hd
  rw [beq_iff_eq.mp hn, hm] at q1
  cases q1
  have g1 := (KX _ _ h1).symm.trans q2
  cases g1
  cases q3
  rw [h2] at q4
  cases q4
  have hC := PySem.W.CodeHd.of q5 q6
  obtain ⟨⟨oc2, vc, e1, _, e3, e4⟩, hP⟩ := q6
  have g2 := (KX _ _ h3).symm.trans e1
  cases g2
  cases e3
  rw [h4] at e4
  cases e4
  exact ⟨hP, hC⟩
/-- the end of a law's row, tables and all -/
theorem end_ofT {l : PySem.W.OpenLaw} {k : Nat} {q : Program} {loose : List Str} {XP : (Str → Option Value) → Heap → Prop} {YP : World → Heap → Prop} {d : DefRec} {K : Params → Fg} {x : Str}
    (hm : l.most = some 63) (hdf : d.params.defaults = []) (hr : Room k callerA) (hY : ∀ (w : World) (h : Heap), YP w h → (K w.params).In h)
    (F : ∀ (w : World) (mg : Str → Option Value) (fa : Addr) (h : Heap), YP w h → (K w.params).In h → h.Ns mainGlobals mg → mg d.name = some (.ref fa) → TabsOf q mg h →
      ∃ (fd : FuncData) (cs : List (Addr × Addr × Str)), (cs.map (·.2.1)).Nodup ∧ (∀ p ∈ cs, h.get? p.2.1 = some { cls := .none, data := .fields #[] }) ∧ (∀ p ∈ cs, (K w.params).lookup p.2.1 = none) ∧ (∀ p ∈ cs, PySem.W.CodeHd h p.1 p.2.1) ∧ (∀ (s : Shared) (u : Value), BindsTo s fd ⟨[u], []⟩ [(x, u)]) ∧
        ∀ base : Heap, (K w.params).In base → base.Ns mainGlobals mg → (∀ p ∈ cs, TabB base mg p.1 p.2.1) → FnG l.prog w (K w.params) mg base k fa fd [x] (spU (K w.params) (φLawT (cs.map (·.2))))) :
    PySem.W.WalkO q loose XP YP l.row.toRowW d [] (fun f vs => PySem.call f vs) := by
  refine Att.attach_call hm hdf fun w s0 s1 mg mb fa o pm cd doc a vs ns G Y _ _ _ hmg hobj hints hlen hg => ?_
  have KX := hY w _ Y
  obtain ⟨fd, cs, nd, hT, hK, hC, hb, hF⟩ := F w mg fa _ Y KX G.T.g hmg G.T.tab
  exact end_callT KX G.T.g G.T.b G.T.builtins G.T.nolimit hg hr hobj hints hlen nd hT hK hC G.T.bmain hF hb
end
section
/-! defs with any cells that may also call repr or make lambdas; loops that give up what a turn has made -/
section
variable {P : Program} {w : World} {K : Fg} {mg : Str → Option Value} {base : Heap} {x qual : Str} {st : Stmt} {f : Addr} {fd : FuncData} {N ps : List Str} {k : Nat}
theorem ok_UG {φ : List Sl → List Cell → PO1 → Prop} (F : Fun K x qual st f fd) (S : FnScope N ps (defScope st)) (hn : ∀ rs ω Q, φ rs ω Q → rs.length = ps.length)
    (hb : ∀ rs ω Q, φ rs ω Q → BodyG P w K mg base N qual st f k fun X => DS X (defBody st) (slots N rs) ω { nx := fun _ ω' => RetU ω.length Q (.val .none) ω', rt := RetU ω.length Q }) :
    FnG P w K mg base (k + 1) f fd ps (spU K φ) := by
  refine fnG_mk F S (fun vs H Q E h => ?_) fun cdv A outer s H vs Q E hgd hr h => ?_
  · obtain ⟨B, F', as, rs, ω, P', hw, hd, hφ, _⟩ := h
    rw [rsOk_len hd]
    exact hn _ _ _ hφ
  · obtain ⟨B, F', as, rs, ω, P', hw, hd, hφ, hq⟩ := h
    refine ⟨_, pss_w, hb rs ω P' hφ cdv A outer s H E hgd hr B F' H as _ hw (env_start (env_of_rs hd)) _ ⟨fun σ' H' B' as' δ' ω' e1 p1 w1 ev1 q => ?_, fun _ _ _ _ _ _ _ _ _ _ q => q.elim, fun _ _ _ _ _ _ _ _ _ _ q => q.elim, fun v B' H' as' r ω' e1 p1 w1 s1 q => ?_⟩⟩
    · exact retU_run hw.len hq e1 p1 w1 (slv .non) q
    · exact retU_run hw.len hq e1 p1 w1 s1 q
/-- a def whose code object is known -/
structure FunC (K : Fg) (x qual : Str) (st : Stmt) (f : Addr) (fd : FuncData) (c : Addr) : Prop where
  fn : Fun K x qual st f fd
  code : fd.code = .ref c
abbrev BodyC (P : Program) (w : World) (K : Fg) (mg : Str → Option Value) (base : Heap) (N : List Str) (qual : Str) (st : Stmt) (f c : Addr) (k : Nat) (p : Cx → Prop) : Prop :=
  ∀ (A : Around) (outer : List Env) (s : Shared) (H : Hp) (E : XK), A.guards = some [] → Room k (A.deeper (envOfC qual (defScope st) s.heap.objs.size f (.ref c))) → p (cxOf CX0 P w K mg base N qual (defScope st) f (.ref c) A outer s H E).nox
theorem fnG_mkC {c : Addr} {sp : Sp} (FC : FunC K x qual st f fd c) (S : FnScope N ps (defScope st)) (len : ∀ vs H Q E, sp vs H Q E → vs.length = ps.length)
    (hb : ∀ (A : Around) (outer : List Env) (s : Shared) (H : Hp) (vs : List V) (Q : VK) (E : XK), A.guards = some [] → Room k (A.deeper (envOfC qual (defScope st) s.heap.objs.size f (.ref c))) → sp vs H Q E →
      ∃ t, PSs (cxOf CX0 P w K mg base N qual (defScope st) f (.ref c) A outer s H E).nox (defBody st) t ∧ t { nx := fun _ H' => Q .non H', rt := Q } (start N vs) H) : FnG P w K mg base (k + 1) f fd ps sp := by
  obtain ⟨F, hcode⟩ := FC
  obtain ⟨oc, od, kV, doc, pm, an, cdv, ct, osl, rfl, lk, hcd⟩ := F.ex
  obtain rfl : cdv = .ref c := hcode
  refine ⟨len, fun A outer s H args us vs Q E hgd hr en hbd hvs hsp => ?_⟩
  have hlen := len vs H Q E hsp
  have inK : K.In s.heap := en.mod.kin.keeps fun a o q => (en.bs a o q).1
  have noL : s.heap.NoLimit := en.mod.nolimit.keeps fun a o q => (en.bs a o q).1
  have kinds : ∀ y ∈ ps.zip us, (defScope st).names.lookup y.1 = some .local ∨ ((defScope st).names.lookup y.1 = some .cell ∧ ((cellsFrom (s.heap.objs.size + 1) (defScope st).names []).lookup y.1).isSome = true) := by
    rintro ⟨z, v⟩ hz
    rcases S.par z (List.of_mem_zip hz).1 with q | q
    · exact Or.inl q
    · exact Or.inr ⟨q, PySem.W.cellsFrom_some _ _ _ (Or.inl q)⟩
  refine codeAny_call_function hr.depth (inK _ _ lk) rfl S.co S.gen rfl (PySem.W.codeRec_of inK hcd) (hbd _ _ _ _ ?_)
  refine wpAny_newFunctionEnv_cells S.kind kinds fun env hen s1 ic => ?_
  subst hen
  refine ⟨noL.keeps ic.toInCall.keep, codeAny_func ?_⟩
  obtain ⟨t, ht, hq⟩ := hb A outer s H vs Q E hgd (hr.deeper _) hsp
  have I0 : Inv (cxOf CX0 P w K mg base N qual (defScope st) f (.ref c) A outer s H E) [] (start N vs) H s1 := inv_start S hr.hd en hlen hvs ic
  refine wpAny_mono (ht.nox.run [] s1 (start N vs) H _ I0 hq) (fun fl s2 hs => ?_) fun _ _ hs => hs
  have done : ∀ {σ2 : L2.St} {H2 : Hp} {v : V} {u : Value}, Inv (cxOf CX0 P w K mg base N qual (defScope st) f (.ref c) A outer s H E) [] σ2 H2 s2 → RelV v u → Q v H2 → CE outer P w H s Q u s2 := fun {σ2 H2 v u} J rv q => ⟨v, H2, J.os, J.bare, J.base, J.hok, rv, q⟩
  match fl, hs with
  | .ret u, ⟨v, σ2, H2, J, rv, q⟩ => exact done J rv q
  | .next, ⟨σ2, H2, J, q⟩ => exact done (v := .non) (u := .none) J rfl q
  | .brk, ⟨_, _, _, q⟩ => exact q.elim
  | .cont, ⟨_, _, _, q⟩ => exact q.elim
theorem ok_UC {c : Addr} {φ : List Sl → List Cell → PO1 → Prop} (F : FunC K x qual st f fd c) (S : FnScope N ps (defScope st)) (hn : ∀ rs ω Q, φ rs ω Q → rs.length = ps.length)
    (hb : ∀ rs ω Q, φ rs ω Q → BodyC P w K mg base N qual st f c k fun X => DS X (defBody st) (slots N rs) ω { nx := fun _ ω' => RetU ω.length Q (.val .none) ω', rt := RetU ω.length Q }) :
    FnG P w K mg base (k + 1) f fd ps (spU K φ) := by
  refine fnG_mkC F S (fun vs H Q E h => ?_) fun A outer s H vs Q E hgd hr h => ?_
  · obtain ⟨B, F', as, rs, ω, P', hw, hd, hφ, _⟩ := h
    rw [rsOk_len hd]
    exact hn _ _ _ hφ
  · obtain ⟨B, F', as, rs, ω, P', hw, hd, hφ, hq⟩ := h
    refine ⟨_, pss_w, hb rs ω P' hφ A outer s H E hgd hr B F' H as _ hw (env_start (env_of_rs hd)) _ ⟨fun σ' H' B' as' δ' ω' e1 p1 w1 ev1 q => ?_, fun _ _ _ _ _ _ _ _ _ _ q => q.elim, fun _ _ _ _ _ _ _ _ _ _ q => q.elim, fun v B' H' as' r ω' e1 p1 w1 s1 q => ?_⟩⟩
    · exact retU_run hw.len hq e1 p1 w1 (slv .non) q
    · exact retU_run hw.len hq e1 p1 w1 s1 q
end
section
variable {X : Cx} {e : Expr} {es : List Expr} {δ : List Sl} {ω : List Cell} {P : PO1} {pos : Pos}
theorem de_callUG {x : Str} {p : Pos} {j : Nat} {φ : List Sl → List Cell → PO1 → Prop} (C : HasG X.prog X.w X.K X.mg X.base j x (spU X.K φ)) (hgd : X.A.guards = some []) (hr : Room j X.A) (hg : Gl X x)
    (h : DA X (e :: es) δ ω fun rs ω1 => ∃ (ks : List Nat) (rs' : List Sl), rs = rs'.map (ren ks ω1.length) ∧ (∀ i ∈ ks, i < ω1.length) ∧ ks.Nodup ∧ ownsLt ks.length rs' = true ∧
      φ rs' (pkC ω1 ks) fun r ω2 => P (ren ks ω1.length r) (putC ω1 ks ω2 ++ ω2.drop ks.length))
    (hdb : (x == ("__debug__" : Str)) = false := by decide) (he : starEach (e :: es) X.env = (false, eval e X.env) :: starEach es X.env := by rfl) (hpl : (backTo pos (starEach es X.env)).any (·.1) = false := by rfl) : DE X (.Call (.Name x p) (e :: es) [] pos) δ ω P := fun B F H as σ w ev Q o => by
  obtain ⟨f, fd, ps, hf, hm, hk, hb⟩ := C.ex
  refine ⟨fun σ H Q => wA X (e :: es) σ H fun vs H1 => spU X.K φ vs H1 Q E0, ⟨fun pins s σ H Q I hh => ?_⟩, ?_⟩
  · refine wpAny_Call_Name_kw (ld_glob I hg hm ?_ hdb)
    refine PySem.W.callWith_K (h₀ := X.base) I.ok.mod.kin hk ?_ he hpl
    exact thn (pa_w.run pos pins s σ H _ I hh) fun us s1 ⟨vs, H1, I1, r, q⟩ => ⟨I1.kIn, run_fnG hf hgd hr hb I1 r q⟩
  refine h B F H as σ w ev _ fun vs B1 H1 as1 rs ω1 e1 p1 w1 s1 ⟨ks, rs', er, hks, hnd, hown, hφ⟩ => ?_
  subst er
  have hka : ∀ i ∈ ks, i < as1.length := fun i hi => by rw [w1.len]; exact hks i hi
  obtain ⟨F', wF, back, _⟩ := w1.frameL hks hnd
  have hlC : (pkC ω1 ks).length = ks.length := by unfold pkC; rw [List.length_map]
  rw [← w1.len] at s1
  refine ⟨B1, F', pkA as1 ks, rs', pkC ω1 ks, _, wF, rs_pick hka (ownsLt_mem hown) s1, hφ, fun v B' H' as' r ω' sb pp w' hlv hs hp => ?_⟩
  rw [hlC] at hlv
  have w2 := back B' H' as' ω' sb pp w' hlv
  have s2 := sl_unpick hka pp hs
  rw [w1.len] at s2
  exact o v B' H' _ _ _ (e1.trans sb) (p1.trans (List.prefix_append _ _)) w2 s2 hp
end
/-! ### a loop whose turns give up their new cells -/
def cutS (n : Nat) : Sl → Sl
  | .own k => if k < n then .own k else .no
  | s => s
theorem Wd.cut {K : Fg} {B F H : Hp} {as as' : List Addr} {ω' : List Cell} (p : as <+: as') (w : Wd K B F H as' ω') : Wd K B F H as (ω'.take as.length) := by
  obtain ⟨t, ht⟩ := p
  have hn : as.length ≤ ω'.length := by rw [← w.len, ← ht, List.length_append]; omega
  have hnA : as.length ≤ as'.length := by rw [w.len]; exact hn
  have htk : as'.take as.length = as := by rw [← ht, List.take_left]
  have w2 := w.pick (ks := List.range as.length) (fun i hi => Nat.lt_of_lt_of_le (List.mem_range.mp hi) hn) List.nodup_range
  rw [pk_range hn, pkA_range hnA, htk] at w2
  exact w2
theorem envOk_cut {K : Fg} {B : Hp} {as as' : List Addr} (p : as <+: as') : ∀ {σ : List (Option V)} {δ : List Sl}, EnvOk K B as' σ δ → EnvOk K B as σ (δ.map (cutS as.length))
  | _, _, .nil => .nil
  | o :: _, s :: _, .cons h q => by
    refine .cons ?_ (envOk_cut p q)
    cases s with
    | no => exact h
    | val d => exact h
    | kn r => exact h
    | own k =>
      by_cases hk : k < as.length
      · rw [show cutS as.length (.own k) = .own k from if_pos hk]
        obtain ⟨a, e1, e2⟩ := h
        obtain ⟨t, ht⟩ := p
        refine ⟨a, e1, ?_⟩
        rw [← ht, List.getElem?_append_left hk] at e2
        exact e2
      · rw [show cutS as.length (.own k) = .no from if_neg hk]
        trivial
section
variable {X : Cx} {tg iter : Expr} {body : List Stmt} {δ : List Sl} {ω : List Cell} {k : Kd} {pos : Pos}
theorem d1_forF (hp : PassesOwn (model X.prog X.w) X.A X.env X.xe) (hc : X.calm = true)
    (h : DI X tg iter δ ω fun its ω1 => ∃ Iv : Nat → List Sl → List Cell → Prop, Iv 0 δ ω1 ∧
      (∀ i d δ' ω', its[i]? = some d → Iv i δ' ω' → DG X (List.range δ'.length) tg d δ' fun δ2 => DS X body δ2 ω' { nx := fun δ3 ω3 => Iv (i + 1) (δ3.map (cutS ω1.length)) (ω3.take ω1.length), ct := fun δ3 ω3 => Iv (i + 1) (δ3.map (cutS ω1.length)) (ω3.take ω1.length), bk := k.nx, rt := k.rt }) ∧ ∀ δ' ω', Iv its.length δ' ω' → k.nx δ' ω')
    (hs : ∀ x, foldedSetIterable iter X.env x = pure x := by intro _; rfl) : D1 X (.For tg iter body [] pos) δ ω k := fun B F H as σ w ev E o => by
  refine ⟨_, ps_for hp hc pi_w pg_w pss_w hs, ?_⟩
  refine h B F H as σ w ev _ fun J its B1 H1 as1 ω1 e1 p1 w1 hit ⟨Iv, h0, ht, hd⟩ => ?_
  have hl1 : as1.length = ω1.length := w1.len
  refine ⟨fun i m σ' H' => m = its.length - i ∧ i ≤ its.length ∧ ∃ B' δ' ω', Same B1 B' ∧ Wd X.K B' F H' as1 ω' ∧ EnvOk X.K B' as1 σ' δ' ∧ Iv i δ' ω',
    ⟨its.length, by omega, Nat.zero_le _, B1, δ, ω1, Same.refl _, w1, envOk_up e1 p1 ev, h0⟩, fun i m σ' H' hW => ?_⟩
  obtain ⟨rfl, hi, B', δ', ω', e2, w2, ev2, hI⟩ := hW
  by_cases hlt : i < its.length
  · obtain ⟨hgo, hy⟩ := (hit B' F H' as1 ω' e2 w2).1 i its[i] (List.getElem?_eq_getElem hlt)
    refine .inr ⟨hgo, fun σ3 H3 => ∃ B' δ' ω', Same B1 B' ∧ Wd X.K B' F H3 as1 ω' ∧ EnvOk X.K B' as1 σ3 δ' ∧ Iv (i + 1) δ' ω', fun σ3 H3 q => ⟨its.length - (i + 1), by omega, rfl, hlt, q⟩, fun x H3 q => ?_⟩
    obtain ⟨B2, e3, w3, d3⟩ := hy x H3 q
    have again : ∀ {σ5 H5 B5 as5 δ5 ω5}, Same B2 B5 → as1 <+: as5 → Wd X.K B5 F H5 as5 ω5 → EnvOk X.K B5 as5 σ5 δ5 → Iv (i + 1) (δ5.map (cutS ω1.length)) (ω5.take ω1.length) → ∃ B' δ' ω', Same B1 B' ∧ Wd X.K B' F H5 as1 ω' ∧ EnvOk X.K B' as1 σ5 δ' ∧ Iv (i + 1) δ' ω' := fun {σ5 H5 B5 as5 δ5 ω5} e5 p5 w5 ev5 q5 => by
      have w6 := w5.cut p5
      have ev6 := envOk_cut p5 ev5
      rw [hl1] at w6 ev6
      exact ⟨B5, _, _, (e2.trans e3).trans e5, w6, ev6, q5⟩
    refine ht i its[i] δ' ω' (List.getElem?_eq_getElem hlt) hI B2 H3 as1 σ' x w3.b (envOk_up e3 (List.prefix_refl _) ev2) d3 _ fun σ4 δ4 ev4 _ _ hb => ?_
    refine hb B2 F H3 as1 σ4 w3 ev4 _ ⟨fun σ5 H5 B5 as5 δ5 ω5 e5 p5 w5 ev5 q5 => again e5 p5 w5 ev5 q5, ?_, fun σ5 H5 B5 as5 δ5 ω5 e5 p5 w5 ev5 q5 => again e5 p5 w5 ev5 q5, ?_⟩
    · exact o.nx.up (((e1.trans e2).trans e3)) p1
    · exact o.rt.up (((e1.trans e2).trans e3)) p1
  · have ei : i = its.length := by omega
    subst ei
    exact .inl ⟨(hit B' F H' as1 ω' e2 w2).2, (o.nx.up (e1.trans e2) p1).here w2 ev2 (hd δ' ω' hI)⟩
end
end
section
/-! xs.pop() of lists that are owned or known by their address; slices of owned lists; calls that raise nothing after all -/
theorem dpAll_last {K : Fg} {B : Hp} {ys : List V} {ds : List D} {d : D} (h : DpAll K B ys (ds ++ [d])) : ∃ y, ys[ys.length - 1]? = some y ∧ Dp K B y d ∧ DpAll K B ys.dropLast ds := by
  have hl := dpAll_len h
  rw [List.length_append, List.length_singleton] at hl
  obtain ⟨y, h1, h2⟩ := dpAll_at (i := ds.length) h (by rw [List.getElem?_append_right (Nat.le_refl _), Nat.sub_self]; rfl)
  have h3 := dpAll_take ds.length h
  rw [List.take_left] at h3
  rw [List.dropLast_eq_take, hl, Nat.add_sub_cancel]
  exact ⟨y, h1, h2, h3⟩
section
variable {X : Cx} {xs e : Expr} {δ : List Sl} {ω : List Cell} {P : PO1} {apos cpos pos : Pos}
theorem de_popA (h : DE X xs δ ω fun r ω1 => ∃ (x : Addr) (kx : Nat) (ds : List D) (d : D), r = .kn (refK x) ∧ ω1[kx]? = some (lstA x (ds ++ [d])) ∧ P (.val d) (ω1.set kx (lstA x ds)))
    (hbase : attributeBase xs "pop" X.env (eval xs X.env) = eval xs X.env := by rfl) (hline : (apos.endLine == cpos.line) = true := by rfl) : DE X (.Call (.Attribute xs "pop" apos) [] [] cpos) δ ω P := fun B F H as σ w ev Q oo => by
  refine ⟨_, pe_bm0 PySem.F.plainAttrs_list PySem.F.slot_list_pop PySem.F.type_list_pop mt_pop pe_w hbase hline, ?_⟩
  refine h B F H as σ w ev _ fun v B1 H1 as1 r ω1 e1 p1 w1 s1 ⟨x, kx, ds, d, er, hk, hp⟩ => ?_
  subst er
  obtain rfl := slk_ref s1
  obtain ⟨ha, hb, ys, h3, h4⟩ := cell_lstA w1 hk
  obtain ⟨y, h5, h6, h7⟩ := dpAll_last h4
  refine ⟨.inl ⟨rfl, ys, SqL.of h3⟩, x, ys, y, rfl, rfl, h3, h5, ?_⟩
  have w3 := w1.write (c' := lstA x ds) (o := .lst ys.dropLast) ha hk hb ⟨hb, B1, _, Same.refl _, upd_same, rfl, _, rfl, h7⟩
  exact oo _ B1 _ as1 _ _ e1 p1 w3 (slv h6) hp
theorem de_popL (h : DE X xs δ ω fun r ω1 => ∃ (kx : Nat) (ds : List D) (d : D), r = .own kx ∧ ω1[kx]? = some (.lst (ds ++ [d])) ∧ P (.val d) (ω1.set kx (.lst ds)))
    (hbase : attributeBase xs "pop" X.env (eval xs X.env) = eval xs X.env := by rfl) (hline : (apos.endLine == cpos.line) = true := by rfl) : DE X (.Call (.Attribute xs "pop" apos) [] [] cpos) δ ω P := fun B F H as σ w ev Q oo => by
  refine ⟨_, pe_bm0 PySem.F.plainAttrs_list PySem.F.slot_list_pop PySem.F.type_list_pop mt_pop pe_w hbase hline, ?_⟩
  refine h B F H as σ w ev _ fun v B1 H1 as1 r ω1 e1 p1 w1 s1 ⟨kx, ds, d, er, hk, hp⟩ => ?_
  subst er
  obtain ⟨a, rfl, ha⟩ := sl_own s1
  obtain ⟨hb, ys, h3, h4⟩ := w1.cellL ha hk
  obtain ⟨y, h5, h6, h7⟩ := dpAll_last h4
  refine ⟨.inl ⟨rfl, ys, SqL.of h3⟩, a, ys, y, rfl, rfl, h3, h5, ?_⟩
  have w3 := w1.write (c' := .lst ds) (o := .lst ys.dropLast) ha hk hb ⟨hb, _, upd_same, h7⟩
  exact oo _ B1 _ as1 _ _ e1 p1 w3 (slv h6) hp
/-- xs[i:j] of an owned list: a new one -/
theorem de_sliceLO {lo hi : Option Expr} {p2 : Pos} (h : DE X e δ ω fun x ω1 => ∃ kx, x = .own kx ∧ DO X lo δ ω1 fun i ω2 => DO X hi δ ω2 fun j ω3 => ∃ ds, ω3[kx]? = some (.lst ds) ∧ P (.own ω3.length) (ω3 ++ [.lst (cutD ds i j)])) : DE X (.Subscript e (.Slice lo hi none p2) pos) δ ω P := fun B F H as σ w ev Q o => by
  refine ⟨_, pe_slice sl_list pe_w po_w po_w, ?_⟩
  refine h B F H as σ w ev _ fun x B1 H1 as1 rx ω1 e1 p1 w1 s1 ⟨kx, ex, q1⟩ => ?_
  subst ex
  obtain ⟨a, rfl, ha⟩ := sl_own s1
  refine do_run q1 w1 (envOk_up e1 p1 ev) _ fun i B2 H2 as2 ω2 e2 p2 w2 q2 => ?_
  refine do_run q2 w2 (envOk_up (e1.trans e2) (p1.trans p2) ev) _ fun j B3 H3 as3 ω3 e3 p3 w3 ⟨ds, hk, q3⟩ => ?_
  obtain ⟨hb, ys, h3, h4⟩ := w3.cellL (pre_get (p2.trans p3) ha) hk
  have o3 := o.up ((e1.trans e2).trans e3) ((p1.trans p2).trans p3)
  exact ⟨a, ys, rfl, SqL.of h3, fun p hp => o3.own w3 hp (dp_cut h4 i j) q3⟩
theorem DE.ofX (h : DEx X e δ ω P fun _ _ _ _ => False) : DE X e δ ω P := fun B F H as σ w ev Q o => h B F H as σ w ev Q o ⟨_, takes0, fun _ _ _ _ _ _ _ _ _ _ _ _ _ _ z => z.elim⟩
end
end
section
/-! a method whose first row is super().m(..) -/
abbrev supEnv (qual : Str) (sc : Scope) (L f cda cc : Addr) : Env := PySem.W.ksEnv qual sc L f (.ref cda) cc
def supCx (P : Program) (w : World) (K : Fg) (mg : Str → Option Value) (base : Heap) (N : List Str) (qual : Str) (sc : Scope) (f cda cc : Addr) (A : Around) (outer : List Env) (s : Shared) (H : Hp) (E : XK) : Cx where
  prog := P
  w := w
  K := K
  mg := mg
  base := base
  A := A.deeper (supEnv qual sc s.heap.objs.size f cda cc)
  N := N
  s_0 := s
  H_0 := H
  env := supEnv qual sc s.heap.objs.size f cda cc
  outer := outer
  stack := supEnv qual sc s.heap.objs.size f cda cc :: outer
  ex := []
  fn := fun _ => false
  calm := true
  pn := []
  xe := fun e s' => wpAny (model P w) (A.deeper (supEnv qual sc s.heap.objs.size f cda cc)) (leaving (supEnv qual sc s.heap.objs.size f cda cc) e) (fun _ s'' => L2.CX P w outer H s E e s'') (fun e' s'' => L2.CX P w outer H s E e' s'') s'
/-- the names of such a def -/
structure SupScope (N ps : List Str) (sc : Scope) : Prop where
  kind : sc.kind = .function
  co : sc.isCoroutine = false
  gen : sc.isGenerator = false
  nd : N.Nodup
  pre : N.take ps.length = ps
  par : ∀ y ∈ ps, sc.names.lookup y = some .local
  nocell : ∀ y ∈ sc.names, y.2 ≠ .cell
  free : ∀ y ∈ sc.names, y.2 = .free → y.1 = ("__class__" : Str)
  sup : sc.names.lookup ("super" : Str) = some .globalImplicit
  cls : sc.names.lookup ("__class__" : Str) = some .free
structure FunS (P : Program) (K : Fg) (x qual : Str) (st : Stmt) (f : Addr) (fd : FuncData) (cda cc D : Addr) (a0 : Str) : Prop where
  ex : ∃ (oc : Value) (od : Option Addr) (dV kV doc pm : Value) (an : Option Addr) (ct : Value) (osl : Array (Option Value)),
    fd = PySem.W.ksFn x qual (defArgs st) (defBody st) (defScope st) dV kV doc pm an (.ref cda) ct cc ∧ K.lookup f = some ⟨oc, od, .func fd, osl⟩ ∧ PySem.W.codeIn K (.ref cda) qual = true
  arg : ∃ ar : Arg, ((defArgs st).posonlyargs ++ (defArgs st).args).head? = some ar ∧ ar.arg = a0
  code : ∃ (ccl : Value) (cdd : Option Addr) (vs : Array Value) (ccs : Array (Option Value)) (file : Str) (tf : Tok), K.lookup cda = some ⟨ccl, cdd, .fields vs, ccs⟩ ∧ vs[2]? = some (.str file tf) ∧ ((P.main.file : Str) == file) = true
  cell : ∃ (cl : Value) (cld : Option Addr) (csl : Array (Option Value)), K.lookup cc = some ⟨cl, cld, .cell (some (.ref D)), csl⟩
  dcl : ∃ cdD : ClassData, PySem.W.clsIn K D = some cdD
  nos : PySem.W.nsIn K mainGlobals "super" = some none
  top : (P.main.scope.names.lookup ("super" : Str)).isSome = false
  opq : PySem.W.nsIn K cStatics "thirdparty.any" = some none
theorem zip_rev {u : Value} {y : Str} : ∀ {ps : List Str} {us : List Value} {i : Nat}, ps.Nodup → ps[i]? = some y → us[i]? = some u → (ps.zip us).reverse.lookup y = some u
  | [], _, _, _, h, _ => by simp at h
  | _ :: _, [], _, _, _, h => by simp at h
  | p :: ps, v :: us, i, nd, h1, h2 => by
    have n1 := List.nodup_cons.mp nd
    rw [List.zip_cons_cons, List.reverse_cons, List.lookup_append]
    cases i with
    | zero =>
      simp at h1 h2
      subst h1 h2
      have hn : (ps.zip us).reverse.lookup p = none := by
        rw [List.lookup_eq_none_iff]
        rintro ⟨a, b⟩ hm
        have hm := List.mem_reverse.mp hm
        have := (List.of_mem_zip hm).1
        exact bne_iff_ne.mpr fun z => n1.1 (z ▸ this)
      rw [hn]
      simp
    | succ i =>
      simp at h1 h2
      rw [zip_rev n1.2 h1 h2]
      rfl
section
variable {P : Program} {w : World} {K : Fg} {mg : Str → Option Value} {base : Heap} {x qual : Str} {st : Stmt} {f cda cc D : Addr} {fd : FuncData} {N ps : List Str} {k : Nat} {a0 : Str}
theorem inv_startS {A : Around} {outer : List Env} {s : Shared} {H : Hp} {E : XK} {us : List Value} {vs : List V} {sc : Scope} {h1 : Heap} {tk : Nat} {cl : Value} {cld : Option Addr} {csl : Array (Option Value)} (S : SupScope N ps sc) (hcell : K.lookup cc = some ⟨cl, cld, .cell (some (.ref D)), csl⟩) (hd : A.handled = none) (e0 : Env0 P w K mg base A outer s H) (hl : vs.length = ps.length) (r : Vals vs us)
    (hns : h1.Ns s.heap.objs.size fun y => (ps.zip us).reverse.lookup y) (kp : ∀ b o, s.heap.get? b = some o → h1.get? b = some o) : Inv (supCx P w K mg base N qual sc f cda cc A outer s H E) [] (start N vs) H { s with heap := h1, toks := tk } := by
  have hpl : ps.length ≤ N.length := by
    have := congrArg List.length S.pre
    rw [List.length_take] at this
    omega
  have noA : ∀ b : Addr, b ∉ (supCx P w K mg base N qual sc f cda cc A outer s H E).ex := fun b z => absurd (show b ∈ ([] : List Addr) from z) (by simp)
  have hB := e0.mod.kin _ _ hcell
  have hS := e0.bs _ _ hB
  have one : ∀ {y c}, ([(("__class__" : Str), cc)] : List (Str × Addr)).lookup y = some c → y = "__class__" ∧ c = cc := fun {y c} e => by
    rw [List.lookup_cons] at e
    cases hb : y == ("__class__" : Str) with
    | true =>
      rw [hb] at e
      cases e
      exact ⟨eq_of_beq hb, rfl⟩
    | false =>
      rw [hb] at e
      cases e
  have icell : h1.IsCell cc (some (.ref D)) := ⟨_, kp _ _ hS.1, rfl⟩
  refine ⟨⟨e0.mod, S.kind, rfl, rfl, Nat.le_refl _, fun y z c e1 e2 => (one e1).1.trans (one e2).1.symm, fun y hy => ?_, fun y c z _ => ?_, fun _ => hd, Around.frames_deeper e0.frames, .inr ⟨rfl, rfl⟩, fun b z => absurd z (noA b), e0.bs, e0.bsz, fun b _ _ => noA b, fun b z => absurd z (noA b), e0.funs, e0.frf⟩,
    rfl, e0.bare, Un.kept kp, ⟨_, hns, fun i y v h1 h2 h3 => ?_⟩, fun y c e => ?_, e0.hok.fresh (Nat.le_refl _), fun y c e => ?_, fun q hq => absurd (show q ∈ ([] : List (Addr × Obj)) ++ [] from hq) (by simp), e0.hok.kept kp, ?_⟩
  · have hy : sc.names.lookup y = some .cell ∨ sc.names.lookup y = some .free := hy
    rcases hy with hy | hy
    · exact absurd rfl (S.nocell _ (PySem.mem_of_lookup hy))
    · have e := S.free _ (PySem.mem_of_lookup hy) rfl
      have e : y = "__class__" := e
      subst e
      exact ⟨cc, rfl⟩
  · have z : false = true := z
    cases z
  · have hi : i < vs.length := by
      unfold L2.start at h2
      by_cases hi : i < vs.length
      · exact hi
      · rw [List.getElem?_append_right (by simpa using hi)] at h2
        rw [List.getElem?_replicate] at h2
        split at h2 <;> cases h2
    have ha : vs[i]? = some v := by
      unfold L2.start at h2
      rw [List.getElem?_append_left (by simpa using hi), List.getElem?_map] at h2
      cases e : vs[i]? with
      | none => rw [e] at h2; cases h2
      | some a => rw [e] at h2; cases h2; rfl
    obtain ⟨u, hu, rv⟩ := r.get ha
    have hp : ps[i]? = some y := by
      rw [← S.pre, List.getElem?_take_of_lt (by omega)]; exact h1
    have ndP : ps.Nodup := by rw [← S.pre]; exact S.nd.sublist (List.take_sublist _ _)
    exact ⟨u, rv, .inl ⟨S.par y (List.mem_of_getElem? hp), zip_rev ndP hp hu⟩⟩
  · rw [(one e).2]
    exact ⟨_, icell⟩
  · rw [(one e).2]
    exact hS.2
  · unfold L2.start
    show _ = N.length
    rw [List.length_append, List.length_map, List.length_replicate]
    omega
theorem fnS_mk {sp sp0 : Sp} {j : Nat} {g : Addr} {p0 p1 apos pos epos : Pos} {m : Str} {e : Expr} {es : List Expr} {rest : List Stmt} {pl : Sem Bool} (F : FunS P K x qual st f fd cda cc D a0) (S : SupScope N ps (defScope st)) (hp0 : ps[0]? = some a0) (hbody : defBody st = .Expr (.Call (.Attribute (.Call (.Name "super" p0) [] [] p1) m apos) (e :: es) [] pos) epos :: rest) (hm1 : (m == ("__class__" : Str)) = false)
    (F0 : FnR P w K mg base (L2.CX P w) j g sp0) (hjk : j ≤ k) (hfi : PySem.W.fnIn K g = true) (htg : PySem.W.typeIn K (.ref g) = some (.type "function"))
    (hst : ∀ env : Env, starEach (e :: es) env = (false, eval e env) :: starEach es env) (hpl : ∀ env : Env, (backTo pos (starEach es env)).any (·.1) = false)
    (het : ∀ env : Env, eval (.Call (.Attribute (.Call (.Name "super" p0) [] [] p1) m apos) (e :: es) [] pos) env = (do
      let ov ← attributeBase (.Call (.Name "super" p0) [] [] p1) m env (eval (.Call (.Name "super" p0) [] [] p1) env)
      standAt apos.atName
      let (f, first) ← holding [ov] (getMethod ov m pl)
      callWith pos f first (backTo pos (starEach (e :: es) env)) []))
    (hint : ∀ L : Addr, interactive (supEnv qual (defScope st) L f cda cc) = false ∧ swapsWith (.Call (.Attribute (.Call (.Name "super" p0) [] [] p1) m apos) (e :: es) [] pos) none epos.line (supEnv qual (defScope st) L f cda cc) = pure false)
    (len : ∀ vs H Q E, sp vs H Q E → vs.length = ps.length)
    (hb : ∀ (A : Around) (outer : List Env) (s : Shared) (H : Hp) (vs : List V) (Q : VK) (E : XK), Room k (A.deeper (supEnv qual (defScope st) s.heap.objs.size f cda cc)) → sp vs H Q E →
      ∃ (y C dx : Addr) (fs : List (Str × V)), vs[0]? = some (.ref y) ∧ H y = some (.ins C dx fs) ∧ PySem.W.mroIn K C (.ref D) = some true ∧ PySem.W.ks_superIn K C D m = some (some (.ref g)) ∧
        ∃ t, PA (supCx P w K mg base N qual (defScope st) f cda cc A outer s H E) (e :: es) t ∧ t (start N vs) H fun ws H1 => sp0 (.ref y :: ws) H1 (fun _ H2 => ∃ tr, PSs (supCx P w K mg base N qual (defScope st) f cda cc A outer s H E) rest tr ∧ tr { nx := fun _ H' => Q .non H', rt := Q } (start N vs) H2) E0) :
    FnOk P w K mg base (L2.CX P w) (k + 1) f fd ps sp := by
  obtain ⟨⟨oc, od, dV, kV, doc, pm, an, ct, osl, rfl, lk, hcd⟩, ⟨ar, har, ear⟩, ⟨ccl, cdd, cvs, ccs, file, tf, hcode, hvs, hfile⟩, ⟨cl, cld, csl, hcell⟩, ⟨cdD, hD⟩, hnos, htop, hopq⟩ := F
  refine ⟨len, fun A outer s H args us vs Q E hr en hbd hvs2 hsp => ?_⟩
  have hlen := len vs H Q E hsp
  have inK : K.In s.heap := en.mod.kin.keeps fun a o q => (en.bs a o q).1
  have noL : s.heap.NoLimit := en.mod.nolimit.keeps fun a o q => (en.bs a o q).1
  have hloc : ∀ y ∈ ps.zip us, (defScope st).names.lookup y.1 = some .local := by
    rintro ⟨z, v⟩ hz
    exact S.par z (List.of_mem_zip hz).1
  obtain ⟨y, C, dx, fs, hv0, hy, hmro, hsup, t, ht, hq⟩ := hb A outer s H vs Q E (hr.deeper _) hsp
  refine PySem.ks_codeAny_call_defAt (fd := PySem.W.ksFn x qual (defArgs st) (defBody st) (defScope st) dV kV doc pm an (.ref cda) ct cc) (body := defBody st) (binds := ps.zip us) hr.depth (inK _ _ lk) rfl noL (PySem.W.codeRec_of inK hcd) rfl hbd S.nocell hloc (fun h₀ hns kp => ?_) S.co S.gen S.kind
  have I0 : Inv (supCx P w K mg base N qual (defScope st) f cda cc A outer s H E) [] (start N vs) H { s with heap := h₀, toks := s.toks + (ps.zip us).length } := inv_startS S hcell hr.hd en hlen hvs2 hns kp
  obtain ⟨hi1, hi2⟩ := hint s.heap.objs.size
  rw [hbody]
  show _root_.PySem.wpAt (model P w) (A.deeper (supEnv qual (defScope st) s.heap.objs.size f cda cc)) (.func _ (supEnv qual (defScope st) s.heap.objs.size f cda cc)) (execs _ (supEnv qual (defScope st) s.heap.objs.size f cda cc)) _ (supCx P w K mg base N qual (defScope st) f cda cc A outer s H E).xe _
  refine PySem.ks_wpAt_execs_cons (PySem.ks_wpAt_Expr_any (PySem.ks_wpAt_MethodCall (pl := pl) ?_ (het _)) hi1 hi2)
  have hX := I0.kIn
  obtain ⟨mA, O, _⟩ := ins_get I0.hok hy
  obtain ⟨odd, J, _⟩ := O.look
  obtain ⟨oD, hD1, hD2⟩ : ∃ oD, h₀.get? D = some oD ∧ oD.data = .cls cdD := by
    unfold PySem.W.clsIn at hD
    split at hD
    · rename_i c d cd' sl ho
      cases hD
      exact ⟨_, hX _ _ ho, rfl⟩
    · cases hD
  obtain ⟨u0, hu0, ru0⟩ := hvs2.get hv0
  cases (show u0 = Value.ref y from ru0)
  have ndP : ps.Nodup := by rw [← S.pre]; exact S.nd.sublist (List.take_sublist _ _)
  refine PySem.ks_wpAt_super_base (env := supEnv qual (defScope st) s.heap.objs.size f cda cc) S.sup S.cls hm1 rfl (hX _ _ lk) rfl har rfl (hX _ _ hcode) rfl hvs hfile htop ?_
  obtain ⟨_, hglob, ⟨mb, hbn, hbt⟩, _⟩ := I0.mod
  refine PySem.W.ks_loadName_global S.kind S.sup (Calls.loadGlobal_builtin (env := supEnv qual (defScope st) s.heap.objs.size f cda cc) (hglob.keeps I0.bk) (PySem.W.mg_none_of I0.mod.kin hglob hnos) (hbn.keeps I0.bk) ((hbt _ (by decide +kernel)).trans (by first | boot_by_name | rfl | kernel_rfl)) ⟨rfl, ?_⟩)
  refine wpAny_loadName_free S.kind S.cls rfl ⟨_, hX _ _ hcell, rfl⟩ ?_
  refine wpAny_loadName_local S.kind (S.par ar.arg (by rw [ear]; exact List.mem_of_getElem? hp0)) hns (v := .ref y) (by rw [ear]; exact zip_rev ndP hp0 hu0) ?_
  refine PySem.ks_wpAny_isType_cls hD1 hD2 ⟨rfl, ?_⟩
  refine PySem.ks_wpAny_call_super hD1 hD2 J.at_ J.cls (fun c e => ?_) (PySem.W.looks_mroIn hX hmro) (fun h' eso kso => ?_)
  · have := J.no
    unfold PySem.W.notCls at this
    rw [e] at this
    exact Bool.noConfusion this
  have I1 := ClX.pin_new (o := PySem.W.ks_superObj D y C) (h' := h') (a := h₀.objs.size) (t' := s.toks + (ps.zip us).length) I0 (fun b o z => kso b o z) (Nat.le_refl _) eso (fun v z => nomatch z)
  have hX1 := I1.kIn
  obtain ⟨mA1, O1, _⟩ := ins_get I1.hok hy
  obtain ⟨odd1, J1, _⟩ := O1.look
  have hclsC : ∃ cd, PySem.W.clsIn K C = some cd := by
    cases hc : PySem.W.clsIn K C with
    | none => unfold PySem.W.ks_superIn at hsup; rw [hc] at hsup; cases hsup
    | some cd => exact ⟨cd, rfl⟩
  obtain ⟨cdC, hcC⟩ := hclsC
  have hsup2 : PySem.W.alongIn K m ((cdC.mro.dropWhile (· != .ref D)).drop 1) = some (some (.ref g)) := by
    unfold PySem.W.ks_superIn at hsup
    rw [hcC] at hsup
    exact hsup
  obtain ⟨og, hog, hogc⟩ : ∃ of, h'.get? g = some of ∧ of.cls = .type "function" := by
    have ht' : (K.lookup g).map (·.cls) = some (.type "function") := htg
    cases z : K.lookup g with
    | none => rw [z] at ht'; cases ht'
    | some of => rw [z] at ht'; exact ⟨of, hX1 _ _ z, Option.some.inj ht'⟩
  refine PySem.ks_wpAny_getMethod_super eso (PySem.W.looks_opaque hX1 hopq) (l₀ := cdC.mro) ?_ rfl hX1 hsup2 hog hogc (PySem.W.ks_ne hX1 J1 hcC) hm1 ?_
  · exact fun A Q E s k q => wpAny_bind ((PySem.W.looks_clsIn hX1 hcC) A _ E s k (wpAny_pure q))
  have I2 := ClX.met_new (g := g) (C := y) I1
  refine ClX.callwith_cm I2 (ClX.base_none I1 (Nat.le_refl _)) hfi (thn (ht.run pos _ _ _ H _ I2 hq) fun ws s3 ⟨vs3, H3, I3, rv3, q3⟩ => ⟨⟨ClX.pin_at I3, I3.kIn⟩, ?_⟩) (hst _) (hpl _)
  refine thn (ClX.run_cm (k := j) F0 ((hr.deeper _).mono hjk) passX0 I3 rv3 q3) fun u s4 hz => ?_
  obtain ⟨z, H4, I4, rz, tr, htr, hqr⟩ := ClX.unpinE (pins := []) hz
  refine PySem.wpAt_of_wpAny ?_
  refine wpAny_mono (htr.run [] s4 (start N vs) H4 _ I4 hqr) (fun fl s5 hs => ?_) fun e s5 hs => hs
  have done : ∀ {σ2 : L2.St} {H2 : Hp} {v : V} {u : Value}, Inv (supCx P w K mg base N qual (defScope st) f cda cc A outer s H E) [] σ2 H2 s5 → RelV v u → Q v H2 → CE outer P w H s Q u s5 := fun {σ2 H2 v u} J rv q => ⟨v, H2, J.os, J.bare, J.base, J.hok, rv, q⟩
  match fl, hs with
  | .ret u, ⟨v, σ2, H2, J, rv, q⟩ => exact done J rv q
  | .next, ⟨σ2, H2, J, q⟩ => exact done (v := .non) (u := .none) J rfl q
  | .brk, ⟨_, _, _, q⟩ => exact q.elim
  | .cont, ⟨_, _, _, q⟩ => exact q.elim
abbrev BodyS (P : Program) (w : World) (K : Fg) (mg : Str → Option Value) (base : Heap) (N : List Str) (qual : Str) (st : Stmt) (f cda cc : Addr) (k : Nat) (p : Cx → Prop) : Prop :=
  ∀ (A : Around) (outer : List Env) (s : Shared) (H : Hp) (E : XK), Room k (A.deeper (supEnv qual (defScope st) s.heap.objs.size f cda cc)) → p (supCx P w K mg base N qual (defScope st) f cda cc A outer s H E)
theorem ok_XS {C g : Addr} {j : Nat} {φ φ0 : List Sl → List Cell → PO1 → RC → Prop} {p0 p1 apos pos epos : Pos} {m : Str} {e : Expr} {es : List Expr} {rest : List Stmt} {pl : Sem Bool} (F : FunS P K x qual st f fd cda cc D a0) (S : SupScope N ps (defScope st)) (hp0 : ps[0]? = some a0) (hbody : defBody st = .Expr (.Call (.Attribute (.Call (.Name "super" p0) [] [] p1) m apos) (e :: es) [] pos) epos :: rest)
    (M0 : HasMX P w K mg base j g (spX K φ0)) (hjk : j ≤ k) (hfi : PySem.W.fnIn K g = true) (htg : PySem.W.typeIn K (.ref g) = some (.type "function")) (hmro : PySem.W.mroIn K C (.ref D) = some true) (hsup : PySem.W.ks_superIn K C D m = some (some (.ref g)))
    (hn : ∀ rs ω Q R, φ rs ω Q R → rs.length = ps.length)
    (hb : ∀ rs ω Q R, φ rs ω Q R → BodyS P w K mg base N qual st f cda cc k fun X => ∃ y rs0, rs = .kn (refK y) :: rs0 ∧ InsOf ω C y ∧ DA X (e :: es) (slots N rs) ω fun rs1 ω1 => MethAt φ0 y rs1 ω1 (fun _ ω2 => DSx X rest (slots N rs) ω2 { nx := fun _ ω' => RetW ω.length Q (.val .none) ω', rt := RetW ω.length Q } (RetR ω.length R)) fun _ _ _ => False)
    (hm1 : (m == ("__class__" : Str)) = false := by decide) (hst : ∀ env : Env, starEach (e :: es) env = (false, eval e env) :: starEach es env := by intro _; rfl) (hpl : ∀ env : Env, (backTo pos (starEach es env)).any (·.1) = false := by intro _; rfl)
    (het : ∀ env : Env, eval (.Call (.Attribute (.Call (.Name "super" p0) [] [] p1) m apos) (e :: es) [] pos) env = (do
      let ov ← attributeBase (.Call (.Name "super" p0) [] [] p1) m env (eval (.Call (.Name "super" p0) [] [] p1) env)
      standAt apos.atName
      let (f, first) ← holding [ov] (getMethod ov m pl)
      callWith pos f first (backTo pos (starEach (e :: es) env)) []) := by intro _; rfl)
    (hint : ∀ L : Addr, interactive (supEnv qual (defScope st) L f cda cc) = false ∧ swapsWith (.Call (.Attribute (.Call (.Name "super" p0) [] [] p1) m apos) (e :: es) [] pos) none epos.line (supEnv qual (defScope st) L f cda cc) = pure false := by intro _; exact ⟨rfl, rfl⟩) :
    FnOk P w K mg base (L2.CX P w) (k + 1) f fd ps (spX K φ) := by
  refine fnS_mk F S hp0 hbody hm1 M0.fr hjk hfi htg hst hpl het hint (fun vs H Q E h => ?_) fun A outer s H vs Q E hr h => ?_
  · obtain ⟨B, F', as, rs, ω, P', R', hw, hd, hφ, _⟩ := h
    exact (rsOk_len hd).trans (hn _ _ _ _ hφ)
  · obtain ⟨B, F', as, rs, ω, P', R', hw, hd, hφ, hq, hx⟩ := h
    obtain ⟨y, rs0, rfl, hi, hda⟩ := hb rs ω P' R' hφ A outer s H E hr
    obtain ⟨v, us, rfl, h1, h2⟩ := rs_head hd
    obtain rfl := slk_ref h1
    obtain ⟨dx, fs, hy⟩ := hi.get hw
    refine ⟨y, C, dx, fs, rfl, hy, hmro, hsup, _, pa_w, ?_⟩
    have ev := env_start (N := N) (env_of_rs hd)
    refine hda B F' H as _ hw ev _ fun ws B1 H1 as1 rs1 ω1 e1 p1 w1 s1 hM => ?_
    show spX K φ0 ((V.ref y :: ws) ++ []) H1 _ E0
    rw [List.append_nil]
    refine meth_at w1 (fun v B2 H2 as2 r ω2 e2 p2 w2 s2 hds => ?_) s1 hM fun _ _ _ _ _ _ _ _ _ z => z.elim
    have e12 := e1.trans e2
    have p12 := p1.trans p2
    refine ⟨_, pss_w, hds B2 F' H2 as2 _ w2 (envOk_up e12 p12 ev) _ ⟨fun σ' H' B' as' δ' ω' e3 p3 w3 ev3 z => ?_, fun _ _ _ _ _ _ _ _ _ _ z => z.elim, fun _ _ _ _ _ _ _ _ _ _ z => z.elim, fun v B' H' as' r ω' e3 p3 w3 s3 z => ?_⟩ ?_⟩
    · exact hq .non B' H' as' _ ω' (e12.trans e3) (p12.trans p3) w3 z.1 (slv .non) z.2
    · exact hq v B' H' as' r ω' (e12.trans e3) (p12.trans p3) w3 z.1 s3 z.2
    · refine ⟨_, takes_of rfl rfl rfl rfl, fun cls d σ' B' H' as' δ' ω' fs e3 p3 w3 ev3 hxd hR => ?_⟩
      have pa := p12.trans p3
      have w4 := w3.pick (ks := List.range ω.length) (fun i hi => by
        obtain ⟨t, ht⟩ := pa
        have : ω.length ≤ ω'.length := by
          rw [← w3.len, ← ht, List.length_append, ← hw.len]
          omega
        exact Nat.lt_of_lt_of_le (List.mem_range.mp hi) this) List.nodup_range
      obtain ⟨t, ht⟩ := pa
      have hn : ω.length ≤ ω'.length := by
        rw [← w3.len, ← ht, List.length_append, ← hw.len]
        omega
      have hnA : ω.length ≤ as'.length := by
        rw [w3.len]
        exact hn
      have htk : as'.take ω.length = as := by
        rw [← ht, ← hw.len, List.take_left]
      rw [pk_range hn, pkA_range hnA, htk] at w4
      exact hx cls d B' H' _ fs (e12.trans e3) w4 (xd_take ⟨t, ht⟩ hxd) hR
end
end
section
/-! C(..) that may let something out; lambdas that give an instance -/
open LamX (CodeO TabB LamS lamEnv lamCx GivesTo)
section
variable {X : Cx} {e : Expr} {es : List Expr} {δ : List Sl} {ω : List Cell} {P : PO1} {R : RX} {pos : Pos}
theorem dex_makeX {x : Str} {p : Pos} {C g : Addr} {j : Nat} {φ : List Sl → List Cell → PO1 → RC → Prop} (M : HasMX X.prog X.w X.K X.mg X.base j g (spX X.K φ)) (mk : Mk X.K C g) (hr : Room (j + 1) X.A) (hg : Gl X x) (hm : X.mg x = some (.ref C))
    (h : DA X (e :: es) δ ω fun rs ω1 => rs.all Sl.free = true ∧ ∀ y dx, φ (.kn (refK y) :: rs) [ownC y, insA C dx y []] (fun r ω2 => r = .val .none ∧ (∀ c ∈ ω2, c.live = true) ∧ P (.kn (refK y)) (ω1 ++ ω2)) fun cls fs _ => R cls fs δ ω1)
    (hdb : (x == ("__debug__" : Str)) = false := by decide) (he : starEach (e :: es) X.env = (false, eval e X.env) :: starEach es X.env := by rfl) (hpl : (backTo pos (starEach es X.env)).any (·.1) = false := by rfl) : DEx X (.Call (.Name x p) (e :: es) [] pos) δ ω P R := fun B F H as σ w ev Q oo tk => by
  obtain ⟨W, tk1, tk2⟩ := tk
  refine ⟨fun σ H Q => wA X (e :: es) σ H fun vs H1 => ∀ y dx, H1 y = none → H1 dx = none → dx ≠ y → spX X.K φ ((V.ref y :: vs) ++ []) (upd (upd H1 dx (.own y)) y (.ins C dx [])) (fun v H2 => v = .non ∧ Q (.ref y) H2) (WE W σ), ⟨fun pins s σ H Q I hh => ?_⟩, ?_⟩
  · refine wpAny_Call_Name_kw (ld_glob I hg hm ?_ hdb)
    refine PySem.W.callWith_K (h₀ := X.base) I.ok.mod.kin mk.kp ?_ he hpl
    exact thn (pa_w.run pos pins s σ H _ I hh) fun us s1 ⟨vs, H1, I1, r, q⟩ => ⟨I1.kIn, run_make2 mk M.fr hr (passAt tk1 σ) I1 r q⟩
  refine h B F H as σ w ev _ fun vs B1 H1 as1 rs ω1 e1 p1 w1 s1 ⟨hfr, hφ⟩ y dx hy hdx hne => ?_
  rw [List.append_nil]
  obtain ⟨F', wF, back, fre⟩ := w1.frameL (ks := []) nofun .nil
  refine ⟨B1, F', [dx, y], .kn (refK y) :: rs, _, _, _, Wd.madeA (by exact wF) hy hdx hne, .cons ref_slot (rs_free hfr s1), hφ y dx, fun v B' H' as' r ω' sb pp w' hlv hs ⟨er, hl, hp⟩ => ?_, fun cls d B' H' ω' fs sb w' hxd hR => ?_⟩
  · subst er
    have w2 := back B' H' as' ω' sb List.nil_prefix w' hl
    rw [show putC ω1 [] ω' = ω1 by cases ω' <;> rfl] at w2
    exact ⟨dp_non_inv (sl_val hs), oo (.ref y) B' H' _ (.kn (refK y)) _ (e1.trans sb) (p1.trans (List.prefix_append _ _)) w2 ref_slot hp⟩
  · have w3 := w'.drop
    have w2 := back B' H' [] [] sb List.nil_prefix w3 nofun
    rw [List.drop_nil, List.append_nil, List.drop_nil, List.append_nil, show putC ω1 [] [] = ω1 from rfl] at w2
    refine tk2 cls d σ B' H' as1 δ ω1 fs (e1.trans sb) p1 w2 (envOk_up (e1.trans sb) p1 ev) ?_ hR
    cases d with
    | none => exact hxd
    | some dd =>
      obtain ⟨h1, h2, h3, vs', h4, h5⟩ := hxd
      have hB1 : B1 dd = none := by
        cases q : B1 dd with
        | none => rfl
        | some u =>
          rw [sb _ _ q] at h1
          cases h1
      obtain ⟨f1, f2⟩ := fre dd hB1 h2 List.not_mem_nil
      exact ⟨h1, f2, f1, vs', h4, h5⟩
/-- as de_lam, of any kind of result -/
theorem de_lamG {RV : List V → Hp → VK → Prop} {PB : PO1} {Wrd : Value → List (Str × D) → Str → Prop} {KE : Addr} {x a : Str} {g c p : Addr} {k j : Nat} {pg : Arguments} {bg : List Stmt} {sg : Scope} {dV kV doc pm cdv ct oc : Value} {an od : Option Addr} {osl : Array (Option Value)} {Ng : List Str}
    {params : Arguments} {body : Expr} {scope : Scope} {p1 lpos pos : Pos} (hg : Gl X x) (hm : X.mg x = some (.ref g)) (hk : PySem.W.keepIn X.K (.ref g) = true)
    (lk : X.K.lookup g = some ⟨oc, od, .func (PySem.W.fnOf x x pg bg sg dV kV doc pm an cdv ct), osl⟩) (hcg : PySem.W.codeIn X.K cdv x = true) (hb : L2.Binds X.K (PySem.W.fnOf x x pg bg sg dV kV doc pm an cdv ct) [a] []) (Sg : FnScope Ng [a] sg) (hNg : Ng[0]? = some a) (hva : Vis sg a)
    (hG : GivesTo X Ng x sg g cdv bg a (X.env.qual ++ "<lambda>") (TTw X.K KE RV Wrd)) (TB : TabB X.base X.mg c p) (hcode : X.env.code = .ref c) (hr : Room (k + 2) X.A) (L : LamS X.env.scope scope) (hdef : defaultsOf params X.env = ([], []))
    (hbind : ∀ (q : Str) (cl : List (Str × Addr)) (pm cv ctv : Value), bindArgs (PySem.W.kla_fn "<lambda>" q params body scope cl pm cv ctv) ⟨[], []⟩ = pure [])
    (hRV : ∀ (B F H : Hp) (as : List Addr) (ω' : List Cell) (v : V) (r : Sl) (Q : VK), Wd X.K B F H as ω' → SlOk X.K B as (some v) r → PB r ω' → Out X.K B F as P Q → RV [v] H Q)
    (hc : ω[j]? = some (tabC p (X.env.qual ++ "<lambda>")))
    (h : LamB X scope k fun Y => DEx Y body δ ω PB fun cls fs _ ω' => PySem.W.exmOne X.K cls (.ref KE) = some true ∧ ∃ y, Wrd cls fs y ∧ P (.val (.str y)) ω')
    (hdb : (x == ("__debug__" : Str)) = false := by decide) (hd : (a == ("__debug__" : Str)) = false := by decide) (hcd : (a == ("__classdict__" : Str)) = false := by decide) :
    DE X (.Call (.Name x p1) [.Lambda params body scope lpos] [] pos) δ ω P := fun B F H as σ w ev Q oo => by
  refine ⟨_, pe_lam3 (t := fun E' σ' H' Q' => ∀ (A : Around) (outer : List Env) (s : Shared) (H0 : Hp) (f c' : Addr), Room k (A.deeper (lamEnv X scope s.heap.objs.size f c')) → wE (lamCx X A outer s H0 E' scope f c') body σ' H' Q') hg hm hk lk hcg hb Sg hNg hva hG TB hcode hr L hdef hbind
    (fun A outer s H0 E' f c' hr2 => ⟨fun pins s1 σ1 H1 Q1 I hw => by obtain ⟨_, q1, q2⟩ := hw A outer s H0 f c' hr2; exact q1.run pins s1 σ1 H1 Q1 I q2⟩) hdb hd hcd, ?_⟩
  obtain ⟨_, _, ps, T, _⟩ := cell_tab w hc
  refine ⟨ps, T, fun H1 e1 => ?_⟩
  obtain ⟨B1, s1, w1⟩ := tab_after w hc T e1
  intro A outer s H0 f c' hr2
  refine h A outer s H0 _ f c' hr2 B1 F H1 as σ w1 (envOk_up s1 (List.prefix_refl _) ev) _ (fun v B' H' as' r ω' sb pp w' hs hPB => ?_) ⟨_, takes_of rfl rfl rfl rfl, fun cls d σ' B' H' as' δ' ω' fs sb pp w' ev' hx ⟨hm, y, hW, hp⟩ => ?_⟩
  · exact hRV B' F H' as' ω' v r Q w' hs hPB (oo.up (s1.trans sb) pp)
  · obtain ⟨F', wF, hF, back⟩ := w'.frameN
    refine ⟨B', F', fs, y, wF, ?_, hm, hW, fun B2 H2 sb2 w2 => oo (.str y) B2 H2 as' (.val (.str y)) ω' ((s1.trans sb).trans sb2) pp (back B2 H2 sb2 w2) (slv (.str _)) hp⟩
    cases d with
    | none => exact hx
    | some dx =>
      obtain ⟨x1, x2, x3, x4⟩ := hx
      exact ⟨x1, hF dx x3 x2, List.not_mem_nil, x4⟩
end
end
section
/-! a row whose new cells are given up; isinstance of a thing that is known by its address -/
section
variable {X : Cx} {e : Expr} {δ : List Sl} {ω : List Cell} {P : PO1} {k : Kd} {st : Stmt} {rest : List Stmt} {pos : Pos}
theorem ds_cutF (M : List Sl → List Cell → Prop) (h : D1 X st δ ω { nx := fun δ' ω' => M (δ'.map (cutS ω.length)) (ω'.take ω.length), rt := k.rt, bk := k.bk, ct := k.ct }) (hr : ∀ δ' ω', M δ' ω' → DS X rest δ' ω' k) : DS X (st :: rest) δ ω k := fun B F H as σ w ev E o => by
  refine ⟨_, pss_cons ps_w pss_w, h B F H as σ w ev { E with nx := wSs X rest E } ⟨fun σ' H' B' as' δ' ω' e1 p1 w1 ev1 q => ?_, o.bk, o.ct, o.rt⟩⟩
  have w2 := w1.cut p1
  have ev2 := envOk_cut p1 ev1
  rw [w.len] at w2 ev2
  exact hr _ _ q B' F H' as σ' w2 ev2 E (o.up e1 (List.prefix_refl _))
theorem de_isiA {x : Str} {C C2 : Addr} {b : Bool} {p p2 : Pos} (hg : Gl X "isinstance") (hm : X.mg "isinstance" = none) (hgC : Gl X x) (hmC : X.mg x = some (.ref C2)) (c : Cls X.K C) (i : SlX.SIsi X.K C) (hk : PySem.W.kitOne X.K (.ref C) (.ref C2) = some b)
    (h : DE X e δ ω fun r ω1 => ∃ y, r = .kn (refK y) ∧ InsOf ω1 C y ∧ P (.val (.bool b)) ω1) (hdb : (x == ("__debug__" : Str)) = false := by decide)
    (hs1 : starEach [e, .Name x p2] X.env = (false, eval e X.env) :: starEach [.Name x p2] X.env := by rfl) (hs2 : starEach [.Name x p2] X.env = (false, eval (.Name x p2) X.env) :: starEach [] X.env := by rfl)
    (hpl : (backTo pos (starEach [.Name x p2] X.env)).any (·.1) = false := by rfl) : DE X (.Call (.Name "isinstance" p) [e, .Name x p2] [] pos) δ ω P := fun B F H as σ w ev Q o => by
  refine ⟨_, pe_callB call_isi hg hm boot_isinstance (pa_cons pe_w (pa_cons (pe_glob (v := .ref C2) hgC hmC rfl hdb) pa_nil hs2) hs1) (by decide) (by decide) hs1 hpl, ?_⟩
  refine h B F H as σ w ev _ fun v B1 H1 as1 r ω1 e1 p1 w1 s1 ⟨y, er, hi, hp⟩ => ?_
  subst er
  obtain rfl := slk_ref s1
  obtain ⟨dx, fs, hy⟩ := hi.get w1
  exact ⟨.ref y, .ref C2, .ref C, .ref C2, b, rfl, .own C2, .base (.ins hy c i.ca i.cn i.ct i.cm), hk, (o.up e1 p1).here w1 (.bl _) hp⟩
end
end
section
/-! == and != of things that change, known by address -/
theorem ty_ref {K : Fg} {B F H : Hp} {as : List Addr} {ω : List Cell} {C y : Addr} (w : Wd K B F H as ω) (h : InsOf ω C y) (c : Cls K C) (i : SlX.SIsi K C) : TyX K H (.ref y) (.ref C) := by
  obtain ⟨dx, vs, h1⟩ := h.get w
  exact .base (.ins h1 c i.ca i.cn i.ct i.cm)
/-- what an operand's type is -/
inductive TyR (K : Fg) (ω : List Cell) : Sl → Value → Prop
  | val (d : D) : TyR K ω (.val d) (.type (tyD d))
  | ins {C y : Addr} (h : InsOf ω C y) (c : Cls K C) (i : SlX.SIsi K C) : TyR K ω (.kn (refK y)) (.ref C)
  | kn {r : Sl} {t : Value} (h : TyS K r t) : TyR K ω r t
theorem TyR.get {K : Fg} {B F H : Hp} {as : List Addr} {ω : List Cell} {v : V} {r : Sl} {t : Value} (w : Wd K B F H as ω) (y : TyR K ω r t) (s : SlOk K B as (some v) r) : TyX K H v t := by
  cases y with
  | val d => exact ty_of (dp_up w.b (sl_val s))
  | ins h c i =>
    obtain rfl := slk_ref s
    exact ty_ref w h c i
  | kn h => exact h.get w s
section
variable {X : Cx} {P : PO1} {ω : List Cell}
theorem op_eqX {C g : Addr} {j : Nat} {sp : Sp} (M : HasMX X.prog X.w X.K X.mg X.base j g sp) (hs : PySem.W.findIn X.K (.ref C) "__eq__" = some (some (.ref g))) (hf : PySem.W.isFn X.K (.ref g) = true) (hr : Room j X.A) : OpR X (compareOp .Eq) (rEqO X.K C sp) := by
  intro pins s σ H x y v u Q I rx ry h
  obtain ⟨a, dx, fs, tb, rfl, ha, ty, hn, q⟩ := h
  cases (show v = Value.ref a from rx)
  obtain ⟨mA, O, _⟩ := ins_get I.hok ha
  obtain ⟨od, J, _⟩ := O.look
  obtain ⟨m, hF⟩ := I.fr
  obtain ⟨Pt, Z, pz, _⟩ := kit_of I ry ty
  rw [show compareOp .Eq (.ref a) u = richCompare .Eq (.ref a) u from rfl]
  refine PySem.W.cmp_K (op := .Eq) (tb := tb) hr.units0 hF I.ok.mod.kin J (Z.ty _ _ I.kIn pz) hn hs hf ?_
  refine wpAny_mono (wpAny_call (run_fnR (us := [.ref a, u]) (vs := [.ref a, y]) M.fr hr passX0 I (.cons rfl (.cons ry .nil)) q)) (fun w s' z => ?_) fun _ _ x => x
  obtain ⟨z', H', I', rz, qz⟩ := z
  exact SlX.cmpback rz ⟨z', H', I', rz, qz⟩
theorem op_neX {C g : Addr} {j : Nat} {sp : Sp} (M : HasMX X.prog X.w X.K X.mg X.base j g sp) (ho : PySem.W.mroIn X.K C (.type "object") = some true) (hne : PySem.W.findIn X.K (.ref C) "__ne__" = some (some (.builtin "object.__ne__"))) (hs : PySem.W.findIn X.K (.ref C) "__eq__" = some (some (.ref g))) (hf : PySem.W.isFn X.K (.ref g) = true) (hr : Room (j + 1) X.A) : OpR X (compareOp .NotEq) (rNeO X.K C sp) := by
  intro pins s σ H x y v u Q I rx ry h
  obtain ⟨a, dx, fs, tb, rfl, ha, ty, hn, q⟩ := h
  cases (show v = Value.ref a from rx)
  obtain ⟨mA, O, _⟩ := ins_get I.hok ha
  obtain ⟨od, J, _⟩ := O.look
  obtain ⟨m, hF⟩ := I.fr
  obtain ⟨Pt, Z, pz, _⟩ := kit_of I ry ty
  rw [show compareOp .NotEq (.ref a) u = richCompare .NotEq (.ref a) u from rfl]
  refine ne_lib (tb := tb) (hu_of hr) hF I.ok.mod.kin J (Z.ty _ _ I.kIn pz) hn ho hne hs hf ?_
  have hr1 : Room j X.A.in1 := hr.in1
  refine wpAny_mono (wpAny_call (SlX.run_at (us := [.ref a, u]) (ws := [.ref a, y]) M.fr hr1 I.env0.in1 passX0 I (.cons rfl (.cons ry .nil)) q)) (fun w s' z => ?_) fun _ _ x => x
  obtain ⟨z', H', I', rz, k, ek, qz⟩ := z
  subst ek
  exact ⟨k, rz, .bl (!k), H', I', rfl, qz⟩
theorem rr_eqX {C a : Addr} {y : Sl} {tb : Value} {φ : List Sl → List Cell → PO1 → RC → Prop} (hi : InsOf ω C a) (hy : TyR X.K ω y tb) (hn : PySem.W.notFirst X.K C tb = true) (h : MethAt φ a [y] ω P fun _ _ _ => False) : RR X (rEqO X.K C (spX X.K φ)) (.kn (refK a)) y ω P := fun B F H as v u w s1 s2 Q o => by
  obtain rfl := slk_ref s1
  obtain ⟨dx, vs, h1⟩ := hi.get w
  exact ⟨a, dx, vs, tb, rfl, h1, hy.get w s2, hn, meth_at w o (.cons s2 .nil) h fun _ _ _ _ _ _ _ _ _ z => z.elim⟩
theorem rr_neX {C a : Addr} {y : Sl} {tb : Value} {φ : List Sl → List Cell → PO1 → RC → Prop} (hi : InsOf ω C a) (hy : TyR X.K ω y tb) (hn : PySem.W.notFirst X.K C tb = true) (h : MethAt φ a [y] ω (fun r ω1 => ∃ k, r = .val (.bool k) ∧ P (.val (.bool (!k))) ω1) fun _ _ _ => False) : RR X (rNeO X.K C (spX X.K φ)) (.kn (refK a)) y ω P := fun B F H as v u w s1 s2 Q o => by
  obtain rfl := slk_ref s1
  obtain ⟨dx, vs, h1⟩ := hi.get w
  refine ⟨a, dx, vs, tb, rfl, h1, hy.get w s2, hn, ?_⟩
  refine meth_at w (fun v B' H' as' r ω' sb pp w' hs' ⟨k, er, hp⟩ => ?_) (.cons s2 .nil) h fun _ _ _ _ _ _ _ _ _ z => z.elim
  subst er
  exact ⟨k, dp_bl_inv (sl_val hs'), o (.bl (!k)) B' H' as' _ ω' sb pp w' (slv (.bl _)) hp⟩
end
end
section
/-! the exception that is handled, held by a name: isinstance of it, also in a def that is called within the suite -/
/-- its object, as a pin tells it: of the class D, its dict d -/
structure ExP (D : Addr) (d : Option Addr) (oe : Obj) : Prop where
  z : Zc (.ref D) d oe
  f : ∃ vs, oe.data = .fields vs
/-- what is asked of the heap about its dict -/
def ExD (H : Hp) : Option Addr → Prop
  | none => True
  | some dx => ∃ fs, H dx = some (.xd fs)
theorem exp_at {X : Cx} {pins : List (Addr × Obj)} {σ : L2.St} {H : Hp} {s : Shared} {D a : Addr} {d : Option Addr} {oe : Obj} (I : Inv X pins σ H s) (hp : (a, oe) ∈ X.pn) (e : ExP D d oe) (hd : ExD H d) : ∃ od, PySem.W.InstAt s.heap a oe D od := by
  obtain ⟨hget, _⟩ := I.pin (a, oe) (List.mem_append_left _ hp)
  obtain ⟨⟨h1, h2⟩, vs, hv⟩ := e
  obtain ⟨oc, odd, oda, osl⟩ := oe
  dsimp only at h1 h2 hv
  subst h1 h2 hv
  cases odd with
  | none => exact ⟨none, hget, rfl, rfl, trivial⟩
  | some dx =>
    obtain ⟨fs, hx⟩ := hd
    obtain ⟨mA, ⟨o2, es, ep, e1, e2, _⟩, _⟩ := I.hok dx _ hx
    exact ⟨some o2, hget, rfl, rfl, e1⟩
/-- an exception's dict as a cell -/
def xdC (dx : Addr) (fs : List (Str × D)) : Cell := .gn fun K B o a => a = dx ∧ ∃ vs, o = .xd vs ∧ FsOk K B vs fs
theorem fs_up {K : Fg} {B B' : Hp} (e : Same B B') : ∀ {a : List (Str × V)} {b : List (Str × D)}, FsOk K B a b → FsOk K B' a b
  | _, _, .nil => .nil
  | _, _, .cons h q => .cons ⟨h.1, dp_up e h.2⟩ (fs_up e q)
theorem cell_xd {K : Fg} {B F H : Hp} {as : List Addr} {ω : List Cell} {k : Nat} {dx : Addr} {fs : List (Str × D)} (w : Wd K B F H as ω) (hc : ω[k]? = some (xdC dx fs)) : as[k]? = some dx ∧ ∃ vs, H dx = some (.xd vs) ∧ FsOk K B vs fs := by
  have hk : k < as.length := by
    rw [w.len]
    exact (List.getElem?_eq_some_iff.mp hc).1
  obtain ⟨hb, B0, o, sb, h3, hx, vs, rfl, h4⟩ := (w.at' k _ _ (List.getElem?_eq_getElem hk) hc).2.2
  have ha := List.getElem?_eq_getElem hk
  rw [hx] at ha hb h3
  exact ⟨ha, vs, h3, fs_up sb h4⟩
/-- the cells that tell of an exception's dict -/
def exC : Option Addr → List (Str × D) → List Cell
  | none, _ => []
  | some dx, fs => [xdC dx fs]
def ExIn (ω : List Cell) : Option Addr → List (Str × D) → Prop
  | none, _ => True
  | some dx, fs => ∃ k : Nat, ω[k]? = some (xdC dx fs)
theorem ExIn.get {K : Fg} {B F H : Hp} {as : List Addr} {ω : List Cell} {d : Option Addr} {fs : List (Str × D)} (h : ExIn ω d fs) (w : Wd K B F H as ω) : ExD H d := by
  cases d with
  | none => trivial
  | some dx =>
    obtain ⟨k, hk⟩ := h
    obtain ⟨_, vs, h1, _⟩ := cell_xd w hk
    exact ⟨vs, h1⟩
theorem wd_ex {K : Fg} {B F H : Hp} {as : List Addr} {ω : List Cell} {d : Option Addr} {fs : List (Str × D)} (w : Wd K B F H as ω) (h : XdOk K B F H as d fs) : Wd K B F H (as ++ d.toList) (ω ++ exC d fs) := by
  cases d with
  | none =>
    show Wd K B F H (as ++ []) (ω ++ [])
    rw [List.append_nil, List.append_nil]
    exact w
  | some dx =>
    obtain ⟨h1, h2, h3, vs, h4, h5⟩ := h
    refine ⟨w.b, w.f, ?_, ?_, fun k b c e1 e2 => ?_⟩
    · show (as ++ [dx]).length = (ω ++ [xdC dx fs]).length
      rw [List.length_append, List.length_append, w.len]
      rfl
    · show (as ++ [dx]).Nodup
      rw [List.nodup_append]
      refine ⟨w.nd, List.pairwise_singleton _ _, fun x hx y hy z => ?_⟩
      rw [List.mem_singleton] at hy
      subst hy z
      exact h3 hx
    · have e1 : (as ++ [dx])[k]? = some b := e1
      have e2 : (ω ++ [xdC dx fs])[k]? = some c := e2
      by_cases hk : k < as.length
      · rw [List.getElem?_append_left hk] at e1
        rw [List.getElem?_append_left (by rw [← w.len]; exact hk)] at e2
        exact w.at' k b c e1 e2
      · rw [List.getElem?_append_right (Nat.not_lt.mp hk)] at e1
        rw [List.getElem?_append_right (by rw [← w.len]; exact Nat.not_lt.mp hk), ← w.len] at e2
        have hk0 : k - as.length = 0 := by
          have := (List.getElem?_eq_some_iff.mp e1).1
          simp at this
          omega
        rw [hk0] at e1 e2
        cases e1
        cases e2
        exact ⟨h2, by rw [h4]; simp, h1, B, _, Same.refl _, h4, rfl, vs, rfl, h5⟩
section
variable {X : Cx} {e : Expr} {δ : List Sl} {ω : List Cell} {P : PO1} {pos : Pos}
def rIsH (K : Fg) (D a : Addr) (d : Option Addr) : List V → Hp → VK → Prop := fun xs H Q => ExD H d ∧ ∃ (c : V) (cv : Value) (b : Bool), xs = [.ref a, c] ∧ (∀ u, L2.RelV c u → u = cv) ∧ PySem.W.kitOne K (.ref D) cv = some b ∧ Q (.bl b) H
theorem call_isH {D a : Addr} {d : Option Addr} {oe : Obj} (C : L2.ExcC X.K D) (hp : (a, oe) ∈ X.pn) (hx : ExP D d oe) : CallR X (.builtin "isinstance") (rIsH X.K D a d) := by
  intro pins s σ H xs us Q I r h
  obtain ⟨hd, c, cv, b, rfl, hcv, e, q⟩ := h
  obtain ⟨od, J⟩ := exp_at I hp hx hd
  have hcl : (PySem.W.clsIn X.K D).isSome = true := by
    obtain ⟨cd, hc, _⟩ := PySem.W.any_some C.hd
    rw [hc]
    rfl
  cases r with
  | cons rx rr =>
    cases rr with
    | cons rt rr =>
      cases rr
      cases rx
      have ec := hcv _ rt
      subst ec
      exact PySem.W.kia_one (PySem.W.kitx_exc (od := od) hcl C.hg C.hk C.hs C.ha C.hn C.ht C.hm) I.kIn J e (fun z => nomatch z) fun tk => ⟨.bl b, H, I.kept (t' := tk) fun _ _ z => z, rfl, q⟩
/-- isinstance(e, C) of the handled exception, C an own class -/
theorem de_isHC {DC a C : Addr} {d : Option Addr} {fs : List (Str × D)} {oe : Obj} {x : Str} {p p2 : Pos} (EC : L2.ExcC X.K DC) (hp : (a, oe) ∈ X.pn) (hx : ExP DC d oe) (hg : Gl X "isinstance") (hm : X.mg "isinstance" = none) (hgC : Gl X x) (hmC : X.mg x = some (.ref C))
    (h : DE X e δ ω fun r ω1 => r = .kn (refK a) ∧ ExIn ω1 d fs ∧ ∃ k, PySem.W.kitOne X.K (.ref DC) (.ref C) = some k ∧ P (.val (.bool k)) ω1) (hdb : (x == ("__debug__" : Str)) = false := by decide)
    (hs1 : starEach [e, .Name x p2] X.env = (false, eval e X.env) :: starEach [.Name x p2] X.env := by rfl) (hs2 : starEach [.Name x p2] X.env = (false, eval (.Name x p2) X.env) :: starEach [] X.env := by rfl)
    (hpl : (backTo pos (starEach [.Name x p2] X.env)).any (·.1) = false := by rfl) : DE X (.Call (.Name "isinstance" p) [e, .Name x p2] [] pos) δ ω P := fun B F H as σ w ev Q o => by
  refine ⟨_, pe_callB (call_isH EC hp hx) hg hm boot_isinstance (pa_cons pe_w (pa_cons (pe_glob (v := .ref C) hgC hmC rfl hdb) pa_nil hs2) hs1) (by decide) (by decide) hs1 hpl, ?_⟩
  refine h B F H as σ w ev _ fun v B1 H1 as1 r ω1 e1 p1 w1 s1 ⟨er, hi, k, hk, hq⟩ => ?_
  subst er
  obtain rfl := slk_ref s1
  exact ⟨hi.get w1, .ref C, .ref C, k, rfl, fun u hu => hu, hk, (o.up e1 p1).here w1 (.bl _) hq⟩
theorem de_isHT {DC a : Addr} {d : Option Addr} {fs : List (Str × D)} {oe : Obj} {x : Str} {T : String} {p p2 : Pos} (EC : L2.ExcC X.K DC) (hp : (a, oe) ∈ X.pn) (hx : ExP DC d oe) (hg : Gl X "isinstance") (hm : X.mg "isinstance" = none) (hgT : Gl X x) (hmT : X.mg x = none) (hv : bootBuiltins x = some (.type T))
    (h : DE X e δ ω fun r ω1 => r = .kn (refK a) ∧ ExIn ω1 d fs ∧ ∃ k, PySem.W.kitOne X.K (.ref DC) (.type T) = some k ∧ P (.val (.bool k)) ω1) (hn : x ≠ "__name__" := by decide) (hdb : (x == ("__debug__" : Str)) = false := by decide)
    (hs1 : starEach [e, .Name x p2] X.env = (false, eval e X.env) :: starEach [.Name x p2] X.env := by rfl) (hs2 : starEach [.Name x p2] X.env = (false, eval (.Name x p2) X.env) :: starEach [] X.env := by rfl)
    (hpl : (backTo pos (starEach [.Name x p2] X.env)).any (·.1) = false := by rfl) : DE X (.Call (.Name "isinstance" p) [e, .Name x p2] [] pos) δ ω P := fun B F H as σ w ev Q o => by
  refine ⟨_, pe_callB (call_isH EC hp hx) hg hm boot_isinstance (pa_cons pe_w (pa_cons (pe_bltn (v := .ty T) hgT hmT hv rfl hn hdb) pa_nil hs2) hs1) (by decide) (by decide) hs1 hpl, ?_⟩
  refine h B F H as σ w ev _ fun v B1 H1 as1 r ω1 e1 p1 w1 s1 ⟨er, hi, k, hk, hq⟩ => ?_
  subst er
  obtain rfl := slk_ref s1
  exact ⟨hi.get w1, .ty T, .type T, k, rfl, fun u hu => hu, hk, (o.up e1 p1).here w1 (.bl _) hq⟩
end
end
section
/-! a def that is called within an except suite and gets the handled exception -/
open L2H (RoomH PinOk cxH)
/-- what such a def promises, p the handled exception -/
def FnP (P : Program) (w : World) (K : Fg) (mg : Str → Option Value) (base : Heap) (k : Nat) (f : Addr) (fd : FuncData) (ps : List Str) (p : Addr × Obj) (sp : Sp) : Prop :=
  ∀ (A : Around) (outer : List Env) (s : Shared) (H : Hp) (args : Args) (us : List Value) (vs : List V) (Q : VK), A.guards = some [] → RoomH k A → PinOk outer H s p → Env0 P w K mg base A outer s H → BindsTo s fd args (ps.zip us) → Vals vs us → sp vs H Q E0 →
    codeAny (model P w) A (.call (.ref f) args) (CR CX0 outer P w H s Q E0) s
section
variable {P : Program} {w : World} {K : Fg} {mg : Str → Option Value} {base : Heap} {x qual : Str} {st : Stmt} {f : Addr} {fd : FuncData} {N ps : List Str} {k : Nat} {p : Addr × Obj}
theorem fnP_mk {sp : Sp} (F : Fun K x qual st f fd) (S : FnScope N ps (defScope st)) (len : ∀ vs H Q, sp vs H Q E0 → vs.length = ps.length)
    (hb : ∀ (cdv : Value) (A : Around) (outer : List Env) (s : Shared) (H : Hp) (vs : List V) (Q : VK), A.guards = some [] → RoomH k (A.deeper (envOfC qual (defScope st) s.heap.objs.size f cdv)) → sp vs H Q E0 →
      ∃ t, PSs (cxH CX0 P w K mg base N qual (defScope st) f cdv A outer s H E0 p) (defBody st) t ∧ t { nx := fun _ H' => Q .non H', rt := Q } (start N vs) H) : FnP P w K mg base (k + 1) f fd ps p sp := by
  obtain ⟨oc, od, kV, doc, pm, an, cdv, ct, osl, rfl, lk, hcd⟩ := F.ex
  intro A outer s H args us vs Q hgd hr hpin en hbd hvs hsp
  have hlen := len vs H Q hsp
  have inK : K.In s.heap := en.mod.kin.keeps fun a o q => (en.bs a o q).1
  have noL : s.heap.NoLimit := en.mod.nolimit.keeps fun a o q => (en.bs a o q).1
  have kinds : ∀ y ∈ ps.zip us, (defScope st).names.lookup y.1 = some .local ∨ ((defScope st).names.lookup y.1 = some .cell ∧ ((cellsFrom (s.heap.objs.size + 1) (defScope st).names []).lookup y.1).isSome = true) := by
    rintro ⟨z, v⟩ hz
    rcases S.par z (List.of_mem_zip hz).1 with q | q
    · exact Or.inl q
    · exact Or.inr ⟨q, PySem.W.cellsFrom_some _ _ _ (Or.inl q)⟩
  refine codeAny_call_function hr.depth (inK _ _ lk) rfl S.co S.gen rfl (PySem.W.codeRec_of inK hcd) (hbd _ _ _ _ ?_)
  refine wpAny_newFunctionEnv_cells S.kind kinds fun env hen s1 ic => ?_
  subst hen
  refine ⟨noL.keeps ic.toInCall.keep, codeAny_func ?_⟩
  obtain ⟨t, ht, hq⟩ := hb cdv A outer s H vs Q hgd (hr.deeper _) hsp
  have I0 : Inv (cxH CX0 P w K mg base N qual (defScope st) f cdv A outer s H E0 p) [] (start N vs) H s1 := L2H.inv_startH S hpin en hlen hvs ic
  refine wpAny_mono (ht.run [] s1 (start N vs) H _ I0 hq) (fun fl s2 hs => ?_) fun _ _ hs => hs
  have done : ∀ {σ2 : L2.St} {H2 : Hp} {v : V} {u : Value}, Inv (cxH CX0 P w K mg base N qual (defScope st) f cdv A outer s H E0 p) [] σ2 H2 s2 → RelV v u → Q v H2 → CE outer P w H s Q u s2 := fun {σ2 H2 v u} J rv q => ⟨v, H2, J.os, J.bare, J.base, J.hok, rv, q⟩
  match fl, hs with
  | .ret u, ⟨v, σ2, H2, J, rv, q⟩ => exact done J rv q
  | .next, ⟨σ2, H2, J, q⟩ => exact done (v := .non) (u := .none) J rfl q
  | .brk, ⟨_, _, _, q⟩ => exact q.elim
  | .cont, ⟨_, _, _, q⟩ => exact q.elim
abbrev BodyP (P : Program) (w : World) (K : Fg) (mg : Str → Option Value) (base : Heap) (N : List Str) (qual : Str) (st : Stmt) (f : Addr) (k : Nat) (p : Addr × Obj) (q : Cx → Prop) : Prop :=
  ∀ (cdv : Value) (A : Around) (outer : List Env) (s : Shared) (H : Hp), A.guards = some [] → RoomH k (A.deeper (envOfC qual (defScope st) s.heap.objs.size f cdv)) → q (cxH CX0 P w K mg base N qual (defScope st) f cdv A outer s H E0 p)
theorem ok_Pin {φ : List Sl → List Cell → PO1 → Prop} (F : Fun K x qual st f fd) (S : FnScope N ps (defScope st)) (hn : ∀ rs ω Q, φ rs ω Q → rs.length = ps.length)
    (hb : ∀ rs ω Q, φ rs ω Q → BodyP P w K mg base N qual st f k p fun X => DS X (defBody st) (slots N rs) ω { nx := fun _ ω' => RetU ω.length Q (.val .none) ω', rt := RetU ω.length Q }) : FnP P w K mg base (k + 1) f fd ps p (spU K φ) := by
  refine fnP_mk F S (fun vs H Q h => ?_) fun cdv A outer s H vs Q hgd hr h => ?_
  · obtain ⟨B, F', as, rs, ω, P', hw, hd, hφ, _⟩ := h
    rw [rsOk_len hd]
    exact hn _ _ _ hφ
  · obtain ⟨B, F', as, rs, ω, P', hw, hd, hφ, hq⟩ := h
    refine ⟨_, pss_w, hb rs ω P' hφ cdv A outer s H hgd hr B F' H as _ hw (env_start (env_of_rs hd)) _ ⟨fun σ' H' B' as' δ' ω' e1 p1 w1 ev1 q => ?_, fun _ _ _ _ _ _ _ _ _ _ q => q.elim, fun _ _ _ _ _ _ _ _ _ _ q => q.elim, fun v B' H' as' r ω' e1 p1 w1 s1 q => ?_⟩⟩
    · exact retU_run hw.len hq e1 p1 w1 (slv .non) q
    · exact retU_run hw.len hq e1 p1 w1 s1 q
end
structure HasP (P : Program) (w : World) (K : Fg) (mg : Str → Option Value) (base : Heap) (k : Nat) (x : Str) (p : Addr × Obj) (sp : Sp) : Prop where
  ex : ∃ (f : Addr) (fd : FuncData) (ps : List Str), FnP P w K mg base k f fd ps p sp ∧ (∀ vs H Q, sp vs H Q E0 → vs.length = ps.length) ∧ mg x = some (.ref f) ∧ PySem.W.keepIn K (.ref f) = true ∧ Binds K fd ps []
section
variable {X : Cx} {e : Expr} {es : List Expr} {δ : List Sl} {ω : List Cell} {P : PO1} {pos : Pos} {p : Addr × Obj}
/-- its call in the suite (or in another such def) -/
theorem pe_callHot {x : Str} {q : Pos} {k : Nat} {f : Addr} {fd : FuncData} {ps : List Str} {sp : Sp} {t : TA} (F : FnP X.prog X.w X.K X.mg X.base k f fd ps p sp) (len : ∀ vs H Q, sp vs H Q E0 → vs.length = ps.length) (hgd : X.A.guards = some []) (hr : RoomH k X.A) (hp : p ∈ X.pn) (hg : Gl X x) (hm : X.mg x = some (.ref f)) (hk : PySem.W.keepIn X.K (.ref f) = true) (hb : Binds X.K fd ps [])
    (ha : PA X (e :: es) t) (hdb : (x == ("__debug__" : Str)) = false := by decide) (he : starEach (e :: es) X.env = (false, eval e X.env) :: starEach es X.env := by rfl) (hpl : (backTo pos (starEach es X.env)).any (·.1) = false := by rfl) : PE X (.Call (.Name x q) (e :: es) [] pos) (fun σ H Q => t σ H fun vs H1 => sp vs H1 Q E0) := by
  refine ⟨fun pins s σ H Q I h => ?_⟩
  refine wpAny_Call_Name_kw (ld_glob I hg hm ?_ hdb)
  refine PySem.W.callWith_K (h₀ := X.base) I.ok.mod.kin hk (thn (ha.run pos pins s σ H _ I h) fun us s1 ⟨vs, H1, I1, r, z⟩ => ⟨I1.kIn, ?_⟩) he hpl
  have hl : us.length = ps.length := by
    rw [← r.length]
    exact len _ _ _ z
  have b := hb s1 us I1.kIn (by rw [List.append_nil]; exact hl)
  rw [List.append_nil] at b
  have P1 := I1.pin p (List.mem_append_left _ hp)
  have hpin : PinOk X.stack H1 s1 p := ⟨P1.1, P1.2.1, fun hm => (List.mem_cons.mp (I1.stkSub p.1 hm)).elim P1.2.2.1 P1.2.2.2.1, P1.2.2.2.2⟩
  refine wpAny_call (codeAny_mono (F X.A X.stack s1 H1 ⟨us, []⟩ us vs Q hgd hr hpin I1.env0 b r z) fun res s' hq => ?_)
  match res, hq with
  | .error _, hq => exact hq.elim
  | .ok (.ret u), hq => exact I1.after hq
  | .ok .next, hq => exact hq.elim
  | .ok .brk, hq => exact hq.elim
  | .ok .cont, hq => exact hq.elim
theorem de_callHot {x : Str} {q : Pos} {j : Nat} {φ : List Sl → List Cell → PO1 → Prop} (C : HasP X.prog X.w X.K X.mg X.base j x p (spU X.K φ)) (hgd : X.A.guards = some []) (hr : RoomH j X.A) (hp : p ∈ X.pn) (hg : Gl X x)
    (h : DA X (e :: es) δ ω fun rs ω1 => ∃ (ks : List Nat) (rs' : List Sl), rs = rs'.map (ren ks ω1.length) ∧ (∀ i ∈ ks, i < ω1.length) ∧ ks.Nodup ∧ ownsLt ks.length rs' = true ∧
      φ rs' (pkC ω1 ks) fun r ω2 => P (ren ks ω1.length r) (putC ω1 ks ω2 ++ ω2.drop ks.length))
    (hdb : (x == ("__debug__" : Str)) = false := by decide) (he : starEach (e :: es) X.env = (false, eval e X.env) :: starEach es X.env := by rfl) (hpl : (backTo pos (starEach es X.env)).any (·.1) = false := by rfl) : DE X (.Call (.Name x q) (e :: es) [] pos) δ ω P := fun B F H as σ w ev Q o => by
  obtain ⟨f, fd, ps, hf, hlen, hm, hk, hb⟩ := C.ex
  refine ⟨_, pe_callHot hf hlen hgd hr hp hg hm hk hb pa_w hdb he hpl, ?_⟩
  refine h B F H as σ w ev _ fun vs B1 H1 as1 rs ω1 e1 p1 w1 s1 ⟨ks, rs', er, hks, hnd, hown, hφ⟩ => ?_
  subst er
  have hka : ∀ i ∈ ks, i < as1.length := fun i hi => by rw [w1.len]; exact hks i hi
  obtain ⟨F', wF, back, _⟩ := w1.frameL hks hnd
  have hlC : (pkC ω1 ks).length = ks.length := by unfold pkC; rw [List.length_map]
  rw [← w1.len] at s1
  refine ⟨B1, F', pkA as1 ks, rs', pkC ω1 ks, _, wF, rs_pick hka (ownsLt_mem hown) s1, hφ, fun v B' H' as' r ω' sb pp w' hlv hs hp => ?_⟩
  rw [hlC] at hlv
  have w2 := back B' H' as' ω' sb pp w' hlv
  have s2 := sl_unpick hka pp hs
  rw [w1.len] at s2
  exact o v B' H' _ _ _ (e1.trans sb) (p1.trans (List.prefix_append _ _)) w2 s2 hp
end
end
section
/-! empty dicts among values; lists of slots that grow -/
def dicK : Fg → Hp → V → Prop := fun _ B v => ∃ a, v = .ref a ∧ B a = some (.dK [])
theorem slk_dic {K : Fg} {B : Hp} {as : List Addr} {v : V} (s : SlOk K B as (some v) (.kn dicK)) : ∃ a, v = .ref a ∧ B a = some (.dK []) := by
  obtain ⟨v', B0, e, sb, a, h1, h2⟩ := s
  cases e
  exact ⟨a, h1, sb _ _ h2⟩
/-- what a value's type is -/
inductive TyV (K : Fg) (ω : List Cell) : Sl → Value → Prop
  | r {s : Sl} {t : Value} (h : TyR K ω s t) : TyV K ω s t
  | dic : TyV K ω (.kn dicK) (.type "dict")
theorem TyV.get {K : Fg} {B F H : Hp} {as : List Addr} {ω : List Cell} {v : V} {r : Sl} {t : Value} (w : Wd K B F H as ω) (y : TyV K ω r t) (s : SlOk K B as (some v) r) : TyX K H v t := by
  cases y with
  | r h => exact h.get w s
  | dic =>
    obtain ⟨a, rfl, h⟩ := slk_dic s
    exact .base (.dK (w.b _ _ h))
section
variable {X : Cx} {e : Expr} {es : List Expr} {δ : List Sl} {ω : List Cell} {P : PO1} {pos : Pos}
theorem de_dicK (h : P (.kn dicK) ω) : DE X (.Dict [] [] pos) δ ω P := fun B F H as σ w ev Q oo =>
  ⟨_, pe_dnewK, fun p hp => oo.kn w hp ⟨p, rfl, upd_same⟩ h⟩
theorem de_isiV {x : Str} {Ty : String} {p p2 : Pos} (hg : Gl X "isinstance") (hm : X.mg "isinstance" = none) (hgT : Gl X x) (hmT : X.mg x = none) (hv : bootBuiltins x = some (.type Ty))
    (h : DE X e δ ω fun r ω1 => ∃ t k, TyV X.K ω1 r t ∧ PySem.W.kitOne X.K t (.type Ty) = some k ∧ P (.val (.bool k)) ω1) (hn : x ≠ "__name__" := by decide) (hdb : (x == ("__debug__" : Str)) = false := by decide)
    (hs1 : starEach [e, .Name x p2] X.env = (false, eval e X.env) :: starEach [.Name x p2] X.env := by rfl) (hs2 : starEach [.Name x p2] X.env = (false, eval (.Name x p2) X.env) :: starEach [] X.env := by rfl)
    (hpl : (backTo pos (starEach [.Name x p2] X.env)).any (·.1) = false := by rfl) : DE X (.Call (.Name "isinstance" p) [e, .Name x p2] [] pos) δ ω P := fun B F H as σ w ev Q o => by
  refine ⟨_, pe_callB call_isi hg hm boot_isinstance (pa_cons pe_w (pa_cons (pe_bltn (v := .ty Ty) hgT hmT hv rfl hn hdb) pa_nil hs2) hs1) (by decide) (by decide) hs1 hpl, ?_⟩
  refine h B F H as σ w ev _ fun v B1 H1 as1 r ω1 e1 p1 w1 s1 ⟨t, k, ty, hk, hp⟩ => ?_
  exact ⟨v, .ty Ty, t, .type Ty, k, rfl, .ty Ty, ty.get w1 s1, hk, (o.up e1 p1).here w1 (.bl _) hp⟩
theorem de_isiVC {x : Str} {C : Addr} {p p2 : Pos} (hg : Gl X "isinstance") (hm : X.mg "isinstance" = none) (hgC : Gl X x) (hmC : X.mg x = some (.ref C))
    (h : DE X e δ ω fun r ω1 => ∃ t k, TyV X.K ω1 r t ∧ PySem.W.kitOne X.K t (.ref C) = some k ∧ P (.val (.bool k)) ω1) (hdb : (x == ("__debug__" : Str)) = false := by decide)
    (hs1 : starEach [e, .Name x p2] X.env = (false, eval e X.env) :: starEach [.Name x p2] X.env := by rfl) (hs2 : starEach [.Name x p2] X.env = (false, eval (.Name x p2) X.env) :: starEach [] X.env := by rfl)
    (hpl : (backTo pos (starEach [.Name x p2] X.env)).any (·.1) = false := by rfl) : DE X (.Call (.Name "isinstance" p) [e, .Name x p2] [] pos) δ ω P := fun B F H as σ w ev Q o => by
  refine ⟨_, pe_callB call_isi hg hm boot_isinstance (pa_cons pe_w (pa_cons (pe_glob (v := .ref C) hgC hmC rfl hdb) pa_nil hs2) hs1) (by decide) (by decide) hs1 hpl, ?_⟩
  refine h B F H as σ w ev _ fun v B1 H1 as1 r ω1 e1 p1 w1 s1 ⟨t, k, ty, hk, hp⟩ => ?_
  exact ⟨v, .ref C, t, .ref C, k, rfl, .own C, ty.get w1 s1, hk, (o.up e1 p1).here w1 (.bl _) hp⟩
end
/-! ### repr, empty dicts too -/
def rReprD (K : Fg) : List V → Hp → VK → Prop := fun xs H Q => rRepr K xs H Q ∨ ∃ a, xs = [.ref a] ∧ H a = some (.dK []) ∧ Q (.str (PyData.dict []).shown) H
theorem dic_reads {P : Program} {w : World} {H : Hp} {h : Heap} {a : Addr} (ok : HOk P w H h) (e : H a = some (.dK [])) : Reads h (.ref a) (.dict []) [a] ∧ (a == sysModules) = false := by
  obtain ⟨_, h2, vs, hkv, o, es, n, ho, hx, hd, _, hl, _⟩ := dk_of ok e
  have hv : vs = [] := by cases hkv; rfl
  subst hv
  have hes : es.toList = [] := by
    cases z : es.toList with
    | nil => rfl
    | cons x r =>
      rw [z] at hl
      cases hl
  exact ⟨.dict (as := []) (bs := []) ho hx.1 hd (by rw [hes]; exact .nil) (by rw [hes]; exact .nil), h2⟩
section
variable {X : Cx} {ω : List Cell} {P : PO1}
theorem call_reprD (hgd : X.A.guards = some []) (hu : X.A.units + 64 < cLine) : CallR X (.builtin "repr") (rReprD X.K) := by
  intro pins s σ H xs us Q I r h
  rcases h with h | ⟨a, rfl, ha, q⟩
  · exact call_repr hgd hu pins s σ H xs us Q I r h
  · obtain ⟨u, rfl, rx⟩ := vals1 r
    cases (show u = Value.ref a from rx)
    obtain ⟨hrd, hsm⟩ := dic_reads I.hok ha
    refine repr_of_reads' hrd rfl (fun _ z => ?_) hgd (by show X.A.units + _ < cLine; have : (PyData.dict []).depth ≤ 1 := by decide +kernel
                                                          omega) (fun _ _ e => e) (fun h' u tk hk => ⟨.str _, H, I.kept hk, ⟨_, rfl⟩, q⟩) (by decide +kernel)
    rw [List.mem_singleton] at z
    rw [← z, beq_self_eq_true] at hsm
    cases hsm
theorem ra_reprD {d : D} (hs : Shows d) (hp : P (.val (.str d.shown)) ω) : RA X (rReprD X.K) [.val d] ω P := fun B F H as vs w s Q o => .inl (ra_repr hs hp B F H as vs w s Q o)
theorem ra_reprDic (hp : P (.val (.str (PyData.dict []).shown)) ω) : RA X (rReprD X.K) [.kn dicK] ω P := fun B F H as vs w s Q o => by
  obtain ⟨v, rfl, s1⟩ := rs1 s
  obtain ⟨a, rfl, ha⟩ := slk_dic s1
  exact .inr ⟨a, rfl, w.b _ _ ha, o.here w (.str _) hp⟩
end
/-! ### lists of slots that grow -/
section
variable {X : Cx} {e : Expr} {es : List Expr} {δ : List Sl} {ω : List Cell} {P : PO1} {pos : Pos}
theorem lsC_new {K : Fg} {B F H : Hp} {as : List Addr} {p : Addr} {vs : List V} {rs : List Sl} (w : Wd K B F H as ω) (hp : H p = none) (hf : rs.all Sl.free = true) (s : RsOk K B as vs rs) : Wd K B F (upd H p (.lst vs)) (as ++ [p]) (ω ++ [lsC rs]) :=
  w.own hp fun hb => ⟨hb, B, _, Same.refl _, upd_same, vs, rfl, rs_free hf s⟩
theorem rr_catLSO {x y : Sl} {rs ss : List Sl} (h1 : SeqM ω x rs) (h2 : SeqM ω y ss) (f1 : rs.all Sl.free = true) (f2 : ss.all Sl.free = true) (hz : rs.length + ss.length ≤ 1000000) (hp : P (.own ω.length) (ω ++ [lsC (rs ++ ss)])) : RR X (rPlus X.K) x y ω P := fun B F H as v u w s1 s2 Q o => by
  obtain ⟨a, xs, rfl, g1, g2⟩ := h1.get w s1
  obtain ⟨b, ys, rfl, g3, g4⟩ := h2.get w s2
  refine .inr (.inr ⟨a, b, xs, ys, rfl, rfl, g1, g3, by rw [rs_len g2, rs_len g4]; exact Nat.le_trans hz (by decide), fun p hp' => ?_⟩)
  have w2 := lsC_new (rs := rs ++ ss) w hp' (by rw [List.all_append, f1, f2]; rfl) (rs_app g2 g4)
  refine o _ B _ _ _ _ (Same.refl _) (List.prefix_append _ _) w2 (slo ?_) hp
  rw [← w.len, List.getElem?_append_right (Nat.le_refl _), Nat.sub_self]
  rfl
theorem de_lstSO (h : DA X es δ ω fun rs ω1 => rs.all Sl.free = true ∧ rs.length ≤ sizeLine ∧ P (.own ω1.length) (ω1 ++ [lsC rs])) : DE X (.List es pos) δ ω P := fun B F H as σ w ev Q o =>
  ⟨_, pe_lst pa_w, h B F H as σ w ev _ fun vs B1 H1 as1 rs ω1 e1 p1 w1 s1 ⟨hf, hl, hp⟩ => by
    refine ⟨by rw [rs_len s1]; exact hl, fun p hp' => ?_⟩
    have w2 := lsC_new w1 hp' hf s1
    refine o _ B1 _ _ _ _ e1 (p1.trans (List.prefix_append _ _)) w2 (slo ?_) hp
    rw [← w1.len, List.getElem?_append_right (Nat.le_refl _), Nat.sub_self]
    rfl⟩
theorem de_appendS {xs : Expr} {apos cpos : Pos} (h : DE X xs δ ω fun r ω1 => ∃ kx rs, r = .own kx ∧ ω1[kx]? = some (lsC rs) ∧ DE X e δ ω1 fun s ω2 => ∃ rs2, s.free = true ∧ ω2[kx]? = some (lsC rs2) ∧ rs2.length < 100000 ∧ P (.val .none) (ω2.set kx (lsC (rs2 ++ [s]))))
    (hbase : attributeBase xs "append" X.env (eval xs X.env) = eval xs X.env := by rfl)
    (hfew : ((backTo cpos (starEach (e :: []) X.env)).all (fun x => !x.1) && (backToKw cpos (keywordEach [] X.env)).all (fun x => x.1.isSome) && decide ((e :: ([] : List Expr)).length + ([] : List Keyword).length + (if ([] : List Keyword).isEmpty then 0 else 1) < 30)) = true := by rfl)
    (hline : (apos.endLine == cpos.line) = true := by rfl) (hs : starEach (e :: []) X.env = (false, eval e X.env) :: starEach [] X.env := by rfl) (hplain : (backTo cpos (starEach [] X.env)).any (·.1) = false := by rfl) :
    DE X (.Call (.Attribute xs "append" apos) [e] [] cpos) δ ω P := fun B F H as σ w ev Q o => by
  refine ⟨_, pe_bm PySem.F.plainAttrs_list PySem.F.slot_list_append PySem.F.type_list_append mt_append pe_w (pa_cons pe_w pa_nil hs) hbase hfew hline hs hplain, ?_⟩
  refine h B F H as σ w ev _ fun v B1 H1 as1 r ω1 e1 p1 w1 s1 ⟨kx, rs, er, hk, q1⟩ => ?_
  subst er
  obtain ⟨a, xs, rfl, ha, hb, h1, h2⟩ := slo_lsC w1 s1 hk
  refine ⟨.inl ⟨rfl, xs, SqL.of h1⟩, ?_⟩
  refine q1 B1 F H1 as1 σ w1 (envOk_up e1 p1 ev) _ fun u B2 H2 as2 r2 ω2 e2 p2 w2 s2 ⟨rs2, hf2, hk2, hz, hp⟩ => ?_
  have ha2 := pre_get p2 ha
  obtain ⟨hb2, B0, ob, sb, h3, ys, rfl, h4⟩ := (w2.at' kx a _ ha2 hk2).2.2
  refine ⟨a, ys, u, rfl, rfl, h3, ?_, ?_⟩
  · rw [rs_len h4]
    exact Nat.lt_of_lt_of_le hz (by decide)
  · have w3 := w2.write (c' := lsC (rs2 ++ [r2])) (o := .lst (ys ++ [u])) ha2 hk2 hb2 ⟨hb2, B2, _, Same.refl _, upd_same, ys ++ [u], rfl, rs_app (rsOk_up sb (List.prefix_refl _) h4) (.cons (sl_free hf2 s2) .nil)⟩
    exact o _ B2 _ as2 _ _ (e1.trans e2) (p1.trans p2) w3 (slv .non) hp
end
section
variable {X : Cx} {e : Expr} {ts : List Expr} {δ : List Sl} {ω : List Cell} {pos : Pos} {k : Kd}
theorem d1_unpS {is : List Nat} {t : TGs} {kk : Nat} {p : Pos} (hc : X.calm = true) (hg : PGs X ts t) (gs : GSet t is) (h : DE X e δ ω fun r ω1 => ∃ rs, r = .kn (tupK rs) ∧ rs.length = is.length ∧ k.nx (setS δ is rs) ω1)
    (hn : (assignEach ts X.env).length = is.length := by rfl) (hst : (assignEach ts X.env).findIdx? (·.1) = none := by rfl)
    (hs : swapsWithSole [.Tuple ts kk p] e pos.line X.env = pure false := by rfl) (hw : swappedStores [.Tuple ts kk p] e X.env = pure none := by rfl)
    (h1 : (assignEach [.Tuple ts kk p] X.env).map (·.2) = [assign (.Tuple ts kk p) X.env] := by rfl) : D1 X (.Assign [.Tuple ts kk p] e pos) δ ω k := fun B F H as σ w ev E o => by
  refine ⟨_, ps_asg pe_w (pg_tup hc hg hn hst) hs hw h1, ?_⟩
  refine h B F H as σ w ev _ fun v B1 H1 as1 r ω1 e1 p1 w1 s1 ⟨rs, er, hl, hp⟩ => ?_
  subst er
  obtain ⟨a, xs, rfl, g1, g2⟩ := slk_tup s1
  have hlx : xs.length = is.length := by rw [rs_len g2, hl]
  exact ⟨a, xs, rfl, sqT_up w1.b g1, hlx, gset_run gs hlx ((o.nx.up e1 p1).here w1 (env_setS (envOk_up e1 p1 ev) g2) hp)⟩
/-- f() -/
theorem de_callU0 {x : Str} {p : Pos} {j : Nat} {P : PO1} {φ : List Sl → List Cell → PO1 → Prop} (C : Has X.prog X.w X.K X.mg X.base j x (spU X.K φ)) (hr : Room j X.A) (hg : Gl X x)
    (h : φ [] [] fun r ω2 => P (ren [] ω.length r) (ω ++ ω2)) (hdb : (x == ("__debug__" : Str)) = false := by decide) : DE X (.Call (.Name x p) [] [] pos) δ ω P := fun B F H as σ w ev Q o => by
  obtain ⟨f, fd, ps, hf, hm, hk, hb⟩ := C.ex
  refine ⟨_, pe_call0 hf hr hg hm hk hb .nil pass0 hdb, ?_⟩
  have hka : ∀ i ∈ ([] : List Nat), i < as.length := nofun
  obtain ⟨F', wF, back, _⟩ := w.frameL (ks := []) nofun .nil
  show spU X.K φ ([] ++ []) H Q E0
  refine ⟨B, F', pkA as [], [], pkC ω [], _, wF, .nil, h, fun v B' H' as' r ω' sb pp w' hlv hs hp => ?_⟩
  have w2 := back B' H' as' ω' sb pp w' hlv
  have s2 := sl_unpick hka pp hs
  rw [w.len] at s2
  have e1 : putC ω [] ω' ++ ω'.drop ([] : List Nat).length = ω ++ ω' := by cases ω' <;> rfl
  rw [e1] at w2
  exact o v B' H' _ _ _ sb (List.prefix_append _ _) w2 s2 hp
end
end
section
/-! == and != of any data without dicts; a list times an int -/
def rEqP (K : Fg) : R2 := fun x y H Q => ∃ d e, Dp K H x d ∧ Dp K H y e ∧ d.plain = true ∧ e.plain = true ∧ d.depth ≤ 60 ∧ Q (.bl (PyData.eqv d e)) H
def rNeP (K : Fg) : R2 := fun x y H Q => ∃ d e, Dp K H x d ∧ Dp K H y e ∧ d.plain = true ∧ e.plain = true ∧ d.depth ≤ 60 ∧ Q (.bl (!PyData.eqv d e)) H
section
variable {X : Cx}
theorem op_eqP (hu : X.A.units + 64 < cLine) : OpR X (compareOp .Eq) (rEqP X.K) := by
  intro pins s σ H x y v u Q I rx ry h
  obtain ⟨d, e, hd, he, sd, se, hz, q⟩ := h
  obtain ⟨as, r1⟩ := Dp.reads I d x v hd rx
  obtain ⟨bs, r2⟩ := Dp.reads I e y u he ry
  exact SeqAt.eq_plain r1 r2 sd se (by omega) ⟨.bl _, H, I, rfl, q⟩
theorem op_neP (hu : X.A.units + 64 < cLine) : OpR X (compareOp .NotEq) (rNeP X.K) := by
  intro pins s σ H x y v u Q I rx ry h
  obtain ⟨d, e, hd, he, sd, se, hz, q⟩ := h
  obtain ⟨as, r1⟩ := Dp.reads I d x v hd rx
  obtain ⟨bs, r2⟩ := Dp.reads I e y u he ry
  exact SeqAt.ne_plain r1 r2 sd se (by omega) ⟨.bl _, H, I, rfl, q⟩
/-- data, or a list that is owned -/
inductive PlS (ω : List Cell) : Sl → D → Prop
  | val (d : D) : PlS ω (.val d) d
  | own {k : Nat} {ds : List D} (h : ω[k]? = some (.lst ds)) : PlS ω (.own k) (.list ds)
theorem PlS.get {K : Fg} {B F H : Hp} {as : List Addr} {ω : List Cell} {v : V} {r : Sl} {d : D} (w : Wd K B F H as ω) (q : PlS ω r d) (s : SlOk K B as (some v) r) : Dp K H v d := by
  cases q with
  | val => exact dp_up w.b (sl_val s)
  | own hc =>
    obtain ⟨a, xs, rfl, _, h1, h2⟩ := slo_lst w s hc
    exact .lst (SqL.of h1) (dpAll_up w.b h2)
variable {ω : List Cell} {P : PO1} {x y : Sl} {d e : D}
theorem rr_eqP (h1 : PlS ω x d) (h2 : PlS ω y e) (hd : d.plain = true) (he : e.plain = true) (hz : d.depth ≤ 60) (hp : P (.val (.bool (PyData.eqv d e))) ω) : RR X (rEqP X.K) x y ω P := fun B F H as v u w s1 s2 Q o =>
  ⟨d, e, h1.get w s1, h2.get w s2, hd, he, hz, o.here w (.bl _) hp⟩
theorem rr_neP (h1 : PlS ω x d) (h2 : PlS ω y e) (hd : d.plain = true) (he : e.plain = true) (hz : d.depth ≤ 60) (hp : P (.val (.bool (!PyData.eqv d e))) ω) : RR X (rNeP X.K) x y ω P := fun B F H as v u w s1 s2 Q o =>
  ⟨d, e, h1.get w s1, h2.get w s2, hd, he, hz, o.here w (.bl _) hp⟩
theorem rr_repL {k : Nat} {ds : List D} {n : Int} (hc : ω[k]? = some (.lst ds)) (h0 : 0 ≤ n ∧ n ≤ 1000) (hz : ds.length ≤ 1000) (hp : P (.val (.list (repD n.toNat ds))) ω) : RR X rRep (.own k) (.val (.int n)) ω P := fun B F H as v u w s1 s2 Q o => by
  obtain ⟨a, xs, rfl, _, h1, h2⟩ := slo_lst w s1 hc
  obtain rfl := dp_int_inv (sl_val s2)
  refine ⟨a, n, xs, rfl, rfl, h1, by omega, by omega, ?_, fun p hp' => o.lst w hp' (dp_rep h2 _) hp⟩
  rw [dpAll_len h2]
  have h3 : ds.length * n.toNat ≤ 1000 * 1000 := Nat.mul_le_mul hz (by omega)
  exact Nat.le_trans h3 (by decide)
end
end
section
/-! a walk over slots whose turns give up their new cells -/
section
variable {X : Cx} {tg iter : Expr} {body : List Stmt} {δ : List Sl} {ω : List Cell} {k : Kd} {pos : Pos}
theorem d1_forSF (hp : PassesOwn (model X.prog X.w) X.A X.env X.xe) (hc : X.calm = true)
    (h : DIS X tg iter δ ω fun G its ω1 => ∃ Iv : Nat → List Sl → List Cell → Prop, (∀ i δ' ω', Iv i δ' ω' → G ω') ∧ Iv 0 δ ω1 ∧
      (∀ i d δ' ω', its[i]? = some d → Iv i δ' ω' → DGS X (List.range δ'.length) tg d δ' fun δ2 => DS X body δ2 ω' { nx := fun δ3 ω3 => Iv (i + 1) (δ3.map (cutS ω1.length)) (ω3.take ω1.length), ct := fun δ3 ω3 => Iv (i + 1) (δ3.map (cutS ω1.length)) (ω3.take ω1.length), bk := k.nx, rt := k.rt }) ∧ ∀ δ' ω', Iv its.length δ' ω' → k.nx δ' ω')
    (hs : ∀ x, foldedSetIterable iter X.env x = pure x := by intro _; rfl) : D1 X (.For tg iter body [] pos) δ ω k := fun B F H as σ w ev E o => by
  refine ⟨_, ps_for hp hc pi_w pg_w pss_w hs, ?_⟩
  refine h B F H as σ w ev _ fun J G its B1 H1 as1 ω1 e1 p1 w1 hit ⟨Iv, hG, h0, ht, hd⟩ => ?_
  have hl1 : as1.length = ω1.length := w1.len
  refine ⟨fun i m σ' H' => m = its.length - i ∧ i ≤ its.length ∧ ∃ B' δ' ω', Same B1 B' ∧ Wd X.K B' F H' as1 ω' ∧ EnvOk X.K B' as1 σ' δ' ∧ Iv i δ' ω',
    ⟨its.length, by omega, Nat.zero_le _, B1, δ, ω1, Same.refl _, w1, envOk_up e1 p1 ev, h0⟩, fun i m σ' H' hW => ?_⟩
  obtain ⟨rfl, hi, B', δ', ω', e2, w2, ev2, hI⟩ := hW
  by_cases hlt : i < its.length
  · obtain ⟨hgo, hy⟩ := (hit B' F H' as1 ω' e2 (List.prefix_refl _) w2 (hG _ _ _ hI)).1 i its[i] (List.getElem?_eq_getElem hlt)
    refine .inr ⟨hgo, fun σ3 H3 => ∃ B' δ' ω', Same B1 B' ∧ Wd X.K B' F H3 as1 ω' ∧ EnvOk X.K B' as1 σ3 δ' ∧ Iv (i + 1) δ' ω', fun σ3 H3 q => ⟨its.length - (i + 1), by omega, rfl, hlt, q⟩, fun x H3 q => ?_⟩
    obtain ⟨B2, e3, w3, d3⟩ := hy x H3 q
    have again : ∀ {σ5 H5 B5 as5 δ5 ω5}, Same B2 B5 → as1 <+: as5 → Wd X.K B5 F H5 as5 ω5 → EnvOk X.K B5 as5 σ5 δ5 → Iv (i + 1) (δ5.map (cutS ω1.length)) (ω5.take ω1.length) → ∃ B' δ' ω', Same B1 B' ∧ Wd X.K B' F H5 as1 ω' ∧ EnvOk X.K B' as1 σ5 δ' ∧ Iv (i + 1) δ' ω' := fun {σ5 H5 B5 as5 δ5 ω5} e5 p5 w5 ev5 q5 => by
      have w6 := w5.cut p5
      have ev6 := envOk_cut p5 ev5
      rw [hl1] at w6 ev6
      exact ⟨B5, _, _, (e2.trans e3).trans e5, w6, ev6, q5⟩
    refine ht i its[i] δ' ω' (List.getElem?_eq_getElem hlt) hI B2 H3 as1 σ' x w3.b (envOk_up e3 (List.prefix_refl _) ev2) d3 _ fun σ4 δ4 ev4 _ _ hb => ?_
    refine hb B2 F H3 as1 σ4 w3 ev4 _ ⟨fun σ5 H5 B5 as5 δ5 ω5 e5 p5 w5 ev5 q5 => again e5 p5 w5 ev5 q5, ?_, fun σ5 H5 B5 as5 δ5 ω5 e5 p5 w5 ev5 q5 => again e5 p5 w5 ev5 q5, ?_⟩
    · exact o.nx.up (((e1.trans e2).trans e3)) p1
    · exact o.rt.up (((e1.trans e2).trans e3)) p1
  · have ei : i = its.length := by omega
    subst ei
    exact .inl ⟨(hit B' F H' as1 ω' e2 (List.prefix_refl _) w2 (hG _ _ _ hI)).2, (o.nx.up (e1.trans e2) p1).here w2 ev2 (hd δ' ω' hI)⟩
end
end
section
/-! t[::-1] of a tuple -/
section
variable {prog : Program} {w : World} {A : Around} {E : Value → Shared → Prop} {s : Shared}
theorem sliceApplied_rev {sl : Addr} {vs : Value} {n : Nat} {Q : Int × Int × Nat → Shared → Prop} (hs : s.heap.IsSliceOf sl .none .none vs) (ps : IsPart vs (some (-1)))
    (h : Q ((n : Int) - 1, -1, n) s) : wpAny (model prog w) A (Builtin.Slice.sliceApplied (.ref sl) (pure (n : Int))) Q E s := by
  obtain ⟨os, hos, hcs, hds⟩ := id hs
  unfold Builtin.Slice.sliceApplied Builtin.Slice.sliceFields
  refine wpAny_bind (wpAny_bind (wpAny_field hos hds (x := .none) rfl (wpAny_bind (wpAny_field hos hds (x := .none) rfl (wpAny_bind (wpAny_field hos hds (x := vs) rfl (wpAny_pure ?_)))))))
  refine wpAny_bind (HT.slicePart_ ps ?_)
  show wpAny _ _ (if ((-1 : Int) == 0) = true then _ else _) _ _ s
  rw [if_neg (by decide)]
  refine wpAny_bind (HT.slicePart_ .none (wpAny_bind (HT.slicePart_ .none (wpAny_bind (wpAny_pure ?_)))))
  show wpAny _ _ (pure ((n : Int) - 1, (-1 : Int), Builtin.Slice.slicePlaces ((n : Int) - 1) (-1) (-1))) _ _ s
  have e : Builtin.Slice.slicePlaces ((n : Int) - 1) (-1) (-1) = n := by
    unfold Builtin.Slice.slicePlaces
    rw [if_neg (by decide)]
    by_cases h0 : n = 0
    · subst h0; rfl
    · rw [if_pos (by omega), show (-(-1) : Int) = 1 from rfl, Int.ediv_one]
      omega
  rw [e]
  exact wpAny_pure h
theorem pick_rev (xs : Array Value) : ((List.range xs.size).filterMap fun (m : Nat) => xs[(((xs.size : Int) - 1) + (m : Int) * (-1)).toNat]?).toArray = xs.toList.reverse.toArray := by
  have e : List.filterMap (fun (m : Nat) => xs[(((xs.size : Int) - 1) + (m : Int) * (-1)).toNat]?) (List.range xs.size) = List.filterMap (fun i => xs[i]?) ((List.range xs.size).map fun k => xs.size - 1 - k) := by
    rw [List.filterMap_map]
    have g : ∀ (l : List Nat) (f h : Nat → Option Value), (∀ m ∈ l, f m = h m) → l.filterMap f = l.filterMap h := by
      intro l f h
      induction l with
      | nil => intro _; rfl
      | cons m r ih =>
        intro q
        rw [List.filterMap_cons, List.filterMap_cons, q m List.mem_cons_self, ih fun x hx => q x (List.mem_cons_of_mem _ hx)]
    refine g _ _ _ fun m hm => ?_
    have hm := List.mem_range.mp hm
    have e : (((xs.size : Int) - 1) + (m : Int) * (-1)).toNat = xs.size - 1 - m := by omega
    show xs[(((xs.size : Int) - 1) + (m : Int) * (-1)).toNat]? = xs[xs.size - 1 - m]?
    rw [e]
  rw [e, PySem.W.krv_range, List.filterMap_reverse, PySem.W.krv_all]
theorem getItem_tuple_rev {t sl : Addr} {items : Array Value} {vs : Value} {Q : Value → Shared → Prop} (ht : IsTup s.heap t items) (hs : s.heap.IsSliceOf sl .none .none vs) (ps : IsPart vs (some (-1)))
    (h : Q (.ref s.heap.objs.size) { s with heap := s.heap.push { cls := .type "tuple", data := .seq items.toList.reverse.toArray } })
    (hsz : items.size ≤ sizeLine) : wpAny (model prog w) A (getItem (.ref t) (.ref sl)) Q E s := by
  have htake : sizeOk (.seq items.toList.reverse.toArray) := by
    show items.toList.reverse.toArray.size ≤ sizeLine
    rw [List.size_toArray, List.length_reverse, Array.length_toList]
    exact hsz
  obtain ⟨os, hos, hcs, hds⟩ := id hs
  have hTs : s.TypeIs (.ref sl) "slice" := ⟨os, hos, hcs⟩
  unfold getItem
  try with_reducible refine wpAny_holding ?_
  first | refine wpAny_bind (wpAny_pure ?_) | skip
  refine wpAny_bind (wpAny_sequenceKey ht.typeIs (by decide) ?_)
  refine wpAny_bind (wpAny_callSpecial?_slot (name := Str.ofString "__getitem__") ht.typeIs PyProof.Rows.slot_tuple_getitem
    (wpAny_call_entry PyProof.Rows.slot_tuple_getitem ht.typeIs entry_tuple_getitem ?_ (args_tuple_getitem _ _)))
  show wpAny _ _ (Builtin.Tuple.tupleItemsOf (.ref t) >>= _) _ _ s
  refine wpAny_bind (tupleItemsOf_ ht ?_)
  refine wpAny_bind (wpAny_typeOf hTs ?_)
  rw [if_pos (by decide)]
  refine wpAny_bind (sliceApplied_rev hs ps ?_)
  have hno : ¬ ((((items.size : Int) - 1) == 0 && (-1 : Int) == 1 && items.size == items.size) = true) := by
    intro q
    rw [Bool.and_eq_true, Bool.and_eq_true] at q
    have := q.1.2
    revert this
    decide
  show wpAny _ _ (if (((items.size : Int) - 1) == 0 && (-1 : Int) == 1 && items.size == items.size) = true then _ else _) _ _ s
  rw [if_neg hno, pick_rev]
  first
    | exact wpAny_bind (m := Builtin.Tuple.tupleExact _) (wpAny_newObj_type (wpAny_pure ⟨_, rfl, wpAny_pure h⟩) htake)
    | exact wpAny_bind (m := Builtin.Tuple.tupleExact _) (wpAny_newObj_type (wpAny_bind (wpAny_pure (wpAny_pure ⟨_, rfl, wpAny_pure h⟩))) htake)
    | exact wpAny_bind (wpAny_bind (m := Builtin.Tuple.tupleExact _) (wpAny_newObj_type (wpAny_pure (wpAny_pure ⟨_, rfl, wpAny_pure h⟩)) htake))
    | exact wpAny_bind (wpAny_bind (m := Builtin.Tuple.tupleExact _) (wpAny_newObj_type (wpAny_pure ⟨_, rfl, wpAny_pure h⟩) htake))
end
section
variable {X : Cx}
def tRevT (K : PySem.W.Frag) (te : TE) : TE := fun σ H Q => te σ H fun x H1 => ∃ a xs, x = .ref a ∧ SqT K H1 a xs ∧ ∀ p, H1 p = none → Q (.ref p) (upd H1 p (.tup xs.reverse))
theorem pe_revT {e : Expr} {te : TE} {k : Nat} {p1 p2 p3 pos : Pos} (he : PE X e te) : PE X (.Subscript e (.Slice none none (some (.UnaryOp .USub (.Constant (.int 1) k p1) p2)) p3) pos) (tRevT X.K te) := by
  refine ⟨fun pins s σ H Q I h => ?_⟩
  refine Subscript_ (thn (he.run pins s σ H _ I h) fun v s1 ⟨x, H1, I1, r1, q1⟩ => ?_)
  obtain ⟨a, xs, ex, hx, q⟩ := q1
  subst ex
  cases r1
  have hst : PO X (some (.UnaryOp .USub (.Constant (.int 1) k p1) p2)) (tPart (tUn (rU fun i => .int (-i)) (tC (.int 1)))) := po_some (pe_un un_neg pe_int)
  refine wpAny_Slice (thn (po_none.run pins s1 σ H1 (fun o H2 => o = none ∧ H2 = H1) I1 ⟨rfl, rfl⟩) fun vl s2 ⟨l, H2, I2, pl, el, e2⟩ => ?_)
  subst el e2
  refine thn (po_none.run pins s2 σ H2 (fun o H3 => o = none ∧ H3 = H2) I2 ⟨rfl, rfl⟩) fun vu s3 ⟨u, H3, I3, pu, eu, e3⟩ => ?_
  subst eu e3
  refine thn (hst.run pins s3 σ H3 (fun o H4 => o = some (-1) ∧ H4 = H3) I3 ⟨1, rfl, -1, rfl, rfl, rfl⟩) fun vs s4 ⟨o, H4, I4, ps, eo, e4⟩ => ?_
  subst eo e4
  cases pl
  cases pu
  have I5 : Inv X pins σ H4 { s4 with heap := s4.heap.push { cls := .type "slice", data := .fields #[.none, .none, vs] } } := I4.kept (t' := s4.toks) fun b ob q => Heap.get?_push_of_some _ q
  obtain ⟨its, r, ht, hz⟩ := I5.tuple hx
  have hlen := r.length
  show wpAny (model X.prog X.w) X.A (subscriptTail e (.Slice none none (some (.UnaryOp .USub (.Constant (.int 1) k p1) p2)) p3) (.ref a) (.ref s4.heap.objs.size)) (EP X pins σ Q) X.xe { s4 with heap := s4.heap.push { cls := .type "slice", data := .fields #[.none, .none, vs] } }
  refine tail_any (ops := [.ref a, .ref s4.heap.objs.size]) ht.typeIs (PyProof.Rows.slot_tuple_getitem.lookup) ?_ (by with_unfolding_all rfl)
  refine getItem_tuple_rev ht (Heap.IsSliceOf.new _ .none .none vs) ps ?_ (by rw [List.size_toArray, ← hlen]; exact hz)
  refine ⟨.ref _, _, I5.laid (t' := s4.toks) (o := .tup xs.reverse) (fun b ob q => Heap.get?_push_of_some _ q) (Nat.le_refl _) ?_, rfl, q _ (I5.hok.fresh (Nat.le_refl _))⟩
  exact ⟨by rw [List.length_reverse]; exact hz, _, r.reverse, IsTup.new _ _⟩
theorem dpAll_rev {K : Fg} {H : Hp} : ∀ {vs : List V} {ds : List D}, DpAll K H vs ds → DpAll K H vs.reverse ds.reverse
  | _, _, .nil => .nil
  | _, _, .cons h q => by
    rw [List.reverse_cons, List.reverse_cons]
    exact dpAll_app (dpAll_rev q) (.cons h .nil)
variable {e : Expr} {δ : List Sl} {ω : List Cell} {P : PO1}
theorem de_revT {k : Nat} {p1 p2 p3 pos : Pos} (h : DE X e δ ω fun r ω1 => ∃ ds, r = .val (.tuple ds) ∧ P (.val (.tuple ds.reverse)) ω1) : DE X (.Subscript e (.Slice none none (some (.UnaryOp .USub (.Constant (.int 1) k p1) p2)) p3) pos) δ ω P := fun B F H as σ w ev Q o => by
  refine ⟨_, pe_revT pe_w, ?_⟩
  refine h B F H as σ w ev _ fun x B1 H1 as1 rx ω1 e1 p1 w1 s1 ⟨ds, ex, hp⟩ => ?_
  subst ex
  obtain ⟨a, xs, rfl, hx, hd⟩ := slv_tup s1 w1.b
  exact ⟨a, xs, rfl, hx, fun p hp' => (o.up e1 p1).tup w1 hp' (dpAll_rev hd) hp⟩
end
end
section
/-! list.count of flat items; a list of data known by its slots as a datum -/
section
variable {X : Cx} {o e : Expr} {es : List Expr} {δ : List Sl} {ω : List Cell} {P : PO1} {pos : Pos}
def rCntL (K : Fg) : V → List V → Hp → VK → Prop := fun x xs H Q => ∃ (p : Addr) (ys : List V) (k : V), x = .ref p ∧ xs = [k] ∧ flatV k = true ∧ ys.all flatV = true ∧ SqL K H p ys ∧ Q (.int ((ys.countP fun y => eqV y k : Nat) : Int)) H
theorem mt_lcountF : MtR X "list.count" (rCntL X.K) := by
  intro pins s σ H x xs v us Q I rx rxs h
  obtain ⟨p, ys, k, rfl, rfl, hk, hys, hs, q⟩ := h
  cases rx
  obtain ⟨u, rfl, ru⟩ := rxs.one
  obtain ⟨its, rv, ⟨⟨cls, dd, dt, sl⟩, n, ho, hc, hdn, hd⟩, hz⟩ := I.list hs
  simp only at hc hd
  subst hc hd
  refine call_meets PySem.F.slot_list_count ⟨_, ho, rfl⟩ PySem.F.entry_list_count (PySem.F.args_list_count_2 _ _) (SeqAt.list_countAt p its.toArray n dd sl u (eqU k))
    ⟨ho, fun y hy => mem_eqAt ru hk rv hys y (by simpa using hy), ⟨.int (ys.countP fun y => eqV y k : Nat), H, I.tok _, ⟨s.toks, ?_⟩, q⟩⟩
  rw [show its.toArray.toList.countP (eqU k) = ys.countP fun y => eqV y k from countP_vals rv hys]
theorem de_countL {xs : Expr} {apos cpos : Pos} (h : DE X xs δ ω fun r ω1 => ∃ ds, r = .val (.list ds) ∧ DE X e δ ω1 fun s ω2 => ∃ d, s = .val d ∧ flat d = true ∧ ds.all flat = true ∧ P (.val (.int (cntD ds d : Nat))) ω2)
    (hbase : attributeBase xs "count" X.env (eval xs X.env) = eval xs X.env := by rfl)
    (hfew : ((backTo cpos (starEach (e :: []) X.env)).all (fun x => !x.1) && (backToKw cpos (keywordEach [] X.env)).all (fun x => x.1.isSome) && decide ((e :: ([] : List Expr)).length + ([] : List Keyword).length + (if ([] : List Keyword).isEmpty then 0 else 1) < 30)) = true := by rfl)
    (hline : (apos.endLine == cpos.line) = true := by rfl) (hs : starEach (e :: []) X.env = (false, eval e X.env) :: starEach [] X.env := by rfl) (hplain : (backTo cpos (starEach [] X.env)).any (·.1) = false := by rfl) :
    DE X (.Call (.Attribute xs "count" apos) [e] [] cpos) δ ω P := fun B F H as σ w ev Q oo => by
  refine ⟨_, pe_bm PySem.F.plainAttrs_list PySem.F.slot_list_count PySem.F.type_list_count mt_lcountF pe_w (pa_cons pe_w pa_nil hs) hbase hfew hline hs hplain, ?_⟩
  refine h B F H as σ w ev _ fun v B1 H1 as1 r ω1 e1 p1 w1 s1 ⟨ds, er, q1⟩ => ?_
  subst er
  obtain ⟨a, ys, rfl, i1, i2⟩ := slv_lst s1 w1.b
  refine ⟨.inl ⟨rfl, ys, i1⟩, ?_⟩
  refine q1 B1 F H1 as1 σ w1 (envOk_up e1 p1 ev) _ fun u B2 H2 as2 r2 ω2 e2 p2 w2 s2 ⟨d, er2, hfd, hfa, hp⟩ => ?_
  subst er2
  obtain ⟨a', zs, ea, h3, h4⟩ := slv_lst (slOk_up e2 p2 s1) w2.b
  cases ea
  obtain ⟨f1, f2⟩ := dp_flat (sl_val s2) hfd
  obtain ⟨f3, f4⟩ := dpAll_flat h4 hfa
  refine ⟨a, zs, u, rfl, rfl, f2, f4, h3, ?_⟩
  have ec : (zs.countP fun y => eqV y u) = cntD ds d := by
    unfold cntD
    rw [f1, f3]
  rw [ec]
  exact (oo.up (e1.trans e2) (p1.trans p2)).here w2 (.int _) hp
/-- a list of data that is known by its slots is a datum -/
theorem DE.asL (h : DE X e δ ω fun r ω1 => ∃ ds : List D, r = .kn (lstK (ds.map Sl.val)) ∧ P (.val (.list ds)) ω1) : DE X e δ ω P := fun B F H as σ w ev Q oo => by
  refine h B F H as σ w ev _ fun v B1 H1 as1 r ω1 e1 p1 w1 s1 ⟨ds, er, hp⟩ => ?_
  subst er
  obtain ⟨a, xs, rfl, h1, h2⟩ := slk_lst s1
  exact oo (.ref a) B1 H1 as1 _ ω1 e1 p1 w1 (slv (.lst (SqL.of h1) (rs_unval h2))) hp
end
end
section
/-! xs[i:j] of a list of slots -/
def cutR (rs : List Sl) (lo hi : Option Int) : List Sl := (rs.drop (HT.sIx rs.length 0 lo)).take (HT.sIx rs.length rs.length hi - HT.sIx rs.length 0 lo)
theorem rs_take {K : Fg} {B : Hp} {as : List Addr} : ∀ (n : Nat) {vs : List V} {rs : List Sl}, RsOk K B as vs rs → RsOk K B as (vs.take n) (rs.take n)
  | 0, _, _, _ => .nil
  | _ + 1, _, _, .nil => .nil
  | n + 1, _, _, .cons a q => .cons a (rs_take n q)
theorem rs_drop {K : Fg} {B : Hp} {as : List Addr} : ∀ (n : Nat) {vs : List V} {rs : List Sl}, RsOk K B as vs rs → RsOk K B as (vs.drop n) (rs.drop n)
  | 0, _, _, h => h
  | _ + 1, _, _, .nil => .nil
  | n + 1, _, _, .cons _ q => rs_drop n q
theorem rs_cut {K : Fg} {B : Hp} {as : List Addr} {vs : List V} {rs : List Sl} (h : RsOk K B as vs rs) (lo hi : Option Int) : RsOk K B as (cutV vs lo hi) (cutR rs lo hi) := by
  unfold cutV cutR
  rw [rs_len h]
  exact rs_take _ (rs_drop _ h)
section
variable {X : Cx} {e : Expr} {δ : List Sl} {ω : List Cell} {P : PO1} {pos : Pos}
theorem de_sliceLK {lo hi : Option Expr} {p2 : Pos} (h : DE X e δ ω fun x ω1 => ∃ rs, x = .kn (lstK rs) ∧ rs.all Sl.free = true ∧ DO X lo δ ω1 fun i ω2 => DO X hi δ ω2 fun j ω3 => P (.kn (lstK (cutR rs i j))) ω3) : DE X (.Subscript e (.Slice lo hi none p2) pos) δ ω P := fun B F H as σ w ev Q o => by
  refine ⟨_, pe_slice sl_list pe_w po_w po_w, ?_⟩
  refine h B F H as σ w ev _ fun x B1 H1 as1 rx ω1 e1 p1 w1 s1 ⟨rs, ex, hf, q1⟩ => ?_
  subst ex
  refine do_run q1 w1 (envOk_up e1 p1 ev) _ fun i B2 H2 as2 ω2 e2 p2 w2 q2 => ?_
  refine do_run q2 w2 (envOk_up (e1.trans e2) (p1.trans p2) ev) _ fun j B3 H3 as3 ω3 e3 p3 w3 q3 => ?_
  obtain ⟨a, xs, rfl, hB, hr⟩ := slk_lst (slOk_up (e2.trans e3) (p2.trans p3) s1)
  have o3 := o.up ((e1.trans e2).trans e3) ((p1.trans p2).trans p3)
  exact ⟨a, xs, rfl, SqL.of (w3.b _ _ hB), fun p hp => o3.kn w3 hp ⟨p, cutV xs i j, rfl, upd_same, rsOk_up (w3.new (o := .lst (cutV xs i j)) hp).2 (List.prefix_refl _) (rs_cut (rs_free hf hr) i j)⟩ q3⟩
end
end
section
/-! values of any sort, as trees: numbers, texts, tuples, lists, two dicts, things of own classes; each has its slot -/
def dic1K : Fg → Hp → V → Prop := fun K B v => ∃ a x, v = .ref a ∧ B a = some (.dK [(.inl 0, x)]) ∧ Dp K B x (.tuple [])
inductive W where
  | non
  | bl (b : Bool)
  | int (i : Int)
  | str (s : Str)
  | lst (ws : List W)
  | tup (ws : List W)
  | dct0
  | dct1
  | obj (C : Addr) (fs : List (Str × Sl)) (t : Str)
mutual
def W.sl : W → Sl
  | .non => .val .none
  | .bl b => .val (.bool b)
  | .int i => .val (.int i)
  | .str s => .val (.str s)
  | .lst ws => .kn (lstK (slAll ws))
  | .tup ws => .kn (tupK (slAll ws))
  | .dct0 => .kn dicK
  | .dct1 => .kn dic1K
  | .obj C fs _ => .kn (insI C fs)
def slAll : List W → List Sl
  | [] => []
  | w :: ws => w.sl :: slAll ws
end
theorem slAll_map : ∀ ws : List W, slAll ws = ws.map W.sl
  | [] => rfl
  | w :: ws => by rw [slAll, slAll_map ws]; rfl
theorem W.free (w : W) : w.sl.free = true := by cases w <;> rfl
theorem slAll_free (ws : List W) : (slAll ws).all Sl.free = true := by
  rw [slAll_map, List.all_eq_true]
  intro r hr
  obtain ⟨w, _, rfl⟩ := List.mem_map.mp hr
  exact w.free
theorem slAll_len (ws : List W) : (slAll ws).length = ws.length := by rw [slAll_map, List.length_map]
theorem slAll_app (a b : List W) : slAll (a ++ b) = slAll a ++ slAll b := by rw [slAll_map, slAll_map, slAll_map, List.map_append]
theorem W.no (w : W) : w.sl ≠ .no := by cases w <;> nofun
/-! ### data as values -/
mutual
def W.of : D → W
  | .none => .non
  | .bool b => .bl b
  | .int i => .int i
  | .str s => .str s
  | .list ds => .lst (ofAll ds)
  | .tuple ds => .tup (ofAll ds)
  | .dict _ => .dct0
def ofAll : List D → List W
  | [] => []
  | d :: ds => W.of d :: ofAll ds
end
theorem ofAll_map : ∀ ds : List D, ofAll ds = ds.map W.of
  | [] => rfl
  | d :: ds => by rw [ofAll, ofAll_map ds]; rfl
mutual
/-- tuples only -/
def tO : D → Bool
  | .list _ => false
  | .dict _ => false
  | .tuple ds => tOAll ds
  | .none => true
  | .bool _ => true
  | .int _ => true
  | .str _ => true
def tOAll : List D → Bool
  | [] => true
  | d :: ds => tO d && tOAll ds
end
mutual
theorem of_in {K : Fg} {B : Hp} {as : List Addr} : ∀ (d : D) (v : V), tO d = true → Dp K B v d → SlOk K B as (some v) (W.of d).sl
  | .none, _, _, h => ⟨_, rfl, h⟩
  | .bool _, _, _, h => ⟨_, rfl, h⟩
  | .int _, _, _, h => ⟨_, rfl, h⟩
  | .str _, _, _, h => ⟨_, rfl, h⟩
  | .tuple ds, v, ht, h => by
    obtain ⟨a, xs, rfl, h1, h2⟩ := dp_tup_inv h
    exact ⟨_, B, rfl, Same.refl _, a, xs, rfl, h1, ofAll_in ds xs ht h2⟩
  | .list _, _, ht, _ => by cases ht
  | .dict _, _, ht, _ => by cases ht
theorem ofAll_in {K : Fg} {B : Hp} {as : List Addr} : ∀ (ds : List D) (vs : List V), tOAll ds = true → DpAll K B vs ds → RsOk K B as vs (slAll (ofAll ds))
  | [], _, _, .nil => .nil
  | d :: ds, _, ht, .cons h q => by
    have ht : (tO d && tOAll ds) = true := ht
    rw [Bool.and_eq_true] at ht
    exact .cons (of_in d _ ht.1 h) (ofAll_in ds _ ht.2 q)
end
mutual
theorem of_out {K : Fg} {B : Hp} {as : List Addr} : ∀ (d : D) (v : V), tO d = true → SlOk K B as (some v) (W.of d).sl → Dp K B v d
  | .none, _, _, h => sl_val h
  | .bool _, _, _, h => sl_val h
  | .int _, _, _, h => sl_val h
  | .str _, _, _, h => sl_val h
  | .tuple ds, v, ht, h => by
    obtain ⟨a, xs, rfl, h1, h2⟩ := slk_tup h
    exact .tup h1 (ofAll_out ds xs ht h2)
  | .list _, _, ht, _ => by cases ht
  | .dict _, _, ht, _ => by cases ht
theorem ofAll_out {K : Fg} {B : Hp} {as : List Addr} : ∀ (ds : List D) (vs : List V), tOAll ds = true → RsOk K B as vs (slAll (ofAll ds)) → DpAll K B vs ds
  | [], _, _, .nil => .nil
  | d :: ds, _, ht, .cons h q => by
    have ht : (tO d && tOAll ds) = true := ht
    rw [Bool.and_eq_true] at ht
    exact .cons (of_out d _ ht.1 h) (ofAll_out ds _ ht.2 q)
end
/-- one slot says what another says -/
def SlImp (r r' : Sl) : Prop := ∀ (K : Fg) (B : Hp) (as : List Addr) (v : V), SlOk K B as (some v) r → SlOk K B as (some v) r'
theorem imp_of {d : D} (h : tO d = true) : SlImp (.val d) (W.of d).sl := fun K B as v s => of_in d v h (sl_val s)
theorem imp_to {d : D} (h : tO d = true) : SlImp (W.of d).sl (.val d) := fun K B as v s => ⟨v, rfl, of_out d v h s⟩
section
variable {X : Cx} {e a b : Expr} {es : List Expr} {δ : List Sl} {ω : List Cell} {P : PO1} {pos : Pos}
theorem DE.imp (h : DE X e δ ω fun r ω1 => ∃ r', SlImp r r' ∧ P r' ω1) : DE X e δ ω P := fun B F H as σ w ev Q oo =>
  h B F H as σ w ev Q fun v B' H' as' r ω' sb pp w' hs ⟨r', hi, hp⟩ => oo v B' H' as' r' ω' sb pp w' (hi _ _ _ _ hs) hp
theorem DE.toW (h : DE X e δ ω fun r ω1 => ∃ d, r = .val d ∧ tO d = true ∧ P (W.of d).sl ω1) : DE X e δ ω P := DE.imp (h.mono fun r ω1 ⟨d, er, hd, hp⟩ => ⟨_, by subst er; exact imp_of hd, hp⟩)
theorem set_same' {α : Type} : ∀ {l : List α} {i : Nat} {x : α}, l[i]? = some x → l.set i x = l
  | [], _, _, h => by simp at h
  | y :: l, 0, x, h => by
    simp at h
    subst h
    rfl
  | y :: l, i + 1, x, h => by
    rw [List.set_cons_succ, set_same' (by simpa using h)]
/-- a name whose slot is read as another -/
theorem ds_slot {st : List Stmt} {k : Kd} (i : Nat) {r r' : Sl} (hi : δ[i]? = some r) (h : SlImp r r') (hn : r ≠ .no) (hd : DS X st (δ.set i r') ω k) : DS X st δ ω k := fun B F H as σ w ev E o => by
  refine hd B F H as σ w ?_ E o
  obtain ⟨ov, h1, h2⟩ := envOk_get ev hi
  have : EnvOk X.K B as (σ.set i ov) (δ.set i r') := envOk_set (by
    cases ov with
    | none =>
      cases r with
      | no => exact absurd rfl hn
      | val d => obtain ⟨v, e, _⟩ := h2; cases e
      | own k => obtain ⟨v, e, _⟩ := h2; cases e
      | kn p => obtain ⟨v, B0, e, _⟩ := h2; cases e
    | some v => exact h _ _ _ _ h2) i ev
  rw [set_same' h1] at this
  exact this
/-! ### types -/
structure ObjC (K : Fg) (C : Addr) : Prop where
  cls : Cls K C
  isi : SlX.SIsi K C
  ki : PySem.W.kitOne K (.ref C) (.type "int") = some false
  kt : PySem.W.kitOne K (.ref C) (.type "tuple") = some false
mutual
def W.has (K : Fg) : W → Prop
  | .obj C _ _ => ObjC K C
  | .lst ws => hasAll K ws
  | .tup ws => hasAll K ws
  | .non => True
  | .bl _ => True
  | .int _ => True
  | .str _ => True
  | .dct0 => True
  | .dct1 => True
def hasAll (K : Fg) : List W → Prop
  | [] => True
  | w :: ws => w.has K ∧ hasAll K ws
end
theorem hasAll_mem {K : Fg} : ∀ {ws : List W}, hasAll K ws → ∀ w ∈ ws, w.has K
  | x :: ws, h, w, hw => by
    rcases List.mem_cons.mp hw with rfl | hw
    · exact h.1
    · exact hasAll_mem h.2 w hw
theorem hasAll_of {K : Fg} : ∀ {ws : List W}, (∀ w ∈ ws, w.has K) → hasAll K ws
  | [], _ => trivial
  | x :: ws, h => ⟨h x List.mem_cons_self, hasAll_of fun w hw => h w (List.mem_cons_of_mem _ hw)⟩
def W.ty : W → Value
  | .non => .type "NoneType"
  | .bl _ => .type "bool"
  | .int _ => .type "int"
  | .str _ => .type "str"
  | .lst _ => .type "list"
  | .tup _ => .type "tuple"
  | .dct0 => .type "dict"
  | .dct1 => .type "dict"
  | .obj C _ _ => .ref C
theorem W.typ {K : Fg} {B F H : Hp} {as : List Addr} {ω : List Cell} {v : V} (w : Wd K B F H as ω) : ∀ {x : W}, x.has K → SlOk K B as (some v) x.sl → TyX K H v x.ty
  | .non, _, s => TyS.get w (.val .none) s
  | .bl b, _, s => TyS.get w (.val (.bool b)) s
  | .int b, _, s => TyS.get w (.val (.int b)) s
  | .str b, _, s => TyS.get w (.val (.str b)) s
  | .lst ws, _, s => TyS.get w (.lst _) s
  | .tup ws, _, s => TyS.get w (.tup _) s
  | .dct0, _, s => by
    obtain ⟨a, rfl, h⟩ := slk_dic s
    exact .base (.dK (w.b _ _ h))
  | .dct1, _, s => by
    obtain ⟨v', B0, e, sb, a, x, h1, h2, h3⟩ := s
    cases e
    subst h1
    exact .base (.dK (w.b _ _ (sb _ _ h2)))
  | .obj C fs t, ho, s => TyS.get w (.ins _ ho.cls ho.isi) s
def W.isInt : W → Bool
  | .int _ => true
  | .bl _ => true
  | _ => false
def W.isBl : W → Bool
  | .bl _ => true
  | _ => false
def W.isTup : W → Bool
  | .tup _ => true
  | _ => false
def W.isNon : W → Bool
  | .non => true
  | _ => false
theorem kitW_int {K : Fg} : ∀ {w : W}, w.has K → PySem.W.kitOne K w.ty (.type "int") = some w.isInt
  | .non, _ => L2.kit_ty (show kitB "NoneType" "int" = some false from by decide +kernel)
  | .bl _, _ => L2.kit_ty (show kitB "bool" "int" = some true from by decide +kernel)
  | .int _, _ => L2.kit_ty (show kitB "int" "int" = some true from by decide +kernel)
  | .str _, _ => L2.kit_ty (show kitB "str" "int" = some false from by decide +kernel)
  | .lst _, _ => L2.kit_ty (show kitB "list" "int" = some false from by decide +kernel)
  | .tup _, _ => L2.kit_ty (show kitB "tuple" "int" = some false from by decide +kernel)
  | .dct0, _ => L2.kit_ty (show kitB "dict" "int" = some false from by decide +kernel)
  | .dct1, _ => L2.kit_ty (show kitB "dict" "int" = some false from by decide +kernel)
  | .obj _ _ _, h => h.ki
theorem kitW_tup {K : Fg} : ∀ {w : W}, w.has K → PySem.W.kitOne K w.ty (.type "tuple") = some w.isTup
  | .non, _ => L2.kit_ty (show kitB "NoneType" "tuple" = some false from by decide +kernel)
  | .bl _, _ => L2.kit_ty (show kitB "bool" "tuple" = some false from by decide +kernel)
  | .int _, _ => L2.kit_ty (show kitB "int" "tuple" = some false from by decide +kernel)
  | .str _, _ => L2.kit_ty (show kitB "str" "tuple" = some false from by decide +kernel)
  | .lst _, _ => L2.kit_ty (show kitB "list" "tuple" = some false from by decide +kernel)
  | .tup _, _ => L2.kit_ty (show kitB "tuple" "tuple" = some true from by decide +kernel)
  | .dct0, _ => L2.kit_ty (show kitB "dict" "tuple" = some false from by decide +kernel)
  | .dct1, _ => L2.kit_ty (show kitB "dict" "tuple" = some false from by decide +kernel)
  | .obj _ _ _, h => h.kt
/-- isinstance(e, x) of a value -/
theorem de_isiW {x : Str} {Ty : String} {p p2 : Pos} (hg : Gl X "isinstance") (hm : X.mg "isinstance" = none) (hgT : Gl X x) (hmT : X.mg x = none) (hv : bootBuiltins x = some (.type Ty))
    (h : DE X e δ ω fun r ω1 => ∃ w k, r = W.sl w ∧ w.has X.K ∧ PySem.W.kitOne X.K w.ty (.type Ty) = some k ∧ P (.val (.bool k)) ω1) (hn : x ≠ "__name__" := by decide) (hdb : (x == ("__debug__" : Str)) = false := by decide)
    (hs1 : starEach [e, .Name x p2] X.env = (false, eval e X.env) :: starEach [.Name x p2] X.env := by rfl) (hs2 : starEach [.Name x p2] X.env = (false, eval (.Name x p2) X.env) :: starEach [] X.env := by rfl)
    (hpl : (backTo pos (starEach [.Name x p2] X.env)).any (·.1) = false := by rfl) : DE X (.Call (.Name "isinstance" p) [e, .Name x p2] [] pos) δ ω P := fun B F H as σ w ev Q o => by
  refine ⟨_, pe_callB call_isi hg hm boot_isinstance (pa_cons pe_w (pa_cons (pe_bltn (v := .ty Ty) hgT hmT hv rfl hn hdb) pa_nil hs2) hs1) (by decide) (by decide) hs1 hpl, ?_⟩
  refine h B F H as σ w ev _ fun v B1 H1 as1 r ω1 e1 p1 w1 s1 ⟨x, k, er, ho, hk, hp⟩ => ?_
  subst er
  exact ⟨v, .ty Ty, x.ty, .type Ty, k, rfl, .ty Ty, x.typ w1 ho s1, hk, (o.up e1 p1).here w1 (.bl _) hp⟩
/-- e is None -/
theorem rr_isNW {w : W} (hp : P (.val (.bool w.isNon)) ω) : RR X (fun x y H Q => y = .non ∧ Q (.bl (decide (x = .non))) H) w.sl (.val .none) ω P := fun B F H as v u wd s1 s2 Q o => by
  obtain rfl := dp_non_inv (sl_val s2)
  refine ⟨rfl, ?_⟩
  have e : decide (v = V.non) = w.isNon := by
    cases w with
    | non => rw [dp_non_inv (sl_val s1)]; rfl
    | bl b => rw [dp_bl_inv (sl_val s1)]; rfl
    | int b => rw [dp_int_inv (sl_val s1)]; rfl
    | str b => rw [dp_str_inv (sl_val s1)]; rfl
    | lst ws => obtain ⟨a, xs, rfl, _⟩ := slk_lst s1; rfl
    | tup ws => obtain ⟨a, xs, rfl, _⟩ := slk_tup s1; rfl
    | dct0 => obtain ⟨a, rfl, _⟩ := slk_dic s1; rfl
    | dct1 =>
      obtain ⟨v', B0, e, sb, a, x, h1, h2, h3⟩ := s1
      cases e
      subst h1
      rfl
    | obj C fs t => obtain ⟨a, dx, vs, rfl, _⟩ := slk_insI s1; rfl
  rw [e]
  exact o.here wd (.bl _) hp
theorem rr_notNW {w : W} (hp : P (.val (.bool (!w.isNon))) ω) : RR X (fun x y H Q => y = .non ∧ Q (.bl (!decide (x = .non))) H) w.sl (.val .none) ω P := fun B F H as v u wd s1 s2 Q o => by
  refine rr_isNW (P := fun r ω' => ∃ b, r = .val (.bool b) ∧ P (.val (.bool (!b))) ω') ⟨_, rfl, hp⟩ B F H as v u wd s1 s2 (fun z H' => ∃ b, z = .bl b ∧ Q (.bl (!b)) H') (fun z B' H' as' r ω' sb pp w' hs ⟨b, er, hq⟩ => ?_) |> fun ⟨h1, b, h2, h3⟩ => ⟨h1, ?_⟩
  · subst er
    obtain rfl := dp_bl_inv (sl_val hs)
    exact ⟨b, rfl, o _ B' H' as' _ ω' sb pp w' (slv (.bl _)) hq⟩
  · cases h2
    exact h3
/-! ### tuples of slots: slices, put together, turned round -/
theorem de_sliceTK {lo hi : Option Expr} {p2 : Pos} (h : DE X e δ ω fun x ω1 => ∃ rs, x = .kn (tupK rs) ∧ rs.all Sl.free = true ∧ DO X lo δ ω1 fun i ω2 => DO X hi δ ω2 fun j ω3 => P (.kn (tupK (cutR rs i j))) ω3) : DE X (.Subscript e (.Slice lo hi none p2) pos) δ ω P := fun B F H as σ w ev Q o => by
  refine ⟨_, pe_slice sl_tupA pe_w po_w po_w, ?_⟩
  refine h B F H as σ w ev _ fun x B1 H1 as1 rx ω1 e1 p1 w1 s1 ⟨rs, ex, hf, q1⟩ => ?_
  subst ex
  refine do_run q1 w1 (envOk_up e1 p1 ev) _ fun i B2 H2 as2 ω2 e2 p2 w2 q2 => ?_
  refine do_run q2 w2 (envOk_up (e1.trans e2) (p1.trans p2) ev) _ fun j B3 H3 as3 ω3 e3 p3 w3 q3 => ?_
  have s3 := slOk_up (e2.trans e3) (p2.trans p3) s1
  obtain ⟨a, xs, rfl, h1, h2⟩ := slk_tup s3
  have o3 := o.up ((e1.trans e2).trans e3) ((p1.trans p2).trans p3)
  refine ⟨a, xs, rfl, sqT_up w3.b h1, fun z => ?_, fun _ p hp => o3.kn w3 hp ⟨p, cutV xs i j, rfl, SqT.of upd_same, rsOk_up (w3.new (o := .tup (cutV xs i j)) hp).2 (List.prefix_refl _) (rs_cut (rs_free hf h2) i j)⟩ q3⟩
  have e0 : cutR rs i j = rs := by
    unfold cutR
    rw [← rs_len h2, z.1, z.2, rs_len h2, List.drop_zero, Nat.sub_zero, List.take_length]
  rw [e0] at q3
  exact o3.sl w3 s3 q3
theorem rr_catTK {rs ss : List Sl} (f1 : rs.all Sl.free = true) (f2 : ss.all Sl.free = true) (hz : rs.length + ss.length ≤ 1000000) (hp : P (.kn (tupK (rs ++ ss))) ω) : RR X (rPlus X.K) (.kn (tupK rs)) (.kn (tupK ss)) ω P := fun B F H as v u w s1 s2 Q o => by
  obtain ⟨a, xs, rfl, h1, h2⟩ := slk_tup s1
  obtain ⟨b, ys, rfl, g1, g2⟩ := slk_tup s2
  refine .inr (.inl ⟨a, b, xs, ys, rfl, rfl, sqT_up w.b h1, sqT_up w.b g1, by rw [rs_len h2, rs_len g2]; exact Nat.le_trans hz (by decide), fun z => ?_, fun _ z => ?_, fun _ _ p hp' => o.kn w hp' ⟨p, xs ++ ys, rfl, SqT.of upd_same, rsOk_up (w.new (o := .tup (xs ++ ys)) hp').2 (List.prefix_refl _) (rs_app (rs_free f1 h2) (rs_free f2 g2))⟩ hp⟩)
  · subst z
    cases h2
    exact o.sl w s2 hp
  · subst z
    cases g2
    rw [List.append_nil] at hp
    exact o.sl w s1 hp
theorem rs_rev {K : Fg} {B : Hp} {as : List Addr} : ∀ {vs : List V} {rs : List Sl}, RsOk K B as vs rs → RsOk K B as vs.reverse rs.reverse
  | _, _, .nil => .nil
  | _, _, .cons h q => by
    rw [List.reverse_cons, List.reverse_cons]
    exact rs_app (rs_rev q) (.cons h .nil)
theorem de_revTK {k : Nat} {p1 p2 p3 pos : Pos} (h : DE X e δ ω fun r ω1 => ∃ rs, r = .kn (tupK rs) ∧ rs.all Sl.free = true ∧ P (.kn (tupK rs.reverse)) ω1) : DE X (.Subscript e (.Slice none none (some (.UnaryOp .USub (.Constant (.int 1) k p1) p2)) p3) pos) δ ω P := fun B F H as σ w ev Q o => by
  refine ⟨_, pe_revT pe_w, ?_⟩
  refine h B F H as σ w ev _ fun x B1 H1 as1 rx ω1 e1 p1 w1 s1 ⟨rs, ex, hf, hp⟩ => ?_
  subst ex
  obtain ⟨a, xs, rfl, hx, hd⟩ := slk_tup s1
  exact ⟨a, xs, rfl, sqT_up w1.b hx, fun p hp' => (o.up e1 p1).kn w1 hp' ⟨p, xs.reverse, rfl, SqT.of upd_same, rsOk_up (w1.new (o := .tup xs.reverse) hp').2 (List.prefix_refl _) (rs_rev (rs_free hf hd))⟩ hp⟩
/-- list(t) -/
theorem ra_listTK {rs : List Sl} (hf : rs.all Sl.free = true) (hp : P (.kn (lstK rs)) ω) :
    RA X (fun xs H Q => ∃ p ys, xs = [.ref p] ∧ (SqL X.K H p ys ∨ SqT X.K H p ys) ∧ ∀ l, H l = none → Q (.ref l) (upd H l (.lst ys))) [.kn (tupK rs)] ω P := fun B F H as vs w s Q o => by
  obtain ⟨v, rfl, s1⟩ := rs1 s
  obtain ⟨a, xs, rfl, h, hds⟩ := slk_tup s1
  exact ⟨a, xs, rfl, .inr (sqT_up w.b h), fun l hl => o.kn w hl ⟨l, xs, rfl, upd_same, rsOk_up (w.new (o := .lst xs) hl).2 (List.prefix_refl _) (rs_free hf hds)⟩ hp⟩
end
end
section
/-! repr of values of any sort that hold no thing of an own class -/
mutual
def W.py : W → D
  | .non => .none
  | .bl b => .bool b
  | .int i => .int i
  | .str s => .str s
  | .lst ws => .list (pyAll ws)
  | .tup ws => .tuple (pyAll ws)
  | .dct0 => .dict []
  | .dct1 => .dict [(.int 0, .tuple [])]
  | .obj _ _ _ => .none
def pyAll : List W → List D
  | [] => []
  | w :: ws => w.py :: pyAll ws
end
mutual
/-- nothing of an own class within -/
def W.pure : W → Bool
  | .obj _ _ _ => false
  | .lst ws => pureAll ws
  | .tup ws => pureAll ws
  | .non => true
  | .bl _ => true
  | .int _ => true
  | .str _ => true
  | .dct0 => true
  | .dct1 => true
def pureAll : List W → Bool
  | [] => true
  | w :: ws => w.pure && pureAll ws
end
mutual
theorem W.pure_has {K : Fg} : ∀ w : W, w.pure = true → w.has K
  | .obj _ _ _, h => by cases h
  | .lst ws, h => pureAll_has ws h
  | .tup ws, h => pureAll_has ws h
  | .non, _ => trivial
  | .bl _, _ => trivial
  | .int _, _ => trivial
  | .str _, _ => trivial
  | .dct0, _ => trivial
  | .dct1, _ => trivial
theorem pureAll_has {K : Fg} : ∀ ws : List W, pureAll ws = true → hasAll K ws
  | [], _ => trivial
  | w :: ws, h => by
    have h : (w.pure && pureAll ws) = true := h
    rw [Bool.and_eq_true] at h
    exact ⟨W.pure_has w h.1, pureAll_has ws h.2⟩
end
theorem dic1_reads {P : Program} {w : World} {H : Hp} {h : Heap} {a : Addr} {x : V} (ok : HOk P w H h) (e : H a = some (.dK [(.inl 0, x)])) (hx : ∀ u, RelV x u → Reads h u (.tuple []) []) :
    Reads h (.ref a) (.dict [(.int 0, .tuple [])]) [a] ∧ (a == sysModules) = false := by
  obtain ⟨_, h2, vs, hkv, o, es, n, ho, hxd, hd, _, hl, _⟩ := dk_of ok e
  refine ⟨?_, h2⟩
  obtain ⟨u, rfl, ev⟩ : ∃ u, vs = [(Sum.inl 0, u)] ∧ RelV x u := by
    match vs, hkv with
    | [(k1, u)], .cons h1 .nil => exact ⟨u, by rw [show k1 = Sum.inl 0 from h1.1.symm], h1.2⟩
  generalize hes : es.toList = l at hl
  match l, hl with
  | [e1], .cons g1 g2 .nil =>
    obtain ⟨t, et⟩ : ∃ t, e1.key = .int 0 t := by
      rcases keyIs_shape (show keyIs (.inl 0) e1.key = true from g1) with ⟨i, t, ei, q⟩ | ⟨z, t, ei, q⟩
      · cases ei
        exact ⟨t, q⟩
      · cases ei
    have r2 := hx u ev
    have g2 : e1.val = u := g2
    exact .dict (as := []) (bs := []) ho hxd.1 hd (by rw [hes]; show ReadsAll h [e1.key] [.int 0] []; rw [et]; exact .cons (as := []) (bs := []) (.int 0 t) .nil) (by rw [hes]; show ReadsAll h [e1.val] [.tuple []] []; rw [g2]; exact .cons (as := []) (bs := []) r2 .nil)
theorem tup_reads {X : Cx} {pins : List (Addr × Obj)} {σ : L2.St} {H : Hp} {s : Shared} (I : Inv X pins σ H s) {x : V} (h : Dp X.K H x (.tuple [])) : ∀ u, RelV x u → Reads s.heap u (.tuple []) [] := fun u r => by
  obtain ⟨a, xs, rfl, h1, h2⟩ := dp_tup_inv h
  cases h2
  cases (show u = Value.ref a from r)
  obtain ⟨its, r1, ⟨o, ho, hc, n, hd⟩, _⟩ := I.tuple h1
  cases r1
  exact .tuple ho hc hd .nil
theorem not_sys {a : Addr} (h : (a == sysModules) = false) : sysModules ∉ [a] := fun z => by
  rw [List.mem_singleton] at z
  rw [← z, beq_self_eq_true] at h
  cases h
theorem most_nil {h : Heap} {n : Nat} : ReadAtMost h n [] := fun _ z => nomatch z
section
variable {X : Cx} {pins : List (Addr × Obj)} {σ : L2.St} {H : Hp} {s : Shared}
mutual
theorem W.rp (I : Inv X pins σ H s) : ∀ (w : W) (v : V) (u : Value), w.pure = true → SlOk X.K H [] (some v) w.sl → RelV v u → w.py.showable = true → w.py.shown.length ≤ sizeLine →
    ∃ as bs, Reads s.heap u w.py as ∧ ReadAtMost s.heap w.py.depth bs ∧ ReprK X.prog X.w bs s.heap w.py.depth u w.py.shown
  | .non, v, u, _, hs, r, h1, h2 => by
    obtain rfl := dp_non_inv (sl_val hs)
    cases (show u = Value.none from r)
    obtain ⟨bs, hb, hk⟩ := ReprK.of_reads (prog := X.prog) (w := X.w) (h₀ := s.heap) Reads.none h1 (fun z => by cases z) h2
    exact ⟨_, bs, .none, hb, hk⟩
  | .bl b, v, u, _, hs, r, h1, h2 => by
    obtain rfl := dp_bl_inv (sl_val hs)
    cases (show u = Value.bool b from r)
    obtain ⟨bs, hb, hk⟩ := ReprK.of_reads (prog := X.prog) (w := X.w) (h₀ := s.heap) (Reads.bool b) h1 (fun z => by cases z) h2
    exact ⟨_, bs, .bool b, hb, hk⟩
  | .int i, v, u, _, hs, r, h1, h2 => by
    obtain rfl := dp_int_inv (sl_val hs)
    obtain ⟨t, rfl⟩ := r
    obtain ⟨bs, hb, hk⟩ := ReprK.of_reads (prog := X.prog) (w := X.w) (h₀ := s.heap) (Reads.int i t) h1 (fun z => by cases z) h2
    exact ⟨_, bs, .int i t, hb, hk⟩
  | .str x, v, u, _, hs, r, h1, h2 => by
    obtain rfl := dp_str_inv (sl_val hs)
    obtain ⟨t, rfl⟩ := r
    obtain ⟨bs, hb, hk⟩ := ReprK.of_reads (prog := X.prog) (w := X.w) (h₀ := s.heap) (Reads.str x t) h1 (fun z => by cases z) h2
    exact ⟨_, bs, .str x t, hb, hk⟩
  | .dct0, v, u, _, hs, r, h1, h2 => by
    obtain ⟨a, rfl, ha⟩ := slk_dic hs
    cases (show u = Value.ref a from r)
    obtain ⟨rd, hn⟩ := dic_reads I.hok ha
    obtain ⟨bs, hb, hk⟩ := ReprK.of_reads (prog := X.prog) (w := X.w) rd h1 (fun _ => not_sys hn) h2
    exact ⟨_, bs, rd, hb, hk⟩
  | .dct1, v, u, _, hs, r, h1, h2 => by
    obtain ⟨v', B0, e, sb, a, x, rfl, g2, g3⟩ := hs
    cases e
    cases (show u = Value.ref a from r)
    obtain ⟨rd, hn⟩ := dic1_reads I.hok (sb _ _ g2) (tup_reads I (dp_up sb g3))
    obtain ⟨bs, hb, hk⟩ := ReprK.of_reads (prog := X.prog) (w := X.w) rd h1 (fun _ => not_sys hn) h2
    exact ⟨_, bs, rd, hb, hk⟩
  | .obj _ _ _, _, _, hp, _, _, _, _ => by cases hp
  | .lst ws, v, u, hp, hs, r, h1, h2 => by
    obtain ⟨a, xs, rfl, g1, g2⟩ := slk_lst hs
    cases (show u = Value.ref a from r)
    obtain ⟨_, its, n, r1, _, ho⟩ := I.lstM g1
    have hz : (listText (PyData.shownAll (pyAll ws))).length ≤ sizeLine := by simpa only [W.py, PyData.shown] using h2
    obtain ⟨as, bs, rs, hb, hk⟩ := rpAll I ws xs its hp g2 r1 (by simpa only [W.py, PyData.showable] using h1) (fun t ht => Nat.le_trans (listText_mem_le ht) hz)
    have rd : Reads s.heap (.ref a) (.list (pyAll ws)) (a :: as) := .list ho rfl rfl (by simpa using rs)
    have hna : a ∉ bs := not_mem_of_deeper rd (by simp only [PyData.depth]; omega) hb
    refine ⟨_, a :: bs, rd, .cons rd (by show _ ≤ (PyData.list (pyAll ws)).depth; simp only [PyData.depth]; omega) hb, ?_⟩
    simp only [W.py, PyData.depth, PyData.shown]
    cases its with
    | nil =>
      cases rs' : pyAll ws with
      | nil => exact .listEmpty ho rfl rfl
      | cons d ds =>
        rw [rs'] at rs
        cases rs
    | cons y l => exact .list ho rfl rfl hna (by simpa using hk.length_eq) fun i z e => hk.item i z (by simpa using e)
  | .tup ws, v, u, hp, hs, r, h1, h2 => by
    obtain ⟨a, xs, rfl, g1, g2⟩ := slk_tup hs
    cases (show u = Value.ref a from r)
    obtain ⟨its, r1, ⟨o, ho, hc, n, hd⟩, _⟩ := I.tuple g1
    have hz : (tupleText (PyData.shownAll (pyAll ws))).length ≤ sizeLine := by simpa only [W.py, PyData.shown] using h2
    obtain ⟨as, bs, rs, hb, hk⟩ := rpAll I ws xs its hp g2 r1 (by simpa only [W.py, PyData.showable] using h1) (fun t ht => Nat.le_trans (tupleText_mem_le ht) hz)
    have rd : Reads s.heap (.ref a) (.tuple (pyAll ws)) as := .tuple ho hc hd (by simpa using rs)
    have hna : a ∉ bs := not_mem_of_deeper rd (by simp only [PyData.depth]; omega) hb
    refine ⟨_, a :: bs, rd, .cons rd (by show _ ≤ (PyData.tuple (pyAll ws)).depth; simp only [PyData.depth]; omega) hb, ?_⟩
    simp only [W.py, PyData.depth, PyData.shown]
    exact .tuple ho hc hd hna (by simpa using hk)
theorem rpAll (I : Inv X pins σ H s) : ∀ (ws : List W) (vs : List V) (us : List Value), pureAll ws = true → RsOk X.K H [] vs (slAll ws) → Vals vs us → PyData.showableAll (pyAll ws) = true → (∀ t ∈ PyData.shownAll (pyAll ws), t.length ≤ sizeLine) →
    ∃ as bs, ReadsAll s.heap us (pyAll ws) as ∧ ReadAtMost s.heap (PyData.depthAll (pyAll ws)) bs ∧ ReprAllK X.prog X.w bs s.heap (PyData.depthAll (pyAll ws)) us (PyData.shownAll (pyAll ws))
  | [], _, _, _, hs, r, _, _ => by
    cases hs
    cases r
    exact ⟨[], [], .nil, most_nil, .nil⟩
  | w :: ws, _, _, hp, hs, r, h1, h2 => by
    cases hs with
    | cons s1 s2 =>
      cases r with
      | cons r1 r2 =>
        have hp : (w.pure && pureAll ws) = true := hp
        rw [Bool.and_eq_true] at hp
        have h1 : (w.py.showable && PyData.showableAll (pyAll ws)) = true := h1
        rw [Bool.and_eq_true] at h1
        obtain ⟨a1, b1, q1, m1, k1⟩ := W.rp I w _ _ hp.1 s1 r1 h1.1 (h2 _ List.mem_cons_self)
        obtain ⟨a2, b2, q2, m2, k2⟩ := rpAll I ws _ _ hp.2 s2 r2 h1.2 fun t ht => h2 t (List.mem_cons_of_mem _ ht)
        have e1 : w.py.depth ≤ PyData.depthAll (pyAll (w :: ws)) := Nat.le_max_left _ _
        have e2 : PyData.depthAll (pyAll ws) ≤ PyData.depthAll (pyAll (w :: ws)) := Nat.le_max_right _ _
        exact ⟨a1 ++ a2, b1 ++ b2, .cons q1 q2, (m1.mono e1).append (m2.mono e2), .cons ((k1.more fun b hb => List.mem_append_left _ hb).level_le e1) (k2.more_le (fun b hb => List.mem_append_right _ hb) e2)⟩
end
end
/-- can be shown -/
structure W.Shows (w : W) : Prop where
  p : w.pure = true
  s : w.py.showable = true
  d : w.py.depth ≤ 40
  z : w.py.shown.length ≤ sizeLine
def rReprW (K : Fg) : List V → Hp → VK → Prop := fun xs H Q => ∃ x w, xs = [x] ∧ SlOk K H [] (some x) (W.sl w) ∧ w.Shows ∧ Q (.str w.py.shown) H
section
variable {X : Cx} {ω : List Cell} {P : PO1}
theorem call_reprW (hgd : X.A.guards = some []) (hu : X.A.units + 64 < cLine) : CallR X (.builtin "repr") (rReprW X.K) := by
  intro pins s σ H xs us Q I r h
  obtain ⟨x, w, rfl, hs, hw, q⟩ := h
  obtain ⟨u, rfl, rx⟩ := vals1 r
  obtain ⟨as, bs, rd, hb, hk⟩ := W.rp I w x u hw.p hs rx hw.s hw.z
  have hd := hw.d
  have fin : ∀ (h' : Heap) (u : Tok) (tk : Nat), (∀ b o, s.heap.get? b = some o → h'.get? b = some o) → EP X pins σ Q (.str w.py.shown u) { s with heap := h', toks := tk } := fun h' u tk hk => ⟨.str _, H, I.kept hk, ⟨_, rfl⟩, q⟩
  cases w with
  | non =>
    obtain rfl := dp_non_inv (sl_val hs)
    cases (show u = Value.none from rx)
    exact PySem.P.repr_of_none (fin _ _ _ fun _ _ e => e)
  | bl b =>
    obtain rfl := dp_bl_inv (sl_val hs)
    cases (show u = Value.bool b from rx)
    exact PySem.P.repr_of_bool (fin _ _ _ fun _ _ e => e)
  | int i =>
    obtain rfl := dp_int_inv (sl_val hs)
    obtain ⟨t, rfl⟩ := rx
    exact PySem.P.repr_of_int (by simpa [W.py, PyData.showable] using hw.s) (fin _ _ _ fun _ _ e => e)
  | str z =>
    obtain rfl := dp_str_inv (sl_val hs)
    obtain ⟨t, rfl⟩ := rx
    exact PySem.P.repr_of_str (fin _ _ _ fun _ _ e => e) hw.z
  | obj _ _ _ => cases hw.p
  | dct0 =>
    obtain ⟨a, rfl, ha⟩ := slk_dic hs
    cases (show u = Value.ref a from rx)
    obtain ⟨rd, hn⟩ := dic_reads I.hok ha
    have hz0 : (PyData.dict []).depth ≤ 3 := by decide +kernel
    exact repr_of_reads' rd hw.s (fun _ => not_sys hn) hgd (by omega) (fun _ _ e => e) fin hw.z
  | dct1 =>
    obtain ⟨v', B0, e, sb, a, y, rfl, g2, g3⟩ := hs
    cases e
    cases (show u = Value.ref a from rx)
    obtain ⟨rd, hn⟩ := dic1_reads I.hok (sb _ _ g2) (tup_reads I (dp_up sb g3))
    have hz0 : (PyData.dict [(.int 0, .tuple [])]).depth ≤ 3 := by decide +kernel
    exact repr_of_reads' rd hw.s (fun _ => not_sys hn) hgd (by omega) (fun _ _ e => e) fin hw.z
  | lst ws =>
    obtain ⟨a, xs, rfl, g1, g2⟩ := slk_lst hs
    cases (show u = Value.ref a from rx)
    have hz : (listText (PyData.shownAll (pyAll ws))).length ≤ sizeLine := by simpa only [W.py, PyData.shown] using hw.z
    obtain ⟨_, its, n, r1, _, ho⟩ := I.lstM g1
    obtain ⟨as, bs, rs, hb, hk⟩ := rpAll I ws xs its hw.p g2 r1 (by simpa only [W.py, PyData.showable] using hw.s) (fun t ht => Nat.le_trans (listText_mem_le ht) hz)
    have rd : Reads s.heap (.ref a) (.list (pyAll ws)) (a :: as) := .list ho rfl rfl (by simpa using rs)
    have hna : a ∉ bs := not_mem_of_deeper rd (by simp only [PyData.depth]; omega) hb
    have hd : (PyData.list (pyAll ws)).depth ≤ 40 := hd
    simp only [PyData.depth] at hd
    simp only [W.py, PyData.shown] at fin
    refine call_repr_slot (by omega) ⟨_, ho, rfl⟩ F.slot_list_repr.toG ?_
    cases its with
    | nil =>
      cases rs' : pyAll ws with
      | nil =>
        rw [rs'] at fin
        exact call_list_repr_empty ⟨_, ho, rfl⟩ ho rfl ⟨_, _, rfl, fin _ _ _ fun _ _ e => e⟩
      | cons d ds =>
        rw [rs'] at rs
        cases rs
    | cons y l => exact call_list_reprK ho rfl rfl hna (by simpa using hk.length_eq) (fun i z e => hk.item i z (by simpa using e)) (A := X.A.in1) hgd (fun b _ => Clear.nil b) (by show X.A.units + 1 + _ < cLine; omega) (fun _ _ e => e) (fun h' u tk hk' => ⟨_, _, rfl, fin h' u tk hk'⟩) hz
  | tup ws =>
    obtain ⟨a, xs, rfl, g1, g2⟩ := slk_tup hs
    cases (show u = Value.ref a from rx)
    have hz : (tupleText (PyData.shownAll (pyAll ws))).length ≤ sizeLine := by simpa only [W.py, PyData.shown] using hw.z
    obtain ⟨its, r1, ⟨o, ho, hc, n, hdd⟩, _⟩ := I.tuple g1
    obtain ⟨as, bs, rs, hb, hk⟩ := rpAll I ws xs its hw.p g2 r1 (by simpa only [W.py, PyData.showable] using hw.s) (fun t ht => Nat.le_trans (tupleText_mem_le ht) hz)
    have rd : Reads s.heap (.ref a) (.tuple (pyAll ws)) as := .tuple ho hc hdd (by simpa using rs)
    have hna : a ∉ bs := not_mem_of_deeper rd (by simp only [PyData.depth]; omega) hb
    have hd : (PyData.tuple (pyAll ws)).depth ≤ 40 := hd
    simp only [PyData.depth] at hd
    simp only [W.py, PyData.shown] at fin
    refine call_repr_slot (by omega) ⟨_, ho, hc⟩ F.slot_tuple_repr ?_
    exact call_tuple_reprK ho hc hdd hna (by simpa using hk) (A := X.A.in1) hgd (fun b _ => Clear.nil b) (by show X.A.units + 1 + _ < cLine; omega) (fun _ _ e => e) (fun h' u tk hk' => ⟨_, _, rfl, fin h' u tk hk'⟩) hz
theorem ra_reprW {w : W} (hw : w.Shows) (hp : P (.val (.str w.py.shown)) ω) : RA X (rReprW X.K) [w.sl] ω P := fun B F H as vs wd s Q o => by
  obtain ⟨v, rfl, s1⟩ := rs1 s
  refine ⟨v, w, rfl, ?_, hw, o.here wd (.str _) hp⟩
  have s2 := slOk_up wd.b (List.prefix_refl _) s1
  exact sl_free w.free s2
end
end
section
/-! repr of a tuple that holds things of own classes -/
section
open PySem.W
variable {prog : Program} {w : World} {A : Around} {E : Value → Shared → Prop} {s : Shared} {K : Frag} {x C L f : Addr} {h₀ : Heap} {m : Str → Option Value} {ox : Obj} {od : Option Obj}
theorem under_K {base : Nat} {Q : Str → Shared → Prop} (hb : base ≤ sizeLine) (hu : A.units < cLine) (X : K.In s.heap) (I : InstAt s.heap x ox C od) (hs : findIn K (.ref C) "__repr__" = some (some (.ref f))) (hf : isFn K (.ref f) = true)
    (h : wpAny (model prog w) A (call (.ref f) [.ref x]) (fun v s' => ∃ t tk, v = .str t tk ∧ Q t s') E s) : wpAny (model prog w) A (pyReprUnder base (.ref x)) Q E s := by
  refine wpAny_pyReprUnder_ref hb ?_
  unfold pyReprObjUnder pyReprObjBy
  refine wpAny_bind (wpAny_cRoomFor hu ?_)
  refine wpAny_bind (wpAny_bind (I.type.here ((looks_findIn X hs).here ?_)))
  show wpAny _ _ (if (some (Value.ref f)).isNone = true then _ else _) _ _ _
  rw [if_neg (by simp)]
  have fin : wpAny (model prog w) A (call (.ref f) ([.ref x] ++ []) >>= fun v => pure (some v)) (fun r s' => ∃ v, r = some v ∧ ∃ t tk, v = .str t tk ∧ Q t s') E s := wpAny_bind (wpAny_mono h (fun v s' h' => wpAny_pure ⟨v, rfl, h'⟩) fun _ _ h' => h')
  have go : wpAny (model prog w) A (callSpecialIfBoundBy? (fun g first => match reprUnder? g, first with
    | some twin, [self] => call twin [self, rawInt base]
    | _, _ => call g (first ++ [])) (.ref x) (Str.ofString "__repr__")) (fun r s' => ∃ v, r = some v ∧ ∃ t tk, v = .str t tk ∧ Q t s') E s := by
    unfold callSpecialIfBoundBy? bindSpecialIfBound?
    refine wpAny_holding (wpAny_bind (wpAny_bind (wpAny_bind (I.type.here ((looks_findIn X hs).here ?_)))))
    refine wpAny_bind (wpAny_askSetting (wpAny_ite ?_))
    split
    · exact wpAny_bind ((bind_fn X _ (beq_iff_eq.mp hf)).here (wpAny_pure (by exact fin)))
    · exact wpAny_tryCatch (wpAny_bind ((bind_fn X _ (beq_iff_eq.mp hf)).here (wpAny_pure (by exact fin))))
  refine wpAny_bind (wpAny_mono go (fun r s' hr => ?_) fun _ _ h' => h')
  obtain ⟨v, rfl, t, tk, rfl, q⟩ := hr
  refine wpAny_bind (wpAny_isInstance (typeIs_str _ _ _) isSubtype_str_str ?_)
  first
    | exact wpAny_pure ⟨_, _, rfl, q⟩
    | (rw [if_pos rfl]; exact wpAny_pure ⟨_, _, rfl, q⟩)
end
/-- the text of an item: a leaf, or a thing of an own class -/
structure ObjR (P : Program) (w : World) (K : Fg) (mg : Str → Option Value) (base : Heap) (j : Nat) (C : Addr) (φ : List Sl → (Sl → Prop) → Prop) : Prop where
  ex : ∃ g, PySem.W.findIn K (.ref C) "__repr__" = some (some (.ref g)) ∧ PySem.W.isFn K (.ref g) = true ∧ HasM P w K mg base j g (spS K φ)
inductive ItT (P : Program) (w : World) (K : Fg) (mg : Str → Option Value) (base : Heap) (j : Nat) : W → Str → Prop
  | int {i : Int} (h : i.natAbs.log2 < 1920) : ItT P w K mg base j (.int i) (toString i)
  | obj {C : Addr} {fs : List (Str × Sl)} {t : Str} {φ : List Sl → (Sl → Prop) → Prop} (R : ObjR P w K mg base j C φ) (h : ∀ P : Sl → Prop, P (.val (.str t)) → φ [.kn (insI C fs)] P) : ItT P w K mg base j (.obj C fs t) t
theorem tup_under {A : Around} (args : Args) : (A.under (.builtin "tuple.__repr__" args)).depth ≤ A.depth + 1 := by
  show A.depth + (Code.builtin "tuple.__repr__" args).weight ≤ A.depth + 1
  simp [Code.weight, Code.isCreation, Code.isGuard, Code.isCaller, Code.frames, Code.isFrame, guardIds]
theorem tup_room {k : Nat} {A : Around} (r : Room (k + 1) A) (args : Args) : Room k (A.under (.builtin "tuple.__repr__" args)) :=
  ⟨r.hd, by have := r.dp; have := tup_under (A := A) args; omega, by have := r.un; rw [units_under_tuple_repr]; omega⟩
theorem tup_env {P : Program} {w : World} {K : Fg} {mg : Str → Option Value} {base : Heap} {A : Around} {outer : List Env} {s : Shared} {H : Hp} (e : Env0 P w K mg base A outer s H) (args : Args) : Env0 P w K mg base (A.under (.builtin "tuple.__repr__" args)) outer s H :=
  ⟨by first | exact e.frames | (simpa [Around.under, Code.envs, Code.isFrame, pushEnvs] using e.frames), e.mod, e.bs, e.bsz, e.funs, e.frf, e.hok, e.bare⟩
inductive ItAll (P : Program) (w : World) (K : Fg) (mg : Str → Option Value) (base : Heap) (j : Nat) : List W → List Str → Prop
  | nil : ItAll P w K mg base j [] []
  | cons {x : W} {t : Str} {ws : List W} {ts : List Str} (h : ItT P w K mg base j x t) (q : ItAll P w K mg base j ws ts) : ItAll P w K mg base j (x :: ws) (t :: ts)
section
variable {X : Cx} {pins : List (Addr × Obj)} {σ : L2.St} {A2 : Around} {j : Nat} {E : Value → Shared → Prop}
theorem foldO (hr : Room j A2) (e0 : ∀ {H : Hp} {s : Shared}, Inv X pins σ H s → Env0 X.prog X.w X.K X.mg X.base A2 X.stack s H) : ∀ {ws : List W} {ts : List Str}, ItAll X.prog X.w X.K X.mg X.base j ws ts → ∀ (vs : List V) (us : List Value) (acc : Array Str) (n : Nat) (B F H : Hp) (s : Shared) (Q : (Array Str × Nat) → Shared → Prop),
    Inv X pins σ H s → Wd X.K B F H [] [] → RsOk X.K B [] vs (slAll ws) → Vals vs us → n + piled ts ≤ sizeLine → (∀ B' H' s', Same B B' → Wd X.K B' F H' [] [] → Inv X pins σ H' s' → Q ⟨acc ++ ts.toArray, n + piled ts⟩ s') → wpAny (model X.prog X.w) A2 (forIn us (⟨acc, n⟩ : (Array Str × Nat)) tupBody) Q E s
  | _, _, .nil, vs, us, acc, n, B, F, H, s, Q, I, wd, hs, r, hn, h => by
    cases hs
    cases r
    simp only [List.forIn_nil]
    exact wpAny_pure (by simpa [piled] using h B H s (Same.refl _) wd I)
  | _, _, .cons (t := t) (ts := ts) hx q, vs, us, acc, n, B, F, H, s, Q, I, wd, hs, r, hn, h => by
    cases hs with
    | cons s1 s2 =>
      cases r with
      | cons r1 r2 =>
        have ep : n + piled (t :: ts) = n + (t.length + 2) + piled ts := by rw [piled_cons]; omega
        rw [List.forIn_cons]
        have go : ∀ B' H' s', Same B B' → Wd X.K B' F H' [] [] → Inv X pins σ H' s' → wpAny (model X.prog X.w) A2 (forIn _ (⟨acc.push t, n + (t.length + 2)⟩ : (Array Str × Nat)) tupBody) Q E s' := fun B' H' s' sb w' I' =>
          foldO hr e0 q _ _ (acc.push t) (n + (t.length + 2)) B' F H' s' Q I' w' (rsOk_up sb (List.prefix_refl _) s2) r2 (by omega) fun B2 H2 s2 sb2 w2 I2 => by
            have := h B2 H2 s2 (sb.trans sb2) w2 I2
            rw [ep] at this
            simpa using this
        cases hx with
        | int hi =>
          obtain rfl := dp_int_inv (sl_val s1)
          obtain ⟨tk, rfl⟩ := r1
          exact wpAny_bind (wpAny_bind (ReprIs.int tk hi (n + 1) (by omega) A2 _ s _ fun tk' => wpAny_pure (go B H _ (Same.refl _) wd (I.tok _))))
        | obj R hφ =>
          obtain ⟨a, dx, fs, rfl, h2, h3⟩ := slk_insI s1
          obtain rfl := (show _ = Value.ref a from r1)
          obtain ⟨g, hsp, hf, M⟩ := R.ex
          obtain ⟨fd, ps, hfn, hbd⟩ := M.ex
          obtain ⟨mA, O, _⟩ := ins_get I.hok (wd.b _ _ h2)
          obtain ⟨od, J, _⟩ := O.look
          obtain ⟨m, hF⟩ := I.fr
          have hq : spS X.K _ [.ref a] H (fun v H' => ∃ B', Same B B' ∧ Wd X.K B' F H' [] [] ∧ v = .str t) E0 := ⟨B, F, _, _, wd, .cons s1 .nil, hφ _ (by rfl), fun v B' H' r sb w' hs er => by
            subst er
            exact ⟨B', sb, w', dp_str_inv (sl_val hs)⟩⟩
          have hl : ([Value.ref a] ++ ([] : List Value)).length = ps.length := by
            rw [← hfn.len _ _ _ _ hq]
            rfl
          refine wpAny_bind (wpAny_bind (under_K (by omega) hr.units0 I.kIn J hsp hf ?_))
          refine wpAny_call (codeAny_mono (hfn.run A2 X.stack s H ⟨[.ref a], []⟩ [.ref a] [.ref a] _ E0 hr (e0 I) (hbd s [.ref a] I.kIn hl) (.cons rfl .nil) hq) fun r s' z => ?_)
          cases r with
          | error e => exact z.elim
          | ok fl =>
            cases fl with
            | ret u =>
              obtain ⟨y, H', I', rz, B', sb, w', ey⟩ := I.after z
              subst ey
              obtain ⟨tk, e⟩ := (show ∃ tk, u = Value.str t tk from rz)
              subst e
              exact ⟨t, tk, rfl, wpAny_pure (go B' H' s' sb w' I')⟩
            | next => exact z.elim
            | brk => exact z.elim
            | cont => exact z.elim
end
/-- repr(t), t with things of own classes -/
def rReprT (X : Cx) (j : Nat) : List V → Hp → VK → Prop := fun xs H Q => ∃ x ws ts B F, xs = [x] ∧ Wd X.K B F H [] [] ∧ SlOk X.K B [] (some x) (W.tup ws).sl ∧ ItAll X.prog X.w X.K X.mg X.base j ws ts ∧ (tupleText ts).length ≤ sizeLine ∧ ∀ B' H', Same B B' → Wd X.K B' F H' [] [] → Q (.str (tupleText ts)) H'
section
variable {X : Cx} {e : Expr} {δ : List Sl} {ω : List Cell} {P : PO1} {pos : Pos}
theorem call_reprT {j : Nat} (hgd : X.A.guards = some []) (hr : Room (j + 2) X.A) : CallR X (.builtin "repr") (rReprT X j) := by
  intro pins s σ H xs us Q I r h
  obtain ⟨x, ws, ts, B, F', rfl, wd, hs, hI, hz, q⟩ := h
  obtain ⟨u, rfl, rx⟩ := vals1 r
  obtain ⟨a, xs, rfl, g1, g2⟩ := slk_tup hs
  cases (show u = Value.ref a from rx)
  obtain ⟨its, r1, ⟨o, ho, hc, n, hd⟩, _⟩ := I.tuple (sqT_up wd.b g1)
  have hlen : ts.length = its.length := by
    rw [← r1.length, rs_len g2, slAll_len]
    clear g2 hz q hs
    induction hI with
    | nil => rfl
    | cons _ _ ih => simp [ih]
  have hp := piled_le_tupleText ts
  have hr1 : Room j (X.A.in1.under (.builtin "tuple.__repr__" ⟨[.ref a], []⟩)) := tup_room hr.in1 _
  have hu := hr.units0
  refine call_repr_slot (by have := hr.un; omega) ⟨_, ho, hc⟩ F.slot_tuple_repr (wpAny_call (codeAny_call_builtin_own (Code.quiet_builtin _ (by decide +kernel)) F.entry_tuple_repr (F.slot_tuple_repr.check _ _ _ _ _ _ _ _ ⟨o, ho, hc⟩ (F.args_tuple_repr_1 _) ?_)))
  show wpOwn _ _ _ (Builtin.tupleReprAt 0 ⟨[.ref a], []⟩) _ _ s
  rw [tuple_repr_tree, tupleReprUnderWay_eq]
  refine wpOwn_bind (wpOwn_stackTailAny (g := []) (A := X.A.in1) hgd (tupGuardF_off _) (fun c p => tupGuardF_pos _ c p) (wpOwn_of_wpAny ?_))
  show wpAny _ _ (tupleReprRest 0 (.ref a)) _ _ s
  unfold tupleReprRest Builtin.Tuple.tupleItemsOf
  refine wpAny_bind (wpAny_bind (wpAny_seqItems ho hd (wpAny_pure ?_)))
  rw [← Array.forIn_toList]
  refine wpAny_bind (foldO hr1 (fun I => tup_env I.env0.in1 _) hI _ _ _ _ B F' H s _ I wd g2 (by simpa using r1) (by omega) fun B' H' s' sb w' I' => ?_)
  refine wpAny_bind (wpAny_mkStr (wpAny_pure ?_) (by simpa [tupleText, hlen] using hz))
  have := q B' H' sb w'
  show ∃ x t, _ = Value.str x t ∧ EP X pins σ Q _ _
  exact ⟨tupleText ts, s'.toks, by simp [tupleText, hlen], .str (tupleText ts), H', I'.tok _, ⟨s'.toks, by simp [tupleText, hlen]⟩, this⟩
theorem de_reprT {j : Nat} {p : Pos} (hgd : X.A.guards = some []) (hr : Room (j + 2) X.A) (hg : Gl X "repr") (hm : X.mg "repr" = none) (h : DE X e δ ω fun r ω1 => ∃ ws ts, r = (W.tup ws).sl ∧ ItAll X.prog X.w X.K X.mg X.base j ws ts ∧ (tupleText ts).length ≤ sizeLine ∧ P (.val (.str (tupleText ts))) ω1)
    (he : starEach [e] X.env = (false, eval e X.env) :: starEach [] X.env := by rfl) : DE X (.Call (.Name "repr" p) [e] [] pos) δ ω P := fun B F H as σ w ev Q oo => by
  refine ⟨_, pe_callB (call_reprT (j := j) hgd hr) hg hm PyProof.Rows.boot_repr (pa_cons pe_w pa_nil he) (by decide) (by decide) he rfl, ?_⟩
  refine h B F H as σ w ev _ fun v B1 H1 as1 r ω1 e1 p1 w1 s1 ⟨ws, ts, er, hI, hz, hp⟩ => ?_
  subst er
  obtain ⟨F', wF, _, _, back⟩ := w1.frame
  exact ⟨v, ws, ts, B1, F', rfl, wF, sl_free (W.free _) s1, hI, hz, fun B' H' sb w' => oo (.str (tupleText ts)) B' H' as1 _ ω1 (e1.trans sb) p1 (back B' H' sb w') (slv (.str _)) hp⟩
end
end
section
/-! {0: ()} as a value; t == () of any tuple; how large a value may be -/
theorem Wd.freezeH {K : Fg} {B F H : Hp} {as : List Addr} {ω : List Cell} (w : Wd K B F H as ω) {k : Nat} {a : Addr} {c : Cell} {u : HO} (ha : as[k]? = some a) (hc : ω[k]? = some c) (hB : B a = none) (hH : H a = some u) : Same B (upd B a u) ∧ Wd K (upd B a u) F H as (ω.set k .dead) := by
  obtain ⟨q1, q2, _⟩ := w.at' k a _ ha hc
  have sb : Same B (upd B a u) := same_new hB
  refine ⟨sb, ⟨fun b x e => ?_, fun b x e => ?_, by rw [List.length_set]; exact w.len, w.nd, fun j b d e1 e2 => ?_⟩⟩
  · by_cases hb : b = a
    · subst hb
      rw [upd_same] at e
      cases e
      exact hH
    · rw [upd_ne hb] at e
      exact w.b _ _ e
  · have hb : b ≠ a := fun z => by
      rw [z, q1] at e
      cases e
    rw [upd_ne hb]
    exact w.f _ _ e
  · by_cases hj : j = k
    · subst hj
      rw [ha] at e1
      cases e1
      have hk : j < ω.length := (List.getElem?_eq_some_iff.mp hc).1
      rw [List.getElem?_set_self hk] at e2
      cases e2
      exact ⟨q1, q2, by show upd B a u a ≠ none; rw [upd_same]; simp⟩
    · rw [List.getElem?_set_ne (Ne.symm hj)] at e2
      have hb : b ≠ a := fun z => hj (nodup_at w.nd (z ▸ e1) ha)
      obtain ⟨r1, r2, r3⟩ := w.at' j b d e1 e2
      exact ⟨r1, r2, cell_up r3 sb (fun z => by rw [upd_ne hb]; exact z) rfl⟩
section
variable {X : Cx} {e a b : Expr} {es : List Expr} {δ : List Sl} {ω : List Cell} {P : PO1} {pos : Pos}
theorem DE.dic1 (h : DE X e δ ω fun r ω1 => ∃ k, r = .own k ∧ ω1[k]? = some (.dct [(.inl 0, .tuple [])]) ∧ P (.kn dic1K) (ω1.set k .dead)) : DE X e δ ω P := fun B F H as σ w ev Q oo =>
  h B F H as σ w ev Q fun v B' H' as' r ω' sb pp w' hs ⟨k, er, hk, hp⟩ => by
    subst er
    obtain ⟨a, ea, hka⟩ := hs
    cases ea
    obtain ⟨hB, xs, hH, hkv⟩ := w'.cellD hka hk
    obtain ⟨s2, w2⟩ := w'.freezeH hka hk hB hH
    match xs, hkv with
    | [(k1, x)], .cons h1 .nil =>
      have e1 : k1 = Sum.inl 0 := h1.1
      subst e1
      exact oo (.ref a) _ H' as' (.kn dic1K) _ (sb.trans s2) pp w2 ⟨_, _, rfl, Same.refl _, a, x, rfl, upd_same, dp_up s2 h1.2⟩ hp
/-- {0: ()} -/
theorem de_dic01 {i n : Nat} {p1 p2 : Pos} (h : P (.kn dic1K) (ω ++ [.dead])) : DE X (.Dict [some (.Constant (.int 0) i p1)] [.Tuple [] n p2] pos) δ ω P :=
  DE.dic1 (de_dic1 (de_int (de_tup (da_nil ⟨[], rfl, by decide, .inl 0, _, rfl, rfl, by rw [List.getElem?_append_right (Nat.le_refl _), Nat.sub_self]; rfl, ω.length, rfl, by rw [List.getElem?_set_self (by rw [List.length_append]; exact Nat.lt_succ_self _)], by
    rw [List.set_set, List.set_append_right _ _ (Nat.le_refl _), Nat.sub_self]
    exact h⟩))))
end
/-! ### t == () -/
def rEqT0 (K : Fg) : R2 := fun x y H Q => ∃ a b xs, x = .ref a ∧ y = .ref b ∧ SqT K H a xs ∧ SqT K H b [] ∧ Q (.bl xs.isEmpty) H
theorem op_eqT0 {X : Cx} (hu : X.A.units + 64 < cLine) : OpR X (compareOp .Eq) (rEqT0 X.K) := by
  intro pins s σ H x y v u Q I rx ry h
  obtain ⟨a, b, xs, rfl, rfl, ha, hb, q⟩ := h
  cases rx
  cases ry
  obtain ⟨its, r1, p1, _⟩ := I.tuple ha
  obtain ⟨its2, r2, p2, _⟩ := I.tuple hb
  cases r2
  have e1 : xs.isEmpty = its.isEmpty := by
    cases r1 <;> rfl
  rw [e1] at q
  have p1' : s.heap.IsTuple a its.toArray := p1
  have p2' : s.heap.IsTuple b ([] : List Value).toArray := p2
  have z := SeqAt.RcAt.tuples (A := X.A) p1' p2' (e := fun _ => true) (by omega) (fun j h1 h2 => absurd h2 (by simp)) X.prog X.w X.xe (EP X pins σ Q)
  have e2 : ((List.range (min its.toArray.size ([] : List Value).toArray.size)).all (fun _ => true) && its.toArray.size == ([] : List Value).toArray.size) = its.isEmpty := by
    cases its <;> simp
  rw [e2] at z
  exact z ⟨.bl _, H, I, rfl, q⟩
section
variable {X : Cx} {ω : List Cell} {P : PO1}
theorem rr_eqT0 {rs : List Sl} (hp : P (.val (.bool rs.isEmpty)) ω) : RR X (rEqT0 X.K) (.kn (tupK rs)) (.val (.tuple [])) ω P := fun B F H as v u w s1 s2 Q o => by
  obtain ⟨a, xs, rfl, h1, h2⟩ := slk_tup s1
  obtain ⟨b, ys, rfl, g1, g2⟩ := slv_tup s2 w.b
  cases g2
  refine ⟨a, b, xs, rfl, rfl, sqT_up w.b h1, g1, ?_⟩
  have e : xs.isEmpty = rs.isEmpty := by cases h2 <;> rfl
  rw [e]
  exact o.here w (.bl _) hp
end
end
section
/-! ### the program's tests, of values of any sort -/
def isNumW (w : W) (lo hi : Int) : Bool := match w with
  | .int i => decide (lo ≤ i) && decide (i ≤ hi)
  | _ => false
def isPlacesW (w : W) (n : Int) : Bool := match w with
  | .tup ws => ws.all fun p => isNumW p 0 (n - 1)
  | _ => false
def lenW (w : W) : Int := match w with
  | .tup ws => ws.length
  | _ => 0
def isOpsW (w : W) (n : Int) : Bool := match w with
  | .tup ws => decide (1 ≤ ws.length ∧ ws.length ≤ 6) && ws.all fun p => isPlacesW p n && decide (lenW p = n)
  | _ => false
def isKindsW (w : W) (m : Int) : Bool := match w with
  | .tup ws => decide ((ws.length : Int) = m) && ws.all fun p => p.isNon || isNumW p 0 9
  | _ => false
def isSysW (w : W) : Bool := match w with
  | .tup [.int n, s, o, k] => isNumW (.int n) 1 6 && isNumW s 0 (n - 1) && isOpsW o n && isKindsW k (lenW o)
  | _ => false
mutual
/-- no tuple is too long to be walked -/
def W.lim : W → Bool
  | .tup ws => decide (ws.length ≤ 100000) && limAll ws
  | .non => true
  | .bl _ => true
  | .int _ => true
  | .str _ => true
  | .lst _ => true
  | .dct0 => true
  | .dct1 => true
  | .obj _ _ _ => true
def limAll : List W → Bool
  | [] => true
  | w :: ws => w.lim && limAll ws
end
theorem limAll_mem : ∀ {ws : List W}, limAll ws = true → ∀ w ∈ ws, w.lim = true
  | x :: ws, h, w, hw => by
    have h : (x.lim && limAll ws) = true := h
    rw [Bool.and_eq_true] at h
    rcases List.mem_cons.mp hw with rfl | hw
    · exact h.1
    · exact limAll_mem h.2 w hw
theorem lim_len {ws : List W} (h : (W.tup ws).lim = true) : ws.length ≤ 100000 := by
  have h : (decide (ws.length ≤ 100000) && limAll ws) = true := h
  rw [Bool.and_eq_true] at h
  exact of_decide_eq_true h.1
theorem lim_mem {ws : List W} (h : (W.tup ws).lim = true) {w : W} (hw : w ∈ ws) : w.lim = true := by
  have h : (decide (ws.length ≤ 100000) && limAll ws) = true := h
  rw [Bool.and_eq_true] at h
  exact limAll_mem h.2 w hw
theorem has_mem {K : Fg} {ws : List W} (h : (W.tup ws).has K) {w : W} (hw : w ∈ ws) : w.has K := hasAll_mem (show hasAll K ws from h) w hw
theorem kitW_bl {K : Fg} {w : W} (h : w.isInt = true) : PySem.W.kitOne K w.ty (.type "bool") = some w.isBl := by
  cases w with
  | bl b => exact L2.kit_ty (show kitB "bool" "bool" = some true from by decide +kernel)
  | int b => exact L2.kit_ty (show kitB "int" "bool" = some false from by decide +kernel)
  | _ => cases h
theorem all_mapW (ws : List W) (g : W → Bool) : ws.map (fun w => Sl.val (.bool (g w))) = ((ws.map g).map PyData.bool).map Sl.val ∧ (ws.map g).all id = ws.all g := ⟨by rw [List.map_map, List.map_map]; rfl, by rw [List.all_map]; rfl⟩
def φ_numW (K : Fg) : List Sl → (Sl → Prop) → Prop := fun rs P => ∃ w lo hi, rs = [W.sl w, .val (.int lo), .val (.int hi)] ∧ w.has K ∧ P (.val (.bool (isNumW w lo hi)))
def φ_placeW (K : Fg) : List Sl → (Sl → Prop) → Prop := fun rs P => ∃ w n, rs = [W.sl w, .val (.int n)] ∧ w.has K ∧ P (.val (.bool (isNumW w 0 (n - 1))))
def φ_placesW (K : Fg) : List Sl → (Sl → Prop) → Prop := fun rs P => ∃ w n, rs = [W.sl w, .val (.int n)] ∧ w.has K ∧ w.lim = true ∧ P (.val (.bool (isPlacesW w n)))
def φ_opsW (K : Fg) : List Sl → (Sl → Prop) → Prop := fun rs P => ∃ w n, rs = [W.sl w, .val (.int n)] ∧ w.has K ∧ w.lim = true ∧ P (.val (.bool (isOpsW w n)))
def φ_kindsW (K : Fg) : List Sl → (Sl → Prop) → Prop := fun rs P => ∃ w n, rs = [W.sl w, .val (.int n)] ∧ w.has K ∧ w.lim = true ∧ P (.val (.bool (isKindsW w n)))
def φ_sysW (K : Fg) : List Sl → (Sl → Prop) → Prop := fun rs P => ∃ w, rs = [W.sl w] ∧ w.has K ∧ w.lim = true ∧ P (.val (.bool (isSysW w)))
def φ_logW (K : Fg) : List Sl → (Sl → Prop) → Prop := fun rs P => ∃ S w, rs = [.val (sysD S), W.sl w] ∧ w.has K ∧ w.lim = true ∧ P (.val (.bool (isPlacesW w S.ops.length)))
theorem free1 (w : W) (rs : List Sl) (h : rs.all Sl.free = true) : (w.sl :: rs).all Sl.free = true := by rw [List.all_cons, w.free, h]; rfl
section
variable {P : Program} {w : World} {K : Fg} {mg : Str → Option Value} {base : Heap} {f : Addr} {fd : FuncData}
theorem ok_numW (F : Fun K "is_number" "is_number" s_is_number f fd) (mI : mg "isinstance" = none) (mi : mg "int" = none) (mb : mg "bool" = none) : FnOk P w K mg base CX0 1 f fd ["thing", "least", "most"] (spS K (φ_numW K)) := by
  refine ok_S F sc_is_number (fun rs Q h => ?_) fun rs Q h cdv A outer s H E hr => ?_
  · obtain ⟨x, lo, hi, rfl, _⟩ := h
    rfl
  · obtain ⟨x, lo, hi, rfl, ho, hq⟩ := h
    refine ds_cons (d1_ret (de_andB (x := x.isInt) (y := isNumW x lo hi) (de_isiW (by rfl) mI (by rfl) mi PyProof.Rows.boot_int (de_var 0 rfl (W.no _) rfl (by walk_at "vis") ⟨x, _, rfl, ho, kitW_int ho, rfl, rfl⟩)) (fun h1 => ?_) ⟨rfl, ?_⟩))
    · refine de_andB (x := !x.isBl) (y := isNumW x lo hi) (de_notV (de_isiW (by rfl) mI (by rfl) mb PyProof.Rows.boot_bool (de_var 0 rfl (W.no _) rfl (by walk_at "vis") ⟨x, _, rfl, ho, kitW_bl h1, _, rfl, rfl, rfl⟩))) (fun h2 => ?_) ?_
      · cases x with
        | int i =>
          refine de_one (de_chain op_le op_le (de_var 1 rfl (by nofun) rfl (by walk_at "vis") (de_var 0 rfl (by nofun) rfl (by walk_at "vis") (rr_I0 (fun _ _ => .bl _) ⟨_, rfl, ?_⟩))))
          refine ite2 (fun h3 => ?_) (fun h3 => ?_)
          · refine de_var 2 rfl (by nofun) rfl (by walk_at "vis") (rr_I0 (fun _ _ => .bl _) ⟨?_, rfl⟩)
            show _ = Sl.val (.bool (decide (lo ≤ i) && decide (i ≤ hi)))
            rw [h3]
            rfl
          · refine ⟨?_, rfl⟩
            show _ = Sl.val (.bool (decide (lo ≤ i) && decide (i ≤ hi)))
            rw [(Bool.not_eq_true _).mp h3]
            rfl
        | bl b => cases h2
        | _ => cases h1
      · cases x <;> first | exact ⟨rfl, rfl⟩ | cases h1
    · have e : (x.isInt && isNumW x lo hi) = isNumW x lo hi := by cases x <;> rfl
      rw [e]
      exact hq
theorem ok_placeW (F : Fun K "is_place" "is_place" s_is_place f fd) (c1 : Has P w K mg base 1 "is_number" (spS K (φ_numW K))) : FnOk P w K mg base CX0 2 f fd ["thing", "many"] (spS K (φ_placeW K)) := by
  refine ok_S F sc_is_place (fun rs Q h => ?_) fun rs Q h cdv A outer s H E hr => ?_
  · obtain ⟨x, n, rfl, _⟩ := h
    rfl
  · obtain ⟨x, n, rfl, ho, hq⟩ := h
    exact ds_cons (d1_ret (de_callS c1 (by walk_at "room") (by rfl) (da_cons (de_var 0 rfl (W.no _) rfl (by walk_at "vis") (da_cons (de_int (da_cons (de_sub (de_var 1 rfl (by nofun) rfl (by walk_at "vis") ⟨_, rfl, de_int ⟨_, rfl, da_nil ⟨free1 x _ rfl, x, 0, n - 1, rfl, ho, rfl, rfl, hq⟩⟩⟩)))))))))
theorem ok_placesW (F : Fun K "are_places" "are_places" s_are_places f fd) (c1 : Has P w K mg base 2 "is_place" (spS K (φ_placeW K))) (mI : mg "isinstance" = none) (mt : mg "tuple" = none) (mA : mg "all" = none) : FnOk P w K mg base CX0 3 f fd ["thing", "many"] (spS K (φ_placesW K)) := by
  refine ok_S F sc_are_places (fun rs Q h => ?_) fun rs Q h cdv A outer s H E hr => ?_
  · obtain ⟨x, n, rfl, _⟩ := h
    rfl
  · obtain ⟨x, n, rfl, ho, hl, hq⟩ := h
    have nd := sc_are_places.nd
    refine ds_cons (d1_ret (de_andB (x := x.isTup) (y := isPlacesW x n) (de_isiW (by rfl) mI (by rfl) mt PyProof.Rows.boot_tuple (de_var 0 rfl (W.no _) rfl (by walk_at "vis") ⟨x, _, rfl, ho, kitW_tup ho, rfl, rfl⟩)) (fun h1 => ?_) ⟨rfl, ?_⟩))
    · cases x with
      | tup ws =>
        refine de_one (de_callB (cr_all rfl) (by rfl) mA PyProof.Rows.boot_all (da_cons (DE.asL ?_)))
        refine de_lcS rfl nd (blkOk_by (own := [("part", 2)]) (N := n_are_places) (sc := defScope s_are_places) (by decide +kernel)) (dis_tup (de_var 0 rfl (by nofun) rfl (by walk_at "vis") ⟨slAll ws, rfl, ?_⟩))
        rw [slAll_map]
        refine ⟨by rw [List.length_map]; exact lim_len hl, _, fun _ _ _ _ => trivial, ⟨rfl, rfl⟩, lcS_mapA W.sl (fun y => .val (.bool (isNumW y 0 (n - 1)))) (fun j y hy s H C cl fp => ?_), fun acc ω' hacc ⟨ew, ea⟩ => .inl ?_⟩
        · refine dgs_name (i := 2) nd rfl (.inl rfl) (by decide) ?_
          intro s H C cl fp
          exact de_callS c1 (by walk_at "room") (by rfl) (da_cons (de_var 2 rfl (W.no _) rfl (by walk_at "vis") (da_cons (de_var 1 rfl (by nofun) rfl (by walk_at "vis") (da_nil ⟨free1 y _ rfl, y, n, rfl, has_mem ho (List.mem_of_getElem? hy), rfl, rfl, rfl, rfl⟩)))))
        rw [List.length_map, List.take_length, (all_mapW ws _).1] at ea
        subst ew ea
        refine ⟨_, rfl, da_nil (ra_all ⟨?_, rfl⟩)⟩
        rw [(all_mapW ws _).2]
        rfl
      | _ => cases h1
    · have e : (x.isTup && isPlacesW x n) = isPlacesW x n := by cases x <;> rfl
      rw [e]
      exact hq
theorem ok_opsW {t : Tok} (F : Fun K "are_operations" "are_operations" s_are_operations f fd) (c1 : Has P w K mg base 3 "are_places" (spS K (φ_placesW K))) (mI : mg "isinstance" = none) (mt : mg "tuple" = none) (mA : mg "all" = none) (mL : mg "len" = none) (mO : mg "MOST_OPERATIONS" = some (.int 6 t)) : FnOk P w K mg base CX0 4 f fd ["thing", "states"] (spS K (φ_opsW K)) := by
  refine ok_S F sc_are_operations (fun rs Q h => ?_) fun rs Q h cdv A outer s H E hr => ?_
  · obtain ⟨x, n, rfl, _⟩ := h
    rfl
  · obtain ⟨x, n, rfl, ho, hl, hq⟩ := h
    have nd := sc_are_operations.nd
    refine ds_cons (d1_if (dt_w (dw_orB (x := !x.isTup) (y := !decide (1 ≤ lenW x ∧ lenW x ≤ 6)) (dt_not (dt_val (de_isiW (by rfl) mI (by rfl) mt PyProof.Rows.boot_tuple (de_var 0 rfl (W.no _) rfl (by walk_at "vis") ⟨x, _, rfl, ho, kitW_tup ho, _, rfl, rfl, rfl⟩)))) (fun h1 => ?_) ?_)))
    · cases x with
      | tup ws =>
        refine dw_or1 (dt_not (dt_chain op_le op_le (de_int (de_callB call_len_seq (by rfl) mL PySem.boot_len (da_cons (de_var 0 rfl (by nofun) rfl (by walk_at "vis") (da_nil (ra_lenS (.tupK _) (rr_I0 (fun _ _ => .bl _) ⟨_, rfl, ?_⟩)))))))))
        rw [slAll_len]
        refine ite2 (fun h3 => ?_) (fun h3 => ?_)
        · refine de_glob rfl mO rel_int (fun _ _ => .int _) (rr_I0 (fun _ _ => .bl _) ⟨_, rfl, ?_, rfl⟩)
          have h4 := of_decide_eq_true h3
          by_cases h5 : (ws.length : Int) ≤ 6
          · rw [decide_eq_true h5, decide_eq_true (show 1 ≤ lenW (.tup ws) ∧ lenW (.tup ws) ≤ 6 from ⟨h4, h5⟩)]
          · rw [decide_eq_false h5, decide_eq_false (fun z : 1 ≤ lenW (.tup ws) ∧ lenW (.tup ws) ≤ 6 => h5 z.2)]
        · refine ⟨?_, rfl⟩
          rw [decide_eq_false (fun z : 1 ≤ lenW (.tup ws) ∧ lenW (.tup ws) ≤ 6 => h3 (decide_eq_true z.1))]
      | _ => cases h1
    refine ite2 (fun h1 => ?_) (fun h1 => ?_)
    · refine ds_cons (d1_ret (de_bool ⟨rfl, ?_⟩))
      have e : isOpsW x n = false := by
        cases x with
        | tup ws =>
          have h2 : ¬ (1 ≤ ws.length ∧ ws.length ≤ 6) := by
            have h3 : ¬ (1 ≤ (ws.length : Int) ∧ (ws.length : Int) ≤ 6) := not_dec h1
            omega
          show (decide _ && _) = false
          rw [decide_eq_false h2]
          rfl
        | _ => rfl
      rw [← e]
      exact hq
    refine ds_nil ?_
    cases x with
    | tup ws =>
      have h2 : 1 ≤ ws.length ∧ ws.length ≤ 6 := by
        have h3 : 1 ≤ (ws.length : Int) ∧ (ws.length : Int) ≤ 6 := yes_dec h1
        omega
      refine ds_cons (d1_ret (de_callB (cr_all rfl) (by rfl) mA PyProof.Rows.boot_all (da_cons (DE.asL ?_))))
      refine de_lcS rfl nd (blkOk_by (own := [("part", 2)]) (N := n_are_operations) (sc := defScope s_are_operations) (by decide +kernel)) (dis_tup (de_var 0 rfl (by nofun) rfl (by walk_at "vis") ⟨slAll ws, rfl, ?_⟩))
      rw [slAll_map]
      refine ⟨by rw [List.length_map]; exact lim_len hl, _, fun _ _ _ _ => trivial, ⟨rfl, rfl⟩, lcS_mapA W.sl (fun y => .val (.bool (isPlacesW y n && decide (lenW y = n)))) (fun j y hy s H C cl fp => ?_), fun acc ω' hacc ⟨ew, ea⟩ => .inl ?_⟩
      · have hm := List.mem_of_getElem? hy
        refine dgs_name (i := 2) nd rfl (.inl rfl) (by decide) ?_
        intro s H C cl fp
        refine de_andB (x := isPlacesW y n) (y := decide (lenW y = n)) ?_ (fun h3 => ?_) ⟨rfl, rfl, rfl⟩
        · exact de_callS c1 (by walk_at "room") (by rfl) (da_cons (de_var 2 rfl (W.no _) rfl (by walk_at "vis") (da_cons (de_var 1 rfl (by nofun) rfl (by walk_at "vis") (da_nil ⟨free1 y _ rfl, y, n, rfl, has_mem ho hm, lim_mem hl hm, rfl, rfl, rfl⟩)))))
        · cases y with
          | tup us =>
            refine de_one (de_cmp (op_eqD (Room.units hr)) (nomark _) (de_callB call_len_seq (by rfl) mL PySem.boot_len (da_cons (de_var 2 rfl (by nofun) rfl (by walk_at "vis") (da_nil (ra_lenS (.tupK _) (de_var 1 rfl (by nofun) rfl (by walk_at "vis") (rr_eqD (by walk_at "sh") (by walk_at "sh") ⟨?_, rfl⟩))))))))
            rw [eqv_int, slAll_len]
            rfl
          | _ => cases h3
      · rw [List.length_map, List.take_length, (all_mapW ws _).1] at ea
        subst ew ea
        refine ⟨_, rfl, da_nil (ra_all ⟨rfl, ?_⟩)⟩
        rw [(all_mapW ws _).2]
        have e : isOpsW (.tup ws) n = ws.all fun p => isPlacesW p n && decide (lenW p = n) := by
          show (decide _ && _) = _
          rw [decide_eq_true h2]
          rfl
        rw [← e]
        exact hq
    | _ => cases h1 rfl
theorem ok_kindsW {t : Tok} (F : Fun K "are_kinds" "are_kinds" s_are_kinds f fd) (c1 : Has P w K mg base 1 "is_number" (spS K (φ_numW K))) (mI : mg "isinstance" = none) (mt : mg "tuple" = none) (mA : mg "all" = none) (mL : mg "len" = none) (mO : mg "GREATEST_KIND" = some (.int 9 t)) : FnOk P w K mg base CX0 4 f fd ["thing", "many"] (spS K (φ_kindsW K)) := by
  refine ok_S F sc_are_kinds (fun rs Q h => ?_) fun rs Q h cdv A outer s H E hr => ?_
  · obtain ⟨x, n, rfl, _⟩ := h
    rfl
  · obtain ⟨x, n, rfl, ho, hl, hq⟩ := h
    have nd := sc_are_kinds.nd
    refine ds_cons (d1_if (dt_w (dw_orB (x := !x.isTup) (y := !decide (lenW x = n)) (dt_not (dt_val (de_isiW (by rfl) mI (by rfl) mt PyProof.Rows.boot_tuple (de_var 0 rfl (W.no _) rfl (by walk_at "vis") ⟨x, _, rfl, ho, kitW_tup ho, _, rfl, rfl, rfl⟩)))) (fun h1 => ?_) ?_)))
    · cases x with
      | tup ws =>
        refine dw_or1 (dt_cmp (op_neD (Room.units hr)) (nomark _) (de_callB call_len_seq (by rfl) mL PySem.boot_len (da_cons (de_var 0 rfl (by nofun) rfl (by walk_at "vis") (da_nil (ra_lenS (.tupK _) (de_var 1 rfl (by nofun) rfl (by walk_at "vis") (rr_neD (by walk_at "sh") (by walk_at "sh") ⟨_, rfl, ?_, rfl⟩))))))))
        rw [eqv_int, slAll_len]
        rfl
      | _ => cases h1
    refine ite2 (fun h1 => ?_) (fun h1 => ?_)
    · refine ds_cons (d1_ret (de_bool ⟨rfl, ?_⟩))
      have e : isKindsW x n = false := by
        cases x with
        | tup ws =>
          have h2 : ¬ (ws.length : Int) = n := not_dec h1
          show (decide _ && _) = false
          rw [decide_eq_false h2]
          rfl
        | _ => rfl
      rw [← e]
      exact hq
    refine ds_nil ?_
    cases x with
    | tup ws =>
      have h2 : (ws.length : Int) = n := yes_dec h1
      refine ds_cons (d1_ret (de_callB (cr_all rfl) (by rfl) mA PyProof.Rows.boot_all (da_cons (DE.asL ?_))))
      refine de_lcS rfl nd (blkOk_by (own := [("part", 2)]) (N := n_are_kinds) (sc := defScope s_are_kinds) (by decide +kernel)) (dis_tup (de_var 0 rfl (by nofun) rfl (by walk_at "vis") ⟨slAll ws, rfl, ?_⟩))
      rw [slAll_map]
      refine ⟨by rw [List.length_map]; exact lim_len hl, _, fun _ _ _ _ => trivial, ⟨rfl, rfl⟩, lcS_mapA W.sl (fun y => .val (.bool (y.isNon || isNumW y 0 9))) (fun j y hy s H C cl fp => ?_), fun acc ω' hacc ⟨ew, ea⟩ => .inl ?_⟩
      · have hm := List.mem_of_getElem? hy
        refine dgs_name (i := 2) nd rfl (.inl rfl) (by decide) ?_
        intro s H C cl fp
        refine de_orB (x := y.isNon) (y := isNumW y 0 9) (de_cmp op_isN (nomark _) (de_var 2 rfl (W.no _) rfl (by walk_at "vis") (de_none (rr_isNW ⟨rfl, rfl⟩)))) (fun h3 => ?_) ⟨rfl, rfl, rfl⟩
        exact de_one (de_callS c1 (by walk_at "room") (by rfl) (da_cons (de_var 2 rfl (W.no _) rfl (by walk_at "vis") (da_cons (de_int (da_cons (de_glob rfl mO rel_int (fun _ _ => .int _) (da_nil ⟨free1 y _ rfl, y, 0, 9, rfl, has_mem ho hm, rfl, rfl, rfl⟩))))))))
      · rw [List.length_map, List.take_length, (all_mapW ws _).1] at ea
        subst ew ea
        refine ⟨_, rfl, da_nil (ra_all ⟨rfl, ?_⟩)⟩
        rw [(all_mapW ws _).2]
        have e : isKindsW (.tup ws) n = ws.all fun p => p.isNon || isNumW p 0 9 := by
          show (decide _ && _) = _
          rw [decide_eq_true h2]
          rfl
        rw [← e]
        exact hq
    | _ => cases h1 rfl
theorem ok_logW (F : Fun K "is_log" "is_log" s_is_log f fd) (c1 : Has P w K mg base 3 "are_places" (spS K (φ_placesW K))) (mL : mg "len" = none) : FnOk P w K mg base CX0 4 f fd ["system", "thing"] (spS K (φ_logW K)) := by
  refine ok_S F sc_is_log (fun rs Q h => ?_) fun rs Q h cdv A outer s H E hr => ?_
  · obtain ⟨S, x, rfl, _⟩ := h
    rfl
  · obtain ⟨S, x, rfl, ho, hl, hq⟩ := h
    refine ds_cons (d1_ret (de_callS c1 (by walk_at "room") (by rfl) (da_cons (de_var 1 rfl (W.no _) rfl (by walk_at "vis") (da_cons (de_callB call_len_seq (by rfl) mL PySem.boot_len (da_cons (de_ix (fun _ _ => rfl) (de_var 0 rfl (by nofun) rfl (by walk_at "vis") (de_int ⟨_, _, _, rfl, .tup _, rfl, da_nil (ra_len (.tup _) (da_nil ⟨free1 x _ rfl, x, ((S.ops.map opD).length : Int), rfl, ho, hl, rfl, rfl, ?_⟩))⟩))))))))))
    rw [List.length_map]
    exact hq
theorem ok_sysW {t : Tok} (F : Fun K "is_system" "is_system" s_is_system f fd) (c1 : Has P w K mg base 1 "is_number" (spS K (φ_numW K))) (c2 : Has P w K mg base 2 "is_place" (spS K (φ_placeW K))) (c3 : Has P w K mg base 4 "are_operations" (spS K (φ_opsW K))) (c4 : Has P w K mg base 4 "are_kinds" (spS K (φ_kindsW K))) (mI : mg "isinstance" = none) (mt : mg "tuple" = none) (mL : mg "len" = none) (mO : mg "MOST_STATES" = some (.int 6 t)) : FnOk P w K mg base CX0 5 f fd ["thing"] (spS K (φ_sysW K)) := by
  refine ok_S F sc_is_system (fun rs Q h => ?_) fun rs Q h cdv A outer s H E hr => ?_
  · obtain ⟨x, rfl, _⟩ := h
    rfl
  · obtain ⟨x, rfl, ho, hl, hq⟩ := h
    have nd := sc_is_system.nd
    refine ds_cons (d1_if (dt_w (dw_orB (x := !x.isTup) (y := !decide (lenW x = 4)) (dt_not (dt_val (de_isiW (by rfl) mI (by rfl) mt PyProof.Rows.boot_tuple (de_var 0 rfl (W.no _) rfl (by walk_at "vis") ⟨x, _, rfl, ho, kitW_tup ho, _, rfl, rfl, rfl⟩)))) (fun h1 => ?_) ?_)))
    · cases x with
      | tup ws =>
        refine dw_or1 (dt_cmp (op_neD (Room.units hr)) (nomark _) (de_callB call_len_seq (by rfl) mL PySem.boot_len (da_cons (de_var 0 rfl (by nofun) rfl (by walk_at "vis") (da_nil (ra_lenS (.tupK _) (de_int (rr_neD (by walk_at "sh") (by walk_at "sh") ⟨_, rfl, ?_, rfl⟩))))))))
        rw [eqv_int, slAll_len]
        rfl
      | _ => cases h1
    refine ite2 (fun h1 => ?_) (fun h1 => ?_)
    · refine ds_cons (d1_ret (de_bool ⟨rfl, ?_⟩))
      have e : isSysW x = false := by
        cases x with
        | tup ws =>
          have h2 : ¬ (ws.length : Int) = 4 := not_dec h1
          unfold isSysW
          split
          · next heq =>
            cases heq
            exact absurd rfl h2
          · rfl
        | _ => rfl
      rw [← e]
      exact hq
    refine ds_nil ?_
    cases x with
    | tup ws =>
      have h2 : (ws.length : Int) = 4 := yes_dec h1
      obtain ⟨w1, w2, w3, w4, rfl⟩ : ∃ a b c d, ws = [a, b, c, d] := by
        match ws, h2 with
        | [a, b, c, d], _ => exact ⟨a, b, c, d, rfl⟩
        | [], h => exact absurd h (by simp)
        | [_], h => exact absurd h (by simp)
        | [_, _], h => exact absurd h (by simp)
        | [_, _, _], h => exact absurd h (by simp)
        | _ :: _ :: _ :: _ :: _ :: _, h => exact absurd h (by simp only [List.length_cons]; omega)
      have o1 := has_mem ho (w := w1) (by simp)
      have o2 := has_mem ho (w := w2) (by simp)
      have o3 := has_mem ho (w := w3) (by simp)
      have o4 := has_mem ho (w := w4) (by simp)
      have l3 := lim_mem hl (w := w3) (by simp)
      have l4 := lim_mem hl (w := w4) (by simp)
      refine ds_cons (d1_unpS rfl (pgs_cons (pg_name (i := 1) nd rfl (by walk_at "loc")) (pgs_cons (pg_name (i := 2) nd rfl (by walk_at "loc")) (pgs_cons (pg_name (i := 3) nd rfl (by walk_at "loc")) (pgs_cons (pg_name (i := 4) nd rfl (by walk_at "loc")) (pgs_nil))))) (.cons (.cons (.cons (.cons (.nil))))) (de_var 0 rfl (by nofun) rfl (by walk_at "vis") ⟨_, rfl, rfl, ?_⟩))
      refine ds_cons (d1_if (dt_w (dw_or (dt_not (dt_val (de_callS c1 (by walk_at "room") (by rfl) (da_cons (de_var 1 rfl (W.no _) rfl (by walk_at "vis") (da_cons (de_int (da_cons (de_glob rfl mO rel_int (fun _ _ => .int _) (da_nil ⟨free1 w1 _ rfl, w1, 1, 6, rfl, o1, rfl, _, rfl, ?_⟩)))))))))))))
      by_cases hb : isNumW w1 1 6 = true
      · obtain ⟨n, rfl⟩ : ∃ n, w1 = .int n := by
          cases w1 with
          | int n => exact ⟨n, rfl⟩
          | _ => cases hb
        rw [hb]
        refine iteF (dw_or1 (dt_not (dt_val (de_callS c2 (by walk_at "room") (by rfl) (da_cons (de_var 2 rfl (W.no _) rfl (by walk_at "vis") (da_cons (de_var 1 rfl (by nofun) rfl (by walk_at "vis") (da_nil ⟨free1 w2 _ rfl, w2, n, rfl, o2, rfl, _, rfl, ?_⟩)))))))))
        by_cases hb2 : isNumW w2 0 (n - 1) = true
        · rw [hb2]
          refine iteF (ds_nil (ds_cons (d1_ret (de_andB (x := isOpsW w3 n) (y := isKindsW w4 (lenW w3)) (de_callS c3 (by walk_at "room") (by rfl) (da_cons (de_var 3 rfl (W.no _) rfl (by walk_at "vis") (da_cons (de_var 1 rfl (by nofun) rfl (by walk_at "vis") (da_nil ⟨free1 w3 _ rfl, w3, n, rfl, o3, l3, rfl, rfl, rfl⟩)))))) (fun h3 => ?_) ⟨rfl, ?_⟩))))
          · cases w3 with
            | tup us =>
              refine de_one (de_callS c4 (by walk_at "room") (by rfl) (da_cons (de_var 4 rfl (W.no _) rfl (by walk_at "vis") (da_cons (de_callB call_len_seq (by rfl) mL PySem.boot_len (da_cons (de_var 3 rfl (by nofun) rfl (by walk_at "vis") (da_nil (ra_lenS (.tupK _) (da_nil ⟨free1 w4 _ rfl, w4, ((slAll us).length : Int), rfl, o4, l4, rfl, ?_, rfl⟩))))))))))
              rw [slAll_len]
              rfl
            | _ => cases h3
          · have e : isSysW (.tup [.int n, w2, w3, w4]) = (isOpsW w3 n && isKindsW w4 (lenW w3)) := by
              show (isNumW (.int n) 1 6 && isNumW w2 0 (n - 1) && isOpsW w3 n && isKindsW w4 (lenW w3)) = _
              rw [hb, hb2]
              rfl
            rw [← e]
            exact hq
        · rw [(Bool.not_eq_true _).mp hb2]
          refine iteT (ds_cons (d1_ret (de_bool ⟨rfl, ?_⟩)))
          have e : isSysW (.tup [.int n, w2, w3, w4]) = false := by
            show (isNumW (.int n) 1 6 && isNumW w2 0 (n - 1) && isOpsW w3 n && isKindsW w4 (lenW w3)) = _
            rw [hb, (Bool.not_eq_true _).mp hb2]
            rfl
          rw [← e]
          exact hq
      · rw [(Bool.not_eq_true _).mp hb]
        refine iteT (ds_cons (d1_ret (de_bool ⟨rfl, ?_⟩)))
        have e : isSysW (.tup [w1, w2, w3, w4]) = false := by
          cases w1 with
          | int n =>
            show (isNumW (.int n) 1 6 && isNumW w2 0 (n - 1) && isOpsW w3 n && isKindsW w4 (lenW w3)) = _
            rw [(Bool.not_eq_true _).mp hb]
            rfl
          | _ => rfl
        rw [← e]
        exact hq
    | _ => cases h1 rfl
end
end
section
/-! ### how large a value of any sort is -/
mutual
def W.cost : W → Nat
  | .lst ws => costAll ws + 4
  | .tup ws => costAll ws + 4
  | .non => 160
  | .bl _ => 160
  | .int _ => 160
  | .str _ => 160
  | .dct0 => 160
  | .dct1 => 160
  | .obj _ _ _ => 160
def costAll : List W → Nat
  | [] => 0
  | w :: ws => w.cost + 2 + costAll ws
end
mutual
def W.dep : W → Nat
  | .lst ws => depAll ws + 1
  | .tup ws => depAll ws + 1
  | .non => 0
  | .bl _ => 0
  | .int _ => 0
  | .str _ => 0
  | .dct0 => 3
  | .dct1 => 3
  | .obj _ _ _ => 0
def depAll : List W → Nat
  | [] => 0
  | w :: ws => max w.dep (depAll ws)
end
mutual
/-- whole numbers from -N to N, short texts, nothing of an own class -/
def W.okN (N : Nat) : W → Bool
  | .lst ws => okAll N ws
  | .tup ws => okAll N ws
  | .non => true
  | .bl _ => true
  | .int i => decide (-(N : Int) ≤ i ∧ i ≤ (N : Int))
  | .str s => decide ((reprText s).length ≤ 160)
  | .dct0 => true
  | .dct1 => true
  | .obj _ _ _ => false
def okAll (N : Nat) : List W → Bool
  | [] => true
  | w :: ws => w.okN N && okAll N ws
end
theorem costAll_app : ∀ a b : List W, costAll (a ++ b) = costAll a + costAll b
  | [], b => by show costAll b = 0 + costAll b; omega
  | x :: a, b => by
    have := costAll_app a b
    show x.cost + 2 + costAll (a ++ b) = x.cost + 2 + costAll a + costAll b
    omega
theorem costAll_rev : ∀ a : List W, costAll a.reverse = costAll a
  | [] => rfl
  | x :: a => by
    rw [List.reverse_cons, costAll_app, costAll_rev a]
    show costAll a + (x.cost + 2 + 0) = x.cost + 2 + costAll a
    omega
theorem costAll_split (i : Nat) (ws : List W) : costAll (ws.take i) + costAll (ws.drop i) = costAll ws := by
  rw [← costAll_app, List.take_append_drop]
theorem cost_at {ws : List W} {i : Nat} {w : W} (h : ws[i]? = some w) : costAll (ws.take i) + (w.cost + 2) + costAll (ws.drop (i + 1)) = costAll ws := by
  have h1 : ws.drop i = w :: ws.drop (i + 1) := by
    obtain ⟨hi, e⟩ := List.getElem?_eq_some_iff.mp h
    rw [List.drop_eq_getElem_cons hi, e]
  have h2 := costAll_split i ws
  rw [h1] at h2
  have h3 : costAll (w :: ws.drop (i + 1)) = w.cost + 2 + costAll (ws.drop (i + 1)) := rfl
  omega
theorem len_cost : ∀ ws : List W, ws.length ≤ costAll ws
  | [] => Nat.le_refl _
  | x :: ws => by
    have := len_cost ws
    show ws.length + 1 ≤ x.cost + 2 + costAll ws
    omega
theorem cost_mem {ws : List W} {w : W} (h : w ∈ ws) : w.cost ≤ costAll ws := by
  obtain ⟨i, e⟩ := List.mem_iff_getElem?.mp h
  have := cost_at e
  omega
theorem depAll_le {n : Nat} : ∀ {ws : List W}, (∀ w ∈ ws, w.dep ≤ n) → depAll ws ≤ n
  | [], _ => Nat.zero_le _
  | x :: ws, h => Nat.max_le.mpr ⟨h x List.mem_cons_self, depAll_le fun w hw => h w (List.mem_cons_of_mem _ hw)⟩
theorem dep_mem : ∀ {ws : List W} {w : W}, w ∈ ws → w.dep ≤ depAll ws
  | x :: ws, w, h => by
    rcases List.mem_cons.mp h with rfl | h
    · exact Nat.le_max_left _ _
    · exact Nat.le_trans (dep_mem h) (Nat.le_max_right _ _)
theorem okAll_mem {N : Nat} : ∀ {ws : List W}, okAll N ws = true → ∀ w ∈ ws, w.okN N = true
  | x :: ws, h, w, hw => by
    have h : (x.okN N && okAll N ws) = true := h
    rw [Bool.and_eq_true] at h
    rcases List.mem_cons.mp hw with rfl | hw
    · exact h.1
    · exact okAll_mem h.2 w hw
theorem okAll_of {N : Nat} : ∀ {ws : List W}, (∀ w ∈ ws, w.okN N = true) → okAll N ws = true
  | [], _ => rfl
  | x :: ws, h => by
    show (x.okN N && okAll N ws) = true
    rw [h x List.mem_cons_self, okAll_of fun w hw => h w (List.mem_cons_of_mem _ hw)]
    rfl
mutual
theorem W.okN_mono {N M : Nat} (h : N ≤ M) : ∀ w : W, w.okN N = true → w.okN M = true
  | .lst ws, q => okAll_mono h ws q
  | .tup ws, q => okAll_mono h ws q
  | .non, _ => rfl
  | .bl _, _ => rfl
  | .int i, q => by
    have q := of_decide_eq_true (show decide (-(N : Int) ≤ i ∧ i ≤ (N : Int)) = true from q)
    exact decide_eq_true (show -(M : Int) ≤ i ∧ i ≤ (M : Int) by omega)
  | .str _, q => q
  | .dct0, _ => rfl
  | .dct1, _ => rfl
  | .obj _ _ _, q => by cases q
theorem okAll_mono {N M : Nat} (h : N ≤ M) : ∀ ws : List W, okAll N ws = true → okAll M ws = true
  | [], _ => rfl
  | w :: ws, q => by
    have q : (w.okN N && okAll N ws) = true := q
    rw [Bool.and_eq_true] at q
    show (w.okN M && okAll M ws) = true
    rw [W.okN_mono h w q.1, okAll_mono h ws q.2]
    rfl
end
mutual
theorem W.okN_pure {N : Nat} : ∀ w : W, w.okN N = true → w.pure = true
  | .lst ws, q => okAll_pure ws q
  | .tup ws, q => okAll_pure ws q
  | .non, _ => rfl
  | .bl _, _ => rfl
  | .int i, q => rfl
  | .str _, q => rfl
  | .dct0, _ => rfl
  | .dct1, _ => rfl
  | .obj _ _ _, q => by cases q
theorem okAll_pure {N : Nat} : ∀ ws : List W, okAll N ws = true → pureAll ws = true
  | [], _ => rfl
  | w :: ws, q => by
    have q : (w.okN N && okAll N ws) = true := q
    rw [Bool.and_eq_true] at q
    show (w.pure && pureAll ws) = true
    rw [W.okN_pure w q.1, okAll_pure ws q.2]
    rfl
end
theorem piled_sum (ts : List Str) : piled ts = (ts.map (·.length)).sum + 2 * ts.length := by
  induction ts with
  | nil => rfl
  | cons t ts ih =>
    rw [piled_cons, ih, List.map_cons, List.sum_cons, List.length_cons]
    omega
theorem list_text (ts : List Str) : (listText ts).length ≤ piled ts + 4 := by
  have h := textFrom_len_le ts 0 "["
  have e : (("[" : String) : Str).length = 1 := rfl
  have e2 : (("]" : String) : Str).length = 1 := rfl
  unfold listText
  rw [strLen_append, e2]
  rw [e] at h
  rw [piled_sum]
  omega
theorem log_le {i : Int} {N : Nat} (hN : N ≤ 2000000000000) (q : -(N : Int) ≤ i ∧ i ≤ (N : Int)) : i.natAbs.log2 < 1920 := by
  by_cases z : i.natAbs = 0
  · rw [z]
    decide
  · refine (Nat.log2_lt z).mpr ?_
    have h1 : i.natAbs < 2 ^ 41 := by
      have e : (2 : Nat) ^ 41 = 2199023255552 := by decide
      rw [e]
      omega
    exact Nat.lt_of_lt_of_le h1 (Nat.pow_le_pow_right (by decide) (by decide))
theorem int_le {i : Int} {N : Nat} (hN : N ≤ 2000000000000) (q : -(N : Int) ≤ i ∧ i ≤ (N : Int)) : (toString i).length ≤ 14 := by
  refine int_text_length_le10 (k := 13) (by decide) ?_
  have e : (10 : Nat) ^ 13 = 10000000000000 := by decide
  rw [e]
  omega
mutual
theorem W.shown_le {N : Nat} (hN : N ≤ 2000000000000) : ∀ w : W, w.okN N = true → w.py.showable = true ∧ w.py.depth ≤ w.dep ∧ w.py.shown.length ≤ w.cost
  | .lst ws, q => by
    have z := shownAll_le hN ws q
    refine ⟨?_, ?_, ?_⟩
    · simpa only [W.py, PyData.showable] using z.1
    · have := z.2.1
      simp only [W.py, PyData.depth, W.dep]
      omega
    · have h := list_text (PyData.shownAll (pyAll ws))
      have := z.2.2
      simp only [W.py, PyData.shown, W.cost]
      omega
  | .tup ws, q => by
    have z := shownAll_le hN ws q
    refine ⟨?_, ?_, ?_⟩
    · simpa only [W.py, PyData.showable] using z.1
    · have := z.2.1
      simp only [W.py, PyData.depth, W.dep]
      omega
    · have h := fmt_text (PyData.shownAll (pyAll ws))
      have := z.2.2
      simp only [W.py, PyData.shown, W.cost]
      omega
  | .non, _ => ⟨rfl, Nat.le_refl _, by decide +kernel⟩
  | .bl b, _ => by cases b <;> exact ⟨rfl, Nat.le_refl _, by decide +kernel⟩
  | .int i, q => by
    have q := of_decide_eq_true (show decide (-(N : Int) ≤ i ∧ i ≤ (N : Int)) = true from q)
    refine ⟨decide_eq_true (log_le hN q), Nat.le_refl _, ?_⟩
    show (Str.ofString (toString i)).length ≤ 160
    rw [PySem.ofString_length]
    exact Nat.le_trans (int_le hN q) (by decide)
  | .str x, q => ⟨rfl, Nat.le_refl _, of_decide_eq_true (show decide ((reprText x).length ≤ 160) = true from q)⟩
  | .dct0, _ => ⟨rfl, by decide, by decide +kernel⟩
  | .dct1, _ => ⟨by decide +kernel, by decide +kernel, by decide +kernel⟩
  | .obj _ _ _, q => by cases q
theorem shownAll_le {N : Nat} (hN : N ≤ 2000000000000) : ∀ ws : List W, okAll N ws = true → PyData.showableAll (pyAll ws) = true ∧ PyData.depthAll (pyAll ws) ≤ depAll ws ∧ piled (PyData.shownAll (pyAll ws)) ≤ costAll ws
  | [], _ => ⟨rfl, Nat.le_refl _, Nat.le_refl _⟩
  | w :: ws, q => by
    have q : (w.okN N && okAll N ws) = true := q
    rw [Bool.and_eq_true] at q
    have z1 := W.shown_le hN w q.1
    have z2 := shownAll_le hN ws q.2
    refine ⟨?_, ?_, ?_⟩
    · show (w.py.showable && PyData.showableAll (pyAll ws)) = true
      rw [z1.1, z2.1]
      rfl
    · have h1 := z1.2.1
      have h2 := z2.2.1
      simp only [pyAll, PyData.depthAll, depAll]
      omega
    · show piled (w.py.shown :: PyData.shownAll (pyAll ws)) ≤ w.cost + 2 + costAll ws
      rw [piled_cons]
      have h1 := z1.2.2
      have h2 := z2.2.2
      omega
end
/-- what is fit to be shown -/
structure W.Fit (N C D : Nat) (w : W) : Prop where
  ok : w.okN N = true
  cost : w.cost ≤ C
  dep : w.dep ≤ D
theorem W.Fit.shows {N C D : Nat} {w : W} (h : w.Fit N C D) (hN : N ≤ 2000000000000) (hC : C ≤ 1000000) (hD : D ≤ 40) : w.Shows := by
  obtain ⟨h1, h2, h3⟩ := W.shown_le hN w h.ok
  refine ⟨W.okN_pure w h.ok, h1, Nat.le_trans h2 (Nat.le_trans h.dep hD), ?_⟩
  have := h.cost
  rw [sizeLine_eq]
  omega
mutual
theorem W.lim_of : ∀ w : W, w.cost ≤ 100000 → w.lim = true
  | .tup ws, h => by
    have h : costAll ws + 4 ≤ 100000 := h
    have h2 := len_cost ws
    show (decide (ws.length ≤ 100000) && limAll ws) = true
    rw [decide_eq_true (show ws.length ≤ 100000 by omega), limAll_of ws (by omega)]
    rfl
  | .lst _, _ => rfl
  | .non, _ => rfl
  | .bl _, _ => rfl
  | .int _, _ => rfl
  | .str _, _ => rfl
  | .dct0, _ => rfl
  | .dct1, _ => rfl
  | .obj _ _ _, _ => rfl
theorem limAll_of : ∀ ws : List W, costAll ws ≤ 100000 → limAll ws = true
  | [], _ => rfl
  | w :: ws, h => by
    have h : w.cost + 2 + costAll ws ≤ 100000 := h
    show (w.lim && limAll ws) = true
    rw [W.lim_of w (by omega), limAll_of ws (by omega)]
    rfl
end
end
section
/-! ### values drawn, bent: _law_pick, _law_odd, _law_bent of values of any sort -/
theorem W.retU {n : Nat} {Pp : PO1} {w : W} {ω : List Cell} (h : Pp w.sl (ω.take n)) : RetU n Pp w.sl ω := .inl ⟨fun j z => (by cases w <;> cases z), h⟩
theorem W.ren (w : W) (ks : List Nat) (n : Nat) : DL.ren ks n w.sl = w.sl := by cases w <;> rfl
theorem slAll_at {ws : List W} {i : Nat} {w : W} (h : ws[i]? = some w) : (slAll ws)[i]? = some w.sl := by rw [slAll_map, List.getElem?_map, h]; rfl
def oddW : List W := [.non, .bl true, .bl false, .int (-1), .int 0, .int 1, .int 2, .int 5, .int 6, .int 1000000000000, .str "", .str "0", .tup [], .lst [], .dct0, .tup [.int 0], .lst [.int 0], .tup [.int 0, .int 0], .tup [.int 0, .tup [.int 0, .int 0]], .tup [.int 1], .tup [.int 0, .tup []], .tup [.int 0, .tup [.int 0]], .tup [.int 1, .tup [.int 0, .int 0]], .tup [.int 0, .int 0, .int 0], .tup [.tup [.int 0], .int 0], .tup [.bl true], .tup [.int 0, .tup [.bl true, .int 0]], .tup [.str "0"], .tup [.non], .tup [.int 1, .int 0, .tup [.tup [.int 0]], .tup [.int 0]], .tup [.int 0, .lst [.int 0, .int 0]], .lst [.int 0, .tup [.int 0, .int 0]], .tup [.bl false, .tup [.int 0, .int 0]], .tup [.int 0, .tup [.int 0, .int 0, .int 0]], .dct1]
theorem odd_fit {w : W} (h : w ∈ oddW) : w.Fit 1000000000000 2000 4 := by
  have e : (oddW.all fun w => w.okN 1000000000000 && decide (w.cost ≤ 2000) && decide (w.dep ≤ 4)) = true := by decide +kernel
  have q := List.all_eq_true.mp e w h
  rw [Bool.and_eq_true, Bool.and_eq_true] at q
  exact ⟨q.1.1, of_decide_eq_true q.1.2, of_decide_eq_true q.2⟩
theorem W.Fit.mono {N C D N' C' D' : Nat} {w : W} (h : w.Fit N C D) (h1 : N ≤ N') (h2 : C ≤ C') (h3 : D ≤ D') : w.Fit N' C' D' := ⟨W.okN_mono h1 w h.ok, Nat.le_trans h.cost h2, Nat.le_trans h.dep h3⟩
theorem fit_int {i : Int} {N C D : Nat} (h1 : -(N : Int) ≤ i) (h2 : i ≤ (N : Int)) (hC : 160 ≤ C) : (W.int i).Fit N C D := ⟨decide_eq_true ⟨h1, h2⟩, hC, Nat.zero_le _⟩
theorem cps_lt (s : String) : ∀ c ∈ (Str.ofString s).cps.toList, c < 16 ^ 8 := by
  intro c hc
  rw [Str.ofString_eq_toList] at hc
  have hc : c ∈ s.toList.map Char.toNat := by simpa using hc
  obtain ⟨d, _, rfl⟩ := List.mem_map.mp hc
  have h := d.val.toNat_lt
  have e : (16 : Nat) ^ 8 = 4294967296 := by decide
  rw [e]
  exact h
theorem fit_show {i : Int} {M N C D : Nat} (hM : M ≤ 2000000000000) (h : -(M : Int) ≤ i ∧ i ≤ (M : Int)) (hC : 160 ≤ C) : (W.str (toString i)).Fit N C D := by
  refine ⟨decide_eq_true ?_, hC, Nat.zero_le _⟩
  have h1 := StrLaws.reprText_len (Str.ofString (toString i)) (cps_lt _)
  have h2 := int_le hM h
  have h3 : (Str.ofString (toString i)).length ≤ 14 := by
    rw [PySem.ofString_length]
    exact h2
  exact Nat.le_trans h1 (by omega)
theorem PenOk.mono' {c c' : Int} {cs : List D} (h : PenOk c cs) (e : c ≤ c') : PenOk c' cs := h.mono e
theorem cutR_lo (rs : List Sl) (n : Nat) : cutR rs none (some (n : Int)) = rs.take n := by
  unfold cutR
  rw [HT.sIx_none, HT.sIx_nat, List.drop_zero, Nat.sub_zero]
  by_cases h : n ≤ rs.length
  · rw [Nat.min_eq_left h]
  · rw [Nat.min_eq_right (by omega), List.take_of_length_le (Nat.le_refl _), List.take_of_length_le (by omega)]
theorem cutR_hi (rs : List Sl) (n : Nat) : cutR rs (some (n : Int)) none = rs.drop n := by
  unfold cutR
  rw [HT.sIx_none, HT.sIx_nat]
  by_cases h : n ≤ rs.length
  · rw [Nat.min_eq_left h, List.take_of_length_le (by rw [List.length_drop]; omega)]
  · rw [Nat.min_eq_right (by omega), List.drop_eq_nil_of_le (Nat.le_refl _), List.drop_eq_nil_of_le (by omega), List.take_nil]
theorem cutW_lo (ws : List W) (n : Nat) : cutR (slAll ws) none (some (n : Int)) = slAll (ws.take n) := by rw [cutR_lo, slAll_map, slAll_map, List.map_take]
theorem cutW_hi (ws : List W) (n : Nat) : cutR (slAll ws) (some (n : Int)) none = slAll (ws.drop n) := by rw [cutR_hi, slAll_map, slAll_map, List.map_drop]
theorem slAll_rev (ws : List W) : (slAll ws).reverse = slAll ws.reverse := by rw [slAll_map, slAll_map, List.map_reverse]
/-- an empty tuple -/
def W.isE : W → Bool
  | .tup [] => true
  | _ => false
/-- what came of a tuple, by its parts -/
theorem fit_tup {ws : List W} {N C D : Nat} (h1 : ∀ w ∈ ws, w.okN N = true) (h2 : costAll ws + 4 ≤ C) (h3 : ∀ w ∈ ws, w.dep + 1 ≤ D) (h4 : 1 ≤ D) : (W.tup ws).Fit N C D :=
  ⟨okAll_of h1, h2, by
    have : depAll ws ≤ D - 1 := depAll_le fun w hw => by
      have := h3 w hw
      omega
    show depAll ws + 1 ≤ D
    omega⟩
theorem fit_parts {ws : List W} {N C D : Nat} (h : (W.tup ws).Fit N C D) : (∀ w ∈ ws, w.okN N = true) ∧ costAll ws + 4 ≤ C ∧ (∀ w ∈ ws, w.dep + 1 ≤ D) ∧ 1 ≤ D := by
  have h3 : depAll ws + 1 ≤ D := h.dep
  refine ⟨okAll_mem (show okAll N ws = true from h.ok), h.cost, fun w hw => ?_, by omega⟩
  have := dep_mem hw
  omega
def φ_pickW : List Sl → List Cell → PO1 → Prop := fun rs ω Pp => ∃ c cs ws, rs = [.own 0, .kn (lstK (slAll ws))] ∧ ω = [.lst cs] ∧ PenOk c cs ∧ 0 < ws.length ∧ ws.length < 1000000 ∧ c ≤ 1000000 ∧ ∀ w cs', w ∈ ws → PenOk (c + 1) cs' → Pp w.sl [.lst cs']
def φ_oddW : List Sl → List Cell → PO1 → Prop := fun rs ω Pp => ∃ c cs, rs = [.own 0] ∧ ω = [.lst cs] ∧ PenOk c cs ∧ c ≤ 1000000 ∧ ∀ w cs', W.Fit 1000000000000 2000 4 w → PenOk (c + 1) cs' → Pp w.sl [.lst cs']
def φ_bent (K : Fg) (deep : Nat) : List Sl → List Cell → PO1 → Prop := fun rs ω Pp => ∃ c cs w N C D, rs = [.own 0, W.sl w, .val (nD deep)] ∧ ω = [.lst cs] ∧ PenOk c cs ∧ W.Fit N C D w ∧ 1000000000000 ≤ N ∧ N ≤ 2000000000000 ∧ C ≤ 400000 ∧ c + 4 * (deep + 1) ≤ 900000 ∧ ∀ w' cs', W.Fit (N + 1) (2 * C + 2000) (D + 4) w' → PenOk (c + 4 * (deep + 1)) cs' → Pp w'.sl [.lst cs']
section
variable {P : Program} {w : World} {K : Fg} {mg : Str → Option Value} {base : Heap} {f : Addr} {fd : FuncData}
theorem ok_pickW (F : Fun K "_law_pick" "_law_pick" s_l_pick f fd) (cD : Has P w K mg base 1 "_law_draw" (spL K φ_draw)) (mL : mg "len" = none) : FnOk P w K mg base CX0 2 f fd ["_law_pen_here", "_law_things"] (spU K φ_pickW) := by
  refine ok_U F sc_l_pick (fun rs ω Q h => ?_) fun rs ω Q h cdv A outer s H E hr => ?_
  · obtain ⟨c, cs, ws, rfl, _⟩ := h
    rfl
  · obtain ⟨c, cs, ws, rfl, rfl, hp, h1, h2, hc, hq⟩ := h
    have e := slAll_len ws
    refine ds_cons (d1_ret (de_ixS (fun _ _ => rfl) (de_var 1 rfl (by nofun) rfl (by walk_at "vis") (de_callL cD (by walk_at "room") (by rfl) (da_cons (de_var 0 rfl (by nofun) rfl (by walk_at "vis") (da_cons (de_callB call_len_seq (by rfl) mL PySem.boot_len (da_cons (de_var 1 rfl (by nofun) rfl (by walk_at "vis") (da_nil (ra_lenS (.lstK _) (da_nil ⟨0, _, [_], rfl, rfl, c, ((slAll ws).length : Int), hp, rfl, by omega, by omega, hc, fun r cs' hr' hp' => ?_⟩)))))))))))))
    have hr2 : r < ws.length := by omega
    exact ⟨_, _, _, rfl, .lstK _, atI_nat (slAll_at (List.getElem?_eq_getElem hr2)), W.retU (hq _ _ (List.getElem_mem hr2) hp')⟩
theorem ok_oddW (F : Fun K "_law_odd" "_law_odd" s_l_odd f fd) (cP : Has P w K mg base 2 "_law_pick" (spU K φ_pickW)) : FnOk P w K mg base CX0 3 f fd ["_law_pen_here"] (spU K φ_oddW) := by
  refine ok_U F sc_l_odd (fun rs ω Q h => ?_) fun rs ω Q h cdv A outer s H E hr => ?_
  · obtain ⟨c, cs, rfl, _⟩ := h
    rfl
  · obtain ⟨c, cs, rfl, rfl, hp, hc, hq⟩ := h
    have nd := sc_l_odd.nd
    refine ds_cons (d1_asg (i := 1) nd rfl (by walk_at "loc") (de_lstS (da_cons (de_none (da_cons (de_bool (da_cons (de_bool (da_cons (de_neg (de_int ⟨_, rfl, da_cons (de_int (da_cons (de_int (da_cons (de_int (da_cons (de_int (da_cons (de_int (da_cons (de_pow (de_int ⟨_, rfl, de_int ⟨_, rfl, by walk_at "ar", da_cons (de_str (da_cons (de_str (da_cons (de_tupS (da_nil ⟨rfl, by walk_at "sz", da_cons (de_lstS (da_nil ⟨rfl, by walk_at "sz", da_cons (de_dicK (da_cons (de_tupS (da_cons (de_int (da_nil ⟨rfl, by walk_at "sz", da_cons (de_lstS (da_cons (de_int (da_nil ⟨rfl, by walk_at "sz", da_cons (de_tupS (da_cons (de_int (da_cons (de_int (da_nil ⟨rfl, by walk_at "sz", da_cons (de_tupS (da_cons (de_int (da_cons (de_tupS (da_cons (de_int (da_cons (de_int (da_nil ⟨rfl, by walk_at "sz", da_nil ⟨rfl, by walk_at "sz", da_cons (de_tupS (da_cons (de_int (da_nil ⟨rfl, by walk_at "sz", da_nil ⟨rfl, by walk_at "sz", ?_⟩⟩))))⟩⟩))))))))))⟩))))))⟩))))⟩))))))⟩))⟩))))))⟩⟩))))))))))))⟩)))))))))))
    refine ds_cons (d1_asg (i := 1) nd rfl (by walk_at "loc") (de_bin op_plus (de_var 1 rfl (by nofun) rfl (by walk_at "vis") (de_lstS (da_cons (de_tupS (da_cons (de_int (da_cons (de_tupS (da_nil ⟨rfl, by walk_at "sz", da_nil ⟨rfl, by walk_at "sz", da_cons (de_tupS (da_cons (de_int (da_cons (de_tupS (da_cons (de_int (da_nil ⟨rfl, by walk_at "sz", da_nil ⟨rfl, by walk_at "sz", da_cons (de_tupS (da_cons (de_int (da_cons (de_tupS (da_cons (de_int (da_cons (de_int (da_nil ⟨rfl, by walk_at "sz", da_nil ⟨rfl, by walk_at "sz", da_cons (de_tupS (da_cons (de_int (da_cons (de_int (da_cons (de_int (da_nil ⟨rfl, by walk_at "sz", da_cons (de_tupS (da_cons (de_tupS (da_cons (de_int (da_nil ⟨rfl, by walk_at "sz", da_cons (de_int (da_nil ⟨rfl, by walk_at "sz", da_cons (de_tupS (da_cons (de_bool (da_nil ⟨rfl, by walk_at "sz", da_cons (de_tupS (da_cons (de_int (da_cons (de_tupS (da_cons (de_bool (da_cons (de_int (da_nil ⟨rfl, by walk_at "sz", da_nil ⟨rfl, by walk_at "sz", da_cons (de_tupS (da_cons (de_str (da_nil ⟨rfl, by walk_at "sz", da_cons (de_tupS (da_cons (de_none (da_nil ⟨rfl, by walk_at "sz", da_nil ⟨rfl, by walk_at "sz", rr_catLS (.lstK _) (.lstK _) rfl rfl (by walk_at "sz") ?_⟩⟩))))⟩))))⟩⟩))))))))))⟩))))⟩))⟩))))))⟩))))))))⟩⟩))))))))))⟩⟩))))))))⟩⟩)))))))))))
    refine ds_cons (d1_asg (i := 1) nd rfl (by walk_at "loc") (de_bin op_plus (de_var 1 rfl (by nofun) rfl (by walk_at "vis") (de_lstS (da_cons (de_tupS (da_cons (de_int (da_cons (de_int (da_cons (de_tupS (da_cons (de_tupS (da_cons (de_int (da_nil ⟨rfl, by walk_at "sz", da_nil ⟨rfl, by walk_at "sz", da_cons (de_tupS (da_cons (de_int (da_nil ⟨rfl, by walk_at "sz", da_nil ⟨rfl, by walk_at "sz", da_cons (de_tupS (da_cons (de_int (da_cons (de_lstS (da_cons (de_int (da_cons (de_int (da_nil ⟨rfl, by walk_at "sz", da_nil ⟨rfl, by walk_at "sz", da_cons (de_lstS (da_cons (de_int (da_cons (de_tupS (da_cons (de_int (da_cons (de_int (da_nil ⟨rfl, by walk_at "sz", da_nil ⟨rfl, by walk_at "sz", da_cons (de_tupS (da_cons (de_bool (da_cons (de_tupS (da_cons (de_int (da_cons (de_int (da_nil ⟨rfl, by walk_at "sz", da_nil ⟨rfl, by walk_at "sz", da_cons (de_tupS (da_cons (de_int (da_cons (de_tupS (da_cons (de_int (da_cons (de_int (da_cons (de_int (da_nil ⟨rfl, by walk_at "sz", da_nil ⟨rfl, by walk_at "sz", da_cons (de_dic01 (da_nil ⟨rfl, by walk_at "sz", rr_catLS (.lstK _) (.lstK _) rfl rfl (by walk_at "sz") ?_⟩))⟩⟩))))))))))))⟩⟩))))))))))⟩⟩))))))))))⟩⟩))))))))))⟩⟩))))⟩⟩)))))))))))))))))
    refine ds_cons (d1_ret (de_callU cP (by walk_at "room") (by rfl) (da_cons (de_var 0 rfl (by nofun) rfl (by walk_at "vis") (da_cons (de_var 1 rfl (by nofun) rfl (by walk_at "vis") (da_nil ⟨[0], [.own 0, .kn (lstK _)], rfl, by simp, by decide, rfl, c, cs, oddW, rfl, rfl, hp, by decide, by decide, hc, fun u cs' hu hp' => ?_⟩)))))))
    dsimp only
    rw [W.ren]
    exact W.retU (hq u cs' (odd_fit hu) hp')
theorem ok_bent {lv deep : Nat} (hlv : 3 ≤ lv) (F : Fun K "_law_bent" "_law_bent" s_l_bent f fd) (cD : Has P w K mg base 1 "_law_draw" (spL K φ_draw)) (cP : Has P w K mg base 2 "_law_pick" (spU K φ_pickW)) (cO : Has P w K mg base 3 "_law_odd" (spU K φ_oddW)) (cB : deep = 0 ∨ ∃ d, deep = d + 1 ∧ Has P w K mg base lv "_law_bent" (spU K (φ_bent K d)))
    (mI : mg "isinstance" = none) (mi : mg "int" = none) (mb : mg "bool" = none) (mt : mg "tuple" = none) (mL : mg "len" = none) (mS : mg "str" = none) (mLi : mg "list" = none) : FnOk P w K mg base CX0 (lv + 1) f fd ["_law_pen_here", "_law_value", "_law_deep"] (spU K (φ_bent K deep)) := by
  refine ok_U F sc_l_bent (fun rs ω Q h => ?_) fun rs ω Q h cdv A outer s H E hr => ?_
  · obtain ⟨c, cs, x, N, C, D, rfl, _⟩ := h
    rfl
  · obtain ⟨c, cs, x, N, C, D, rfl, rfl, hp, hx, hN, hN2, hC, hc, hq⟩ := h
    have nd := sc_l_bent.nd
    have ho : x.has K := W.pure_has x (W.okN_pure x hx.ok)
    refine ds_cut (fun δ' ω' => ∃ cs', ω' = [.lst cs'] ∧ PenOk (c + 1) cs' ∧ δ' = [.own 0, x.sl, .val (nD deep), .no, .no]) ?_ ?_
    · by_cases hi : ∃ i, x = .int i
      · obtain ⟨i, rfl⟩ := hi
        have hi : -(N : Int) ≤ i ∧ i ≤ (N : Int) := of_decide_eq_true (show decide (-(N : Int) ≤ i ∧ i ≤ (N : Int)) = true from hx.ok)
        have hC2 : 160 ≤ C := hx.cost
        rw [show (W.int i).sl = .val (.int i) from rfl]
        refine d1_if (dt_w (dw_and (dt_val (de_isiW (by rfl) mI (by rfl) mi PyProof.Rows.boot_int (de_var 1 rfl (by nofun) rfl (by walk_at "vis") ⟨.int i, true, rfl, ho, kitW_int (w := .int i) ho, _, rfl, iteT ?_⟩)))))
        refine dw_and (dt_not (dt_val (de_isiW (by rfl) mI (by rfl) mb PyProof.Rows.boot_bool (de_var 1 rfl (by nofun) rfl (by walk_at "vis") ⟨.int i, false, rfl, ho, kitW_bl (w := .int i) rfl, _, rfl, iteT ?_⟩))))
        refine dw_and1 (dt_cmp op_gt (nomark _) (de_callL cD (hr.mono (by omega)) (by rfl) (da_cons (de_var 0 rfl (by nofun) rfl (by walk_at "vis") (da_cons (de_int (da_nil ⟨0, _, [_], rfl, rfl, c, 5, hp, rfl, by decide, by decide, by omega, fun r cs' hr1 hp1 => de_int (rr_I0 (fun _ _ => .bl _) ⟨_, rfl, ?_⟩)⟩)))))))
        refine ite2 (fun h3 => ?_) (fun h3 => ?_)
        · refine ds_cons (d1_ret (de_callU cP (hr.mono (by omega)) (by rfl) (da_cons (de_var 0 rfl (by nofun) rfl (by walk_at "vis") (da_cons (de_lstS (da_cons (de_plus (de_var 1 rfl (by nofun) rfl (by walk_at "vis") (de_int (.int (da_cons (de_sub (de_var 1 rfl (by nofun) rfl (by walk_at "vis") ⟨_, rfl, de_int ⟨_, rfl, da_cons (de_cmp (op_eqD (Room.units hr)) (nomark _) (de_var 1 rfl (by nofun) rfl (by walk_at "vis") (de_int (rr_eqD (by walk_at "sh") (by walk_at "sh") (da_cons (de_none (da_cons (de_callTy call_str_int (by rfl) mS PyProof.Rows.boot_str (da_cons (de_var 1 rfl (by nofun) rfl (by walk_at "vis") (da_nil (ra_strI (log_le hN2 hi) (da_cons (de_tupS (da_cons (de_var 1 rfl (by nofun) rfl (by walk_at "vis") (da_nil ⟨rfl, by walk_at "sz", da_cons (de_int (da_cons (de_int (da_nil ⟨rfl, by walk_at "sz", ?_⟩))))⟩)))))))))))))))))⟩⟩))))))))))))))
          refine da_nil ⟨[0], [.own 0, .kn (lstK _)], rfl, by simp, by decide, rfl, c + 1, cs', [.int (i + 1), .int (i - 1), .bl (PyData.eqv (.int i) (.int 1)), .non, .str (toString i), .tup [.int i], .int 9, .int 10], rfl, rfl, hp1, by simp, by simp, by omega, fun u cs'' hu hp2 => ?_⟩
          dsimp only
          rw [W.ren]
          refine W.retU (hq u cs'' ?_ (hp2.mono (by omega)))
          simp only [List.mem_cons, List.not_mem_nil, or_false] at hu
          rcases hu with rfl | rfl | rfl | rfl | rfl | rfl | rfl | rfl
          · exact fit_int (by omega) (by omega) (by omega)
          · exact fit_int (by omega) (by omega) (by omega)
          · exact ⟨rfl, show 160 ≤ _ by omega, Nat.zero_le _⟩
          · exact ⟨rfl, show 160 ≤ _ by omega, Nat.zero_le _⟩
          · exact fit_show hN2 hi (by omega)
          · refine fit_tup (fun w hw => ?_) (show 160 + 2 + 0 + 4 ≤ _ by omega) (fun w hw => ?_) (by omega)
            · rw [List.mem_singleton] at hw
              subst hw
              exact decide_eq_true (show -((N + 1 : Nat) : Int) ≤ i ∧ i ≤ ((N + 1 : Nat) : Int) by omega)
            · rw [List.mem_singleton] at hw
              subst hw
              exact show 0 + 1 ≤ _ by omega
          · exact fit_int (by omega) (by omega) (by omega)
          · exact fit_int (by omega) (by omega) (by omega)
        · exact ds_nil ⟨cs', rfl, hp1, rfl⟩
      · cases x with
        | int i => exact absurd ⟨i, rfl⟩ hi
        | bl b =>
          refine d1_if (dt_w (dw_and (dt_val (de_isiW (by rfl) mI (by rfl) mi PyProof.Rows.boot_int (de_var 1 rfl (W.no _) rfl (by walk_at "vis") ⟨.bl b, true, rfl, ho, kitW_int (w := .bl b) ho, _, rfl, iteT ?_⟩)))))
          exact dw_and (dt_not (dt_val (de_isiW (by rfl) mI (by rfl) mb PyProof.Rows.boot_bool (de_var 1 rfl (W.no _) rfl (by walk_at "vis") ⟨.bl b, true, rfl, ho, kitW_bl (w := .bl b) rfl, _, rfl, iteF (iteF (ds_nil ⟨cs, rfl, hp.mono (by omega), rfl⟩))⟩))))
        | _ => exact d1_if (dt_w (dw_and (dt_val (de_isiW (by rfl) mI (by rfl) mi PyProof.Rows.boot_int (de_var 1 rfl (W.no _) rfl (by walk_at "vis") ⟨_, false, rfl, ho, kitW_int ho, _, rfl, iteF (iteF (ds_nil ⟨cs, rfl, hp.mono (by omega), rfl⟩))⟩)))))
    rintro δ' ω' ⟨cs', rfl, hp1, rfl⟩
    refine ds_cons (d1_if (dt_w (dw_orB (x := !x.isTup) (y := x.isE || decide (deep = 0)) (dt_not (dt_val (de_isiW (by rfl) mI (by rfl) mt PyProof.Rows.boot_tuple (de_var 1 rfl (W.no _) rfl (by walk_at "vis") ⟨x, _, rfl, ho, kitW_tup ho, _, rfl, rfl, rfl⟩)))) (fun h1 => ?_) ?_)))
    · cases x with
      | tup ws =>
        refine dw_orB (x := ws.isEmpty) (y := decide (deep = 0)) (dt_cmp (op_eqT0 (Room.units hr)) (nomark _) (de_var 1 rfl (W.no _) rfl (by walk_at "vis") (de_tup (da_nil ⟨[], rfl, by decide, rr_eqT0 ⟨_, rfl, ?_, rfl⟩⟩)))) (fun _ => dw_or1 (dt_cmp (op_eqD (Room.units hr)) (nomark _) (de_var 2 rfl (by nofun) rfl (by walk_at "vis") (de_int (rr_eqD (by walk_at "sh") (by walk_at "sh") ⟨_, rfl, ?_, rfl⟩))))) ⟨?_, rfl⟩
        · cases ws <;> rfl
        · rw [show nD deep = PyData.int (deep : Int) from rfl, eqv_int]
          by_cases h0 : deep = 0
          · subst h0
            rfl
          · rw [decide_eq_false h0, decide_eq_false (show ¬ ((deep : Int)) = 0 by omega)]
        · cases ws <;> rfl
      | _ => cases h1
    refine ite2 (fun h1 => ?_) (fun h1 => ?_)
    · refine ds_cons (d1_ret (de_callU cO (hr.mono (by omega)) (by rfl) (da_cons (de_var 0 rfl (by nofun) rfl (by walk_at "vis") (da_nil ⟨[0], [.own 0], rfl, by simp, by decide, rfl, c + 1, cs', rfl, rfl, hp1, by omega, fun u cs'' hu hp2 => ?_⟩)))))
      dsimp only
      rw [W.ren]
      exact W.retU (hq u cs'' (hu.mono (by omega) (by omega) (by omega)) (hp2.mono (by omega)))
    refine ds_nil ?_
    obtain ⟨ws, d, rfl, rfl, hne, cB⟩ : ∃ ws d, x = .tup ws ∧ deep = d + 1 ∧ ws ≠ [] ∧ Has P w K mg base lv "_law_bent" (spU K (φ_bent K d)) := by
      cases x with
      | tup ws =>
        have h2 : ¬ (ws = [] ∨ deep = 0) := fun z => h1 (by
          rcases z with rfl | rfl
          · rfl
          · show (!true || ((W.tup ws).isE || decide (0 = 0))) = true
            rw [decide_eq_true rfl, Bool.or_true, Bool.or_true])
        rcases cB with q | ⟨d, e, q⟩
        · exact absurd (.inr q) h2
        · exact ⟨ws, d, rfl, e, fun z => h2 (.inl z), q⟩
      | _ => exact absurd rfl h1
    obtain ⟨f1, f2, f3, f4⟩ := fit_parts hx
    have hz : ws.length ≤ costAll ws := len_cost ws
    have hpos : 0 < ws.length := List.length_pos_iff.mpr hne
    have hlen := slAll_len ws
    refine ds_cons (d1_par rfl nd (i := 3) (j := 4) rfl rfl (by decide) rfl rfl rfl (da_cons (de_callL cD (hr.mono (by omega)) (by rfl) (da_cons (de_var 0 rfl (by nofun) rfl (by walk_at "vis") (da_cons (de_callB call_len_seq (by rfl) mL PySem.boot_len (da_cons (de_var 1 rfl (W.no _) rfl (by walk_at "vis") (da_nil (ra_lenS (.tupK _) (da_nil ⟨0, _, [_], rfl, rfl, c + 1, ((slAll ws).length : Int), hp1, rfl, by omega, by omega, by omega, fun r cs2 hr2 hp2 => ?_⟩))))))))))))
    refine da_cons (de_callL cD (hr.mono (by omega)) (by rfl) (da_cons (de_var 0 rfl (by nofun) rfl (by walk_at "vis") (da_cons (de_int (da_nil ⟨0, _, [_], rfl, rfl, c + 1 + 1, 9, hp2, rfl, by decide, by decide, by omega, fun v cs3 hv hp3 => da_nil ⟨_, _, rfl, ?_⟩⟩))))))
    have hr3 : r < ws.length := by omega
    obtain ⟨y, hy⟩ : ∃ y, ws[r]? = some y := ⟨_, List.getElem?_eq_getElem hr3⟩
    have hcost := cost_at hy
    have hym := List.mem_of_getElem? hy
    have h1t : ∀ {w : W} {n : Nat}, w ∈ ws.take n → w ∈ ws := fun h => List.mem_of_mem_take h
    have h1d : ∀ {w : W} {n : Nat}, w ∈ ws.drop n → w ∈ ws := fun h => List.mem_of_mem_drop h
    have up : ∀ us : List W, (∀ w ∈ us, w ∈ ws) → costAll us + 4 ≤ 2 * C + 2000 → (W.tup us).Fit (N + 1) (2 * C + 2000) (D + 4) := fun us hu hc => fit_tup (fun w hw => W.okN_mono (Nat.le_succ _) w (f1 w (hu w hw))) hc (fun w hw => by have := f3 w (hu w hw); omega) (by omega)
    refine ds_cons (d1_if (dt_cmp (op_eqD (Room.units hr)) (nomark _) (de_var 4 rfl (by nofun) rfl (by walk_at "vis") (de_int (rr_eqD (by walk_at "sh") (by walk_at "sh") ⟨_, rfl, ?_⟩)))))
    refine ite2 (fun h0 => ?_) (fun h0 => ?_)
    · refine ds_cons (d1_ret (de_bin op_plus (de_sliceTK (de_var 1 rfl (W.no _) rfl (by walk_at "vis") ⟨slAll ws, rfl, slAll_free ws, de_var 3 rfl (by nofun) rfl (by walk_at "vis") ⟨_, rfl, ?_⟩⟩))))
      dsimp only
      rw [cutW_lo]
      refine de_sliceTK (de_var 1 rfl (W.no _) rfl (by walk_at "vis") ⟨slAll ws, rfl, slAll_free ws, de_plus (de_var 3 rfl (by nofun) rfl (by walk_at "vis") (de_int (.int ⟨_, rfl, ?_⟩)))⟩)
      show RR _ _ _ (Sl.kn (tupK (cutR (slAll ws) (some ((r : Int) + 1)) none))) _ _
      rw [show ((r : Int) + 1) = ((r + 1 : Nat) : Int) from rfl, cutW_hi]
      refine rr_catTK (slAll_free _) (slAll_free _) (by rw [slAll_len, slAll_len, List.length_take, List.length_drop]; omega) ?_
      rw [← slAll_app]
      refine W.retU (w := .tup (ws.take r ++ ws.drop (r + 1))) (hq _ cs3 (up _ (fun w hw => ?_) ?_) (hp3.mono (by omega)))
      · exact (List.mem_append.mp hw).elim h1t h1d
      · rw [costAll_app]
        omega
    refine ds_nil ?_
    refine ds_cons (d1_if (dt_cmp (op_eqD (Room.units hr)) (nomark _) (de_var 4 rfl (by nofun) rfl (by walk_at "vis") (de_int (rr_eqD (by walk_at "sh") (by walk_at "sh") ⟨_, rfl, ?_⟩)))))
    refine ite2 (fun h0 => ?_) (fun h0 => ?_)
    · refine ds_cons (d1_ret (de_bin op_plus (de_sliceTK (de_var 1 rfl (W.no _) rfl (by walk_at "vis") ⟨slAll ws, rfl, slAll_free ws, de_plus (de_var 3 rfl (by nofun) rfl (by walk_at "vis") (de_int (.int ⟨_, rfl, ?_⟩)))⟩))))
      dsimp only
      rw [show ((r : Int) + 1) = ((r + 1 : Nat) : Int) from rfl, cutW_lo]
      refine de_sliceTK (de_var 1 rfl (W.no _) rfl (by walk_at "vis") ⟨slAll ws, rfl, slAll_free ws, de_var 3 rfl (by nofun) rfl (by walk_at "vis") ⟨_, rfl, ?_⟩⟩)
      show RR _ _ _ (Sl.kn (tupK (cutR (slAll ws) (some (r : Int)) none))) _ _
      rw [cutW_hi]
      refine rr_catTK (slAll_free _) (slAll_free _) (by rw [slAll_len, slAll_len, List.length_take, List.length_drop]; omega) ?_
      rw [← slAll_app]
      refine W.retU (w := .tup (ws.take (r + 1) ++ ws.drop r)) (hq _ cs3 (up _ (fun w hw => ?_) ?_) (hp3.mono (by omega)))
      · exact (List.mem_append.mp hw).elim h1t h1d
      · have g1 := costAll_split r ws
        have g2 := costAll_split (r + 1) ws
        rw [costAll_app]
        omega
    refine ds_nil ?_
    refine ds_cons (d1_if (dt_cmp (op_eqD (Room.units hr)) (nomark _) (de_var 4 rfl (by nofun) rfl (by walk_at "vis") (de_int (rr_eqD (by walk_at "sh") (by walk_at "sh") ⟨_, rfl, ?_⟩)))))
    refine ite2 (fun h0 => ?_) (fun h0 => ?_)
    · refine ds_cons (d1_ret (de_callTy call_list_of (by rfl) mLi PyProof.Rows.boot_list (da_cons (de_var 1 rfl (W.no _) rfl (by walk_at "vis") (da_nil (ra_listTK (slAll_free ws) ?_))))))
      have g := up ws (fun w h => h) (by omega)
      exact W.retU (w := .lst ws) (hq _ cs3 ⟨g.ok, g.cost, g.dep⟩ (hp3.mono (by omega)))
    refine ds_nil ?_
    refine ds_cons (d1_if (dt_cmp (op_eqD (Room.units hr)) (nomark _) (de_var 4 rfl (by nofun) rfl (by walk_at "vis") (de_int (rr_eqD (by walk_at "sh") (by walk_at "sh") ⟨_, rfl, ?_⟩)))))
    refine ite2 (fun h0 => ?_) (fun h0 => ?_)
    · refine ds_cons (d1_ret (de_revTK (de_var 1 rfl (W.no _) rfl (by walk_at "vis") ⟨slAll ws, rfl, slAll_free ws, ?_⟩)))
      rw [slAll_rev]
      refine W.retU (w := .tup ws.reverse) (hq _ cs3 (up _ (fun w hw => List.mem_reverse.mp hw) ?_) (hp3.mono (by omega)))
      rw [costAll_rev]
      omega
    refine ds_nil ?_
    refine ds_cons (d1_ret (de_bin op_plus (de_bin op_plus (de_sliceTK (de_var 1 rfl (W.no _) rfl (by walk_at "vis") ⟨slAll ws, rfl, slAll_free ws, de_var 3 rfl (by nofun) rfl (by walk_at "vis") ⟨_, rfl, ?_⟩⟩)))))
    dsimp only
    rw [cutW_lo]
    have ey := f3 y hym
    refine de_tupS (da_cons (de_callU cB hr (by rfl) (da_cons (de_var 0 rfl (by nofun) rfl (by walk_at "vis") (da_cons (de_ixS (fun _ _ => rfl) (de_var 1 rfl (W.no _) rfl (by walk_at "vis") (de_var 3 rfl (by nofun) rfl (by walk_at "vis") ⟨slAll ws, _, y.sl, rfl, .tupK _, atI_nat (slAll_at hy), da_cons (de_sub (de_var 2 rfl (by nofun) rfl (by walk_at "vis") ⟨_, rfl, de_int ⟨_, rfl, da_nil ⟨[0], [.own 0, y.sl, .val (nD d)], ?_, by simp, by decide, by cases y <;> rfl, c + 1 + 1 + 1, cs3, y, N, y.cost, y.dep, rfl, rfl, hp3, ⟨f1 y hym, Nat.le_refl _, Nat.le_refl _⟩, hN, hN2, by omega, by omega, fun u cs4 hu hp4 => ?_⟩⟩⟩))⟩))))))))
    · rw [List.map_cons, List.map_cons, List.map_cons, List.map_nil, W.ren]
      have e : (((d + 1 : Nat) : Int) - 1) = (d : Int) := by omega
      show [_, _, Sl.val (.int (((d + 1 : Nat) : Int) - 1))] = _
      rw [e]
      rfl
    · dsimp only
      rw [W.ren]
      refine da_nil ⟨free1 u _ rfl, by walk_at "sz", ?_⟩
      refine rr_catTK (slAll_free _) (free1 u _ rfl) (by rw [slAll_len, List.length_take, List.length_singleton]; omega) ?_
      refine de_sliceTK (de_var 1 rfl (W.no _) rfl (by walk_at "vis") ⟨slAll ws, rfl, slAll_free ws, de_plus (de_var 3 rfl (by nofun) rfl (by walk_at "vis") (de_int (.int ⟨_, rfl, ?_⟩)))⟩)
      show RR _ _ _ (Sl.kn (tupK (cutR (slAll ws) (some ((r : Int) + 1)) none))) _ _
      rw [show ((r : Int) + 1) = ((r + 1 : Nat) : Int) from rfl, cutW_hi, show slAll (ws.take r) ++ [u.sl] = slAll (ws.take r ++ [u]) from (slAll_app (ws.take r) [u]).symm]
      refine rr_catTK (slAll_free _) (slAll_free _) (by rw [slAll_len, slAll_len, List.length_append, List.length_take, List.length_drop, List.length_singleton]; omega) ?_
      rw [← slAll_app]
      have hall : ∀ w ∈ ws.take r ++ [u] ++ ws.drop (r + 1), w ∈ ws ∨ w = u := fun w hw => by
        rcases List.mem_append.mp hw with hw | hw
        · rcases List.mem_append.mp hw with hw | hw
          · exact .inl (h1t hw)
          · exact .inr (List.mem_singleton.mp hw)
        · exact .inl (h1d hw)
      refine W.retU (w := .tup (ws.take r ++ [u] ++ ws.drop (r + 1))) (hq _ cs4 (fit_tup (fun w hw => ?_) ?_ (fun w hw => ?_) (by omega)) (hp4.mono (by omega)))
      · rcases hall w hw with h | rfl
        · exact W.okN_mono (Nat.le_succ _) w (f1 w h)
        · exact hu.ok
      · have g := hu.cost
        have e2 : costAll [u] = u.cost + 2 + 0 := rfl
        rw [costAll_app, costAll_app, e2]
        omega
      · rcases hall w hw with h | rfl
        · have := f3 w h
          omega
        · have := hu.dep
          omega
end
end
section
/-! ### the law's own test of a system, of values of any sort -/
def hdW (w : W) : W := match w with
  | .tup (a :: _) => a
  | _ => .non
theorem ones_eq {α : Type} (l : List α) : PyData.eqv (.list (l.map fun _ => PyData.int 1)) (.list []) = l.isEmpty := by
  cases l <;> rfl
theorem ones_plain {α : Type} (l : List α) : (PyData.list (l.map fun _ => PyData.int 1)).plain = true := by
  induction l with
  | nil => rfl
  | cons a l ih => simpa [PyData.plain, PyData.plainAll] using ih
theorem ones_depth {α : Type} (l : List α) : (PyData.list (l.map fun _ => PyData.int 1)).depth ≤ 60 := by
  have : (PyData.list (l.map fun _ => PyData.int 1)).depth ≤ 1 := by
    induction l with
    | nil =>
      show PyData.depth (.list []) ≤ 1
      decide
    | cons a l ih => simpa [PyData.depth, PyData.depthAll] using ih
  omega
theorem none_filt (ws : List W) (g : W → Bool) : (ws.filter fun w => !g w).isEmpty = ws.all g := by
  induction ws with
  | nil => rfl
  | cons w ws ih =>
    rw [List.filter_cons, List.all_cons, ← ih]
    cases g w <;> rfl
section
variable {P : Program} {w : World} {K : Fg} {mg : Str → Option Value} {base : Heap} {f : Addr} {fd : FuncData}
theorem ok_lwhole (F : Fun K "_law_is_whole" "_law_is_whole" s_l_is_whole f fd) (mI : mg "isinstance" = none) (mi : mg "int" = none) (mb : mg "bool" = none) : FnOk P w K mg base CX0 1 f fd ["_law_value", "_law_low", "_law_high"] (spS K (φ_numW K)) := by
  refine ok_S F sc_l_is_whole (fun rs Q h => ?_) fun rs Q h cdv A outer s H E hr => ?_
  · obtain ⟨x, lo, hi, rfl, _⟩ := h
    rfl
  · obtain ⟨x, lo, hi, rfl, ho, hq⟩ := h
    refine ds_cons (d1_ret (de_andB (x := x.isInt) (y := isNumW x lo hi) (de_isiW (by rfl) mI (by rfl) mi PyProof.Rows.boot_int (de_var 0 rfl (W.no _) rfl (by walk_at "vis") ⟨x, _, rfl, ho, kitW_int ho, rfl, rfl⟩)) (fun h1 => ?_) ⟨rfl, ?_⟩))
    · refine de_andB (x := !x.isBl) (y := isNumW x lo hi) (de_notV (de_isiW (by rfl) mI (by rfl) mb PyProof.Rows.boot_bool (de_var 0 rfl (W.no _) rfl (by walk_at "vis") ⟨x, _, rfl, ho, kitW_bl h1, _, rfl, rfl, rfl⟩))) (fun h2 => ?_) ?_
      · cases x with
        | int i =>
          refine de_one (de_chain op_le op_le (de_var 1 rfl (by nofun) rfl (by walk_at "vis") (de_var 0 rfl (by nofun) rfl (by walk_at "vis") (rr_I0 (fun _ _ => .bl _) ⟨_, rfl, ?_⟩))))
          refine ite2 (fun h3 => ?_) (fun h3 => ?_)
          · refine de_var 2 rfl (by nofun) rfl (by walk_at "vis") (rr_I0 (fun _ _ => .bl _) ⟨?_, rfl⟩)
            show _ = Sl.val (.bool (decide (lo ≤ i) && decide (i ≤ hi)))
            rw [h3]
            rfl
          · refine ⟨?_, rfl⟩
            show _ = Sl.val (.bool (decide (lo ≤ i) && decide (i ≤ hi)))
            rw [(Bool.not_eq_true _).mp h3]
            rfl
        | bl b => cases h2
        | _ => cases h1
      · cases x <;> first | exact ⟨rfl, rfl⟩ | cases h1
    · have e : (x.isInt && isNumW x lo hi) = isNumW x lo hi := by cases x <;> rfl
      rw [e]
      exact hq
theorem ok_lsys (F : Fun K "_law_is_system" "_law_is_system" s_l_is_system f fd) (c1 : Has P w K mg base 1 "_law_is_whole" (spS K (φ_numW K))) (mI : mg "isinstance" = none) (mt : mg "tuple" = none) (mL : mg "len" = none) : FnOk P w K mg base CX0 2 f fd ["_law_value"] (spS K (φ_sysW K)) := by
  refine ok_S F sc_l_is_system (fun rs Q h => ?_) fun rs Q h cdv A outer s H E hr => ?_
  · obtain ⟨x, rfl, _⟩ := h
    rfl
  · obtain ⟨x, rfl, ho, hl, hq⟩ := h
    have nd := sc_l_is_system.nd
    refine ds_cons (d1_if (dt_w (dw_orB (x := !x.isTup) (y := !decide (lenW x = 4) || !isNumW (hdW x) 1 6) (dt_not (dt_val (de_isiW (by rfl) mI (by rfl) mt PyProof.Rows.boot_tuple (de_var 0 rfl (W.no _) rfl (by walk_at "vis") ⟨x, _, rfl, ho, kitW_tup ho, _, rfl, rfl, rfl⟩)))) (fun h1 => ?_) ?_)))
    · cases x with
      | tup ws =>
        refine dw_orB (x := !decide (lenW (.tup ws) = 4)) (y := !isNumW (hdW (.tup ws)) 1 6) (dt_cmp (op_neD (Room.units hr)) (nomark _) (de_callB call_len_seq (by rfl) mL PySem.boot_len (da_cons (de_var 0 rfl (W.no _) rfl (by walk_at "vis") (da_nil (ra_lenS (.tupK _) (de_int (rr_neD (by walk_at "sh") (by walk_at "sh") ⟨_, rfl, ?_, rfl⟩)))))))) (fun h2 => ?_) ⟨rfl, rfl⟩
        · rw [eqv_int, slAll_len]
          rfl
        · have h3 : (ws.length : Int) = 4 := yes_dec (by rw [show (!decide ((ws.length : Int) = 4)) = false from h2]; decide)
          match ws, h3 with
          | a :: ws, h3 =>
            exact dw_or1 (dt_not (dt_val (de_callS c1 (by walk_at "room") (by rfl) (da_cons (de_ixS (fun _ _ => rfl) (de_var 0 rfl (W.no _) rfl (by walk_at "vis") (de_int ⟨slAll (a :: ws), 0, a.sl, rfl, .tupK _, atI_nat (show (slAll (a :: ws))[0]? = some a.sl from rfl), da_cons (de_int (da_cons (de_int (da_nil ⟨free1 a _ rfl, a, 1, 6, rfl, has_mem ho (by simp), rfl, _, rfl, rfl, rfl⟩))))⟩)))))))
          | [], h3 => exact absurd h3 (by simp)
      | _ => cases h1
    refine ite2 (fun h1 => ?_) (fun h1 => ?_)
    · refine ds_cons (d1_ret (de_bool ⟨rfl, ?_⟩))
      have e : isSysW x = false := by
        unfold isSysW
        split
        · next n s o k =>
          have h2 : (!true || (!decide ((4 : Int) = 4) || !isNumW (.int n) 1 6)) = true := h1
          have h3 : isNumW (.int n) 1 6 = false := by simpa using h2
          rw [h3]
          rfl
        · rfl
      rw [← e]
      exact hq
    refine ds_nil ?_
    obtain ⟨n, w2, w3, w4, rfl, hb⟩ : ∃ n w2 w3 w4, x = .tup [.int n, w2, w3, w4] ∧ isNumW (.int n) 1 6 = true := by
      cases x with
      | tup ws =>
        have h2 : ¬ (!true || (!decide ((ws.length : Int) = 4) || !isNumW (hdW (.tup ws)) 1 6)) = true := h1
        match ws, h2 with
        | [a, b, c, d], h2 =>
          have h3 : isNumW a 1 6 = true := by simpa [hdW] using h2
          cases a with
          | int n => exact ⟨n, b, c, d, rfl, h3⟩
          | _ => cases h3
        | [], h => exact absurd rfl h
        | [_], h => exact absurd rfl h
        | [_, _], h => exact absurd rfl h
        | [_, _, _], h => exact absurd rfl h
        | _ :: _ :: _ :: _ :: _ :: r, h =>
          refine absurd ?_ h
          rw [decide_eq_false (by simp only [List.length_cons]; omega)]
          rfl
      | _ => exact absurd rfl h1
    have o2 := has_mem ho (w := w2) (by simp)
    have o3 := has_mem ho (w := w3) (by simp)
    have o4 := has_mem ho (w := w4) (by simp)
    have l3 := lim_mem hl (w := w3) (by simp)
    have l4 := lim_mem hl (w := w4) (by simp)
    refine ds_cons (d1_unpS rfl (pgs_cons (pg_name (i := 1) nd rfl (by walk_at "loc")) (pgs_cons (pg_name (i := 2) nd rfl (by walk_at "loc")) (pgs_cons (pg_name (i := 3) nd rfl (by walk_at "loc")) (pgs_cons (pg_name (i := 4) nd rfl (by walk_at "loc")) (pgs_nil))))) (.cons (.cons (.cons (.cons (.nil))))) (de_var 0 rfl (by nofun) rfl (by walk_at "vis") ⟨_, rfl, rfl, ?_⟩))
    refine ds_cons (d1_if (dt_w (dw_orB (x := !isNumW w2 0 (n - 1)) (y := !w3.isTup || !w4.isTup) (dt_not (dt_val (de_callS c1 (by walk_at "room") (by rfl) (da_cons (de_var 2 rfl (W.no _) rfl (by walk_at "vis") (da_cons (de_int (da_cons (de_sub (de_var 1 rfl (by nofun) rfl (by walk_at "vis") ⟨_, rfl, de_int ⟨_, rfl, da_nil ⟨free1 w2 _ rfl, w2, 0, n - 1, rfl, o2, rfl, _, rfl, rfl, rfl⟩⟩⟩)))))))))) (fun _ => dw_orB (x := !w3.isTup) (y := !w4.isTup) (dt_not (dt_val (de_isiW (by rfl) mI (by rfl) mt PyProof.Rows.boot_tuple (de_var 3 rfl (W.no _) rfl (by walk_at "vis") ⟨w3, _, rfl, o3, kitW_tup o3, _, rfl, rfl, rfl⟩)))) (fun _ => dw_or1 (dt_not (dt_val (de_isiW (by rfl) mI (by rfl) mt PyProof.Rows.boot_tuple (de_var 4 rfl (W.no _) rfl (by walk_at "vis") ⟨w4, _, rfl, o4, kitW_tup o4, _, rfl, rfl, rfl⟩))))) ⟨rfl, rfl⟩) ?_)))
    refine ite2 (fun h1 => ?_) (fun h1 => ?_)
    · refine ds_cons (d1_ret (de_bool ⟨rfl, ?_⟩))
      have e : isSysW (.tup [.int n, w2, w3, w4]) = false := by
        show (isNumW (.int n) 1 6 && isNumW w2 0 (n - 1) && isOpsW w3 n && isKindsW w4 (lenW w3)) = false
        cases h2 : isNumW w2 0 (n - 1) with
        | false => rw [Bool.and_false, Bool.false_and, Bool.false_and]
        | true =>
          rw [h2] at h1
          cases w3 with
          | tup us =>
            cases w4 with
            | tup vs => exact absurd h1 (by simp [W.isTup])
            | _ => rw [show isKindsW _ _ = false from rfl, Bool.and_false]
          | _ => rw [show isOpsW _ _ = false from rfl, Bool.and_false, Bool.false_and]
      rw [← e]
      exact hq
    refine ds_nil ?_
    obtain ⟨us, vs, rfl, rfl, hs⟩ : ∃ us vs, w3 = .tup us ∧ w4 = .tup vs ∧ isNumW w2 0 (n - 1) = true := by
      cases h2 : isNumW w2 0 (n - 1) with
      | false =>
        rw [h2] at h1
        exact absurd rfl h1
      | true =>
        rw [h2] at h1
        cases w3 with
        | tup us =>
          cases w4 with
          | tup vs => exact ⟨us, vs, rfl, rfl, rfl⟩
          | _ => exact absurd rfl h1
        | _ => exact absurd rfl h1
    have eS : isSysW (.tup [.int n, w2, .tup us, .tup vs]) = (isOpsW (.tup us) n && isKindsW (.tup vs) us.length) := by
      show (isNumW (.int n) 1 6 && isNumW w2 0 (n - 1) && isOpsW (.tup us) n && isKindsW (.tup vs) us.length) = _
      rw [hb, hs]
      rfl
    refine ds_cons (d1_if (dt_w (dw_orB (x := !decide (1 ≤ us.length ∧ us.length ≤ 6)) (y := !decide ((vs.length : Int) = us.length)) (dt_not (dt_chain op_lt op_lt (de_int (de_callB call_len_seq (by rfl) mL PySem.boot_len (da_cons (de_var 3 rfl (by nofun) rfl (by walk_at "vis") (da_nil (ra_lenS (.tupK _) (rr_I0 (fun _ _ => .bl _) ⟨_, rfl, ?_⟩))))))))) (fun _ => dw_or1 (dt_cmp (op_neD (Room.units hr)) (nomark _) (de_callB call_len_seq (by rfl) mL PySem.boot_len (da_cons (de_var 4 rfl (by nofun) rfl (by walk_at "vis") (da_nil (ra_lenS (.tupK _) (de_callB call_len_seq (by rfl) mL PySem.boot_len (da_cons (de_var 3 rfl (by nofun) rfl (by walk_at "vis") (da_nil (ra_lenS (.tupK _) (rr_neD (by walk_at "sh") (by walk_at "sh") ⟨_, rfl, ?_, rfl⟩))))))))))))) ?_)))
    · rw [slAll_len]
      refine ite2 (fun h3 => ?_) (fun h3 => ?_)
      · refine de_int (rr_I0 (fun _ _ => .bl _) ⟨_, rfl, ?_, rfl⟩)
        have h4 : (0 : Int) < us.length := of_decide_eq_true h3
        by_cases h5 : (us.length : Int) < 7
        · rw [decide_eq_true h5, decide_eq_true (show 1 ≤ us.length ∧ us.length ≤ 6 by omega)]
        · rw [decide_eq_false h5, decide_eq_false (show ¬ (1 ≤ us.length ∧ us.length ≤ 6) by omega)]
      · refine ⟨?_, rfl⟩
        have h4 : ¬ (0 : Int) < us.length := fun z => h3 (decide_eq_true z)
        rw [decide_eq_false (show ¬ (1 ≤ us.length ∧ us.length ≤ 6) by omega)]
    · rw [eqv_int, slAll_len, slAll_len]
    refine ite2 (fun h1 => ?_) (fun h1 => ?_)
    · refine ds_cons (d1_ret (de_bool ⟨rfl, ?_⟩))
      have e : isSysW (.tup [.int n, w2, .tup us, .tup vs]) = false := by
        rw [eS]
        by_cases h3 : 1 ≤ us.length ∧ us.length ≤ 6
        · rw [decide_eq_true h3] at h1
          have h4 : ¬ (vs.length : Int) = us.length := not_dec h1
          show (_ && (decide ((vs.length : Int) = us.length) && _)) = false
          rw [decide_eq_false h4, Bool.false_and, Bool.and_false]
        · show ((decide (1 ≤ us.length ∧ us.length ≤ 6) && _) && _) = false
          rw [decide_eq_false h3]
          rfl
      rw [← e]
      exact hq
    refine ds_nil ?_
    obtain ⟨hu, hv⟩ : (1 ≤ us.length ∧ us.length ≤ 6) ∧ (vs.length : Int) = us.length := by
      by_cases h3 : 1 ≤ us.length ∧ us.length ≤ 6
      · rw [decide_eq_true h3] at h1
        exact ⟨h3, yes_dec h1⟩
      · rw [decide_eq_false h3] at h1
        exact absurd rfl h1
    have eS2 : isSysW (.tup [.int n, w2, .tup us, .tup vs]) = ((us.all fun p => isPlacesW p n && decide (lenW p = n)) && vs.all fun p => p.isNon || isNumW p 0 9) := by
      rw [eS]
      show ((decide (1 ≤ us.length ∧ us.length ≤ 6) && _) && (decide ((vs.length : Int) = us.length) && _)) = _
      rw [decide_eq_true hu, decide_eq_true hv, Bool.true_and, Bool.true_and]
    refine ds_cons (d1_forS PassesOwn.never rfl (dis_tup (de_var 3 rfl (by nofun) rfl (by walk_at "vis") ⟨slAll us, rfl, ?_⟩)))
    rw [slAll_map us]
    refine ⟨fun i δ' ω' => ω' = [] ∧ (∀ p ∈ us.take i, (isPlacesW p n && decide (lenW p = n)) = true) ∧ ∃ s5, δ' = [(W.tup [.int n, w2, .tup us, .tup vs]).sl, .val (.int n), w2.sl, (W.tup us).sl, (W.tup vs).sl, s5, .no, .no], fun _ _ _ _ => trivial, ⟨rfl, nofun, _, rfl⟩, ?_, ?_⟩
    · rintro i d δ' ω' hd ⟨rfl, hg, s5, rfl⟩
      obtain ⟨y, hy, rfl⟩ : ∃ y, us[i]? = some y ∧ d = y.sl := by
        rw [List.getElem?_map] at hd
        cases hz : us[i]? with
        | none => rw [hz] at hd; cases hd
        | some y =>
          rw [hz] at hd
          exact ⟨y, rfl, (Option.some.inj hd).symm⟩
      have hym := List.mem_of_getElem? hy
      have oy := has_mem o3 hym
      have ly := lim_mem l3 hym
      have bad : (isPlacesW y n && decide (lenW y = n)) = false → isSysW (.tup [.int n, w2, .tup us, .tup vs]) = false := fun z => by
        rw [eS2]
        have e : (us.all fun p => isPlacesW p n && decide (lenW p = n)) = false := by
          rw [List.all_eq_false]
          exact ⟨y, hym, by rw [z]; decide⟩
        rw [e]
        rfl
      refine dgs_name (i := 5) nd rfl (by walk_at "loc") (by walk_at "mr") ?_
      refine ds_cons (d1_if (dt_w (dw_orB (x := !y.isTup) (y := !decide (lenW y = n)) (dt_not (dt_val (de_isiW (by rfl) mI (by rfl) mt PyProof.Rows.boot_tuple (de_var 5 rfl (W.no _) rfl (by walk_at "vis") ⟨y, _, rfl, oy, kitW_tup oy, _, rfl, rfl, rfl⟩)))) (fun h2 => ?_) ?_)))
      · cases y with
        | tup ps =>
          refine dw_or1 (dt_cmp (op_neD (Room.units hr)) (nomark _) (de_callB call_len_seq (by rfl) mL PySem.boot_len (da_cons (de_var 5 rfl (by nofun) rfl (by walk_at "vis") (da_nil (ra_lenS (.tupK _) (de_var 1 rfl (by nofun) rfl (by walk_at "vis") (rr_neD (by walk_at "sh") (by walk_at "sh") ⟨_, rfl, ?_, rfl⟩))))))))
          rw [eqv_int, slAll_len]
          rfl
        | _ => cases h2
      refine ite2 (fun h2 => ?_) (fun h2 => ?_)
      · refine ds_cons (d1_ret (de_bool ⟨rfl, ?_⟩))
        rw [← bad (by
          cases y with
          | tup ps =>
            have h3 : ¬ (lenW (.tup ps)) = n := not_dec h2
            rw [decide_eq_false h3, Bool.and_false]
          | _ => rfl)]
        exact hq
      refine ds_nil ?_
      obtain ⟨ps, rfl, hp⟩ : ∃ ps, y = .tup ps ∧ lenW (.tup ps) = n := by
        cases y with
        | tup ps => exact ⟨ps, rfl, yes_dec h2⟩
        | _ => exact absurd rfl h2
      refine ds_cons (d1_if (dt_cmp (op_neP (Room.units hr)) (nomark _) ?_))
      refine de_lcS rfl nd (blkOk_by (own := [("_law_state", 7)]) (N := n_l_is_system) (sc := defScope s_l_is_system) (by decide +kernel)) (dis_tup (de_var 5 rfl (by nofun) rfl (by walk_at "vis") ⟨slAll ps, rfl, ?_⟩))
      rw [slAll_map ps]
      refine ⟨by rw [List.length_map]; exact lim_len ly, _, fun _ _ _ _ => trivial, ⟨rfl, rfl⟩, lcS_filtA W.sl (fun p => !isNumW p 0 (n - 1)) (fun _ => .val (.int 1)) (fun j p hp s H C cl fp => ?_), fun acc ω' hacc ⟨ew, ea⟩ => .inr ?_⟩
      · have hpm := List.mem_of_getElem? hp
        refine dgs_name (i := 7) nd rfl (.inl rfl) (by decide) ⟨?_, fun _ => ?_⟩
        · intro s H C cl fp
          exact dt_not (dt_val (de_callS c1 (by walk_at "room") (by rfl) (da_cons (de_var 7 rfl (W.no _) rfl (by walk_at "vis") (da_cons (de_int (da_cons (de_sub (de_var 1 rfl (by nofun) rfl (by walk_at "vis") ⟨_, rfl, de_int ⟨_, rfl, da_nil ⟨free1 p _ rfl, p, 0, n - 1, rfl, has_mem oy hpm, rfl, _, rfl, rfl, rfl⟩⟩⟩)))))))))
        · intro s H C cl fp
          exact de_int ⟨rfl, rfl, rfl⟩
      · rw [List.length_map, List.take_length] at ea
        subst ew ea
        refine ⟨(ps.filter fun p => !isNumW p 0 (n - 1)).map fun _ => PyData.int 1, by rw [List.map_map]; rfl, .inl ?_⟩
        refine de_lst (da_nil ⟨[], rfl, by decide, rr_neP (.val _) (.val _) (ones_plain _) rfl (ones_depth _) ⟨_, rfl, ?_⟩⟩)
        rw [ones_eq, none_filt]
        refine ite2 (fun h3 => ?_) (fun h3 => ?_)
        · refine ds_cons (d1_ret (de_bool ⟨rfl, ?_⟩))
          rw [← bad (by
            have h4 : isPlacesW (.tup ps) n = false := by
              show (ps.all fun p => isNumW p 0 (n - 1)) = false
              cases hz : (ps.all fun p => isNumW p 0 (n - 1)) with
              | false => rfl
              | true => rw [hz] at h3; cases h3
            rw [h4]
            rfl)]
          exact hq
        · refine ds_nil (ds_nil ⟨rfl, fun p hp2 => ?_, _, rfl⟩)
          rw [List.take_add_one, hy] at hp2
          rcases List.mem_append.mp hp2 with h | h
          · exact hg p h
          · have h : p ∈ [W.tup ps] := h
            rw [List.mem_singleton] at h
            subst h
            have h4 : isPlacesW (.tup ps) n = true := by
              show (ps.all fun p => isNumW p 0 (n - 1)) = true
              cases hz : (ps.all fun p => isNumW p 0 (n - 1)) with
              | true => rfl
              | false => rw [hz] at h3; exact absurd rfl h3
            rw [h4, decide_eq_true hp]
            rfl
    · rintro δ' ω' ⟨rfl, hg, s5, rfl⟩
      rw [List.length_map, List.take_length] at hg
      refine ds_cons (d1_ret (de_cmp (op_eqP (Room.units hr)) (nomark _) ?_))
      refine de_lcS rfl nd (blkOk_by (own := [("_law_kind", 6)]) (N := n_l_is_system) (sc := defScope s_l_is_system) (by decide +kernel)) (dis_tup (de_var 4 rfl (by nofun) rfl (by walk_at "vis") ⟨slAll vs, rfl, ?_⟩))
      rw [slAll_map vs]
      refine ⟨by rw [List.length_map]; exact lim_len l4, _, fun _ _ _ _ => trivial, ⟨rfl, rfl⟩, lcS_filtA W.sl (fun p => !(p.isNon || isNumW p 0 9)) (fun _ => .val (.int 1)) (fun j p hp s H C cl fp => ?_), fun acc ω' hacc ⟨ew, ea⟩ => .inr ?_⟩
      · have hpm := List.mem_of_getElem? hp
        refine dgs_name (i := 6) nd rfl (.inl rfl) (by decide) ⟨?_, fun _ => ?_⟩
        · intro s H C cl fp
          refine dt_w (dw_and (dt_cmp op_notN (nomark _) (de_var 6 rfl (W.no _) rfl (by walk_at "vis") (de_none (rr_notNW ⟨_, rfl, ?_⟩)))))
          cases hn : p.isNon with
          | true => exact iteF ⟨rfl, rfl⟩
          | false =>
            exact iteT (dw_and1 (dt_not (dt_val (de_callS c1 (by walk_at "room") (by rfl) (da_cons (de_var 6 rfl (W.no _) rfl (by walk_at "vis") (da_cons (de_int (da_cons (de_int (da_nil ⟨free1 p _ rfl, p, 0, 9, rfl, has_mem o4 hpm, rfl, _, rfl, rfl, rfl⟩)))))))))))
        · intro s H C cl fp
          exact de_int ⟨rfl, rfl, rfl⟩
      · rw [List.length_map, List.take_length] at ea
        subst ew ea
        refine ⟨(vs.filter fun p => !(p.isNon || isNumW p 0 9)).map fun _ => PyData.int 1, by rw [List.map_map]; rfl, .inl ?_⟩
        refine de_lst (da_nil ⟨[], rfl, by decide, rr_eqP (.val _) (.val _) (ones_plain _) rfl (ones_depth _) ⟨rfl, ?_⟩⟩)
        rw [ones_eq, none_filt]
        have e : (us.all fun p => isPlacesW p n && decide (lenW p = n)) = true := List.all_eq_true.mpr hg
        rw [e, Bool.true_and] at eS2
        rw [← eS2]
        exact hq
end
end
section
/-! ### a store, new and known; its text -/
section
variable {X : Cx} {e : Expr} {δ : List Sl} {ω : List Cell} {P : PO1} {pos : Pos}
theorem de_clsNameI {C : Addr} {nm : Str} {pos2 : Pos} (N : NmC X.K C nm) (c : Cls X.K C) (i : SlX.SIsi X.K C) (h : DE X e δ ω fun r0 ω0 => ∃ fs, r0 = .kn (insI C fs) ∧ P (.val (.str nm)) ω0)
    (hb1 : attributeBase e "__class__" X.env (eval e X.env) = eval e X.env := by rfl) (hb2 : attributeBase (.Attribute e "__class__" pos2) "__name__" X.env (eval (.Attribute e "__class__" pos2) X.env) = eval (.Attribute e "__class__" pos2) X.env := by rfl) : DE X (.Attribute (.Attribute e "__class__" pos2) "__name__" pos) δ ω P := fun B F H as σ w ev Q oo => by
  refine ⟨_, pe_nameof N (pe_ofcls pe_w hb1) hb2, ?_⟩
  refine h B F H as σ w ev _ fun v B0 H0 as0 r0 ω0 e0 p0 w0 s0 ⟨fs, er, hp⟩ => ?_
  subst er
  obtain ⟨a, dx, vs, rfl, h2, h3⟩ := slk_insI s0
  exact ⟨a, C, dx, vs, rfl, w0.b _ _ h2, c, i, rfl, (oo.up e0 p0).here w0 (.str _) hp⟩
end
open PySem.W in
theorem kit_ty2 {K : Fg} {D : Addr} {T : String} {b : Bool} (h1 : kitMeta T = true) (h3 : subIn K (.ref D) (.type T) = some b) : kitOne K (.ref D) (.type T) = some b := by
  unfold kitOne
  rw [if_neg (fun z => by have := eq_of_beq z; cases this)]
  unfold kitCls
  dsimp only
  rw [if_pos h1]
  exact h3
structure StoT (K : Fg) (C : Addr) : Prop where
  cl : Cls K C
  n1 : NoAttr K C "_system"
  n2 : NoAttr K C "_log"
  n3 : NoAttr K C "_earlier"
  isi : SlX.SIsi K C
  nm : NmC K C "Store"
def stoF (S : Sys) : List (Str × Sl) := [("_system", .val (sysD S)), ("_log", .val (.tuple [])), ("_earlier", .kn (lstK []))]
theorem stoF_put (S : Sys) : putS "_earlier" (.kn (lstK [])) (putS "_log" (.val (.tuple [])) (putS "_system" (.val (sysD S)) [])) = stoF S := by
  have h1 : ¬ (("_system" : Str) = "_log") := by decide +kernel
  have h2 : ¬ (("_system" : Str) = "_earlier") := by decide +kernel
  have h3 : ¬ (("_log" : Str) = "_earlier") := by decide +kernel
  simp only [putS, h1, h2, h3, if_false, stoF]
def stoStr : Str := "Store(0 entries)"
def φ_stoinit (C : Addr) : List Sl → List Cell → PO1 → Prop := fun rs ω P => ∃ S y dx, rs = [.kn (refK y), .val (sysD S)] ∧ S.Ok ∧ ω = [ownC y, insA C dx y []] ∧ P (.val .none) [ownC y, insA C dx y (stoF S)]
def φ_storepr (C : Addr) : List Sl → (Sl → Prop) → Prop := fun rs P => ∃ S, rs = [.kn (insI C (stoF S))] ∧ P (.val (.str stoStr))
section
variable {P : Program} {w : World} {K : Fg} {mg : Str → Option Value} {base : Heap} {f C : Addr} {fd : FuncData}
theorem ok_stoinit (T : StoT K C) (F : Fun K "__init__" "Store.__init__" s_Store_init f fd) (c1 : Has P w K mg base 6 "check_system" (spP K φ_check_system)) : FnOk P w K mg base CX0 7 f fd ["self", "system"] (spU K (φ_stoinit C)) := by
  refine ok_U F sc_Store_init (fun rs ω Q h => ?_) fun rs ω Q h cdv A outer s H E hr => ?_
  · obtain ⟨S, y, dx, rfl, _⟩ := h
    rfl
  · obtain ⟨S, y, dx, rfl, hS, rfl, hq⟩ := h
    have nd := sc_Store_init.nd
    refine ds_cons (d1_expr (de_call c1 (by walk_at "room") (by rfl) (da_cons (de_var 1 rfl (by nofun) rfl (by walk_at "vis") (da_nil ⟨[_], rfl, _, rfl, sm_sys hS, isSys_of hS, ?_⟩)))))
    refine ds_cons (d1_setAttrA (de_var 1 rfl (by nofun) rfl (by walk_at "vis") (de_var 0 rfl (by nofun) rfl (by walk_at "vis") ⟨1, C, dx, y, [], rfl, rfl, rfl, T.cl, T.n1, by decide, ?_⟩)))
    refine ds_cons (d1_setAttrA (de_tup (da_nil ⟨[], rfl, by decide, de_var 0 rfl (by nofun) rfl (by walk_at "vis") ⟨1, C, dx, y, _, rfl, rfl, rfl, T.cl, T.n2, by have := putS_len "_system" (.val (sysD S)) []; simp only [List.length_nil] at this; omega, ?_⟩⟩)))
    refine ds_cons (d1_setAttrA (de_lstS (da_nil ⟨rfl, by decide, de_var 0 rfl (by nofun) rfl (by walk_at "vis") ⟨1, C, dx, y, _, rfl, rfl, rfl, T.cl, T.n3, by have := putS_len "_system" (.val (sysD S)) []; have := putS_len "_log" (.val (PyData.tuple [])) (putS "_system" (.val (sysD S)) []); simp only [List.length_nil] at *; omega, ?_⟩⟩)))
    refine ds_nil (.inl ⟨nofun, ?_⟩)
    rw [stoF_put]
    exact hq
theorem ok_storepr (T : StoT K C) (F : Fun K "__repr__" "Store.__repr__" s_Store_repr f fd) (mL : mg "len" = none) : FnOk P w K mg base CX0 1 f fd ["self"] (spS K (φ_storepr C)) := by
  refine ok_S F sc_Store_repr (fun rs Q h => ?_) fun rs Q h cdv A outer s H E hr => ?_
  · obtain ⟨S, rfl, _⟩ := h
    rfl
  · obtain ⟨S, rfl, hq⟩ := h
    have e0 : (("" : Str) ++ ("(" : Str)) = ("(" : Str) := by decide +kernel
    refine ds_cons (d1_ret (de_joinS (de_str ⟨_, rfl, de_lst (da_cons (de_clsNameI T.nm T.cl T.isi (de_var 0 rfl (by nofun) rfl (by walk_at "vis") ⟨stoF S, rfl, ?_⟩)))⟩)))
    refine da_cons (de_joined (de_str ⟨_, rfl, ?_, de_fmtI (de_callB call_len_seq (by rfl) mL PySem.boot_len (da_cons (de_attrI (de_var 0 rfl (by nofun) rfl (by walk_at "vis") ⟨C, stoF S, .val (.tuple []), rfl, T.cl, T.n2, rfl, da_nil (ra_len (.tup _) ⟨_, rfl, ?_, _, rfl, ?_, de_str ⟨_, rfl, ?_, ?_⟩⟩)⟩))))⟩))
    · decide +kernel
    · decide
    · decide +kernel
    · decide +kernel
    refine da_nil ⟨[.str "Store", .str "(0 entries)"], ?_, by walk_at "sz", [("Store" : Str), ("(0 entries)" : Str)], .lst _, ?_, ?_, ?_⟩
    · have e : ((((Str.empty ++ ("(" : Str)) ++ (toString ((([] : List D).length : Int)) : Str)) ++ (" entries)" : Str))) = ("(0 entries)" : Str) := by decide +kernel
      rw [e]
      rfl
    · decide +kernel
    · rfl
    · rw [show Txt.join ("" : Str) ["Store", "(0 entries)"] = stoStr from by decide +kernel]
      exact hq
end
end
section
/-! ### what each value shows; the law -/
inductive ShT (P : Program) (w : World) (K : Fg) (mg : Str → Option Value) (base : Heap) (J : Nat) : W → Str → Prop
  | pure {x : W} (h : x.Shows) : ShT P w K mg base J x x.py.shown
  | obj {j : Nat} {C : Addr} {fs : List (Str × Sl)} {t : Str} {φ : List Sl → (Sl → Prop) → Prop} (hj : j ≤ J) (R : ObjR P w K mg base j C φ) (h : ∀ Q : Sl → Prop, Q (.val (.str t)) → φ [.kn (insI C fs)] Q) : ShT P w K mg base J (.obj C fs t) t
  | tup {j : Nat} {ws : List W} {ts : List Str} (hj : j ≤ J) (h : ItAll P w K mg base j ws ts) (hz : (tupleText ts).length ≤ sizeLine) : ShT P w K mg base J (.tup ws) (tupleText ts)
section
variable {X : Cx} {e : Expr} {δ : List Sl} {ω : List Cell} {P : PO1} {pos : Pos}
theorem de_reprA {J : Nat} {x : W} {t : Str} {p : Pos} (S : ShT X.prog X.w X.K X.mg X.base J x t) (hgd : X.A.guards = some []) (hr : Room (J + 2) X.A) (hg : Gl X "repr") (hm : X.mg "repr" = none) (h : DE X e δ ω fun r ω1 => r = x.sl ∧ P (.val (.str t)) ω1)
    (he : starEach [e] X.env = (false, eval e X.env) :: starEach [] X.env := by rfl) : DE X (.Call (.Name "repr" p) [e] [] pos) δ ω P := by
  cases S with
  | pure hS =>
    exact de_callB (call_reprW hgd (Room.units hr)) hg hm PyProof.Rows.boot_repr (da_cons (h.mono fun r ω1 ⟨er, hp⟩ => by subst er; exact da_nil (ra_reprW hS hp)) he) (by decide) (by decide) he rfl
  | obj hj R hφ =>
    obtain ⟨g, h1, h2, M⟩ := R.ex
    exact de_reprI h1 h2 M (hr.mono (by omega)) hg hm (h.mono fun r ω1 ⟨er, hp⟩ => ⟨_, er, by subst er; exact hφ _ ⟨_, rfl, hp⟩⟩) he
  | tup hj hI hz => exact de_reprT hgd (hr.mono (by omega)) hg hm (h.mono fun r ω1 ⟨er, hp⟩ => ⟨_, _, er, hI, hz, hp⟩) he
end
/-- data that are tuples of whole numbers and None -/
structure FitD (N C D0 : Nat) (d : D) : Prop where
  tO : tO d = true
  fit : (W.of d).Fit N C D0
theorem FitD.mono {N C D0 C' D' : Nat} {d : D} (h : FitD N C D0 d) (h2 : C ≤ C') (h3 : D0 ≤ D') : FitD N C' D' d := ⟨h.tO, h.fit.mono (Nat.le_refl _) h2 h3⟩
theorem fitD_n {i N C D0 : Nat} (h : i ≤ N) (hC : 160 ≤ C) : FitD N C D0 (nD i) := ⟨rfl, fit_int (by omega) (by omega) hC⟩
theorem fitD_non {N C D0 : Nat} (hC : 160 ≤ C) : FitD N C D0 .none := ⟨rfl, ⟨rfl, hC, Nat.zero_le _⟩⟩
theorem tO_all : ∀ {ds : List D}, (∀ d ∈ ds, tO d = true) → tOAll ds = true
  | [], _ => rfl
  | d :: ds, h => by
    show (tO d && tOAll ds) = true
    rw [h d List.mem_cons_self, tO_all fun x hx => h x (List.mem_cons_of_mem _ hx)]
    rfl
theorem costAll_le {C : Nat} : ∀ {ws : List W}, (∀ w ∈ ws, w.cost ≤ C) → costAll ws ≤ ws.length * (C + 2)
  | [], _ => Nat.zero_le _
  | w :: ws, h => by
    have h1 := h w List.mem_cons_self
    have h2 := costAll_le fun x hx => h x (List.mem_cons_of_mem _ hx)
    show w.cost + 2 + costAll ws ≤ (ws.length + 1) * (C + 2)
    rw [Nat.succ_mul]
    omega
theorem fitD_tup {ds : List D} {N C D0 m : Nat} (h : ∀ d ∈ ds, FitD N C D0 d) (hz : ds.length ≤ m) : FitD N (m * (C + 2) + 4) (D0 + 1) (.tuple ds) := by
  have hm : ∀ w ∈ ofAll ds, ∃ d ∈ ds, w = W.of d := fun w hw => by
    rw [ofAll_map] at hw
    obtain ⟨d, hd, rfl⟩ := List.mem_map.mp hw
    exact ⟨d, hd, rfl⟩
  refine ⟨tO_all fun d hd => (h d hd).tO, fit_tup (ws := ofAll ds) (fun w hw => ?_) ?_ (fun w hw => ?_) (by omega)⟩
  · obtain ⟨d, hd, rfl⟩ := hm w hw
    exact (h d hd).fit.ok
  · have h1 : costAll (ofAll ds) ≤ (ofAll ds).length * (C + 2) := costAll_le fun w hw => by
      obtain ⟨d, hd, rfl⟩ := hm w hw
      exact (h d hd).fit.cost
    have h2 : (ofAll ds).length = ds.length := by rw [ofAll_map, List.length_map]
    have h3 : ds.length * (C + 2) ≤ m * (C + 2) := Nat.mul_le_mul_right _ hz
    rw [h2] at h1
    omega
  · obtain ⟨d, hd, rfl⟩ := hm w hw
    have := (h d hd).fit.dep
    omega
theorem repD_mem {n : Nat} {ds : List D} {d : D} (h : d ∈ repD n ds) : d ∈ ds := by
  unfold repD at h
  obtain ⟨l, hl, hd⟩ := List.mem_flatten.mp h
  rw [(List.mem_replicate.mp hl).2] at hd
  exact hd
theorem repD_len' (ds : List D) : ∀ n : Nat, (repD n ds).length = n * ds.length
  | 0 => by
    rw [Nat.zero_mul]
    rfl
  | n + 1 => by
    have e : repD (n + 1) ds = ds ++ repD n ds := rfl
    rw [e, List.length_append, repD_len' ds n, Nat.succ_mul, Nat.add_comm]
theorem fitD_op {S : Sys} (hS : S.Ok) {d : D} (h : d ∈ S.ops.map opD) : FitD 1000000000000 976 1 d := by
  obtain ⟨o, ho, rfl⟩ := List.mem_map.mp h
  have hk := hS.op o ho
  have h6 := hS.n6
  refine fitD_tup (m := 6) (C := 160) (D0 := 0) (fun d hd => ?_) (by rw [List.length_map, hk.1]; exact h6)
  obtain ⟨i, hi, rfl⟩ := List.mem_map.mp hd
  have := hk.2 i hi
  exact fitD_n (by omega) (Nat.le_refl _)
theorem fitD_kd {S : Sys} (hS : S.Ok) {d : D} (h : d ∈ S.kn.map kD) : FitD 1000000000000 160 0 d := by
  obtain ⟨k, hk, rfl⟩ := List.mem_map.mp h
  cases k with
  | none => exact fitD_non (Nat.le_refl _)
  | some i =>
    have := hS.kk _ hk i rfl
    exact fitD_n (by omega) (Nat.le_refl _)
theorem fitD_ops {S : Sys} (hS : S.Ok) (m : Nat) : FitD 1000000000000 (6 * m * 978 + 4) 2 (.tuple (repD m (S.ops.map opD))) := by
  refine fitD_tup (m := 6 * m) (fun d hd => fitD_op hS (repD_mem hd)) ?_
  rw [repD_len', List.length_map, Nat.mul_comm 6 m]
  exact Nat.mul_le_mul_left _ hS.o6
theorem fitD_kn {S : Sys} (hS : S.Ok) (m : Nat) : FitD 1000000000000 (6 * m * 162 + 4) 1 (.tuple (repD m (S.kn.map kD))) := by
  refine fitD_tup (m := 6 * m) (fun d hd => fitD_kd hS (repD_mem hd)) ?_
  rw [repD_len', List.length_map, Nat.mul_comm 6 m, hS.kl]
  exact Nat.mul_le_mul_left _ hS.o6
theorem rep1 (ds : List D) : repD 1 ds = ds := by
  unfold repD
  simp
theorem fitD_4 {a b c d : D} {C : Nat} (h1 : FitD 1000000000000 C 2 a) (h2 : FitD 1000000000000 C 2 b) (h3 : FitD 1000000000000 C 2 c) (h4 : FitD 1000000000000 C 2 d) : FitD 1000000000000 (4 * (C + 2) + 4) 3 (.tuple [a, b, c, d]) := by
  refine fitD_tup (m := 4) (fun x hx => ?_) (Nat.le_refl _)
  simp only [List.mem_cons, List.not_mem_nil, or_false] at hx
  rcases hx with rfl | rfl | rfl | rfl
  · exact h1
  · exact h2
  · exact h3
  · exact h4
theorem fitD_ops1 {S : Sys} (hS : S.Ok) : FitD 1000000000000 5872 2 (.tuple (S.ops.map opD)) := by
  have := fitD_ops hS 1
  rw [rep1] at this
  exact this
theorem fitD_kn1 {S : Sys} (hS : S.Ok) : FitD 1000000000000 5872 2 (.tuple (S.kn.map kD)) := by
  have := fitD_kn hS 1
  rw [rep1] at this
  exact this.mono (by decide) (by decide)
theorem fitD_sys {S : Sys} (hS : S.Ok) : FitD 1000000000000 23500 3 (sysD S) := by
  have h1 := hS.n6
  have h2 := hS.st
  exact fitD_4 (fitD_n (by omega) (by decide)) (fitD_n (by omega) (by decide)) (fitD_ops1 hS) (fitD_kn1 hS)
/-- what the walk of the law wants of a value -/
def Good (P : Program) (w : World) (K : Fg) (mg : Str → Option Value) (base : Heap) (x : W) : Prop := (∃ t, ShT P w K mg base 3 x t) ∧ x.has K ∧ x.lim = true
theorem good_fit {P : Program} {w : World} {K : Fg} {mg : Str → Option Value} {base : Heap} {x : W} {N C D0 : Nat} (h : x.Fit N C D0) (hN : N ≤ 2000000000000) (hC : C ≤ 100000) (hD : D0 ≤ 40) : Good P w K mg base x :=
  ⟨⟨_, .pure (h.shows hN (by omega) hD)⟩, W.pure_has x (W.okN_pure x h.ok), W.lim_of x (Nat.le_trans h.cost hC)⟩
theorem ren3 (n : Nat) (x : W) (d : D) : [Sl.own 0, x.sl, .val d] = ([Sl.own 0, x.sl, .val d]).map (DL.ren [0] n) := by
  show _ = [DL.ren [0] n (.own 0), DL.ren [0] n x.sl, DL.ren [0] n (.val d)]
  rw [W.ren]
  rfl
theorem owns3 (x : W) (d : D) : ownsLt 1 [Sl.own 0, x.sl, .val d] = true := by cases x <;> rfl
theorem in0 {n : Nat} (h : Nat.ble 1 n = true) : ∀ i ∈ [0], i < n := fun i hi => by
  rw [List.mem_singleton.mp hi]
  exact Nat.le_of_ble_eq_true h
theorem map_get {α β : Type} {f : α → β} {l : List α} {i : Nat} {d : β} (h : (l.map f)[i]? = some d) : ∃ x, l[i]? = some x ∧ d = f x := by
  rw [List.getElem?_map] at h
  cases hz : l[i]? with
  | none => rw [hz] at h; cases h
  | some x =>
    rw [hz] at h
    exact ⟨x, rfl, (Option.some.inj h).symm⟩
theorem shows_bl (b : Bool) : Shows (.bool b) := .of (by cases b <;> rfl) (by cases b <;> decide) (by cases b <;> decide)
theorem sys_to {S : Sys} (hS : S.Ok) : tO (sysD S) = true := (fitD_sys hS).tO
section
variable {P : Program} {w : World} {K : Fg} {mg : Str → Option Value} {base : Heap} {f : Addr} {fd : FuncData}
theorem ok_law {CS CE gI gO pO : Addr} {mc : Value} (F : Fun K "law" "law" s_law f fd) (cPen : Has P w K mg base 1 "_law_pen" (spN K φ_pen)) (cCell : Has P w K mg base 1 "_law_cell_at" (spP K φ_cell)) (cSys : Has P w K mg base 4 "_law_system" (spL K (φ_gen 60)))
    (cBent : Has P w K mg base 7 "_law_bent" (spU K (φ_bent K 3))) (cOdd : Has P w K mg base 3 "_law_odd" (spU K φ_oddW)) (cIs : Has P w K mg base 5 "is_system" (spS K (φ_sysW K))) (cLs : Has P w K mg base 2 "_law_is_system" (spS K (φ_sysW K))) (cSame : HasG P w K mg base 1 "_law_same" (spP K φ_same))
    (cSt : HasM P w K mg base 7 gI (spU K (φ_stoinit CS))) (mkS : Mk K CS gI) (mS : mg "Store" = some (.ref CS)) (RS : ObjR P w K mg base 1 CS (φ_storepr CS)) (OS : ObjC K CS)
    (T : EffT K mg CE) (cOf : HasM P w K mg base 10 gO (spS K (φ_eof CE))) (rd : ClX.CRead K CE mc) (qO : ClX.CMet K CE mc "of" pO gO) (RE : ObjR P w K mg base 3 CE (φ_erepr CE)) (OE : ObjC K CE)
    (mr : mg "range" = none) (mM : mg "max" = none) (mm : mg "min" = none) (mL : mg "len" = none) (mLi : mg "list" = none) (mR : mg "repr" = none) : FnG P w K mg base 11 f fd ["_law_script"] (spP K φLaw) := by
  refine ok_G F sc_law (fun ds Q h => ?_) fun ds Q h cdv A outer s H E hgd hr => ?_
  · obtain ⟨ns, rfl, _⟩ := h
    rfl
  · obtain ⟨ns, rfl, hns, hq⟩ := h
    have hgd2 : (A.deeper (envOfC "law" (defScope s_law) s.heap.objs.size f cdv)).guards = some [] := hgd
    have nd := sc_law.nd
    refine ds_cons (d1_forF PassesOwn.never rfl (di_rng1 (by rfl) (by assumption) (de_callB (call_max2 rfl) (by rfl) (by assumption) PyProof.Rows.boot_max (da_cons (de_int (da_cons (de_callB (call_min2 rfl) (by rfl) (by assumption) PyProof.Rows.boot_min (da_cons (de_callB call_len_seq (by rfl) (by assumption) PySem.boot_len (da_cons (de_var 0 rfl (by nofun) rfl (by walk_at "vis") (da_nil (ra_len (.lst _) (da_cons (de_int (da_nil (ra_min2 (da_nil (ra_max2 ?_)))))))))))))))))))
    rw [List.length_map]
    refine ⟨_, rfl, by split <;> split <;> omega, by split <;> split <;> omega, ?_⟩
    refine ⟨fun i δ' ω' => ω' = [] ∧ ∃ s1 s2 s3 s4 s5 s6 s7 s8 s9, δ' = [.val (.list (ns.map PyData.int)), s1, s2, s3, s4, s5, s6, s7, s8, s9], ⟨rfl, _, _, _, _, _, _, _, _, _, rfl⟩, ?_, ?_⟩
    rotate_left
    · rintro δ' ω' ⟨rfl, s1, s2, s3, s4, s5, s6, s7, s8, s9, rfl⟩
      exact ds_cons (d1_ret (de_bool ⟨_, rfl, hq⟩))
    rintro i d δ' ω' hd ⟨rfl, s1, s2, s3, s4, s5, s6, s7, s8, s9, rfl⟩
    obtain ⟨_, rfl⟩ := rgD_at hd
    refine dg_name (i := 1) nd rfl (by walk_at "loc") (by walk_at "mr") ?_
    rw [Int.zero_add]
    refine ds_cons (d1_asg (i := 2) nd rfl (by walk_at "loc") (de_callN cPen (hr.mono (by decide)) (by rfl) (da_cons (de_call cCell (hr.mono (by decide)) (by rfl) (da_cons (de_var 0 rfl (by nofun) rfl (by walk_at "vis") (da_cons (de_var 1 rfl (by nofun) rfl (by walk_at "vis") (da_nil ⟨[_, _], rfl, ns, i, rfl, fun z => ?_⟩)))))))))
    refine da_nil ⟨[_], rfl, z, rfl, fun cs hp => ?_⟩
    refine ds_cons (d1_forF PassesOwn.never rfl (di_rng1 (by rfl) (by assumption) (de_int ⟨_, rfl, by omega, by omega, ?_⟩)))
    refine ⟨fun j δ' ω2 => ∃ cs s3 s4 s5 s6 s7 s8 s9, ω2 = [.lst cs] ∧ PenOk (200 * j) cs ∧ δ' = [.val (.list (ns.map PyData.int)), .val (.int (i : Int)), .own 0, s3, s4, s5, s6, s7, s8, s9], ⟨cs, _, _, _, _, _, _, _, rfl, hp.mono (by omega), rfl⟩, ?_, ?_⟩
    rotate_left
    · rintro δ' ω2 ⟨cs, s3, s4, s5, s6, s7, s8, s9, rfl, hp, rfl⟩
      exact ds_nil ⟨rfl, _, _, _, _, _, _, _, _, _, rfl⟩
    rintro j d δ' ω2 hd ⟨cs, s3, s4, s5, s6, s7, s8, s9, rfl, hp, rfl⟩
    obtain ⟨hj, rfl⟩ := rgD_at hd
    have hj : j < 8 := hj
    refine dg_name (i := 3) nd rfl (by walk_at "loc") (by walk_at "mr") ?_
    refine ds_cons (d1_asg (i := 4) nd rfl (by walk_at "loc") (de_callL cSys (hr.mono (by decide)) (by rfl) (da_cons (de_var 2 rfl (by nofun) rfl (by walk_at "vis") (da_nil ⟨0, _, [], rfl, rfl, 200 * j, hp, rfl, by omega, fun S cs hS hp => ?_⟩)))))
    have hf := fitD_sys hS
    have hz2 : (S.ops.map opD).length ≤ 1000 := by have := hS.o6; rw [List.length_map]; omega
    have hz3 : (S.kn.map kD).length ≤ 1000 := by have := hS.o6; have := hS.kl; rw [List.length_map]; omega
    have hk3 := hz3
    have hn6 := hS.n6
    have hst := hS.st
    have hkl : (S.kn.map kD).length ≤ 6 := by have := hS.o6; have := hS.kl; rw [List.length_map]; omega
    have a1 : FitD 1000000000000 20000 2 (nD S.n) := fitD_n (by omega) (by decide)
    have a2 : FitD 1000000000000 20000 2 (nD S.st) := fitD_n (by omega) (by decide)
    have a3 := (fitD_ops1 hS).mono (show 5872 ≤ 20000 by decide) (Nat.le_refl _)
    have a4 := (fitD_kn1 hS).mono (show 5872 ≤ 20000 by decide) (Nat.le_refl _)
    have a5 := (fitD_kn hS 2).mono (show 6 * 2 * 162 + 4 ≤ 20000 by decide) (show 1 ≤ 2 by decide)
    have h5 : FitD 1000000000000 80012 3 (.tuple [nD S.n, nD S.st, .tuple (repD 3 (S.ops.map opD)), .tuple (S.kn.map kD)]) := fitD_4 a1 a2 ((fitD_ops hS 3).mono (by decide) (Nat.le_refl _)) a4
    have h6 : FitD 1000000000000 80012 3 (.tuple [nD S.n, nD S.st, .tuple (repD 2 (S.ops.map opD)), .tuple (repD 2 (S.kn.map kD))]) := fitD_4 a1 a2 ((fitD_ops hS 2).mono (by decide) (Nat.le_refl _)) a5
    have h7 : FitD 1000000000000 80012 3 (.tuple [nD S.n, nD S.st, .tuple (S.ops.map opD), .tuple (repD 2 (S.kn.map kD))]) := fitD_4 a1 a2 a3 a5
    have h8 : FitD 1000000000000 80012 3 (.tuple [nD 7, nD S.st, .tuple (S.ops.map opD), .tuple (S.kn.map kD)]) := fitD_4 (fitD_n (by decide) (by decide)) a2 a3 a4
    have a9 : FitD 1000000000000 20000 2 (.tuple (repD (S.kn.map kD).length [.none])) := FitD.mono (fitD_tup (C := 160) (D0 := 0) (m := 6) (fun d hd => by
      have := List.mem_singleton.mp (repD_mem hd)
      subst this
      exact fitD_non (Nat.le_refl _)) (by rw [repD_len']; exact Nat.le_trans (Nat.le_of_eq (Nat.mul_one _)) hkl)) (by decide) (by decide)
    have a10 : FitD 1000000000000 20000 2 (.tuple (repD (S.kn.map kD).length [nD 10])) := FitD.mono (fitD_tup (C := 160) (D0 := 0) (m := 6) (fun d hd => by
      have := List.mem_singleton.mp (repD_mem hd)
      subst this
      exact fitD_n (by decide) (Nat.le_refl _)) (by rw [repD_len']; exact Nat.le_trans (Nat.le_of_eq (Nat.mul_one _)) hkl)) (by decide) (by decide)
    have h9 : FitD 1000000000000 80012 3 (.tuple [nD S.n, nD S.st, .tuple (S.ops.map opD), .tuple (repD (S.kn.map kD).length [.none])]) := fitD_4 a1 a2 a3 a9
    have h10 : FitD 1000000000000 80012 3 (.tuple [nD S.n, nD S.st, .tuple (S.ops.map opD), .tuple (repD (S.kn.map kD).length [nD 10])]) := fitD_4 a1 a2 a3 a10
    refine ds_cons (d1_asg (i := 5) nd rfl (by walk_at "loc") (de_callU cBent (hr.mono (by decide)) (by rfl) (da_cons (de_var 2 rfl (by nofun) rfl (by walk_at "vis") (da_cons (DE.toW (de_var 4 rfl (by nofun) rfl (by walk_at "vis") ⟨sysD S, rfl, sys_to hS, da_cons (de_int (da_nil ⟨[0], [.own 0, (W.of (sysD S)).sl, .val (nD 3)], ren3 _ _ _, in0 rfl, by decide, owns3 _ _, 200 * j + 60, cs, (W.of (sysD S)), 1000000000000, 23500, 3, rfl, rfl, hp, hf.fit, by decide, by decide, by decide, by omega, fun u1 cs1 hu1 hp1 => ?_⟩))⟩)))))))
    dsimp only
    rw [W.ren]
    refine ds_cons (d1_asg (i := 6) nd rfl (by walk_at "loc") (de_lstSO (da_cons (DE.toW (de_var 4 rfl (by nofun) rfl (by walk_at "vis") ⟨sysD S, rfl, sys_to hS, da_cons (de_var 5 rfl (W.no _) rfl (by walk_at "vis") (da_cons (de_callU cBent (hr.mono (by decide)) (by rfl) (da_cons (de_var 2 rfl (by nofun) rfl (by walk_at "vis") (da_cons (de_var 5 rfl (W.no _) rfl (by walk_at "vis") (da_cons (de_int (da_nil ⟨[0], [.own 0, u1.sl, .val (nD 3)], ren3 _ _ _, in0 rfl, by decide, owns3 _ _, 200 * j + 80, cs1, u1, 1000000000001, 49000, 7, rfl, rfl, (hp1.mono (by omega)), hu1, by decide, by decide, by decide, by omega, fun u2 cs2 hu2 hp2 => ?_⟩))))))))))⟩)))))
    dsimp only
    rw [W.ren]
    refine da_cons (de_callU cBent (hr.mono (by decide)) (by rfl) (da_cons (de_var 2 rfl (by nofun) rfl (by walk_at "vis") (da_cons (DE.toW (de_var 4 rfl (by nofun) rfl (by walk_at "vis") ⟨sysD S, rfl, sys_to hS, da_cons (de_int (da_nil ⟨[0], [.own 0, (W.of (sysD S)).sl, .val (nD 3)], ren3 _ _ _, in0 rfl, by decide, owns3 _ _, 200 * j + 100, cs2, (W.of (sysD S)), 1000000000000, 23500, 3, rfl, rfl, (hp2.mono (by omega)), hf.fit, by decide, by decide, by decide, by omega, fun u3 cs3 hu3 hp3 => ?_⟩))⟩))))))
    dsimp only
    rw [W.ren]
    refine da_nil ⟨slAll_free [(W.of (sysD S)), u1, u2, u3], show 4 ≤ sizeLine by decide, ?_⟩
    refine ds_cons (d1_expr (de_appendS (de_var 6 rfl (by nofun) rfl (by walk_at "vis") ⟨1, _, rfl, rfl, DE.toW (de_plus (de_plus (de_sliceT (de_var 4 rfl (by nofun) rfl (by walk_at "vis") ⟨_, rfl, de_int ⟨_, rfl, de_tup (da_cons (de_bin op_repA (de_ix (fun _ _ => rfl) (de_var 4 rfl (by nofun) rfl (by walk_at "vis") (de_int ⟨_, _, _, rfl, .tup _, rfl, de_int (rr_repV (n := 3) (by decide) hz2 (da_nil ⟨[_], rfl, by walk_at "sz", .tup (Nat.le_of_ble_eq_true rfl) (de_sliceT (de_var 4 rfl (by nofun) rfl (by walk_at "vis") ⟨_, rfl, de_int ⟨_, rfl, .tup (Nat.le_of_ble_eq_true rfl) ⟨.tuple [nD S.n, nD S.st, .tuple (repD 3 (S.ops.map opD)), .tuple (S.kn.map kD)], rfl, h5.tO, ⟨_, W.free _, rfl, show 4 < 100000 by decide, ?_⟩⟩⟩⟩))⟩))⟩)))))⟩⟩))))⟩)))
    refine ds_cons (d1_asg (i := 6) nd rfl (by walk_at "loc") (de_bin op_plus (de_var 6 rfl (by nofun) rfl (by walk_at "vis") (de_lstS (da_cons (DE.toW (de_plus (de_sliceT (de_var 4 rfl (by nofun) rfl (by walk_at "vis") ⟨_, rfl, de_int ⟨_, rfl, de_tup (da_cons (de_bin op_repA (de_ix (fun _ _ => rfl) (de_var 4 rfl (by nofun) rfl (by walk_at "vis") (de_int ⟨_, _, _, rfl, .tup _, rfl, de_int (rr_repV (n := 2) (by decide) hz2 (da_cons (de_bin op_repA (de_ix (fun _ _ => rfl) (de_var 4 rfl (by nofun) rfl (by walk_at "vis") (de_int ⟨_, _, _, rfl, .tup _, rfl, de_int (rr_repV (n := 2) (by decide) hz3 (da_nil ⟨[_, _], rfl, by walk_at "sz", .tup (Nat.le_of_ble_eq_true rfl) ⟨.tuple [nD S.n, nD S.st, .tuple (repD 2 (S.ops.map opD)), .tuple (repD 2 (S.kn.map kD))], rfl, h6.tO, da_cons (DE.toW (de_plus (de_sliceT (de_var 4 rfl (by nofun) rfl (by walk_at "vis") ⟨_, rfl, de_int ⟨_, rfl, de_tup (da_cons (de_bin op_repA (de_ix (fun _ _ => rfl) (de_var 4 rfl (by nofun) rfl (by walk_at "vis") (de_int ⟨_, _, _, rfl, .tup _, rfl, de_int (rr_repV (n := 2) (by decide) hz3 (da_nil ⟨[_], rfl, by walk_at "sz", .tup (Nat.le_of_ble_eq_true rfl) ⟨.tuple [nD S.n, nD S.st, .tuple (S.ops.map opD), .tuple (repD 2 (S.kn.map kD))], rfl, h7.tO, da_cons (DE.toW (de_plus (de_tup (da_cons (de_int (da_nil ⟨[_], rfl, by walk_at "sz", de_sliceT (de_var 4 rfl (by nofun) rfl (by walk_at "vis") ⟨_, rfl, de_int ⟨_, rfl, .tup (Nat.le_of_ble_eq_true rfl) ⟨.tuple [nD 7, nD S.st, .tuple (S.ops.map opD), .tuple (S.kn.map kD)], rfl, h8.tO, da_nil ⟨rfl, show 3 ≤ sizeLine by decide, rr_catLS (.lsC rfl) (.lstK _) (slAll_free [(W.of (sysD S)), u1, u2, u3, W.of (.tuple [nD S.n, nD S.st, .tuple (repD 3 (S.ops.map opD)), .tuple (S.kn.map kD)])]) rfl (by walk_at "sz") ?_⟩⟩⟩⟩)⟩))))))⟩⟩))⟩)))))⟩⟩))))⟩⟩))⟩))))))⟩)))))⟩⟩)))))))))
    refine ds_cons (d1_asg (i := 6) nd rfl (by walk_at "loc") (de_bin op_plus (de_var 6 rfl (by nofun) rfl (by walk_at "vis") (de_lstS (da_cons (DE.toW (de_plus (de_sliceT (de_var 4 rfl (by nofun) rfl (by walk_at "vis") ⟨_, rfl, de_int ⟨_, rfl, de_tup (da_cons (de_bin op_repA (de_tup (da_cons (de_none (da_nil ⟨[_], rfl, by walk_at "sz", de_callB call_len_seq (by rfl) mL PySem.boot_len (da_cons (de_ix (fun _ _ => rfl) (de_var 4 rfl (by nofun) rfl (by walk_at "vis") (de_int ⟨_, _, _, rfl, .tup _, rfl, da_nil (ra_len (.tup _) (rr_repV (n := (S.kn.map kD).length) hk3 (by decide) (da_nil ⟨[_], rfl, by walk_at "sz", .tup (Nat.le_of_ble_eq_true rfl) ⟨.tuple [nD S.n, nD S.st, .tuple (S.ops.map opD), .tuple (repD (S.kn.map kD).length [.none])], rfl, h9.tO, da_cons (DE.toW (de_plus (de_sliceT (de_var 4 rfl (by nofun) rfl (by walk_at "vis") ⟨_, rfl, de_int ⟨_, rfl, de_tup (da_cons (de_bin op_repA (de_tup (da_cons (de_int (da_nil ⟨[_], rfl, by walk_at "sz", de_callB call_len_seq (by rfl) mL PySem.boot_len (da_cons (de_ix (fun _ _ => rfl) (de_var 4 rfl (by nofun) rfl (by walk_at "vis") (de_int ⟨_, _, _, rfl, .tup _, rfl, da_nil (ra_len (.tup _) (rr_repV (n := (S.kn.map kD).length) hk3 (by decide) (da_nil ⟨[_], rfl, by walk_at "sz", .tup (Nat.le_of_ble_eq_true rfl) ⟨.tuple [nD S.n, nD S.st, .tuple (S.ops.map opD), .tuple (repD (S.kn.map kD).length [nD 10])], rfl, h10.tO, da_cons (de_callU cOdd (hr.mono (by decide)) (by rfl) (da_cons (de_var 2 rfl (by nofun) rfl (by walk_at "vis") (da_nil ⟨[0], [.own 0], rfl, in0 rfl, by decide, rfl, 200 * j + 120, cs3, rfl, rfl, hp3.mono (by omega), by omega, fun u4 cs4 hu4 hp4 => ?_⟩))))⟩⟩)))⟩))))⟩))))))⟩⟩))))⟩⟩)))⟩))))⟩))))))⟩⟩)))))))))
    dsimp only
    rw [W.ren]
    refine da_nil ⟨slAll_free [W.of (.tuple [nD S.n, nD S.st, .tuple (S.ops.map opD), .tuple (repD (S.kn.map kD).length [.none])]), W.of (.tuple [nD S.n, nD S.st, .tuple (S.ops.map opD), .tuple (repD (S.kn.map kD).length [nD 10])]), u4], show 3 ≤ sizeLine by decide, ?_⟩
    refine rr_catLS (.lstK _) (.lstK _) (slAll_free [(W.of (sysD S)), u1, u2, u3, W.of (.tuple [nD S.n, nD S.st, .tuple (repD 3 (S.ops.map opD)), .tuple (S.kn.map kD)]), W.of (.tuple [nD S.n, nD S.st, .tuple (repD 2 (S.ops.map opD)), .tuple (repD 2 (S.kn.map kD))]), W.of (.tuple [nD S.n, nD S.st, .tuple (S.ops.map opD), .tuple (repD 2 (S.kn.map kD))]), W.of (.tuple [nD 7, nD S.st, .tuple (S.ops.map opD), .tuple (S.kn.map kD)])]) (slAll_free [W.of (.tuple [nD S.n, nD S.st, .tuple (S.ops.map opD), .tuple (repD (S.kn.map kD).length [.none])]), W.of (.tuple [nD S.n, nD S.st, .tuple (S.ops.map opD), .tuple (repD (S.kn.map kD).length [nD 10])]), u4]) (Nat.le_of_ble_eq_true rfl) ?_
    refine ds_cons (d1_asg (i := 6) nd rfl (by walk_at "loc") (de_bin op_plus (de_var 6 rfl (by nofun) rfl (by walk_at "vis") (de_lstS (da_cons (de_makeI cSt mkS (hr.mono (by decide)) (by rfl) mS (da_cons (de_var 4 rfl (by nofun) rfl (by walk_at "vis") (da_nil ⟨rfl, fun y dx => ⟨S, y, dx, rfl, hS, rfl, rfl, stoF S, rfl, da_cons (de_tupS (da_cons (de_makeI cSt mkS (hr.mono (by decide)) (by rfl) mS (da_cons (de_var 4 rfl (by nofun) rfl (by walk_at "vis") (da_nil ⟨rfl, fun y dx => ⟨S, y, dx, rfl, hS, rfl, rfl, stoF S, rfl, da_nil ⟨rfl, by walk_at "sz", da_cons (de_cmeth cOf rd qO (hr.mono (by decide)) (de_cls (by rfl) T.mc ⟨rfl, da_cons (de_var 4 rfl (by nofun) rfl (by walk_at "vis") (da_cons (de_tup (da_nil ⟨[], rfl, by decide, da_nil ⟨rfl, S, [], rfl, hS, nofun, by decide, rfl, da_cons (de_callTy call_list_of (by rfl) mLi PyProof.Rows.boot_list (da_cons (DE.toW (de_var 4 rfl (by nofun) rfl (by walk_at "vis") ⟨sysD S, rfl, sys_to hS, da_nil (ra_listTK (slAll_free (ofAll [nD S.n, nD S.st, .tuple (S.ops.map opD), .tuple (S.kn.map kD)])) (da_cons (de_tupS (da_cons (DE.toW (de_var 4 rfl (by nofun) rfl (by walk_at "vis") ⟨sysD S, rfl, sys_to hS, da_nil ⟨rfl, by walk_at "sz", da_nil ⟨rfl, show 5 ≤ sizeLine by decide, ?_⟩⟩⟩))))))⟩))))⟩⟩))))⟩))⟩⟩⟩))))))⟩⟩)))))))))
    refine rr_catLS (.lstK _) (.lstK _) (slAll_free [(W.of (sysD S)), u1, u2, u3, W.of (.tuple [nD S.n, nD S.st, .tuple (repD 3 (S.ops.map opD)), .tuple (S.kn.map kD)]), W.of (.tuple [nD S.n, nD S.st, .tuple (repD 2 (S.ops.map opD)), .tuple (repD 2 (S.kn.map kD))]), W.of (.tuple [nD S.n, nD S.st, .tuple (S.ops.map opD), .tuple (repD 2 (S.kn.map kD))]), W.of (.tuple [nD 7, nD S.st, .tuple (S.ops.map opD), .tuple (S.kn.map kD)]), W.of (.tuple [nD S.n, nD S.st, .tuple (S.ops.map opD), .tuple (repD (S.kn.map kD).length [.none])]), W.of (.tuple [nD S.n, nD S.st, .tuple (S.ops.map opD), .tuple (repD (S.kn.map kD).length [nD 10])]), u4]) rfl (Nat.le_of_ble_eq_true rfl) ?_
    have eff_mv : MvOk S (movesOf S []) := mv_of hS nofun
    have RSi : ∀ Q : Sl → Prop, Q (.val (.str stoStr)) → φ_storepr CS [.kn (insI CS (stoF S))] Q := fun Q hQ => ⟨S, rfl, hQ⟩
    have hall : ∀ x ∈ [(W.of (sysD S)), u1, u2, u3, W.of (.tuple [nD S.n, nD S.st, .tuple (repD 3 (S.ops.map opD)), .tuple (S.kn.map kD)]), W.of (.tuple [nD S.n, nD S.st, .tuple (repD 2 (S.ops.map opD)), .tuple (repD 2 (S.kn.map kD))]), W.of (.tuple [nD S.n, nD S.st, .tuple (S.ops.map opD), .tuple (repD 2 (S.kn.map kD))]), W.of (.tuple [nD 7, nD S.st, .tuple (S.ops.map opD), .tuple (S.kn.map kD)]), W.of (.tuple [nD S.n, nD S.st, .tuple (S.ops.map opD), .tuple (repD (S.kn.map kD).length [.none])]), W.of (.tuple [nD S.n, nD S.st, .tuple (S.ops.map opD), .tuple (repD (S.kn.map kD).length [nD 10])]), u4, W.obj CS (stoF S) stoStr, .tup [W.obj CS (stoF S) stoStr], W.obj CE (effF S (movesOf S [])) (effStr (movesOf S []).length (fixedOf S (movesOf S [])).length), .lst (ofAll [nD S.n, nD S.st, .tuple (S.ops.map opD), .tuple (S.kn.map kD)]), .tup [(W.of (sysD S))]], Good P w K mg base x := by
      intro x hx
      simp only [List.mem_cons, List.not_mem_nil, or_false] at hx
      rcases hx with rfl | rfl | rfl | rfl | rfl | rfl | rfl | rfl | rfl | rfl | rfl | rfl | rfl | rfl | rfl | rfl
      · exact good_fit hf.fit (by decide) (by decide) (by decide)
      · exact good_fit hu1 (by decide) (by decide) (by decide)
      · exact good_fit hu2 (by decide) (by decide) (by decide)
      · exact good_fit hu3 (by decide) (by decide) (by decide)
      · exact good_fit h5.fit (by decide) (by decide) (by decide)
      · exact good_fit h6.fit (by decide) (by decide) (by decide)
      · exact good_fit h7.fit (by decide) (by decide) (by decide)
      · exact good_fit h8.fit (by decide) (by decide) (by decide)
      · exact good_fit h9.fit (by decide) (by decide) (by decide)
      · exact good_fit h10.fit (by decide) (by decide) (by decide)
      · exact good_fit hu4 (by decide) (by decide) (by decide)
      · exact ⟨⟨_, .obj (by decide) RS RSi⟩, OS, rfl⟩
      · exact ⟨⟨_, .tup (by decide) (.cons (.obj RS RSi) .nil) (by decide +kernel)⟩, ⟨OS, trivial⟩, rfl⟩
      · exact ⟨⟨_, .obj (by decide) RE fun Q hQ => ⟨S, movesOf S [], rfl, hS, eff_mv, hQ⟩⟩, OE, rfl⟩
      · exact good_fit (N := 1000000000000) (C := 23500) (D0 := 3) ⟨hf.fit.ok, hf.fit.cost, hf.fit.dep⟩ (by decide) (by decide) (by decide)
      · have z := (fitD_tup (m := 1) (ds := [sysD S]) (fun d hd => by
          rw [List.mem_singleton.mp hd]
          exact hf) (Nat.le_refl _)).fit
        exact good_fit z (by decide) (by decide) (by decide)
    refine ds_cons (d1_forS PassesOwn.never rfl (dis_lst (de_var 6 rfl (by nofun) rfl (by walk_at "vis") ⟨slAll [(W.of (sysD S)), u1, u2, u3, W.of (.tuple [nD S.n, nD S.st, .tuple (repD 3 (S.ops.map opD)), .tuple (S.kn.map kD)]), W.of (.tuple [nD S.n, nD S.st, .tuple (repD 2 (S.ops.map opD)), .tuple (repD 2 (S.kn.map kD))]), W.of (.tuple [nD S.n, nD S.st, .tuple (S.ops.map opD), .tuple (repD 2 (S.kn.map kD))]), W.of (.tuple [nD 7, nD S.st, .tuple (S.ops.map opD), .tuple (S.kn.map kD)]), W.of (.tuple [nD S.n, nD S.st, .tuple (S.ops.map opD), .tuple (repD (S.kn.map kD).length [.none])]), W.of (.tuple [nD S.n, nD S.st, .tuple (S.ops.map opD), .tuple (repD (S.kn.map kD).length [nD 10])]), u4, W.obj CS (stoF S) stoStr, .tup [W.obj CS (stoF S) stoStr], W.obj CE (effF S (movesOf S [])) (effStr (movesOf S []).length (fixedOf S (movesOf S [])).length), .lst (ofAll [nD S.n, nD S.st, .tuple (S.ops.map opD), .tuple (S.kn.map kD)]), .tup [(W.of (sysD S))]], rfl, ?_⟩)))
    refine ⟨fun m δ' ω' => ω'.take 1 = [.lst cs4] ∧ ∃ s3 s4 s5 s6 s7 s8 s9, δ' = [.val (.list (ns.map PyData.int)), .val (.int (i : Int)), .own 0, s3, s4, s5, s6, s7, s8, s9], fun _ _ _ _ => trivial, ⟨rfl, _, _, _, _, _, _, _, rfl⟩, ?_, ?_⟩
    · rintro m d δ' ω' hd ⟨hω, s3, s4, s5, s6, s7, s8, s9, rfl⟩
      rw [slAll_map] at hd
      obtain ⟨x, hx, rfl⟩ := map_get hd
      obtain ⟨⟨t, hsh⟩, ho, hl⟩ := hall x (List.mem_of_getElem? hx)
      refine dgs_name (i := 7) nd rfl (by walk_at "loc") (by walk_at "mr") ?_
      refine ds_cons (d1_par rfl nd (i := 8) (j := 9) rfl rfl (by decide) rfl rfl rfl (da_cons (de_reprA hsh hgd2 (hr.mono (by decide)) (by rfl) mR (de_var 7 rfl (W.no _) rfl (by walk_at "vis") ⟨rfl, da_cons (de_callS cLs (by walk_at "room") (by rfl) (da_cons (de_var 7 rfl (W.no _) rfl (by walk_at "vis") (da_nil ⟨free1 x [] rfl, x, rfl, ho, hl, rfl, da_nil ⟨_, _, rfl, ?_⟩⟩))))⟩))))
      refine ds_cons (d1_if (dt_w (dw_or (dt_not (dt_val (de_callG cSame hgd2 (hr.mono (by decide)) (by rfl) (da_cons (de_callS cIs (by walk_at "room") (by rfl) (da_cons (de_var 7 rfl (W.no _) rfl (by walk_at "vis") (da_nil ⟨free1 x [] rfl, x, rfl, ho, hl, rfl, da_cons (de_var 9 rfl (by nofun) rfl (by walk_at "vis") (da_nil ⟨[_, _], rfl, .bool (isSysW x), rfl, shows_bl _, _, rfl, iteF ?_⟩))⟩)))))))))))
      refine dw_or1 (dt_cmp op_ne (nomark _) (de_reprA hsh hgd2 (hr.mono (by decide)) (by rfl) mR (de_var 7 rfl (W.no _) rfl (by walk_at "vis") ⟨rfl, de_var 8 rfl (by nofun) rfl (by walk_at "vis") (rr_neSt ⟨_, rfl, ?_⟩)⟩)))
      rw [show (!(t == t)) = false from by rw [beq_self_eq_true]; rfl]
      exact iteF (ds_nil (ds_nil ⟨hω, _, _, _, _, _, _, _, rfl⟩))
    · rintro δ' ω' ⟨hω, s3, s4, s5, s6, s7, s8, s9, rfl⟩
      exact ds_nil ⟨cs4, _, _, _, _, _, _, _, hω, hp4.mono (by omega), rfl⟩
end
end
section
open PySem.W in
structure Def (K : Fg) (x : Str) (st : Stmt) : Prop where
  ex : ∃ (f : Addr) (fd : FuncData), Fun K x x st f fd ∧ nsIn K mainGlobals x = some (some (.ref f))
open PySem.W in
theorem Def.here {K : Fg} {x : Str} {st : Stmt} {f : Addr} {oc : Value} {od an : Option Addr} {sl : Array (Option Value)} {kV dc pm cd ct : Value} (a : nsIn K mainGlobals x = some (some (.ref f)))
    (l : K.lookup f = some ⟨oc, od, .func (fnOf x x (defArgs st) (defBody st) (defScope st) .none kV dc pm an cd ct), sl⟩) (c : codeIn K cd x = true) (k : keepIn K (.ref f) = true) : Def K x st :=
  ⟨f, _, fun_mk l c k, a⟩
section
variable {P : Program} {w : World} {K : Fg} {mg : Str → Option Value} {base h : Heap} {x : Str} {st : Stmt} {ps : List Str} {sp : Sp} {k : Nat}
theorem Has.of (D : Def K x st) (X : K.In h) (G : h.Ns mainGlobals mg) (ok : ∀ {f : Addr} {fd : FuncData}, Fun K x x st f fd → FnOk P w K mg base CX0 k f fd ps sp) (b : ∀ {f : Addr} {fd : FuncData}, Fun K x x st f fd → Binds K fd ps []) : Has P w K mg base k x sp := by
  obtain ⟨f, fd, F, a⟩ := D.ex
  exact ⟨f, fd, ps, ok F, PySem.W.mg_of X G a, F.kp, b F⟩
theorem HasG.of (D : Def K x st) (X : K.In h) (G : h.Ns mainGlobals mg) (ok : ∀ {f : Addr} {fd : FuncData}, Fun K x x st f fd → FnG P w K mg base k f fd ps sp) (b : ∀ {f : Addr} {fd : FuncData}, Fun K x x st f fd → Binds K fd ps []) : HasG P w K mg base k x sp := by
  obtain ⟨f, fd, F, a⟩ := D.ex
  exact ⟨f, fd, ps, ok F, PySem.W.mg_of X G a, F.kp, b F⟩
end
open PySem.W in
structure DefM (K : Fg) (x q : Str) (st : Stmt) (g : Addr) : Prop where
  ex : ∃ fd : FuncData, Fun K x q st g fd
open PySem.W in
theorem DefM.here {K : Fg} {x q : Str} {st : Stmt} {f : Addr} {oc : Value} {od an : Option Addr} {sl : Array (Option Value)} {kV dc pm cd ct : Value}
    (l : K.lookup f = some ⟨oc, od, .func (fnOf x q (defArgs st) (defBody st) (defScope st) .none kV dc pm an cd ct), sl⟩) (c : codeIn K cd q = true) (k : keepIn K (.ref f) = true) : DefM K x q st f :=
  ⟨_, fun_mk l c k⟩
theorem HasM.of {P : Program} {w : World} {K : Fg} {mg : Str → Option Value} {base : Heap} {x q : Str} {st : Stmt} {ps : List Str} {sp : Sp} {k : Nat} {g : Addr} (D : DefM K x q st g) (ok : ∀ {fd : FuncData}, Fun K x q st g fd → FnOk P w K mg base CX0 k g fd ps sp) (b : ∀ {fd : FuncData}, Fun K x q st g fd → Binds K fd ps []) : HasM P w K mg base k g sp := by
  obtain ⟨fd, F⟩ := D.ex
  exact ⟨fd, ps, ok F, b F⟩
open PySem.W in
theorem all_mk {P : Program} {w : World} {K : Fg} {h : Heap} {mg : Str → Option Value} {fa f0 : Addr} (X : K.In h) (G : h.Ns mainGlobals mg) (hfa : mg "law" = some (.ref fa))
    {oc : Value} {od an : Option Addr} {sl : Array (Option Value)} {kV dc pm cd ct : Value} {t1 t2 t3 : Tok}
    {C_Effect g_Effect_init g_Effect_of p_Effect_Effect_of g_Effect_fixed p_Effect_Effect_fixed g_Effect_repr C_Store g_Store_init g_Store_repr : Addr} {rest_Effect_Effect_of : List Value} {rest_Effect_Effect_fixed : List Value} {nc : Value} {nd : Option Addr} {ncd : ClassData} {nsl : Array (Option Value)} {ntk : Tok} (a_Effect : nsIn K mainGlobals "Effect" = some (some (.ref C_Effect))) (pg_Effect : plainGet K C_Effect Str.empty = true) (hd_Effect : hasDictIn K C_Effect = true) (po_Effect : plainOver K C_Effect = true) (sa_Effect : findIn K (.ref C_Effect) "__setattr__" = some (some (.builtin "object.__setattr__"))) (mk_Effect : makesIn K C_Effect = true) (kp_Effect : keepIn K (.ref C_Effect) = true) (na_Effect__system : findIn K (.ref C_Effect) "_system" = some none) (na_Effect__moves : findIn K (.ref C_Effect) "_moves" = some none) (na_Effect__reached : findIn K (.ref C_Effect) "_reached" = some none) (f_Effect_Effect_init : findIn K (.ref C_Effect) "__init__" = some (some (.ref g_Effect_init))) (i_Effect_Effect_init : isFn K (.ref g_Effect_init) = true) (d_Effect_init : DL.DefM K "__init__" "Effect.__init__" s_Effect_init g_Effect_init) (rd_Effect_Effect_of : readsIn K C_Effect (.type "type") = true) (ga_Effect_Effect_of : specialIn K (.ref C_Effect) "__getattribute__" = some (some (.builtin "type.__getattribute__"))) (f_Effect_Effect_of : findCls K (.ref C_Effect) (.type "type") "of" = some (.get (.builtin "classmethod.__get__") (.ref p_Effect_Effect_of) .none (.ref C_Effect))) (r_Effect_Effect_of : recIn K p_Effect_Effect_of "classmethod" = some (.ref g_Effect_of :: rest_Effect_Effect_of)) (i_Effect_Effect_of : fnIn K g_Effect_of = true) (d_Effect_of : DL.DefM K "of" "Effect.of" s_Effect_of g_Effect_of) (f_Effect_Effect_fixed : findIn K (.ref C_Effect) "fixed" = some (some (.ref p_Effect_Effect_fixed))) (g1_Effect_Effect_fixed : specialIn K (.ref p_Effect_Effect_fixed) "__get__" = some (some (.builtin "property.__get__"))) (t_Effect_Effect_fixed : takesIn K (.ref p_Effect_Effect_fixed) = some true) (r_Effect_Effect_fixed : recIn K p_Effect_Effect_fixed "property" = some (.ref g_Effect_fixed :: rest_Effect_Effect_fixed)) (d_Effect_fixed : DL.DefM K "fixed" "Effect.fixed" s_Effect_fixed g_Effect_fixed) (f_Effect_Effect_repr : findIn K (.ref C_Effect) "__repr__" = some (some (.ref g_Effect_repr))) (i_Effect_Effect_repr : isFn K (.ref g_Effect_repr) = true) (d_Effect_repr : DL.DefM K "__repr__" "Effect.__repr__" s_Effect_repr g_Effect_repr) (a_Store : nsIn K mainGlobals "Store" = some (some (.ref C_Store))) (pg_Store : plainGet K C_Store Str.empty = true) (hd_Store : hasDictIn K C_Store = true) (po_Store : plainOver K C_Store = true) (sa_Store : findIn K (.ref C_Store) "__setattr__" = some (some (.builtin "object.__setattr__"))) (mk_Store : makesIn K C_Store = true) (kp_Store : keepIn K (.ref C_Store) = true) (na_Store__system : findIn K (.ref C_Store) "_system" = some none) (na_Store__log : findIn K (.ref C_Store) "_log" = some none) (na_Store__earlier : findIn K (.ref C_Store) "_earlier" = some none) (f_Store_Store_init : findIn K (.ref C_Store) "__init__" = some (some (.ref g_Store_init))) (i_Store_Store_init : isFn K (.ref g_Store_init) = true) (d_Store_init : DL.DefM K "__init__" "Store.__init__" s_Store_init g_Store_init) (f_Store_Store_repr : findIn K (.ref C_Store) "__repr__" = some (some (.ref g_Store_repr))) (i_Store_Store_repr : isFn K (.ref g_Store_repr) = true) (d_Store_repr : DL.DefM K "__repr__" "Store.__repr__" s_Store_repr g_Store_repr) (ca_Effect : findIn K (.ref C_Effect) "__class__" = some (some (.builtin "object.__class__"))) (cn_Effect : specialIn K (.builtin "object.__class__") "__get__" = some (some (.builtin "getset_descriptor.__get__"))) (ct_Effect : takesIn K (.builtin "object.__class__") = some true) (cm_Effect : mroIn K C_Effect (.type "object") = some true) (ski_Effect : subIn K (.ref C_Effect) (.type "int") = some false) (skt_Effect : subIn K (.ref C_Effect) (.type "tuple") = some false) (ca_Store : findIn K (.ref C_Store) "__class__" = some (some (.builtin "object.__class__"))) (cn_Store : specialIn K (.builtin "object.__class__") "__get__" = some (some (.builtin "getset_descriptor.__get__"))) (ct_Store : takesIn K (.builtin "object.__class__") = some true) (cm_Store : mroIn K C_Store (.type "object") = some true) (ski_Store : subIn K (.ref C_Store) (.type "int") = some false) (skt_Store : subIn K (.ref C_Store) (.type "tuple") = some false) (no_Store : K.lookup C_Store = some ⟨nc, nd, .cls ncd, nsl⟩) (ns_Store : nsl[2]? = some (some (.str "Store" ntk))) (nr_Store : readsIn K C_Store (.type "type") = true) (nf_Store : findCls K (.ref C_Store) (.type "type") "__name__" = some (.get (.builtin "getset_descriptor.__get__") (.builtin "type.__name__") (.ref C_Store) (.type "type"))) (nt_Store : typeIn K (.ref C_Store) = some (.type "type"))
    (a : nsIn K mainGlobals "law" = some (some (.ref f0))) (l : K.lookup f0 = some ⟨oc, od, .func (fnOf "law" "law" (defArgs s_law) (defBody s_law) (defScope s_law) .none kV dc pm an cd ct), sl⟩) (c : codeIn K cd "law" = true) (k : keepIn K (.ref f0) = true)
    (d0 : Def K "_law_pen" s_l_pen) (d1 : Def K "_law_cell_at" s_l_cell_at) (d2 : Def K "_law_draw" s_l_draw) (d3 : Def K "_law_pick" s_l_pick) (d4 : Def K "_law_drawn" s_l_drawn) (d5 : Def K "_law_cells" s_l_cells) (d6 : Def K "_law_marks" s_l_marks) (d7 : Def K "_law_turns" s_l_turns) (d8 : Def K "_law_system" s_l_system) (d9 : Def K "is_number" s_is_number) (d10 : Def K "is_place" s_is_place) (d11 : Def K "are_places" s_are_places) (d12 : Def K "are_operations" s_are_operations) (d13 : Def K "are_kinds" s_are_kinds) (d14 : Def K "is_system" s_is_system) (d15 : Def K "is_log" s_is_log) (d16 : Def K "check_system" s_check_system) (d17 : Def K "check_log" s_check_log) (d18 : Def K "end_of" s_end_of) (d19 : Def K "first_paths" s_first_paths) (d20 : Def K "reachable" s_reachable) (d21 : Def K "_law_same" s_l_same) (d22 : Def K "is_reached" s_is_reached) (d23 : Def K "are_moves" s_are_moves) (d24 : Def K "reachable" s_reachable) (d25 : Def K "is_number" s_is_number) (d26 : Def K "is_place" s_is_place) (d27 : Def K "are_places" s_are_places) (d28 : Def K "are_operations" s_are_operations) (d29 : Def K "are_kinds" s_are_kinds) (d30 : Def K "is_system" s_is_system) (d37 : Def K "_law_pick" s_l_pick) (d38 : Def K "_law_odd" s_l_odd) (d39 : Def K "_law_bent" s_l_bent) (d40 : Def K "_law_bent" s_l_bent) (d41 : Def K "_law_bent" s_l_bent) (d42 : Def K "_law_bent" s_l_bent) (d43 : Def K "_law_is_whole" s_l_is_whole) (d44 : Def K "_law_is_system" s_l_is_system)
    (nst : nsIn K mainGlobals "MOST_STATES" = some (some (.int 6 t1))) (nops : nsIn K mainGlobals "MOST_OPERATIONS" = some (some (.int 6 t2))) (nkind : nsIn K mainGlobals "GREATEST_KIND" = some (some (.int 9 t3)))
     (z0 : nsIn K mainGlobals "all" = some none) (z1 : nsIn K mainGlobals "bool" = some none) (z2 : nsIn K mainGlobals "enumerate" = some none) (z3 : nsIn K mainGlobals "int" = some none) (z4 : nsIn K mainGlobals "isinstance" = some none) (z5 : nsIn K mainGlobals "len" = some none) (z6 : nsIn K mainGlobals "list" = some none) (z7 : nsIn K mainGlobals "max" = some none) (z8 : nsIn K mainGlobals "min" = some none) (z9 : nsIn K mainGlobals "range" = some none) (z10 : nsIn K mainGlobals "repr" = some none) (z11 : nsIn K mainGlobals "str" = some none) (z12 : nsIn K mainGlobals "sum" = some none) (z13 : nsIn K mainGlobals "tuple" = some none) (z14 : nsIn K mainGlobals "zip" = some none) :
    ∃ fd : FuncData, (∀ (s : Shared) (u : Value), BindsTo s fd ⟨[u], []⟩ [("_law_script", u)]) ∧ ∀ base : Heap, K.In base → base.Ns mainGlobals mg → FnG P w K mg base 11 fa fd ["_law_script"] (spP K φLaw) := by
  have e := hfa.symm.trans (mg_of X G a)
  cases e
  have ball := mg_none_of X G z0
  have bbool := mg_none_of X G z1
  have benumerate := mg_none_of X G z2
  have bint := mg_none_of X G z3
  have bisinstance := mg_none_of X G z4
  have blen := mg_none_of X G z5
  have blist := mg_none_of X G z6
  have bmax := mg_none_of X G z7
  have bmin := mg_none_of X G z8
  have brange := mg_none_of X G z9
  have brepr := mg_none_of X G z10
  have bstr := mg_none_of X G z11
  have bsum := mg_none_of X G z12
  have btuple := mg_none_of X G z13
  have bzip := mg_none_of X G z14
  refine ⟨fnOf "law" "law" (defArgs s_law) (defBody s_law) (defScope s_law) .none kV dc pm an cd ct, fun s v => .of_eq rfl, fun base _ _ => ?_⟩
  have cls_Effect : Cls K C_Effect := ⟨pg_Effect, hd_Effect, po_Effect, sa_Effect⟩
  have mg_Effect := mg_of X G a_Effect
  have mk_Effect_ : Mk K C_Effect g_Effect_init := ⟨mk_Effect, f_Effect_Effect_init, i_Effect_Effect_init, kp_Effect⟩
  have rd_Effect_Effect_of_ : ClX.CRead K C_Effect (.type "type") := ⟨rd_Effect_Effect_of, ga_Effect_Effect_of⟩
  have q_Effect_Effect_of : ClX.CMet K C_Effect (.type "type") "of" p_Effect_Effect_of g_Effect_of := ⟨f_Effect_Effect_of, ⟨_, r_Effect_Effect_of⟩, i_Effect_Effect_of⟩
  have q_Effect_Effect_fixed : PropOf K C_Effect "fixed" p_Effect_Effect_fixed g_Effect_fixed := ⟨f_Effect_Effect_fixed, g1_Effect_Effect_fixed, t_Effect_Effect_fixed, ⟨_, r_Effect_Effect_fixed⟩⟩
  have cls_Store : Cls K C_Store := ⟨pg_Store, hd_Store, po_Store, sa_Store⟩
  have mg_Store := mg_of X G a_Store
  have mk_Store_ : Mk K C_Store g_Store_init := ⟨mk_Store, f_Store_Store_init, i_Store_Store_init, kp_Store⟩
  have isi_Effect : SlX.SIsi K C_Effect := ⟨ca_Effect, cn_Effect, ct_Effect, cm_Effect⟩
  have isi_Store : SlX.SIsi K C_Store := ⟨ca_Store, cn_Store, ct_Store, cm_Store⟩
  have kit_Effect : PySem.W.kitOne K (.ref C_Effect) (.ref C_Effect) = some true := by simp [PySem.W.kitOne]
  have T : EffT K mg C_Effect := ⟨cls_Effect, na_Effect__system, na_Effect__moves, na_Effect__reached, mg_Effect, isi_Effect, kit_Effect⟩
  have nm_Store : NmC K C_Store "Store" := ⟨⟨_, _, _, _, _, no_Store, ns_Store⟩, nr_Store, nf_Store, nt_Store⟩
  have TS : StoT K C_Store := ⟨cls_Store, na_Store__system, na_Store__log, na_Store__earlier, isi_Store, nm_Store⟩
  have OS : ObjC K C_Store := ⟨cls_Store, isi_Store, kit_ty2 (by decide) ski_Store, kit_ty2 (by decide) skt_Store⟩
  have OE : ObjC K C_Effect := ⟨cls_Effect, isi_Effect, kit_ty2 (by decide) ski_Effect, kit_ty2 (by decide) skt_Effect⟩
  have c__law_pen : Has P w K mg base 1 "_law_pen" (spN K φ_pen) := Has.of d0 X G (fun F => ok_pen F bmax) (fun F => F.binds fun _ _ _ _ _ _ us hl => match us, hl with | [_], _ => rfl)
  have c__law_cell_at : Has P w K mg base 1 "_law_cell_at" (spP K φ_cell) := Has.of d1 X G (fun F => ok_cell F blen) (fun F => F.binds fun _ _ _ _ _ _ us hl => match us, hl with | [_, _], _ => rfl)
  have c__law_draw : Has P w K mg base 1 "_law_draw" (spL K φ_draw) := Has.of d2 X G (fun F => ok_draw F) (fun F => F.binds fun _ _ _ _ _ _ us hl => match us, hl with | [_, _], _ => rfl)
  have c__law_pick : Has P w K mg base 2 "_law_pick" (spL K φ_pick) := Has.of d3 X G (fun F => ok_pick F c__law_draw blen) (fun F => F.binds fun _ _ _ _ _ _ us hl => match us, hl with | [_, _], _ => rfl)
  have c__law_drawn : Has P w K mg base 3 "_law_drawn" (spL K (φ_gen 50)) := Has.of d4 X G (fun F => ok_drawn F c__law_draw c__law_pick brange btuple) (fun F => F.binds fun _ _ _ _ _ _ us hl => match us, hl with | [_], _ => rfl)
  have c__law_cells : Has P w K mg base 3 "_law_cells" (spL K (φ_gen 50)) := Has.of d5 X G (fun F => ok_cells F c__law_draw c__law_pick brange btuple) (fun F => F.binds fun _ _ _ _ _ _ us hl => match us, hl with | [_], _ => rfl)
  have c__law_marks : Has P w K mg base 3 "_law_marks" (spL K (φ_gen 50)) := Has.of d6 X G (fun F => ok_marks F c__law_draw c__law_pick brange btuple bsum) (fun F => F.binds fun _ _ _ _ _ _ us hl => match us, hl with | [_], _ => rfl)
  have c__law_turns : Has P w K mg base 3 "_law_turns" (spL K (φ_gen 50)) := Has.of d7 X G (fun F => ok_turns F c__law_draw c__law_pick brange btuple bmax blist) (fun F => F.binds fun _ _ _ _ _ _ us hl => match us, hl with | [_], _ => rfl)
  have c__law_system : Has P w K mg base 4 "_law_system" (spL K (φ_gen 60)) := Has.of d8 X G (fun F => ok_system F c__law_draw c__law_drawn c__law_cells c__law_marks c__law_turns blen) (fun F => F.binds fun _ _ _ _ _ _ us hl => match us, hl with | [_], _ => rfl)
  have c_is_number : Has P w K mg base 1 "is_number" (spP K φ_is_number) := Has.of d9 X G (fun F => ok_is_number F bisinstance bint bbool) (fun F => F.binds fun _ _ _ _ _ _ us hl => match us, hl with | [_, _, _], _ => rfl)
  have c_is_place : Has P w K mg base 2 "is_place" (spP K φ_is_place) := Has.of d10 X G (fun F => ok_is_place F c_is_number) (fun F => F.binds fun _ _ _ _ _ _ us hl => match us, hl with | [_, _], _ => rfl)
  have c_are_places : Has P w K mg base 3 "are_places" (spP K φ_are_places) := Has.of d11 X G (fun F => ok_are_places F c_is_place bisinstance btuple ball) (fun F => F.binds fun _ _ _ _ _ _ us hl => match us, hl with | [_, _], _ => rfl)
  have c_are_operations : Has P w K mg base 4 "are_operations" (spP K φ_are_operations) := Has.of d12 X G (fun F => ok_are_operations F c_are_places bisinstance btuple ball blen (mg_of X G nops)) (fun F => F.binds fun _ _ _ _ _ _ us hl => match us, hl with | [_, _], _ => rfl)
  have c_are_kinds : Has P w K mg base 4 "are_kinds" (spP K φ_are_kinds) := Has.of d13 X G (fun F => ok_are_kinds F c_is_number bisinstance btuple ball blen (mg_of X G nkind)) (fun F => F.binds fun _ _ _ _ _ _ us hl => match us, hl with | [_, _], _ => rfl)
  have c_is_system : Has P w K mg base 5 "is_system" (spP K φ_is_system) := Has.of d14 X G (fun F => ok_is_system F c_is_number c_is_place c_are_operations c_are_kinds bisinstance btuple blen (mg_of X G nst)) (fun F => F.binds fun _ _ _ _ _ _ us hl => match us, hl with | [_], _ => rfl)
  have c_is_log : Has P w K mg base 4 "is_log" (spP K φ_is_log) := Has.of d15 X G (fun F => ok_is_log F c_are_places blen) (fun F => F.binds fun _ _ _ _ _ _ us hl => match us, hl with | [_, _], _ => rfl)
  have c_check_system : Has P w K mg base 6 "check_system" (spP K φ_check_system) := Has.of d16 X G (fun F => ok_check_system F c_is_system) (fun F => F.binds fun _ _ _ _ _ _ us hl => match us, hl with | [_], _ => rfl)
  have c_check_log : Has P w K mg base 5 "check_log" (spP K φ_check_log) := Has.of d17 X G (fun F => ok_check_log F c_is_log) (fun F => F.binds fun _ _ _ _ _ _ us hl => match us, hl with | [_, _], _ => rfl)
  have c_end_of : Has P w K mg base 1 "end_of" (spP K φ_end_of) := Has.of d18 X G (fun F => ok_end_of F) (fun F => F.binds fun _ _ _ _ _ _ us hl => match us, hl with | [_, _, _], _ => rfl)
  have c_first_paths : Has P w K mg base 1 "first_paths" (spD K φ_paths) := Has.of d19 X G (fun F => ok_first_paths F benumerate) (fun F => F.binds fun _ _ _ _ _ _ us hl => match us, hl with | [_], _ => rfl)
  have c_reachable : Has P w K mg base 7 "reachable" (spP K φ_reach) := Has.of d20 X G (fun F => ok_reachable F c_check_system c_first_paths brange btuple) (fun F => F.binds fun _ _ _ _ _ _ us hl => match us, hl with | [_], _ => rfl)
  have c__law_same : HasG P w K mg base 1 "_law_same" (spP K φ_same) := HasG.of d21 X G (fun F => ok_same F brepr) (fun F => F.binds fun _ _ _ _ _ _ us hl => match us, hl with | [_, _], _ => rfl)
  have c_is_reached : Has P w K mg base 3 "is_reached" (spP K φ_isr) := Has.of d22 X G (fun F => ok_is_reached F c_is_place (mg_of X G nst)) (fun F => F.binds fun _ _ _ _ _ _ us hl => match us, hl with | [_, _], _ => rfl)
  have c_are_moves : Has P w K mg base 4 "are_moves" (spP K φ_isMv) := Has.of d23 X G (fun F => ok_are_moves F c_is_reached bisinstance btuple blen ball) (fun F => F.binds fun _ _ _ _ _ _ us hl => match us, hl with | [_, _], _ => rfl)
  have c_reachF : Has P w K mg base 7 "reachable" (spS K φ_reachF) := Has.of d24 X G (fun F => ok_reachF F c_check_system c_first_paths brange btuple) (fun F => F.binds fun _ _ _ _ _ _ us hl => match us, hl with | [_], _ => rfl)
  have c_is_numberW : Has P w K mg base 1 "is_number" (spS K (φ_numW K)) := Has.of d25 X G (fun F => ok_numW F bisinstance bint bbool) (fun F => F.binds fun _ _ _ _ _ _ us hl => match us, hl with | [_, _, _], _ => rfl)
  have c_is_placeW : Has P w K mg base 2 "is_place" (spS K (φ_placeW K)) := Has.of d26 X G (fun F => ok_placeW F c_is_numberW) (fun F => F.binds fun _ _ _ _ _ _ us hl => match us, hl with | [_, _], _ => rfl)
  have c_are_placesW : Has P w K mg base 3 "are_places" (spS K (φ_placesW K)) := Has.of d27 X G (fun F => ok_placesW F c_is_placeW bisinstance btuple ball) (fun F => F.binds fun _ _ _ _ _ _ us hl => match us, hl with | [_, _], _ => rfl)
  have c_are_operationsW : Has P w K mg base 4 "are_operations" (spS K (φ_opsW K)) := Has.of d28 X G (fun F => ok_opsW F c_are_placesW bisinstance btuple ball blen (mg_of X G nops)) (fun F => F.binds fun _ _ _ _ _ _ us hl => match us, hl with | [_, _], _ => rfl)
  have c_are_kindsW : Has P w K mg base 4 "are_kinds" (spS K (φ_kindsW K)) := Has.of d29 X G (fun F => ok_kindsW F c_is_numberW bisinstance btuple ball blen (mg_of X G nkind)) (fun F => F.binds fun _ _ _ _ _ _ us hl => match us, hl with | [_, _], _ => rfl)
  have c_is_systemW : Has P w K mg base 5 "is_system" (spS K (φ_sysW K)) := Has.of d30 X G (fun F => ok_sysW F c_is_numberW c_is_placeW c_are_operationsW c_are_kindsW bisinstance btuple blen (mg_of X G nst)) (fun F => F.binds fun _ _ _ _ _ _ us hl => match us, hl with | [_], _ => rfl)
  have m_Effect_init : HasM P w K mg base 8 g_Effect_init (spU K (φ_einit C_Effect)) := HasM.of d_Effect_init (fun F => ok_einit T F c_reachF c_are_moves) (fun F => F.binds fun _ _ _ _ _ _ us hl => match us, hl with | [_, _, _], _ => rfl)
  have m_Effect_of : HasM P w K mg base 10 g_Effect_of (spS K (φ_eof C_Effect)) := HasM.of d_Effect_of (fun F => ok_eof T F c_check_system c_check_log c_reachable c_end_of m_Effect_init mk_Effect_ btuple) (fun F => F.binds fun _ _ _ _ _ _ us hl => match us, hl with | [_, _, _], _ => rfl)
  have m_Effect_fixed : HasM P w K mg base 1 g_Effect_fixed (spS K (φ_efix C_Effect)) := HasM.of d_Effect_fixed (fun F => ok_efix T F bzip btuple) (fun F => F.binds fun _ _ _ _ _ _ us hl => match us, hl with | [_], _ => rfl)
  have m_Effect_repr : HasM P w K mg base 3 g_Effect_repr (spS K (φ_erepr C_Effect)) := HasM.of d_Effect_repr (fun F => ok_erepr T F m_Effect_fixed q_Effect_Effect_fixed blen) (fun F => F.binds fun _ _ _ _ _ _ us hl => match us, hl with | [_], _ => rfl)
  have m_Store_init : HasM P w K mg base 7 g_Store_init (spU K (φ_stoinit C_Store)) := HasM.of d_Store_init (fun F => ok_stoinit TS F c_check_system) (fun F => F.binds fun _ _ _ _ _ _ us hl => match us, hl with | [_, _], _ => rfl)
  have m_Store_repr : HasM P w K mg base 1 g_Store_repr (spS K (φ_storepr C_Store)) := HasM.of d_Store_repr (fun F => ok_storepr TS F blen) (fun F => F.binds fun _ _ _ _ _ _ us hl => match us, hl with | [_], _ => rfl)
  have c__law_pickW : Has P w K mg base 2 "_law_pick" (spU K φ_pickW) := Has.of d37 X G (fun F => ok_pickW F c__law_draw blen) (fun F => F.binds fun _ _ _ _ _ _ us hl => match us, hl with | [_, _], _ => rfl)
  have c__law_odd : Has P w K mg base 3 "_law_odd" (spU K φ_oddW) := Has.of d38 X G (fun F => ok_oddW F c__law_pickW) (fun F => F.binds fun _ _ _ _ _ _ us hl => match us, hl with | [_], _ => rfl)
  have c__law_bent0 : Has P w K mg base 4 "_law_bent" (spU K (φ_bent K 0)) := Has.of d39 X G (fun F => ok_bent (lv := 3) (Nat.le_add_right 3 0) F c__law_draw c__law_pickW c__law_odd (.inl rfl) bisinstance bint bbool btuple blen bstr blist) (fun F => F.binds fun _ _ _ _ _ _ us hl => match us, hl with | [_, _, _], _ => rfl)
  have c__law_bent1 : Has P w K mg base 5 "_law_bent" (spU K (φ_bent K 1)) := Has.of d40 X G (fun F => ok_bent (lv := 4) (Nat.le_add_right 3 1) F c__law_draw c__law_pickW c__law_odd (.inr ⟨0, rfl, c__law_bent0⟩) bisinstance bint bbool btuple blen bstr blist) (fun F => F.binds fun _ _ _ _ _ _ us hl => match us, hl with | [_, _, _], _ => rfl)
  have c__law_bent2 : Has P w K mg base 6 "_law_bent" (spU K (φ_bent K 2)) := Has.of d41 X G (fun F => ok_bent (lv := 5) (Nat.le_add_right 3 2) F c__law_draw c__law_pickW c__law_odd (.inr ⟨1, rfl, c__law_bent1⟩) bisinstance bint bbool btuple blen bstr blist) (fun F => F.binds fun _ _ _ _ _ _ us hl => match us, hl with | [_, _, _], _ => rfl)
  have c__law_bent3 : Has P w K mg base 7 "_law_bent" (spU K (φ_bent K 3)) := Has.of d42 X G (fun F => ok_bent (lv := 6) (Nat.le_add_right 3 3) F c__law_draw c__law_pickW c__law_odd (.inr ⟨2, rfl, c__law_bent2⟩) bisinstance bint bbool btuple blen bstr blist) (fun F => F.binds fun _ _ _ _ _ _ us hl => match us, hl with | [_, _, _], _ => rfl)
  have c__law_is_whole : Has P w K mg base 1 "_law_is_whole" (spS K (φ_numW K)) := Has.of d43 X G (fun F => ok_lwhole F bisinstance bint bbool) (fun F => F.binds fun _ _ _ _ _ _ us hl => match us, hl with | [_, _, _], _ => rfl)
  have c__law_is_system : Has P w K mg base 2 "_law_is_system" (spS K (φ_sysW K)) := Has.of d44 X G (fun F => ok_lsys F c__law_is_whole bisinstance btuple blen) (fun F => F.binds fun _ _ _ _ _ _ us hl => match us, hl with | [_], _ => rfl)
  exact ok_law (fun_mk l c k) c__law_pen c__law_cell_at c__law_system c__law_bent3 c__law_odd c_is_systemW c__law_is_system c__law_same m_Store_init mk_Store_ mg_Store ⟨_, f_Store_Store_repr, i_Store_Store_repr, m_Store_repr⟩ OS T m_Effect_of rd_Effect_Effect_of_ q_Effect_Effect_of ⟨_, f_Effect_Effect_repr, i_Effect_Effect_repr, m_Effect_repr⟩ OE brange bmax bmin blen blist brepr
end
end DL
open PySem PySem.W PyProof.Rows
local macro_rules | `(tactic| walk_at "def") => `(tactic| (refine' DL.Def.here ?a ?l ?c ?k; (case a => k_is); (case l => k_is); (case c => k_is); (case k => k_is)))
local macro_rules | `(tactic| walk_at "defm") => `(tactic| (refine' DL.DefM.here ?l ?c ?k; (case l => k_is); (case c => k_is); (case k => k_is)))
set_option maxHeartbeats 0 in
theorem PySem.Challenge.cw_lastofkind_k01_systems_recognized_holds : PySem.Challenge.rw_lastofkind_k01_systems_recognized.Holds := by
  w_on; o_law; k_head; (case hw => w_witness2)
  k_fill
  refine DL.end_of (l := PySem.Challenge.rw_lastofkind_k01_systems_recognized) (k := 11) (x := "_law_script") rfl rfl ⟨rfl, by decide, by decide⟩ (fun w h Y => PySem.W.kIn_of Y) ?F
  case F =>
    intro w mg fa h KX G hmg
    refine' DL.all_mk KX G hmg ?a_Effect ?pg_Effect ?hd_Effect ?po_Effect ?sa_Effect ?mk_Effect ?kp_Effect ?na_Effect__system ?na_Effect__moves ?na_Effect__reached ?f_Effect_Effect_init ?i_Effect_Effect_init ?d_Effect_init ?rd_Effect_Effect_of ?ga_Effect_Effect_of ?f_Effect_Effect_of ?r_Effect_Effect_of ?i_Effect_Effect_of ?d_Effect_of ?f_Effect_Effect_fixed ?g1_Effect_Effect_fixed ?t_Effect_Effect_fixed ?r_Effect_Effect_fixed ?d_Effect_fixed ?f_Effect_Effect_repr ?i_Effect_Effect_repr ?d_Effect_repr ?a_Store ?pg_Store ?hd_Store ?po_Store ?sa_Store ?mk_Store ?kp_Store ?na_Store__system ?na_Store__log ?na_Store__earlier ?f_Store_Store_init ?i_Store_Store_init ?d_Store_init ?f_Store_Store_repr ?i_Store_Store_repr ?d_Store_repr ?ca_Effect ?cn_Effect ?ct_Effect ?cm_Effect ?ski_Effect ?skt_Effect ?ca_Store ?cn_Store ?ct_Store ?cm_Store ?ski_Store ?skt_Store ?no_Store ?ns_Store ?nr_Store ?nf_Store ?nt_Store ?a ?l ?c ?k ?d0 ?d1 ?d2 ?d3 ?d4 ?d5 ?d6 ?d7 ?d8 ?d9 ?d10 ?d11 ?d12 ?d13 ?d14 ?d15 ?d16 ?d17 ?d18 ?d19 ?d20 ?d21 ?d22 ?d23 ?d24 ?d25 ?d26 ?d27 ?d28 ?d29 ?d30 ?d37 ?d38 ?d39 ?d40 ?d41 ?d42 ?d43 ?d44 ?n1 ?n2 ?n3   ?z0 ?z1 ?z2 ?z3 ?z4 ?z5 ?z6 ?z7 ?z8 ?z9 ?z10 ?z11 ?z12 ?z13 ?z14
    (case a_Effect => k_is)
    (case pg_Effect => k_is)
    (case hd_Effect => k_is)
    (case po_Effect => k_is)
    (case sa_Effect => k_is)
    (case mk_Effect => k_is)
    (case kp_Effect => k_is)
    (case na_Effect__system => k_is)
    (case na_Effect__moves => k_is)
    (case na_Effect__reached => k_is)
    (case f_Effect_Effect_init => k_is)
    (case i_Effect_Effect_init => k_is)
    (case d_Effect_init => walk_at "defm")
    (case rd_Effect_Effect_of => k_is)
    (case ga_Effect_Effect_of => k_is)
    (case f_Effect_Effect_of => k_is)
    (case r_Effect_Effect_of => k_is)
    (case i_Effect_Effect_of => k_is)
    (case d_Effect_of => walk_at "defm")
    (case f_Effect_Effect_fixed => k_is)
    (case g1_Effect_Effect_fixed => k_is)
    (case t_Effect_Effect_fixed => k_is)
    (case r_Effect_Effect_fixed => k_is)
    (case d_Effect_fixed => walk_at "defm")
    (case f_Effect_Effect_repr => k_is)
    (case i_Effect_Effect_repr => k_is)
    (case d_Effect_repr => walk_at "defm")
    (case a_Store => k_is)
    (case pg_Store => k_is)
    (case hd_Store => k_is)
    (case po_Store => k_is)
    (case sa_Store => k_is)
    (case mk_Store => k_is)
    (case kp_Store => k_is)
    (case na_Store__system => k_is)
    (case na_Store__log => k_is)
    (case na_Store__earlier => k_is)
    (case f_Store_Store_init => k_is)
    (case i_Store_Store_init => k_is)
    (case d_Store_init => walk_at "defm")
    (case f_Store_Store_repr => k_is)
    (case i_Store_Store_repr => k_is)
    (case d_Store_repr => walk_at "defm")
    (case ca_Effect => k_is)
    (case cn_Effect => k_is)
    (case ct_Effect => k_is)
    (case cm_Effect => k_is)
    (case ski_Effect => k_is)
    (case skt_Effect => k_is)
    (case ca_Store => k_is)
    (case cn_Store => k_is)
    (case ct_Store => k_is)
    (case cm_Store => k_is)
    (case ski_Store => k_is)
    (case skt_Store => k_is)
    (case no_Store => k_is)
    (case ns_Store => first | k_is | rfl)
    (case nr_Store => k_is)
    (case nf_Store => k_is)
    (case nt_Store => k_is)
    (case a => k_is); (case l => k_is); (case c => k_is); (case k => k_is)
    (case d0 => walk_at "def")
    (case d1 => walk_at "def")
    (case d2 => walk_at "def")
    (case d3 => walk_at "def")
    (case d4 => walk_at "def")
    (case d5 => walk_at "def")
    (case d6 => walk_at "def")
    (case d7 => walk_at "def")
    (case d8 => walk_at "def")
    (case d9 => walk_at "def")
    (case d10 => walk_at "def")
    (case d11 => walk_at "def")
    (case d12 => walk_at "def")
    (case d13 => walk_at "def")
    (case d14 => walk_at "def")
    (case d15 => walk_at "def")
    (case d16 => walk_at "def")
    (case d17 => walk_at "def")
    (case d18 => walk_at "def")
    (case d19 => walk_at "def")
    (case d20 => walk_at "def")
    (case d21 => walk_at "def")
    (case d22 => walk_at "def")
    (case d23 => walk_at "def")
    (case d24 => walk_at "def")
    (case d25 => walk_at "def")
    (case d26 => walk_at "def")
    (case d27 => walk_at "def")
    (case d28 => walk_at "def")
    (case d29 => walk_at "def")
    (case d30 => walk_at "def")
    (case d37 => walk_at "def")
    (case d38 => walk_at "def")
    (case d39 => walk_at "def")
    (case d40 => walk_at "def")
    (case d41 => walk_at "def")
    (case d42 => walk_at "def")
    (case d43 => walk_at "def")
    (case d44 => walk_at "def")
    (case n1 => k_is); (case n2 => k_is); (case n3 => k_is)
    
    (case z0 => k_is); (case z1 => k_is); (case z2 => k_is); (case z3 => k_is); (case z4 => k_is); (case z5 => k_is); (case z6 => k_is); (case z7 => k_is); (case z8 => k_is); (case z9 => k_is); (case z10 => k_is); (case z11 => k_is); (case z12 => k_is); (case z13 => k_is); (case z14 => k_is)
