import PyProof.Rows.All
import Wide.All
import OpenK.AllK
import Wide.FinOn
import HandS.ForMost
import HandS.Exc
import HandS.ExcOwn
import HandS.TryOnly
import HandS.WordsExc
import HandS.Evl
import HandS.Deep
import HandS.IsInst
import HandS.Wide
import HandS.Zip
import HandS.SortKw
import KE.SortKeyHeap
import KE.SortUse
import PySem.Challenge.RW_stockfloor_k09_dealt
set_option Elab.async false
set_option linter.all false
set_option maxRecDepth 100000
set_option maxHeartbeats 4000000
/-! My own layer: data, what is owned, and judgements that speak of data alone. -/
namespace Z
open PySem PySem.Spec PyProof.Rows L2 Evl

/-- data: a value as it is read through the heap; `at` is a value by itself -/
inductive DD where
  | non | bl (b : Bool) | int (i : Int) | str (s : Str) | lst (ds : List DD) | sl (ds : List DD) | tup (ds : List DD)
  | dt (ks : List (List Key)) (ds : List DD) | at (v : V)

mutual
inductive Is (K : PySem.W.Frag) (G : Hp) : V → DD → Prop
  | non : Is K G .non .non
  | bl (b : Bool) : Is K G (.bl b) (.bl b)
  | int (i : Int) : Is K G (.int i) (.int i)
  | str (x : Str) : Is K G (.str x) (.str x)
  | lst {a : Addr} {vs : List V} {ds : List DD} : G a = some (.lst vs) → IsAll K G vs ds → Is K G (.ref a) (.lst ds)
  | sl {a : Addr} {vs : List V} {ds : List DD} : SqL K G a vs → IsAll K G vs ds → Is K G (.ref a) (.sl ds)
  | tup {a : Addr} {vs : List V} {ds : List DD} : SqT K G a vs → IsAll K G vs ds → Is K G (.ref a) (.tup ds)
  | dt {a : Addr} {kvs : List (List Key × V)} {ks : List (List Key)} {ds : List DD} : Rd G a (.dT kvs) → ks = kvs.map (·.1) → IsAll K G (kvs.map (·.2)) ds → Is K G (.ref a) (.dt ks ds)
  | at (v : V) : Is K G v (.at v)
inductive IsAll (K : PySem.W.Frag) (G : Hp) : List V → List DD → Prop
  | nil : IsAll K G [] []
  | cons {v : V} {vs : List V} {d : DD} {ds : List DD} : Is K G v d → IsAll K G vs ds → IsAll K G (v :: vs) (d :: ds)
end

section
variable {K : PySem.W.Frag} {G G' H H' : Hp}
mutual
theorem Is.mono (e : Ex G G') : ∀ {v : V} {d : DD}, Is K G v d → Is K G' v d
  | _, _, .non => .non
  | _, _, .bl b => .bl b
  | _, _, .int i => .int i
  | _, _, .str x => .str x
  | _, _, .lst h hs => .lst (e _ _ h) (IsAll.mono e hs)
  | _, _, .sl h hs => .sl (ex_l e h) (IsAll.mono e hs)
  | _, _, .tup h hs => .tup (ex_t e h) (IsAll.mono e hs)
  | _, _, .dt h hk hs => .dt (ex_rd e h) hk (IsAll.mono e hs)
  | _, _, .at v => .at v
theorem IsAll.mono (e : Ex G G') : ∀ {vs : List V} {ds : List DD}, IsAll K G vs ds → IsAll K G' vs ds
  | _, _, .nil => .nil
  | _, _, .cons h hs => .cons (Is.mono e h) (IsAll.mono e hs)
end
theorem Is.int_eq {v : V} {i : Int} (h : Is K G v (.int i)) : v = .int i := by cases h; rfl
theorem Is.str_eq {v : V} {i : Str} (h : Is K G v (.str i)) : v = .str i := by cases h; rfl
theorem Is.bl_eq {v : V} {i : Bool} (h : Is K G v (.bl i)) : v = .bl i := by cases h; rfl
theorem Is.non_eq {v : V} (h : Is K G v .non) : v = .non := by cases h; rfl
theorem Is.at_eq {v w : V} (h : Is K G v (.at w)) : v = w := by cases h; rfl
theorem IsAll.length : ∀ {vs : List V} {ds : List DD}, IsAll K G vs ds → vs.length = ds.length
  | _, _, .nil => rfl
  | _, _, .cons _ hs => congrArg (· + 1) hs.length
theorem IsAll.get : ∀ {vs : List V} {ds : List DD} {i : Nat} {d : DD}, IsAll K G vs ds → ds[i]? = some d → ∃ v, vs[i]? = some v ∧ Is K G v d
  | _, _, _, _, .nil, h => by simp at h
  | _ :: _, _ :: _, 0, _, .cons h _, e => by
    have q := Option.some.inj e
    exact ⟨_, rfl, q ▸ h⟩
  | _ :: _, _ :: _, i + 1, _, .cons _ hs, e => hs.get (i := i) e
theorem IsAll.get' : ∀ {vs : List V} {ds : List DD} {i : Nat} {v : V}, IsAll K G vs ds → vs[i]? = some v → ∃ d, ds[i]? = some d ∧ Is K G v d
  | _, _, _, _, .nil, h => by simp at h
  | _ :: _, _ :: _, 0, _, .cons h _, e => by
    have q := Option.some.inj e
    exact ⟨_, rfl, q ▸ h⟩
  | _ :: _, _ :: _, i + 1, _, .cons _ hs, e => hs.get' (i := i) e
theorem IsAll.append : ∀ {vs ws : List V} {ds es : List DD}, IsAll K G vs ds → IsAll K G ws es → IsAll K G (vs ++ ws) (ds ++ es)
  | _, _, _, _, .nil, h => h
  | _, _, _, _, .cons h hs, k => .cons h (hs.append k)
theorem IsAll.take : ∀ (n : Nat) {vs : List V} {ds : List DD}, IsAll K G vs ds → IsAll K G (vs.take n) (ds.take n)
  | 0, _, _, _ => .nil
  | _ + 1, _, _, .nil => .nil
  | n + 1, _, _, .cons h hs => .cons h (hs.take n)
theorem IsAll.drop : ∀ (n : Nat) {vs : List V} {ds : List DD}, IsAll K G vs ds → IsAll K G (vs.drop n) (ds.drop n)
  | 0, _, _, h => h
  | _ + 1, _, _, .nil => .nil
  | n + 1, _, _, .cons _ hs => hs.drop n
theorem IsAll.set : ∀ (i : Nat) {vs : List V} {ds : List DD} {v : V} {d : DD}, IsAll K G vs ds → Is K G v d → IsAll K G (vs.set i v) (ds.set i d)
  | _, _, _, _, _, .nil, _ => .nil
  | 0, _, _, _, _, .cons _ hs, k => .cons k hs
  | i + 1, _, _, _, _, .cons h hs, k => .cons h (hs.set i k)
theorem IsAll.ints : ∀ {vs : List V} {ns : List Int}, IsAll K G vs (ns.map DD.int) → vs = ns.map V.int
  | _, [], .nil => rfl
  | _, _ :: _, .cons h hs => by rw [h.int_eq, hs.ints]; rfl
theorem IsAll.of_ints : ∀ (ns : List Int), IsAll K G (ns.map V.int) (ns.map DD.int)
  | [] => .nil
  | n :: ns => .cons (.int n) (IsAll.of_ints ns)
theorem IsAll.strs : ∀ {vs : List V} {ns : List Str}, IsAll K G vs (ns.map DD.str) → vs = ns.map V.str
  | _, [], .nil => rfl
  | _, _ :: _, .cons h hs => by rw [h.str_eq, hs.strs]; rfl
theorem IsAll.replicate {v : V} {d : DD} (h : Is K G v d) : ∀ n, IsAll K G (List.replicate n v) (List.replicate n d)
  | 0 => .nil
  | n + 1 => .cons h (IsAll.replicate h n)
end

/-! ### what is owned -/
structure As where
  P : Hp → Hp → (Addr → Prop) → Prop
  loc : ∀ {G G' H H' : Hp} {S : Addr → Prop}, P G H S → Ex G G' → (∀ a, S a → H' a = H a) → P G' H' S
def Sep : List As → Hp → Hp → (Addr → Prop) → Prop
  | [], _, _, S => ∀ a, ¬ S a
  | A :: W, G, H, S => ∃ S1 S2 : Addr → Prop, A.P G H S1 ∧ Sep W G H S2 ∧ (∀ a, S a ↔ S1 a ∨ S2 a) ∧ ∀ a, S1 a → S2 a → False
theorem Sep.loc : ∀ {W : List As} {G G' H H' : Hp} {S : Addr → Prop}, Sep W G H S → Ex G G' → (∀ a, S a → H' a = H a) → Sep W G' H' S
  | [], _, _, _, _, _, h, _, _ => h
  | A :: W, _, _, _, _, _, ⟨S1, S2, p, q, u, d⟩, e, k => ⟨S1, S2, A.loc p e (fun a s => k a ((u a).mpr (.inl s))), Sep.loc q e (fun a s => k a ((u a).mpr (.inr s))), u, d⟩
structure Stt (W : List As) (G H : Hp) : Prop where
  ex : Ex G H
  own : ∃ S, Sep W G H S ∧ ∀ a, S a → G a = none ∧ (H a).isSome = true
section
variable {W : List As} {G G2 H H2 : Hp} {A : As} {p : Addr} {o : HO}
theorem ex_isSome {a : Addr} (e : Ex H H2) (h : (H a).isSome = true) : H2 a = H a := by
  cases q : H a with
  | none => rw [q] at h; cases h
  | some o => exact e a o q
/-- the whole grows, the data grow, and no data is laid over what is owned -/
theorem Stt.grow (h : Stt W G H) (e : Ex H H2) (g : Ex G G2) (s : Ex G2 H2) (k : ∀ a, G a = none → (H a).isSome = true → G2 a = none) : Stt W G2 H2 := by
  obtain ⟨ex, S, q, z⟩ := h
  refine ⟨s, S, q.loc g fun a sa => ex_isSome e (z a sa).2, fun a sa => ⟨k a (z a sa).1 (z a sa).2, ?_⟩⟩
  rw [ex_isSome e (z a sa).2]; exact (z a sa).2
theorem Stt.new (h : Stt W G H) (hp : H p = none) : Stt W (upd G p o) (upd H p o) := by
  have gp : G p = none := fresh_back h.ex hp
  refine h.grow (Ex.new hp) (Ex.new gp) (fun a u q => ?_) fun a ga ha => ?_
  · by_cases e : a = p
    · subst e; rw [upd_same] at q; rw [upd_same]; exact q
    · rw [upd_ne e] at q; rw [upd_ne e]; exact h.ex a u q
  · by_cases e : a = p
    · subst e; rw [hp] at ha; cases ha
    · rw [upd_ne e]; exact ga
theorem ne_of_some' {a p : Addr} (h : (H a).isSome = true) (hp : H p = none) : a ≠ p := by
  rintro rfl; rw [hp] at h; cases h
/-- something new that nobody's data lean on -/
theorem Stt.more (h : Stt W G H) (e : Ex H H2) : Stt W G H2 := h.grow e (Ex.refl G) (h.ex.trans e) fun _ g _ => g
theorem Stt.newOwn (h : Stt W G H) (hp : H p = none) (ha : A.P G (upd H p o) (· = p)) : Stt (A :: W) G (upd H p o) := by
  have h' := h.more (Ex.new (o := o) hp)
  obtain ⟨ex, S, q, z⟩ := h
  refine ⟨h'.ex, fun a => a = p ∨ S a, ⟨(· = p), S, ha, q.loc (Ex.refl G) fun a sa => ?_, fun a => Iff.rfl, fun a e sa => ?_⟩, fun a sa => ?_⟩
  · exact upd_ne (ne_of_some' (z a sa).2 hp)
  · subst e; have := (z a sa).2; rw [hp] at this; cases this
  · rcases sa with rfl | sa
    · exact ⟨fresh_back ex hp, by rw [upd_same]; rfl⟩
    · refine ⟨(z a sa).1, ?_⟩
      rw [upd_ne (ne_of_some' (z a sa).2 hp)]; exact (z a sa).2
theorem Stt.drop (h : Stt (A :: W) G H) : Stt W G H := by
  obtain ⟨ex, S, ⟨S1, S2, p, q, u, d⟩, z⟩ := h
  exact ⟨ex, S2, q, fun a sa => z a ((u a).mpr (.inr sa))⟩
/-- the first owned thing, by itself: what it says, that it may be changed, that it may be handed over -/
theorem Stt.head (h : Stt (A :: W) G H) : ∃ S1, A.P G H S1 ∧ (∀ a, S1 a → G a = none ∧ (H a).isSome = true) ∧
    ∀ {G2 H2 : Hp} {B : As} {S1' : Addr → Prop}, Ex G G2 → Ex G2 H2 → (∀ a, G a = none → (H a).isSome = true → G2 a = none) → (∀ a, ¬ S1 a → (H a).isSome = true → H2 a = H a) → B.P G2 H2 S1' →
      (∀ a, S1' a → (S1 a ∨ H a = none) ∧ G2 a = none ∧ (H2 a).isSome = true) → Stt (B :: W) G2 H2 := by
  obtain ⟨ex, S, ⟨S1, S2, p, q, u, d⟩, z⟩ := h
  refine ⟨S1, p, fun a sa => z a ((u a).mpr (.inl sa)), fun {G2 H2 B S1'} e1 e2 k1 k2 b k3 => ?_⟩
  have k4 : ∀ a, S2 a → H2 a = H a := fun a sa => k2 a (fun s1 => d a s1 sa) (z a ((u a).mpr (.inr sa))).2
  refine ⟨e2, fun a => S1' a ∨ S2 a, ⟨S1', S2, b, q.loc e1 k4, fun a => Iff.rfl, fun a s1 s2 => ?_⟩, fun a sa => ?_⟩
  · rcases (k3 a s1).1 with t | t
    · exact d a t s2
    · have := (z a ((u a).mpr (.inr s2))).2; rw [t] at this; cases this
  · rcases sa with sa | sa
    · exact (k3 a sa).2
    · have hz := z a ((u a).mpr (.inr sa))
      exact ⟨k1 a hz.1 hz.2, by rw [k4 a sa]; exact hz.2⟩
/-- swap the first two -/
theorem Stt.swap {B : As} (h : Stt (A :: B :: W) G H) : Stt (B :: A :: W) G H := by
  obtain ⟨ex, S, ⟨S1, S2, p, ⟨S3, S4, p3, q, u2, d2⟩, u, d⟩, z⟩ := h
  refine ⟨ex, S, ⟨S3, fun a => S1 a ∨ S4 a, p3, ⟨S1, S4, p, q, fun a => Iff.rfl, fun a s1 s4 => d a s1 ((u2 a).mpr (.inr s4))⟩, fun a => ?_, fun a s3 s => ?_⟩, z⟩
  · rw [u a, u2 a]
    constructor
    · rintro (s | s | s)
      · exact .inr (.inl s)
      · exact .inl s
      · exact .inr (.inr s)
    · rintro (s | s | s)
      · exact .inr (.inl s)
      · exact .inl s
      · exact .inr (.inr s)
  · rcases s with s | s
    · exact d a s ((u2 a).mpr (.inl s3))
    · exact d2 a s3 s
end

/-- bring the i-th to the front -/
def front (i : Nat) (W : List As) : List As := match W[i]? with
  | some A => A :: W.eraseIdx i
  | none => W
theorem Sep.front : ∀ {W : List As} {G H : Hp} {S : Addr → Prop} {i : Nat} {A : As}, W[i]? = some A → (Sep W G H S ↔ Sep (A :: W.eraseIdx i) G H S)
  | [], _, _, _, _, _, e => by simp at e
  | B :: W, G, H, S, 0, A, e => by
    have q : B = A := Option.some.inj e
    subst q
    exact Iff.rfl
  | B :: W, G, H, S, i + 1, A, e => by
    have ih := fun S' => Sep.front (G := G) (H := H) (S := S') (W := W) (i := i) (A := A) e
    show (∃ S1 S2 : Addr → Prop, B.P G H S1 ∧ Sep W G H S2 ∧ (∀ a, S a ↔ S1 a ∨ S2 a) ∧ ∀ a, S1 a → S2 a → False) ↔
      ∃ S1 S2 : Addr → Prop, A.P G H S1 ∧ (∃ S3 S4 : Addr → Prop, B.P G H S3 ∧ Sep (W.eraseIdx i) G H S4 ∧ (∀ a, S2 a ↔ S3 a ∨ S4 a) ∧ ∀ a, S3 a → S4 a → False) ∧ (∀ a, S a ↔ S1 a ∨ S2 a) ∧ ∀ a, S1 a → S2 a → False
    constructor
    · rintro ⟨S1, S2, p, q, u, d⟩
      obtain ⟨S3, S4, p3, q4, u2, d2⟩ := (ih S2).mp q
      refine ⟨S3, fun a => S1 a ∨ S4 a, p3, ⟨S1, S4, p, q4, fun a => Iff.rfl, fun a s1 s4 => d a s1 ((u2 a).mpr (.inr s4))⟩, fun a => ?_, fun a s3 s => ?_⟩
      · rw [u a, u2 a]
        constructor
        · rintro (s | s | s)
          · exact .inr (.inl s)
          · exact .inl s
          · exact .inr (.inr s)
        · rintro (s | s | s)
          · exact .inr (.inl s)
          · exact .inl s
          · exact .inr (.inr s)
      · rcases s with s | s
        · exact d a s ((u2 a).mpr (.inl s3))
        · exact d2 a s3 s
    · rintro ⟨S3, S2, p3, ⟨S1, S4, p, q4, u2, d2⟩, u, d⟩
      refine ⟨S1, fun a => S3 a ∨ S4 a, p, (ih _).mpr ⟨S3, S4, p3, q4, fun a => Iff.rfl, fun a s3 s4 => d a s3 ((u2 a).mpr (.inr s4))⟩, fun a => ?_, fun a s1 s => ?_⟩
      · rw [u a, u2 a]
        constructor
        · rintro (s | s | s)
          · exact .inr (.inl s)
          · exact .inl s
          · exact .inr (.inr s)
        · rintro (s | s | s)
          · exact .inr (.inl s)
          · exact .inl s
          · exact .inr (.inr s)
      · rcases s with s | s
        · exact d a s ((u2 a).mpr (.inl s1))
        · exact d2 a s1 s
theorem Stt.front {W : List As} {G H : Hp} {i : Nat} {A : As} (e : W[i]? = some A) : Stt W G H ↔ Stt (A :: W.eraseIdx i) G H := by
  constructor
  · rintro ⟨ex, S, q, z⟩
    exact ⟨ex, S, (Sep.front e).mp q, z⟩
  · rintro ⟨ex, S, q, z⟩
    exact ⟨ex, S, (Sep.front e).mpr q, z⟩
/-- change the i-th in its place -/
theorem Stt.at {W : List As} {G H : Hp} {i : Nat} {A B : As} (e : W[i]? = some A) (h : Stt W G H) {G2 H2 : Hp} (k : Stt (A :: W.eraseIdx i) G H → Stt (B :: W.eraseIdx i) G2 H2) : Stt (W.set i B) G2 H2 := by
  have hi : i < W.length := (List.getElem?_eq_some_iff.mp e).1
  have e2 : (W.set i B)[i]? = some B := by simp [hi]
  have e3 : (W.set i B).eraseIdx i = W.eraseIdx i := by rw [List.eraseIdx_set_eq]
  have q := k ((Stt.front e).mp h)
  rw [← e3] at q
  exact (Stt.front e2).mpr q
end Z

set_option Elab.async false
set_option linter.all false
set_option maxRecDepth 100000
set_option maxHeartbeats 4000000
namespace Z
open PySem PySem.Spec PyProof.Rows L2 Evl
section
variable {K : PySem.W.Frag}
/-- a list that is owned -/
def LC (K : PySem.W.Frag) (p : Addr) (ds : List DD) : As where
  P := fun G H S => (∀ a, S a ↔ a = p) ∧ ∃ vs, H p = some (.lst vs) ∧ IsAll K G vs ds
  loc := by
    rintro G G' H H' S ⟨hs, vs, e, q⟩ g k
    exact ⟨hs, vs, (k p ((hs p).mpr rfl)).trans e, q.mono g⟩
/-- the data were so once -/
def Base (G0 : Hp) : As where
  P := fun G _ S => (∀ a, ¬ S a) ∧ Ex G0 G
  loc := by
    rintro G G' H H' S ⟨hs, e⟩ g _
    exact ⟨hs, e.trans g⟩
theorem Stt.base {W : List As} {G G0 H : Hp} (h : Stt W G H) (e : Ex G0 G) : Stt (Base G0 :: W) G H := by
  obtain ⟨ex, S, q, z⟩ := h
  exact ⟨ex, S, ⟨fun _ => False, S, ⟨fun _ => id, e⟩, q, fun a => by simp, fun a f => f.elim⟩, z⟩
theorem Stt.unbase {W : List As} {G G0 H : Hp} (h : Stt (Base G0 :: W) G H) : Ex G0 G := by
  obtain ⟨S1, p, _⟩ := h.head
  exact p.2
theorem Stt.snoc {W : List As} {A : As} {G H : Hp} : Stt (W ++ [A]) G H ↔ Stt (A :: W) G H := by
  have e : (W ++ [A])[W.length]? = some A := by simp
  have e2 : (W ++ [A]).eraseIdx W.length = W := by rw [List.eraseIdx_append_of_length_le (Nat.le_refl _)]; simp
  have q := Stt.front (G := G) (H := H) e
  rw [e2] at q
  exact q
def Le (W' W : List As) : Prop := ∀ {G H : Hp}, Stt W' G H → Stt W G H
theorem Le.refl (W : List As) : Le W W := fun h => h
theorem Le.trans {W1 W2 W3 : List As} (a : Le W1 W2) (b : Le W2 W3) : Le W1 W3 := fun h => b (a h)
theorem Le.snoc (W : List As) (A : As) : Le (W ++ [A]) W := fun h => (Stt.snoc.mp h).drop
theorem Le.cons (W : List As) (A : As) : Le (A :: W) W := fun h => h.drop
theorem Stt.front_mono {W : List As} {G H : Hp} : ∀ {Wf : List As} {W' : List As}, (∀ {G H : Hp} {S : Addr → Prop}, Sep W' G H S → (∀ a, S a → G a = none ∧ (H a).isSome = true) → ∃ S', Sep W G H S' ∧ ∀ a, S' a → S a) → Stt (Wf ++ W') G H → Stt (Wf ++ W) G H := by
  intro Wf W' k h
  obtain ⟨ex, S, q, z⟩ := h
  suffices ∃ S', Sep (Wf ++ W) G H S' ∧ ∀ a, S' a → S a by
    obtain ⟨S', q', i⟩ := this
    exact ⟨ex, S', q', fun a s => z a (i a s)⟩
  clear ex
  induction Wf generalizing S with
  | nil => exact k q z
  | cons A Wf ih =>
    obtain ⟨S1, S2, p, q2, u, d⟩ := q
    obtain ⟨S', q', i⟩ := ih S2 q2 fun a s => z a ((u a).mpr (.inr s))
    exact ⟨fun a => S1 a ∨ S' a, ⟨S1, S', p, q', fun a => Iff.rfl, fun a s1 s => d a s1 (i a s)⟩, fun a s => (u a).mpr (s.imp id (i a))⟩
theorem Stt.lc {W : List As} {G H : Hp} {p : Addr} {ds : List DD} (h : Stt (LC K p ds :: W) G H) : ∃ vs, H p = some (.lst vs) ∧ IsAll K G vs ds ∧ G p = none := by
  obtain ⟨S1, ⟨hs, vs, e, q⟩, z, _⟩ := h.head
  exact ⟨vs, e, q, (z p ((hs p).mpr rfl)).1⟩
theorem Stt.lcAt {W : List As} {G H : Hp} {p : Addr} {ds : List DD} {i : Nat} (h : Stt W G H) (e : W[i]? = some (LC K p ds)) : ∃ vs, H p = some (.lst vs) ∧ IsAll K G vs ds ∧ G p = none := ((Stt.front e).mp h).lc
theorem Stt.lcSet {W : List As} {G H : Hp} {p : Addr} {ds es : List DD} {ws : List V} (h : Stt (LC K p ds :: W) G H) (q : IsAll K G ws es) : Stt (LC K p es :: W) G (upd H p (.lst ws)) := by
  have ex := h.ex
  obtain ⟨S1, ⟨hs, vs, e, q0⟩, z, k⟩ := h.head
  have gp := (z p ((hs p).mpr rfl)).1
  refine k (S1' := S1) (Ex.refl G) (fun a o g => ?_) (fun _ g _ => g) (fun a n _ => upd_ne fun r => n ((hs a).mpr r)) ⟨hs, ws, upd_same, q⟩ fun a s => ⟨.inl s, (z a s).1, ?_⟩
  · rw [upd_ne (by rintro rfl; rw [gp] at g; cases g)]
    exact ex a o g
  · have r := (hs a).mp s
    subst r
    rw [upd_same]; rfl
theorem Stt.lcSetAt {W : List As} {G H : Hp} {p : Addr} {ds es : List DD} {ws : List V} {i : Nat} (h : Stt W G H) (e : W[i]? = some (LC K p ds)) (q : IsAll K G ws es) : Stt (W.set i (LC K p es)) G (upd H p (.lst ws)) :=
  h.at e fun h => h.lcSet q
theorem Stt.lcNew {W : List As} {G H : Hp} {p : Addr} {ds : List DD} {vs : List V} (h : Stt W G H) (hp : H p = none) (q : IsAll K G vs ds) : Stt (LC K p ds :: W) G (upd H p (.lst vs)) :=
  h.newOwn hp ⟨fun _ => Iff.rfl, vs, upd_same, q⟩
/-- an owned list is handed over to the data -/
theorem Stt.freeze {W : List As} {G H : Hp} {p : Addr} {ds : List DD} (h : Stt (LC K p ds :: W) G H) : ∃ G2, Ex G G2 ∧ Stt W G2 H ∧ Is K G2 (.ref p) (.lst ds) := by
  obtain ⟨ex, S, ⟨S1, S2, ⟨hs, vs, e, q⟩, q2, u, d⟩, z⟩ := h
  have gp : G p = none := (z p ((u p).mpr (.inl ((hs p).mpr rfl)))).1
  refine ⟨upd G p (.lst vs), Ex.new gp, ⟨fun a o g => ?_, S2, q2.loc (Ex.new gp) fun _ _ => rfl, fun a s => ⟨?_, (z a ((u a).mpr (.inr s))).2⟩⟩, .lst upd_same (q.mono (Ex.new gp))⟩
  · by_cases r : a = p
    · subst r; rw [upd_same] at g; rw [e]; exact g
    · rw [upd_ne r] at g; exact ex a o g
  · rw [upd_ne (fun r => d a ((hs a).mpr r) s)]
    exact (z a ((u a).mpr (.inr s))).1

/-! ### slots -/
def Env (K : PySem.W.Frag) (G : Hp) (σ : L2.St) (es : List (Option DD)) : Prop := σ.length = es.length ∧ ∀ (i : Nat) (d : DD), es[i]? = some (some d) → ∃ v, σ[i]? = some (some v) ∧ Is K G v d
theorem Env.mono {G G' : Hp} {σ : L2.St} {es : List (Option DD)} (h : Env K G σ es) (e : Ex G G') : Env K G' σ es := ⟨h.1, fun i d q => let ⟨v, a, b⟩ := h.2 i d q; ⟨v, a, b.mono e⟩⟩
theorem Env.set {G : Hp} {σ : L2.St} {es : List (Option DD)} {v : V} {d : DD} (h : Env K G σ es) (j : Nat) (k : Is K G v d) : Env K G (σ.set j (some v)) (es.set j (some d)) := by
  refine ⟨by rw [List.length_set, List.length_set]; exact h.1, fun i d' q => ?_⟩
  by_cases e : j = i
  · subst e
    rw [List.getElem?_set_self' ] at q
    have hj : j < es.length := by
      cases z : es[j]? with
      | none => rw [z] at q; cases q
      | some _ => exact (List.getElem?_eq_some_iff.mp z).1
    rw [List.getElem?_eq_getElem hj] at q
    have q2 : d = d' := by
      have := Option.some.inj q
      exact Option.some.inj this
    subst q2
    exact ⟨v, by rw [List.getElem?_set_self (by rw [h.1]; exact hj)], k⟩
  · rw [List.getElem?_set_ne e] at q
    obtain ⟨w, a, b⟩ := h.2 i d' q
    exact ⟨w, by rw [List.getElem?_set_ne e]; exact a, b⟩
def wipeE (es : List (Option DD)) : List Nat → List (Option DD)
  | [] => es
  | v :: vs => (wipeE es vs).set v none
theorem wipeE_length (es : List (Option DD)) : ∀ vs, (wipeE es vs).length = es.length
  | [] => rfl
  | v :: vs => by unfold wipeE; rw [List.length_set, wipeE_length es vs]
theorem Env.unset {G : Hp} {σ : L2.St} {es : List (Option DD)} (h : Env K G σ es) (j : Nat) : Env K G (σ.set j none) (es.set j none) := by
  refine ⟨by rw [List.length_set, List.length_set]; exact h.1, fun i d' q => ?_⟩
  by_cases e : j = i
  · subst e
    rw [List.getElem?_set_self'] at q
    cases z : es[j]? with
    | none => rw [z] at q; cases q
    | some _ => rw [z] at q; cases q
  · rw [List.getElem?_set_ne e] at q
    obtain ⟨w, a, b⟩ := h.2 i d' q
    exact ⟨w, by rw [List.getElem?_set_ne e]; exact a, b⟩
theorem Env.wipe {G : Hp} {σ : L2.St} {es : List (Option DD)} (h : Env K G σ es) : ∀ vs, Env K G (L2.wipe σ vs) (wipeE es vs)
  | [] => h
  | v :: vs => (h.wipe vs).unset v
theorem wipe_set {j : Nat} {x : Option V} : ∀ {vs : List Nat} {σ : L2.St}, j ∈ vs → L2.wipe (σ.set j x) vs = L2.wipe σ vs
  | v :: vs, σ, h => by
    show (L2.wipe (σ.set j x) vs).set v none = (L2.wipe σ vs).set v none
    by_cases e : j ∈ vs
    · rw [wipe_set e]
    · have : j = v := by
        rcases List.mem_cons.mp h with h | h
        · exact h
        · exact absurd h e
      subst this
      rw [wipe_out e, List.set_set]
where wipe_out {j : Nat} {x : Option V} : ∀ {vs : List Nat} {σ : L2.St}, j ∉ vs → L2.wipe (σ.set j x) vs = (L2.wipe σ vs).set j x
  | [], _, _ => rfl
  | v :: vs, σ, h => by
    have h1 : j ≠ v := fun e => h (by rw [e]; exact List.mem_cons_self)
    have h2 : j ∉ vs := fun e => h (List.mem_cons_of_mem _ e)
    show (L2.wipe (σ.set j x) vs).set v none = ((L2.wipe σ vs).set v none).set j x
    rw [wipe_out h2, List.set_comm _ _ h1]
theorem wipe_wipe (σ : L2.St) (vs : List Nat) : L2.wipe (L2.wipe σ vs) vs = L2.wipe σ vs := by
  suffices h : ∀ us : List Nat, (∀ u ∈ us, u ∈ vs) → L2.wipe (L2.wipe σ us) vs = L2.wipe σ vs from h vs fun _ => id
  intro us
  induction us with
  | nil => intro _; rfl
  | cons u us ih =>
    intro h
    show L2.wipe ((L2.wipe σ us).set u none) vs = _
    rw [wipe_set (h u List.mem_cons_self)]
    exact ih fun x hx => h x (List.mem_cons_of_mem _ hx)
def startE (N : List Str) (ds : List DD) : List (Option DD) := ds.map some ++ List.replicate (N.length - ds.length) none
theorem Env.start {G : Hp} {N : List Str} {vs : List V} {ds : List DD} (h : IsAll K G vs ds) : Env K G (L2.start N vs) (startE N ds) := by
  have hl := h.length
  refine ⟨by unfold L2.start startE; simp [hl], fun i d q => ?_⟩
  unfold startE at q
  by_cases hi : i < ds.length
  · rw [List.getElem?_append_left (by simpa using hi), List.getElem?_map] at q
    cases e : ds[i]? with
    | none => rw [e] at q; cases q
    | some d' =>
      rw [e] at q
      have q' : d' = d := Option.some.inj (Option.some.inj q)
      subst q'
      obtain ⟨v, hv, k⟩ := h.get e
      refine ⟨v, ?_, k⟩
      unfold L2.start
      rw [List.getElem?_append_left (by simp [hl, hi]), List.getElem?_map, hv]
      rfl
  · rw [List.getElem?_append_right (by simpa using hi), List.getElem?_replicate] at q
    split at q <;> cases q

/-! ### judgements -/
def EE (K : PySem.W.Frag) (W : List As) (es : List (Option DD)) (te : TE) (d : DD) : Prop := ∀ ⦃σ : L2.St⦄ ⦃G H : Hp⦄, Stt W G H → Env K G σ es → ∀ Q : VK, (∀ v G2 H2, Ex G G2 → Stt W G2 H2 → Is K G2 v d → Q v H2) → te σ H Q
/-- a new list that nobody else has -/
def EL (K : PySem.W.Frag) (W : List As) (es : List (Option DD)) (te : TE) (ds : List DD) : Prop := ∀ ⦃σ : L2.St⦄ ⦃G H : Hp⦄, Stt W G H → Env K G σ es → ∀ Q : VK, (∀ p G2 H2, Ex G G2 → Stt (LC K p ds :: W) G2 H2 → Q (.ref p) H2) → te σ H Q
def ET (K : PySem.W.Frag) (W : List As) (es : List (Option DD)) (tt : TT) (b : Bool) : Prop := ∀ ⦃σ : L2.St⦄ ⦃G H : Hp⦄, Stt W G H → Env K G σ es → ∀ Q : Bool → Hp → Prop, (∀ G2 H2, Ex G G2 → Stt W G2 H2 → Q b H2) → tt σ H Q
def EA (K : PySem.W.Frag) (W : List As) (es : List (Option DD)) (ta : TA) (ds : List DD) : Prop := ∀ ⦃σ : L2.St⦄ ⦃G H : Hp⦄, Stt W G H → Env K G σ es → ∀ Q : List V → Hp → Prop, (∀ vs G2 H2, Ex G G2 → Stt W G2 H2 → IsAll K G2 vs ds → Q vs H2) → ta σ H Q
def EO (K : PySem.W.Frag) (W : List As) (es : List (Option DD)) (to : TO) (o : Option Int) : Prop := ∀ ⦃σ : L2.St⦄ ⦃G H : Hp⦄, Stt W G H → Env K G σ es → ∀ Q : Option Int → Hp → Prop, (∀ G2 H2, Ex G G2 → Stt W G2 H2 → Q o H2) → to σ H Q
def ROp (K : PySem.W.Frag) (W : List As) (r : R2) (d1 d2 d : DD) : Prop := ∀ ⦃x y : V⦄ ⦃G H : Hp⦄, Stt W G H → Is K G x d1 → Is K G y d2 → ∀ Q : VK, (∀ v G2 H2, Ex G G2 → Stt W G2 H2 → Is K G2 v d → Q v H2) → r x y H Q
def RCb (K : PySem.W.Frag) (W : List As) (r : List V → Hp → VK → Prop) (ds : List DD) (d : DD) : Prop := ∀ ⦃vs : List V⦄ ⦃G H : Hp⦄, Stt W G H → IsAll K G vs ds → ∀ Q : VK, (∀ v G2 H2, Ex G G2 → Stt W G2 H2 → Is K G2 v d → Q v H2) → r vs H Q
def RCl (K : PySem.W.Frag) (W : List As) (r : List V → Hp → VK → Prop) (ds : List DD) (xs : List DD) : Prop := ∀ ⦃vs : List V⦄ ⦃G H : Hp⦄, Stt W G H → IsAll K G vs ds → ∀ Q : VK, (∀ p G2 H2, Ex G G2 → Stt (LC K p xs :: W) G2 H2 → Q (.ref p) H2) → r vs H Q
def SJ (K : PySem.W.Frag) (W : List As) (es : List (Option DD)) (k : L2.St → Hp → Prop) : Prop := ∀ ⦃σ : L2.St⦄ ⦃G H : Hp⦄, Stt W G H → Env K G σ es → k σ H
def Rt (K : PySem.W.Frag) (W : List As) (rt : VK) (d : DD) : Prop := ∀ ⦃v : V⦄ ⦃G H : Hp⦄, Stt W G H → Is K G v d → rt v H
theorem Rt.le {W W' : List As} {rt : VK} {d : DD} (h : Rt K W rt d) (l : Le W' W) : Rt K W' rt d := fun _ _ _ s i => h (l s) i
theorem Rt.drop {W : List As} {A : As} {rt : VK} {d : DD} (h : Rt K W rt d) : Rt K (A :: W) rt d := h.le (Le.cons W A)
inductive Sc : V → DD → Prop
  | non : Sc .non .non
  | bl (b : Bool) : Sc (.bl b) (.bl b)
  | int (i : Int) : Sc (.int i) (.int i)
  | str (x : Str) : Sc (.str x) (.str x)
theorem Sc.is {v : V} {d : DD} {G : Hp} (h : Sc v d) : Is K G v d := by cases h <;> constructor
section
variable {W : List As} {es : List (Option DD)} {ta tb te tc tl : TE} {t u : TT} {d d1 d2 : DD} {r : R2} {i j : Int} {ds : List DD}
theorem ee_var {k : Nat} (h : es[k]? = some (some d)) : EE K W es (tVar k) d := fun σ G H S E Q q =>
  let ⟨v, a, b⟩ := E.2 k d h
  ⟨v, a, q v G H (Ex.refl G) S b⟩
theorem ee_c {v : V} (h : Sc v d) : EE K W es (tC v) d := fun σ G H S E Q q => q v G H (Ex.refl G) S h.is
theorem ee_op (ha : EE K W es ta d1) (hb : EE K W es tb d2) (hr : ROp K W r d1 d2 d) : EE K W es (tOp r ta tb) d := fun _ _ _ S E Q q =>
  ha S E _ fun x G2 H2 e2 S2 i2 => hb S2 (E.mono e2) _ fun y G3 H3 e3 S3 i3 => hr S3 (i2.mono e3) i3 Q fun v G4 H4 e4 S4 i4 => q v G4 H4 ((e2.trans e3).trans e4) S4 i4
theorem ro_I0 {g : Int → Int → V} (h : Sc (g i j) d) : ROp K W (rI0 g) (.int i) (.int j) d := fun x y G H S a b Q q => ⟨i, j, a.int_eq, b.int_eq, q _ G H (Ex.refl G) S h.is⟩
theorem ro_I {g : Int → Int → V} {C : Int → Int → Prop} (hc : C i j) (h : Sc (g i j) d) : ROp K W (rI C g) (.int i) (.int j) d := fun x y G H S a b Q q => ⟨i, j, a.int_eq, b.int_eq, hc, q _ G H (Ex.refl G) S h.is⟩
def scal2 : DD → DD → Bool
  | .int _, .int _ => true
  | .str _, .str _ => true
  | .bl _, .bl _ => true
  | _, _ => false
theorem ro_eqI : ROp K W rEq (.int i) (.int j) (.bl (decide (i = j))) := fun x y G H S a b Q q => by
  cases a; cases b
  refine ⟨rfl, q _ G H (Ex.refl G) S ?_⟩
  have e : decide (V.int i = V.int j) = decide (i = j) := decide_eq_decide.mpr ⟨fun h => by cases h; rfl, fun h => by rw [h]⟩
  rw [e]; exact .bl _
theorem ro_neI : ROp K W rNe (.int i) (.int j) (.bl (!decide (i = j))) := fun x y G H S a b Q q => by
  cases a; cases b
  refine ⟨rfl, q _ G H (Ex.refl G) S ?_⟩
  have e : decide (V.int i = V.int j) = decide (i = j) := decide_eq_decide.mpr ⟨fun h => by cases h; rfl, fun h => by rw [h]⟩
  rw [e]; exact .bl _
theorem ro_eqS {x y : Str} : ROp K W rEq (.str x) (.str y) (.bl (decide (x = y))) := fun _ _ G H S a b Q q => by
  cases a; cases b
  refine ⟨rfl, q _ G H (Ex.refl G) S ?_⟩
  have e : decide (V.str x = V.str y) = decide (x = y) := decide_eq_decide.mpr ⟨fun h => by cases h; rfl, fun h => by rw [h]⟩
  rw [e]; exact .bl _
theorem ro_neS {x y : Str} : ROp K W rNe (.str x) (.str y) (.bl (!decide (x = y))) := fun _ _ G H S a b Q q => by
  cases a; cases b
  refine ⟨rfl, q _ G H (Ex.refl G) S ?_⟩
  have e : decide (V.str x = V.str y) = decide (x = y) := decide_eq_decide.mpr ⟨fun h => by cases h; rfl, fun h => by rw [h]⟩
  rw [e]; exact .bl _
theorem atI_all {G : Hp} {vs : List V} (h : IsAll K G vs ds) (e : atI ds i = some d) : ∃ v, atI vs i = some v ∧ Is K G v d := by
  unfold atI at e ⊢
  rw [h.length]
  cases q : ixN ds.length i with
  | none => rw [q] at e; cases e
  | some k => rw [q] at e; exact h.get e
/-- data that is read as a list -/
inductive Lk : DD → List DD → Prop
  | lst (ds : List DD) : Lk (.lst ds) ds
  | sl (ds : List DD) : Lk (.sl ds) ds
theorem Lk.get {d0 : DD} {G : Hp} {v : V} (l : Lk d0 ds) (h : Is K G v d0) : ∃ a vs, v = .ref a ∧ SqL K G a vs ∧ IsAll K G vs ds := by
  cases l with
  | lst => cases h with | lst sq al => exact ⟨_, _, rfl, sq_of sq, al⟩
  | sl => cases h with | sl sq al => exact ⟨_, _, rfl, sq, al⟩
theorem ro_ixL (e : atI ds i = some d) : ROp K W (rIxL K) (.lst ds) (.int i) d := fun x y G H S a b Q q => by
  cases a with
  | lst sq0 al =>
    have sq := sq_of (K := K) sq0
    obtain ⟨v, hv, iv⟩ := atI_all al e
    exact ⟨_, _, i, v, rfl, b.int_eq, ex_l S.ex sq, hv, q v G H (Ex.refl G) S iv⟩
theorem ro_ixLk {d0 : DD} (l : Lk d0 ds) (e : atI ds i = some d) : ROp K W (rIxL K) d0 (.int i) d := fun x y G H S a b Q q => by
  obtain ⟨p, vs, rfl, sq, al⟩ := l.get a
  obtain ⟨v, hv, iv⟩ := atI_all al e
  exact ⟨_, _, i, v, rfl, b.int_eq, ex_l S.ex sq, hv, q v G H (Ex.refl G) S iv⟩
theorem ro_ixT (e : atI ds i = some d) : ROp K W (rIxT K) (.tup ds) (.int i) d := fun x y G H S a b Q q => by
  cases a with
  | tup sq al =>
    obtain ⟨v, hv, iv⟩ := atI_all al e
    exact ⟨_, _, i, v, rfl, b.int_eq, ex_t S.ex sq, hv, q v G H (Ex.refl G) S iv⟩
/-- an owned list, read -/
theorem ro_ixO {p : Addr} {k : Nat} (hw : W[k]? = some (LC K p ds)) (e : atI ds i = some d) : ROp K W (rIxL K) (.at (.ref p)) (.int i) d := fun x y G H S a b Q q => by
  obtain ⟨vs, hp, al, _⟩ := S.lcAt hw
  obtain ⟨v, hv, iv⟩ := atI_all al e
  exact ⟨p, vs, i, v, a.at_eq, b.int_eq, sq_of hp, hv, q v G H (Ex.refl G) S iv⟩
theorem ro_ixS {x : Str} {c : Nat} (hl : x.length ≤ 100000) (e : atI x.cps.toList i = some c) : ROp K W rIxS (.str x) (.int i) (.str ⟨#[c]⟩) := fun _ _ G H S a b Q q =>
  ⟨x, i, c, a.str_eq, b.int_eq, sz_of hl, e, q _ G H (Ex.refl G) S (.str _)⟩
theorem ea_nil : EA K W es tNil [] := fun σ G H S E Q q => q [] G H (Ex.refl G) S .nil
theorem ea_cons {tr : TA} (h : EE K W es te d) (hr : EA K W es tr ds) : EA K W es (tCons te tr) (d :: ds) := fun _ _ _ S E Q q =>
  h S E _ fun v G2 H2 e2 S2 i2 => hr S2 (E.mono e2) _ fun vs G3 H3 e3 S3 i3 => q (v :: vs) G3 H3 (e2.trans e3) S3 (.cons (i2.mono e3) i3)
theorem ee_tup {ta : TA} (h : EA K W es ta ds) (hl : ds.length ≤ 1000) : EE K W es (tTup ta) (.tup ds) := fun _ _ _ S E Q q =>
  h S E _ fun vs G2 H2 e2 S2 i2 => ⟨sz_of (by rw [i2.length]; omega), fun p hp =>
    have gp := fresh_back S2.ex hp
    q (.ref p) _ _ (e2.trans (Ex.new gp)) (S2.new hp) (.tup (st_of upd_same) (i2.mono (Ex.new gp)))⟩
theorem el_lst {ta : TA} (h : EA K W es ta ds) (hl : ds.length ≤ 1000) : EL K W es (tLst ta) ds := fun _ _ _ S E Q q =>
  h S E _ fun vs G2 H2 e2 S2 i2 => ⟨sz_of (by rw [i2.length]; omega), fun p hp => q p G2 _ e2 (S2.lcNew hp i2)⟩
theorem ee_frz (h : EL K W es te ds) : EE K W es te (.lst ds) := fun _ _ _ S E Q q =>
  h S E Q fun p G2 H2 e2 S2 =>
    let ⟨G3, e3, S3, i3⟩ := S2.freeze
    q (.ref p) G3 H2 (e2.trans e3) S3 i3
theorem ee_lst {ta : TA} (h : EA K W es ta ds) (hl : ds.length ≤ 1000) : EE K W es (tLst ta) (.lst ds) := ee_frz (el_lst h hl)
theorem eo_none : EO K W es tNoPart none := fun σ G H S E Q q => q G H (Ex.refl G) S
theorem eo_some (h : EE K W es te (.int i)) : EO K W es (tPart te) (some i) := fun _ _ _ S E Q q => h S E _ fun v G2 H2 e2 S2 i2 => ⟨i, i2.int_eq, q G2 H2 e2 S2⟩
def cutD (xs : List DD) (lo hi : Option Int) : List DD := List.take (HT.sIx xs.length xs.length hi - HT.sIx xs.length 0 lo) (List.drop (HT.sIx xs.length 0 lo) xs)
theorem IsAll.cut {G : Hp} {vs : List V} (h : IsAll K G vs ds) (lo hi : Option Int) : IsAll K G (cutV vs lo hi) (cutD ds lo hi) := by
  unfold cutV cutD
  rw [h.length]
  exact (h.drop _).take _
theorem el_slice {to1 to2 : TO} {lo hi : Option Int} {d0 : DD} (l : Lk d0 ds) (h : EE K W es te d0) (h1 : EO K W es to1 lo) (h2 : EO K W es to2 hi) : EL K W es (tSl (rSlL K) te to1 to2) (cutD ds lo hi) := fun _ _ _ S E Q q =>
  h S E _ fun x G2 H2 e2 S2 i2 => h1 S2 (E.mono e2) _ fun G3 H3 e3 S3 => h2 S3 ((E.mono e2).mono e3) _ fun G4 H4 e4 S4 => by
    obtain ⟨p, vs, rfl, sq, al⟩ := l.get i2
    exact ⟨_, _, rfl, ex_l S4.ex (ex_l e4 (ex_l e3 sq)), fun p hp => q p G4 _ ((e2.trans e3).trans e4) (S4.lcNew hp (((al.mono e3).mono e4).cut lo hi))⟩
theorem el_sliceO {to1 to2 : TO} {lo hi : Option Int} {p : Addr} {k : Nat} (hw : W[k]? = some (LC K p ds)) (h : EE K W es te (.at (.ref p))) (h1 : EO K W es to1 lo) (h2 : EO K W es to2 hi) : EL K W es (tSl (rSlL K) te to1 to2) (cutD ds lo hi) := fun _ _ _ S E Q q =>
  h S E _ fun x G2 H2 e2 S2 i2 => h1 S2 (E.mono e2) _ fun G3 H3 e3 S3 => h2 S3 ((E.mono e2).mono e3) _ fun G4 H4 e4 S4 => by
    obtain ⟨vs, hp, al, _⟩ := S4.lcAt hw
    have ex := i2.at_eq
    exact ⟨p, vs, ex, sq_of hp, fun l hl => q l G4 _ ((e2.trans e3).trans e4) (S4.lcNew hl (al.cut lo hi))⟩
theorem ee_cb {r : List V → Hp → VK → Prop} {ta : TA} (h : EA K W es ta ds) (hr : RCb K W r ds d) : EE K W es (tCB r ta) d := fun _ _ _ S E Q q =>
  h S E _ fun vs G2 H2 e2 S2 i2 => hr S2 i2 Q fun v G3 H3 e3 S3 i3 => q v G3 H3 (e2.trans e3) S3 i3
theorem el_cb {r : List V → Hp → VK → Prop} {ta : TA} {xs : List DD} (h : EA K W es ta ds) (hr : RCl K W r ds xs) : EL K W es (tCB r ta) xs := fun _ _ _ S E Q q =>
  h S E _ fun vs G2 H2 e2 S2 i2 => hr S2 i2 Q fun p G3 H3 e3 S3 => q p G3 H3 (e2.trans e3) S3
theorem isAll1 {G : Hp} {vs : List V} (h : IsAll K G vs [d]) : ∃ v, vs = [v] ∧ Is K G v d := by
  cases h with
  | cons a b => cases b; exact ⟨_, rfl, a⟩
theorem isAll2 {G : Hp} {vs : List V} (h : IsAll K G vs [d1, d2]) : ∃ v w, vs = [v, w] ∧ Is K G v d1 ∧ Is K G w d2 := by
  cases h with
  | cons a b =>
    cases b with
    | cons b c => cases c; exact ⟨_, _, rfl, a, b⟩
theorem rc_len {d0 : DD} (l : Lk d0 ds) : RCb K W (rLenS K) [d0] (.int ds.length) := fun vs G H S a Q q => by
  obtain ⟨v, rfl, i⟩ := isAll1 a
  obtain ⟨p, vs, rfl, sq, al⟩ := l.get i
  exact ⟨_, _, rfl, .inl (ex_l S.ex sq), q _ G H (Ex.refl G) S (by rw [al.length]; exact .int _)⟩
theorem rc_lenT : RCb K W (rLenS K) [.tup ds] (.int ds.length) := fun vs G H S a Q q => by
  obtain ⟨v, rfl, i⟩ := isAll1 a
  cases i with
  | tup sq al => exact ⟨_, _, rfl, .inr (ex_t S.ex sq), q _ G H (Ex.refl G) S (by rw [al.length]; exact .int _)⟩
theorem rc_lenO {p : Addr} {k : Nat} (hw : W[k]? = some (LC K p ds)) : RCb K W (rLenS K) [.at (.ref p)] (.int ds.length) := fun vs G H S a Q q => by
  obtain ⟨v, rfl, i⟩ := isAll1 a
  obtain ⟨vs, hp, al, _⟩ := S.lcAt hw
  exact ⟨p, vs, by rw [i.at_eq], .inl (sq_of hp), q _ G H (Ex.refl G) S (by rw [al.length]; exact .int _)⟩
theorem rc_sum {ns : List Int} : RCb K W (rSum K) [.lst (ns.map DD.int)] (.int ns.sum) := fun vs G H S a Q q => by
  obtain ⟨v, rfl, i⟩ := isAll1 a
  cases i with
  | lst sq0 al =>
    have sq := sq_of (K := K) sq0
    have e := al.ints
    subst e
    exact ⟨_, ns, rfl, ex_l S.ex sq, q _ G H (Ex.refl G) S (.int _)⟩
def rMax2' : List V → Hp → VK → Prop := fun xs H Q => ∃ i j, xs = [.int i, .int j] ∧ Q (.int (if j > i then j else i)) H
def rMin2' : List V → Hp → VK → Prop := fun xs H Q => ∃ i j, xs = [.int i, .int j] ∧ Q (.int (if j < i then j else i)) H
theorem rc_max2 : RCb K W rMax2' [.int i, .int j] (.int (max i j)) := fun vs G H S a Q q => by
  obtain ⟨v, w, rfl, i1, i2⟩ := isAll2 a
  refine ⟨i, j, by rw [i1.int_eq, i2.int_eq], ?_⟩
  have e : (if j > i then j else i) = max i j := by split <;> omega
  rw [e]; exact q _ G H (Ex.refl G) S (.int _)
theorem rc_min2 : RCb K W rMin2' [.int i, .int j] (.int (min i j)) := fun vs G H S a Q q => by
  obtain ⟨v, w, rfl, i1, i2⟩ := isAll2 a
  refine ⟨i, j, by rw [i1.int_eq, i2.int_eq], ?_⟩
  have e : (if j < i then j else i) = min i j := by split <;> omega
  rw [e]; exact q _ G H (Ex.refl G) S (.int _)
def rInt1 : List V → Hp → VK → Prop := fun xs H Q => (∃ i, xs = [.int i] ∧ Q (.int i) H) ∨ ∃ k, xs = [.bl k] ∧ Q (.int (if k then 1 else 0)) H
theorem rc_int_b {b : Bool} : RCb K W rInt1 [.bl b] (.int (if b then 1 else 0)) := fun vs G H S a Q q => by
  obtain ⟨v, rfl, i1⟩ := isAll1 a
  exact .inr ⟨b, by rw [i1.bl_eq], q _ G H (Ex.refl G) S (.int _)⟩
theorem rl_list {d0 : DD} (l : Lk d0 ds) : RCl K W (rListS K) [d0] ds := fun vs G H S a Q q => by
  obtain ⟨v, rfl, i⟩ := isAll1 a
  obtain ⟨p, vs, rfl, sq, al⟩ := l.get i
  exact ⟨_, _, rfl, .inl (ex_l S.ex sq), fun l hl => q l G _ (Ex.refl G) (S.lcNew hl al)⟩
theorem rl_listO {p : Addr} {k : Nat} (hw : W[k]? = some (LC K p ds)) : RCl K W (rListS K) [.at (.ref p)] ds := fun vs G H S a Q q => by
  obtain ⟨v, rfl, i⟩ := isAll1 a
  obtain ⟨vs, hp, al, _⟩ := S.lcAt hw
  exact ⟨p, vs, by rw [i.at_eq], .inl (sq_of hp), fun l hl => q l G _ (Ex.refl G) (S.lcNew hl al)⟩
def RLp (K : PySem.W.Frag) (W : List As) (r : R2) (d1 d2 : DD) (xs : List DD) : Prop := ∀ ⦃x y : V⦄ ⦃G H : Hp⦄, Stt W G H → Is K G x d1 → Is K G y d2 → ∀ Q : VK, (∀ p G2 H2, Ex G G2 → Stt (LC K p xs :: W) G2 H2 → Q (.ref p) H2) → r x y H Q
theorem el_op {xs : List DD} (ha : EE K W es ta d1) (hb : EE K W es tb d2) (hr : RLp K W r d1 d2 xs) : EL K W es (tOp r ta tb) xs := fun _ _ _ S E Q q =>
  ha S E _ fun x G2 H2 e2 S2 i2 => hb S2 (E.mono e2) _ fun y G3 H3 e3 S3 i3 => hr S3 (i2.mono e3) i3 Q fun p G4 H4 e4 S4 => q p G4 H4 ((e2.trans e3).trans e4) S4
theorem rl_cat {xs ys : List DD} (h : xs.length + ys.length ≤ 100000) : RLp K W rCat (.lst xs) (.lst ys) (xs ++ ys) := fun x y G H S a b Q q => by
  cases a with
  | lst s1 a1 =>
    cases b with
    | lst s2 a2 => exact ⟨_, _, _, _, rfl, rfl, S.ex _ _ s1, S.ex _ _ s2, sz_of (by rw [a1.length, a2.length]; exact h), fun p hp => q p G _ (Ex.refl G) (S.lcNew hp (a1.append a2))⟩
theorem rl_rep {xs : List DD} {k : Int} (h : xs.length * k.toNat ≤ 100000 ∧ -100000 ≤ k ∧ k ≤ 100000) : RLp K W rRep (.lst xs) (.int k) (List.replicate k.toNat xs).flatten := fun x y G H S a b Q q => by
  cases a with
  | lst s1 a1 =>
    refine ⟨_, k, _, rfl, b.int_eq, S.ex _ _ s1, by omega, by omega, sz_of (by rw [a1.length]; exact h.1), fun p hp => q p G _ (Ex.refl G) (S.lcNew hp ?_)⟩
    generalize k.toNat = n
    induction n with
    | zero => exact .nil
    | succ n ih => rw [List.replicate_succ, List.replicate_succ, List.flatten_cons, List.flatten_cons]; exact a1.append ih
/-- the class of a value -/
inductive TyD : DD → String → Prop
  | non : TyD .non "NoneType"
  | bl (b : Bool) : TyD (.bl b) "bool"
  | int (i : Int) : TyD (.int i) "int"
  | str (x : Str) : TyD (.str x) "str"
  | lst (ds : List DD) : TyD (.lst ds) "list"
  | tup (ds : List DD) : TyD (.tup ds) "tuple"
theorem TyD.is {G H : Hp} {v : V} {T : String} (t : TyD d T) (i : Is K G v d) (e : Ex G H) : TyX K H v (.type T) := by
  cases t with
  | non => cases i; exact .base .non
  | bl b => cases i; exact .base (.bl b)
  | int b => cases i; exact .base (.int b)
  | str b => cases i; exact .base (.str b)
  | lst ds => cases i with | lst sq al => exact .base (.lst (e _ _ sq))
  | tup ds =>
    cases i with
    | tup sq al =>
      rcases ex_t e sq with (h | ⟨o, h⟩) | ⟨o, its, h⟩
      · exact .base (.tup h)
      · exact .fTuple h
      · obtain ⟨n, h1, h2, _⟩ := h
        exact .kTuple h1 h2
theorem rc_isi {T u : String} {b : Bool} (t : TyD d T) (e : kitB T u = some b) : RCb K W (rIsi K) [d, .at (.ty u)] (.bl b) := fun vs G H S a Q q => by
  obtain ⟨v, w, rfl, i1, i2⟩ := isAll2 a
  exact ⟨v, .ty u, .type T, .type u, b, by rw [i2.at_eq], .ty u, t.is i1 S.ex, kit_ty e, q _ G H (Ex.refl G) S (.bl _)⟩
theorem ee_at {v : V} : EE K W es (tC v) (.at v) := fun σ G H S E Q q => q v G H (Ex.refl G) S (.at v)
/-! equality of data -/
mutual
def pyD : DD → PyData
  | .non => .none
  | .bl b => .bool b
  | .int i => .int i
  | .str x => .str x
  | .lst ds => .list (pyDs ds)
  | .sl ds => .list (pyDs ds)
  | .tup ds => .tuple (pyDs ds)
  | .dt _ _ => .none
  | .at _ => .none
def pyDs : List DD → List PyData
  | [] => []
  | d :: ds => pyD d :: pyDs ds
end
mutual
def okD : DD → Bool
  | .lst ds | .sl ds | .tup ds => okDs ds
  | .str x => PyData.canLay0 (.str x)
  | .dt _ _ | .at _ => false
  | .non | .bl _ | .int _ => true
def okDs : List DD → Bool
  | [] => true
  | d :: ds => okD d && okDs ds
end
mutual
theorem Is.dp {G : Hp} : ∀ {v : V} {d : DD}, Is K G v d → okD d = true → Dp K G v (pyD d)
  | _, _, .non, _ => .non
  | _, _, .bl b, _ => .bl b
  | _, _, .int i, _ => .int i
  | _, _, .str x, _ => .str x
  | _, _, .lst h hs, o => .lst (sq_of h) (IsAll.dp hs o)
  | _, _, .sl h hs, o => .lst h (IsAll.dp hs o)
  | _, _, .tup h hs, o => .tup h (IsAll.dp hs o)
  | _, _, .dt _ _ _, o => by simp [okD] at o
  | _, _, .at _, o => by simp [okD] at o
theorem IsAll.dp {G : Hp} : ∀ {vs : List V} {ds : List DD}, IsAll K G vs ds → okDs ds = true → DpAll K G vs (pyDs ds)
  | _, _, .nil, _ => .nil
  | _, _, .cons h hs, o => by
    have o' := Bool.and_eq_true_iff.mp o
    exact .cons (Is.dp h o'.1) (IsAll.dp hs o'.2)
end
mutual
theorem Dp.mono {G G' : Hp} (e : Ex G G') : ∀ {v : V} {d : PyData}, Dp K G v d → Dp K G' v d
  | _, _, .non => .non
  | _, _, .bl b => .bl b
  | _, _, .int i => .int i
  | _, _, .str x => .str x
  | _, _, .lst h hs => .lst (ex_l e h) (DpAll.mono e hs)
  | _, _, .tup h hs => .tup (ex_t e h) (DpAll.mono e hs)
theorem DpAll.mono {G G' : Hp} (e : Ex G G') : ∀ {vs : List V} {ds : List PyData}, DpAll K G vs ds → DpAll K G' vs ds
  | _, _, .nil => .nil
  | _, _, .cons h hs => .cons (Dp.mono e h) (DpAll.mono e hs)
end
theorem ro_eqD {b : Bool} (h1 : okD d1 = true) (h2 : okD d2 = true) (s1 : SeqAt.shaped (pyD d1) = true) (s2 : SeqAt.shaped (pyD d2) = true) (hb : PyData.eqv (pyD d1) (pyD d2) = b) : ROp K W (rEqD K) d1 d2 (.bl b) := fun x y G H S a c Q q =>
  ⟨_, _, Dp.mono S.ex (a.dp h1), Dp.mono S.ex (c.dp h2), s1, s2, q _ G H (Ex.refl G) S (by rw [hb]; exact .bl _)⟩
theorem ro_neD {b : Bool} (h1 : okD d1 = true) (h2 : okD d2 = true) (s1 : SeqAt.shaped (pyD d1) = true) (s2 : SeqAt.shaped (pyD d2) = true) (hb : (!PyData.eqv (pyD d1) (pyD d2)) = b) : ROp K W (rNeD K) d1 d2 (.bl b) := fun x y G H S a c Q q =>
  ⟨_, _, Dp.mono S.ex (a.dp h1), Dp.mono S.ex (c.dp h2), s1, s2, q _ G H (Ex.refl G) S (by rw [hb]; exact .bl _)⟩
theorem ro_inD {b : Bool} (h1 : okD d1 = true) (h2 : okDs ds = true) (s1 : SeqAt.shaped (pyD d1) = true) (s2 : SeqAt.shaped (.list (pyDs ds)) = true) (hb : ((pyDs ds).any fun z => PyData.eqv z (pyD d1)) = b) : ROp K W (rInD K) d1 (.lst ds) (.bl b) := fun x y G H S a c Q q =>
  ⟨_, _, Dp.mono S.ex (a.dp h1), Dp.mono S.ex (Is.dp (d := .lst ds) c h2), s1, s2, q _ G H (Ex.refl G) S (by rw [hb]; exact .bl _)⟩
theorem ro_niD {b : Bool} (h1 : okD d1 = true) (h2 : okDs ds = true) (s1 : SeqAt.shaped (pyD d1) = true) (s2 : SeqAt.shaped (.list (pyDs ds)) = true) (hb : (!(pyDs ds).any fun z => PyData.eqv z (pyD d1)) = b) : ROp K W (rNotInD K) d1 (.lst ds) (.bl b) := fun x y G H S a c Q q =>
  ⟨_, _, Dp.mono S.ex (a.dp h1), Dp.mono S.ex (Is.dp (d := .lst ds) c h2), s1, s2, q _ G H (Ex.refl G) S (by rw [hb]; exact .bl _)⟩
def rIsN' : R2 := fun x y H Q => y = .non ∧ Q (.bl (decide (x = .non))) H
def rNotN' : R2 := fun x y H Q => y = .non ∧ Q (.bl (!decide (x = .non))) H
theorem op_isN' {X : Cx} : OpR X (compareOp .Is) rIsN' := op_isN
theorem op_notN' {X : Cx} : OpR X (compareOp .IsNot) rNotN' := op_notN
def isNon : DD → Bool
  | .non => true
  | _ => false
theorem Is.non_iff {G : Hp} {v : V} (i : Is K G v d) (h : ∀ v, d ≠ .at v) : decide (v = V.non) = isNon d := by
  cases i <;> first | rfl | exact absurd rfl (h _)
theorem ro_isN (h : ∀ v, d ≠ .at v) : ROp K W rIsN' d .non (.bl (isNon d)) := fun x y G H S a c Q q => ⟨c.non_eq, by rw [a.non_iff h]; exact q _ G H (Ex.refl G) S (.bl _)⟩
theorem ro_notN (h : ∀ v, d ≠ .at v) : ROp K W rNotN' d .non (.bl (!isNon d)) := fun x y G H S a c Q q => ⟨c.non_eq, by rw [a.non_iff h]; exact q _ G H (Ex.refl G) S (.bl _)⟩
/-! tests -/
theorem et_test {b : Bool} (h : EE K W es te (.bl b)) : ET K W es (tTest te) b := fun _ _ _ S E Q q => h S E _ fun v G2 H2 e2 S2 i2 => ⟨b, i2.bl_eq, q G2 H2 e2 S2⟩
theorem et_B {b : Bool} (h : EE K W es te (.bl b)) : ET K W es (tB te) b := fun _ _ _ S E Q q => h S E _ fun v G2 H2 e2 S2 i2 => ⟨b, i2.bl_eq, q G2 H2 e2 S2⟩
theorem et_and {a b : Bool} (h1 : ET K W es t a) (h2 : a = true → ET K W es u b) : ET K W es (tAnd t u) (a && b) := fun _ _ _ S E Q q => h1 S E _ fun G2 H2 e2 S2 => by
  cases a with
  | true =>
    show u _ H2 Q
    exact h2 rfl S2 (E.mono e2) Q fun G3 H3 e3 S3 => q G3 H3 (e2.trans e3) S3
  | false =>
    show Q false H2
    exact q G2 H2 e2 S2
theorem et_or {a b : Bool} (h1 : ET K W es t a) (h2 : a = false → ET K W es u b) : ET K W es (tOr t u) (a || b) := fun _ _ _ S E Q q => h1 S E _ fun G2 H2 e2 S2 => by
  cases a with
  | true =>
    show Q true H2
    exact q G2 H2 e2 S2
  | false =>
    show u _ H2 Q
    exact h2 rfl S2 (E.mono e2) Q fun G3 H3 e3 S3 => q G3 H3 (e2.trans e3) S3
theorem et_not {a : Bool} (h1 : ET K W es t a) : ET K W es (tNot t) (!a) := fun _ _ _ S E Q q => h1 S E _ fun G2 H2 e2 S2 => q G2 H2 e2 S2
theorem et_is {a b : Bool} (h : ET K W es t a) (e : a = b) : ET K W es t b := by rw [← e]; exact h
theorem ee_is (h : EE K W es te d1) (e : d1 = d2) : EE K W es te d2 := by rw [← e]; exact h
theorem ee_andV {a b : Bool} (h1 : EE K W es ta (.bl a)) (h2 : a = true → EE K W es tb (.bl b)) : EE K W es (tAndV ta tb) (.bl (a && b)) := fun _ _ _ S E Q q => h1 S E _ fun v G2 H2 e2 S2 i2 => ⟨a, i2.bl_eq, by
  cases a with
  | true =>
    show tb _ H2 Q
    exact h2 rfl S2 (E.mono e2) Q fun v G3 H3 e3 S3 i3 => q v G3 H3 (e2.trans e3) S3 i3
  | false =>
    show Q (.bl false) H2
    exact q _ G2 H2 e2 S2 (.bl _)⟩
theorem ee_orV {a b : Bool} (h1 : EE K W es ta (.bl a)) (h2 : a = false → EE K W es tb (.bl b)) : EE K W es (tOrV ta tb) (.bl (a || b)) := fun _ _ _ S E Q q => h1 S E _ fun v G2 H2 e2 S2 i2 => ⟨a, i2.bl_eq, by
  cases a with
  | true =>
    show Q (.bl true) H2
    exact q _ G2 H2 e2 S2 (.bl _)
  | false =>
    show tb _ H2 Q
    exact h2 rfl S2 (E.mono e2) Q fun v G3 H3 e3 S3 i3 => q v G3 H3 (e2.trans e3) S3 i3⟩
theorem ee_notV {a : Bool} (h1 : EE K W es ta (.bl a)) : EE K W es (tNotV ta) (.bl (!a)) := fun _ _ _ S E Q q => h1 S E _ fun v G2 H2 e2 S2 i2 => ⟨a, i2.bl_eq, q _ G2 H2 e2 S2 (.bl _)⟩
theorem ee_if {b : Bool} (h : ET K W es t b) (h1 : b = true → EE K W es ta d) (h2 : b = false → EE K W es tb d) : EE K W es (tIf t ta tb) d := fun _ _ _ S E Q q => h S E _ fun G2 H2 e2 S2 => by
  cases b with
  | true =>
    show ta _ H2 Q
    exact h1 rfl S2 (E.mono e2) Q fun v G3 H3 e3 S3 i3 => q v G3 H3 (e2.trans e3) S3 i3
  | false =>
    show tb _ H2 Q
    exact h2 rfl S2 (E.mono e2) Q fun v G3 H3 e3 S3 i3 => q v G3 H3 (e2.trans e3) S3 i3
/-- a < b < c -/
theorem ee_chain {r' : R2} {a b : Bool} {d3 : DD} (ha : EE K W es ta d1) (hb : EE K W es tb d2) (h1 : ROp K W r d1 d2 (.bl a)) (hc : a = true → EE K W es tc d3) (h2 : a = true → ROp K W r' d2 d3 (.bl b)) : EE K W es (tChain r r' ta tb tc) (.bl (a && b)) := fun _ _ _ S E Q q =>
  ha S E _ fun x G2 H2 e2 S2 i2 => hb S2 (E.mono e2) _ fun y G3 H3 e3 S3 i3 => h1 S3 (i2.mono e3) i3 _ fun z G4 H4 e4 S4 i4 => ⟨a, i4.bl_eq, by
    cases a with
    | true =>
      show tc _ H4 _
      exact hc rfl S4 (((E.mono e2).mono e3).mono e4) _ fun w G5 H5 e5 S5 i5 => h2 rfl S5 ((i3.mono e4).mono e5) i5 Q fun v G6 H6 e6 S6 i6 => q v G6 H6 ((((e2.trans e3).trans e4).trans e5).trans e6) S6 i6
    | false =>
      show Q (.bl false) H4
      exact q _ G4 H4 ((e2.trans e3).trans e4) S4 (.bl _)⟩
/-! calls of own defs -/
def spP (K : PySem.W.Frag) (R : List DD → DD → Prop) : Sp := fun vs H Q _ => ∃ W G ds d, Stt W G H ∧ IsAll K G vs ds ∧ R ds d ∧ ∀ v G2 H2, Ex G G2 → Stt W G2 H2 → Is K G2 v d → Q v H2
theorem ee_call {R : List DD → DD → Prop} {E0 : XK} {ta : TA} (h : EA K W es ta ds) (hr : R ds d) : EE K W es (tCall (spP K R) [] E0 ta) d := fun _ _ _ S E Q q =>
  h S E _ fun vs G2 H2 e2 S2 i2 => by
    show spP K R (vs ++ []) H2 Q E0
    rw [List.append_nil]
    exact ⟨W, G2, ds, d, S2, i2, hr, fun v G3 H3 e3 S3 i3 => q v G3 H3 (e2.trans e3) S3 i3⟩
def spL (K : PySem.W.Frag) (R : List DD → List DD → Prop) : Sp := fun vs H Q _ => ∃ W G ds xs, Stt W G H ∧ IsAll K G vs ds ∧ R ds xs ∧ ∀ p G2 H2, Ex G G2 → Stt (LC K p xs :: W) G2 H2 → Q (.ref p) H2
theorem el_call {R : List DD → List DD → Prop} {E0 : XK} {ta : TA} {xs : List DD} (h : EA K W es ta ds) (hr : R ds xs) : EL K W es (tCall (spL K R) [] E0 ta) xs := fun _ _ _ S E Q q =>
  h S E _ fun vs G2 H2 e2 S2 i2 => by
    show spL K R (vs ++ []) H2 Q E0
    rw [List.append_nil]
    exact ⟨W, G2, ds, xs, S2, i2, hr, fun p G3 H3 e3 S3 => q p G3 H3 (e2.trans e3) S3⟩
end
def spX (K : PySem.W.Frag) (R : List DD → DD → Prop) (RX : List DD → Value → Prop) : Sp := fun vs H Q E => ∃ W G ds, Stt W G H ∧ IsAll K G vs ds ∧ ((∃ d, R ds d ∧ ∀ v G2 H2, Ex G G2 → Stt W G2 H2 → Is K G2 v d → Q v H2) ∨ ∃ cls, RX ds cls ∧ ∀ G2 H2, Ex G G2 → Stt W G2 H2 → E cls none H2)
/-! ### targets -/
def GJ (K : PySem.W.Frag) (g : TG) (d : DD) (es es' : List (Option DD)) (js : List Nat) : Prop := ∀ ⦃σ : L2.St⦄ ⦃G H : Hp⦄ ⦃v : V⦄, Ex G H → Is K G v d → Env K G σ es → ∀ Q : L2.St → Hp → Prop, (∀ σ', Env K G σ' es' → (∀ vs : List Nat, (∀ j ∈ js, j ∈ vs) → L2.wipe σ' vs = L2.wipe σ vs) → Q σ' H) → g v σ H Q
theorem gj_name {d : DD} {es : List (Option DD)} {j : Nat} : GJ K (gName j) d es (es.set j (some d)) [j] := fun σ G H v _ i E Q q => q _ (E.set j i) fun vs h => wipe_set (h j (by simp))
def GsJ (K : PySem.W.Frag) (g : TGs) (ds : List DD) (es es' : List (Option DD)) (js : List Nat) : Prop := ∀ ⦃σ : L2.St⦄ ⦃G H : Hp⦄ ⦃vs : List V⦄, Ex G H → IsAll K G vs ds → Env K G σ es → ∀ Q : L2.St → Hp → Prop, (∀ σ', Env K G σ' es' → (∀ vs : List Nat, (∀ j ∈ js, j ∈ vs) → L2.wipe σ' vs = L2.wipe σ vs) → Q σ' H) → g vs σ H Q
theorem gsj_nil {es : List (Option DD)} : GsJ K gNil [] es es [] := fun σ G H vs _ i E Q q => by
  cases i
  exact ⟨rfl, q σ E fun _ _ => rfl⟩
theorem gsj_cons {g : TG} {gs : TGs} {d : DD} {ds : List DD} {es es1 es2 : List (Option DD)} {js ks : List Nat} (h : GJ K g d es es1 js) (hs : GsJ K gs ds es1 es2 ks) : GsJ K (gCons g gs) (d :: ds) es es2 (js ++ ks) := fun σ G H vs X i E Q q => by
  cases i with
  | cons a b =>
    exact ⟨_, _, rfl, h X a E _ fun σ1 E1 w1 => hs X b E1 _ fun σ2 E2 w2 => q σ2 E2 fun vs k => (w2 vs fun j hj => k j (List.mem_append_right _ hj)).trans (w1 vs fun j hj => k j (List.mem_append_left _ hj))⟩
theorem gj_tup {gs : TGs} {ds : List DD} {es es1 : List (Option DD)} {js : List Nat} {n : Nat} (hs : GsJ K gs ds es es1 js) (hn : ds.length = n) : GJ K (gTup K n gs) (.tup ds) es es1 js := fun σ G H v X i E Q q => by
  cases i with
  | tup sq al => exact ⟨_, _, rfl, ex_t X sq, by rw [al.length]; exact hn, hs X al E Q q⟩
theorem gj_lst {gs : TGs} {ds : List DD} {es es1 : List (Option DD)} {js : List Nat} {n : Nat} (hs : GsJ K gs ds es es1 js) (hn : ds.length = n) : GJ K (gLst K n gs) (.lst ds) es es1 js := fun σ G H v X i E Q q => by
  cases i with
  | lst sq al => exact ⟨_, _, rfl, ex_l X (sq_of sq), by rw [al.length]; exact hn, hs X al E Q q⟩
end
end Z

set_option Elab.async false
set_option linter.all false
set_option maxRecDepth 100000
set_option maxHeartbeats 4000000
namespace Z
open PySem PySem.Spec PyProof.Rows L2 Evl
section
variable {K : PySem.W.Frag} {W Wf Wt : List As} {es : List (Option DD)} {ta tb te tl to : TE} {t : TT} {tu tw u : TS} {D : Ends} {d : DD} {ds : List DD} {b : Bool} {g : TG}
/-! ### statements -/
theorem sj_seq {t u : TS} (h : SJ K W es (t { D with nx := u D })) : SJ K W es (tSeq t u D) := h
theorem sj_next (h : SJ K W es D.nx) : SJ K W es (tNext D) := h
theorem sj_brk (h : SJ K W es D.bk) : SJ K W es (tBreak D) := h
theorem sj_cont (h : SJ K W es D.ct) : SJ K W es (tCont D) := h
theorem sj_asgG {es' : List (Option DD)} {js : List Nat} (h : EE K W es te d) (hg : GJ K g d es es' js) (k : SJ K W es' D.nx) : SJ K W es (tAsg te g D) := fun _ _ _ S E =>
  h S E _ fun v G2 H2 e2 S2 i2 => hg S2.ex i2 (E.mono e2) _ fun σ' E' _ => k S2 E'
theorem sj_asg {i : Nat} (h : EE K W es te d) (k : SJ K W (es.set i (some d)) D.nx) : SJ K W es (tAsg te (gName i) D) := fun _ _ _ S E =>
  h S E _ fun v G2 H2 e2 S2 i2 => k S2 ((E.mono e2).set i i2)
theorem sj_asgL {i : Nat} (h : EL K W es te ds) (k : ∀ p, SJ K (LC K p ds :: W) (es.set i (some (.at (.ref p)))) D.nx) : SJ K W es (tAsg te (gName i) D) := fun _ _ _ S E =>
  h S E _ fun p G2 H2 e2 S2 => k p S2 ((E.mono e2).set i (.at _))
theorem sj_if (h : ET K W es t b) (h1 : b = true → SJ K W es (tu D)) (h2 : b = false → SJ K W es (tw D)) : SJ K W es (tIfS t tu tw D) := fun _ _ _ S E =>
  h S E _ fun G2 H2 e2 S2 => by
    cases b with
    | true =>
      show tu D _ H2
      exact h1 rfl S2 (E.mono e2)
    | false =>
      show tw D _ H2
      exact h2 rfl S2 (E.mono e2)
/-- an if that only stores, told by what stands behind it -/
theorem sj_ifAsg {i : Nat} {d1 : DD} (h : ET K W es t b) (h1 : b = true → EE K W es te d1) (h2 : b = false → es[i]? = some (some d1)) (k : SJ K W (es.set i (some d1)) D.nx) : SJ K W es (tIfS t (tAsg te (gName i)) tNext D) :=
  sj_if h (fun e => sj_asg (h1 e) k) fun e => sj_next (by
    have : es.set i (some d1) = es := by
      have q := h2 e
      obtain ⟨hi, hv⟩ := List.getElem?_eq_some_iff.mp q
      rw [← hv]
      exact List.set_getElem_self hi
    rw [this] at k
    exact @k)
theorem sj_drop (h : EE K W es te d) (k : SJ K W es D.nx) : SJ K W es (tDrop te D) := fun _ _ _ S E => h S E _ fun v G2 H2 e2 S2 i2 => k S2 (E.mono e2)
theorem sj_ret (h : EE K W es te d) (k : Rt K W D.rt d) : SJ K W es (tRet te D) := fun _ _ _ S E => h S E _ fun v G2 H2 e2 S2 i2 => k S2 i2
/-- a new list is handed back -/
theorem sj_retL (h : EL K W es te ds) (k : Rt K W D.rt (.lst ds)) : SJ K W es (tRet te D) := sj_ret (ee_frz h) k
/-- the first owned list is handed back -/
theorem sj_retO {i : Nat} {p : Addr} (h : es[i]? = some (some (.at (.ref p)))) (k : Rt K W D.rt (.lst ds)) : SJ K (LC K p ds :: W) es (tRet (tVar i) D) := fun σ G H S E => by
  obtain ⟨v, a, b⟩ := E.2 i _ h
  obtain ⟨G2, e2, S2, i2⟩ := S.freeze
  exact ⟨v, a, k S2 (by rw [b.at_eq]; exact i2)⟩
theorem sj_aug {i : Nat} {f : Int → Int → Int} {x y : Int} (hx : es[i]? = some (some (.int x))) (h : EE K W es te (.int y)) (k : SJ K W (es.set i (some (.int (f x y)))) D.nx) : SJ K W es (tAug i te (ipI f) D) := fun σ G H S E => by
  obtain ⟨v, a, b⟩ := E.2 i _ hx
  exact ⟨v, a, h S E _ fun v2 G2 H2 e2 S2 i2 => ⟨x, y, b.int_eq, i2.int_eq, k S2 ((E.mono e2).set i (.int _))⟩⟩
theorem sj_app {i : Nat} {p : Addr} (hw : W[i]? = some (LC K p ds)) (ho : EE K W es to (.at (.ref p))) (h : EE K W es te d) (hl : ds.length < 100000) (k : SJ K (W.set i (LC K p (ds ++ [d]))) es D.nx) :
    SJ K W es (tDrop (tBM K "list" rAppend to (tCons te tNil)) D) := fun _ _ _ S E =>
  ho S E _ fun x G1 H1 e1 S1 i1 => by
    obtain ⟨vs, hp, al, _⟩ := S1.lcAt hw
    have ex := i1.at_eq
    subst ex
    refine ⟨.inl ⟨rfl, vs, sq_of hp⟩, h S1 (E.mono e1) _ fun v G2 H2 e2 S2 i2 => ?_⟩
    obtain ⟨ws, hp2, al2, _⟩ := S2.lcAt hw
    exact ⟨p, ws, v, rfl, rfl, hp2, sz_lt (by rw [al2.length]; exact hl), k (S2.lcSetAt hw (al2.append (.cons i2 .nil))) ((E.mono e1).mono e2)⟩
/-- xs[i] = e -/
theorem sj_setO {i j : Nat} {p : Addr} (hw : W[i]? = some (LC K p ds)) (h : EE K W es te d) (ho : EE K W es to (.at (.ref p))) (hi : EE K W es tl (.int (j : Int))) (hj : j < ds.length) (k : SJ K (W.set i (LC K p (ds.set j d))) es D.nx) :
    SJ K W es (tAsg te (gSub to tl rSetL) D) := fun _ _ _ S E =>
  h S E _ fun v G1 H1 e1 S1 i1 => ho S1 (E.mono e1) _ fun x G2 H2 e2 S2 i2 => hi S2 ((E.mono e1).mono e2) _ fun y G3 H3 e3 S3 i3 => by
    obtain ⟨ws, hp, al, _⟩ := S3.lcAt hw
    exact ⟨p, ws, (j : Int), j, i2.at_eq, i3.int_eq, hp, ixN_nat (by rw [al.length]; exact hj), k (S3.lcSetAt hw (al.set j ((i1.mono e2).mono e3))) (((E.mono e1).mono e2).mono e3)⟩
/-! ### loops -/
/-- what is to stand behind a turn -/
def Pst (K : PySem.W.Frag) (Wt : List As) (I : List As → List (Option DD) → Prop) : L2.St → Hp → Prop := fun σ H => ∃ Wf es G, I Wf es ∧ Stt (Wf ++ Wt) G H ∧ Env K G σ es
theorem sj_post {I : List As → List (Option DD) → Prop} (h : I Wf es) : SJ K (Wf ++ Wt) es (Pst K Wt I) := fun σ G H S E => ⟨Wf, es, G, h, S, E⟩
theorem sj_postW {I : List As → List (Option DD) → Prop} (Wf : List As) (hw : W = Wf ++ Wt) (h : I Wf es) : SJ K W es (Pst K Wt I) := by
  subst hw; exact sj_post h
theorem Stt.baseEnd {G G0 H : Hp} (h : Stt W G H) (e : Ex G0 G) : Stt (W ++ [Base G0]) G H := Stt.snoc.mpr (h.base e)
theorem sj_forL {d0 : DD} (Inv : Nat → List As → List (Option DD) → Prop) (lk : Lk d0 ds) (h : EE K (Wf ++ Wt) es tl d0) (h0 : Inv 0 Wf es)
    (hs : ∀ (i : Nat) (d : DD) (Wf : List As) (es' : List (Option DD)) (Wt' : List As), Le Wt' Wt → ds[i]? = some d → Inv i Wf es' → ∃ es2 js, GJ K g d es' es2 js ∧ SJ K (Wf ++ Wt') es2 (tu { D with nx := Pst K Wt' (Inv (i + 1)), ct := Pst K Wt' (Inv (i + 1)), bk := D.nx }))
    (hd : ∀ (Wf : List As) (es' : List (Option DD)) (Wt' : List As), Le Wt' Wt → Inv ds.length Wf es' → SJ K (Wf ++ Wt') es' D.nx) : SJ K (Wf ++ Wt) es (tFor (iList K tl) g tu D) := fun σ G H S E =>
  h S E _ fun x G1 H1 e1 S1 i1 => by
      obtain ⟨a, vs, rfl, sq, al⟩ := lk.get i1
      have hl := al.length
      refine ⟨a, rfl, ⟨vs, ex_l S1.ex sq⟩, for_list (xs := vs) (fun i σ' H' => ∃ Wf es' G', Inv i Wf es' ∧ Stt (Wf ++ (Wt ++ [Base G1])) G' H' ∧ Env K G' σ' es')
        ⟨Wf, es, G1, h0, by rw [← List.append_assoc]; exact S1.baseEnd (Ex.refl G1), E.mono e1⟩ ?_ ?_ ?_⟩
      · rintro i σ' H' _ ⟨Wf', es', G', _, S', _⟩
        have b : Ex G1 G' := by
          rw [← List.append_assoc] at S'
          exact (Stt.snoc.mp S').unbase
        exact ex_l S'.ex (ex_l b sq)
      · rintro i v σ' H' hv ⟨Wf', es', G', hI, S', E'⟩
        have b : Ex G1 G' := by
          have S'' := S'
          rw [← List.append_assoc] at S''
          exact (Stt.snoc.mp S'').unbase
        obtain ⟨d, hd', iv⟩ := al.get' hv
        obtain ⟨es2, js, hg, hb⟩ := hs i d Wf' es' (Wt ++ [Base G1]) (Le.snoc _ _) hd' hI
        exact hg S'.ex (iv.mono b) E' _ fun σ2 E2 _ => hb S' E2
      · rintro σ' H' ⟨Wf', es', G', hI, S', E'⟩
        rw [hl] at hI
        exact hd Wf' es' (Wt ++ [Base G1]) (Le.snoc _ _) hI S' E'
theorem sj_forR {ta : TA} {n : Int} {j : Nat} (Inv : Nat → List As → List (Option DD) → Prop) (h : EA K (Wf ++ Wt) es ta [.int n]) (hn : n < 2 ^ 62 ∧ -(2 ^ 62) ≤ n) (h0 : Inv 0 Wf es)
    (hs : ∀ (i : Nat) (Wf : List As) (es' : List (Option DD)) (Wt' : List As), Le Wt' Wt → (i : Int) < n → Inv i Wf es' → SJ K (Wf ++ Wt') (es'.set j (some (.int (i : Int)))) (tu { D with nx := Pst K Wt' (Inv (i + 1)), ct := Pst K Wt' (Inv (i + 1)), bk := D.nx }))
    (hd : ∀ (Wf : List As) (es' : List (Option DD)) (Wt' : List As), Le Wt' Wt → Inv n.toNat Wf es' → SJ K (Wf ++ Wt') es' D.nx) : SJ K (Wf ++ Wt) es (tFor (iRng1 ta) (gName j) tu D) := fun σ G H S E =>
  h S E _ fun vs G1 H1 e1 S1 i1 => by
    obtain ⟨v, rfl, iv⟩ := isAll1 i1
    refine ⟨n, by rw [iv.int_eq], by omega, by omega, for_range (lo := 0) (n := n.toNat) (fun i σ' H' => ∃ Wf es' G', Inv i Wf es' ∧ Stt (Wf ++ (Wt ++ [Base G1])) G' H' ∧ Env K G' σ' es')
      ⟨Wf, es, G1, h0, by rw [← List.append_assoc]; exact S1.baseEnd (Ex.refl G1), E.mono e1⟩ ?_ ?_⟩
    · rintro i σ' H' hi ⟨Wf', es', G', hI, S', E'⟩
      have e0 : (0 : Int) + (i : Int) = (i : Int) := Int.zero_add _
      show tu { D with nx := _, ct := _, bk := D.nx } (σ'.set j (some (.int ((0 : Int) + (i : Int))))) H'
      rw [e0]
      exact hs i Wf' es' (Wt ++ [Base G1]) (Le.snoc _ _) (by omega) hI S' (E'.set j (.int _))
    · rintro σ' H' ⟨Wf', es', G', hI, S', E'⟩
      exact hd Wf' es' (Wt ++ [Base G1]) (Le.snoc _ _) hI S' E'
/-- for a, b in zip(xs, ys), lists of one length -/
theorem sj_forZ {ta : TA} {xs ys : List DD} {g1 g2 : TG} (Inv : Nat → List As → List (Option DD) → Prop) (h : EA K (Wf ++ Wt) es ta [.lst xs, .lst ys]) (h0 : Inv 0 Wf es)
    (hs : ∀ (i : Nat) (x y : DD) (Wf : List As) (es' : List (Option DD)) (Wt' : List As), Le Wt' Wt → xs[i]? = some x → ys[i]? = some y → Inv i Wf es' → ∃ es2 js, GsJ K (gCons g1 (gCons g2 gNil)) [x, y] es' es2 js ∧ SJ K (Wf ++ Wt') es2 (tu { D with nx := Pst K Wt' (Inv (i + 1)), ct := Pst K Wt' (Inv (i + 1)), bk := D.nx }))
    (hd : ∀ (Wf : List As) (es' : List (Option DD)) (Wt' : List As), Le Wt' Wt → Inv (min xs.length ys.length) Wf es' → SJ K (Wf ++ Wt') es' D.nx) : SJ K (Wf ++ Wt) es (tFor (iZip K ta) (gTup K 2 (gCons g1 (gCons g2 gNil))) tu D) := fun σ G H S E =>
  h S E _ fun vs G1 H1 e1 S1 i1 => by
    obtain ⟨v, w, rfl, iv, iw⟩ := isAll2 i1
    cases iv with
    | @lst a us _ sq0 al =>
      cases iw with
      | @lst b ws _ sq20 al2 =>
        have sq := sq_of (K := K) sq0
        have sq2 := sq_of (K := K) sq20
        have hl := al.length
        have hl2 := al2.length
        have unb : ∀ {Wf : List As} {G' H' : Hp}, Stt (Wf ++ (Wt ++ [Base G1])) G' H' → Ex G1 G' := fun S' => by
          rw [← List.append_assoc] at S'
          exact (Stt.snoc.mp S').unbase
        refine ⟨a, b, us, ws, rfl, ex_l S1.ex sq, ex_l S1.ex sq2, ?_⟩
        refine ⟨fun i m σ' H' => m = min us.length ws.length - i ∧ i ≤ min us.length ws.length ∧ ∃ Wf es' G', Inv i Wf es' ∧ Stt (Wf ++ (Wt ++ [Base G1])) G' H' ∧ Env K G' σ' es',
          ⟨_, rfl, Nat.zero_le _, Wf, es, G1, h0, by rw [← List.append_assoc]; exact S1.baseEnd (Ex.refl G1), E.mono e1⟩, ?_⟩
        rintro i m σ' H' ⟨rfl, hi, Wf', es', G', hI, S', E'⟩
        have sx := ex_l S'.ex (ex_l (unb S') sq)
        have sy := ex_l S'.ex (ex_l (unb S') sq2)
        by_cases hlt : i < min us.length ws.length
        · have hx : us[i]? = some us[i] := List.getElem?_eq_getElem (by omega)
          have hy : ws[i]? = some ws[i] := List.getElem?_eq_getElem (by omega)
          refine .inr ⟨⟨us, ws, _, _, sx, sy, hx, hy⟩, fun σ2 H2 => ∃ Wf es' G', Inv (i + 1) Wf es' ∧ Stt (Wf ++ (Wt ++ [Base G1])) G' H2 ∧ Env K G' σ2 es', fun σ2 H2 q => ⟨_, by omega, rfl, by omega, q⟩, ?_⟩
          rintro v H2 ⟨T, x, y, rfl, hT, rfl, kx, ky⟩
          have ex1 := kx us sx
          have ey1 := ky ws sy
          obtain ⟨d1, hd1, id1⟩ := al.get' ex1
          obtain ⟨d2, hd2, id2⟩ := al2.get' ey1
          obtain ⟨es2, js, hg, hb⟩ := hs i d1 d2 Wf' es' (Wt ++ [Base G1]) (Le.snoc _ _) hd1 hd2 hI
          have S2 := S'.new (o := .tup [x, y]) hT
          have gT := fresh_back S'.ex hT
          have b2 : Ex G1 (upd G' T (.tup [x, y])) := (unb S').trans (Ex.new gT)
          exact ⟨T, [x, y], rfl, st_of upd_same, rfl, hg S2.ex (.cons (id1.mono b2) (.cons (id2.mono b2) .nil)) (E'.mono (Ex.new gT)) _ fun σ2 E2 _ => hb S2 E2⟩
        · have e : i = min us.length ws.length := by omega
          refine .inl ⟨⟨us, ws, sx, sy, by omega⟩, ?_⟩
          rw [e, hl, hl2] at hI
          exact hd Wf' es' (Wt ++ [Base G1]) (Le.snoc _ _) hI S' E'
/-! ### comprehensions -/
theorem Stt.toFront {A : As} {G H : Hp} (h : Stt (W ++ [A]) G H) : Stt (A :: W) G H := Stt.snoc.mp h
def kept (f : DD → Bool) (v : DD → DD) (ds : List DD) : List DD := (ds.filter f).map v
theorem kept_take {f : DD → Bool} {v : DD → DD} {i : Nat} (h : ds[i]? = some d) : kept f v (ds.take (i + 1)) = if f d = true then kept f v (ds.take i) ++ [v d] else kept f v (ds.take i) := by
  unfold kept
  have e : ds.take (i + 1) = ds.take i ++ [d] := by rw [List.take_succ, h]; rfl
  rw [e, List.filter_append, List.map_append]
  by_cases q : f d = true
  · rw [if_pos q, List.filter_cons, if_pos q]; rfl
  · rw [if_neg q, List.filter_cons, if_neg q]; simp
theorem kept_len {f : DD → Bool} {v : DD → DD} {i : Nat} : (kept f v (ds.take i)).length ≤ ds.length := by
  unfold kept
  rw [List.length_map]
  exact Nat.le_trans (List.length_filter_le _ _) (by rw [List.length_take]; omega)
theorem el_lcL {vs js : List Nat} {d0 : DD} (f : DD → Bool) (v : DD → DD) (lk : Lk d0 ds) (h : EE K (Wf ++ Wt) es tl d0) (hz : ds.length < 100000)
    (hs : ∀ (i : Nat) (d : DD) (Wt' : List As), Le Wt' Wt → ds[i]? = some d → ∃ es2, GJ K g d (wipeE es vs) es2 js ∧ (∀ j ∈ js, j ∈ vs) ∧ ET K (Wf ++ Wt') es2 t (f d) ∧ (f d = true → EE K (Wf ++ Wt') es2 te (v d))) :
    EL K (Wf ++ Wt) es (tLc (iList K tl) g t te vs) (kept f v ds) := fun σ G H S E Q q =>
  h S E _ fun x G1 H1 e1 S1 i1 => by
      obtain ⟨a, us, rfl, sq, al⟩ := lk.get i1
      have hl := al.length
      refine ⟨a, rfl, ⟨us, ex_l S1.ex sq⟩, fun D hD => ?_⟩
      have unb : ∀ {A : As} {G' H' : Hp}, Stt (A :: Base G1 :: (Wf ++ Wt)) G' H' → Ex G1 G' := fun S' => S'.drop.unbase
      have shape : ∀ (A : As) {G' H' : Hp}, Stt (Wf ++ (Wt ++ [Base G1, A])) G' H' ↔ Stt (A :: Base G1 :: (Wf ++ Wt)) G' H' := fun A {G' H'} => by
        have e : Wf ++ (Wt ++ [Base G1, A]) = ((Wf ++ Wt) ++ [Base G1]) ++ [A] := by simp
        rw [e, Stt.snoc]
        constructor
        · intro s
          have s2 : Stt (([A] ++ (Wf ++ Wt)) ++ [Base G1]) G' H' := by simpa using s
          exact (Stt.swap (by simpa using Stt.snoc.mp s2))
        · intro s
          have s2 := s.swap
          have s3 : Stt (([A] ++ (Wf ++ Wt)) ++ [Base G1]) G' H' := Stt.snoc.mpr (by simpa using s2)
          simpa using s3
      refine lc_list (xs := us) (fun i H' => ∃ G', Ex G1 G' ∧ Stt (LC K D (kept f v (ds.take i)) :: Base G1 :: (Wf ++ Wt)) G' H') ?_ ?_ ?_ ?_
      · exact ⟨G1, Ex.refl _, (S1.base (Ex.refl _)).lcNew hD .nil⟩
      · rintro i H' _ ⟨G', e', S'⟩
        exact ex_l S'.ex (ex_l e' sq)
      · rintro i u H' hu ⟨G', e', S'⟩
        obtain ⟨d, hd, iu⟩ := al.get' hu
        obtain ⟨es2, hg, hj, ht, he⟩ := hs i d (Wt ++ [Base G1, LC K D (kept f v (ds.take i))]) (fun s => (Le.snoc Wt (Base G1)) ((Le.snoc _ _) (by rw [List.append_assoc]; exact s))) hd
        refine hg S'.ex (iu.mono e') (((E.mono e1).mono e').wipe vs) _ fun σ2 E2 w2 => ⟨(w2 vs hj).trans (wipe_wipe σ vs), ?_⟩
        refine ht ((shape _).mpr S') E2 _ fun G3 H3 e3 S3 => ?_
        rw [kept_take hd]
        cases hf : f d with
        | true =>
          show te σ2 H3 _
          refine he hf S3 (E2.mono e3) _ fun y G4 H4 e4 S4 i4 => ?_
          have S5 := (shape _).mp S4
          obtain ⟨acc, ha, ala, _⟩ := S5.lc
          refine ⟨acc, ha, sz_lt (by rw [ala.length]; exact Nat.lt_of_le_of_lt kept_len hz), G4, (e'.trans e3).trans e4, ?_⟩
          exact S5.lcSet (ala.append (.cons i4 .nil))
        | false =>
          show ∃ G', _
          exact ⟨G3, e'.trans e3, (shape _).mp S3⟩
      · rintro H' ⟨G', e', S'⟩
        rw [hl, List.take_length] at S'
        exact q D G' H' (e1.trans e') (by
          have s := S'.swap.drop
          exact s)
/-- over range(n) -/
def rngD (n : Int) : List DD := (List.range n.toNat).map fun (i : Nat) => DD.int (i : Int)
theorem el_lcR {ta : TA} {n : Int} {j : Nat} {vs : List Nat} (f : DD → Bool) (v : DD → DD) (h : EA K (Wf ++ Wt) es ta [.int n]) (hn : n < 100000 ∧ -100000 ≤ n) (hj : j ∈ vs)
    (hs : ∀ (i : Nat) (Wt' : List As), Le Wt' Wt → (i : Int) < n → ET K (Wf ++ Wt') ((wipeE es vs).set j (some (.int i))) t (f (.int i)) ∧ (f (.int i) = true → EE K (Wf ++ Wt') ((wipeE es vs).set j (some (.int i))) te (v (.int i)))) :
    EL K (Wf ++ Wt) es (tLc (iRng1 ta) (gName j) t te vs) (kept f v (rngD n)) := fun σ G H S E Q q =>
  h S E _ fun x G1 H1 e1 S1 i1 => by
    obtain ⟨u, rfl, iu⟩ := isAll1 i1
    have rl : (rngD n).length = n.toNat := by unfold rngD; simp
    have shape : ∀ (A : As) {G' H' : Hp}, Stt (Wf ++ (Wt ++ [A])) G' H' ↔ Stt (A :: (Wf ++ Wt)) G' H' := fun A {G' H'} => by
      rw [← List.append_assoc]; exact Stt.snoc
    refine ⟨n, by rw [iu.int_eq], by omega, by omega, fun D hD => ?_⟩
    refine lc_range (lo := 0) (n := n.toNat) (fun i H' => ∃ G', Ex G1 G' ∧ Stt (LC K D (kept f v ((rngD n).take i)) :: (Wf ++ Wt)) G' H') ?_ ?_ ?_
    · exact ⟨G1, Ex.refl _, S1.lcNew hD .nil⟩
    · rintro i H' hi ⟨G', e', S'⟩
      have hd : (rngD n)[i]? = some (.int (i : Int)) := by unfold rngD; simp [hi]
      obtain ⟨ht, he⟩ := hs i (Wt ++ [LC K D (kept f v ((rngD n).take i))]) (Le.snoc _ _) (by omega)
      have e0 : (0 : Int) + (i : Int) = (i : Int) := Int.zero_add _
      have E2 : Env K G' ((wipe σ vs).set j (some (.int ((0 : Int) + (i : Int))))) ((wipeE es vs).set j (some (.int (i : Int)))) := by
        rw [e0]; exact (((E.mono e1).mono e').wipe vs).set j (.int _)
      refine ⟨(wipe_set hj).trans (wipe_wipe σ vs), ht ((shape _).mpr S') E2 _ fun G3 H3 e3 S3 => ?_⟩
      rw [kept_take hd]
      cases hf : f (.int (i : Int)) with
      | true =>
        show te _ H3 _
        refine he hf S3 (E2.mono e3) _ fun y G4 H4 e4 S4 i4 => ?_
        have S5 := (shape _).mp S4
        obtain ⟨acc, ha, ala, _⟩ := S5.lc
        refine ⟨acc, ha, sz_lt (by rw [ala.length]; exact Nat.lt_of_le_of_lt kept_len (by rw [rl]; omega)), G4, (e'.trans e3).trans e4, ?_⟩
        exact S5.lcSet (ala.append (.cons i4 .nil))
      | false =>
        show ∃ G', _
        exact ⟨G3, e'.trans e3, (shape _).mp S3⟩
    · rintro H' ⟨G', e', S'⟩
      rw [← rl, List.take_length] at S'
      exact q D G' H' (e1.trans e') S'
theorem sj_try {ta : TA} {R : List DD → DD → Prop} {RX : List DD → Value → Prop} {c : Value} {i : Nat} {ts : Addr → Value → Option Addr → TS} {Wout : WX} (h : EA K W es ta ds)
    (k : (∃ d, R ds d ∧ SJ K W (es.set i (some d)) D.nx) ∨ ∃ cls, RX ds cls ∧ PySem.W.exmOne K cls c = some true ∧ ∀ a, SJ K W es (ts a cls none D)) :
    SJ K W es (fun σ H => tAsg (tCallS (spX K R RX) (WE (wOnly K c ts Wout D)) ta) (gName i) D σ H) := fun σ G H S E =>
  h S E _ fun vs G2 H2 e2 S2 i2 => by
    refine ⟨W, G2, ds, S2, i2, ?_⟩
    rcases k with ⟨d, r, k⟩ | ⟨cls, r, ex, k⟩
    · exact .inl ⟨d, r, fun v G3 H3 e3 S3 i3 => k S3 (((E.mono e2).mono e3).set i i3)⟩
    · exact .inr ⟨cls, r, fun G3 H3 e3 S3 => ⟨true, ex, fun _ a _ => k a S3 ((E.mono e2).mono e3), fun q => nomatch q⟩⟩
/-! ### a def of the text -/
section
variable {P : Program} {w : World} {mg : Str → Option Value} {base : Heap}
theorem fn_P {x qual : Str} {st : Stmt} {f : Addr} {fd : FuncData} {N ps : List Str} {k : Nat} {R : List DD → DD → Prop} (F : Fun K x qual st f fd) (Sc : FnScope N ps (defScope st)) (len : ∀ ds d, R ds d → ds.length = ps.length)
    (hb : ∀ (cdv : Value) (A : Around) (outer : List PySem.Env) (s : Shared) (H : Hp) (E : XK), Room k (A.deeper (envOfC qual (defScope st) s.heap.objs.size f cdv)) →
      ∃ t, PSs (cxOf CX0 P w K mg base N qual (defScope st) f cdv A outer s H E).nox (defBody st) t ∧ ∀ (ds : List DD) (d : DD) (W : List As) (rt : VK), R ds d → Rt K W rt d → SJ K W (startE N ds) (t { nx := fun _ H' => rt .non H', rt := rt })) :
    FnOk P w K mg base CX0 (k + 1) f fd ps (spP K R) := by
  refine F.ok Sc (fun vs H Q E h => ?_) (fun cdv A outer s H vs Q E hr h => ?_)
  · obtain ⟨W, G, ds, d, S, al, r, _⟩ := h
    rw [al.length]
    exact len ds d r
  · obtain ⟨W, G, ds, d, S, al, r, q⟩ := h
    obtain ⟨t, ht, hq⟩ := hb cdv A outer s H E hr
    refine ⟨t, ht, hq ds d (Base G :: W) Q r (fun {v G2 H2} S2 i2 => q v G2 H2 S2.unbase S2.drop i2) (S.base (Ex.refl G)) (Env.start al)⟩
theorem fn_X {x qual : Str} {st : Stmt} {f : Addr} {fd : FuncData} {N ps : List Str} {k : Nat} {R : List DD → DD → Prop} {RX : List DD → Value → Prop} (F : Fun K x qual st f fd) (Sc : FnScope N ps (defScope st)) (len : ∀ ds, ((∃ d, R ds d) ∨ ∃ c, RX ds c) → ds.length = ps.length)
    (hb : ∀ (cdv : Value) (A : Around) (outer : List PySem.Env) (s : Shared) (H : Hp) (E : XK), Room k (A.deeper (envOfC qual (defScope st) s.heap.objs.size f cdv)) →
      ∃ t, PSs (cxOf (L2.CX P w) P w K mg base N qual (defScope st) f cdv A outer s H E) (defBody st) t ∧ ∀ (ds : List DD) (W : List As) (rt : VK), ((∃ d, R ds d ∧ Rt K W rt d) ∨ ∃ cls, RX ds cls ∧ ∀ {G H : Hp}, Stt W G H → E cls none H) → SJ K W (startE N ds) (t { nx := fun _ H' => rt .non H', rt := rt })) :
    FnOk P w K mg base (L2.CX P w) (k + 1) f fd ps (spX K R RX) := by
  refine F.okX Sc (fun vs H Q E h => ?_) (fun cdv A outer s H vs Q E hr h => ?_)
  · obtain ⟨W, G, ds, S, al, r⟩ := h
    rw [al.length]
    exact len ds (r.imp (fun ⟨d, r, _⟩ => ⟨d, r⟩) fun ⟨c, r, _⟩ => ⟨c, r⟩)
  · obtain ⟨W, G, ds, S, al, r⟩ := h
    obtain ⟨t, ht, hq⟩ := hb cdv A outer s H E hr
    refine ⟨t, ht, hq ds (Base G :: W) Q ?_ (S.base (Ex.refl G)) (Env.start al)⟩
    rcases r with ⟨d, r, q⟩ | ⟨c, r, q⟩
    · exact .inl ⟨d, r, fun {v G2 H2} S2 i2 => q v G2 H2 S2.unbase S2.drop i2⟩
    · exact .inr ⟨c, r, fun {G2 H2} S2 => q G2 H2 S2.unbase S2.drop⟩
theorem fn_L {x qual : Str} {st : Stmt} {f : Addr} {fd : FuncData} {N ps : List Str} {k : Nat} {R : List DD → List DD → Prop} (F : Fun K x qual st f fd) (Sc : FnScope N ps (defScope st)) (len : ∀ ds d, R ds d → ds.length = ps.length)
    (hb : ∀ (cdv : Value) (A : Around) (outer : List PySem.Env) (s : Shared) (H : Hp) (E : XK), Room k (A.deeper (envOfC qual (defScope st) s.heap.objs.size f cdv)) →
      ∃ t, PSs (cxOf CX0 P w K mg base N qual (defScope st) f cdv A outer s H E).nox (defBody st) t ∧ ∀ (ds xs : List DD) (W : List As) (rt : VK), R ds xs → (∀ {p : Addr} {G H : Hp}, Stt (LC K p xs :: W) G H → rt (.ref p) H) → SJ K W (startE N ds) (t { nx := fun _ H' => rt .non H', rt := rt })) :
    FnOk P w K mg base CX0 (k + 1) f fd ps (spL K R) := by
  refine F.ok Sc (fun vs H Q E h => ?_) (fun cdv A outer s H vs Q E hr h => ?_)
  · obtain ⟨W, G, ds, d, S, al, r, _⟩ := h
    rw [al.length]
    exact len ds d r
  · obtain ⟨W, G, ds, d, S, al, r, q⟩ := h
    obtain ⟨t, ht, hq⟩ := hb cdv A outer s H E hr
    refine ⟨t, ht, hq ds d (Base G :: W) Q r (fun {p G2 H2} S2 => q p G2 H2 S2.drop.unbase S2.swap.drop) (S.base (Ex.refl G)) (Env.start al)⟩
end
end
end Z

set_option Elab.async false
set_option linter.all false
set_option maxRecDepth 100000
set_option maxHeartbeats 4000000
namespace Z
open PySem PySem.Spec PyProof.Rows L2 Evl
section
variable {X : Cx}
theorem call_lenS' : CallR X (.builtin "len") (rLenS X.K) := call_len_seq
theorem call_max2' (hc : X.calm = true) : CallR X (.builtin "max") rMax2' := call_max2 hc
theorem call_min2' (hc : X.calm = true) : CallR X (.builtin "min") rMin2' := call_min2 hc
theorem call_int1' : CallR X (.type "int") rInt1 := call_int1
theorem call_listS' : CallR X (.type "list") (rListS X.K) := call_list_of
theorem op_cat' : OpR X (binaryOp .Add) rCat := op_cat
theorem op_rep' : OpR X (binaryOp .Mult) rRep := op_rep
end
theorem ee_neg {K : PySem.W.Frag} {W : List As} {es : List (Option DD)} {ta : TE} {i : Int} (h : EE K W es ta (.int i)) : EE K W es (tUn (rU fun i => .int (-i)) ta) (.int (-i)) := fun σ G H S E Q q =>
  h S E _ fun v G2 H2 e2 S2 i2 => ⟨i, i2.int_eq, q _ G2 H2 e2 S2 (.int _)⟩
theorem et_yes {K : PySem.W.Frag} {W : List As} {es : List (Option DD)} : ET K W es tYes true := fun _ G H S E Q q => q G H (Ex.refl G) S
/-- what the law promises -/
def spLaw (K : PySem.W.Frag) : Sp := fun vs H Q _ => ∃ (a : Addr) (ns : List Int), vs = [.ref a] ∧ SqL K H a (ns.map V.int) ∧ ns.length ≤ 63 ∧ ∀ H', Q (.bl true) H'
section
variable {P : Program} {w : World} {K : PySem.W.Frag} {mg : Str → Option Value} {base : Heap}
theorem fn_law {x qual : Str} {st : Stmt} {f : Addr} {fd : FuncData} {N ps : List Str} {k : Nat} (F : Fun K x qual st f fd) (Sc : FnScope N ps (defScope st)) (len : ps.length = 1)
    (hb : ∀ (cdv : Value) (A : Around) (outer : List PySem.Env) (s : Shared) (H : Hp) (E : XK), Room k (A.deeper (envOfC qual (defScope st) s.heap.objs.size f cdv)) →
      ∃ t, PSs (cxOf CX0 P w K mg base N qual (defScope st) f cdv A outer s H E).nox (defBody st) t ∧ ∀ (ns : List Int) (rt : VK), ns.length ≤ 63 → (∀ H', rt (.bl true) H') → SJ K [] (startE N [.sl (ns.map DD.int)]) (t { nx := fun _ H' => rt .non H', rt := rt })) :
    FnOk P w K mg base CX0 (k + 1) f fd ps (spLaw K) := by
  refine F.ok Sc (fun vs H Q E h => ?_) (fun cdv A outer s H vs Q E hr h => ?_)
  · obtain ⟨a, ns, rfl, _⟩ := h
    rw [len]; rfl
  · obtain ⟨a, ns, rfl, hS, hl, q⟩ := h
    obtain ⟨t, ht, hq⟩ := hb cdv A outer s H E hr
    exact ⟨t, ht, hq ns Q hl q ⟨Ex.refl H, fun _ => False, fun _ => id, fun _ f => f.elim⟩ (Env.start (.cons (.sl hS (IsAll.of_ints ns)) .nil))⟩
theorem sj_freeze {K : PySem.W.Frag} {W : List As} {es : List (Option DD)} {i : Nat} {p : Addr} {ds : List DD} {k : L2.St → Hp → Prop} (h : es[i]? = some (some (.at (.ref p)))) (q : SJ K W (es.set i (some (.lst ds))) k) : SJ K (LC K p ds :: W) es k := fun σ G H S E => by
  obtain ⟨v, a, b⟩ := E.2 i _ h
  obtain ⟨G2, e2, S2, i2⟩ := S.freeze
  have E2 : Env K G2 σ (es.set i (some (.lst ds))) := by
    have q := (E.mono e2).set i i2
    rw [← b.at_eq] at q
    have hs : σ.set i (some v) = σ := by
      obtain ⟨hi, hv⟩ := List.getElem?_eq_some_iff.mp a
      rw [← hv]; exact List.set_getElem_self hi
    rw [hs] at q; exact q
  exact q S2 E2
end
end Z

set_option Elab.async false
set_option linter.all false
set_option maxRecDepth 100000
namespace Z9
open Z
/-! the mathematics of the rooms and of dealing -/
def room (p : Int × Int) : DD := .tup [.int p.1, .int p.2]
def cc (ns : List Int) (k : Nat) : Int := ns.getD k 0
def freeBy (cell way : Int) : Int := if way = 0 then 5 else if way = 1 then cell / 8 % (10 ^ 30 + 1) else cell / 8 % 12
theorem freeBy_nn (cell way : Int) : 0 ≤ freeBy cell way := by
  unfold freeBy
  split
  · omega
  · split <;> exact Int.emod_nonneg _ (by decide)
def wayOf (ns : List Int) : Int := cc ns 0 % 4
def leastOf (ns : List Int) : Int := cc ns 0 / 4 % 9700
def n2Of (ns : List Int) : Nat := if cc ns 1 / 3 % 4 = 1 then 180 else 60
def room2 (ns : List Int) (k : Nat) : Int × Int := (leastOf ns + 37 * (k : Int) % 181, freeBy ((cc ns 2 + 1000003 * (k : Int) * (k : Int)) % 1009 + 8 * (k : Int)) 3)
def rooms2 (ns : List Int) (i : Nat) : List (Int × Int) := (List.range i).map (room2 ns)
def atOf (cell : Int) (n : Nat) : Int := if cell % 3 = 0 then cell / 3 % ((n : Int) + 1) else n
def ins (L : List (Int × Int)) (i : Nat) (x : Int × Int) : List (Int × Int) := L.take i ++ [x] ++ L.drop i
def rooms3 (ns : List Int) : Nat → List (Int × Int)
  | 0 => []
  | i + 1 => ins (rooms3 ns i) (atOf (cc ns (i + 2)) (rooms3 ns i).length).toNat (leastOf ns + i, freeBy (cc ns (i + 2)) (wayOf ns))
def rooms (ns : List Int) : List (Int × Int) := if wayOf ns = 2 then rooms2 ns (n2Of ns) else rooms3 ns (ns.length - 2)
theorem atOf_le (cell : Int) (n : Nat) : 0 ≤ atOf cell n ∧ atOf cell n ≤ n := by
  unfold atOf
  split
  · have h1 := Int.emod_nonneg (cell / 3) (b := (n : Int) + 1) (by omega)
    have h2 := Int.emod_lt_of_pos (cell / 3) (b := (n : Int) + 1) (by omega)
    omega
  · omega
theorem ins_perm (L : List (Int × Int)) (i : Nat) (x : Int × Int) : (ins L i x).Perm (x :: L) := by
  unfold ins
  have h : (L.take i ++ [x] ++ L.drop i).Perm ([x] ++ (L.take i ++ L.drop i)) := by
    rw [List.append_assoc]
    exact List.perm_append_comm_assoc _ _ _
  rw [List.take_append_drop] at h
  exact h
theorem rooms3_len (ns : List Int) : ∀ i, (rooms3 ns i).length = i
  | 0 => rfl
  | i + 1 => by
    show (ins _ _ _).length = _
    rw [(ins_perm _ _ _).length_eq, List.length_cons, rooms3_len ns i]
structure Good (L : List (Int × Int)) : Prop where
  nd : (L.map (·.1)).Nodup
  nn : ∀ x ∈ L, 0 ≤ x.2
  len : L.length ≤ 180
theorem rooms3_good (ns : List Int) : ∀ i, ((rooms3 ns i).map (·.1)).Nodup ∧ (∀ x ∈ rooms3 ns i, 0 ≤ x.2 ∧ x.1 < leastOf ns + i)
  | 0 => ⟨List.nodup_nil, fun _ h => nomatch h⟩
  | i + 1 => by
    obtain ⟨h1, h2⟩ := rooms3_good ns i
    have p := ins_perm (rooms3 ns i) (atOf (cc ns (i + 2)) (rooms3 ns i).length).toNat (leastOf ns + i, freeBy (cc ns (i + 2)) (wayOf ns))
    refine ⟨?_, fun x hx => ?_⟩
    · show ((ins _ _ _).map (·.1)).Nodup
      rw [(p.map (·.1)).nodup_iff, List.map_cons, List.nodup_cons]
      refine ⟨fun h => ?_, h1⟩
      obtain ⟨y, hy, e⟩ := List.mem_map.mp h
      have := (h2 y hy).2
      simp only at e
      omega
    · have hx' : x ∈ ins (rooms3 ns i) (atOf (cc ns (i + 2)) (rooms3 ns i).length).toNat (leastOf ns + i, freeBy (cc ns (i + 2)) (wayOf ns)) := hx
      rw [p.mem_iff, List.mem_cons] at hx'
      rcases hx' with rfl | hx'
      · exact ⟨freeBy_nn _ _, by show leastOf ns + (i : Int) < leastOf ns + ((i + 1 : Nat) : Int); omega⟩
      · have := h2 x hx'
        exact ⟨this.1, by push_cast; omega⟩
theorem inj37 {a b : Nat} (ha : a < 180) (hb : b < 180) (h : 37 * (a : Int) % 181 = 37 * (b : Int) % 181) : a = b := by omega
theorem rooms_good (ns : List Int) (h : ns.length ≤ 63) : Good (rooms ns) := by
  unfold rooms
  split
  · have hn : n2Of ns ≤ 180 := by unfold n2Of; split <;> omega
    refine ⟨?_, fun x hx => ?_, by unfold rooms2; simpa using hn⟩
    · unfold rooms2
      rw [List.map_map]
      show List.Pairwise _ _
      rw [List.pairwise_map]
      refine (List.pairwise_lt_range).imp_of_mem fun {a b} ha hb hlt e => ?_
      have ha' := List.mem_range.mp ha
      have hb' := List.mem_range.mp hb
      have e' : leastOf ns + 37 * (a : Int) % 181 = leastOf ns + 37 * (b : Int) % 181 := e
      have := inj37 (a := a) (b := b) (by omega) (by omega) (by omega)
      omega
    · obtain ⟨k, _, rfl⟩ := List.mem_map.mp hx
      exact freeBy_nn ((cc ns 2 + 1000003 * (k : Int) * (k : Int)) % 1009 + 8 * (k : Int)) 3
  · obtain ⟨h1, h2⟩ := rooms3_good ns (ns.length - 2)
    exact ⟨h1, fun x hx => (h2 x hx).1, by rw [rooms3_len]; omega⟩
/-! dealing -/
def leR (p q : Int × Int) : Bool := decide (-p.2 < -q.2 ∨ (-p.2 = -q.2 ∧ p.1 ≤ q.1))
def Ahead (a b : Int × Int) : Prop := a.2 > b.2 ∨ (a.2 = b.2 ∧ a.1 < b.1)
def total (L : List (Int × Int)) : Int := (L.map (·.2)).sum
def deal : List (Int × Int) → Int → List (Int × Int)
  | [], _ => []
  | x :: S, w => if w ≤ 0 then [] else (x.1, min x.2 w) :: deal S (w - min x.2 w)
theorem sum_perm {L M : List Int} (h : L.Perm M) : L.sum = M.sum := by
  induction h with
  | nil => rfl
  | cons x _ ih => simp only [List.sum_cons, ih]
  | swap x y l => simp only [List.sum_cons]; omega
  | trans _ _ a b => exact a.trans b
theorem total_perm {L M : List (Int × Int)} (h : L.Perm M) : total L = total M := sum_perm (h.map (·.2))
theorem total_cons (x : Int × Int) (L : List (Int × Int)) : total (x :: L) = x.2 + total L := by unfold total; rw [List.map_cons, List.sum_cons]
theorem total_nil : total [] = 0 := rfl
theorem total_append (A B : List (Int × Int)) : total (A ++ B) = total A + total B := by unfold total; rw [List.map_append, List.sum_append]
theorem total_nn {L : List (Int × Int)} (h : ∀ x ∈ L, 0 ≤ x.2) : 0 ≤ total L := by
  induction L with
  | nil => exact Int.le_refl 0
  | cons x L ih =>
    rw [total_cons]
    have := h x List.mem_cons_self
    have := ih fun y hy => h y (List.mem_cons_of_mem _ hy)
    omega
theorem deal_zero (S : List (Int × Int)) {w : Int} (h : w ≤ 0) : deal S w = [] := by
  cases S with
  | nil => rfl
  | cons x S => unfold deal; rw [if_pos h]
theorem total_np {L : List (Int × Int)} (h : ∀ x ∈ L, x.2 ≤ 0) : total L ≤ 0 := by
  induction L with
  | nil => exact Int.le_refl 0
  | cons x L ih =>
    rw [total_cons]
    have := h x List.mem_cons_self
    have := ih fun y hy => h y (List.mem_cons_of_mem _ hy)
    omega
theorem deal_spec : ∀ (S : List (Int × Int)) (w : Int), S.Pairwise (fun a b => b.2 ≤ a.2) → 0 < w → w ≤ total S →
    ∃ A p f B r, S = A ++ (p, f) :: B ∧ deal S w = A ++ [(p, r)] ∧ 0 < r ∧ r ≤ f ∧ w = total A + r ∧ ∀ x ∈ A, 0 < x.2
  | [], w, _, h0, h1 => by rw [total_nil] at h1; omega
  | (p, f) :: S, w, hp, h0, h1 => by
    rw [total_cons] at h1
    have hp' := List.pairwise_cons.mp hp
    have hf : 0 < f := by
      by_cases q : 0 < f
      · exact q
      · have := total_np (L := S) fun x hx => by
          have := hp'.1 x hx
          simp only at this
          omega
        simp only at h1
        omega
    have ew : ¬ w ≤ 0 := by omega
    by_cases q : w ≤ f
    · refine ⟨[], p, f, S, w, rfl, ?_, h0, q, by rw [total_nil]; omega, fun _ h => nomatch h⟩
      show deal ((p, f) :: S) w = _
      unfold deal
      rw [if_neg ew]
      have e : min f w = w := by omega
      show (p, min f w) :: deal S (w - min f w) = _
      rw [e, deal_zero S (by omega)]
      rfl
    · obtain ⟨A, p', f', B, r, e1, e2, e3, e4, e5, e6⟩ := deal_spec S (w - f) hp'.2 (by omega) (by simp only at h1; omega)
      refine ⟨(p, f) :: A, p', f', B, r, by rw [e1]; rfl, ?_, e3, e4, by rw [total_cons]; show w = f + total A + r; omega, ?_⟩
      · unfold deal
        rw [if_neg ew]
        have e : min f w = f := by omega
        show (p, min f w) :: deal S (w - min f w) = _
        rw [e, e2]
        rfl
      · intro x hx
        rcases List.mem_cons.mp hx with rfl | hx
        · exact hf
        · exact e6 x hx
def srt (L : List (Int × Int)) : List (Int × Int) := L.mergeSort leR
theorem srt_perm (L : List (Int × Int)) : (srt L).Perm L := List.mergeSort_perm L leR
theorem srt_sorted (L : List (Int × Int)) : (srt L).Pairwise (fun a b => leR a b = true) :=
  List.pairwise_mergeSort (fun a b c h1 h2 => by simp only [leR, decide_eq_true_eq] at *; omega) (fun a b => by simp only [leR, Bool.or_eq_true, decide_eq_true_eq]; omega) L
theorem srt_ahead {L : List (Int × Int)} (h : (L.map (·.1)).Nodup) : (srt L).Pairwise Ahead := by
  have nd : ((srt L).map (·.1)).Nodup := ((srt_perm L).map (·.1)).nodup_iff.mpr h
  have nd' : (srt L).Pairwise (fun a b => a.1 ≠ b.1) := List.pairwise_map.mp nd
  refine (List.Pairwise.and (srt_sorted L) nd').imp fun {a b} ⟨h1, h2⟩ => ?_
  simp only [leR, decide_eq_true_eq] at h1
  unfold Ahead
  omega
/-- the whole story of a wish that is dealt -/
structure Story (L : List (Int × Int)) (many : Int) (A : List (Int × Int)) (p f r : Int) : Prop where
  dealt : deal (srt L) many = A ++ [(p, r)]
  r0 : 0 < r
  rf : r ≤ f
  sum : many = total A + r
  pos : ∀ x ∈ A, 0 < x.2
  mem : ∀ x ∈ A ++ [(p, f)], x ∈ L
  ahead : (A ++ [(p, f)]).Pairwise Ahead
  rest : ∀ x ∈ L, x ∉ A ++ [(p, f)] → Ahead (p, f) x
theorem story {L : List (Int × Int)} {many : Int} (g : Good L) (h0 : 0 < many) (h1 : many ≤ total L) : ∃ A p f r, Story L many A p f r := by
  have ps := srt_perm L
  obtain ⟨A, p, f, B, r, e1, e2, e3, e4, e5, e6⟩ := deal_spec (srt L) many ((srt_ahead g.nd).imp fun {a b} h => by unfold Ahead at h; omega) h0 (by rw [total_perm ps]; exact h1)
  have ha := srt_ahead g.nd
  have e1' : srt L = (A ++ [(p, f)]) ++ B := by rw [e1]; simp
  rw [e1'] at ha
  have hsplit := List.pairwise_append.mp ha
  refine ⟨A, p, f, r, e2, e3, e4, e5, e6, fun x hx => ?_, hsplit.1, fun x hx hn => ?_⟩
  · rw [← ps.mem_iff, e1']
    exact List.mem_append_left _ hx
  · rw [← ps.mem_iff, e1'] at hx
    rcases List.mem_append.mp hx with hx | hx
    · exact absurd hx hn
    · exact hsplit.2.2 (p, f) (by simp) x hx
theorem own_one : ∀ {L : List (Int × Int)}, (L.map (·.1)).Nodup → ∀ {c : Int × Int}, c ∈ L → L.filter (fun x => decide (x.1 = c.1)) = [c]
  | [], _, _, h => nomatch h
  | x :: L, nd, c, h => by
    have nd' := List.nodup_cons.mp nd
    rw [List.filter_cons]
    rcases List.mem_cons.mp h with rfl | h
    · rw [if_pos (by simp)]
      have : L.filter (fun x => decide (x.1 = c.1)) = [] := by
        rw [List.filter_eq_nil_iff]
        intro y hy q
        simp only [decide_eq_true_eq] at q
        exact nd'.1 (List.mem_map.mpr ⟨y, hy, q⟩)
      rw [this]
    · have hx : x.1 ≠ c.1 := fun e => nd'.1 (List.mem_map.mpr ⟨c, h, e.symm⟩)
      rw [if_neg (by simpa using hx)]
      exact own_one nd'.2 h
end Z9

set_option Elab.async false
set_option linter.all false
set_option maxRecDepth 100000
set_option maxHeartbeats 4000000
/-! sorted(rooms, key=_most_free_first), any length -/
namespace Z9
open PySem PySem.Spec PyProof.Rows L2 Evl Z
def top (i : Nat) : Stmt := PySem.Challenge.pw_stockfloor_k09_dealt.main.body.getD i (.Pass ⟨0, 0, 0, 0⟩)
abbrev s_mf : Stmt := top 6
section
variable {prog : Program} {w : World} {A : Around} {E : Value → Shared → Prop} {s : Shared} {K : PySem.W.Frag}
theorem ldL {M : Model} {s : Shared} {name : Str} {scope : Scope} {L a : Addr} {cd : Value} {m : Str → Option Value} {x : Str} {pos : Pos} {v : Value} {Q : Value → Shared → Prop} {A : Around} {E : Value → Shared → Prop} (hn : s.heap.Ns L m) (hv : m x = some v) (h : Q v s)
    (hk : scope.kind = .function := by rfl) (hl : (envOfC name scope L a cd).kindOf x = some .local := by rfl) (hd : (x == ("__debug__" : Str)) = false := by decide) :
    wpAny M A (eval (.Name x pos) (envOfC name scope L a cd)) Q E s := wpAny_Name (wpAny_loadName_local hk hl hn hv h) hd
theorem mf_run {f : Addr} {oc : Value} {od an : Option Addr} {osl : Array (Option Value)} {kV doc pm cdv ct : Value} {t : Addr} {p q : Int} {tp tq : Tok} {R : Value → Shared → Prop} (X : K.In s.heap) (hlim : s.heap.NoLimit)
    (lk : K.lookup f = some ⟨oc, od, .func (PySem.W.fnOf "_most_free_first" "_most_free_first" (defArgs s_mf) (defBody s_mf) (defScope s_mf) .none kV doc pm an cdv ct), osl⟩) (hcd : PySem.W.codeIn K cdv "_most_free_first" = true) (hroom : A.depth < recursionLimit) (hh : A.handled = none)
    (ht : IsTup s.heap t #[.int p tp, .int q tq])
    (h : ∀ h' tk a n, (∀ b o, s.heap.get? b = some o → h'.get? b = some o) → (∃ o, h'.get? a = some o ∧ o.cls = .type "tuple" ∧ ∃ t1 t2, o.data = .seq #[.int (-q) t1, .int p t2] n) → R (.ref a) { s with heap := h', toks := tk }) :
    codeAny (model prog w) A (.call (.ref f) ⟨[.ref t], []⟩) (fun r s' => ∃ u, r = .ok (.ret u) ∧ R u s') s := by
  refine Att.call_fn (binds := [("room", .ref t)]) X hlim lk hcd hroom (BindsTo.of_eq (by first | rfl | with_unfolding_all rfl)) (by first | rfl | decide | with_unfolding_all rfl) (fun s₁ IC => ?_) rfl rfl rfl
  obtain ⟨h₁, tk₁, rfl⟩ := IC.toInCall.same
  have k : ∀ b o, s.heap.get? b = some o → h₁.get? b = some o := IC.toInCall.keep
  have hn := IC.toInCall.ns
  have X₁ : K.In h₁ := X.keeps k
  have lt0 : s.heap.objs.size < h₁.objs.size := hn.lt
  have ne0 : ∀ b o, s.heap.get? b = some o → s.heap.objs.size ≠ b := fun b o e => Nat.ne_of_gt (Heap.lt_size e)
  have hh' : (A.deeper (envOfC "_most_free_first" (defScope s_mf) s.heap.objs.size f cdv)).handled = none := hh
  -- place, free = room
  refine wpAny_execs_cons (wpAny_Assign_stores (ldL (v := .ref t) hn (by first | rfl | with_unfolding_all rfl | kernel_rfl) ?_) (by rfl) (by rfl))
  have h1 : ∀ e : PySem.Env, (assignEach [(PySem.Expr.Tuple [.Name "place" ⟨22, 4, 22, 9⟩, .Name "free" ⟨22, 11, 22, 15⟩] 0 ⟨22, 4, 22, 15⟩)] e).map (·.2) = [assign (PySem.Expr.Tuple [.Name "place" ⟨22, 4, 22, 9⟩, .Name "free" ⟨22, 11, 22, 15⟩] 0 ⟨22, 4, 22, 15⟩) e] := fun _ => rfl
  have h2 : ∀ e : PySem.Env, (assignEach [PySem.Expr.Name "place" ⟨22, 4, 22, 9⟩, .Name "free" ⟨22, 11, 22, 15⟩] e).map (·.2) = [assign (PySem.Expr.Name "place" ⟨22, 4, 22, 9⟩) e, assign (PySem.Expr.Name "free" ⟨22, 11, 22, 15⟩) e] := fun _ => rfl
  rw [h1]
  have ht1 : IsTup h₁ t #[.int p tp, .int q tq] := let ⟨o, e, c, n, d⟩ := ht; ⟨o, k _ _ e, c, n, d⟩
  refine thn (assign_Tuple_tuple (Q := fun _ s' => _) hh' ht1 (by rfl) (by rfl) fun h₂ hx => ?_) fun _ s2 q => q
  rw [h2]
  have k2 : ∀ b o, h₁.get? b = some o → h₂.get? b = some o := fun b o e => hx b o (Nat.ne_of_lt (Heap.lt_size e)) e
  have hn2 := hn.at (h' := h₂) fun o e => k2 _ _ e
  refine assignInOrder_cons (wpAny_assign_Name (wpAny_storeName_local (by rfl) hn2 (fun h₃ hn3 hs3 => ?_) (by rfl)))
  refine assignInOrder_cons (wpAny_assign_Name (wpAny_storeName_local (by rfl) hn3 (fun h₄ hn4 hs4 => ?_) (by rfl)))
  refine assignInOrder_nil ?_
  have k4 : ∀ b o, s.heap.get? b = some o → h₄.get? b = some o := fun b o e => (hs4.2 b (Ne.symm (ne0 b o e))).trans ((hs3.2 b (Ne.symm (ne0 b o e))).trans (k2 b o (k b o e)))
  -- return (-free, place)
  show wpAny _ _ (execs _ _) _ _ _
  refine wpAny_execs_cons (wpAny_Return_some (wpAny_Tuple_spliced ?_))
  show wpAny _ _ (spliced ((false, _) :: (false, _) :: [])) _ _ _
  refine Calls.spliced_cons (UnaryOp_ (ldL (v := .int q tq) hn4 (by first | rfl | with_unfolding_all rfl | kernel_rfl) (neg_int ?_)))
  refine Calls.spliced_cons (ldL (v := .int p tp) (hn4.at fun o e => e) (by first | rfl | with_unfolding_all rfl | kernel_rfl) ?_)
  refine Calls.spliced_nil ?_
  refine ⟨by show 2 ≤ sizeLine; decide, _, rfl, ?_⟩
  exact h _ _ _ 0 (fun b o e => Heap.get?_push_of_some _ (k4 b o e)) ⟨_, Heap.get?_push_size _ rfl, rfl, _, _, rfl⟩
def Rm (K : PySem.W.Frag) (H : Hp) (x : V) (k : Int × Int) : Prop := ∃ t, x = .ref t ∧ SqT K H t [.int k.1, .int k.2]
def rSortK (K : PySem.W.Frag) (f : Addr) : List V → List V → Hp → VK → Prop := fun vs zs H Q => ∃ (a : Addr) (bs : List (V × (Int × Int))), vs = [.ref a] ∧ zs = [.ref f] ∧ SqL K H a (bs.map (·.1)) ∧ (∀ b ∈ bs, Rm K H b.1 b.2) ∧
  ∀ p, H p = none → Q (.ref p) (upd H p (.lst ((bs.mergeSort fun p q => leR p.2 q.2).map (·.1))))
theorem cr_sortK {X : Cx} {f : Addr} {oc : Value} {od an : Option Addr} {osl : Array (Option Value)} {kV doc pm cdv ct : Value} {k : Nat} (hr : Room (k + 1) X.A)
    (lk : X.K.lookup f = some ⟨oc, od, .func (PySem.W.fnOf "_most_free_first" "_most_free_first" (defArgs s_mf) (defBody s_mf) (defScope s_mf) .none kV doc pm an cdv ct), osl⟩) (hcd : PySem.W.codeIn X.K cdv "_most_free_first" = true) :
    CallRK X (.builtin "sorted") [Str.ofString "key"] (rSortK X.K f) := by
  intro pins s σ H vs zs us ws Q I r rz h
  obtain ⟨a, bs, rfl, rfl, hs, hb, q⟩ := h
  obtain rfl := Vals.ref1 r
  obtain ⟨w1, rfl, e1⟩ := vals1 rz
  obtain rfl : w1 = Value.ref f := e1
  obtain ⟨its, rv, hl, hz⟩ := I.list hs
  have e : PySem.W.EachIs (fun (v : Value) (b : V × (Int × Int)) => RelV b.1 v ∧ Rm X.K H b.1 b.2) its bs := by
    clear hl hz hs q
    induction bs generalizing its with
    | nil => cases rv; exact .nil
    | cons b bs ih =>
      cases rv with
      | cons r1 r2 => exact .cons ⟨r1, hb b List.mem_cons_self⟩ (ih (fun c hc => hb c (List.mem_cons_of_mem _ hc)) _ r2)
  have hlen : bs.length ≤ sizeLine := by rw [List.length_map] at hz; exact hz
  refine PySem.W.sorted_key_data (b := false) (fun b : V × (Int × Int) => .tuple [.int (-b.2.2), .int b.2.1]) hl.isList e (PySem.W.AllAlike.of fun _ _ => by simp [PySem.W.alike, PySem.W.alikeAll]) (PySem.W.Sortable.tuples fun _ => ⟨_, _, rfl⟩) hlen (fun p _ => ?_) (ksk_s1 _ _) (fun _ => ksk_l1 _ _) (fun _ => ksk_t1 _ _)
    (fun v b ⟨rb, t, et, ht⟩ _ h tk kp => ?_) fun out c h' tk kp hf hD hol eo => ?_
  · have hd : (PyData.tuple [.int (-p.2.2), .int p.2.1]).depth = 1 := by simp [PyData.depth, PyData.depthAll]
    have := hr.un
    omega
  · rw [et] at rb
    obtain rfl : v = Value.ref t := rb
    have I2 : Inv X pins σ H { s with heap := h, toks := tk } := I.kept kp
    obtain ⟨jts, rj, ht2, _⟩ := I2.tuple ht
    cases rj with
    | cons r1 r2 =>
      cases r2 with
      | cons r2 r3 =>
        cases r3
        obtain ⟨t1, rfl⟩ := r1
        obtain ⟨t2, rfl⟩ := r2
        refine wpAny_call (codeAny_mono (mf_run I2.kIn I2.nolimit lk hcd ?_ ?_ ht2 (R := PySem.W.KeyPure (.tuple [.int (-b.2.2), .int b.2.1]) { s with heap := h, toks := tk }) ?_) fun rr s' ⟨u, e1, e2⟩ => ?_)
        · have := hr.dp
          show X.A.depth < _
          omega
        · exact hr.hd
        · rintro h2 tk2 a2 n k2 ⟨o, e2, e3, t3, t4, e4⟩
          exact ⟨h2, tk2, rfl, k2, .tuple e2 e3 e4 (by
            have : (#[Value.int (-b.2.2) t3, Value.int b.2.1 t4] : Array Value).toList = [Value.int (-b.2.2) t3, Value.int b.2.1 t4] := rfl
            rw [this]
            exact .cons (.int _ _) (.cons (.int _ _) .nil))⟩
        · subst e1; exact e2
  · rw [PySem.W.dataLe_ii (β := V × (Int × Int)) (fun p => -p.2.2) (fun p => p.2.1)] at eo
    have ev : Vals ((bs.mergeSort fun p q => leR p.2 q.2).map (·.1)) out := by
      have : ∀ {bs : List (V × (Int × Int))} {out : List Value}, PySem.W.EachIs (fun (v : Value) (b : V × (Int × Int)) => RelV b.1 v ∧ Rm X.K H b.1 b.2) out bs → Vals (bs.map (·.1)) out := by
        intro bs out h
        induction h with
        | nil => exact .nil
        | cons a _ ih => exact .cons a.1 ih
      exact this eo
    have hlen2 : ((bs.mergeSort fun p q => leR p.2 q.2).map (·.1)).length ≤ sizeLine := by
      rw [List.length_map, List.length_mergeSort]; exact hlen
    refine ⟨.ref _, upd H (s.heap.objs.size + 1) (.lst ((bs.mergeSort fun p q => leR p.2 q.2).map (·.1))), I.laid (t' := tk) kp (Nat.le_succ _) ⟨hlen2, out, c, ev, hD⟩, rfl, q _ (I.hok.fresh (Nat.le_succ _))⟩
end
end Z9


set_option Elab.async false
set_option linter.all false
set_option maxRecDepth 100000
set_option maxHeartbeats 4000000
namespace Z9
open PySem PySem.Spec PyProof.Rows L2 Z
open Evl (Ex rLenS rListS)
abbrev s__law_cell_at : Stmt := top 9
theorem sc__law_cell_at : FnScope ["_law_script", "_law_k"] ["_law_script", "_law_k"] (defScope s__law_cell_at) := ⟨rfl, rfl, rfl, by decide +kernel, rfl, by decide +kernel, by decide +kernel⟩
abbrev s__law_free_by : Stmt := top 13
theorem sc__law_free_by : FnScope ["_law_cell", "_law_way"] ["_law_cell", "_law_way"] (defScope s__law_free_by) := ⟨rfl, rfl, rfl, by decide +kernel, rfl, by decide +kernel, by decide +kernel⟩
abbrev s__law_rooms : Stmt := top 14
theorem sc__law_rooms : FnScope ["_law_script", "_law_way", "_law_least", "_law_rooms_here", "_law_k", "_law_cell", "_law_at"] ["_law_script"] (defScope s__law_rooms) := ⟨rfl, rfl, rfl, by decide +kernel, rfl, by decide +kernel, by decide +kernel⟩
abbrev s__law_whole : Stmt := top 8
theorem sc__law_whole : FnScope ["_law_found"] ["_law_found"] (defScope s__law_whole) := ⟨rfl, rfl, rfl, by decide +kernel, rfl, by decide +kernel, by decide +kernel⟩
abbrev s__law_pairs : Stmt := top 15
theorem sc__law_pairs : FnScope ["_law_found", "_law_pair"] ["_law_found"] (defScope s__law_pairs) := ⟨rfl, rfl, rfl, by decide +kernel, rfl, by decide +kernel, by decide +kernel⟩
abbrev s__law_ahead : Stmt := top 16
theorem sc__law_ahead : FnScope ["_law_one", "_law_other"] ["_law_one", "_law_other"] (defScope s__law_ahead) := ⟨rfl, rfl, rfl, by decide +kernel, rfl, by decide +kernel, by decide +kernel⟩
abbrev s__law_chosen : Stmt := top 17
theorem sc__law_chosen : FnScope ["_law_rooms_here", "_law_found", "_law_chosen_here", "_law_place", "_law_part", "_law_own", "_law_room"] ["_law_rooms_here", "_law_found"] (defScope s__law_chosen) := ⟨rfl, rfl, rfl, by decide +kernel, rfl, by decide +kernel, by decide +kernel⟩
abbrev s__together : Stmt := top 5
theorem sc__together : FnScope ["rooms", "_", "free"] ["rooms"] (defScope s__together) := ⟨rfl, rfl, rfl, by decide +kernel, rfl, by decide +kernel, by decide +kernel⟩
abbrev s__most_free_first : Stmt := top 6
theorem sc__most_free_first : FnScope ["room", "place", "free"] ["room"] (defScope s__most_free_first) := ⟨rfl, rfl, rfl, by decide +kernel, rfl, by decide +kernel, by decide +kernel⟩
abbrev s_dealt : Stmt := top 4
theorem sc_dealt : FnScope ["rooms", "many", "parts", "wanted", "place", "free", "part"] ["rooms", "many"] (defScope s_dealt) := ⟨rfl, rfl, rfl, by decide +kernel, rfl, by decide +kernel, by decide +kernel⟩
abbrev s_law : Stmt := top 18
theorem sc_law : FnScope ["_law_script", "_law_rooms_here", "_law_room", "_law_whole_here", "_law_many", "_law_handed", "_law_found", "_law_chosen_here", "_law_one", "_law_other", "_law_k", "_law_place", "_law_part"] ["_law_script"] (defScope s_law) := ⟨rfl, rfl, rfl, by decide +kernel, rfl, by decide +kernel, by decide +kernel⟩
structure Dat where
  a_law_cell_at : Addr
  f_law_cell_at : FuncData
  a_law_free_by : Addr
  f_law_free_by : FuncData
  a_law_rooms : Addr
  f_law_rooms : FuncData
  a_law_whole : Addr
  f_law_whole : FuncData
  a_law_pairs : Addr
  f_law_pairs : FuncData
  a_law_ahead : Addr
  f_law_ahead : FuncData
  a_law_chosen : Addr
  f_law_chosen : FuncData
  a_together : Addr
  f_together : FuncData
  a_most_free_first : Addr
  f_most_free_first : FuncData
  a_dealt : Addr
  f_dealt : FuncData
  a_law : Addr
  f_law : FuncData
  CF : Addr
structure Txt (K : PySem.W.Frag) (mg : Str → Option Value) (D : Dat) : Prop where
  n_bool : mg "bool" = none
  n_int : mg "int" = none
  n_isinstance : mg "isinstance" = none
  n_len : mg "len" = none
  n_list : mg "list" = none
  n_max : mg "max" = none
  n_min : mg "min" = none
  n_range : mg "range" = none
  n_sorted : mg "sorted" = none
  n_sum : mg "sum" = none
  n_tuple : mg "tuple" = none
  n_zip : mg "zip" = none
  g_law_cell_at : mg "_law_cell_at" = some (.ref D.a_law_cell_at)
  F_law_cell_at : Fun K "_law_cell_at" "_law_cell_at" s__law_cell_at D.a_law_cell_at D.f_law_cell_at
  b_law_cell_at : Binds K D.f_law_cell_at ["_law_script", "_law_k"] []
  g_law_free_by : mg "_law_free_by" = some (.ref D.a_law_free_by)
  F_law_free_by : Fun K "_law_free_by" "_law_free_by" s__law_free_by D.a_law_free_by D.f_law_free_by
  b_law_free_by : Binds K D.f_law_free_by ["_law_cell", "_law_way"] []
  g_law_rooms : mg "_law_rooms" = some (.ref D.a_law_rooms)
  F_law_rooms : Fun K "_law_rooms" "_law_rooms" s__law_rooms D.a_law_rooms D.f_law_rooms
  b_law_rooms : Binds K D.f_law_rooms ["_law_script"] []
  g_law_whole : mg "_law_whole" = some (.ref D.a_law_whole)
  F_law_whole : Fun K "_law_whole" "_law_whole" s__law_whole D.a_law_whole D.f_law_whole
  b_law_whole : Binds K D.f_law_whole ["_law_found"] []
  g_law_pairs : mg "_law_pairs" = some (.ref D.a_law_pairs)
  F_law_pairs : Fun K "_law_pairs" "_law_pairs" s__law_pairs D.a_law_pairs D.f_law_pairs
  b_law_pairs : Binds K D.f_law_pairs ["_law_found"] []
  g_law_ahead : mg "_law_ahead" = some (.ref D.a_law_ahead)
  F_law_ahead : Fun K "_law_ahead" "_law_ahead" s__law_ahead D.a_law_ahead D.f_law_ahead
  b_law_ahead : Binds K D.f_law_ahead ["_law_one", "_law_other"] []
  g_law_chosen : mg "_law_chosen" = some (.ref D.a_law_chosen)
  F_law_chosen : Fun K "_law_chosen" "_law_chosen" s__law_chosen D.a_law_chosen D.f_law_chosen
  b_law_chosen : Binds K D.f_law_chosen ["_law_rooms_here", "_law_found"] []
  g_together : mg "_together" = some (.ref D.a_together)
  F_together : Fun K "_together" "_together" s__together D.a_together D.f_together
  b_together : Binds K D.f_together ["rooms"] []
  g_most_free_first : mg "_most_free_first" = some (.ref D.a_most_free_first)
  F_most_free_first : Fun K "_most_free_first" "_most_free_first" s__most_free_first D.a_most_free_first D.f_most_free_first
  b_most_free_first : Binds K D.f_most_free_first ["room"] []
  g_dealt : mg "dealt" = some (.ref D.a_dealt)
  F_dealt : Fun K "dealt" "dealt" s_dealt D.a_dealt D.f_dealt
  b_dealt : Binds K D.f_dealt ["rooms", "many"] []
  g_law : mg "law" = some (.ref D.a_law)
  F_law : Fun K "law" "law" s_law D.a_law D.f_law
  b_law : Binds K D.f_law ["_law_script"] []
  gF : mg "TooFew" = some (.ref D.CF)
  xF : PySem.W.excIn K D.CF [.type "ValueError", .type "Exception", .type "BaseException", .type "object"] "ValueError.__new__" = true
  kF : PySem.W.keepIn K (.ref D.CF) = true
  bF : PySem.W.subIn K (.ref D.CF) (.type "BaseException") = some true
  tF : PySem.W.typeIn K (.ref D.CF) = some (.type "type")
  iF : PySem.W.isClsIn K D.CF = true
  sF : PySem.W.subIn K (.ref D.CF) (.ref D.CF) = some true
  lkM : ∃ (oc : Value) (od an : Option Addr) (osl : Array (Option Value)) (kV doc pm cdv ct : Value), K.lookup D.a_most_free_first = some ⟨oc, od, .func (PySem.W.fnOf "_most_free_first" "_most_free_first" (defArgs s__most_free_first) (defBody s__most_free_first) (defScope s__most_free_first) .none kV doc pm an cdv ct), osl⟩ ∧ PySem.W.codeIn K cdv "_most_free_first" = true
def R_cell_at (ds : List DD) (d : DD) : Prop := ∃ (ns : List Int) (k : Int), ds = [.sl (ns.map DD.int), .int k] ∧ 0 ≤ k ∧ d = .int (ns.getD k.toNat 0)
def R_free_by (ds : List DD) (d : DD) : Prop := ∃ (c w : Int), ds = [.int c, .int w] ∧ d = .int (freeBy c w)
def R_rooms (ds : List DD) (d : DD) : Prop := ∃ (ns : List Int), ds = [.sl (ns.map DD.int)] ∧ ns.length ≤ 63 ∧ d = .lst ((rooms ns).map room)
def R_whole (ds : List DD) (d : DD) : Prop := ∃ i : Int, ds = [.int i] ∧ d = .bl true
def R_pairs (ds : List DD) (d : DD) : Prop := ∃ L : List (Int × Int), ds = [.lst (L.map room)] ∧ d = .bl true
def aheadB (a b : Int × Int) : Bool := decide (b.2 < a.2) || (decide (a.2 = b.2) && decide (a.1 < b.1))
def R_ahead (ds : List DD) (d : DD) : Prop := ∃ a b : Int × Int, ds = [room a, room b] ∧ d = .bl (aheadB a b)
def R_chosen (ds : List DD) (d : DD) : Prop := ∃ (L M C : List (Int × Int)), ds = [.lst (L.map room), .lst (M.map room)] ∧ (L.map (·.1)).Nodup ∧ L.length ≤ 180 ∧ M.length = C.length ∧ M.length ≤ 180 ∧
  (∀ (i : Nat) (m c : Int × Int), M[i]? = some m → C[i]? = some c → c ∈ L ∧ c.1 = m.1 ∧ 0 < m.2 ∧ m.2 ≤ c.2) ∧ d = .lst (C.map room)
def R_together (ds : List DD) (d : DD) : Prop := ∃ L : List (Int × Int), ds = [.lst (L.map room)] ∧ L.length ≤ 1000 ∧ d = .int (total L)
def R_dealt (ds : List DD) (d : DD) : Prop := ∃ (L : List (Int × Int)) (w : Int), ds = [.lst (L.map room), .int w] ∧ L.length ≤ 1000 ∧ w ≤ total L ∧ d = .lst ((deal (srt L) w).map room)
def RX_dealt (C : Addr) (ds : List DD) (c : Value) : Prop := ∃ (L : List (Int × Int)) (w : Int), ds = [.lst (L.map room), .int w] ∧ L.length ≤ 1000 ∧ total L < w ∧ c = .ref C
theorem atI_cell {ns : List Int} {k : Int} (h0 : 0 ≤ k) (h1 : k < (ns.length : Int)) : atI (ns.map DD.int) k = some (.int (ns.getD k.toNat 0)) := by
  obtain ⟨j, rfl⟩ := Int.eq_ofNat_of_zero_le h0
  refine atI_nat ?_
  have hj : j < ns.length := by omega
  rw [List.getElem?_map, List.getElem?_eq_getElem hj, Int.toNat_natCast, List.getD_eq_getElem?_getD, List.getElem?_eq_getElem hj]
  rfl
theorem room_0 (p : Int × Int) : atI [DD.int p.1, DD.int p.2] 0 = some (.int p.1) := rfl
theorem room_1 (p : Int × Int) : atI [DD.int p.1, DD.int p.2] 1 = some (.int p.2) := rfl
theorem mem_room {L : List (Int × Int)} {i : Nat} {d : DD} (h : (L.map room)[i]? = some d) : ∃ p, L[i]? = some p ∧ d = room p := by
  rw [List.getElem?_map] at h
  cases e : L[i]? with
  | none => rw [e] at h; cases h
  | some p => rw [e] at h; exact ⟨p, rfl, (Option.some.inj h).symm⟩
def fstD : DD → Int
  | .tup (.int x :: _) => x
  | _ => 0
def sndD : DD → DD
  | .tup [_, x] => x
  | _ => .non
theorem kept_snd (L : List (Int × Int)) : kept (fun _ => true) sndD (L.map room) = (L.map (·.2)).map DD.int := by
  unfold kept
  rw [List.filter_eq_self.mpr (fun _ _ => rfl), List.map_map, List.map_map]
  rfl
theorem kept_own (L : List (Int × Int)) (k : Int) : kept (fun d => decide (fstD d = k)) id (L.map room) = (L.filter fun x => decide (x.1 = k)).map room := by
  unfold kept
  rw [List.map_id, List.filter_map]
  rfl
theorem ee_sortK' : True := trivial
theorem zip_fst : ∀ {vs : List V} {L : List (Int × Int)}, vs.length = L.length → (vs.zip L).map (·.1) = vs
  | [], _, _ => rfl
  | v :: vs, [], h => by cases h
  | v :: vs, x :: L, h => by
    show v :: (vs.zip L).map (·.1) = v :: vs
    rw [zip_fst (by simpa using h)]
theorem zip_snd : ∀ {vs : List V} {L : List (Int × Int)}, vs.length = L.length → (vs.zip L).map (·.2) = L
  | [], [], _ => rfl
  | [], _ :: _, h => by cases h
  | v :: vs, [], h => by cases h
  | v :: vs, x :: L, h => by
    show x :: (vs.zip L).map (·.2) = x :: L
    rw [zip_snd (by simpa using h)]
theorem zip_is {K : PySem.W.Frag} {G : Hp} : ∀ {vs : List V} {L : List (Int × Int)}, IsAll K G vs (L.map room) → ∀ b ∈ vs.zip L, Is K G b.1 (room b.2)
  | [], _, _, b, hb => by cases hb
  | _ :: _, [], _, b, hb => by cases hb
  | v :: vs, x :: L, h, b, hb => by
    cases h with
    | cons h hs =>
      rcases List.mem_cons.mp hb with rfl | hb
      · exact h
      · exact zip_is hs b hb
theorem all_of {K : PySem.W.Frag} {G : Hp} : ∀ {bs : List (V × (Int × Int))}, (∀ b ∈ bs, Is K G b.1 (room b.2)) → IsAll K G (bs.map (·.1)) ((bs.map (·.2)).map room)
  | [], _ => .nil
  | b :: bs, h => .cons (h b List.mem_cons_self) (all_of fun c hc => h c (List.mem_cons_of_mem _ hc))
theorem el_sortK {K : PySem.W.Frag} {W : List As} {es : List (Option DD)} {ta : TE} {f : Addr} {L : List (Int × Int)} (h : EE K W es ta (.lst (L.map room))) :
    EL K W es (tCKw (rSortK K f) (tCons ta tNil) (tCons (tC (.ref f)) tNil)) ((srt L).map room) := fun σ G H S E Q q =>
  h S E _ fun v G2 H2 e2 S2 i2 => by
    cases i2 with
    | @lst a vs _ sq al =>
      have hl : vs.length = L.length := by rw [al.length, List.length_map]
      refine ⟨a, vs.zip L, rfl, rfl, ?_, fun b hb => ?_, fun p hp => q p G2 _ e2 (S2.lcNew hp ?_)⟩
      · rw [zip_fst hl]
        exact Evl.sq_of (S2.ex _ _ sq)
      · have hi := (zip_is al b hb).mono S2.ex
        obtain ⟨x, b2⟩ := b
        cases hi with
        | @tup t ws _ st aw =>
          cases aw with
          | cons h1 h2 =>
            cases h2 with
            | cons h2 h3 =>
              cases h3
              rw [h1.int_eq, h2.int_eq] at st
              exact ⟨t, rfl, st⟩
      · have e : (srt L) = ((vs.zip L).mergeSort fun p q => leR p.2 q.2).map (·.2) := by
          unfold srt
          have m := List.map_mergeSort (r := fun (p q : V × (Int × Int)) => leR p.2 q.2) (s := leR) (f := fun p : V × (Int × Int) => p.2) (l := vs.zip L) (fun _ _ _ _ => rfl)
          rw [m, zip_snd hl]
        rw [e]
        exact all_of fun b hb => zip_is al b ((List.mergeSort_perm _ _).mem_iff.mp hb)
theorem cutD_take (xs : List DD) {k : Int} (h0 : 0 ≤ k) (h1 : k ≤ (xs.length : Int)) : Z.cutD xs none (some k) = xs.take k.toNat := by
  obtain ⟨j, rfl⟩ := Int.eq_ofNat_of_zero_le h0
  unfold Z.cutD
  rw [HT.sIx_none, HT.sIx_nat, Int.toNat_natCast, List.drop_zero, Nat.sub_zero, Nat.min_eq_left (by omega)]
theorem cutD_drop (xs : List DD) {k : Int} (h0 : 0 ≤ k) (h1 : k ≤ (xs.length : Int)) : Z.cutD xs (some k) none = xs.drop k.toNat := by
  obtain ⟨j, rfl⟩ := Int.eq_ofNat_of_zero_le h0
  unfold Z.cutD
  rw [HT.sIx_none, HT.sIx_nat, Int.toNat_natCast, Nat.min_eq_left (by omega), List.take_of_length_le (by rw [List.length_drop]; omega)]
theorem ee_len_room {K : PySem.W.Frag} {W : List As} (L : List (Int × Int)) : RCb K W (rLenS K) [.lst (L.map room)] (.int (L.length : Int)) := by
  have h := rc_len (K := K) (W := W) (.lst (L.map room))
  rw [List.length_map] at h
  exact h
theorem eqv_room (x y : Int × Int) : PyData.eqv (pyD (room x)) (pyD (room y)) = decide (x = y) := by
  show PyData.eqv (.tuple [.int x.1, .int x.2]) (.tuple [.int y.1, .int y.2]) = _
  simp only [PyData.eqv, PyData.eqvAll, Bool.and_true]
  obtain ⟨a, b⟩ := x
  obtain ⟨c, d⟩ := y
  rw [Bool.eq_iff_iff]
  simp only [Bool.and_eq_true, beq_iff_eq, decide_eq_true_eq, Prod.mk.injEq]
theorem any_room (x : Int × Int) : ∀ L : List (Int × Int), ((pyDs (L.map room)).any fun z => PyData.eqv z (pyD (room x))) = decide (x ∈ L)
  | [] => rfl
  | y :: L => by
    show (PyData.eqv (pyD (room y)) (pyD (room x)) || (pyDs (L.map room)).any fun z => PyData.eqv z (pyD (room x))) = _
    rw [any_room x L, eqv_room, Bool.eq_iff_iff]
    simp only [Bool.or_eq_true, decide_eq_true_eq, List.mem_cons]
    exact ⟨fun h => h.imp Eq.symm id, fun h => h.imp Eq.symm id⟩
theorem eqvAll_rooms : ∀ L : List (Int × Int), PyData.eqvAll (pyDs (L.map room)) (pyDs (L.map room)) = true
  | [] => rfl
  | y :: L => by
    show (PyData.eqv (pyD (room y)) (pyD (room y)) && PyData.eqvAll (pyDs (L.map room)) (pyDs (L.map room))) = true
    rw [eqvAll_rooms L, eqv_room]
    simp
theorem ok_rooms : ∀ L : List (Int × Int), okDs (L.map room) = true
  | [] => rfl
  | y :: L => by
    show (okD (room y) && okDs (L.map room)) = true
    rw [ok_rooms L]
    rfl
theorem lay_rooms : ∀ L : List (Int × Int), PyData.canLayAll0 (pyDs (L.map room)) = true ∧ PyData.depthAll (pyDs (L.map room)) ≤ 1
  | [] => ⟨rfl, Nat.zero_le _⟩
  | y :: L => by
    obtain ⟨h1, h2⟩ := lay_rooms L
    refine ⟨?_, ?_⟩
    · show (PyData.canLay0 (pyD (room y)) && PyData.canLayAll0 (pyDs (L.map room))) = true
      rw [h1]
      rfl
    · show max (PyData.depth (pyD (room y))) (PyData.depthAll (pyDs (L.map room))) ≤ 1
      have : PyData.depth (pyD (room y)) = 1 := by simp [room, pyD, pyDs, PyData.depth, PyData.depthAll]
      omega
theorem shaped_rooms (L : List (Int × Int)) : SeqAt.shaped (.list (pyDs (L.map room))) = true := by
  obtain ⟨h1, h2⟩ := lay_rooms L
  unfold SeqAt.shaped
  have e1 : PyData.canLay0 (.list (pyDs (L.map room))) = true := by simp only [PyData.canLay0]; exact h1
  have e2 : PyData.depth (.list (pyDs (L.map room))) ≤ 64 := by simp only [PyData.depth]; omega
  rw [e1, decide_eq_true e2]
  rfl
theorem shaped_room (x : Int × Int) : SeqAt.shaped (pyD (room x)) = true := by
  simp [room, pyD, pyDs, SeqAt.shaped, PyData.canLay0, PyData.canLayAll0, PyData.depth, PyData.depthAll]
theorem cutD_last (A : List DD) (x : DD) : Z.cutD (A ++ [x]) none (some (-1)) = A := by
  unfold Z.cutD
  have e : HT.sIx (A ++ [x]).length (A ++ [x]).length (some (-1)) = A.length := by
    show (if (-1 : Int) < 0 then ((-1 : Int) + ((A ++ [x]).length : Int)).toNat else min (-1 : Int).toNat (A ++ [x]).length) = _
    rw [if_pos (by decide), List.length_append, List.length_singleton]
    omega
  rw [e, HT.sIx_none, List.drop_zero, Nat.sub_zero, List.take_left]
def many0 (ns : List Int) (S : Int) : Int := 1 + cc ns 1 / 3 % max 1 S
def many1 (ns : List Int) (S : Int) : Int := if cc ns 1 % 3 = 1 then S + 1 else many0 ns S
def manyOf (ns : List Int) (S : Int) : Int := if (decide (cc ns 1 % 3 = 2) && decide (0 < S)) = true then S else many1 ns S
theorem many_pos (ns : List Int) {S : Int} (h : 0 ≤ S) : 0 < manyOf ns S := by
  unfold manyOf many1 many0
  have h1 := Int.emod_nonneg (cc ns 1 / 3) (b := max 1 S) (by omega)
  split
  · rename_i q
    have := (Bool.and_eq_true_iff.mp q).2
    exact of_decide_eq_true this
  · split <;> omega
theorem aheadB_of {a b : Int × Int} (h : Ahead a b) : aheadB a b = true := by
  unfold aheadB
  unfold Ahead at h
  rw [Bool.or_eq_true, Bool.and_eq_true, decide_eq_true_eq, decide_eq_true_eq, decide_eq_true_eq]
  exact h
theorem exm_self' {K : PySem.W.Frag} {S : Addr} (h1 : PySem.W.subIn K (.ref S) (.type "BaseException") = some true) (h2 : PySem.W.isClsIn K S = true) (h3 : PySem.W.typeIn K (.ref S) = some (.type "type")) (h4 : PySem.W.subIn K (.ref S) (.ref S) = some true) :
    PySem.W.exmOne K (.ref S) (.ref S) = some true := by
  have e1 : (PySem.W.subIn K (.ref S) (.type "BaseException") == some true) = true := by rw [h1] <;> rfl
  have e2 : ((PySem.W.clsIn K S).isSome && PySem.W.typeIn K (.ref S) == some (.type "type")) = true := by
    have h2' : (PySem.W.clsIn K S).isSome = true := h2
    rw [h2', h3] <;> rfl
  show (if (PySem.W.subIn K (.ref S) (.type "BaseException") == some true) = true then (if ((PySem.W.clsIn K S).isSome && PySem.W.typeIn K (.ref S) == some (.type "type")) = true then PySem.W.subIn K (.ref S) (.ref S) else none) else none) = some true
  rw [if_pos e1, if_pos e2]
  exact h4
end Z9


set_option Elab.async false
set_option linter.all false
set_option maxRecDepth 100000
set_option maxHeartbeats 4000000
namespace Z9
open PySem PySem.Spec PyProof.Rows L2 Z
open Evl (Ex rLenS rListS)
local macro_rules | `(tactic| walk_at "rr") => `(tactic| first
  | exact ⟨_, rfl, rfl⟩
  | exact ⟨_, _, rfl, rfl⟩
  | exact ⟨_, _, _, rfl, rfl⟩
  | exact ⟨_, _, rfl, by omega, rfl⟩)
local macro_rules | `(tactic| walk_at "ev") => `(tactic| first
  | ((with_reducible apply ee_c); first | exact .int _ | exact .str _ | exact .bl _ | exact .non)
  | ((with_reducible apply ee_var); exact rfl)
  | ((with_reducible apply ee_op) <;> walk_at "ev")
  | ((with_reducible apply ee_cb) <;> walk_at "ev")
  | ((with_reducible apply ee_call) <;> walk_at "ev")
  | ((with_reducible apply ee_tup) <;> walk_at "ev")
  | ((with_reducible apply ee_notV) <;> walk_at "ev")
  | (with_reducible exact ea_nil)
  | ((with_reducible apply ea_cons) <;> walk_at "ev")
  | ((with_reducible apply et_test) <;> walk_at "ev")
  | ((with_reducible apply et_B) <;> walk_at "ev")
  | ((with_reducible apply et_and) <;> (try intro _) <;> walk_at "ev")
  | ((with_reducible apply et_or) <;> (try intro _) <;> walk_at "ev")
  | ((with_reducible apply et_not) <;> walk_at "ev")
  | ((with_reducible apply ro_I0); first | exact .int _ | exact .bl _)
  | ((with_reducible apply ro_I); rotate_left; (first | exact .int _ | exact .bl _); (first | exact ⟨by decide, by decide⟩ | exact .inl ⟨by decide, by decide⟩ | exact .inr ⟨by decide, by decide⟩ | (show (0 : Int) < _; omega) | (show (0 : Int) < _; decide) | skip))
  | (with_reducible exact ro_eqI) | (with_reducible exact ro_neI) | (with_reducible exact ro_eqS) | (with_reducible exact ro_neS)
  | (with_reducible apply ro_ixLk (.lst _))
  | (with_reducible apply ro_ixLk (.sl _))
  | (with_reducible apply ro_ixT)
  | (with_reducible exact rc_len (.lst _)) | (with_reducible exact rc_len (.sl _)) | (with_reducible exact rc_lenT)
  | (with_reducible exact rc_max2) | (with_reducible exact rc_min2) | (with_reducible exact rc_int_b) | (with_reducible exact rc_sum)
  | (with_reducible exact eo_none)
  | ((with_reducible apply eo_some) <;> walk_at "ev")
  | (show _ ≤ 1000; decide)
  | walk_at "rr"
  | skip)
section
variable {P : Program} {w : World} {K : PySem.W.Frag} {mg : Str → Option Value} {base : Heap} {D : Dat}
theorem ok_law_cell_at (T : Txt K mg D) : FnOk P w K mg base CX0 1 D.a_law_cell_at D.f_law_cell_at ["_law_script", "_law_k"] (spP K R_cell_at) := by
  refine fn_P (K := K) T.F_law_cell_at sc__law_cell_at (by rintro _ _ ⟨_, _, rfl, _⟩; rfl) fun cdv A outer s H E hr => ?_
  refine ⟨_, (pss_cons (ps_if (pt_cmpR op_lt (pv 1) (pe_callB call_lenS' (by rfl) T.n_len PySem.boot_len (pa_cons (pv 0) pa_nil)) (nomark _)) (pss_one (ps_ret (pe_ix ix_list (pv 0) (pv 1) (fun _ _ => rfl)))) pss_nil)
      (pss_one (ps_ret pe_int))), ?_⟩
  try dsimp only [cxOf, Cx.nox, Cx.wish]
  rintro _ _ W rt ⟨ns, k, rfl, h0, rfl⟩ hrt
  refine sj_seq (sj_if (b := decide (k < ((ns.map DD.int).length : Int))) (by walk_at "ev") (fun h => ?_) fun h => ?_)
  · have h1 : k < (ns.length : Int) := by simpa using h
    refine sj_ret (d := .int (ns.getD k.toNat 0)) ?_ hrt
    walk_at "ev"
    exact atI_cell h0 h1
  · have h1 : ¬ k < (ns.length : Int) := by simpa using h
    have e : ns.getD k.toNat 0 = 0 := by rw [List.getD_eq_getElem?_getD, List.getElem?_eq_none (by omega)]; rfl
    rw [e] at hrt
    refine sj_next ?_
    dsimp only
    exact sj_ret (d := .int 0) (by walk_at "ev") hrt

theorem ok_law_free_by (T : Txt K mg D) : FnOk P w K mg base CX0 1 D.a_law_free_by D.f_law_free_by ["_law_cell", "_law_way"] (spP K R_free_by) := by
  refine fn_P (K := K) T.F_law_free_by sc__law_free_by (by rintro _ _ ⟨_, _, rfl, _⟩; rfl) fun cdv A outer s H E hr => ?_
  refine ⟨_, (pss_cons (ps_if (pt_cmpR op_eq (pv 1) pe_int (nomark _)) (pss_one (ps_ret pe_int)) pss_nil)
      (pss_cons (ps_if (pt_cmpR op_eq (pv 1) pe_int (nomark _)) (pss_one (ps_ret (pe_op op_mod (pe_op op_fdiv (pv 0) pe_int) (pe_op op_add (pe_op op_pow pe_int pe_int) pe_int)))) pss_nil)
      (pss_one (ps_ret (pe_op op_mod (pe_op op_fdiv (pv 0) pe_int) pe_int))))), ?_⟩
  try dsimp only [cxOf, Cx.nox, Cx.wish]
  rintro _ _ W rt ⟨c, v, rfl, rfl⟩ hrt
  unfold freeBy at hrt
  refine sj_seq (sj_if (b := decide (v = 0)) ?_ (fun h => ?_) fun h => sj_next ?_)
  · walk_at "ev"
  · rw [if_pos (of_decide_eq_true h)] at hrt
    refine sj_ret ?_ hrt
    walk_at "ev"
  · dsimp only
    rw [if_neg (of_decide_eq_false h)] at hrt
    refine sj_seq (sj_if (b := decide (v = 1)) ?_ (fun h => ?_) fun h => sj_next ?_)
    · walk_at "ev"
    · rw [if_pos (of_decide_eq_true h)] at hrt
      refine sj_ret ?_ hrt
      walk_at "ev"
    · dsimp only
      rw [if_neg (of_decide_eq_false h)] at hrt
      refine sj_ret ?_ hrt
      walk_at "ev"

theorem ok_law_whole (T : Txt K mg D) : FnOk P w K mg base CX0 1 D.a_law_whole D.f_law_whole ["_law_found"] (spP K R_whole) := by
  refine fn_P (K := K) T.F_law_whole sc__law_whole (by rintro _ _ ⟨_, rfl, _⟩; rfl) fun cdv A outer s H E hr => ?_
  refine ⟨_, (pss_one (ps_ret (pe_and (pe_callB call_isi (by rfl) T.n_isinstance (by decide +kernel) (pa_cons (pv 0) (pa_cons (pe_bltn (v := .ty "int") (by rfl) T.n_int (by decide +kernel) rfl) pa_nil))) (pe_one (pe_not (pe_callB call_isi (by rfl) T.n_isinstance (by decide +kernel) (pa_cons (pv 0) (pa_cons (pe_bltn (v := .ty "bool") (by rfl) T.n_bool (by decide +kernel) rfl) pa_nil)))))))), ?_⟩
  try dsimp only [cxOf, Cx.nox, Cx.wish]
  rintro _ _ W rt ⟨i, rfl, rfl⟩ hrt
  exact sj_ret (ee_andV (a := true) (b := true) (ee_cb (ea_cons (by walk_at "ev") (ea_cons ee_at ea_nil)) (rc_isi (.int i) (by decide +kernel))) fun _ => ee_notV (a := false) (ee_cb (ea_cons (by walk_at "ev") (ea_cons ee_at ea_nil)) (rc_isi (.int i) (by decide +kernel)))) hrt

theorem ok_law_ahead (T : Txt K mg D) : FnOk P w K mg base CX0 1 D.a_law_ahead D.f_law_ahead ["_law_one", "_law_other"] (spP K R_ahead) := by
  refine fn_P (K := K) T.F_law_ahead sc__law_ahead (by rintro _ _ ⟨_, _, rfl, _⟩; rfl) fun cdv A outer s H E hr => ?_
  refine ⟨_, (pss_one (ps_ret (pe_or (pe_cmpR op_gt (pe_ix ix_tup (pv 0) pe_int (fun _ _ => rfl)) (pe_ix ix_tup (pv 1) pe_int (fun _ _ => rfl)) (nomark _)) (pe_one (pe_and (pe_cmpR op_eq (pe_ix ix_tup (pv 0) pe_int (fun _ _ => rfl)) (pe_ix ix_tup (pv 1) pe_int (fun _ _ => rfl)) (nomark _)) (pe_one (pe_cmpR op_lt (pe_ix ix_tup (pv 0) pe_int (fun _ _ => rfl)) (pe_ix ix_tup (pv 1) pe_int (fun _ _ => rfl)) (nomark _)))))))), ?_⟩
  try dsimp only [cxOf, Cx.nox, Cx.wish]
  rintro _ _ W rt ⟨a, b, rfl, rfl⟩ hrt
  have ea : ∀ W : List As, EE K W (startE ["_law_one", "_law_other"] [room a, room b]) (tVar 0) (.tup [.int a.1, .int a.2]) := fun _ => ee_var rfl
  have eb : ∀ W : List As, EE K W (startE ["_law_one", "_law_other"] [room a, room b]) (tVar 1) (.tup [.int b.1, .int b.2]) := fun _ => ee_var rfl
  exact sj_ret (ee_orV (ee_op (ee_op (ea _) (ee_c (.int _)) (ro_ixT (room_1 a))) (ee_op (eb _) (ee_c (.int _)) (ro_ixT (room_1 b))) (ro_I0 (.bl _))) fun _ =>
    ee_andV (ee_op (ee_op (ea _) (ee_c (.int _)) (ro_ixT (room_1 a))) (ee_op (eb _) (ee_c (.int _)) (ro_ixT (room_1 b))) ro_eqI) fun _ =>
      ee_op (ee_op (ea _) (ee_c (.int _)) (ro_ixT (room_0 a))) (ee_op (eb _) (ee_c (.int _)) (ro_ixT (room_0 b))) (ro_I0 (.bl _))) hrt

end
end Z9


set_option Elab.async false
set_option linter.all false
set_option maxRecDepth 100000
set_option maxHeartbeats 4000000
namespace Z9
open PySem PySem.Spec PyProof.Rows L2 Z
open Evl (Ex rLenS rListS)
local macro_rules | `(tactic| walk_at "rr") => `(tactic| first
  | exact ⟨_, rfl, rfl⟩
  | exact ⟨_, _, rfl, rfl⟩
  | exact ⟨_, _, _, rfl, rfl⟩
  | exact ⟨_, _, rfl, by omega, rfl⟩)
local macro_rules | `(tactic| walk_at "ev") => `(tactic| first
  | ((with_reducible apply ee_c); first | exact .int _ | exact .str _ | exact .bl _ | exact .non)
  | ((with_reducible apply ee_var); exact rfl)
  | ((with_reducible apply ee_op) <;> walk_at "ev")
  | ((with_reducible apply ee_cb) <;> walk_at "ev")
  | ((with_reducible apply ee_call) <;> walk_at "ev")
  | ((with_reducible apply ee_tup) <;> walk_at "ev")
  | ((with_reducible apply ee_notV) <;> walk_at "ev")
  | (with_reducible exact ea_nil)
  | ((with_reducible apply ea_cons) <;> walk_at "ev")
  | ((with_reducible apply et_test) <;> walk_at "ev")
  | ((with_reducible apply et_B) <;> walk_at "ev")
  | ((with_reducible apply et_and) <;> (try intro _) <;> walk_at "ev")
  | ((with_reducible apply et_or) <;> (try intro _) <;> walk_at "ev")
  | ((with_reducible apply et_not) <;> walk_at "ev")
  | ((with_reducible apply ro_I0); first | exact .int _ | exact .bl _)
  | ((with_reducible apply ro_I); rotate_left; (first | exact .int _ | exact .bl _); (first | exact ⟨by decide, by decide⟩ | exact .inl ⟨by decide, by decide⟩ | exact .inr ⟨by decide, by decide⟩ | (show (0 : Int) < _; omega) | (show (0 : Int) < _; decide) | skip))
  | (with_reducible exact ro_eqI) | (with_reducible exact ro_neI) | (with_reducible exact ro_eqS) | (with_reducible exact ro_neS)
  | (with_reducible apply ro_ixLk (.lst _))
  | (with_reducible apply ro_ixLk (.sl _))
  | (with_reducible apply ro_ixT)
  | (with_reducible exact rc_len (.lst _)) | (with_reducible exact rc_len (.sl _)) | (with_reducible exact rc_lenT)
  | (with_reducible exact rc_max2) | (with_reducible exact rc_min2) | (with_reducible exact rc_int_b) | (with_reducible exact rc_sum)
  | (with_reducible exact eo_none)
  | ((with_reducible apply eo_some) <;> walk_at "ev")
  | (show _ ≤ 1000; decide)
  | walk_at "rr"
  | skip)
section
variable {P : Program} {w : World} {K : PySem.W.Frag} {mg : Str → Option Value} {base : Heap} {D : Dat}
theorem ok_together (T : Txt K mg D) : FnOk P w K mg base CX0 1 D.a_together D.f_together ["rooms"] (spP K R_together) := by
  refine fn_P (K := K) T.F_together sc__together (by rintro _ _ ⟨_, rfl, _⟩; rfl) fun cdv A outer s H E hr => ?_
  refine ⟨_, (pss_one (ps_ret (pe_callB (cr_sum rfl) (by rfl) T.n_sum (by decide +kernel) (pa_cons (pe_lc (own := [("_", 1), ("free", 2)]) (g := (gTup K 2 (gCons (gName 1) (gCons (gName 2) gNil)))) (tt := tYes) (te := (tVar 2)) rfl sc__together.nd (pi_list (pv 0)) (blkOk_by (N := ["rooms", "_", "free"]) (sc := defScope s__together) (by decide +kernel)) (fun _ _ _ _ _ => (pg_tup rfl (pgs_cons (pg_name (i := 1) sc__together.nd rfl (Or.inl rfl)) (pgs_cons (pg_name (i := 2) sc__together.nd rfl (Or.inl rfl)) pgs_nil)))) (fun _ _ _ _ _ => pts_nil) (fun _ _ _ _ _ => (pv 2))) pa_nil)))), ?_⟩
  try dsimp only [cxOf, Cx.nox, Cx.wish]
  rintro _ _ W rt ⟨L, rfl, hl, rfl⟩ hrt
  refine sj_ret (ee_cb (ea_cons (ee_frz ?_) ea_nil) (rc_sum (ns := L.map fun p : Int × Int => p.2))) (show Rt K W rt (.int (total L)) from hrt)
  rw [← kept_snd]
  refine el_lcL (Wf := []) (Wt := W) (js := [1] ++ ([2] ++ [])) (fun _ => true) sndD (.lst _) (ee_var rfl) (by rw [List.length_map]; omega) fun i d Wt' hle hd => ?_
  obtain ⟨p, _, rfl⟩ := mem_room hd
  exact ⟨_, gj_tup (gsj_cons gj_name (gsj_cons gj_name gsj_nil)) rfl, (by decide), et_yes, fun _ => ee_var rfl⟩

theorem ok_law_pairs (T : Txt K mg D) : FnOk P w K mg base CX0 2 D.a_law_pairs D.f_law_pairs ["_law_found"] (spP K R_pairs) := by
  refine fn_P (K := K) T.F_law_pairs sc__law_pairs (by rintro _ _ ⟨_, rfl, _⟩; rfl) fun cdv A outer s H E hr => ?_
  refine ⟨_, (pss_cons (ps_if (pt_not (pt_val (pe_callB call_isi (by rfl) T.n_isinstance (by decide +kernel) (pa_cons (pv 0) (pa_cons (pe_bltn (v := .ty "list") (by rfl) T.n_list (by decide +kernel) rfl) pa_nil))))) (pss_one (ps_ret pe_bl)) pss_nil)
      (pss_cons (ps_for PassesOwn.never rfl (pi_list (pv 0)) (pg_name (i := 1) sc__law_pairs.nd rfl (Or.inl rfl)) (pss_one (ps_if (PW.pt (pw_or (pt_not (pt_val (pe_callB call_isi (by rfl) T.n_isinstance (by decide +kernel) (pa_cons (pv 1) (pa_cons (pe_bltn (v := .ty "tuple") (by rfl) T.n_tuple (by decide +kernel) rfl) pa_nil))))) (pw_or (pt_cmpR op_ne (pe_callB call_lenS' (by rfl) T.n_len PySem.boot_len (pa_cons (pv 1) pa_nil)) pe_int (nomark _)) (pw_or (pt_not (pt_val (pe_call (ok_law_whole T) (hr.mono (by decide)) rfl T.g_law_whole T.F_law_whole.kp T.b_law_whole .nil pass0 (pa_cons (pe_ix ix_tup (pv 1) pe_int (fun _ _ => rfl)) pa_nil)))) (pw_or1 (pt_not (pt_val (pe_call (ok_law_whole T) (hr.mono (by decide)) rfl T.g_law_whole T.F_law_whole.kp T.b_law_whole .nil pass0 (pa_cons (pe_ix ix_tup (pv 1) pe_int (fun _ _ => rfl)) pa_nil))))))))) (pss_one (ps_ret pe_bl)) pss_nil)))
      (pss_one (ps_ret pe_bl)))), ?_⟩
  try dsimp only [cxOf, Cx.nox, Cx.wish]
  rintro _ _ W rt ⟨L, rfl, rfl⟩ hrt
  refine sj_seq (sj_if (b := false) (et_not (a := true) (et_B (ee_cb (ea_cons (ee_var rfl) (ea_cons ee_at ea_nil)) (rc_isi (.lst _) (by decide +kernel))))) (fun h => nomatch h) fun _ => sj_next ?_)
  dsimp only
  refine sj_seq (sj_forL (Wf := []) (Wt := W) (ds := L.map room) (fun i Wf es' => Wf = [] ∧ ∃ x, es' = [some (.lst (L.map room)), x]) (.lst _) (ee_var rfl) ⟨rfl, _, rfl⟩ ?_ ?_)
  · rintro i d Wf es' Wt' hle hd ⟨rfl, x, rfl⟩
    obtain ⟨p, _, rfl⟩ := mem_room hd
    refine ⟨_, _, gj_name, ?_⟩
    refine sj_if (b := false) ?_ (fun h => nomatch h) fun _ => sj_next (sj_postW [] rfl ⟨rfl, _, rfl⟩)
    have ep : ∀ W : List As, EE K W [some (.lst (L.map room)), some (room p)] (tVar 1) (.tup [.int p.1, .int p.2]) := fun _ => ee_var rfl
    refine et_or (a := false) (et_not (a := true) (et_B (ee_cb (ea_cons (ep _) (ea_cons ee_at ea_nil)) (rc_isi (.tup _) (by decide +kernel))))) fun _ => ?_
    refine et_or (a := false) (et_test (ee_op (ee_cb (ea_cons (ep _) ea_nil) rc_lenT) (ee_c (.int _)) ro_neI)) fun _ => ?_
    refine et_or (a := false) (et_not (a := true) (et_B (ee_call (ea_cons (ee_op (ep _) (ee_c (.int _)) (ro_ixT (room_0 p))) ea_nil) ⟨_, rfl, rfl⟩))) fun _ => ?_
    exact et_not (a := true) (et_B (ee_call (ea_cons (ee_op (ep _) (ee_c (.int _)) (ro_ixT (room_1 p))) ea_nil) ⟨_, rfl, rfl⟩))
  · rintro Wf es' Wt' hle ⟨rfl, x, rfl⟩
    dsimp only
    exact sj_ret (ee_c (.bl true)) (hrt.le hle)

end
end Z9


set_option Elab.async false
set_option linter.all false
set_option maxRecDepth 100000
set_option maxHeartbeats 4000000
namespace Z9
open PySem PySem.Spec PyProof.Rows L2 Z
open Evl (Ex rLenS rListS)
local macro_rules | `(tactic| walk_at "rr") => `(tactic| first
  | exact ⟨_, rfl, rfl⟩
  | exact ⟨_, _, rfl, rfl⟩
  | exact ⟨_, _, _, rfl, rfl⟩
  | exact ⟨_, _, rfl, by omega, rfl⟩)
local macro_rules | `(tactic| walk_at "ev") => `(tactic| first
  | ((with_reducible apply ee_c); first | exact .int _ | exact .str _ | exact .bl _ | exact .non)
  | ((with_reducible apply ee_var); exact rfl)
  | ((with_reducible apply ee_op) <;> walk_at "ev")
  | ((with_reducible apply ee_cb) <;> walk_at "ev")
  | ((with_reducible apply ee_call) <;> walk_at "ev")
  | ((with_reducible apply ee_tup) <;> walk_at "ev")
  | ((with_reducible apply ee_notV) <;> walk_at "ev")
  | (with_reducible exact ea_nil)
  | ((with_reducible apply ea_cons) <;> walk_at "ev")
  | ((with_reducible apply et_test) <;> walk_at "ev")
  | ((with_reducible apply et_B) <;> walk_at "ev")
  | ((with_reducible apply et_and) <;> (try intro _) <;> walk_at "ev")
  | ((with_reducible apply et_or) <;> (try intro _) <;> walk_at "ev")
  | ((with_reducible apply et_not) <;> walk_at "ev")
  | ((with_reducible apply ro_I0); first | exact .int _ | exact .bl _)
  | ((with_reducible apply ro_I); rotate_left; (first | exact .int _ | exact .bl _); (first | exact ⟨by decide, by decide⟩ | exact .inl ⟨by decide, by decide⟩ | exact .inr ⟨by decide, by decide⟩ | (show (0 : Int) < _; omega) | (show (0 : Int) < _; decide) | skip))
  | (with_reducible exact ro_eqI) | (with_reducible exact ro_neI) | (with_reducible exact ro_eqS) | (with_reducible exact ro_neS)
  | (with_reducible apply ro_ixLk (.lst _))
  | (with_reducible apply ro_ixLk (.sl _))
  | (with_reducible apply ro_ixT)
  | (with_reducible exact rc_len (.lst _)) | (with_reducible exact rc_len (.sl _)) | (with_reducible exact rc_lenT)
  | (with_reducible exact rc_max2) | (with_reducible exact rc_min2) | (with_reducible exact rc_int_b) | (with_reducible exact rc_sum)
  | (with_reducible exact eo_none)
  | ((with_reducible apply eo_some) <;> walk_at "ev")
  | (show _ ≤ 1000; decide)
  | walk_at "rr"
  | skip)
section
variable {P : Program} {w : World} {K : PySem.W.Frag} {mg : Str → Option Value} {base : Heap} {D : Dat}
theorem ok_law_rooms (T : Txt K mg D) : FnOk P w K mg base CX0 2 D.a_law_rooms D.f_law_rooms ["_law_script"] (spP K R_rooms) := by
  refine fn_P (K := K) T.F_law_rooms sc__law_rooms (by rintro _ _ ⟨_, rfl, _⟩; rfl) fun cdv A outer s H E hr => ?_
  refine ⟨_, (pss_cons (ps_set (i := 1) sc__law_rooms.nd rfl (Or.inl rfl) (pe_op op_mod (pe_call (ok_law_cell_at T) (hr.mono (by decide)) rfl T.g_law_cell_at T.F_law_cell_at.kp T.b_law_cell_at .nil pass0 (pa_cons (pv 0) (pa_cons pe_int pa_nil))) pe_int))
      (pss_cons (ps_set (i := 2) sc__law_rooms.nd rfl (Or.inl rfl) (pe_op op_mod (pe_op op_fdiv (pe_call (ok_law_cell_at T) (hr.mono (by decide)) rfl T.g_law_cell_at T.F_law_cell_at.kp T.b_law_cell_at .nil pass0 (pa_cons (pv 0) (pa_cons pe_int pa_nil))) pe_int) pe_int))
      (pss_cons (ps_set (i := 3) sc__law_rooms.nd rfl (Or.inl rfl) (pe_lst pa_nil))
      (pss_cons (ps_if (pt_cmpR op_eq (pv 1) pe_int (nomark _)) (pss_cons (ps_for PassesOwn.never rfl (pi_range1 (by rfl) T.n_range (pa_cons (pe_ix ix_list (pe_lst (pa_cons pe_int (pa_cons pe_int pa_nil))) (pe_callTy call_int1' (by rfl) T.n_int (by decide +kernel) (pa_cons (pe_cmpR op_eq (pe_op op_mod (pe_op op_fdiv (pe_call (ok_law_cell_at T) (hr.mono (by decide)) rfl T.g_law_cell_at T.F_law_cell_at.kp T.b_law_cell_at .nil pass0 (pa_cons (pv 0) (pa_cons pe_int pa_nil))) pe_int) pe_int) pe_int (nomark _)) pa_nil)) (fun _ _ => rfl)) pa_nil)) (pg_name (i := 4) sc__law_rooms.nd rfl (Or.inl rfl)) (pss_cons (ps_set (i := 5) sc__law_rooms.nd rfl (Or.inl rfl) (pe_op op_add (pe_op op_mod (pe_op op_add (pe_call (ok_law_cell_at T) (hr.mono (by decide)) rfl T.g_law_cell_at T.F_law_cell_at.kp T.b_law_cell_at .nil pass0 (pa_cons (pv 0) (pa_cons pe_int pa_nil))) (pe_op op_mul (pe_op op_mul pe_int (pv 4)) (pv 4))) pe_int) (pe_op op_mul pe_int (pv 4))))
      (pss_one (ps_expr (pe_bm PySem.F.plainAttrs_list PySem.F.slot_list_append PySem.F.type_list_append mt_append (pv 3) (pa_cons (pe_tup (pa_cons (pe_op op_add (pv 2) (pe_op op_mod (pe_op op_mul pe_int (pv 4)) pe_int)) (pa_cons (pe_call (ok_law_free_by T) (hr.mono (by decide)) rfl T.g_law_free_by T.F_law_free_by.kp T.b_law_free_by .nil pass0 (pa_cons (pv 5) (pa_cons pe_int pa_nil))) pa_nil))) pa_nil))))))
      (pss_one (ps_ret (pv 3)))) pss_nil)
      (pss_cons (ps_for PassesOwn.never rfl (pi_range1 (by rfl) T.n_range (pa_cons (pe_op op_sub (pe_callB call_lenS' (by rfl) T.n_len PySem.boot_len (pa_cons (pv 0) pa_nil)) pe_int) pa_nil)) (pg_name (i := 4) sc__law_rooms.nd rfl (Or.inl rfl)) (pss_cons (ps_set (i := 5) sc__law_rooms.nd rfl (Or.inl rfl) (pe_ix ix_list (pv 0) (pe_op op_add (pv 4) pe_int) (fun _ _ => rfl)))
      (pss_cons (ps_set (i := 6) sc__law_rooms.nd rfl (Or.inl rfl) (pe_callB call_lenS' (by rfl) T.n_len PySem.boot_len (pa_cons (pv 3) pa_nil)))
      (pss_cons (ps_if (pt_cmpR op_eq (pe_op op_mod (pv 5) pe_int) pe_int (nomark _)) (pss_one (ps_set (i := 6) sc__law_rooms.nd rfl (Or.inl rfl) (pe_op op_mod (pe_op op_fdiv (pv 5) pe_int) (pe_op op_add (pe_callB call_lenS' (by rfl) T.n_len PySem.boot_len (pa_cons (pv 3) pa_nil)) pe_int)))) pss_nil)
      (pss_one (ps_set (i := 3) sc__law_rooms.nd rfl (Or.inl rfl) (pe_op op_cat' (pe_op op_cat' (pe_slice sl_list (pv 3) po_none (po_some (pv 6))) (pe_lst (pa_cons (pe_tup (pa_cons (pe_op op_add (pv 2) (pv 4)) (pa_cons (pe_call (ok_law_free_by T) (hr.mono (by decide)) rfl T.g_law_free_by T.F_law_free_by.kp T.b_law_free_by .nil pass0 (pa_cons (pv 5) (pa_cons (pv 1) pa_nil))) pa_nil))) pa_nil))) (pe_slice sl_list (pv 3) (po_some (pv 6)) po_none))))))))
      (pss_one (ps_ret (pv 3)))))))), ?_⟩
  try dsimp only [cxOf, Cx.nox, Cx.wish]
  rintro _ _ W rt ⟨ns, rfl, h63, rfl⟩ hrt
  have ecell : ∀ (W : List As) (es : List (Option DD)) (k : Nat), es[0]? = some (some (.sl (ns.map DD.int))) → EE K W es (tCall (spP K R_cell_at) [] E0 (tCons (tVar 0) (tCons (tC (.int (k : Int))) tNil))) (.int (cc ns k)) := fun W es k h =>
    ee_call (ea_cons (ee_var h) (ea_cons (ee_c (.int _)) ea_nil)) ⟨ns, (k : Int), rfl, by omega, rfl⟩
  refine sj_seq (sj_asg (d := .int (wayOf ns)) (ee_op (ecell _ _ 0 rfl) (ee_c (.int _)) (ro_I (by decide) (.int _))) ?_)
  refine sj_seq (sj_asg (d := .int (leastOf ns)) (ee_op (ee_op (ecell _ _ 0 rfl) (ee_c (.int _)) (ro_I ⟨by decide, by decide⟩ (.int _))) (ee_c (.int _)) (ro_I (by decide) (.int _))) ?_)
  refine sj_seq (sj_asgL (el_lst ea_nil (by decide)) fun p => ?_)
  unfold rooms at hrt
  refine sj_seq (sj_if (b := decide (wayOf ns = 2)) (et_test (ee_op (ee_var rfl) (ee_c (.int _)) ro_eqI)) (fun h => ?_) fun h => sj_next ?_)
  · rw [if_pos (of_decide_eq_true h)] at hrt
    have en : ∀ (W : List As) (es : List (Option DD)), es[0]? = some (some (.sl (ns.map DD.int))) → EE K W es (tOp (rIxL K) (tLst (tCons (tC (.int 60)) (tCons (tC (.int 180)) tNil))) (tCB rInt1 (tCons (tOp rEq (tOp (rI (fun _ j => 0 < j) fun i j => .int (i % j)) (tOp (rI CDiv fun i j => .int (i / j)) (tCall (spP K R_cell_at) [] E0 (tCons (tVar 0) (tCons (tC (.int ((1 : Nat) : Int))) tNil))) (tC (.int 3))) (tC (.int 4))) (tC (.int 1))) tNil))) (.int (n2Of ns)) := fun W es h => by
      refine ee_op (ee_lst (ea_cons (ee_c (.int _)) (ea_cons (ee_c (.int _)) ea_nil)) (by decide)) (ee_cb (ea_cons (ee_op (ee_op (ee_op (ecell _ _ 1 h) (ee_c (.int _)) (ro_I ⟨by decide, by decide⟩ (.int _))) (ee_c (.int _)) (ro_I (by decide) (.int _))) (ee_c (.int _)) ro_eqI) ea_nil) rc_int_b) (ro_ixL ?_)
      unfold n2Of
      by_cases q : cc ns 1 / 3 % 4 = 1
      · rw [if_pos q, decide_eq_true q]; rfl
      · rw [if_neg q, decide_eq_false q]; rfl
    have hn : n2Of ns ≤ 180 := by unfold n2Of; split <;> omega
    refine sj_seq (sj_forR (Wf := [LC K p []]) (Wt := W) (n := (n2Of ns : Int)) (fun i Wf es' => Wf = [LC K p ((rooms2 ns i).map room)] ∧ ∃ a b c, es' = [some (.sl (ns.map DD.int)), some (.int (wayOf ns)), some (.int (leastOf ns)), some (.at (.ref p)), a, b, c])
      (ea_cons (en _ _ rfl) ea_nil) (by omega) ⟨rfl, _, _, _, rfl⟩ ?_ ?_)
    · rintro i Wf es' Wt' hle hi ⟨rfl, a, b, c, rfl⟩
      refine sj_seq (sj_asg (d := .int ((cc ns 2 + 1000003 * (i : Int) * (i : Int)) % 1009 + 8 * (i : Int))) (ee_op (ee_op (ee_op (ecell _ _ 2 rfl) (ee_op (ee_op (ee_c (.int _)) (ee_var rfl) (ro_I (.inl ⟨by decide, by decide⟩) (.int _))) (ee_var rfl) (ro_I (.inr ⟨by omega, by omega⟩) (.int _))) (ro_I0 (.int _))) (ee_c (.int _)) (ro_I (by decide) (.int _))) (ee_op (ee_c (.int _)) (ee_var rfl) (ro_I (.inl ⟨by decide, by decide⟩) (.int _))) (ro_I0 (.int _))) ?_)
      refine sj_app (i := 0) rfl (ee_var rfl) (d := room (room2 ns i)) (ee_tup (ea_cons (ee_op (ee_var rfl) (ee_op (ee_op (ee_c (.int _)) (ee_var rfl) (ro_I (.inl ⟨by decide, by decide⟩) (.int _))) (ee_c (.int _)) (ro_I (by decide) (.int _))) (ro_I0 (.int _))) (ea_cons (ee_call (ea_cons (ee_var rfl) (ea_cons (ee_c (.int _)) ea_nil)) ⟨_, _, rfl, rfl⟩) ea_nil)) (by show 2 ≤ 1000; decide)) (by rw [List.length_map]; unfold rooms2; rw [List.length_map, List.length_range]; omega) ?_
      refine sj_postW [LC K p ((rooms2 ns (i + 1)).map room)] ?_ ⟨rfl, _, _, _, rfl⟩
      unfold rooms2
      rw [List.range_succ, List.map_append, List.map_append]
      rfl
    · rintro Wf es' Wt' hle ⟨rfl, a, b, c, rfl⟩
      dsimp only
      rw [Int.toNat_natCast]
      exact sj_retO (i := 3) rfl (hrt.le hle)
  · rw [if_neg (of_decide_eq_false h)] at hrt
    dsimp only
    refine sj_freeze (i := 3) rfl ?_
    have el : ∀ (W : List As) (es : List (Option DD)), es[0]? = some (some (.sl (ns.map DD.int))) → EE K W es (tOp (rI0 fun i j => .int (i - j)) (tCB (rLenS K) (tCons (tVar 0) tNil)) (tC (.int 2))) (.int ((ns.length : Int) - 2)) := fun W es h =>
      ee_op (ee_cb (ea_cons (ee_var h) ea_nil) (rc_len (.sl _))) (ee_c (.int _)) (ro_I0 (by rw [List.length_map]; exact .int _))
    refine sj_seq (sj_forR (Wf := []) (Wt := W) (n := (ns.length : Int) - 2) (fun i Wf es' => Wf = [] ∧ ∃ a b c, es' = [some (.sl (ns.map DD.int)), some (.int (wayOf ns)), some (.int (leastOf ns)), some (.lst ((rooms3 ns i).map room)), a, b, c])
      (ea_cons (el _ _ rfl) ea_nil) (by omega) ⟨rfl, _, _, _, rfl⟩ ?_ ?_)
    · rintro i Wf es' Wt' hle hi ⟨rfl, a, b, c, rfl⟩
      have hlen := rooms3_len ns i
      refine sj_seq (sj_asg (d := .int (cc ns (i + 2))) (ee_op (ee_var rfl) (ee_op (ee_var rfl) (ee_c (.int _)) (ro_I0 (.int _))) (ro_ixLk (.sl _) (atI_cell (k := (i : Int) + 2) (by omega) (by omega)))) ?_)
      refine sj_seq (sj_asg (d := .int ((rooms3 ns i).length : Int)) (ee_cb (ea_cons (ee_var rfl) ea_nil) (ee_len_room _)) ?_)
      refine sj_seq (sj_ifAsg (i := 6) (d1 := .int (atOf (cc ns (i + 2)) (rooms3 ns i).length)) (b := decide (cc ns (i + 2) % 3 = 0)) (et_test (ee_op (ee_op (ee_var rfl) (ee_c (.int _)) (ro_I (by decide) (.int _))) (ee_c (.int _)) ro_eqI)) (fun h => ?_) (fun h => ?_) ?_)
      · unfold atOf
        rw [if_pos (of_decide_eq_true h)]
        exact ee_op (ee_op (ee_var rfl) (ee_c (.int _)) (ro_I ⟨by decide, by decide⟩ (.int _))) (ee_op (ee_cb (ea_cons (ee_var rfl) ea_nil) (ee_len_room _)) (ee_c (.int _)) (ro_I0 (.int _))) (ro_I (by omega) (.int _))
      · unfold atOf
        rw [if_neg (of_decide_eq_false h)]
        rfl
      · have ha := atOf_le (cc ns (i + 2)) (rooms3 ns i).length
        dsimp only
        refine sj_asg (d := .lst ((rooms3 ns (i + 1)).map room)) (ee_frz ?_) ?_
        rotate_left
        · refine sj_postW [] rfl ?_
          exact ⟨rfl, _, _, _, rfl⟩
        show EL K _ _ _ ((ins (rooms3 ns i) (atOf (cc ns (i + 2)) (rooms3 ns i).length).toNat (leastOf ns + i, freeBy (cc ns (i + 2)) (wayOf ns))).map room)
        unfold ins
        rw [List.map_append, List.map_append, List.map_take, List.map_drop, ← cutD_take _ ha.1 (by rw [List.length_map]; exact ha.2), ← cutD_drop _ ha.1 (by rw [List.length_map]; exact ha.2)]
        refine el_op (ee_frz (el_op (ee_frz (el_slice (.lst _) (ee_var rfl) eo_none (eo_some (ee_var rfl)))) (ee_lst (ea_cons (d := room (leastOf ns + i, freeBy (cc ns (i + 2)) (wayOf ns))) (ee_tup (ea_cons (ee_op (ee_var rfl) (ee_var rfl) (ro_I0 (.int _))) (ea_cons (ee_call (ea_cons (ee_var rfl) (ea_cons (ee_var rfl) ea_nil)) (by exact ⟨_, _, rfl, rfl⟩)) ea_nil)) (by show 2 ≤ 1000; decide)) ea_nil) (by show 1 ≤ 1000; decide)) (rl_cat ?_))) (ee_frz (el_slice (.lst _) (ee_var rfl) (eo_some (ee_var rfl)) eo_none)) (rl_cat ?_)
        · rw [cutD_take _ ha.1 (by rw [List.length_map]; exact ha.2), List.length_take, List.length_map]
          simp only [List.length_singleton]
          omega
        · rw [cutD_take _ ha.1 (by rw [List.length_map]; exact ha.2), cutD_drop _ ha.1 (by rw [List.length_map]; exact ha.2), List.length_append, List.length_take, List.length_drop, List.length_map]
          simp only [List.length_singleton, List.length_map]
          omega
    · rintro Wf es' Wt' hle ⟨rfl, a, b, c, rfl⟩
      have e : ((ns.length : Int) - 2).toNat = ns.length - 2 := by omega
      rw [e]
      dsimp only
      exact sj_ret (ee_var rfl) (hrt.le hle)

end
end Z9


set_option Elab.async false
set_option linter.all false
set_option maxRecDepth 100000
set_option maxHeartbeats 4000000
namespace Z9
open PySem PySem.Spec PyProof.Rows L2 Z
open Evl (Ex rLenS rListS)
local macro_rules | `(tactic| walk_at "rr") => `(tactic| first
  | exact ⟨_, rfl, rfl⟩
  | exact ⟨_, _, rfl, rfl⟩
  | exact ⟨_, _, _, rfl, rfl⟩
  | exact ⟨_, _, rfl, by omega, rfl⟩)
local macro_rules | `(tactic| walk_at "ev") => `(tactic| first
  | ((with_reducible apply ee_c); first | exact .int _ | exact .str _ | exact .bl _ | exact .non)
  | ((with_reducible apply ee_var); exact rfl)
  | ((with_reducible apply ee_op) <;> walk_at "ev")
  | ((with_reducible apply ee_cb) <;> walk_at "ev")
  | ((with_reducible apply ee_call) <;> walk_at "ev")
  | ((with_reducible apply ee_tup) <;> walk_at "ev")
  | ((with_reducible apply ee_notV) <;> walk_at "ev")
  | (with_reducible exact ea_nil)
  | ((with_reducible apply ea_cons) <;> walk_at "ev")
  | ((with_reducible apply et_test) <;> walk_at "ev")
  | ((with_reducible apply et_B) <;> walk_at "ev")
  | ((with_reducible apply et_and) <;> (try intro _) <;> walk_at "ev")
  | ((with_reducible apply et_or) <;> (try intro _) <;> walk_at "ev")
  | ((with_reducible apply et_not) <;> walk_at "ev")
  | ((with_reducible apply ro_I0); first | exact .int _ | exact .bl _)
  | ((with_reducible apply ro_I); rotate_left; (first | exact .int _ | exact .bl _); (first | exact ⟨by decide, by decide⟩ | exact .inl ⟨by decide, by decide⟩ | exact .inr ⟨by decide, by decide⟩ | (show (0 : Int) < _; omega) | (show (0 : Int) < _; decide) | skip))
  | (with_reducible exact ro_eqI) | (with_reducible exact ro_neI) | (with_reducible exact ro_eqS) | (with_reducible exact ro_neS)
  | (with_reducible apply ro_ixLk (.lst _))
  | (with_reducible apply ro_ixLk (.sl _))
  | (with_reducible apply ro_ixT)
  | (with_reducible exact rc_len (.lst _)) | (with_reducible exact rc_len (.sl _)) | (with_reducible exact rc_lenT)
  | (with_reducible exact rc_max2) | (with_reducible exact rc_min2) | (with_reducible exact rc_int_b) | (with_reducible exact rc_sum)
  | (with_reducible exact eo_none)
  | ((with_reducible apply eo_some) <;> walk_at "ev")
  | (show _ ≤ 1000; decide)
  | walk_at "rr"
  | skip)
section
variable {P : Program} {w : World} {K : PySem.W.Frag} {mg : Str → Option Value} {base : Heap} {D : Dat}
theorem ok_law_chosen (T : Txt K mg D) : FnOk P w K mg base CX0 1 D.a_law_chosen D.f_law_chosen ["_law_rooms_here", "_law_found"] (spP K R_chosen) := by
  refine fn_P (K := K) T.F_law_chosen sc__law_chosen (by rintro _ _ ⟨_, _, _, rfl, _⟩; rfl) fun cdv A outer s H E hr => ?_
  refine ⟨_, (pss_cons (ps_set (i := 2) sc__law_chosen.nd rfl (Or.inl rfl) (pe_lst pa_nil))
      (pss_cons (ps_for PassesOwn.never rfl (pi_list (pv 1)) (pg_tup rfl (pgs_cons (pg_name (i := 3) sc__law_chosen.nd rfl (Or.inr rfl)) (pgs_cons (pg_name (i := 4) sc__law_chosen.nd rfl (Or.inl rfl)) pgs_nil))) (pss_cons (ps_setLc (i := 5) (own := [("_law_room", 6)]) (g := (gName 6)) (tt := (tTest (tOp rEq (tOp (rIxT K) (tVar 6) (tC (.int 0))) (tVar 3)))) (te := (tVar 6)) rfl sc__law_chosen.nd rfl rfl (sw_true rfl rfl rfl (by decide +kernel)) (pi_list (pv 0)) (blkOk_by (N := ["_law_rooms_here", "_law_found", "_law_chosen_here", "_law_place", "_law_part", "_law_own", "_law_room"]) (sc := defScope s__law_chosen) (by decide +kernel)) (fun _ _ _ _ _ => (pg_name (i := 6) sc__law_chosen.nd rfl (Or.inl rfl))) (fun _ _ _ _ _ => (pts_one (pt_cmpR op_eq (pe_ix ix_tup (pv 6) pe_int (fun _ _ => rfl)) (pv 3) (nomark _)))) (fun _ _ _ _ _ => (pv 6)))
      (pss_cons (ps_if (PW.pt (pw_or (pt_cmpR op_ne (pe_callB call_lenS' (by rfl) T.n_len PySem.boot_len (pa_cons (pv 5) pa_nil)) pe_int (nomark _)) (pw_or1 (pt_not (pt_chain (op_lt) (op_le) pe_int (pv 4) (pe_ix ix_tup (pe_ix ix_list (pv 5) pe_int (fun _ _ => rfl)) pe_int (fun _ _ => rfl))))))) (pss_one (ps_ret pe_non)) pss_nil)
      (pss_one (ps_expr (pe_bm PySem.F.plainAttrs_list PySem.F.slot_list_append PySem.F.type_list_append mt_append (pv 2) (pa_cons (pe_ix ix_list (pv 5) pe_int (fun _ _ => rfl)) pa_nil)))))))
      (pss_one (ps_ret (pv 2))))), ?_⟩
  try dsimp only [cxOf, Cx.nox, Cx.wish]
  rintro _ _ W rt ⟨L, M, C, rfl, hnd, hL, hMC, hM, hc, rfl⟩ hrt
  refine sj_seq (sj_asgL (el_lst ea_nil (by decide)) fun p => ?_)
  refine sj_seq (sj_forL (Wf := [LC K p []]) (Wt := W) (ds := M.map room) (fun i Wf es' => Wf = [LC K p ((C.take i).map room)] ∧ ∃ a b c d, es' = [some (.lst (L.map room)), some (.lst (M.map room)), some (.at (.ref p)), a, b, c, d])
    (.lst _) (ee_var rfl) ⟨rfl, _, _, _, _, rfl⟩ ?_ ?_)
  · rintro i d Wf es' Wt' hle hd ⟨rfl, a, b, c, e, rfl⟩
    obtain ⟨m, hm, rfl⟩ := mem_room hd
    have hi : i < M.length := (List.getElem?_eq_some_iff.mp hm).1
    obtain ⟨x, hx⟩ : ∃ x, C[i]? = some x := ⟨_, List.getElem?_eq_getElem (by omega)⟩
    obtain ⟨hxL, hx1, hx2, hx3⟩ := hc i m x hm hx
    refine ⟨_, _, gj_tup (gsj_cons gj_name (gsj_cons gj_name gsj_nil)) rfl, ?_⟩
    have ho : kept (fun d => decide (fstD d = m.1)) id (L.map room) = [room x] := by rw [kept_own, ← hx1, own_one hnd hxL]; rfl
    refine sj_seq (sj_asg (d := .lst [room x]) (ee_frz ?_) ?_)
    · rw [← ho]
      refine el_lcL (js := [6]) (fun d => decide (fstD d = m.1)) id (.lst _) (ee_var rfl) (by rw [List.length_map]; omega) fun j d Wt2 hle2 hd2 => ?_
      obtain ⟨y, _, rfl⟩ := mem_room hd2
      have ey : ∀ W : List As, EE K W _ (tVar 6) (.tup [.int y.1, .int y.2]) := fun W => ee_var (es := (wipeE [some (.lst (L.map room)), some (.lst (M.map room)), some (.at (.ref p)), some (.int m.1), some (.int m.2), c, e] [6]).set 6 (some (room y))) rfl
      exact ⟨_, gj_name, (by decide), et_test (ee_op (ee_op (ey _) (ee_c (.int _)) (ro_ixT (room_0 y))) (ee_var rfl) ro_eqI), fun _ => ee_var rfl⟩
    · have ex : ∀ W : List As, EE K W _ (tOp (rIxL K) (tVar 5) (tC (.int 0))) (.tup [.int x.1, .int x.2]) := fun W => ee_op (es := [some (.lst (L.map room)), some (.lst (M.map room)), some (.at (.ref p)), some (.int m.1), some (.int m.2), some (.lst [room x]), e]) (ee_var rfl) (ee_c (.int _)) (ro_ixL (d := room x) rfl)
      refine sj_seq (sj_if (b := false) (et_or (a := false) (et_test (ee_op (ee_cb (ea_cons (ee_var rfl) ea_nil) (rc_len (.lst _))) (ee_c (.int _)) ro_neI)) fun _ => et_not (a := true) (et_test (ee_is (ee_chain (a := decide (0 < m.2)) (b := decide (m.2 ≤ x.2)) (ee_c (.int _)) (ee_var rfl) (ro_I0 (.bl _)) (fun _ => ee_op (ex _) (ee_c (.int _)) (ro_ixT (room_1 x))) fun _ => ro_I0 (.bl _)) (by rw [decide_eq_true hx2, decide_eq_true hx3]; rfl)))) (fun h => nomatch h) fun _ => sj_next ?_)
      dsimp only
      refine sj_app (i := 0) rfl (ee_var rfl) (ex _) (by rw [List.length_map, List.length_take]; omega) ?_
      refine sj_postW [LC K p ((C.take (i + 1)).map room)] ?_ ⟨rfl, _, _, _, _, rfl⟩
      rw [List.take_succ, hx, List.map_append]
      rfl
  · rintro Wf es' Wt' hle ⟨rfl, a, b, c, d, rfl⟩
    rw [List.length_map, hMC, List.take_length]
    dsimp only
    exact sj_retO (i := 2) rfl (hrt.le hle)

end
end Z9


set_option Elab.async false
set_option linter.all false
set_option maxRecDepth 100000
set_option maxHeartbeats 4000000
namespace Z9
open PySem PySem.Spec PyProof.Rows L2 Z
open Evl (Ex rLenS rListS)
local macro_rules | `(tactic| walk_at "rr") => `(tactic| first
  | exact ⟨_, rfl, rfl⟩
  | exact ⟨_, _, rfl, rfl⟩
  | exact ⟨_, _, _, rfl, rfl⟩
  | exact ⟨_, _, rfl, by omega, rfl⟩)
local macro_rules | `(tactic| walk_at "ev") => `(tactic| first
  | ((with_reducible apply ee_c); first | exact .int _ | exact .str _ | exact .bl _ | exact .non)
  | ((with_reducible apply ee_var); exact rfl)
  | ((with_reducible apply ee_op) <;> walk_at "ev")
  | ((with_reducible apply ee_cb) <;> walk_at "ev")
  | ((with_reducible apply ee_call) <;> walk_at "ev")
  | ((with_reducible apply ee_tup) <;> walk_at "ev")
  | ((with_reducible apply ee_notV) <;> walk_at "ev")
  | (with_reducible exact ea_nil)
  | ((with_reducible apply ea_cons) <;> walk_at "ev")
  | ((with_reducible apply et_test) <;> walk_at "ev")
  | ((with_reducible apply et_B) <;> walk_at "ev")
  | ((with_reducible apply et_and) <;> (try intro _) <;> walk_at "ev")
  | ((with_reducible apply et_or) <;> (try intro _) <;> walk_at "ev")
  | ((with_reducible apply et_not) <;> walk_at "ev")
  | ((with_reducible apply ro_I0); first | exact .int _ | exact .bl _)
  | ((with_reducible apply ro_I); rotate_left; (first | exact .int _ | exact .bl _); (first | exact ⟨by decide, by decide⟩ | exact .inl ⟨by decide, by decide⟩ | exact .inr ⟨by decide, by decide⟩ | (show (0 : Int) < _; omega) | (show (0 : Int) < _; decide) | skip))
  | (with_reducible exact ro_eqI) | (with_reducible exact ro_neI) | (with_reducible exact ro_eqS) | (with_reducible exact ro_neS)
  | (with_reducible apply ro_ixLk (.lst _))
  | (with_reducible apply ro_ixLk (.sl _))
  | (with_reducible apply ro_ixT)
  | (with_reducible exact rc_len (.lst _)) | (with_reducible exact rc_len (.sl _)) | (with_reducible exact rc_lenT)
  | (with_reducible exact rc_max2) | (with_reducible exact rc_min2) | (with_reducible exact rc_int_b) | (with_reducible exact rc_sum)
  | (with_reducible exact eo_none)
  | ((with_reducible apply eo_some) <;> walk_at "ev")
  | (show _ ≤ 1000; decide)
  | walk_at "rr"
  | skip)
section
variable {P : Program} {w : World} {K : PySem.W.Frag} {mg : Str → Option Value} {base : Heap} {D : Dat}
theorem ok_dealt (T : Txt K mg D) : FnOk P w K mg base (L2.CX P w) 2 D.a_dealt D.f_dealt ["rooms", "many"] (spX K R_dealt (RX_dealt D.CF)) := by
  refine fn_X (K := K) T.F_dealt sc_dealt (by rintro ds (⟨d, L, v, rfl, _⟩ | ⟨c, L, v, rfl, _⟩) <;> rfl) fun cdv A outer s H E hr => ?_
  obtain ⟨oc, od, an, osl, kV, doc, pm, cd, ct, lkM, cdM⟩ := T.lkM
  refine ⟨_, (pss_cons (ps_if (pt_cmpR op_lt (pe_call (ok_together T) (hr.mono (by decide)) rfl T.g_together T.F_together.kp T.b_together .nil pass0 (pa_cons (pv 0) pa_nil)) (pv 1) (nomark _)) (pss_one (ps_raise rfl (takes_of rfl rfl rfl rfl) (pmk_own PySem.F.excBase_ValueError T.xF T.gF T.kF (raises_own T.bF T.tF) rfl))) pss_nil)
      (pss_cons (ps_set (i := 2) sc_dealt.nd rfl (Or.inl rfl) (pe_lst pa_nil))
      (pss_cons (ps_set (i := 3) sc_dealt.nd rfl (Or.inl rfl) (pv 1))
      (pss_cons (ps_for (passes_of rfl) rfl (pi_list (pe_callBK (cr_sortK (k := 0) hr lkM cdM) (by rfl) T.n_sorted (by decide +kernel) (pa_cons (pv 0) pa_nil) (pk_cons (pe_glob (v := .ref D.a_most_free_first) rfl T.g_most_free_first rfl) pk_nil))) (pg_tup rfl (pgs_cons (pg_name (i := 4) sc_dealt.nd rfl (Or.inl rfl)) (pgs_cons (pg_name (i := 5) sc_dealt.nd rfl (Or.inl rfl)) pgs_nil))) (pss_cons (ps_if (pt_cmpR op_le (pv 3) pe_int (nomark _)) (pss_one ps_break) pss_nil)
      (pss_cons (ps_set (i := 6) sc_dealt.nd rfl (Or.inl rfl) (pe_callB (call_min2' rfl) (by rfl) T.n_min (by decide +kernel) (pa_cons (pv 5) (pa_cons (pv 3) pa_nil))))
      (pss_cons (ps_expr (pe_bm PySem.F.plainAttrs_list PySem.F.slot_list_append PySem.F.type_list_append mt_append (pv 2) (pa_cons (pe_tup (pa_cons (pv 4) (pa_cons (pv 6) pa_nil))) pa_nil)))
      (pss_one (ps_aug (i := 3) sc_dealt.nd rfl (Or.inl rfl) (pv 6) ip_sub))))))
      (pss_one (ps_ret (pv 2))))))), ?_⟩
  try dsimp only [cxOf, Cx.nox, Cx.wish]
  rintro ds W rt h
  obtain ⟨L, v, rfl, hl, h⟩ : ∃ (L : List (Int × Int)) (v : Int), ds = [.lst (L.map room), .int v] ∧ L.length ≤ 1000 ∧ ((v ≤ total L ∧ Rt K W rt (.lst ((deal (srt L) v).map room))) ∨ (total L < v ∧ ∀ {G H : Hp}, Stt W G H → E (.ref D.CF) none H)) := by
    rcases h with ⟨d, ⟨L, v, rfl, hl, hw, rfl⟩, q⟩ | ⟨c, ⟨L, v, rfl, hl, hw, rfl⟩, q⟩
    · exact ⟨L, v, rfl, hl, .inl ⟨hw, q⟩⟩
    · exact ⟨L, v, rfl, hl, .inr ⟨hw, q⟩⟩
  refine sj_seq (sj_if (b := decide (total L < v)) (et_test (ee_op (ee_call (ea_cons (ee_var rfl) ea_nil) ⟨L, rfl, hl, rfl⟩) (ee_var rfl) (ro_I0 (.bl _)))) (fun hb => ?_) fun hb => sj_next ?_)
  · rcases h with ⟨hw, _⟩ | ⟨_, q⟩
    · exact absurd (of_decide_eq_true hb) (by omega)
    · exact fun σ G H S _ => q S
  have hw := of_decide_eq_false hb
  rcases h with ⟨_, hrt⟩ | ⟨hw', _⟩
  rotate_left
  · exact absurd hw' hw
  dsimp only
  refine sj_seq (sj_asgL (el_lst ea_nil (by decide)) fun p => ?_)
  refine sj_seq (sj_asg (ee_var rfl) ?_)
  refine sj_seq (sj_forL (Wf := [LC K p []]) (Wt := W) (ds := (srt L).map room) (fun i Wf es' => ∃ (M : List (Int × Int)) (u : Int), Wf = [LC K p (M.map room)] ∧ M ++ deal ((srt L).drop i) u = deal (srt L) v ∧ M.length ≤ i ∧ ∃ a b c, es' = [some (.lst (L.map room)), some (.int v), some (.at (.ref p)), some (.int u), a, b, c])
    (.lst _) (ee_frz (el_sortK (ee_var rfl))) ⟨[], v, rfl, rfl, Nat.le_refl _, _, _, _, rfl⟩ ?_ ?_)
  · rintro i d Wf es' Wt' hle hd ⟨M, u, rfl, hM, hlen, a, b, c, rfl⟩
    obtain ⟨x, hx, rfl⟩ := mem_room hd
    have hi : i < (srt L).length := (List.getElem?_eq_some_iff.mp hx).1
    have hsl : (srt L).length = L.length := (srt_perm L).length_eq
    have hdrop : (srt L).drop i = x :: (srt L).drop (i + 1) := by
      rw [List.drop_eq_getElem_cons hi]
      rw [List.getElem?_eq_getElem hi] at hx
      rw [Option.some.inj hx]
    rw [hdrop] at hM
    refine ⟨_, _, gj_tup (gsj_cons gj_name (gsj_cons gj_name gsj_nil)) rfl, ?_⟩
    refine sj_seq (sj_if (b := decide (u ≤ 0)) (et_test (ee_op (ee_var rfl) (ee_c (.int _)) (ro_I0 (.bl _)))) (fun h0 => sj_brk ?_) fun h0 => sj_next ?_)
    · have h0' := of_decide_eq_true h0
      rw [deal_zero _ h0', List.append_nil] at hM
      dsimp only
      rw [← hM] at hrt
      exact sj_retO (es := _) (i := 2) rfl (hrt.le hle)
    · have h0' := of_decide_eq_false h0
      have hM' : (M ++ [(x.1, min x.2 u)]) ++ deal ((srt L).drop (i + 1)) (u - min x.2 u) = deal (srt L) v := by
        rw [← hM]
        show _ = M ++ (if u ≤ 0 then [] else (x.1, min x.2 u) :: deal ((srt L).drop (i + 1)) (u - min x.2 u))
        rw [if_neg h0', List.append_assoc]
        rfl
      dsimp only
      refine sj_seq (sj_asg (ee_cb (ea_cons (ee_var rfl) (ea_cons (ee_var rfl) ea_nil)) rc_min2) ?_)
      refine sj_seq (sj_app (i := 0) rfl (ee_var rfl) (ee_tup (ea_cons (ee_var rfl) (ea_cons (ee_var rfl) ea_nil)) (by show 2 ≤ 1000; decide)) (by rw [List.length_map]; omega) ?_)
      refine sj_aug (i := 3) rfl (ee_var rfl) ?_
      dsimp only
      refine sj_postW [LC K p ((M ++ [(x.1, min x.2 u)]).map room)] ?_ ⟨_, u - min x.2 u, rfl, hM', by rw [List.length_append]; exact Nat.succ_le_succ hlen, _, _, _, rfl⟩
      rw [List.map_append]
      rfl
  · rintro Wf es' Wt' hle ⟨M, u, rfl, hM, hlen, a, b, c, rfl⟩
    rw [List.length_map, List.drop_length] at hM
    have hM' : M = deal (srt L) v := by rw [← hM]; exact (List.append_nil M).symm
    rw [← hM'] at hrt
    exact sj_retO (es := _) (i := 2) rfl (hrt.le hle)

end
end Z9


set_option Elab.async false
set_option linter.all false
set_option maxRecDepth 100000
set_option maxHeartbeats 4000000
namespace Z9
open PySem PySem.Spec PyProof.Rows L2 Z
open Evl (Ex rLenS rListS)
local macro_rules | `(tactic| walk_at "rr") => `(tactic| first
  | exact ⟨_, rfl, rfl⟩
  | exact ⟨_, _, rfl, rfl⟩
  | exact ⟨_, _, _, rfl, rfl⟩
  | exact ⟨_, _, rfl, by omega, rfl⟩)
local macro_rules | `(tactic| walk_at "ev") => `(tactic| first
  | ((with_reducible apply ee_c); first | exact .int _ | exact .str _ | exact .bl _ | exact .non)
  | ((with_reducible apply ee_var); exact rfl)
  | ((with_reducible apply ee_op) <;> walk_at "ev")
  | ((with_reducible apply ee_cb) <;> walk_at "ev")
  | ((with_reducible apply ee_call) <;> walk_at "ev")
  | ((with_reducible apply ee_tup) <;> walk_at "ev")
  | ((with_reducible apply ee_notV) <;> walk_at "ev")
  | (with_reducible exact ea_nil)
  | ((with_reducible apply ea_cons) <;> walk_at "ev")
  | ((with_reducible apply et_test) <;> walk_at "ev")
  | ((with_reducible apply et_B) <;> walk_at "ev")
  | ((with_reducible apply et_and) <;> (try intro _) <;> walk_at "ev")
  | ((with_reducible apply et_or) <;> (try intro _) <;> walk_at "ev")
  | ((with_reducible apply et_not) <;> walk_at "ev")
  | ((with_reducible apply ro_I0); first | exact .int _ | exact .bl _)
  | ((with_reducible apply ro_I); rotate_left; (first | exact .int _ | exact .bl _); (first | exact ⟨by decide, by decide⟩ | exact .inl ⟨by decide, by decide⟩ | exact .inr ⟨by decide, by decide⟩ | (show (0 : Int) < _; omega) | (show (0 : Int) < _; decide) | skip))
  | (with_reducible exact ro_eqI) | (with_reducible exact ro_neI) | (with_reducible exact ro_eqS) | (with_reducible exact ro_neS)
  | (with_reducible apply ro_ixLk (.lst _))
  | (with_reducible apply ro_ixLk (.sl _))
  | (with_reducible apply ro_ixT)
  | (with_reducible exact rc_len (.lst _)) | (with_reducible exact rc_len (.sl _)) | (with_reducible exact rc_lenT)
  | (with_reducible exact rc_max2) | (with_reducible exact rc_min2) | (with_reducible exact rc_int_b) | (with_reducible exact rc_sum)
  | (with_reducible exact eo_none)
  | ((with_reducible apply eo_some) <;> walk_at "ev")
  | (show _ ≤ 1000; decide)
  | walk_at "rr"
  | skip)
section
variable {P : Program} {w : World} {K : PySem.W.Frag} {mg : Str → Option Value} {base : Heap} {D : Dat}
theorem ok_law (T : Txt K mg D) : FnOk P w K mg base CX0 3 D.a_law D.f_law ["_law_script"] (spLaw K) := by
  refine fn_law T.F_law sc_law rfl fun cdv A outer s H E hr => ?_
  have hu := hr.units
  have hu65 : (A.deeper (envOfC "law" (defScope s_law) s.heap.objs.size D.a_law cdv)).units + 65 < cLine := by have := hr.un; omega
  refine ⟨_, (pss_cons (ps_set (i := 1) sc_law.nd rfl (Or.inl rfl) (pe_call (ok_law_rooms T) (hr.mono (by decide)) rfl T.g_law_rooms T.F_law_rooms.kp T.b_law_rooms .nil pass0 (pa_cons (pv 0) pa_nil)))
      (pss_cons (ps_set (i := 3) sc_law.nd rfl (Or.inl rfl) (pe_callB (cr_sum rfl) (by rfl) T.n_sum (by decide +kernel) (pa_cons (pe_lc (own := [("_law_room", 2)]) (g := (gName 2)) (tt := tYes) (te := (tOp (rIxT K) (tVar 2) (tC (.int 1)))) rfl sc_law.nd (pi_list (pv 1)) (blkOk_by (N := ["_law_script", "_law_rooms_here", "_law_room", "_law_whole_here", "_law_many", "_law_handed", "_law_found", "_law_chosen_here", "_law_one", "_law_other", "_law_k", "_law_place", "_law_part"]) (sc := defScope s_law) (by decide +kernel)) (fun _ _ _ _ _ => (pg_name (i := 2) sc_law.nd rfl (Or.inl rfl))) (fun _ _ _ _ _ => pts_nil) (fun _ _ _ _ _ => (pe_ix ix_tup (pv 2) pe_int (fun _ _ => rfl)))) pa_nil)))
      (pss_cons (ps_set (i := 4) sc_law.nd rfl (Or.inl rfl) (pe_op op_add pe_int (pe_op op_mod (pe_op op_fdiv (pe_call (ok_law_cell_at T) (hr.mono (by decide)) rfl T.g_law_cell_at T.F_law_cell_at.kp T.b_law_cell_at .nil pass0 (pa_cons (pv 0) (pa_cons pe_int pa_nil))) pe_int) (pe_callB (call_max2' rfl) (by rfl) T.n_max (by decide +kernel) (pa_cons pe_int (pa_cons (pv 3) pa_nil))))))
      (pss_cons (ps_if (pt_cmpR op_eq (pe_op op_mod (pe_call (ok_law_cell_at T) (hr.mono (by decide)) rfl T.g_law_cell_at T.F_law_cell_at.kp T.b_law_cell_at .nil pass0 (pa_cons (pv 0) (pa_cons pe_int pa_nil))) pe_int) pe_int (nomark _)) (pss_one (ps_set (i := 4) sc_law.nd rfl (Or.inl rfl) (pe_op op_add (pv 3) pe_int))) pss_nil)
      (pss_cons (ps_if (PW.pt (pw_and (pt_cmpR op_eq (pe_op op_mod (pe_call (ok_law_cell_at T) (hr.mono (by decide)) rfl T.g_law_cell_at T.F_law_cell_at.kp T.b_law_cell_at .nil pass0 (pa_cons (pv 0) (pa_cons pe_int pa_nil))) pe_int) pe_int (nomark _)) (pw_and1 (pt_cmpR op_gt (pv 3) pe_int (nomark _))))) (pss_one (ps_set (i := 4) sc_law.nd rfl (Or.inl rfl) (pv 3))) pss_nil)
      (pss_cons (ps_set (i := 5) sc_law.nd rfl (Or.inl rfl) (pe_callTy call_listS' (by rfl) T.n_list (by decide +kernel) (pa_cons (pv 1) pa_nil)))
      (pss_cons (ps_set (i := 6) sc_law.nd rfl (Or.inl rfl) pe_non)
      (pss_cons (ps_try_only (tb := fun W => tAsg (tCallS (spX K R_dealt (RX_dealt D.CF)) (WE W) (tCons (tVar 5) (tCons (tVar 4) tNil))) (gName 6)) (ts := fun _ _ _ => (tRet (tAndV (tOp (rI0 fun i j => .bl (decide (j < i))) (tVar 4) (tVar 3)) (tOp (rEqD K) (tVar 5) (tVar 1))))) (Wout := fun _ _ _ _ => False) rfl rfl ⟨rfl, by decide, .inl T.gF⟩ takes0 (fun W pn xe tk _ => (pss_one (ps_set (i := 6) sc_law.nd rfl (Or.inl rfl) (by exact (pe_callS (ok_dealt T) (hr.mono (by decide)) rfl T.g_dealt T.F_dealt.kp T.b_dealt (fun σ => passAt tk σ) (by exact (pa_cons (pv 5) (pa_cons (pv 4) pa_nil)))))))) (fun a oe cls d pn _ _ => (pss_one (ps_ret (pe_and (pe_cmpR op_gt (pv 4) (pv 3) (nomark _)) (pe_one (pe_cmpR (op_eqD hu) (pv 5) (pv 1) (nomark _))))))))
      (pss_cons (ps_if (PW.pt (pw_or (pt_cmpR op_gt (pv 4) (pv 3) (nomark _)) (pw_or (pt_cmpR (op_neD hu) (pv 5) (pv 1) (nomark _)) (pw_or1 (pt_not (pt_val (pe_call (ok_law_pairs T) (hr.mono (by decide)) rfl T.g_law_pairs T.F_law_pairs.kp T.b_law_pairs .nil pass0 (pa_cons (pv 6) pa_nil)))))))) (pss_one (ps_ret pe_bl)) pss_nil)
      (pss_cons (ps_set (i := 7) sc_law.nd rfl (Or.inl rfl) (pe_call (ok_law_chosen T) (hr.mono (by decide)) rfl T.g_law_chosen T.F_law_chosen.kp T.b_law_chosen .nil pass0 (pa_cons (pv 1) (pa_cons (pv 6) pa_nil))))
      (pss_cons (ps_if (PW.pt (pw_or (pt_cmpR op_isN' (pv 7) pe_non (nomark _)) (pw_or1 (pt_cmpR op_ne (pe_callB (cr_sum rfl) (by rfl) T.n_sum (by decide +kernel) (pa_cons (pe_lc (own := [("_law_place", 11), ("_law_part", 12)]) (g := (gTup K 2 (gCons (gName 11) (gCons (gName 12) gNil)))) (tt := tYes) (te := (tVar 12)) rfl sc_law.nd (pi_list (pv 6)) (blkOk_by (N := ["_law_script", "_law_rooms_here", "_law_room", "_law_whole_here", "_law_many", "_law_handed", "_law_found", "_law_chosen_here", "_law_one", "_law_other", "_law_k", "_law_place", "_law_part"]) (sc := defScope s_law) (by decide +kernel)) (fun _ _ _ _ _ => (pg_tup rfl (pgs_cons (pg_name (i := 11) sc_law.nd rfl (Or.inl rfl)) (pgs_cons (pg_name (i := 12) sc_law.nd rfl (Or.inl rfl)) pgs_nil)))) (fun _ _ _ _ _ => pts_nil) (fun _ _ _ _ _ => (pv 12))) pa_nil)) (pv 4) (nomark _))))) (pss_one (ps_ret pe_bl)) pss_nil)
      (pss_cons (ps_for PassesOwn.never rfl (pi_zip (by rfl) T.n_zip (pa_cons (pv 7) (pa_cons (pe_slice sl_list (pv 7) (po_some pe_int) po_none) pa_nil))) (pg_tup rfl (pgs_cons (pg_name (i := 8) sc_law.nd rfl (Or.inl rfl)) (pgs_cons (pg_name (i := 9) sc_law.nd rfl (Or.inl rfl)) pgs_nil))) (pss_one (ps_if (pt_not (pt_val (pe_call (ok_law_ahead T) (hr.mono (by decide)) rfl T.g_law_ahead T.F_law_ahead.kp T.b_law_ahead .nil pass0 (pa_cons (pv 8) (pa_cons (pv 9) pa_nil))))) (pss_one (ps_ret pe_bl)) pss_nil)))
      (pss_cons (ps_for PassesOwn.never rfl (pi_range1 (by rfl) T.n_range (pa_cons (pe_op op_sub (pe_callB call_lenS' (by rfl) T.n_len PySem.boot_len (pa_cons (pv 6) pa_nil)) pe_int) pa_nil)) (pg_name (i := 10) sc_law.nd rfl (Or.inl rfl)) (pss_one (ps_if (pt_cmpR op_ne (pe_ix ix_tup (pe_ix ix_list (pv 6) (pv 10) (fun _ _ => rfl)) pe_int (fun _ _ => rfl)) (pe_ix ix_tup (pe_ix ix_list (pv 7) (pv 10) (fun _ _ => rfl)) pe_int (fun _ _ => rfl)) (nomark _)) (pss_one (ps_ret pe_bl)) pss_nil)))
      (pss_cons (ps_for PassesOwn.never rfl (pi_list (pv 1)) (pg_name (i := 2) sc_law.nd rfl (Or.inl rfl)) (pss_one (ps_if (PW.pt (pw_and (pt_cmpR (op_notInD hu65) (pv 2) (pv 7) (by rfl)) (pw_and (pt_cmpR op_gt (pe_ix ix_tup (pv 2) pe_int (fun _ _ => rfl)) pe_int (nomark _)) (pw_and1 (pt_not (pt_val (pe_call (ok_law_ahead T) (hr.mono (by decide)) rfl T.g_law_ahead T.F_law_ahead.kp T.b_law_ahead .nil pass0 (pa_cons (pe_ix ix_list (pv 7) (pe_un un_neg pe_int) (fun _ _ => rfl)) (pa_cons (pv 2) pa_nil))))))))) (pss_one (ps_ret pe_bl)) pss_nil)))
      (pss_one (ps_ret (pe_cmpR op_lt (pe_callB (cr_sum rfl) (by rfl) T.n_sum (by decide +kernel) (pa_cons (pe_lc (own := [("_law_room", 2)]) (g := (gName 2)) (tt := tYes) (te := (tOp (rIxT K) (tVar 2) (tC (.int 1)))) rfl sc_law.nd (pi_list (pe_slice sl_list (pv 7) po_none (po_some (pe_un un_neg pe_int)))) (blkOk_by (N := ["_law_script", "_law_rooms_here", "_law_room", "_law_whole_here", "_law_many", "_law_handed", "_law_found", "_law_chosen_here", "_law_one", "_law_other", "_law_k", "_law_place", "_law_part"]) (sc := defScope s_law) (by decide +kernel)) (fun _ _ _ _ _ => (pg_name (i := 2) sc_law.nd rfl (Or.inl rfl))) (fun _ _ _ _ _ => pts_nil) (fun _ _ _ _ _ => (pe_ix ix_tup (pv 2) pe_int (fun _ _ => rfl)))) pa_nil)) (pv 4) (nomark _)))))))))))))))))), ?_⟩
  try dsimp only [cxOf, Cx.nox, Cx.wish]
  intro ns rt h63 hrt
  have hrt' : ∀ W : List As, Rt K W rt (.bl true) := fun _ _ _ H _ i => by rw [i.bl_eq]; exact hrt H
  have ecell : ∀ (W : List As) (es : List (Option DD)) (k : Nat), es[0]? = some (some (.sl (ns.map DD.int))) → EE K W es (tCall (spP K R_cell_at) [] E0 (tCons (tVar 0) (tCons (tC (.int (k : Int))) tNil))) (.int (cc ns k)) := fun W es k h =>
    ee_call (ea_cons (ee_var h) (ea_cons (ee_c (.int _)) ea_nil)) ⟨ns, (k : Int), rfl, by omega, rfl⟩
  have g := rooms_good ns h63
  have hS : 0 ≤ total (rooms ns) := total_nn g.nn
  generalize hR : rooms ns = R at g hS
  have esum : ∀ (W : List As) (es : List (Option DD)) (tl : TE) (L : List (Int × Int)), L.length ≤ 1000 → (∀ W, EE K W es tl (.lst (L.map room))) → (∀ d, (wipeE es [2]).set 2 (some d) = (wipeE es [2]).set 2 (some d) ∧ ((wipeE es [2]).set 2 (some d))[2]? = some (some d)) →
      EE K W es (tCB (rSum K) (tCons (tLc (iList K tl) (gName 2) tYes (tOp (rIxT K) (tVar 2) (tC (.int 1))) [2]) tNil)) (.int (total L)) := fun W es tl L hl h h2 => by
    refine ee_cb (ea_cons (ee_frz ?_) ea_nil) (rc_sum (ns := L.map fun p : Int × Int => p.2))
    rw [← kept_snd]
    refine el_lcL (Wf := []) (Wt := W) (js := [2]) (fun _ => true) sndD (.lst _) (h _) (by rw [List.length_map]; omega) fun i d Wt' hle hd => ?_
    obtain ⟨y, _, rfl⟩ := mem_room hd
    exact ⟨_, gj_name, (by decide), et_yes, fun _ => ee_op (ee_var (d := .tup [.int y.1, .int y.2]) (h2 _).2) (ee_c (.int _)) (ro_ixT (room_1 y))⟩
  refine sj_seq (sj_asg (d := .lst (R.map room)) (ee_call (ea_cons (ee_var rfl) ea_nil) ⟨ns, rfl, h63, by rw [hR]⟩) ?_)
  dsimp only
  refine sj_seq (sj_asg (d := .int (total R)) (esum _ _ _ R (by have := g.len; omega) (fun _ => ee_var rfl) fun d => ⟨rfl, rfl⟩) ?_)
  dsimp only
  refine sj_seq (sj_asg (d := .int (many0 ns (total R))) (ee_op (ee_c (.int _)) (ee_op (ee_op (ecell _ _ 1 rfl) (ee_c (.int _)) (ro_I ⟨by decide, by decide⟩ (.int _))) (ee_cb (ea_cons (ee_c (.int _)) (ea_cons (ee_var rfl) ea_nil)) rc_max2) (ro_I (by omega) (.int _))) (ro_I0 (.int _))) ?_)
  dsimp only
  refine sj_seq (sj_ifAsg (i := 4) (d1 := .int (many1 ns (total R))) (b := decide (cc ns 1 % 3 = 1)) (et_test (ee_op (ee_op (ecell _ _ 1 rfl) (ee_c (.int _)) (ro_I (by decide) (.int _))) (ee_c (.int _)) ro_eqI)) (fun h => ?_) (fun h => ?_) ?_)
  · unfold many1
    rw [if_pos (of_decide_eq_true h)]
    exact ee_op (ee_var rfl) (ee_c (.int _)) (ro_I0 (.int _))
  · unfold many1
    rw [if_neg (of_decide_eq_false h)]
    rfl
  dsimp only
  refine sj_seq (sj_ifAsg (i := 4) (d1 := .int (manyOf ns (total R))) (b := decide (cc ns 1 % 3 = 2) && decide (0 < total R)) (et_and (et_test (ee_op (ee_op (ecell _ _ 1 rfl) (ee_c (.int _)) (ro_I (by decide) (.int _))) (ee_c (.int _)) ro_eqI)) fun _ => et_test (ee_op (ee_var rfl) (ee_c (.int _)) (ro_I0 (.bl _)))) (fun h => ?_) (fun h => ?_) ?_)
  · unfold manyOf
    rw [if_pos h]
    exact ee_var rfl
  · unfold manyOf
    rw [if_neg (by rw [h]; decide)]
    rfl
  dsimp only
  have h0 := many_pos ns hS
  generalize manyOf ns (total R) = many at h0
  refine sj_seq (sj_asg (ee_frz (el_cb (ea_cons (ee_var rfl) ea_nil) (rl_list (.lst _)))) ?_)
  dsimp only
  refine sj_seq (sj_asg (ee_c .non) ?_)
  dsimp only
  refine sj_seq (sj_try (ea_cons (ee_var rfl) (ea_cons (ee_var rfl) ea_nil)) ?_)
  by_cases hw : many ≤ total R
  rotate_left
  · have exm : PySem.W.exmOne K (.ref D.CF) (.ref D.CF) = some true := exm_self' T.bF T.iF T.tF T.sF
    refine .inr ⟨.ref D.CF, ⟨R, many, rfl, by have := g.len; omega, by omega, rfl⟩, exm, fun a => ?_⟩
    refine sj_ret (d := .bl true) (ee_is (ee_andV (a := decide (total R < many)) (b := true) (ee_op (ee_var rfl) (ee_var rfl) (ro_I0 (.bl _))) fun _ => ee_op (ee_var rfl) (ee_var rfl) (ro_eqD (ok_rooms R) (ok_rooms R) (shaped_rooms R) (shaped_rooms R) ?_)) (by rw [decide_eq_true (by omega)]; rfl)) (hrt' _)
    show PyData.eqv (.list (pyDs (R.map room))) (.list (pyDs (R.map room))) = true
    rw [PyData.eqv]
    exact eqvAll_rooms R
  obtain ⟨B, p, f, r, st⟩ := story g h0 hw
  refine .inl ⟨.lst ((B ++ [(p, r)]).map room), ⟨R, many, rfl, by have := g.len; omega, hw, by rw [st.dealt]⟩, ?_⟩
  dsimp only
  have hlenC : (B ++ [(p, f)]).length ≤ 180 := by
    have nd : (B ++ [(p, f)]).Nodup := st.ahead.imp fun {a b} h e => by subst e; unfold Ahead at h; omega
    exact Nat.le_trans (List.Nodup.length_le_of_subset nd fun x hx => st.mem x hx) g.len
  have hlenM : (B ++ [(p, r)]).length = (B ++ [(p, f)]).length := by rw [List.length_append, List.length_append]; rfl
  have hB : (B ++ [(p, f)]).length = B.length + 1 := by rw [List.length_append]; rfl
  -- if many > whole or handed != rooms or not pairs(found)
  refine sj_seq (sj_if (b := false) (et_is (et_or (a := decide (total R < many)) (et_test (ee_op (ee_var rfl) (ee_var rfl) (ro_I0 (.bl _)))) fun _ => et_or (a := false) (et_test (ee_op (ee_var rfl) (ee_var rfl) (ro_neD (ok_rooms R) (ok_rooms R) (shaped_rooms R) (shaped_rooms R) (by show (!PyData.eqv (.list (pyDs (R.map room))) (.list (pyDs (R.map room)))) = false; rw [PyData.eqv, eqvAll_rooms R]; rfl)))) fun _ => et_not (a := true) (et_B (ee_call (ea_cons (ee_var rfl) ea_nil) ⟨_, rfl, rfl⟩))) (by rw [decide_eq_false (by omega)]; rfl)) (fun h => nomatch h) fun _ => sj_next ?_)
  dsimp only
  refine sj_seq (sj_asg (d := .lst ((B ++ [(p, f)]).map room)) (ee_call (ea_cons (ee_var rfl) (ea_cons (ee_var rfl) ea_nil)) ⟨R, B ++ [(p, r)], B ++ [(p, f)], rfl, g.nd, g.len, hlenM, by omega, ?_, rfl⟩) ?_)
  · intro i m c hm hc
    refine ⟨st.mem c (List.mem_of_getElem? hc), ?_⟩
    by_cases hi : i < B.length
    · rw [List.getElem?_append_left hi] at hm hc
      rw [hm] at hc
      obtain rfl := Option.some.inj hc
      exact ⟨rfl, st.pos m (List.mem_of_getElem? hm), Int.le_refl _⟩
    · rw [List.getElem?_append_right (by omega)] at hm hc
      have e : i - B.length = 0 := by
        have := (List.getElem?_eq_some_iff.mp hm).1
        simp only [List.length_singleton] at this
        omega
      rw [e] at hm hc
      obtain rfl := Option.some.inj hm
      obtain rfl := Option.some.inj hc
      exact ⟨rfl, st.r0, st.rf⟩
  dsimp only
  have htot : total (B ++ [(p, r)]) = many := by rw [total_append, total_cons, total_nil, st.sum]; simp
  refine sj_seq (sj_if (b := false) (et_or (a := false) (et_test (ee_op (ee_var rfl) (ee_c .non) (ro_isN fun v h => nomatch h))) fun _ => et_test (ee_is (ee_op (d1 := .int (total (B ++ [(p, r)]))) (ee_cb (ea_cons (ee_frz ?_) ea_nil) (rc_sum (ns := (B ++ [(p, r)]).map fun q : Int × Int => q.2))) (ee_var rfl) ro_neI) (by rw [htot, decide_eq_true rfl]; rfl))) (fun h => nomatch h) fun _ => sj_next ?_)
  · rw [← kept_snd]
    refine el_lcL (Wf := []) (Wt := []) (js := [11] ++ ([12] ++ [])) (fun _ => true) sndD (.lst _) (ee_var rfl) (by rw [List.length_map]; omega) fun i d Wt' hle hd => ?_
    obtain ⟨q, _, rfl⟩ := mem_room hd
    exact ⟨_, gj_tup (gsj_cons gj_name (gsj_cons gj_name gsj_nil)) rfl, (by decide), et_yes, fun _ => ee_var rfl⟩
  dsimp only
  have hdrop : Z.cutD ((B ++ [(p, f)]).map room) (some 1) none = ((B ++ [(p, f)]).drop 1).map room := by
    rw [cutD_drop _ (by decide) (by rw [List.length_map, hB]; omega), List.map_drop]
    rfl
  refine sj_seq (sj_forZ (Wf := []) (Wt := []) (xs := (B ++ [(p, f)]).map room) (ys := ((B ++ [(p, f)]).drop 1).map room) (fun i Wf es' => Wf = [] ∧ ∃ a x y b c d, es' = [some (.sl (ns.map DD.int)), some (.lst (R.map room)), a, some (.int (total R)), some (.int many), some (.lst (R.map room)), some (.lst ((B ++ [(p, r)]).map room)), some (.lst ((B ++ [(p, f)]).map room)), x, y, b, c, d])
    (ea_cons (ee_var rfl) (ea_cons (by rw [← hdrop]; exact ee_frz (el_slice (.lst _) (ee_var rfl) (eo_some (ee_c (.int _))) eo_none)) ea_nil)) ⟨rfl, _, _, _, _, _, _, rfl⟩ ?_ ?_)
  · rintro i x y Wf es' Wt' hle hx hy ⟨rfl, a, b, c, d, e, k, rfl⟩
    obtain ⟨u, hu1, rfl⟩ := mem_room hx
    obtain ⟨v, hv1, rfl⟩ := mem_room hy
    rw [List.getElem?_drop] at hv1
    have ha : Ahead u v := by
      obtain ⟨h1, e1⟩ := List.getElem?_eq_some_iff.mp hu1
      obtain ⟨h2, e2⟩ := List.getElem?_eq_some_iff.mp hv1
      have := List.pairwise_iff_getElem.mp st.ahead i (1 + i) h1 h2 (by omega)
      rw [e1, e2] at this
      exact this
    refine ⟨_, _, gsj_cons gj_name (gsj_cons gj_name gsj_nil), ?_⟩
    refine sj_if (b := false) (et_not (a := true) (et_B (ee_call (ea_cons (ee_var rfl) (ea_cons (ee_var rfl) ea_nil)) ⟨u, v, rfl, by rw [aheadB_of ha]⟩))) (fun h => nomatch h) fun _ => sj_next ?_
    refine sj_postW [] rfl ?_
    exact ⟨rfl, _, _, _, _, _, _, rfl⟩
  rintro Wf es' Wt' hle ⟨rfl, a1, a2, a3, a4, a5, a6, rfl⟩
  dsimp only
  refine sj_seq (sj_forR (Wf := []) (Wt := Wt') (n := ((B ++ [(p, r)]).length : Int) - 1) (fun i Wf es' => Wf = [] ∧ ∃ a x y b c d, es' = [some (.sl (ns.map DD.int)), some (.lst (R.map room)), a, some (.int (total R)), some (.int many), some (.lst (R.map room)), some (.lst ((B ++ [(p, r)]).map room)), some (.lst ((B ++ [(p, f)]).map room)), x, y, b, c, d])
    (ea_cons (ee_op (ee_cb (ea_cons (ee_var rfl) ea_nil) (ee_len_room _)) (ee_c (.int _)) (ro_I0 (.int _))) ea_nil) (by omega) ⟨rfl, _, _, _, _, _, _, rfl⟩ ?_ ?_)
  · rintro i Wf es' Wt2 hle2 hi ⟨rfl, a, b, c, d, e, k, rfl⟩
    have hiB : i < B.length := by rw [hlenM, hB] at hi; omega
    obtain ⟨z, hz⟩ : ∃ z, B[i]? = some z := ⟨_, List.getElem?_eq_getElem hiB⟩
    have e1 : ∀ q : Int × Int, atI ((B ++ [q]).map room) (i : Int) = some (room z) := fun q => atI_nat (by rw [List.getElem?_map, List.getElem?_append_left hiB, hz]; rfl)
    refine sj_if (b := false) (et_test (ee_is (ee_op (ee_op (ee_op (ee_var rfl) (ee_var rfl) (ro_ixL (d := .tup [.int z.1, .int z.2]) (e1 _))) (ee_c (.int _)) (ro_ixT (room_1 z))) (ee_op (ee_op (ee_var rfl) (ee_var rfl) (ro_ixL (d := .tup [.int z.1, .int z.2]) (e1 _))) (ee_c (.int _)) (ro_ixT (room_1 z))) ro_neI) (by rw [decide_eq_true rfl]; rfl))) (fun h => nomatch h) fun _ => sj_next ?_
    refine sj_postW [] rfl ?_
    exact ⟨rfl, _, _, _, _, _, _, rfl⟩
  rintro Wf es' Wt2 hle2 ⟨rfl, b1, b2, b3, b4, b5, b6, rfl⟩
  dsimp only
  refine sj_seq (sj_forL (Wf := []) (Wt := Wt2) (ds := R.map room) (fun i Wf es' => Wf = [] ∧ ∃ a x y b c d, es' = [some (.sl (ns.map DD.int)), some (.lst (R.map room)), a, some (.int (total R)), some (.int many), some (.lst (R.map room)), some (.lst ((B ++ [(p, r)]).map room)), some (.lst ((B ++ [(p, f)]).map room)), x, y, b, c, d])
    (.lst _) (ee_var rfl) ⟨rfl, _, _, _, _, _, _, rfl⟩ ?_ ?_)
  · rintro i dx Wf es' Wt3 hle3 hdx ⟨rfl, a, b, c, d, e, k, rfl⟩
    obtain ⟨x, hx, rfl⟩ := mem_room hdx
    have hxR : x ∈ R := List.mem_of_getElem? hx
    refine ⟨_, _, gj_name, ?_⟩
    refine sj_if (b := false) ?_ (fun h => nomatch h) fun _ => sj_next ?_
    rotate_left
    · refine sj_postW [] rfl ?_
      exact ⟨rfl, _, _, _, _, _, _, rfl⟩
    have en : ∀ W : List As, ET K W _ _ (!decide (x ∈ B ++ [(p, f)])) := fun W => et_test (ee_op (es := [some (.sl (ns.map DD.int)), some (.lst (R.map room)), some (room x), some (.int (total R)), some (.int many), some (.lst (R.map room)), some (.lst ((B ++ [(p, r)]).map room)), some (.lst ((B ++ [(p, f)]).map room)), b, c, d, e, k]) (ta := tVar 2) (tb := tVar 7) (ee_var rfl) (ee_var rfl) (ro_niD (b := !decide (x ∈ B ++ [(p, f)])) rfl (ok_rooms _) (shaped_room x) (shaped_rooms _) (by rw [any_room])))
    by_cases hin : x ∈ B ++ [(p, f)]
    · rw [decide_eq_true hin] at en
      exact et_and (a := false) (b := false) (en _) fun h => nomatch h
    rw [decide_eq_false hin] at en
    have e2 : ∀ W : List As, ET K W _ _ (decide (0 < x.2)) := fun W => et_test (ee_op (r := rI0 fun i j => .bl (decide (j < i))) (es := [some (.sl (ns.map DD.int)), some (.lst (R.map room)), some (room x), some (.int (total R)), some (.int many), some (.lst (R.map room)), some (.lst ((B ++ [(p, r)]).map room)), some (.lst ((B ++ [(p, f)]).map room)), b, c, d, e, k]) (ta := tOp (rIxT K) (tVar 2) (tC (.int 1))) (tb := tC (.int 0)) (ee_op (ee_var (d := .tup [.int x.1, .int x.2]) rfl) (ee_c (.int _)) (ro_ixT (room_1 x))) (ee_c (.int _)) (ro_I0 (.bl _)))
    by_cases hpos : 0 < x.2
    rotate_left
    · rw [decide_eq_false hpos] at e2
      exact et_and (a := true) (b := false) (en _) fun _ => et_and (a := false) (b := false) (e2 _) fun h => nomatch h
    rw [decide_eq_true hpos] at e2
    have ha := st.rest x hxR hin
    have hl : atI ((B ++ [(p, f)]).map room) (-1) = some (room (p, f)) := by rw [List.map_append]; exact atI_last _ _
    exact et_and (a := true) (b := false) (en _) fun _ => et_and (a := true) (b := false) (e2 _) fun _ => et_not (a := true) (et_B (ee_call (ea_cons (ee_op (ee_var rfl) (ee_neg (ee_c (.int _))) (ro_ixL hl)) (ea_cons (ee_var rfl) ea_nil)) ⟨(p, f), x, rfl, by rw [aheadB_of ha]⟩))
  rintro Wf es' Wt3 hle3 ⟨rfl, c1, c2, c3, c4, c5, c6, rfl⟩
  dsimp only
  have hcut : Z.cutD ((B ++ [(p, f)]).map room) none (some (-1)) = B.map room := by rw [List.map_append]; exact cutD_last _ _
  refine sj_ret (d := .bl true) (ee_is (ee_op (esum _ _ _ B (by omega) (fun W => by rw [← hcut]; exact ee_frz (el_slice (.lst _) (ee_var rfl) eo_none (eo_some (ee_neg (ee_c (.int _)))))) fun d => ⟨rfl, rfl⟩) (ee_var rfl) (ro_I0 (.bl _))) ?_) (hrt' _)
  have : total B < many := by have := st.sum; have := st.r0; omega
  rw [decide_eq_true this]
end
end Z9


set_option Elab.async false
set_option linter.all false
set_option maxRecDepth 100000
set_option maxHeartbeats 4000000
namespace Z9
open PySem PySem.Spec PyProof.Rows L2 Z
open Evl (Ex rLenS rListS)
theorem all_mk {l : PySem.W.OpenLaw} {w : World} {K : PySem.W.Frag} {h : Heap} {mg : Str → Option Value} {fa CF f1 f2 f3 f4 f5 f6 f7 f8 f9 f10 f11 : Addr} (X : K.In h) (G : h.Ns mainGlobals mg) (hfa : mg "law" = some (.ref fa))
    {od1 an1 od2 an2 od3 an3 od4 an4 od5 an5 od6 an6 od7 an7 od8 an8 od9 an9 od10 an10 od11 an11 : Option Addr} {sl1 sl2 sl3 sl4 sl5 sl6 sl7 sl8 sl9 sl10 sl11 : Array (Option Value)} {oc1 kV1 dc1 pm1 cd1 ct1 oc2 kV2 dc2 pm2 cd2 ct2 oc3 kV3 dc3 pm3 cd3 ct3 oc4 kV4 dc4 pm4 cd4 ct4 oc5 kV5 dc5 pm5 cd5 ct5 oc6 kV6 dc6 pm6 cd6 ct6 oc7 kV7 dc7 pm7 cd7 ct7 oc8 kV8 dc8 pm8 cd8 ct8 oc9 kV9 dc9 pm9 cd9 ct9 oc10 kV10 dc10 pm10 cd10 ct10 oc11 kV11 dc11 pm11 cd11 ct11 : Value}
    (z_bool : PySem.W.nsIn K mainGlobals "bool" = some none)
    (z_int : PySem.W.nsIn K mainGlobals "int" = some none)
    (z_isinstance : PySem.W.nsIn K mainGlobals "isinstance" = some none)
    (z_len : PySem.W.nsIn K mainGlobals "len" = some none)
    (z_list : PySem.W.nsIn K mainGlobals "list" = some none)
    (z_max : PySem.W.nsIn K mainGlobals "max" = some none)
    (z_min : PySem.W.nsIn K mainGlobals "min" = some none)
    (z_range : PySem.W.nsIn K mainGlobals "range" = some none)
    (z_sorted : PySem.W.nsIn K mainGlobals "sorted" = some none)
    (z_sum : PySem.W.nsIn K mainGlobals "sum" = some none)
    (z_tuple : PySem.W.nsIn K mainGlobals "tuple" = some none)
    (z_zip : PySem.W.nsIn K mainGlobals "zip" = some none)
    (a1 : PySem.W.nsIn K mainGlobals "_law_cell_at" = some (some (.ref f1)))
    (l1 : K.lookup f1 = some ⟨oc1, od1, .func (PySem.W.fnOf "_law_cell_at" "_law_cell_at" (defArgs s__law_cell_at) (defBody s__law_cell_at) (defScope s__law_cell_at) .none kV1 dc1 pm1 an1 cd1 ct1), sl1⟩)
    (c1 : PySem.W.codeIn K cd1 "_law_cell_at" = true)
    (k1 : PySem.W.keepIn K (.ref f1) = true)
    (a2 : PySem.W.nsIn K mainGlobals "_law_free_by" = some (some (.ref f2)))
    (l2 : K.lookup f2 = some ⟨oc2, od2, .func (PySem.W.fnOf "_law_free_by" "_law_free_by" (defArgs s__law_free_by) (defBody s__law_free_by) (defScope s__law_free_by) .none kV2 dc2 pm2 an2 cd2 ct2), sl2⟩)
    (c2 : PySem.W.codeIn K cd2 "_law_free_by" = true)
    (k2 : PySem.W.keepIn K (.ref f2) = true)
    (a3 : PySem.W.nsIn K mainGlobals "_law_rooms" = some (some (.ref f3)))
    (l3 : K.lookup f3 = some ⟨oc3, od3, .func (PySem.W.fnOf "_law_rooms" "_law_rooms" (defArgs s__law_rooms) (defBody s__law_rooms) (defScope s__law_rooms) .none kV3 dc3 pm3 an3 cd3 ct3), sl3⟩)
    (c3 : PySem.W.codeIn K cd3 "_law_rooms" = true)
    (k3 : PySem.W.keepIn K (.ref f3) = true)
    (a4 : PySem.W.nsIn K mainGlobals "_law_whole" = some (some (.ref f4)))
    (l4 : K.lookup f4 = some ⟨oc4, od4, .func (PySem.W.fnOf "_law_whole" "_law_whole" (defArgs s__law_whole) (defBody s__law_whole) (defScope s__law_whole) .none kV4 dc4 pm4 an4 cd4 ct4), sl4⟩)
    (c4 : PySem.W.codeIn K cd4 "_law_whole" = true)
    (k4 : PySem.W.keepIn K (.ref f4) = true)
    (a5 : PySem.W.nsIn K mainGlobals "_law_pairs" = some (some (.ref f5)))
    (l5 : K.lookup f5 = some ⟨oc5, od5, .func (PySem.W.fnOf "_law_pairs" "_law_pairs" (defArgs s__law_pairs) (defBody s__law_pairs) (defScope s__law_pairs) .none kV5 dc5 pm5 an5 cd5 ct5), sl5⟩)
    (c5 : PySem.W.codeIn K cd5 "_law_pairs" = true)
    (k5 : PySem.W.keepIn K (.ref f5) = true)
    (a6 : PySem.W.nsIn K mainGlobals "_law_ahead" = some (some (.ref f6)))
    (l6 : K.lookup f6 = some ⟨oc6, od6, .func (PySem.W.fnOf "_law_ahead" "_law_ahead" (defArgs s__law_ahead) (defBody s__law_ahead) (defScope s__law_ahead) .none kV6 dc6 pm6 an6 cd6 ct6), sl6⟩)
    (c6 : PySem.W.codeIn K cd6 "_law_ahead" = true)
    (k6 : PySem.W.keepIn K (.ref f6) = true)
    (a7 : PySem.W.nsIn K mainGlobals "_law_chosen" = some (some (.ref f7)))
    (l7 : K.lookup f7 = some ⟨oc7, od7, .func (PySem.W.fnOf "_law_chosen" "_law_chosen" (defArgs s__law_chosen) (defBody s__law_chosen) (defScope s__law_chosen) .none kV7 dc7 pm7 an7 cd7 ct7), sl7⟩)
    (c7 : PySem.W.codeIn K cd7 "_law_chosen" = true)
    (k7 : PySem.W.keepIn K (.ref f7) = true)
    (a8 : PySem.W.nsIn K mainGlobals "_together" = some (some (.ref f8)))
    (l8 : K.lookup f8 = some ⟨oc8, od8, .func (PySem.W.fnOf "_together" "_together" (defArgs s__together) (defBody s__together) (defScope s__together) .none kV8 dc8 pm8 an8 cd8 ct8), sl8⟩)
    (c8 : PySem.W.codeIn K cd8 "_together" = true)
    (k8 : PySem.W.keepIn K (.ref f8) = true)
    (a9 : PySem.W.nsIn K mainGlobals "_most_free_first" = some (some (.ref f9)))
    (l9 : K.lookup f9 = some ⟨oc9, od9, .func (PySem.W.fnOf "_most_free_first" "_most_free_first" (defArgs s__most_free_first) (defBody s__most_free_first) (defScope s__most_free_first) .none kV9 dc9 pm9 an9 cd9 ct9), sl9⟩)
    (c9 : PySem.W.codeIn K cd9 "_most_free_first" = true)
    (k9 : PySem.W.keepIn K (.ref f9) = true)
    (a10 : PySem.W.nsIn K mainGlobals "dealt" = some (some (.ref f10)))
    (l10 : K.lookup f10 = some ⟨oc10, od10, .func (PySem.W.fnOf "dealt" "dealt" (defArgs s_dealt) (defBody s_dealt) (defScope s_dealt) .none kV10 dc10 pm10 an10 cd10 ct10), sl10⟩)
    (c10 : PySem.W.codeIn K cd10 "dealt" = true)
    (k10 : PySem.W.keepIn K (.ref f10) = true)
    (a11 : PySem.W.nsIn K mainGlobals "law" = some (some (.ref f11)))
    (l11 : K.lookup f11 = some ⟨oc11, od11, .func (PySem.W.fnOf "law" "law" (defArgs s_law) (defBody s_law) (defScope s_law) .none kV11 dc11 pm11 an11 cd11 ct11), sl11⟩)
    (c11 : PySem.W.codeIn K cd11 "law" = true)
    (k11 : PySem.W.keepIn K (.ref f11) = true)
    (aF : PySem.W.nsIn K mainGlobals "TooFew" = some (some (.ref CF)))
    (xF : PySem.W.excIn K CF [.type "ValueError", .type "Exception", .type "BaseException", .type "object"] "ValueError.__new__" = true)
    (kF : PySem.W.keepIn K (.ref CF) = true)
    (bF : PySem.W.subIn K (.ref CF) (.type "BaseException") = some true)
    (tF : PySem.W.typeIn K (.ref CF) = some (.type "type"))
    (iF : PySem.W.isClsIn K CF = true)
    (sF : PySem.W.subIn K (.ref CF) (.ref CF) = some true) :
    ∃ fd : FuncData, (∀ (s : Shared) (v : Value), BindsTo s fd ⟨[v], []⟩ [("_law_script", v)]) ∧ ∀ base : Heap, K.In base → base.Ns mainGlobals mg → FnOk l.prog w K mg base CX0 3 fa fd ["_law_script"] (spLaw K) := by
  have e := hfa.symm.trans (PySem.W.mg_of X G a11)
  cases e
  have F1 := fun_mk (st := s__law_cell_at) l1 c1 k1
  have b1 := F1.binds (ps := ["_law_script", "_law_k"]) fun _ _ _ _ _ _ us hl => match us, hl with | [_, _], _ => rfl
  have F2 := fun_mk (st := s__law_free_by) l2 c2 k2
  have b2 := F2.binds (ps := ["_law_cell", "_law_way"]) fun _ _ _ _ _ _ us hl => match us, hl with | [_, _], _ => rfl
  have F3 := fun_mk (st := s__law_rooms) l3 c3 k3
  have b3 := F3.binds (ps := ["_law_script"]) fun _ _ _ _ _ _ us hl => match us, hl with | [_], _ => rfl
  have F4 := fun_mk (st := s__law_whole) l4 c4 k4
  have b4 := F4.binds (ps := ["_law_found"]) fun _ _ _ _ _ _ us hl => match us, hl with | [_], _ => rfl
  have F5 := fun_mk (st := s__law_pairs) l5 c5 k5
  have b5 := F5.binds (ps := ["_law_found"]) fun _ _ _ _ _ _ us hl => match us, hl with | [_], _ => rfl
  have F6 := fun_mk (st := s__law_ahead) l6 c6 k6
  have b6 := F6.binds (ps := ["_law_one", "_law_other"]) fun _ _ _ _ _ _ us hl => match us, hl with | [_, _], _ => rfl
  have F7 := fun_mk (st := s__law_chosen) l7 c7 k7
  have b7 := F7.binds (ps := ["_law_rooms_here", "_law_found"]) fun _ _ _ _ _ _ us hl => match us, hl with | [_, _], _ => rfl
  have F8 := fun_mk (st := s__together) l8 c8 k8
  have b8 := F8.binds (ps := ["rooms"]) fun _ _ _ _ _ _ us hl => match us, hl with | [_], _ => rfl
  have F9 := fun_mk (st := s__most_free_first) l9 c9 k9
  have b9 := F9.binds (ps := ["room"]) fun _ _ _ _ _ _ us hl => match us, hl with | [_], _ => rfl
  have F10 := fun_mk (st := s_dealt) l10 c10 k10
  have b10 := F10.binds (ps := ["rooms", "many"]) fun _ _ _ _ _ _ us hl => match us, hl with | [_, _], _ => rfl
  have F11 := fun_mk (st := s_law) l11 c11 k11
  have b11 := F11.binds (ps := ["_law_script"]) fun _ _ _ _ _ _ us hl => match us, hl with | [_], _ => rfl
  have T : Txt K mg ⟨f1, _, f2, _, f3, _, f4, _, f5, _, f6, _, f7, _, f8, _, f9, _, f10, _, fa, _, CF⟩ := ⟨PySem.W.mg_none_of X G z_bool, PySem.W.mg_none_of X G z_int, PySem.W.mg_none_of X G z_isinstance, PySem.W.mg_none_of X G z_len, PySem.W.mg_none_of X G z_list, PySem.W.mg_none_of X G z_max, PySem.W.mg_none_of X G z_min, PySem.W.mg_none_of X G z_range, PySem.W.mg_none_of X G z_sorted, PySem.W.mg_none_of X G z_sum, PySem.W.mg_none_of X G z_tuple, PySem.W.mg_none_of X G z_zip, PySem.W.mg_of X G a1, F1, b1, PySem.W.mg_of X G a2, F2, b2, PySem.W.mg_of X G a3, F3, b3, PySem.W.mg_of X G a4, F4, b4, PySem.W.mg_of X G a5, F5, b5, PySem.W.mg_of X G a6, F6, b6, PySem.W.mg_of X G a7, F7, b7, PySem.W.mg_of X G a8, F8, b8, PySem.W.mg_of X G a9, F9, b9, PySem.W.mg_of X G a10, F10, b10, PySem.W.mg_of X G a11, F11, b11, PySem.W.mg_of X G aF, xF, kF, bF, tF, iF, sF, ⟨_, _, _, _, _, _, _, _, _, l9, c9⟩⟩
  exact ⟨_, fun s v => .of_eq rfl, fun base _ _ => ok_law T⟩
theorem walk {l : PySem.W.OpenLaw} {q : Program} {loose : List Str} {XP : (Str → Option Value) → Heap → Prop} {YP : World → Heap → Prop} {d : DefRec} {K : Params → PySem.W.Frag} (hn : l.most = some 63) (hdf : d.params.defaults = [])
    (hY : ∀ (w : World) (h : Heap), YP w h → (K w.params).In h)
    (F : ∀ (w : World) (mg : Str → Option Value) (fa : Addr) (h : Heap), (K w.params).In h → h.Ns mainGlobals mg → mg d.name = some (.ref fa) →
      ∃ fd : FuncData, (∀ (s : Shared) (u : Value), BindsTo s fd ⟨[u], []⟩ [("_law_script", u)]) ∧ ∀ base : Heap, (K w.params).In base → base.Ns mainGlobals mg → FnOk l.prog w (K w.params) mg base CX0 3 fa fd ["_law_script"] (spLaw (K w.params))) :
    PySem.W.WalkO q loose XP YP l.row.toRowW d [] (fun f vs => PySem.call f vs) :=
  L2.walk_of (n := 63) (k := 3) (x := "_law_script") (CX := fun _ => CX0) (sp := fun w => spLaw (K w.params)) hn (by decide) hdf ⟨rfl, by decide, by decide⟩ hY F (fun _ _ a ns hl _ hS => ⟨a, ns, rfl, hS, hl, fun _ => rfl⟩) fun _ _ _ _ _ z => z
end Z9
open PySem PySem.W PyProof.Rows in
set_option maxRecDepth 100000 in
set_option maxHeartbeats 0 in
theorem PySem.Challenge.cw_stockfloor_k09_dealt_holds : PySem.Challenge.rw_stockfloor_k09_dealt.Holds := by
  w_on; o_law; k_head; (case hw => w_witness2)
  k_fill
  refine Z9.walk (l := PySem.Challenge.rw_stockfloor_k09_dealt) rfl rfl (fun w h Y => PySem.W.kIn_of Y) ?F
  case F =>
    intro w mg fa h KX G hmg
    refine' Z9.all_mk KX G hmg ?z_bool ?z_int ?z_isinstance ?z_len ?z_list ?z_max ?z_min ?z_range ?z_sorted ?z_sum ?z_tuple ?z_zip ?a1 ?l1 ?c1 ?k1 ?a2 ?l2 ?c2 ?k2 ?a3 ?l3 ?c3 ?k3 ?a4 ?l4 ?c4 ?k4 ?a5 ?l5 ?c5 ?k5 ?a6 ?l6 ?c6 ?k6 ?a7 ?l7 ?c7 ?k7 ?a8 ?l8 ?c8 ?k8 ?a9 ?l9 ?c9 ?k9 ?a10 ?l10 ?c10 ?k10 ?a11 ?l11 ?c11 ?k11 ?aF ?xF ?kF ?bF ?tF ?iF ?sF
    (case z_bool => k_is)
    (case z_int => k_is)
    (case z_isinstance => k_is)
    (case z_len => k_is)
    (case z_list => k_is)
    (case z_max => k_is)
    (case z_min => k_is)
    (case z_range => k_is)
    (case z_sorted => k_is)
    (case z_sum => k_is)
    (case z_tuple => k_is)
    (case z_zip => k_is)
    (case a1 => k_is)
    (case l1 => k_is)
    (case c1 => k_is)
    (case k1 => k_is)
    (case a2 => k_is)
    (case l2 => k_is)
    (case c2 => k_is)
    (case k2 => k_is)
    (case a3 => k_is)
    (case l3 => k_is)
    (case c3 => k_is)
    (case k3 => k_is)
    (case a4 => k_is)
    (case l4 => k_is)
    (case c4 => k_is)
    (case k4 => k_is)
    (case a5 => k_is)
    (case l5 => k_is)
    (case c5 => k_is)
    (case k5 => k_is)
    (case a6 => k_is)
    (case l6 => k_is)
    (case c6 => k_is)
    (case k6 => k_is)
    (case a7 => k_is)
    (case l7 => k_is)
    (case c7 => k_is)
    (case k7 => k_is)
    (case a8 => k_is)
    (case l8 => k_is)
    (case c8 => k_is)
    (case k8 => k_is)
    (case a9 => k_is)
    (case l9 => k_is)
    (case c9 => k_is)
    (case k9 => k_is)
    (case a10 => k_is)
    (case l10 => k_is)
    (case c10 => k_is)
    (case k10 => k_is)
    (case a11 => k_is)
    (case l11 => k_is)
    (case c11 => k_is)
    (case k11 => k_is)
    (case aF => k_is)
    (case xF => k_exc)
    (case kF => k_is)
    (case bF => k_is)
    (case tF => k_is)
    (case iF => k_is)
    (case sF => k_is)
#print axioms PySem.Challenge.cw_stockfloor_k09_dealt_holds
