import PyProof.Rows.All
import Wide.All
import OpenK.AllK
import Wide.FinOn
import HandS.ForMost
import HandS.IsInst
import HandS.StrMore
import HandS.Set
import HandS.SetBool
import PySem.Challenge.RW_tidefold_k05_sources_of_plans
set_option Elab.async false
set_option linter.all false
set_option maxRecDepth 100000
set_option maxHeartbeats 4000000
namespace Tf
open PySem PySem.Spec PyProof.Rows L2

/-! ### heaps: all but what stands at d stays -/
def Up (d : Addr) (H H' : Hp) : Prop := ∀ b o, b ≠ d → H b = some o → H' b = some o
theorem Up.refl {d : Addr} {H : Hp} : Up d H H := fun _ _ _ h => h
theorem Up.trans {d : Addr} {H H1 H2 : Hp} (a : Up d H H1) (b : Up d H1 H2) : Up d H H2 := fun c o n h => b c o n (a c o n h)
theorem Up.same {d : Addr} {H H' : Hp} (a : Same H H') : Up d H H' := fun c o _ h => a c o h
theorem Up.new {d : Addr} {H : Hp} {p : Addr} {o : HO} (h : H p = none) : Up d H (upd H p o) := fun b u _ e => by rw [upd_ne (ne_of_none e h)]; exact e
theorem Up.at {d : Addr} {H : Hp} {o : HO} : Up d H (upd H d o) := fun b u n e => by rw [upd_ne n]; exact e
/-- a list that the call before did not know may change -/
theorem Up.mut {d : Addr} {H H' : Hp} {p : Addr} {o : HO} (a : Up d H H') (h : H p = none) : Up d H (upd H' p o) := fun b u n e => by
  rw [upd_ne (ne_of_none e h)]
  exact a b u n e
theorem same_new {H : Hp} {p : Addr} (h : H p = none) (o : HO) : Same H (upd H p o) := fun b u q => by rw [upd_ne (ne_of_none q h)]; exact q
theorem Up.seq {d a : Addr} {K : PySem.W.Frag} {H H' : Hp} {xs : List V} (u : Up d H H') (n : a ≠ d) (h : SqL K H a xs) : SqL K H' a xs := by
  rcases h with (h | ⟨o, h⟩) | h
  · exact .inl (.inl (u _ _ n h))
  · exact .inl (.inr ⟨o, u _ _ n h⟩)
  · exact .inr h
/-! ### the numbers that are drawn -/
def Dr (sc : Addr) (H : Hp) (d : Addr) : Prop := ∃ (ns : List Int) (i : Nat) (big st : Int), H d = some (.lst [.ref sc, .int i, .int big, .int st]) ∧ H sc = some (.lst (ns.map V.int)) ∧ sc ≠ d ∧ 0 ≤ big ∧ 0 ≤ st ∧ st < 2147483647
theorem Dr.up {sc : Addr} {H H' : Hp} {d : Addr} (h : Dr sc H d) (k : ∀ b o, H b = some o → H' b = some o) : Dr sc H' d := by
  obtain ⟨ns, i, big, st, h1, h2, r⟩ := h
  exact ⟨ns, i, big, st, k _ _ h1, k _ _ h2, r⟩
theorem Dr.new {sc : Addr} {H : Hp} {d p : Addr} {o : HO} (h : Dr sc H d) (n : H p = none) : Dr sc (upd H p o) d := h.up (same_new n o)
theorem Dr.ne {sc : Addr} {H : Hp} {d p : Addr} (h : Dr sc H d) (n : H p = none) : p ≠ d := by
  obtain ⟨ns, i, big, st, h1, h2, r⟩ := h
  exact (ne_of_none h1 n).symm
theorem Dr.nes {sc : Addr} {H : Hp} {d p : Addr} (h : Dr sc H d) (n : H p = none) : p ≠ sc := by
  obtain ⟨ns, i, big, st, h1, h2, r⟩ := h
  exact (ne_of_none h2 n).symm
theorem Dr.lst {sc : Addr} {H : Hp} {d : Addr} (h : Dr sc H d) : ∃ xs, H d = some (.lst xs) := by
  obtain ⟨ns, i, big, st, h1, _⟩ := h
  exact ⟨_, h1⟩
/-- another object may change -/
theorem Dr.mut {sc : Addr} {H : Hp} {d p : Addr} {o : HO} (h : Dr sc H d) (n : p ≠ d) (m : p ≠ sc) : Dr sc (upd H p o) d := by
  obtain ⟨ns, i, big, st, h1, h2, r⟩ := h
  exact ⟨ns, i, big, st, by rw [upd_ne n.symm]; exact h1, by rw [upd_ne m.symm]; exact h2, r⟩
theorem Up.free {sc d : Addr} {H H' : Hp} (u : Up d H H') (h2 : Dr sc H' d) {t : Addr} (h : H' t = none) : H t = none := by
  cases e : H t with
  | none => rfl
  | some o =>
    rw [u t o (h2.ne h) e] at h
    cases h
def spNext : Sp := fun vs H Q _ => ∃ (d sc : Addr) (m : Int), vs = [.ref d, .int m] ∧ 1 ≤ m ∧ m < 1073741824 ∧ Dr sc H d ∧ ∀ (i : Int) (H' : Hp), 0 ≤ i → i < m → Dr sc H' d → Up d H H' → Q (.int i) H'
/-- a def of the text, where it stands, how its arguments bind -/
structure DefAt (K : PySem.W.Frag) (mg : Str → Option Value) (x : Str) (st : Stmt) (ps : List Str) (f : Addr) (fd : FuncData) : Prop where
  F : Fun K x x st f fd
  m : mg x = some (.ref f)
  b : Binds K fd ps []
section
variable {X : Cx} {x : Str} {pos : Pos}
theorem gl_str {z : Str} {t : Tok} (hg : Gl X x) (hm : X.mg x = some (.str z t)) (hd : (x == ("__debug__" : Str)) = false := by decide) : PE X (.Name x pos) (tC (.str z)) := pe_glob (v := .str z) hg hm ⟨_, rfl⟩ hd
theorem gl_int {z : Int} {t : Tok} (hg : Gl X x) (hm : X.mg x = some (.int z t)) (hd : (x == ("__debug__" : Str)) = false := by decide) : PE X (.Name x pos) (tC (.int z)) := pe_glob (v := .int z) hg hm ⟨_, rfl⟩ hd
theorem gl_ref {a : Addr} (hg : Gl X x) (hm : X.mg x = some (.ref a)) (hd : (x == ("__debug__" : Str)) = false := by decide) : PE X (.Name x pos) (tC (.ref a)) := pe_glob (v := .ref a) hg hm rfl hd
end
end Tf
set_option maxHeartbeats 4000000
namespace Tf
open PySem PySem.Spec PyProof.Rows L2 TL

/-! ### letters, digits, signs -/
def Lt (c : Nat) : Prop := 97 ≤ c ∧ c ≤ 122
def Dg (c : Nat) : Prop := 48 ≤ c ∧ c ≤ 57
def Bl (c : Nat) : Prop := c = 32 ∨ c = 10
instance (c : Nat) : Decidable (Lt c) := by unfold Lt; infer_instance
instance (c : Nat) : Decidable (Dg c) := by unfold Dg; infer_instance
instance (c : Nat) : Decidable (Bl c) := by unfold Bl; infer_instance
/-- the signs in the order in which they are tried -/
def sgL : List (List Nat) := [[60, 61], [62, 61], [33, 61], [40], [41], [44], [124], [60], [62], [61]]
def sgS : List Str := ["<=", ">=", "!=", "(", ")", ",", "|", "<", ">", "="]
theorem sg_tl : sgS.map tl = sgL := by decide +kernel
/-- what one token is, ahead of r -/
inductive Tok1 (w r : List Nat) : Str → Prop
  | word (h : w ≠ []) (hw : ∀ c ∈ w, Lt c) (hr : ∀ c, r.head? = some c → ¬ Lt c) : Tok1 w r "word"
  | num {ds : List Nat} (h : ds ≠ []) (hd : ∀ c ∈ ds, Dg c) (hr : ∀ c, r.head? = some c → ¬ Dg c) (hw : w = ds ∨ w = 45 :: ds) : Tok1 w r "number"
  | sign (h : w ∈ sgL) (hr : w = [60] ∨ w = [62] → ∀ c, r.head? = some c → c ≠ 61) : Tok1 w r "sign"
def TokVal (kind : Str) (w : List Nat) (v : V) : Prop := (kind = "number" ∧ w.length ≤ 640 ∧ ∃ n, PySem.intText? ⟨w.toArray⟩ = some n ∧ v = .int n) ∨ (kind ≠ "number" ∧ v = .str ⟨w.toArray⟩)
abbrev Tk := Str × V × Nat
/-- the tokens of a text from a place on -/
inductive Lex : Nat → List Nat → List Tk → Prop
  | nil (p : Nat) : Lex p [] []
  | blank {p c r d} (h : Bl c) (k : Lex (p + 1) r d) : Lex p (c :: r) d
  | tok {p w r kind v d} (h : Tok1 w r kind) (hv : TokVal kind w v) (k : Lex (p + w.length) r d) : Lex p (w ++ r) ((kind, v, p) :: d)
theorem Tok1.ne {w r : List Nat} {kind : Str} (h : Tok1 w r kind) : w ≠ [] := by
  cases h with
  | word h _ _ => exact h
  | num h _ _ hw => rcases hw with e | e <;> rw [e] <;> first | exact h | exact List.cons_ne_nil _ _
  | sign h _ =>
    intro e
    rw [e] at h
    exact absurd h (by decide)
theorem Lex.blanks : ∀ {g : List Nat} {p : Nat} {r : List Nat} {d : List Tk}, (∀ c ∈ g, Bl c) → Lex (p + g.length) r d → Lex p (g ++ r) d
  | [], _, _, _, _, k => k
  | c :: g, p, r, d, h, k => Lex.blank (h c (List.mem_cons_self ..)) (Lex.blanks (fun x hx => h x (List.mem_cons_of_mem _ hx)) (by
      have e : p + 1 + g.length = p + (c :: g).length := by rw [List.length_cons]; omega
      rw [e]; exact k))
/-! ### what is written: gaps and tokens -/
structure Itm where
  g : List Nat
  w : List Nat
  kind : Str
  v : V
inductive Wf : List Nat → Str → Prop
  | word {w} (h : w ≠ []) (hw : ∀ c ∈ w, Lt c) : Wf w "word"
  | num {w ds} (h : ds ≠ []) (hd : ∀ c ∈ ds, Dg c) (hw : w = ds ∨ w = 45 :: ds) : Wf w "number"
  | sign {w} (h : w ∈ sgL) : Wf w "sign"
theorem Wf.ne {w : List Nat} {kind : Str} (h : Wf w kind) : w ≠ [] := by
  cases h with
  | word h _ => exact h
  | num h _ hw => rcases hw with e | e <;> rw [e] <;> first | exact h | exact List.cons_ne_nil _ _
  | sign h =>
    intro e
    rw [e] at h
    exact absurd h (by decide)
/-- two tokens may stand beside each other with nothing between them -/
def Apart (p w : List Nat) : Prop := ∀ a b, p.getLast? = some a → w.head? = some b → ¬ (Lt a ∧ Lt b) ∧ ¬ (Dg a ∧ Dg b) ∧ ((p = [60] ∨ p = [62]) → b ≠ 61)
def ItmOk (p : List Nat) (x : Itm) : Prop := (∀ c ∈ x.g, Bl c) ∧ Wf x.w x.kind ∧ TokVal x.kind x.w x.v ∧ (x.g = [] → Apart p x.w)
def Chain : List Nat → List Itm → Prop
  | _, [] => True
  | p, x :: r => ItmOk p x ∧ Chain x.w r
def render : List Itm → List Nat
  | [] => []
  | x :: r => x.g ++ (x.w ++ render r)
def places : Nat → List Itm → List Tk
  | _, [] => []
  | p, x :: r => (x.kind, x.v, p + x.g.length) :: places (p + x.g.length + x.w.length) r
def lastw : List Nat → List Itm → List Nat
  | p, [] => p
  | _, x :: r => lastw x.w r
theorem chain_snoc : ∀ {l : List Itm} {p : List Nat} {x : Itm}, Chain p l → ItmOk (lastw p l) x → Chain p (l ++ [x])
  | [], _, _, _, h => ⟨h, trivial⟩
  | y :: l, p, x, ⟨h1, h2⟩, h => ⟨h1, chain_snoc h2 h⟩
theorem lastw_snoc : ∀ {l : List Itm} {p : List Nat} {x : Itm}, lastw p (l ++ [x]) = x.w
  | [], _, _ => rfl
  | y :: l, _, x => lastw_snoc (l := l)
theorem render_snoc : ∀ {l : List Itm} {x : Itm}, render (l ++ [x]) = render l ++ (x.g ++ x.w)
  | [], x => by show x.g ++ (x.w ++ []) = [] ++ (x.g ++ x.w); simp
  | y :: l, x => by show y.g ++ (y.w ++ render (l ++ [x])) = (y.g ++ (y.w ++ render l)) ++ (x.g ++ x.w); rw [render_snoc]; simp only [List.append_assoc]
theorem places_snoc : ∀ {l : List Itm} {p : Nat} {x : Itm}, places p (l ++ [x]) = places p l ++ [(x.kind, x.v, p + (render l).length + x.g.length)]
  | [], p, x => rfl
  | y :: l, p, x => by
    show (y.kind, y.v, p + y.g.length) :: places (p + y.g.length + y.w.length) (l ++ [x]) = ((y.kind, y.v, p + y.g.length) :: places (p + y.g.length + y.w.length) l) ++ _
    rw [places_snoc]
    have e : p + y.g.length + y.w.length + (render l).length + x.g.length = p + (render (y :: l)).length + x.g.length := by
      show _ = p + (y.g ++ (y.w ++ render l)).length + x.g.length
      rw [List.length_append, List.length_append]; omega
    rw [e]; rfl
theorem bl_not {c : Nat} (h : Bl c) : ¬ Lt c ∧ ¬ Dg c ∧ c ≠ 61 := by unfold Bl Lt Dg at *; omega
theorem head_app {a b : List Nat} (h : a ≠ []) : (a ++ b).head? = a.head? := by cases a with | nil => exact absurd rfl h | cons x r => rfl
/-- what stands behind a token of a chain: not what would lengthen it -/
theorem after_ok {w : List Nat} {l : List Itm} {gend : List Nat} (hc : Chain w l) (hg : ∀ c ∈ gend, Bl c) : ∀ a b, w.getLast? = some a → (render l ++ gend).head? = some b → ¬ (Lt a ∧ Lt b) ∧ ¬ (Dg a ∧ Dg b) ∧ ((w = [60] ∨ w = [62]) → b ≠ 61) := by
  intro a b ha hb
  have blank : Bl b → ¬ (Lt a ∧ Lt b) ∧ ¬ (Dg a ∧ Dg b) ∧ ((w = [60] ∨ w = [62]) → b ≠ 61) := fun h => by
    have q := bl_not h
    exact ⟨fun z => q.1 z.2, fun z => q.2.1 z.2, fun _ => q.2.2⟩
  cases l with
  | nil =>
    have hb' : gend.head? = some b := hb
    cases gend with
    | nil => cases hb'
    | cons c r =>
      have e : c = b := Option.some.inj hb'
      exact blank (e ▸ hg c (List.mem_cons_self ..))
  | cons x r =>
    obtain ⟨⟨h1, h2, h3, h4⟩, _⟩ := hc
    have e : render (x :: r) ++ gend = x.g ++ (x.w ++ (render r ++ gend)) := by show (x.g ++ (x.w ++ render r)) ++ gend = _; simp only [List.append_assoc]
    rw [e] at hb
    cases hx : x.g with
    | nil =>
      rw [hx] at hb
      have hb2 : (x.w ++ (render r ++ gend)).head? = some b := hb
      rw [head_app h2.ne] at hb2
      exact h4 hx a b ha hb2
    | cons c g =>
      rw [hx] at hb
      have e : c = b := Option.some.inj hb
      exact blank (e ▸ h1 c (by rw [hx]; exact List.mem_cons_self ..))
theorem last_mem {l : List Nat} {a : Nat} (h : l.getLast? = some a) : a ∈ l := List.mem_of_getLast? h
theorem last_of {l : List Nat} (h : l ≠ []) : ∃ a, l.getLast? = some a := ⟨_, List.getLast?_eq_some_getLast h⟩
theorem lex_of : ∀ {l : List Itm} {p : Nat} {w gend : List Nat}, Chain w l → (∀ c ∈ gend, Bl c) → Lex p (render l ++ gend) (places p l)
  | [], p, w, gend, _, hg => by
    have k := Lex.blanks (g := gend) (p := p) (r := []) (d := []) hg (Lex.nil _)
    rw [List.append_nil] at k
    exact k
  | x :: r, p, w, gend, hc, hg => by
    obtain ⟨⟨h1, h2, h3, h4⟩, hr⟩ := hc
    have e : render (x :: r) ++ gend = x.g ++ (x.w ++ (render r ++ gend)) := by show (x.g ++ (x.w ++ render r)) ++ gend = _; simp only [List.append_assoc]
    rw [e]
    cases x with | mk xg xw xk xv => ?_
    dsimp only at h1 h2 h3 h4 hr ⊢
    refine Lex.blanks h1 (Lex.tok ?_ h3 (lex_of hr hg))
    have ao := after_ok hr hg
    obtain ⟨a, ha⟩ := last_of h2.ne
    cases h2 with
    | word h hw =>
      refine Tok1.word h hw fun c hc z => ?_
      exact (ao a c ha hc).1 ⟨hw a (last_mem ha), z⟩
    | num h hd hw =>
      refine Tok1.num h hd (fun c hc z => ?_) hw
      obtain ⟨b, hb⟩ := last_of h
      have e : a = b := by
        rcases hw with e | e
        · rw [e, hb] at ha
          exact (Option.some.inj ha).symm
        · rw [e, List.getLast?_cons, hb] at ha
          exact (Option.some.inj ha).symm
      exact (ao a c ha hc).2.1 ⟨e ▸ hd b (last_mem hb), z⟩
    | sign h => exact Tok1.sign h fun hw c hc => (ao a c ha hc).2.2 hw
/-! ### numbers written -/
theorem digits_zeros : ∀ {z : List Nat} {n : Nat}, (∀ c ∈ z, c = 48) → NumText.digitsVal (z ++ numL n) = n := by
  intro z n h
  unfold NumText.digitsVal
  rw [List.foldl_append]
  have e : ∀ (z : List Nat), (∀ c ∈ z, c = 48) → List.foldl (fun acc c => acc * 10 + (c - 48)) 0 z = 0 := by
    intro z
    induction z with
    | nil => intro _; rfl
    | cons c r ih =>
      intro h
      rw [List.foldl_cons, h c (List.mem_cons_self ..)]
      exact ih fun x hx => h x (List.mem_cons_of_mem _ hx)
  rw [e z h]
  exact numL_val n
theorem num_text {z : List Nat} {n : Nat} (h : ∀ c ∈ z, c = 48) (hl : z.length + (numL n).length ≤ 600) : PySem.intText? ⟨(z ++ numL n).toArray⟩ = some (n : Int) := by
  have e := intText_digits (x := ⟨(z ++ numL n).toArray⟩) (fun c hc => by
    rcases List.mem_append.mp hc with q | q
    · rw [h c q]; decide
    · exact numL_digits n c q) (fun q => numL_ne n (List.append_eq_nil_iff.mp q).2) (by rw [len_tl, tl_mk, List.length_append]; omega)
  rw [show (⟨(z ++ numL n).toArray⟩ : Str).cps.toList = z ++ numL n from rfl, digits_zeros h] at e
  exact e
theorem num_text_neg {z : List Nat} {n : Nat} (h : ∀ c ∈ z, c = 48) (hl : z.length + (numL n).length ≤ 600) : PySem.intText? ⟨(45 :: (z ++ numL n)).toArray⟩ = some (-(n : Int)) := by
  have e := intText_neg (x := ⟨(45 :: (z ++ numL n)).toArray⟩) (cs := z ++ numL n) rfl (fun c hc => by
    rcases List.mem_append.mp hc with q | q
    · rw [h c q]; decide
    · exact numL_digits n c q) (fun q => numL_ne n (List.append_eq_nil_iff.mp q).2) (by rw [len_tl, tl_mk, List.length_cons, List.length_append]; omega)
  rw [digits_zeros h] at e
  exact e
theorem zeros_dg {z : List Nat} {n : Nat} (h : ∀ c ∈ z, c = 48) : ∀ c ∈ z ++ numL n, Dg c := fun c hc => by
  rcases List.mem_append.mp hc with q | q
  · rw [h c q]; decide
  · exact numL_digits n c q
end Tf
set_option maxHeartbeats 4000000
namespace Tf
open PySem PySem.Spec PyProof.Rows L2 TL
/-! ### the alphabets -/
theorem mem_letters (c : Nat) : c ∈ tl ("abcdefghijklmnopqrstuvwxyz" : Str) ↔ Lt c := by
  have e : tl ("abcdefghijklmnopqrstuvwxyz" : Str) = (List.range 26).map (· + 97) := by decide +kernel
  rw [e, List.mem_map]
  unfold Lt
  constructor
  · rintro ⟨a, ha, rfl⟩
    have := List.mem_range.mp ha
    omega
  · intro h
    exact ⟨c - 97, List.mem_range.mpr (by omega), by omega⟩
theorem mem_digits (c : Nat) : c ∈ tl ("0123456789" : Str) ↔ Dg c := by
  have e : tl ("0123456789" : Str) = (List.range 10).map (· + 48) := by decide +kernel
  rw [e, List.mem_map]
  unfold Dg
  constructor
  · rintro ⟨a, ha, rfl⟩
    have := List.mem_range.mp ha
    omega
  · intro h
    exact ⟨c - 48, List.mem_range.mpr (by omega), by omega⟩
/-! ### the same data -/
def Eq0 (x y : V) : Prop := (∃ i, x = .int i ∧ y = .int i) ∨ (∃ s, x = .str s ∧ y = .str s) ∨ (x = .non ∧ y = .non)
def SeqH (H : Hp) (b : Bool) (a : Addr) (xs : List V) : Prop := H a = some (if b = true then .tup xs else .lst xs)
def Eq2 (H : Hp) : Nat → V → V → Prop
  | 0, x, y => Eq0 x y
  | n + 1, x, y => Eq0 x y ∨ ∃ (t : Bool) (a b : Addr) (xs ys : List V), x = .ref a ∧ y = .ref b ∧ SeqH H t a xs ∧ SeqH H t b ys ∧ xs.length = ys.length ∧ ys.length ≤ 1000 ∧ ∀ (i : Nat) u v, xs[i]? = some u → ys[i]? = some v → Eq2 H n u v
theorem Eq2.mono {H H' : Hp} (k : Same H H') : ∀ {n : Nat} {x y : V}, Eq2 H n x y → Eq2 H' n x y
  | 0, _, _, h => h
  | n + 1, _, _, .inl h => .inl h
  | n + 1, _, _, .inr ⟨t, a, b, xs, ys, e1, e2, h1, h2, h3, h4, h5⟩ => .inr ⟨t, a, b, xs, ys, e1, e2, k _ _ h1, k _ _ h2, h3, h4, fun i u v hu hv => (h5 i u v hu hv).mono k⟩
theorem Eq2.base {H : Hp} {n : Nat} {x y : V} (h : Eq0 x y) : Eq2 H n x y := by cases n with | zero => exact h | succ n => exact .inl h
def spS (k : Nat) : Sp := fun vs H Q _ => ∃ (n : Nat) (x y : V), k = n + 1 ∧ vs = [x, y] ∧ Eq2 H n x y ∧ ∀ H', Same H H' → Q (.bl true) H'
theorem rix_of {K : PySem.W.Frag} {H : Hp} {a : Addr} {t : Bool} {xs : List V} {i : Nat} {j : Int} {v : V} {Q : VK} (h : SeqH H t a xs) (e : j = (i : Int)) (hi : xs[i]? = some v) (q : Q v H) : rIx K (.ref a) (.int j) H Q := by
  cases t with
  | true => exact .inr (.inl ⟨a, xs, _, v, rfl, rfl, .of h, at_of e hi, q⟩)
  | false => exact .inl ⟨a, xs, _, v, rfl, rfl, .of h, at_of e hi, q⟩
theorem seq_or {K : PySem.W.Frag} {H : Hp} {a : Addr} {t : Bool} {xs : List V} (h : SeqH H t a xs) : SqL K H a xs ∨ SqT K H a xs := by
  cases t with
  | true => exact .inr (.of h)
  | false => exact .inl (.of h)
theorem seq_ty {K : PySem.W.Frag} {H : Hp} {a : Addr} {t : Bool} {xs : List V} (h : SeqH H t a xs) : TyX K H (.ref a) (.type (if t = true then "tuple" else "list")) := by
  cases t with
  | true => exact .base (.tup h)
  | false => exact .base (.lst h)
theorem kit_seq (K : PySem.W.Frag) (t : Bool) : PySem.W.kitAny K (.type (if t = true then "tuple" else "list")) [.type "list", .type "tuple"] = some true := by
  cases t with
  | true => exact kitAny_cons (b := false) (kit_ty (by decide +kernel)) (fun _ => kitAny_cons (b := true) (kit_ty (by decide +kernel)) (fun h => by cases h) (fun _ => rfl)) (fun h => by cases h)
  | false => exact kitAny_cons (b := true) (kit_ty (by decide +kernel)) (fun h => by cases h) (fun _ => rfl)
theorem kit_no (K : PySem.W.Frag) (a : String) (h1 : kitB a "list" = some false) (h2 : kitB a "tuple" = some false) : PySem.W.kitAny K (.type a) [.type "list", .type "tuple"] = some false :=
  kitAny_cons (b := false) (kit_ty h1) (fun _ => kitAny_cons (b := false) (kit_ty h2) (fun _ => kitAny_nil) (fun h => by cases h)) (fun h => by cases h)
theorem kit_l (K : PySem.W.Frag) (t : Bool) : PySem.W.kitOne K (.type (if t = true then "tuple" else "list")) (.type "list") = some (!t) := by
  cases t with
  | true => exact kit_ty (by decide +kernel)
  | false => exact kit_ty (by decide +kernel)
theorem kit_t (K : PySem.W.Frag) (t : Bool) : PySem.W.kitOne K (.type (if t = true then "tuple" else "list")) (.type "tuple") = some t := by
  cases t with
  | true => exact kit_ty (by decide +kernel)
  | false => exact kit_ty (by decide +kernel)
theorem dec_self {α : Type} [DecidableEq α] (x : α) : (!decide (x = x)) = false := by rw [decide_eq_true rfl] <;> rfl
/-- a value that is one of two, told by what both are -/
theorem if_te {c : Prop} [Decidable c] {ta tb : TE} {σ : L2.St} {H : Hp} {Q : VK} (R : V → Prop) (hx : c → ∀ Q : VK, (∀ v, R v → Q v H) → ta σ H Q) (hy : ¬ c → ∀ Q : VK, (∀ v, R v → Q v H) → tb σ H Q) (h : ∀ v, R v → Q v H) : if c then ta σ H Q else tb σ H Q := by
  by_cases k : c
  · rw [if_pos k]; exact hx k Q h
  · rw [if_neg k]; exact hy k Q h
/-- the same of a test that is asked behind another -/
theorem if_tt {c : Prop} [Decidable c] {tt : TT} {σ : L2.St} {H : Hp} {Q : Bool → Hp → Prop} (b : Bool) (hx : c → ∀ Q : Bool → Hp → Prop, Q b H → tt σ H Q) (hy : ¬ c → b = false) (h : Q b H) : if c then tt σ H Q else Q false H := by
  by_cases k : c
  · rw [if_pos k]; exact hx k Q h
  · rw [if_neg k, ← hy k]; exact h
/-! ### the draws' promises -/
def spDraw (K : PySem.W.Frag) : Sp := fun vs H Q _ => ∃ (a : Addr) (ns : List Int), vs = [.ref a] ∧ SqL K H a (ns.map V.int) ∧ ns.length ≤ 63 ∧ ∀ d sc H', H d = none → Dr sc H' d → Same H H' → Q (.ref d) H'
theorem atI_of {α : Type} {xs : List α} {z : Int} {j : Nat} {v : α} (e : z = (j : Int)) (h : xs[j]? = some v) : atI xs z = some v := by
  rw [e]
  exact atI_nat h
theorem pick {α : Type} {xs : List α} {i : Int} (h0 : 0 ≤ i) (h1 : i < (xs.length : Int)) : ∃ v, v ∈ xs ∧ atI xs i = some v := by
  have hi : i.toNat < xs.length := by omega
  have e : i = ((i.toNat : Nat) : Int) := by omega
  exact ⟨xs[i.toNat], List.getElem_mem hi, atI_of e (List.getElem?_eq_getElem hi)⟩
/-- an item of a list of texts that is made for it -/
theorem pickS {xs : List Str} {i : Int} (h0 : 0 ≤ i) (h1 : i < (xs.length : Int)) : ∃ s, s ∈ xs ∧ atI (xs.map V.str) i = some (.str s) := by
  obtain ⟨v, hv, e⟩ := pick (xs := xs.map V.str) h0 (by rw [List.length_map]; exact h1)
  obtain ⟨s, hs, rfl⟩ := List.mem_map.mp hv
  exact ⟨s, hs, e⟩
theorem pickI {xs : List Int} {i : Int} (h0 : 0 ≤ i) (h1 : i < (xs.length : Int)) : ∃ s, s ∈ xs ∧ atI (xs.map V.int) i = some (.int s) := by
  obtain ⟨v, hv, e⟩ := pick (xs := xs.map V.int) h0 (by rw [List.length_map]; exact h1)
  obtain ⟨s, hs, rfl⟩ := List.mem_map.mp hv
  exact ⟨s, hs, e⟩
def gapS : List Str := ["", " ", "\n", "  ", " \n "]
theorem gap_ok : ∀ g ∈ gapS, (∀ c ∈ tl g, Bl c) ∧ (tl g).length ≤ 3 := by decide +kernel
def spGap : Sp := fun vs H Q _ => ∃ d sc : Addr, vs = [.ref d] ∧ Dr sc H d ∧ ∀ g H', g ∈ gapS → Dr sc H' d → Up d H H' → Q (.str g) H'
def NoGlue (last word : List Nat) : Prop := ∀ a b, last.getLast? = some a → word.head? = some b → ¬ (Lt a ∧ Lt b) ∧ ¬ (Dg a ∧ Dg b)
def spJoint : Sp := fun vs H Q _ => ∃ (d sc : Addr) (last word : Str), vs = [.ref d, .str last, .str word] ∧ Dr sc H d ∧ tl word ≠ [] ∧ word.length ≤ 1000 ∧ last.length ≤ 1000 ∧
  ∀ g H', g ∈ gapS → (tl g = [] → NoGlue (tl last) (tl word)) → Dr sc H' d → Up d H H' → Q (.str g) H'
def spOne : Sp := fun vs H Q _ => ∃ d sc : Addr, vs = [.ref d] ∧ Dr sc H d ∧ ∀ (t : Addr) (kind wr : Str) (v : V) H', H t = none → H' t = some (.tup [.str kind, v, .str wr]) → Dr sc H' d → Up d H H' → Wf (tl wr) kind → TokVal kind (tl wr) v → (tl wr).length ≤ 20 → Q (.ref t) H'
/-! ### what _law_one makes -/
theorem join_nil_tl (ws : List Str) : tl (Txt.join ("" : Str) ws) = (ws.map tl).flatten := by
  rw [join_eq, tl_join]
  have e : tl ("" : Str) = [] := by decide +kernel
  rw [e]
  generalize ws.map tl = ls
  induction ls with
  | nil => rfl
  | cons x r ih =>
    cases r with
    | nil => simp [joinL]
    | cons y r => 
      rw [List.flatten_cons, ← ih]
      simp [joinL]
theorem ones {ws : List Str} (h : ∀ x ∈ ws, ∃ c, x = ⟨#[c]⟩ ∧ Lt c) : (∀ c ∈ (ws.map tl).flatten, Lt c) ∧ (ws.map tl).flatten.length = ws.length ∧ (ws.map (·.length)).sum = ws.length := by
  induction ws with
  | nil => exact ⟨fun c hc => absurd hc (by simp), rfl, rfl⟩
  | cons x r ih =>
    obtain ⟨c, rfl, hc⟩ := h x (List.mem_cons_self ..)
    obtain ⟨i1, i2, i3⟩ := ih fun y hy => h y (List.mem_cons_of_mem _ hy)
    refine ⟨fun b hb => ?_, ?_, ?_⟩
    · rw [List.map_cons, List.flatten_cons] at hb
      rcases List.mem_append.mp hb with hb | hb
      · rw [show tl (⟨#[c]⟩ : Str) = [c] from rfl] at hb
        rw [List.mem_singleton.mp hb]; exact hc
      · exact i1 b hb
    · rw [List.map_cons, List.flatten_cons, List.length_append, i2]
      show 1 + r.length = r.length + 1
      omega
    · rw [List.map_cons, List.sum_cons, i3]
      show 1 + r.length = r.length + 1
      omega
def zeroS : List Str := ["", "0", "000"]
theorem zero_ok : ∀ z ∈ zeroS, (∀ c ∈ tl z, c = 48) ∧ (tl z).length ≤ 3 := by decide +kernel
theorem number_of {a m b : Int} (a0 : 0 ≤ a) (a1 : a < 100) (hm : m ∈ ([1, 1000, 1000000, 1000000000] : List Int)) (b0 : 0 ≤ b) (b1 : b < 12) : ∃ n : Nat, a * m + b = (n : Int) ∧ n < 10 ^ 12 := by
  have h : 0 ≤ a * m + b ∧ a * m + b < 10 ^ 12 := by
    simp only [List.mem_cons, List.not_mem_nil, or_false] at hm
    rcases hm with rfl | rfl | rfl | rfl <;> omega
  exact ⟨(a * m + b).toNat, by omega, by omega⟩
theorem log_ok {n : Nat} (h : n < 10 ^ 12) : ((n : Int)).natAbs.log2 < 1920 := by
  rw [Int.natAbs_natCast]
  rcases Nat.eq_zero_or_pos n with e | e
  · rw [e]; decide
  · have : n.log2 < 41 := (Nat.log2_lt (by omega)).mpr (by omega)
    omega
theorem tl_strI (n : Nat) : tl (Str.ofString (toString ((n : Nat) : Int))) = numL n := tl_num n
end Tf
set_option maxHeartbeats 4000000
namespace Tf
open PySem PySem.Spec PyProof.Rows L2 TL
/-! ### plans -/
inductive Stg
  | sift (c : Str) (b : Int)
  | only (ks : List Str)
  | rekey (k : Str)
  | scale (f : Int)
  | later (d : Int)
inductive Pl
  | src (n : Str)
  | stage (s : Stg) (p : Pl)
  | once (p : Pl)
  | windows (a b : Int) (g : Str) (p : Pl)
  | sittings (a : Int) (g : Str) (p : Pl)
  | two (w : Str) (l r : Pl)
  | near (a b : Int) (c : Str) (l r : Pl)
def twoS : List Str := ["both", "less", "without"]
def pairS : List Str := ["both", "less", "without", "near"]
def Pl.ins : Pl → List Pl
  | .src _ => []
  | .stage _ p => [p]
  | .once p => [p]
  | .windows _ _ _ p => [p]
  | .sittings _ _ p => [p]
  | .two _ l r => [l, r]
  | .near _ _ _ l r => [l, r]
def Pl.head : Pl → Str
  | .src _ => "source"
  | .stage _ _ => "stage"
  | .once _ => "once"
  | .windows _ _ _ _ => "windows"
  | .sittings _ _ _ => "sittings"
  | .two w _ _ => w
  | .near _ _ _ _ _ => "near"
def Pl.size : Pl → Nat
  | .src _ => 1
  | .stage _ p => p.size + 1
  | .once p => p.size + 1
  | .windows _ _ _ p => p.size + 1
  | .sittings _ _ p => p.size + 1
  | .two _ l r => l.size + r.size + 1
  | .near _ _ _ l r => l.size + r.size + 1
def Pl.srcs : Pl → List Str
  | .src n => [n]
  | .stage _ p => p.srcs
  | .once p => p.srcs
  | .windows _ _ _ p => p.srcs
  | .sittings _ _ p => p.srcs
  | .two _ l r => l.srcs ++ r.srcs
  | .near _ _ _ l r => l.srcs ++ r.srcs
/-- all plans within a plan, each with its level -/
def subs : Nat → Pl → List (Pl × Nat)
  | l, .src n => [(.src n, l)]
  | l, .stage s p => (.stage s p, l) :: subs (l + 1) p
  | l, .once p => (.once p, l) :: subs (l + 1) p
  | l, .windows a b g p => (.windows a b g p, l) :: subs (l + 1) p
  | l, .sittings a g p => (.sittings a g p, l) :: subs (l + 1) p
  | l, .two w x y => (.two w x y, l) :: (subs (l + 1) x ++ subs (l + 1) y)
  | l, .near a b c x y => (.near a b c x y, l) :: (subs (l + 1) x ++ subs (l + 1) y)
theorem subs_eq (l : Nat) (p : Pl) : subs l p = (p, l) :: (p.ins.map (subs (l + 1))).flatten := by
  cases p <;> simp [subs, Pl.ins]
theorem subs_len : ∀ (p : Pl) (l : Nat), (subs l p).length = p.size
  | .src _, _ => rfl
  | .stage _ p, l => by simp [subs, Pl.size, subs_len p]
  | .once p, l => by simp [subs, Pl.size, subs_len p]
  | .windows _ _ _ p, l => by simp [subs, Pl.size, subs_len p]
  | .sittings _ _ p, l => by simp [subs, Pl.size, subs_len p]
  | .two _ x y, l => by simp [subs, Pl.size, subs_len x, subs_len y]
  | .near _ _ _ x y, l => by simp [subs, Pl.size, subs_len x, subs_len y]
theorem srcs_eq (p : Pl) (h : p.ins ≠ []) : p.srcs = (p.ins.map Pl.srcs).flatten := by
  cases p <;> first | exact absurd rfl h | simp [Pl.srcs, Pl.ins]
theorem size_eq (p : Pl) : p.size = (p.ins.map Pl.size).sum + 1 := by
  cases p <;> simp [Pl.size, Pl.ins]
theorem mem_srcs : ∀ (p : Pl) (l : Nat) (n : Str), n ∈ p.srcs ↔ ∃ k, (Pl.src n, k) ∈ subs l p
  | .src m, l, n => by simp [Pl.srcs, subs]
  | .stage _ p, l, n => by simp [Pl.srcs, subs, mem_srcs p (l + 1) n]
  | .once p, l, n => by simp [Pl.srcs, subs, mem_srcs p (l + 1) n]
  | .windows _ _ _ p, l, n => by simp [Pl.srcs, subs, mem_srcs p (l + 1) n]
  | .sittings _ _ p, l, n => by simp [Pl.srcs, subs, mem_srcs p (l + 1) n]
  | .two _ x y, l, n => by simp only [Pl.srcs, subs, List.mem_append, mem_srcs x (l + 1) n, mem_srcs y (l + 1) n, List.mem_cons, exists_or, Prod.mk.injEq, reduceCtorEq, false_and, false_or]
  | .near _ _ _ x y, l, n => by simp only [Pl.srcs, subs, List.mem_append, mem_srcs x (l + 1) n, mem_srcs y (l + 1) n, List.mem_cons, exists_or, Prod.mk.injEq, reduceCtorEq, false_and, false_or]
/-! ### plans in the heap -/
def StAt (H : Hp) : Stg → V → Prop
  | .sift c b, v => ∃ a, v = .ref a ∧ H a = some (.tup [.str "sift", .str c, .int b])
  | .only ks, v => ∃ a k, v = .ref a ∧ H a = some (.tup [.str "only", .ref k]) ∧ H k = some (.tup (ks.map V.str))
  | .rekey k, v => ∃ a, v = .ref a ∧ H a = some (.tup [.str "rekey", .str k])
  | .scale f, v => ∃ a, v = .ref a ∧ H a = some (.tup [.str "scale", .int f])
  | .later d, v => ∃ a, v = .ref a ∧ H a = some (.tup [.str "later", .int d])
def PlAt (H : Hp) : Pl → V → Prop
  | .src n, v => ∃ a, v = .ref a ∧ H a = some (.tup [.str "source", .str n])
  | .stage s p, v => ∃ a x y, v = .ref a ∧ H a = some (.tup [.str "stage", x, y]) ∧ StAt H s x ∧ PlAt H p y
  | .once p, v => ∃ a y, v = .ref a ∧ H a = some (.tup [.str "once", y]) ∧ PlAt H p y
  | .windows i j g p, v => ∃ a y, v = .ref a ∧ H a = some (.tup [.str "windows", .int i, .int j, .str g, y]) ∧ PlAt H p y
  | .sittings i g p, v => ∃ a y, v = .ref a ∧ H a = some (.tup [.str "sittings", .int i, .str g, y]) ∧ PlAt H p y
  | .two w l r, v => ∃ a x y, v = .ref a ∧ H a = some (.tup [.str w, x, y]) ∧ w ∈ twoS ∧ PlAt H l x ∧ PlAt H r y
  | .near i j c l r, v => ∃ a x y, v = .ref a ∧ H a = some (.tup [.str "near", .int i, .int j, .str c, x, y]) ∧ PlAt H l x ∧ PlAt H r y
def TupUp (H H' : Hp) : Prop := ∀ p xs, H p = some (.tup xs) → H' p = some (.tup xs)
theorem TupUp.refl {H : Hp} : TupUp H H := fun _ _ h => h
theorem TupUp.trans {H H1 H2 : Hp} (a : TupUp H H1) (b : TupUp H1 H2) : TupUp H H2 := fun p xs h => b p xs (a p xs h)
theorem TupUp.same {H H' : Hp} (a : Same H H') : TupUp H H' := fun p xs h => a p _ h
theorem TupUp.new {H : Hp} {p : Addr} {o : HO} (h : H p = none) : TupUp H (upd H p o) := .same (same_new h o)
theorem TupUp.lst {H : Hp} {p : Addr} {xs : List V} {o : HO} (h : H p = some (.lst xs)) : TupUp H (upd H p o) := fun q ys e => by
  rw [upd_ne (fun z => by rw [z, h] at e; cases e)]
  exact e
theorem Up.tupUp {sc d : Addr} {H H' : Hp} (u : Up d H H') (hD : Dr sc H d) : TupUp H H' := fun p xs e => by
  refine u p _ (fun q => ?_) e
  obtain ⟨ys, hy⟩ := hD.lst
  rw [q, hy] at e
  cases e
theorem StAt.mono {H H' : Hp} (k : TupUp H H') : ∀ {s : Stg} {v : V}, StAt H s v → StAt H' s v
  | .sift _ _, _, ⟨a, e, h⟩ => ⟨a, e, k _ _ h⟩
  | .only _, _, ⟨a, b, e, h, g⟩ => ⟨a, b, e, k _ _ h, k _ _ g⟩
  | .rekey _, _, ⟨a, e, h⟩ => ⟨a, e, k _ _ h⟩
  | .scale _, _, ⟨a, e, h⟩ => ⟨a, e, k _ _ h⟩
  | .later _, _, ⟨a, e, h⟩ => ⟨a, e, k _ _ h⟩
theorem PlAt.mono {H H' : Hp} (k : TupUp H H') : ∀ {p : Pl} {v : V}, PlAt H p v → PlAt H' p v
  | .src _, _, ⟨a, e, h⟩ => ⟨a, e, k _ _ h⟩
  | .stage _ _, _, ⟨a, x, y, e, h, s, p⟩ => ⟨a, x, y, e, k _ _ h, s.mono k, p.mono k⟩
  | .once _, _, ⟨a, y, e, h, p⟩ => ⟨a, y, e, k _ _ h, p.mono k⟩
  | .windows _ _ _ _, _, ⟨a, y, e, h, p⟩ => ⟨a, y, e, k _ _ h, p.mono k⟩
  | .sittings _ _ _, _, ⟨a, y, e, h, p⟩ => ⟨a, y, e, k _ _ h, p.mono k⟩
  | .two _ _ _, _, ⟨a, x, y, e, h, w, p, q⟩ => ⟨a, x, y, e, k _ _ h, w, p.mono k, q.mono k⟩
  | .near _ _ _ _ _, _, ⟨a, x, y, e, h, p, q⟩ => ⟨a, x, y, e, k _ _ h, p.mono k, q.mono k⟩
/-- several plans -/
def InsAt (H : Hp) : List Pl → List V → Prop
  | [], [] => True
  | p :: ps, v :: vs => PlAt H p v ∧ InsAt H ps vs
  | _, _ => False
theorem InsAt.mono {H H' : Hp} (k : TupUp H H') : ∀ {ps : List Pl} {vs : List V}, InsAt H ps vs → InsAt H' ps vs
  | [], [], _ => trivial
  | p :: ps, v :: vs, ⟨h, r⟩ => ⟨h.mono k, r.mono k⟩
theorem InsAt.len {H : Hp} : ∀ {ps : List Pl} {vs : List V}, InsAt H ps vs → ps.length = vs.length
  | [], [], _ => rfl
  | p :: ps, v :: vs, ⟨h, r⟩ => by rw [List.length_cons, List.length_cons, r.len]
theorem InsAt.get {H : Hp} : ∀ {ps : List Pl} {vs : List V} {i : Nat} {v : V}, InsAt H ps vs → vs[i]? = some v → ∃ p, ps[i]? = some p ∧ PlAt H p v
  | [], [], _, _, _, e => by simp at e
  | p :: ps, v :: vs, 0, u, ⟨h, r⟩, e => ⟨p, rfl, by rw [← Option.some.inj e]; exact h⟩
  | p :: ps, v :: vs, i + 1, u, ⟨h, r⟩, e => r.get (i := i) e
/-- what a plan's tuple is: its word, what belongs to the word, its inputs -/
theorem PlAt.view {H : Hp} {p : Pl} {v : V} (h : PlAt H p v) : ∃ (a : Addr) (mid vs : List V), v = .ref a ∧ H a = some (.tup (.str p.head :: (mid ++ vs))) ∧ InsAt H p.ins vs ∧ mid.length ≤ 3 ∧
    (p.ins = [] → ∃ n, p = .src n ∧ mid = [.str n] ∧ p.head = "source") ∧ (p.ins ≠ [] → p.head ≠ "source") ∧ (p.ins.length = 2 ↔ p.head ∈ pairS) ∧ p.ins.length ≤ 2 := by
  have n1 : ∀ s ∈ (["stage", "once", "windows", "sittings", "source"] : List Str), s ∉ pairS := by decide +kernel
  have n2 : ∀ s ∈ (["stage", "once", "windows", "sittings"] : List Str), s ≠ ("source" : Str) := by decide +kernel
  have n3 : ∀ s ∈ pairS, s ≠ ("source" : Str) := by decide +kernel
  have n4 : ∀ s ∈ twoS, s ∈ pairS := by decide +kernel
  cases p with
  | src n =>
    obtain ⟨a, e, h⟩ := h
    exact ⟨a, [.str n], [], e, h, trivial, by show 1 ≤ 3; decide, fun _ => ⟨n, rfl, rfl, rfl⟩, fun z => absurd rfl z, ⟨fun z => absurd z (by show ¬ (0 = 2); decide), fun z => absurd z (n1 _ (by simp [Pl.head]))⟩, by show 0 ≤ 2; decide⟩
  | stage s p =>
    obtain ⟨a, x, y, e, h, _, g⟩ := h
    exact ⟨a, [x], [y], e, h, ⟨g, trivial⟩, by show 1 ≤ 3; decide, fun z => absurd z (List.cons_ne_nil _ _), fun _ => n2 _ (by simp [Pl.head]), ⟨fun z => absurd z (by show ¬ (1 = 2); decide), fun z => absurd z (n1 _ (by simp [Pl.head]))⟩, by show 1 ≤ 2; decide⟩
  | once p =>
    obtain ⟨a, y, e, h, g⟩ := h
    exact ⟨a, [], [y], e, h, ⟨g, trivial⟩, by decide, fun z => absurd z (List.cons_ne_nil _ _), fun _ => n2 _ (by simp [Pl.head]), ⟨fun z => absurd z (by show ¬ (1 = 2); decide), fun z => absurd z (n1 _ (by simp [Pl.head]))⟩, by show 1 ≤ 2; decide⟩
  | windows i j g p =>
    obtain ⟨a, y, e, h, g⟩ := h
    exact ⟨a, [.int i, .int j, .str _], [y], e, h, ⟨g, trivial⟩, by show 3 ≤ 3; decide, fun z => absurd z (List.cons_ne_nil _ _), fun _ => n2 _ (by simp [Pl.head]), ⟨fun z => absurd z (by show ¬ (1 = 2); decide), fun z => absurd z (n1 _ (by simp [Pl.head]))⟩, by show 1 ≤ 2; decide⟩
  | sittings i g p =>
    obtain ⟨a, y, e, h, g⟩ := h
    exact ⟨a, [.int i, .str _], [y], e, h, ⟨g, trivial⟩, by show 2 ≤ 3; decide, fun z => absurd z (List.cons_ne_nil _ _), fun _ => n2 _ (by simp [Pl.head]), ⟨fun z => absurd z (by show ¬ (1 = 2); decide), fun z => absurd z (n1 _ (by simp [Pl.head]))⟩, by show 1 ≤ 2; decide⟩
  | two w l r =>
    obtain ⟨a, x, y, e, h, hw, g1, g2⟩ := h
    exact ⟨a, [], [x, y], e, h, ⟨g1, g2, trivial⟩, by decide, fun z => absurd z (List.cons_ne_nil _ _), fun _ => n3 _ (n4 _ hw), ⟨fun _ => n4 _ hw, fun _ => rfl⟩, by show 2 ≤ 2; decide⟩
  | near i j c l r =>
    obtain ⟨a, x, y, e, h, g1, g2⟩ := h
    exact ⟨a, [.int i, .int j, .str c], [x, y], e, h, ⟨g1, g2, trivial⟩, by show 3 ≤ 3; decide, fun z => absurd z (List.cons_ne_nil _ _), fun _ => n3 _ (by show ("near" : Str) ∈ pairS; decide +kernel), ⟨fun _ => by show ("near" : Str) ∈ pairS; decide +kernel, fun _ => rfl⟩, by show 2 ≤ 2; decide⟩
/-! ### lists of plans with their levels -/
def FL (H : Hp) : List V → List (Pl × Nat) → Prop
  | [], [] => True
  | x :: xs, q :: qs => (∃ t v, x = .ref t ∧ H t = some (.tup [v, .int (q.2 : Int)]) ∧ PlAt H q.1 v) ∧ FL H xs qs
  | _, _ => False
theorem FL.mono {H H' : Hp} (k : TupUp H H') : ∀ {xs : List V} {qs : List (Pl × Nat)}, FL H xs qs → FL H' xs qs
  | [], [], _ => trivial
  | x :: xs, q :: qs, ⟨⟨t, v, e, h, p⟩, r⟩ => ⟨⟨t, v, e, k _ _ h, p.mono k⟩, r.mono k⟩
theorem FL.len {H : Hp} : ∀ {xs : List V} {qs : List (Pl × Nat)}, FL H xs qs → xs.length = qs.length
  | [], [], _ => rfl
  | x :: xs, q :: qs, ⟨_, r⟩ => by rw [List.length_cons, List.length_cons, r.len]
theorem FL.snoc {H : Hp} {t : Addr} {v : V} {q : Pl × Nat} (h : H t = some (.tup [v, .int (q.2 : Int)])) (hp : PlAt H q.1 v) : ∀ {xs : List V} {qs : List (Pl × Nat)}, FL H xs qs → FL H (xs ++ [.ref t]) (qs ++ [q])
  | [], [], _ => ⟨⟨t, v, rfl, h, hp⟩, trivial⟩
  | x :: xs, q :: qs, ⟨a, r⟩ => ⟨a, FL.snoc h hp r⟩
theorem FL.get {H : Hp} : ∀ {xs : List V} {qs : List (Pl × Nat)} {i : Nat} {x : V}, FL H xs qs → xs[i]? = some x → ∃ q t v, qs[i]? = some q ∧ x = .ref t ∧ H t = some (.tup [v, .int (q.2 : Int)]) ∧ PlAt H q.1 v
  | [], [], _, _, _, e => by simp at e
  | x :: xs, q :: qs, 0, u, ⟨⟨t, v, ex, h, p⟩, r⟩, e => ⟨q, t, v, rfl, (Option.some.inj e).symm.trans ex, h, p⟩
  | x :: xs, q :: qs, i + 1, u, ⟨_, r⟩, e => r.get (i := i) e
/-- the last one apart -/
theorem FL.last {H : Hp} {xs : List V} {qs : List (Pl × Nat)} (h : FL H xs qs) (hn : qs ≠ []) : ∃ q t v, qs = qs.dropLast ++ [q] ∧ xs[xs.length - 1]? = some (.ref t) ∧ H t = some (.tup [v, .int (q.2 : Int)]) ∧ PlAt H q.1 v ∧ FL H xs.dropLast qs.dropLast := by
  induction xs generalizing qs with
  | nil =>
    cases qs with
    | nil => exact absurd rfl hn
    | cons q qs => exact h.elim
  | cons x xs ih =>
    cases qs with
    | nil => exact h.elim
    | cons q qs =>
      obtain ⟨⟨t, v, ex, h1, p⟩, r⟩ := h
      cases qs with
      | nil =>
        cases xs with
        | nil => exact ⟨q, t, v, rfl, by rw [ex]; rfl, h1, p, trivial⟩
        | cons y ys => exact r.elim
      | cons q2 qs =>
        cases xs with
        | nil => exact r.elim
        | cons y ys =>
          obtain ⟨q', t', v', e1, e2, e3, e4, e5⟩ := ih r (List.cons_ne_nil _ _)
          refine ⟨q', t', v', ?_, ?_, e3, e4, ?_⟩
          · rw [List.dropLast_cons_cons, List.cons_append, ← e1]
          · rw [← e2]; rfl
          · exact ⟨⟨t, v, ex, h1, p⟩, e5⟩
/-- what is still in a stack of plans -/
def stackL (ws : List (Pl × Nat)) : List (Pl × Nat) := (ws.map fun q => subs q.2 q.1).flatten
theorem stackL_app (a b : List (Pl × Nat)) : stackL (a ++ b) = stackL a ++ stackL b := by unfold stackL; rw [List.map_append, List.flatten_append]
theorem stackL_one (q : Pl × Nat) : stackL [q] = q :: stackL (q.1.ins.map fun p => (p, q.2 + 1)) := by
  unfold stackL
  rw [List.map_singleton, List.flatten_singleton, subs_eq, List.map_map]
  rfl
def spInputs : Sp := fun vs H Q _ => ∃ (v : V) (p : Pl), vs = [v] ∧ PlAt H p v ∧ ∀ (t : Addr) (us : List V), H t = none → InsAt H p.ins us → Q (.ref t) (upd H t (.tup us))
def spLevels : Sp := fun vs H Q _ => ∃ (v : V) (p : Pl), vs = [v] ∧ PlAt H p v ∧ p.size ≤ 400 ∧ ∀ (f : Addr) (xs : List V) (ps : List (Pl × Nat)) H', Same H H' → H f = none → H' f = some (.lst xs) → FL H' xs ps → ps.Perm (subs 1 p) → Q (.ref f) H'
/-! ### the plans that are drawn -/
def compS : List Str := ["<", "<=", "=", "!=", ">=", ">"]
def keyS : List Str := ["a", "ab", "b", "c"]
def aggS : List Str := ["count", "sum", "least", "greatest"]
def combS : List Str := ["left", "right", "sum", "difference"]
def StOk : Stg → Prop
  | .sift c b => c ∈ compS ∧ -6 ≤ b ∧ b ≤ 6
  | .only ks => ks ≠ [] ∧ ks.Sublist keyS
  | .rekey k => k ∈ (["a", "b", "z"] : List Str)
  | .scale f => -3 ≤ f ∧ f ≤ 2
  | .later d => 0 ≤ d ∧ d ≤ 4
def PlOk (ns : List Str) : Pl → Prop
  | .src n => n ∈ ns
  | .stage s p => StOk s ∧ PlOk ns p
  | .once p => PlOk ns p
  | .windows a b g p => (1 ≤ b ∧ b ≤ 9 ∧ 1 ≤ a ∧ a ≤ 10 * b ∧ g ∈ aggS) ∧ PlOk ns p
  | .sittings a g p => (0 ≤ a ∧ a < 40 ∧ g ∈ aggS) ∧ PlOk ns p
  | .two w l r => w ∈ twoS ∧ PlOk ns l ∧ PlOk ns r
  | .near a b c l r => (0 ≤ a ∧ a < 9 ∧ 0 ≤ b ∧ b < 9 ∧ c ∈ combS) ∧ PlOk ns l ∧ PlOk ns r
theorem ok_srcs {ns : List Str} : ∀ {p : Pl}, PlOk ns p → ∀ z ∈ p.srcs, z ∈ ns
  | .src n, h, z, hz => by rw [List.mem_singleton.mp hz]; exact h
  | .stage _ p, h, z, hz => ok_srcs h.2 z hz
  | .once p, h, z, hz => ok_srcs (p := p) h z hz
  | .windows _ _ _ p, h, z, hz => ok_srcs h.2 z hz
  | .sittings _ _ p, h, z, hz => ok_srcs h.2 z hz
  | .two _ l r, h, z, hz => (List.mem_append.mp hz).elim (ok_srcs h.2.1 z) (ok_srcs h.2.2 z)
  | .near _ _ _ l r, h, z, hz => (List.mem_append.mp hz).elim (ok_srcs h.2.1 z) (ok_srcs h.2.2 z)
def spStage : Sp := fun vs H Q _ => ∃ (d sc : Addr), vs = [.ref d] ∧ Dr sc H d ∧ ∀ v s H', StAt H' s v → StOk s → Dr sc H' d → Up d H H' → Q v H'
def spAgg : Sp := fun vs H Q _ => ∃ (d sc : Addr), vs = [.ref d] ∧ Dr sc H d ∧ ∀ g H', g ∈ aggS → Dr sc H' d → Up d H H' → Q (.str g) H'
def spSpan : Sp := fun vs H Q _ => ∃ (d sc : Addr), vs = [.ref d] ∧ Dr sc H d ∧ ∀ (t : Addr) (a b : Int) H', H' t = some (.tup [.int a, .int b]) → 1 ≤ b → b ≤ 9 → 1 ≤ a → a ≤ 10 * b → Dr sc H' d → Up d H H' → Q (.ref t) H'
def spTree (ns : List Str) (n : Nat) : Sp := fun vs H Q _ => ∃ (d sc : Addr) (size : Int), vs = [.ref d, .int size] ∧ 1 ≤ size ∧ size ≤ n ∧ Dr sc H d ∧
  ∀ v p H', PlAt H' p v → PlOk ns p → (p.size : Int) ≤ size → Dr sc H' d → Up d H H' → Q v H'
end Tf
set_option maxHeartbeats 4000000
namespace Tf
open PySem PySem.Spec PyProof.Rows L2
/-! ### sets over any kind of keys, whose tables can be walked -/
section
variable {P : Program} {w : World} {α : Type} [DecidableEq α]
/-- no key twice; the places rise; the order is the text's or led -/
structure Tidy (knd : PySem.KeyKind P w α) (es : Array (Int × Value)) (t : SetTable) : Prop where
  els : ElemsOf knd es.toList
  one : es.toList.Pairwise fun e f => ∀ k, ¬ (knd.is k e.2 = true ∧ knd.is k f.2 = true)
  few : es.size < scanBound
  fit : t.fits es.size = true
  ris : Ris t.place.toList
  led : w.params.followText "set-order" = true ∨ t.led = true
def SetX (knd : PySem.KeyKind P w α) (h : Heap) (a : Addr) (S : α → Bool) (n : Nat) : Prop :=
  ∃ o es ep t, (h.get? a = some o ∧ o.ExactSet ∧ o.data = .set es ep t) ∧ (∀ k, S k = true ↔ ∃ e ∈ es.toList, knd.is k e.2 = true) ∧ es.size = n ∧ Tidy knd es t
variable {knd : PySem.KeyKind P w α} {A : Around} {E : Value → Shared → Prop} {s : Shared} {a : Addr} {S : α → Bool} {n : Nat}
theorem SetX.plain {h : Heap} (R : SetX knd h a S n) : h.SetOf knd a S n := by
  obtain ⟨o, es, ep, t, ⟨h1, h2, h3⟩, h4, h5, T⟩ := R
  exact ⟨o, es, ep, t, h1, h2, h3, T.els, h4, T.few, T.fit, h5⟩
theorem SetX.at {h h' : Heap} (R : SetX knd h a S n) (k : ∀ o, h.get? a = some o → h'.get? a = some o) : SetX knd h' a S n := by
  obtain ⟨o, es, ep, t, ⟨h1, h2⟩, r⟩ := R
  exact ⟨o, es, ep, t, ⟨k o h1, h2⟩, r⟩
/-- where a tidy table is stored, the set is what its members say -/
theorem storeX {o : Obj} {es es' : Array (Int × Value)} {ep : Nat} {t t' : SetTable} {S' : α → Bool} {Q : Unit → Shared → Prop} (ho : s.heap.get? a = some o) (hx : o.ExactSet) (hd : o.data = .set es ep t) (T : Tidy knd es' t')
    (hS : ∀ k, S' k = true ↔ ∃ e ∈ es'.toList, knd.is k e.2 = true)
    (q : ∀ h' : Heap, Heap.SameBut a s.heap h' → (∃ o', h'.get? a = some o' ∧ o'.ExactSet ∧ ∃ ep', o'.data = .set es' ep' t') → SetX knd h' a S' es'.size → Q () { s with heap := h' }) : wpAny (model P w) A (storeSet a es' t') Q E s := by
  have g : (s.heap.update a (Obj.putSet es' t')).get? a = some (Obj.putSet es' t' o) := Heap.get?_update_self _ ho (by rw [putSet_of es' t' hd] <;> rfl)
  rw [putSet_of es' t' hd] at g
  exact wpAny_storeSet_of ho hd (q _ (Heap.SameBut.update s.heap a _) ⟨_, g, hx, _, rfl⟩ ⟨_, es', _, t', ⟨g, hx, rfl⟩, hS, rfl, T⟩) (fits_of_scanBound T.few)
theorem Tidy.perm {es es' : Array (Int × Value)} {t t' : SetTable} (T : Tidy knd es t) (p : es'.toList.Perm es.toList) (f : t'.fits es'.size = true) (r : Ris t'.place.toList) (l : t'.led = t.led) : Tidy knd es' t' :=
  ⟨fun e he => T.els e (p.mem_iff.mp he), (p.pairwise_iff (fun {x y} h k z => h k ⟨z.2, z.1⟩)).mpr T.one, by rw [← Array.length_toList, p.length_eq, Array.length_toList]; exact T.few, f, r, T.led.imp id fun z => l.trans z⟩
/-- the store of an addition: at once, and once more where the table is too full -/
theorem tailX {g : Bool → Sem Unit} (hg : ∀ (b : Bool) (s1 : Shared) (Q1 : Unit → Shared → Prop), Q1 () s1 → wpAny (model P w) A (g b) Q1 E s1) {o : Obj} {es es1 : Array (Int × Value)} {ep : Nat} {t t1 : SetTable} {S' : α → Bool} {dm : Bool} {R : Option Bool → Shared → Prop}
    (ho : s.heap.get? a = some o) (hx : o.ExactSet) (hd : o.data = .set es ep t) (T : Tidy knd es1 t1) (hS : ∀ k, S' k = true ↔ ∃ e ∈ es1.toList, knd.is k e.2 = true)
    (q : ∀ h' : Heap, Heap.SameBut a s.heap h' → SetX knd h' a S' es1.size → R (some true) { s with heap := h' }) :
    wpAny (model P w) A (storeSet a es1 t1 >>= fun _ => if (!dm && t1.tooFull) = true then (g (relayAll t1 es1 (SetTable.grown es1.size)).2.2 >>= fun _ => storeSet a (relayAll t1 es1 (SetTable.grown es1.size)).1 (relayAll t1 es1 (SetTable.grown es1.size)).2.1 >>= fun _ => pure (some true)) else pure (some true)) R E s := by
  refine wpAny_bind (storeX ho hx hd T hS fun h' sb ⟨o', g1, g2, ep', g3⟩ K => ?_)
  split
  · have p2 := relayAll_perm t1 es1 (SetTable.grown es1.size)
    have T2 := T.perm p2 (relayAll_fits t1 es1 _) (relayAll_ris t1 es1 _) (relayAll_led t1 es1 _)
    have z : (relayAll t1 es1 (SetTable.grown es1.size)).1.size = es1.size := by rw [← Array.length_toList, p2.length_eq, Array.length_toList]
    refine wpAny_bind (hg _ _ _ (wpAny_bind (storeX g1 g2 g3 T2 (fun k => (hS k).trans ⟨fun ⟨e, he, y⟩ => ⟨e, p2.mem_iff.mpr he, y⟩, fun ⟨e, he, y⟩ => ⟨e, p2.mem_iff.mp he, y⟩⟩) fun h2 sb2 _ K2 => wpAny_pure ?_)))
    rw [z] at K2
    exact q h2 (sb.trans sb2) K2
  · exact wpAny_pure (q h' sb K)
theorem addX {k : α} {v : Value} {Q : Bool → Shared → Prop} (hk : knd.is k v = true) (hv : v.scannable = true) (R : SetX knd s.heap a S n) (room : n + 1 < scanBound)
    (q : ∀ h', Heap.SameBut a s.heap h' → SetX knd h' a (fun j => S j || decide (j = k)) (if S k = true then n else n + 1) → Q (!S k) { s with heap := h' }) : wpAny (model P w) A (setAddHashed a v (knd.hash k)) Q E s := by
  obtain ⟨o, es, ep, t, ⟨ho, hx, hd⟩, hS, hn, T⟩ := id R
  unfold setAddHashed setAddHashedIn
  refine wpAny_holding (wpAny_bind (wpAny_setState_of ho hd T.fit ?_))
  dsimp only
  rw [byScan_of hv T.few T.els]
  simp only [↓reduceIte]
  unfold setAddByScan
  refine wpAny_bind (wpAny_bind (wpAny_rule (wpAny_bind (wpAny_setScan_of hk ho hd T.fit T.els ?_))))
  cases hf : List.findIdx? (fun e => knd.is k e.2) es.toList with
  | some j =>
    dsimp only
    obtain ⟨hj, pj, _⟩ := List.findIdx?_eq_some_iff_getElem.mp hf
    have hSk : S k = true := (hS k).mpr ⟨_, List.getElem_mem hj, pj⟩
    have e : (fun j => S j || decide (j = k)) = S := by
      funext i
      cases q : S i with
      | true => rfl
      | false =>
        show (false || decide (i = k)) = false
        rw [Bool.false_or]
        exact decide_eq_false fun z => by rw [z, hSk] at q; cases q
    have q' := q s.heap (Heap.SameBut.refl a s.heap) (by rw [e, if_pos hSk]; exact R)
    rw [hSk] at q'
    exact wpAny_pure (wpAny_pure q')
  | none =>
    dsimp only
    have no : ∀ e ∈ es.toList, knd.is k e.2 = false := fun e he => List.findIdx?_eq_none_iff.mp hf e he
    have hSk : S k = false := by
      cases q : S k with
      | false => rfl
      | true =>
        obtain ⟨e, he, z⟩ := (hS k).mp q
        rw [no e he] at z
        cases z
    have p1 := layNew_perm t es (knd.hash k) v
    have f1 := layNew_fits t es (knd.hash k) v
    have r1 := layNew_ris t es (knd.hash k) v T.ris
    have l1 := layNew_led t es (knd.hash k) v
    generalize layNew t es (knd.hash k) v = Z at p1 f1 r1 l1 ⊢
    obtain ⟨es1, t1, dm, gv⟩ := Z
    dsimp only at p1 f1 r1 l1 ⊢
    rw [Array.toList_push] at p1
    have pc : es1.toList.Perm ((knd.hash k, v) :: es.toList) := p1.trans (List.perm_append_singleton _ _)
    have hz : es1.size = n + 1 := by rw [← Array.length_toList, pc.length_eq, List.length_cons, Array.length_toList, hn]
    have T1 : ∀ t2 : SetTable, t2.fits es1.size = true → Ris t2.place.toList → t2.led = t.led → Tidy knd es1 t2 := fun t2 a1 a2 a3 => by
      refine ⟨fun e he => ?_, (pc.pairwise_iff (fun {x y} h k z => h k ⟨z.2, z.1⟩)).mpr (List.pairwise_cons.mpr ⟨fun e he i z => ?_, T.one⟩), by rw [hz]; exact room, a1, a2, T.led.imp id fun z => a3.trans z⟩
      · rcases List.mem_cons.mp (pc.mem_iff.mp he) with z | z
        · rw [z]; exact ⟨⟨k, hk, rfl⟩, hv⟩
        · exact T.els e z
      · have ei : k = i := knd.inj v k i hk z.1
        rw [← ei, no e he] at z
        exact absurd z.2 Bool.false_ne_true
    have S1 : ∀ i, (S i || decide (i = k)) = true ↔ ∃ e ∈ es1.toList, knd.is i e.2 = true := fun i => by
      rw [Bool.or_eq_true, decide_eq_true_eq, hS i]
      constructor
      · rintro (⟨e, he, z⟩ | rfl)
        · exact ⟨e, pc.mem_iff.mpr (List.mem_cons_of_mem _ he), z⟩
        · exact ⟨_, pc.mem_iff.mpr (List.mem_cons_self ..), hk⟩
      · rintro ⟨e, he, z⟩
        rcases List.mem_cons.mp (pc.mem_iff.mp he) with y | y
        · rw [y] at z; exact .inr (knd.inj v i k z hk)
        · exact .inl ⟨e, y, z⟩
    have fin : ∀ h', Heap.SameBut a s.heap h' → SetX knd h' a (fun j => S j || decide (j = k)) es1.size → Q true { s with heap := h' } := fun h' sb K => by
      have q' := q h' sb
      rw [hSk] at q'
      rw [hz] at K
      exact q' K
    have pass : ∀ (b : Bool) (s1 : Shared) (Q1 : Unit → Shared → Prop), Q1 () s1 → wpAny (model P w) A (match b with | true => rule "set.scan.the-table-gave-way" | false => pure ()) Q1 E s1 := fun b s1 Q1 y => by
      cases b
      · exact wpAny_pure y
      · exact wpAny_rule y
    refine wpAny_bind (pass gv _ _ ?_)
    split
    · refine wpAny_bind ?_
      rw [hashByValue_scannable 8 hv]
      refine wpAny_pure (tailX pass ho hx hd (T1 _ ?_ ?_ ?_) S1 fun h' sb K => wpAny_pure (fin h' sb K))
      · split
        · exact f1
        · exact SetTable.fits_plain_off f1
      · split <;> exact r1
      · split <;> exact l1
    · refine wpAny_bind (wpAny_pure ?_)
      exact tailX pass ho hx hd (T1 _ f1 r1 l1) S1 fun h' sb K => wpAny_pure (fin h' sb K)
/-- set.add of one more key -/
theorem callAddX {k : α} {v : Value} {Q : Value → Shared → Prop} (hk : knd.is k v = true) (hv : v.scannable = true) (R : SetX knd s.heap a S n) (room : n + 1 < scanBound)
    (q : ∀ h', Heap.SameBut a s.heap h' → SetX knd h' a (fun j => S j || decide (j = k)) (if S k = true then n else n + 1) → Q .none { s with heap := h', toks := s.toks + 1 }) : wpAny (model P w) A (call (.builtin "set.add") [.ref a, v]) Q E s := by
  refine wpAny_call_entry F.slot_set_add R.plain.typeIs F.entry_set_add ?_ (F.args_set_add_2 _ _)
  unfold Builtin.«set.add» Builtin.Frozenset.oneOther Builtin.Frozenset.addrOf setAdd
  simp only [List.isEmpty_nil, bind_assoc]
  refine wpAny_bind (wpAny_pure (wpAny_bind (wpAny_pure ?_)))
  refine wpAny_bind (wpAny_holding (wpAny_bind (knd.pyHash hk (addX (s := { s with toks := s.toks + 1 }) hk hv R room fun h' sb K => ?_))))
  exact wpAny_pure ⟨_, rfl, q h' sb K⟩
theorem freshX {h : Heap} : SetX knd (h.push { cls := .type "set", dict := none, data := .set #[] 0 (.fresh 0 0 (!w.params.followText "set-order")) }) h.objs.size (fun _ => false) 0 := by
  refine ⟨_, #[], 0, _, ⟨Heap.get?_push_size _ rfl, ⟨rfl, rfl, rfl⟩, rfl⟩, fun k => by simp, rfl, fun e he => by simp at he, List.Pairwise.nil, by decide, rfl, List.Pairwise.nil, ?_⟩
  show _ ∨ (!w.params.followText "set-order") = true
  cases w.params.followText "set-order"
  · exact .inr rfl
  · exact .inl rfl
end
/-! ### sorted(s), s a set of texts -/
section
variable {P : Program} {w : World} {A : Around} {E : Value → Shared → Prop} {s : Shared} {a : Addr} {S : Str → Bool} {n : Nat}
def txt : Value → Str
  | .str z _ => z
  | _ => Str.empty
theorem txt_is {z : Str} {v : Value} (h : (PySem.strKind P w).is z v = true) : txt v = z ∧ ∃ t, v = .str z t := by
  obtain ⟨t, e⟩ := Value.isStrOf_shape (show Value.isStrOf z v = true from h)
  exact ⟨by rw [e]; rfl, t, e⟩
theorem strs_of : ∀ {vs : List Value}, (∀ v ∈ vs, ∃ z t, v = Value.str z t) → StrsAre vs (vs.map txt)
  | [], _ => .nil
  | v :: r, h => by
    obtain ⟨z, t, e⟩ := h v (List.mem_cons_self ..)
    rw [e]
    exact .cons z t (strs_of fun u hu => h u (List.mem_cons_of_mem _ hu))
theorem sortX {Q : Value → Shared → Prop} (R : SetX (PySem.strKind P w) s.heap a S n) (hh : A.handled = none) (h64 : n < 64)
    (q : ∀ s' p (out : Array Value) (c : Nat) (ys : List Str), (∀ b o, s.heap.get? b = some o → s'.heap.get? b = some o) → s'.gens = s.gens → s'.os = s.os → s.heap.objs.size ≤ p → s'.heap.get? p = some (seqObj "list" out c) →
      StrsAre out.toList ys → sortedS ys = true → ys.Nodup → ys.length = n → (∀ k, k ∈ ys ↔ S k = true) → Q (.ref p) s') : wpAny (model P w) A (call (.builtin "sorted") [.ref a]) Q E s := by
  obtain ⟨o, es, ep, t, ⟨ho, hx, hd⟩, hS, hn, T⟩ := R
  refine Calls.call_function_entry kind_sorted plain_sorted entry_sorted (args_sorted1 _) ?_
  unfold Builtin.«sorted»
  refine wpAny_bind (m := checkCount "sorted" 1 1 _) (wpAny_pure (wpAny_bind (collect_set (A := A.in1) hh ⟨o, ho, hx.1, hd⟩ T.fit T.few T.ris T.led fun s1 vs k1 z1 g1 o1 pm => ?_)))
  have hl : vs.length = n := by rw [pm.length_eq, List.length_map, Array.length_toList]; exact hn
  have key : ∀ e ∈ es.toList, ∃ z t, e.2 = Value.str z t := fun e he => by
    obtain ⟨⟨k, hk, _⟩, _⟩ := T.els e he
    obtain ⟨_, t, e⟩ := txt_is hk
    exact ⟨k, t, e⟩
  have hvs : StrsAre vs (vs.map txt) := strs_of fun v hv => by
    obtain ⟨e, he, rfl⟩ := List.mem_map.mp (pm.mem_iff.mp hv)
    exact key e he
  have pz : (vs.map txt).Perm (es.toList.map fun e => txt e.2) := by
    have z := pm.map txt
    rwa [List.map_map] at z
  have nd : (es.toList.map fun e => txt e.2).Nodup := by
    refine List.pairwise_map.mpr (T.one.imp_of_mem fun {x y} hxm hym z e => ?_)
    obtain ⟨⟨k, hk, _⟩, _⟩ := T.els x hxm
    obtain ⟨⟨i, hi, _⟩, _⟩ := T.els y hym
    rw [(txt_is hk).1, (txt_is hi).1] at e
    exact z k ⟨hk, by rw [e]; exact hi⟩
  have mem : ∀ k, k ∈ (es.toList.map fun e => txt e.2) ↔ S k = true := fun k => by
    rw [List.mem_map, hS k]
    constructor
    · rintro ⟨e, he, rfl⟩
      obtain ⟨⟨i, hi, _⟩, _⟩ := T.els e he
      exact ⟨e, he, by rw [(txt_is hi).1]; exact hi⟩
    · rintro ⟨e, he, z⟩
      exact ⟨e, he, (txt_is z).1⟩
  refine wpAny_bind (wpAny_newList ?_ (by rw [hl, sizeLine_eq]; omega))
  have hoL : (s1.heap.push (seqObj "list" vs.toArray 0)).get? s1.heap.objs.size = some (seqObj "list" vs.toArray 0) := Heap.get?_push_size _ rfl
  refine wpAny_bind (wpAny_holding (wpAny_call_entry slot_list_sort ⟨_, hoL, rfl⟩ entry_list_sort (list_sort_treeK strKind_oneLt hoL hvs.keysOf (fun v₁ v₂ rest e => keyKind_strs (by rw [← e]; exact hvs)) (by rw [hl]; exact h64) fun st' hp hs => ⟨_, rfl, ?_⟩) (args_list_sort _)))
  obtain ⟨ys, y1, y2, y3⟩ := sorted_out_str hvs hp hs
  generalize (arrOf st').map (·.2) = out at y1
  obtain ⟨c, hc⟩ := sortedHeap_at (vs := vs) (out := out) hoL
  have py := y2.trans pz
  refine wpAny_pure ⟨_, rfl, q _ s1.heap.objs.size out c ys (fun b u e => ?_) g1 o1 z1 hc y1 y3 (py.nodup_iff.mpr nd) (by rw [y2.length_eq, List.length_map]; exact hl) fun k => by rw [py.mem_iff]; exact mem k⟩
  have e1 := k1 b u e
  have lt := Heap.lt_size e1
  show (sortedHeap (s1.heap.push (seqObj "list" vs.toArray 0)) s1.heap.objs.size vs out).get? b = some u
  rw [sortedHeap_old (Nat.ne_of_lt lt) (by rw [size_push']; exact Nat.lt_succ_of_lt lt)]
  exact Heap.get?_push_of_some _ e1
end
/-! ### as tracked things -/
/-- the set of texts at a -/
def SetT (P : Program) (w : World) (a : Addr) (S : Str → Bool) (n : Nat) : HO := .ext fun h => SetX (PySem.strKind P w) h a S n
theorem setT_new {P : Program} {w : World} {H : Hp} {h : Heap} {a : Addr} {S : Str → Bool} {n : Nat} (R : SetX (PySem.strKind P w) h a S n) : ObjOk P w H h a (SetT P w a S n) := by
  have ⟨o, _, _, _, ⟨ho, _⟩, _⟩ := R
  exact ⟨R, ⟨o, ho⟩, fun _ _ q k => SetX.at q k⟩
section
variable {X : Cx} {pins : List (Addr × Obj)} {σ : L2.St} {H : Hp} {s : Shared} {E : Value → Shared → Prop}
theorem setT_get {a : Addr} {S : Str → Bool} {n : Nat} (I : Inv X pins σ H s) (ha : H a = some (SetT X.prog X.w a S n)) : SetX (PySem.strKind X.prog X.w) s.heap a S n := (I.hok a _ ha).1
theorem addT {D : Addr} {S : Str → Bool} {n : Nat} {z : Str} {tk : Tok} {Q : Value → Shared → Prop} (I : Inv X pins σ H s) (hD : H D = some (SetT X.prog X.w D S n)) (room : n + 1 < scanBound)
    (h : ∀ s', Inv X pins σ (upd H D (SetT X.prog X.w D (fun j => S j || decide (j = z)) (if S z = true then n else n + 1))) s' → Q .none s') : wpAny (model X.prog X.w) X.A (call (.builtin "set.add") [.ref D, .str z tk]) Q E s := by
  refine callAddX (knd := PySem.strKind X.prog X.w) (k := z) (strKind_is _ _ _ _) rfl (setT_get I hD) room fun h' sb K => ?_
  have ⟨o, _, _, _, ⟨ho, _⟩, _⟩ := K
  exact h _ (I.write (e := D) (t' := s.toks + 1) (by rw [hD]; trivial) (.inl rfl) (fun b u hb hu => (sb.2 b hb).trans hu) ⟨o, ho⟩ (setT_new K))
/-- sorted(s), s a set of fewer than 64 texts -/
def rSortT (P : Program) (w : World) : List V → Hp → VK → Prop := fun vs H Q => ∃ (a : Addr) (S : Str → Bool) (n : Nat), vs = [V.ref a] ∧ H a = some (SetT P w a S n) ∧ n < 64 ∧
  ∀ (ys : List Str) (p : Addr), sortedS ys = true → ys.Nodup → (∀ k, k ∈ ys ↔ S k = true) → H p = none → Q (.ref p) (upd H p (.lst (ys.map V.str)))
theorem cr_sortT (hc : X.calm = true) : CallR X (.builtin "sorted") (rSortT X.prog X.w) := by
  intro pins s σ H vs us Q I r h
  obtain ⟨a, S, n, rfl, ha, h64, q⟩ := h
  rw [Vals.ref1 r]
  refine sortX (setT_get I ha) (I.ok.hd hc) h64 fun s' p out c ys k g o hp hg y1 y2 y3 y4 y5 => ?_
  have hn : H p = none := I.hok.fresh hp
  have hlen : (ys.map V.str).length ≤ sizeLine := by rw [List.length_map, y4]; exact Nat.le_of_lt (small1000 (by omega))
  have e : s' = { s with heap := s'.heap, gens := s'.gens, drawn := s'.drawn, toks := s'.toks } := by
    cases s'; cases s; cases o; rfl
  rw [e]
  exact ⟨.ref p, upd H p (.lst (ys.map V.str)), I.call (ch := []) (Un.laid k hp hn) (I.hok.laid k hp ⟨hlen, out.toList, c, vals_of_strs y1, hg⟩) (by rw [g]; exact I.bare) (fun _ z => nomatch z), rfl, q ys p y2 y3 y5 hn⟩
end
/-! ### {elt for target in iter if ..}, elt a text -/
section
variable {X : Cx}
def tSx (P : Program) (w : World) (wi : TI) (g : TG) (tt : TT) (te : TE) (vs : List Nat) : TE := fun σ H Q => wi σ H fun J H1 => ∀ D, H1 D = none → ∃ W : Nat → Nat → Hp → Prop, (∃ m, W 0 m (upd H1 D (SetT P w D (fun _ => false) 0))) ∧ ∀ i m H, W i m H →
  (J.stop i H ∧ Q (.ref D) H) ∨ (J.go i H ∧ ∃ Nx : Hp → Prop, (∀ H', Nx H' → ∃ m', m' < m ∧ W (i + 1) m' H') ∧ ∀ x H', J.yld i H x H' → g x (wipe σ vs) H' fun σ2 H2 => wipe σ2 vs = wipe σ vs ∧ tt σ2 H2 fun b H3 =>
    if b = true then te σ2 H3 fun y H4 => ∃ (z : Str) (S : Str → Bool) (n : Nat), y = .str z ∧ H4 D = some (SetT P w D S n) ∧ n + 1 < scanBound ∧ Nx (upd H4 D (SetT P w D (fun j => S j || decide (j = z)) (if S z = true then n else n + 1))) else Nx H3)
theorem pe_sx {elt tg iter : Expr} {ifs : List Expr} {scope : Scope} {own : List (Str × Nat)} {pos : Pos} {wi : TI} {g : TG} {tt : TT} {te : TE} (hc : X.calm = true) (hN : X.N.Nodup) (hi : PI X tg iter wi) (ok : BlkOk X.N X.env.scope scope own)
    (hg : ∀ s H C cl fp, PG (X.blk s H scope (compEnvC scope cl C X.env) fp) tg g) (ht : ∀ s H C cl fp, PTs (X.blk s H scope (compEnvC scope cl C X.env) fp) ifs tt) (he : ∀ s H C cl fp, PE (X.blk s H scope (compEnvC scope cl C X.env) fp) elt te)
    (hs : ∀ x, foldedSetIterable iter X.env x = pure x := by intro _; rfl) : PE X (.SetComp elt [⟨tg, iter, ifs, 0⟩] scope pos) (tSx X.prog X.w wi g tt te (own.map (·.2))) := by
  refine ⟨fun pins s σ H Q I h => ?_⟩
  rw [PpSet.eval_SetComp]
  let X0 := X
  have free : ∀ y ∈ scope.names, y.2 = .free → ∃ c, X.env.cells.lookup y.1 = some c := fun y hy e => (ok.free y hy e).elim (fun k => I.ok.has _ (.inl k)) fun k => I.ok.has _ (.inr k)
  -- the iterable, its iterator, the new set, the block's frame
  refine wpAny_comprehension_free (use := none) rfl hs (closure_ok free) ok.kind (fun y hy e => by rw [ok.uniq y hy, e]) (thn (hi.run pins s σ H _ I h) fun xv s1 hx => thn hx fun itv s2 ⟨it, fp, tn, J, H2, e, I2, T, st2, f2, q⟩ => ?_)
  subst e
  refine PpSet.newSet_ok (newEnv_comp ?_)
  obtain ⟨D, hD⟩ : ∃ D, s2.heap.objs.size = D := ⟨_, rfl⟩
  obtain ⟨W, ⟨m0, w0⟩, turn⟩ := q D (I2.hok.fresh (Nat.le_of_eq hD))
  obtain ⟨H3, hH3⟩ : ∃ H3, upd H2 D (SetT X.prog X.w D (fun _ => false) 0) = H3 := ⟨_, rfl⟩
  obtain ⟨s3, hs3⟩ : ∃ s3 : Shared, { s2 with heap := s2.heap.push { cls := .type "set", dict := none, data := .set #[] 0 (.fresh 0 0 (!X.w.params.followText "set-order")) } } = s3 := ⟨_, rfl⟩
  have h3 : s3.heap = s2.heap.push { cls := .type "set", dict := none, data := .set #[] 0 (.fresh 0 0 (!X.w.params.followText "set-order")) } := by rw [← hs3]
  have I3 : Inv X pins σ H3 s3 := by
    rw [← hs3, ← hH3]
    exact I2.laid (t' := s2.toks) (fun b o e => Heap.get?_push_of_some _ e) (Nat.le_of_eq hD) (by rw [← hD]; exact setT_new freshX)
  rw [hH3] at w0
  have f3 : ∀ b ∈ fp, FpOk X pins H3 b ∧ b < s3.heap.objs.size := fun b hb => by
    obtain ⟨o, e, _⟩ := T.obj _ _ st2 b hb
    have lt := Heap.lt_size e
    refine ⟨⟨?_, (f2 b hb).2⟩, by rw [h3, Heap.size_push]; exact Nat.lt_succ_of_lt lt⟩
    rw [← hH3, upd_ne (by rw [← hD]; exact Nat.ne_of_lt lt)]
    exact (f2 b hb).1
  have st3 : tn 0 s3.heap := T.keep _ _ _ st2 fun b _ o e => by rw [h3]; exact Heap.get?_push_of_some _ e
  have I4 := block_start I3 ok hN f3
  obtain ⟨cl, hcl⟩ : ∃ cl, cellsFrom (s3.heap.objs.size + 1) scope.names (cloFrom X.env.cells scope.names []) = cl := ⟨_, rfl⟩
  rw [hcl] at I4
  have pg := hg s3 H3 s3.heap.objs.size cl fp
  have pt := ht s3 H3 s3.heap.objs.size cl fp
  have pe := he s3 H3 s3.heap.objs.size cl fp
  obtain ⟨ce, hce⟩ : ∃ ce, compEnvC scope cl s3.heap.objs.size X.env = ce := ⟨_, rfl⟩
  rw [hce] at I4 pg pt pe
  have cL : ce.locals = s3.heap.objs.size := by rw [← hce] <;> rfl
  obtain ⟨s4, hs4⟩ : ∃ s4 : Shared, { s3 with heap := pushCells (s3.heap.push { cls := .type "dict", data := .dict #[] }) scope.names } = s4 := ⟨_, rfl⟩
  rw [hs4] at I4
  have st4 : tn 0 s4.heap := T.keep _ _ _ st3 fun b _ o e => by rw [← hs4]; exact pushCells_keeps _ _ _ _ (Heap.get?_push_of_some _ e)
  let B := X.blk s3 H3 scope ce fp
  have stat : ∀ {σ' : L2.St} {H' : Hp} {s' : Shared}, Inv B [] σ' H' s' → (∀ b ∈ fp, H' b = none) → ∀ b ∈ fp, FpOk B [] H' b := fun {σ' H' s'} I' hn b hb =>
    ⟨hn b hb, (I'.ok.exf b hb).1, I'.ok.exfs b hb, .inl hb, fun x c e => (I'.ok.exf b hb).2 x c e, fun p hp => absurd (show p ∈ ([] : List (Addr × Obj)) ++ [] from hp) (by simp)⟩
  have done : ∀ s' m H', Inv X pins σ H' s' → Q (.ref D) H' → s'.heap.Ns s3.heap.objs.size m → FpOk X pins H' s3.heap.objs.size → compPost (model X.prog X.w) X.A X.xe none (EP X pins σ Q) (.ref D) s3.heap.objs.size (.ok .next) s' := fun s' m H' I' q hn f =>
    ⟨m, hn, fun h'' sb => ⟨.ref D, H', I'.turned (t' := s'.toks) (fun b o hb e => (sb.2 b hb).trans e) f.1 f.2.1 f.2.2.2.1 f.2.2.2.2.1 f.2.2.2.2.2, rfl, q⟩⟩
  have loop : codeAny (model X.prog X.w) X.A (.compLoop (.SetComp elt [⟨tg, iter, ifs, 0⟩] scope pos) 0 (.ref it) (.ref D) ce) (compPost (model X.prog X.w) X.A X.xe none (EP X pins σ Q) (.ref D) s3.heap.objs.size) s4 := by
    refine PpSet.compLoopS_any (fun n s' => ∃ i H', Inv B [] (wipe σ (own.map (·.2))) H' s' ∧ tn i s'.heap ∧ (∀ b ∈ fp, H' b = none) ∧ W i n H') ?_ m0 ⟨0, H3, I4, st4, fun b hb => (f3 b hb).1.1, w0⟩
    rintro n s5 ⟨i, H5, I5, st5, n5, w5⟩
    rcases turn i n H5 w5 with ⟨stop, qq⟩ | ⟨go, Nx, hNx, step⟩
    · refine thnF (T.done B rfl rfl rfl hc i [] s5 _ H5 (fun _ _ => False) I5 (stat I5 n5) st5 stop) fun r s6 ⟨hr, I6⟩ => ?_
      subst hr
      have I7 : Inv X pins σ H5 s6 := I3.call' (ch := fp) I6.os I6.base I6.hok I6.bare fun b hb => ⟨(f3 b hb).1.2.2.2.1, (f3 b hb).1.2.1, (f3 b hb).1.2.2.2.2.1, (f3 b hb).1.2.2.2.2.2⟩
      have nC : H5 ce.locals = none := I6.free
      obtain ⟨m, hn, _⟩ := I6.loc
      have hn' : s6.heap.Ns ce.locals m := hn
      rw [cL] at nC hn'
      exact done s6 m H5 I7 qq hn' (I3.fpOk (Nat.le_refl _) nC)
    · refine thnF (T.item B rfl rfl rfl hc i [] s5 _ H5 (fun _ _ => False) I5 (stat I5 n5) st5 go) fun r s6 ⟨u, hr, h6⟩ => ?_
      subst hr
      refine thnF h6 fun _ s7 ⟨x, H7, I7, r7, y7, st7, n7⟩ => ?_
      refine thnF (pg.run _ s7 _ H7 x u _ (I7.pinned (stat I7 n7) (T.obj _ _ st7)) r7 (step x H7 y7)) fun _ s8 ⟨σ8, H8, I8, hw8, q8⟩ => ?_
      refine thnF (pt.run _ s8 σ8 H8 _ I8 q8) fun b s9 ⟨H9, I9, q9⟩ => ?_
      have fin : ∀ {s' : Shared} {H' : Hp}, Inv B ([] ++ pinsAt fp s7.heap) σ8 H' s' → Nx H' → ∃ m, m < n ∧ ∃ i H', Inv B [] (wipe σ (own.map (·.2))) H' s' ∧ tn i s'.heap ∧ (∀ b ∈ fp, H' b = none) ∧ W i m H' := fun {s' H'} I' nx => by
        obtain ⟨m', hm, w'⟩ := hNx H' nx
        have pin : ∀ b ∈ fp, ∀ o, s7.heap.get? b = some o → s'.heap.get? b = some o ∧ H' b = none := fun b hb o e =>
          have z := I'.pin (b, o) (List.mem_append_right _ (List.mem_append_right _ (mem_pinsAt hb e)))
          ⟨z.1, z.2.1⟩
        refine ⟨m', hm, i + 1, H', (I'.unpinned (pins := [])).weak (by rw [← hw8, wipe_length]) (fun j v e => ?_), T.keep _ _ _ st7 fun b hb o e => (pin b hb o e).1, fun b hb => ?_, w'⟩
        · rw [← hw8] at e
          exact (wipe_some e).1
        · obtain ⟨o, e, _⟩ := T.obj _ _ st7 b hb
          exact (pin b hb o e).2
      cases b with
      | false =>
        simp only [Bool.false_eq_true, if_false] at q9 ⊢
        exact fin I9 q9
      | true =>
        simp only [if_true] at q9 ⊢
        refine thnF (pe.run _ s9 σ8 H9 _ I9 q9) fun z s10 ⟨yv, H10, I10, r10, zs, S0, n0, ey, hD10, hz10, nx⟩ => ?_
        subst ey
        obtain ⟨tk, rfl⟩ := (show ∃ t, z = Value.str zs t from r10)
        exact addT (X := B) I10 hD10 hz10 fun s11 I11 => fin I11 nx
  have go := PpSet.codeAny_compStart_set loop (T.self X.A 0 _ _ _ st4 loop)
  rw [← hce, ← hcl, ← hs4] at go
  rw [← hD, hs3] at *
  exact go
end
/-- over a list that the block leaves as it is -/
theorem sx_list {P : Program} {w : World} {K : PySem.W.Frag} {a : Addr} {xs : List V} {g : TG} {tt : TT} {te : TE} {vs : List Nat} {σ : L2.St} {H1 : Hp} {D : Addr} {Qd : Hp → Prop} (Pv : Nat → Hp → Prop) (h0 : Pv 0 (upd H1 D (SetT P w D (fun _ => false) 0)))
    (hl : ∀ i H, i ≤ xs.length → Pv i H → SqL K H a xs)
    (hs : ∀ i x H, xs[i]? = some x → Pv i H → g x (wipe σ vs) H fun σ2 H2 => wipe σ2 vs = wipe σ vs ∧ tt σ2 H2 fun b H3 =>
      if b = true then te σ2 H3 fun y H4 => ∃ (z : Str) (S : Str → Bool) (n : Nat), y = .str z ∧ H4 D = some (SetT P w D S n) ∧ n + 1 < scanBound ∧ Pv (i + 1) (upd H4 D (SetT P w D (fun j => S j || decide (j = z)) (if S z = true then n else n + 1))) else Pv (i + 1) H3)
    (hd : ∀ H, Pv xs.length H → Qd H) :
    ∃ W : Nat → Nat → Hp → Prop, (∃ m, W 0 m (upd H1 D (SetT P w D (fun _ => false) 0))) ∧ ∀ i m H, W i m H → ((Itl K a).stop i H ∧ Qd H) ∨ ((Itl K a).go i H ∧ ∃ Nx : Hp → Prop, (∀ H', Nx H' → ∃ m', m' < m ∧ W (i + 1) m' H') ∧
      ∀ x H', (Itl K a).yld i H x H' → g x (wipe σ vs) H' fun σ2 H2 => wipe σ2 vs = wipe σ vs ∧ tt σ2 H2 fun b H3 => if b = true then te σ2 H3 fun y H4 => ∃ (z : Str) (S : Str → Bool) (n : Nat), y = .str z ∧ H4 D = some (SetT P w D S n) ∧ n + 1 < scanBound ∧
        Nx (upd H4 D (SetT P w D (fun j => S j || decide (j = z)) (if S z = true then n else n + 1))) else Nx H3) := by
  refine ⟨fun i m H => m + i = xs.length ∧ Pv i H, ⟨xs.length, Nat.add_zero _, h0⟩, fun i m H ⟨e, p⟩ => ?_⟩
  have q := hl i H (by omega) p
  rcases Nat.lt_or_ge i xs.length with lt | ge
  · refine .inr ⟨⟨xs, xs[i], q, List.getElem?_eq_getElem lt⟩, Pv (i + 1), fun H' p' => ⟨m - 1, by omega, by omega, p'⟩, fun x H' ⟨e1, y⟩ => ?_⟩
    subst e1
    exact hs i x _ (y xs q) p
  · have ei : i = xs.length := by omega
    subst ei
    exact .inl ⟨⟨xs, q, Nat.le_refl _⟩, hd H p⟩
end Tf
set_option maxHeartbeats 8000000
namespace Tf
open PySem PySem.Spec PyProof.Rows L2 TL
def topS (i : Nat) : Stmt := PySem.Challenge.pw_tidefold_k05_sources_of_plans.main.body.getD i (.Pass ⟨0, 0, 0, 0⟩)
abbrev s_next : Stmt := (topS 8)
abbrev n_next : List Str := ["draw", "many", "found", "cell"]
theorem sc_next : FnScope n_next ["draw", "many"] (defScope s_next) := ⟨rfl, rfl, rfl, by decide +kernel, rfl, by decide +kernel, by decide +kernel⟩
abbrev s_same : Stmt := (topS 9)
abbrev n_same : List Str := ["actual", "due", "k"]
theorem sc_same : FnScope n_same ["actual", "due"] (defScope s_same) := ⟨rfl, rfl, rfl, by decide +kernel, rfl, by decide +kernel, by decide +kernel⟩
abbrev s_draw : Stmt := (topS 7)
abbrev n_draw : List Str := ["script"]
theorem sc_draw : FnScope n_draw ["script"] (defScope s_draw) := ⟨rfl, rfl, rfl, by decide +kernel, rfl, by decide +kernel, by decide +kernel⟩
section
variable {P : Program} {w : World} {K : PySem.W.Frag} {mg : Str → Option Value} {base : Heap}
set_option maxHeartbeats 8000000 in
theorem ok_next {f : Addr} {fd : FuncData} (D : DefAt K mg "_law_next" s_next ["draw", "many"] f fd) (z_int : mg "int" = none) (z_len : mg "len" = none) (z_abs : mg "abs" = none) :
    FnOk P w K mg base CX0 1 f fd ["draw", "many"] spNext := by
  refine D.F.ok sc_next (fun vs H Q E h => ?_) (fun cdv A outer s H vs Q E hr h => ?_)
  · obtain ⟨d, sc, m, rfl, _⟩ := h
    rfl
  obtain ⟨d, sc, m, rfl, h1, h2, ⟨ns, i, big, st, hd, hs, hne, hb, hst0, hst1⟩, q⟩ := h
  refine ⟨_, (pss_cons (ps_if (pt_cmpR op_gt (pe_ix ix_list (pv 0) pe_int (fun _ _ => rfl)) pe_int (nomark _)) (pss_cons (ps_set (i := 2) sc_next.nd rfl (by first | exact Or.inl rfl | exact Or.inr rfl) (pe_op op_mod (pe_callTy call_int1 (by rfl) z_int boot_int (pa_cons (pe_ix ix_list (pv 0) pe_int (fun _ _ => rfl)) pa_nil)) (pv 1))) (pss_cons (ps_asg (pe_op op_fdiv (pe_ix ix_list (pv 0) pe_int (fun _ _ => rfl)) (pv 1)) (pg_sub (pv 0) pe_int set_list)) (pss_one (ps_ret (pv 2))))) pss_nil) (pss_cons (ps_if (pt_cmpR op_lt (pe_ix ix_list (pv 0) pe_int (fun _ _ => rfl)) (pe_callB call_len_seq (by rfl) z_len boot_len (pa_cons (pe_ix ix_list (pv 0) pe_int (fun _ _ => rfl)) pa_nil)) (nomark _)) (pss_cons (ps_set (i := 3) sc_next.nd rfl (by first | exact Or.inl rfl | exact Or.inr rfl) (pe_callB call_abs (by rfl) z_abs boot_abs (pa_cons (pe_ix ix_list (pe_ix ix_list (pv 0) pe_int (fun _ _ => rfl)) (pe_ix ix_list (pv 0) pe_int (fun _ _ => rfl)) (fun _ _ => rfl)) pa_nil))) (pss_cons (ps_asg (pe_op op_add (pe_ix ix_list (pv 0) pe_int (fun _ _ => rfl)) pe_int) (pg_sub (pv 0) pe_int set_list)) (pss_cons (ps_if (pt_cmpR op_ge (pv 3) (pe_op op_pow pe_int pe_int) (nomark _)) (pss_cons (ps_asg (pe_op op_fdiv (pv 3) (pv 1)) (pg_sub (pv 0) pe_int set_list)) (pss_one (ps_ret (pe_op op_mod (pe_callTy call_int1 (by rfl) z_int boot_int (pa_cons (pv 3) pa_nil)) (pv 1))))) pss_nil) (pss_one (ps_asg (pe_op op_mod (pe_callTy call_int1 (by rfl) z_int boot_int (pa_cons (pe_op op_add (pe_op op_add (pe_op op_mul (pe_ix ix_list (pv 0) pe_int (fun _ _ => rfl)) pe_int) (pv 3)) pe_int) pa_nil)) pe_int) (pg_sub (pv 0) pe_int set_list)))))) (pss_one (ps_asg (pe_op op_mod (pe_callTy call_int1 (by rfl) z_int boot_int (pa_cons (pe_op op_add (pe_op op_mul (pe_ix ix_list (pv 0) pe_int (fun _ _ => rfl)) pe_int) pe_int) pa_nil)) pe_int) (pg_sub (pv 0) pe_int set_list)))) (pss_one (ps_ret (pe_op op_mod (pe_op op_fdiv (pe_callTy call_int1 (by rfl) z_int boot_int (pa_cons (pe_op op_mod (pe_op op_mul (pe_ix ix_list (pv 0) pe_int (fun _ _ => rfl)) pe_int) pe_int) pa_nil)) pe_int) (pv 1)))))), ?_⟩
  have fin : ∀ (H0 H1 : Hp) (i' big' st' : Int) (j : Nat), Up d H H0 → H0 sc = some (.lst (ns.map V.int)) → i' = j → 0 ≤ big' → 0 ≤ st' → st' < 2147483647 → H1 = upd H0 d (.lst [.ref sc, .int i', .int big', .int st']) → Dr sc H1 d ∧ Up d H H1 := by
    intro H0 H1 i' big' st' j u0 e0 ei e1 e2 e3 e4
    subst ei e4
    exact ⟨⟨ns, j, big', st', upd_same, by rw [upd_ne hne]; exact e0, hne, e1, e2, e3⟩, u0.trans Up.at⟩
  have em : ∀ a b : Int, 0 < b → 0 ≤ a % b ∧ a % b < b := fun a b hb => ⟨Int.emod_nonneg a (by omega), Int.emod_lt_of_pos a hb⟩
  -- if draw[2] > 0
  refine ⟨_, rfl, d, _, _, _, rfl, rfl, .of hd, rfl, _, _, rfl, rfl, _, rfl, ite2 (fun e => ?_) (fun e => ?_)⟩
  · refine ⟨_, rfl, d, _, _, _, rfl, rfl, .of hd, rfl, .inl ⟨_, rfl, ?_⟩⟩
    refine ⟨_, rfl, _, _, rfl, rfl, (by show (0:Int) < m; omega), ?_⟩
    refine ⟨_, rfl, d, _, _, _, rfl, rfl, .of hd, rfl, _, rfl, _, _, rfl, rfl, ⟨by omega, by omega⟩, _, rfl, d, _, _, 2, rfl, rfl, hd, rfl, _, rfl, ?_⟩
    obtain ⟨r1, r2⟩ := fin H _ i (big / m) st i Up.refl hs rfl (Int.ediv_nonneg hb (by omega)) hst0 hst1 rfl
    exact q _ _ (em big m (by omega)).1 (em big m (by omega)).2 r1 r2
  have last : ∀ (H1 : Hp) (i' big' st' : Int) (j : Nat), Up d H H1 → H1 sc = some (.lst (ns.map V.int)) → i' = j → 0 ≤ big' → 0 ≤ st' → st' < 2147483647 → H1 d = some (.lst [.ref sc, .int i', .int big', .int st']) → ∀ x : Int, Q (.int (x % m)) H1 := by
    intro H1 i' big' st' j u0 e0 ei e1 e2 e3 e4 x
    subst ei
    exact q _ _ (em x m (by omega)).1 (em x m (by omega)).2 ⟨ns, j, big', st', e4, e0, hne, e1, e2, e3⟩ u0
  -- if draw[1] < len(draw[0])
  refine ⟨_, rfl, d, _, _, _, rfl, rfl, .of hd, rfl, _, rfl, d, _, _, _, rfl, rfl, .of hd, rfl, sc, _, rfl, .inl (.of hs), _, _, rfl, rfl, _, rfl, ite2 (fun e => ?_) (fun e => ?_)⟩
  · have hi : i < ns.length := by
      have e' := of_decide_eq_true e
      rw [List.length_map] at e'
      omega
    -- cell = abs(draw[0][draw[1]])
    refine ⟨_, rfl, d, _, _, _, rfl, rfl, .of hd, rfl, _, rfl, d, _, _, _, rfl, rfl, .of hd, rfl, sc, _, _, _, rfl, rfl, .of hs, atI_nat (j := i) (v := .int ns[i]) (by rw [List.getElem?_map, List.getElem?_eq_getElem hi]; rfl), _, rfl, ?_⟩
    -- draw[1] = draw[1] + 1
    refine ⟨_, rfl, d, _, _, _, rfl, rfl, .of hd, rfl, _, _, rfl, rfl, _, rfl, d, _, _, 1, rfl, rfl, hd, rfl, ?_⟩
    have hs1 : ∀ o, upd H d o sc = some (.lst (ns.map V.int)) := fun o => by rw [upd_ne hne]; exact hs
    have c0 : (0 : Int) ≤ (if ns[i] < 0 then -ns[i] else ns[i]) := by split <;> omega
    generalize (if ns[i] < 0 then -ns[i] else ns[i]) = c at c0
    -- if cell >= 10 ** 18
    refine ⟨_, rfl, _, _, rfl, rfl, ⟨by decide, by decide, by decide⟩, _, _, rfl, rfl, _, rfl, ite2 (fun e => ?_) (fun e => ?_)⟩
    · refine ⟨_, rfl, _, rfl, _, _, rfl, rfl, ⟨by omega, by omega⟩, _, rfl, d, _, _, 2, rfl, rfl, upd_same, rfl, ?_⟩
      refine ⟨_, rfl, .inl ⟨_, rfl, _, rfl, _, _, rfl, rfl, (by show (0:Int) < m; omega), ?_⟩⟩
      refine last _ ((i : Int) + 1) (c / m) st (i + 1) (Up.at.trans Up.at) (by rw [upd_ne hne]; exact hs1 _) (by omega) (Int.ediv_nonneg c0 (by omega)) hst0 hst1 upd_same _
    · refine ⟨_, rfl, d, _, _, _, rfl, rfl, .of upd_same, rfl, _, _, rfl, rfl, .inr ⟨by decide, by decide⟩, _, rfl, _, _, rfl, rfl, _, _, rfl, rfl, .inl ⟨_, rfl, _, _, rfl, rfl, (by show (0:Int) < _; decide), _, rfl, d, _, _, 3, rfl, rfl, upd_same, rfl, ?_⟩⟩
      refine ⟨_, rfl, d, _, _, _, rfl, rfl, .of upd_same, rfl, _, _, rfl, rfl, .inr ⟨by decide, by decide⟩, _, _, rfl, rfl, (by show (0:Int) < _; decide), .inl ⟨_, rfl, _, _, rfl, rfl, ⟨by decide, by decide⟩, _, rfl, _, _, rfl, rfl, (by show (0:Int) < m; omega), ?_⟩⟩
      have e3 := em (st * 48271 + c + 11) 2147483647 (by decide)
      exact last _ ((i : Int) + 1) big _ (i + 1) (Up.at.trans Up.at) (by rw [upd_ne hne]; exact hs1 _) (by omega) hb e3.1 e3.2 upd_same _
  · refine ⟨_, rfl, d, _, _, _, rfl, rfl, .of hd, rfl, _, _, rfl, rfl, .inr ⟨by decide, by decide⟩, _, _, rfl, rfl, .inl ⟨_, rfl, _, _, rfl, rfl, (by show (0:Int) < _; decide), _, rfl, d, _, _, 3, rfl, rfl, hd, rfl, ?_⟩⟩
    refine ⟨_, rfl, d, _, _, _, rfl, rfl, .of upd_same, rfl, _, _, rfl, rfl, .inr ⟨by decide, by decide⟩, _, _, rfl, rfl, (by show (0:Int) < _; decide), .inl ⟨_, rfl, _, _, rfl, rfl, ⟨by decide, by decide⟩, _, rfl, _, _, rfl, rfl, (by show (0:Int) < m; omega), ?_⟩⟩
    have e3 := em (st * 48271 + 12345) 2147483647 (by decide)
    exact last _ (i : Int) big _ i Up.at (by rw [upd_ne hne]; exact hs) rfl hb e3.1 e3.2 upd_same _
theorem same0 {f : Addr} {fd : FuncData} : FnOk P w K mg base CX0 0 f fd ["actual", "due"] (spS 0) := by
  have no : ∀ vs H Q E, ¬ spS 0 vs H Q E := fun vs H Q E h => by
    obtain ⟨n, x, y, e, _⟩ := h
    omega
  exact ⟨fun vs H Q E h => absurd h (no vs H Q E), fun A outer s H args us vs Q E _ _ _ _ h => absurd h (no vs H Q E)⟩
theorem ok_same1 {f : Addr} {fd : FuncData} {k : Nat} (D_same : DefAt K mg "_law_same" s_same ["actual", "due"] f fd) (G_same : FnOk P w K mg base CX0 k f fd ["actual", "due"] (spS k))
    (z_isinstance : mg "isinstance" = none) (z_list : mg "list" = none) (z_tuple : mg "tuple" = none) (z_bool : mg "bool" = none) (z_str : mg "str" = none) (z_int : mg "int" = none) (z_len : mg "len" = none) (z_all : mg "all" = none) (z_range : mg "range" = none) :
    FnOk P w K mg base CX0 (k + 1) f fd ["actual", "due"] (spS (k + 1)) := by
  refine D_same.F.ok sc_same (fun vs H Q E h => ?_) (fun cdv A outer s H vs Q E hr h => ?_)
  · obtain ⟨n, x, y, _, rfl, _⟩ := h
    rfl
  obtain ⟨n, x, y, hk, rfl, he, q⟩ := h
  obtain rfl : k = n := by omega
  refine ⟨_, (pss_cons (ps_if (pt_val (pe_callB call_isiT (by rfl) z_isinstance boot_isinstance (pa_cons (pv 1) (pa_cons (pe_tup (pa_cons (pe_bltn (v := .ty "list") (by rfl) z_list boot_list rfl) (pa_cons (pe_bltn (v := .ty "tuple") (by rfl) z_tuple boot_tuple rfl) pa_nil))) pa_nil)))) (pss_cons (ps_if (PW.pt (pw_or (pt_cmpR op_ne (pe_callB call_isi (by rfl) z_isinstance boot_isinstance (pa_cons (pv 1) (pa_cons (pe_bltn (v := .ty "list") (by rfl) z_list boot_list rfl) pa_nil))) (pe_callB call_isi (by rfl) z_isinstance boot_isinstance (pa_cons (pv 0) (pa_cons (pe_bltn (v := .ty "list") (by rfl) z_list boot_list rfl) pa_nil))) (nomark _)) (pw_or1 (pt_cmpR op_ne (pe_callB call_isi (by rfl) z_isinstance boot_isinstance (pa_cons (pv 1) (pa_cons (pe_bltn (v := .ty "tuple") (by rfl) z_tuple boot_tuple rfl) pa_nil))) (pe_callB call_isi (by rfl) z_isinstance boot_isinstance (pa_cons (pv 0) (pa_cons (pe_bltn (v := .ty "tuple") (by rfl) z_tuple boot_tuple rfl) pa_nil))) (nomark _))))) (pss_one (ps_ret pe_bl)) pss_nil) (pss_cons (ps_if (pt_cmpR op_ne (pe_callB call_len_seq (by rfl) z_len boot_len (pa_cons (pv 0) pa_nil)) (pe_callB call_len_seq (by rfl) z_len boot_len (pa_cons (pv 1) pa_nil)) (nomark _)) (pss_one (ps_ret pe_bl)) pss_nil) (pss_one (ps_ret (pe_callB (cr_all rfl) (by rfl) z_all boot_all (pa_cons (pe_lc (own := [("k", 2)]) (g := gName 2) (tt := tYes) (by rfl) sc_same.nd (pi_range1 (by rfl) z_range (pa_cons (pe_callB call_len_seq (by rfl) z_len boot_len (pa_cons (pv 1) pa_nil)) pa_nil)) (blkOk_by (own := [("k", 2)]) (N := n_same) (sc := defScope s_same) (by decide +kernel)) (fun _ _ _ _ _ => (pg_name (i := 2) sc_same.nd rfl (by first | exact Or.inl rfl | exact Or.inr rfl))) (fun _ _ _ _ _ => pts_nil) (fun _ _ _ _ _ => (pe_call G_same (hr.mono (by omega)) (by rfl) D_same.m D_same.F.kp D_same.b .nil pass0 (pa_cons (pe_ix (r := rIx K) ix_seq (pv 0) (pv 2) (fun _ _ => rfl)) (pa_cons (pe_ix (r := rIx K) ix_seq (pv 1) (pv 2) (fun _ _ => rfl)) pa_nil))))) pa_nil)))))) pss_nil) (pss_cons (ps_if (pt_cmpR op_isN (pv 1) pe_non (nomark _)) (pss_one (ps_ret (pe_cmpR op_isN (pv 0) pe_non (nomark _)))) pss_nil) (pss_cons (ps_if (pt_cmpR op_ne (pe_callB call_isi (by rfl) z_isinstance boot_isinstance (pa_cons (pv 1) (pa_cons (pe_bltn (v := .ty "bool") (by rfl) z_bool boot_bool rfl) pa_nil))) (pe_callB call_isi (by rfl) z_isinstance boot_isinstance (pa_cons (pv 0) (pa_cons (pe_bltn (v := .ty "bool") (by rfl) z_bool boot_bool rfl) pa_nil))) (nomark _)) (pss_one (ps_ret pe_bl)) pss_nil) (pss_cons (ps_if (pt_val (pe_callB call_isi (by rfl) z_isinstance boot_isinstance (pa_cons (pv 1) (pa_cons (pe_bltn (v := .ty "str") (by rfl) z_str boot_str rfl) pa_nil)))) (pss_one (ps_ret (pe_and (pe_callB call_isi (by rfl) z_isinstance boot_isinstance (pa_cons (pv 0) (pa_cons (pe_bltn (v := .ty "str") (by rfl) z_str boot_str rfl) pa_nil))) (pe_one (pe_cmpR op_eq (pv 0) (pv 1) (nomark _)))))) pss_nil) (pss_one (ps_ret (pe_and (pe_callB call_isi (by rfl) z_isinstance boot_isinstance (pa_cons (pv 0) (pa_cons (pe_bltn (v := .ty "int") (by rfl) z_int boot_int rfl) pa_nil))) (pe_one (pe_cmpR op_eq (pv 0) (pv 1) (nomark _)))))))))), ?_⟩
  have two : (2 : Nat) ≤ sizeLine := by decide
  have cls2 : Paired ClsV [V.ty "list", V.ty "tuple"] [Value.type "list", Value.type "tuple"] := .cons (.ty "list") (.cons (.ty "tuple") .nil)
  have he' : Eq0 x y ∨ ∃ (k' : Nat) (t : Bool) (a b : Addr) (xs ys : List V), k = k' + 1 ∧ x = .ref a ∧ y = .ref b ∧ SeqH H t a xs ∧ SeqH H t b ys ∧ xs.length = ys.length ∧ ys.length ≤ 1000 ∧ ∀ (i : Nat) u v, xs[i]? = some u → ys[i]? = some v → Eq2 H k' u v := by
    cases k with
    | zero => exact .inl he
    | succ k =>
      rcases he with h | ⟨t, a, b, xs, ys, h⟩
      · exact .inl h
      · exact .inr ⟨k, t, a, b, xs, ys, rfl, h⟩
  rcases he' with (⟨i, rfl, rfl⟩ | ⟨z, rfl, rfl⟩ | ⟨rfl, rfl⟩) | ⟨k', t, a, b, xs, ys, rfl, rfl, rfl, h1, h2, h3, h4, h5⟩
  · refine ⟨_, rfl, two, fun tp np => ⟨_, tp, _, _, _, false, rfl, upd_same, cls2, .base (.int i), kit_no K "int" (by decide +kernel) (by decide +kernel), _, rfl, iteF ?_⟩⟩
    refine ⟨_, rfl, rfl, _, rfl, ite2 (fun e => nomatch of_decide_eq_true e) (fun _ => ?_)⟩
    refine ⟨_, rfl, _, _, _, _, false, rfl, .ty "bool", .base (.int i), kit_ty (by decide +kernel), _, rfl, _, _, _, _, false, rfl, .ty "bool", .base (.int i), kit_ty (by decide +kernel), rfl, _, rfl, iteNS rfl ?_⟩
    refine ⟨_, rfl, _, _, _, _, false, rfl, .ty "str", .base (.int i), kit_ty (by decide +kernel), _, rfl, iteF ?_⟩
    refine ⟨_, rfl, _, _, _, _, true, rfl, .ty "int", .base (.int i), kit_ty (by decide +kernel), _, rfl, iteT ⟨_, rfl, _, rfl, rfl, ?_⟩⟩
    rw [decide_eq_true rfl]
    exact q _ (same_new np _)
  · refine ⟨_, rfl, two, fun tp np => ⟨_, tp, _, _, _, false, rfl, upd_same, cls2, .base (.str z), kit_no K "str" (by decide +kernel) (by decide +kernel), _, rfl, iteF ?_⟩⟩
    refine ⟨_, rfl, rfl, _, rfl, ite2 (fun e => nomatch of_decide_eq_true e) (fun _ => ?_)⟩
    refine ⟨_, rfl, _, _, _, _, false, rfl, .ty "bool", .base (.str z), kit_ty (by decide +kernel), _, rfl, _, _, _, _, false, rfl, .ty "bool", .base (.str z), kit_ty (by decide +kernel), rfl, _, rfl, iteNS rfl ?_⟩
    refine ⟨_, rfl, _, _, _, _, true, rfl, .ty "str", .base (.str z), kit_ty (by decide +kernel), _, rfl, iteT ?_⟩
    refine ⟨_, rfl, _, _, _, _, true, rfl, .ty "str", .base (.str z), kit_ty (by decide +kernel), _, rfl, iteT ⟨_, rfl, _, rfl, rfl, ?_⟩⟩
    rw [decide_eq_true rfl]
    exact q _ (same_new np _)
  · refine ⟨_, rfl, two, fun tp np => ⟨_, tp, _, _, _, false, rfl, upd_same, cls2, .base .non, kit_no K "NoneType" (by decide +kernel) (by decide +kernel), _, rfl, iteF ?_⟩⟩
    refine ⟨_, rfl, rfl, _, rfl, ite2 (fun e => ?_) (fun e => absurd (decide_eq_true rfl) e)⟩
    refine ⟨_, rfl, rfl, ?_⟩
    rw [decide_eq_true rfl]
    exact q _ (same_new np _)
  · refine ⟨_, rfl, two, fun tp np => ?_⟩
    have s1 := same_new np (.tup [V.ty "list", V.ty "tuple"])
    have h1' : SeqH _ t a xs := s1 _ _ h1
    have h2' : SeqH _ t b ys := s1 _ _ h2
    refine ⟨_, tp, _, _, _, true, rfl, upd_same, cls2, seq_ty h2', kit_seq K t, _, rfl, iteT ?_⟩
    refine ⟨_, rfl, _, _, _, _, _, rfl, .ty "list", seq_ty h2', kit_l K t, _, rfl, _, _, _, _, _, rfl, .ty "list", seq_ty h1', kit_l K t, rfl, _, rfl, iteNS rfl ?_⟩
    refine ⟨_, rfl, _, _, _, _, _, rfl, .ty "tuple", seq_ty h2', kit_t K t, _, rfl, _, _, _, _, _, rfl, .ty "tuple", seq_ty h1', kit_t K t, rfl, _, rfl, iteNS rfl ?_⟩
    refine ⟨_, rfl, a, _, rfl, seq_or h1', _, rfl, b, _, rfl, seq_or h2', rfl, _, rfl, iteNS (congrArg (fun n : Nat => V.int (n : Int)) h3) ?_⟩
    refine ⟨_, rfl, b, _, rfl, seq_or h2', _, rfl, by omega, by omega, fun Dl nD => ?_⟩
    refine lc_range (lo := 0) (n := ys.length) (fun i H' => H' Dl = some (.lst ((List.replicate i true).map V.bl)) ∧ Same (upd H tp (.tup [V.ty "list", V.ty "tuple"])) H') ⟨upd_same, same_new nD _⟩ (fun i H' hi hP => ?_) (fun H' hP => ?_)
    · obtain ⟨p1, p2⟩ := hP
      obtain ⟨u, hu⟩ : ∃ u, xs[i]? = some u := ⟨_, List.getElem?_eq_getElem (by omega)⟩
      obtain ⟨v, hv⟩ : ∃ v, ys[i]? = some v := ⟨_, List.getElem?_eq_getElem hi⟩
      refine ⟨rfl, ?_⟩
      refine ⟨_, rfl, _, rfl, rix_of (p2 _ _ h1') (Int.zero_add _) hu ⟨_, rfl, _, rfl, rix_of (p2 _ _ h2') (Int.zero_add _) hv ?_⟩⟩
      refine ⟨k', u, v, rfl, rfl, ((h5 i u v hu hv).mono s1).mono p2, fun H4 s4 => ?_⟩
      refine ⟨_, s4 _ _ p1, small1000 (by rw [List.length_map, List.length_replicate]; omega), ?_, fun b o eb => ?_⟩
      · rw [upd_same, List.replicate_succ', List.map_append]
        rfl
      · rw [upd_ne (ne_of_none eb nD)]
        exact s4 _ _ (p2 _ _ eb)
    · obtain ⟨p1, p2⟩ := hP
      refine ⟨Dl, List.replicate ys.length true, rfl, .of p1, ?_⟩
      have e : (List.replicate ys.length true).all id = true := by simp
      rw [e]
      exact q _ (fun b o eb => p2 _ _ (s1 _ _ eb))
theorem ok_same {f : Addr} {fd : FuncData} (D_same : DefAt K mg "_law_same" s_same ["actual", "due"] f fd)
    (z_isinstance : mg "isinstance" = none) (z_list : mg "list" = none) (z_tuple : mg "tuple" = none) (z_bool : mg "bool" = none) (z_str : mg "str" = none) (z_int : mg "int" = none) (z_len : mg "len" = none) (z_all : mg "all" = none) (z_range : mg "range" = none) :
    ∀ k : Nat, FnOk P w K mg base CX0 k f fd ["actual", "due"] (spS k)
  | 0 => same0
  | k + 1 => ok_same1 D_same (ok_same D_same z_isinstance z_list z_tuple z_bool z_str z_int z_len z_all z_range k) z_isinstance z_list z_tuple z_bool z_str z_int z_len z_all z_range
theorem ok_draw {f : Addr} {fd : FuncData} (D : DefAt K mg "_law_draw" s_draw ["script"] f fd) (z_list : mg "list" = none) : FnOk P w K mg base CX0 1 f fd ["script"] (spDraw K) := by
  refine D.F.ok sc_draw (fun vs H Q E h => ?_) (fun cdv A outer s H vs Q E hr h => ?_)
  · obtain ⟨a, ns, rfl, _⟩ := h
    rfl
  obtain ⟨a, ns, rfl, hS, h63, q⟩ := h
  refine ⟨_, (pss_one (ps_ret (pe_lst (pa_cons (pe_callTy call_list_of (by rfl) z_list boot_list (pa_cons (pv 0) pa_nil)) (pa_cons pe_int (pa_cons pe_int (pa_cons pe_int pa_nil))))))), ?_⟩
  refine ⟨_, rfl, a, _, rfl, .inl hS, fun l nl => ⟨(by show 4 ≤ sizeLine; decide), fun d nd => ?_⟩⟩
  have nld : l ≠ d := fun e => by rw [e] at nd; rw [upd_same] at nd; cases nd
  refine q d l _ ?_ ⟨ns, 0, 0, 17, upd_same, by rw [upd_ne nld]; exact upd_same, nld, by decide, by decide, by decide⟩ fun b o eb => ?_
  · cases e : H d with
    | none => rfl
    | some o =>
      rw [upd_ne nld.symm, e] at nd
      cases nd
  · have h1 : b ≠ l := ne_of_none eb nl
    rw [upd_ne (ne_of_none (by rw [upd_ne h1]; exact eb) nd), upd_ne h1]
    exact eb
end
end Tf
set_option maxHeartbeats 8000000
namespace Tf
open PySem PySem.Spec PyProof.Rows L2 TL
abbrev s_inputs_of : Stmt := (topS 2)
abbrev n_inputs_of : List Str := ["plan"]
theorem sc_inputs_of : FnScope n_inputs_of ["plan"] (defScope s_inputs_of) := ⟨rfl, rfl, rfl, by decide +kernel, rfl, by decide +kernel, by decide +kernel⟩
abbrev s_with_levels : Stmt := (topS 3)
abbrev n_with_levels : List Str := ["plan", "found", "waiting", "below", "inner", "level"]
theorem sc_with_levels : FnScope n_with_levels ["plan"] (defScope s_with_levels) := ⟨rfl, rfl, rfl, by decide +kernel, rfl, by decide +kernel, by decide +kernel⟩
abbrev s_sources : Stmt := (topS 5)
abbrev n_sources : List Str := ["plan", "inner", "_"]
theorem sc_sources : FnScope n_sources ["plan"] (defScope s_sources) := ⟨rfl, rfl, rfl, by decide +kernel, rfl, by decide +kernel, by decide +kernel⟩
section
variable {P : Program} {w : World} {K : PySem.W.Frag} {mg : Str → Option Value} {base : Heap}
theorem in_strs (s : Str) (xs : List Str) : inV (.str s) (xs.map V.str) = decide (s ∈ xs) := by
  unfold inV
  rw [Bool.eq_iff_iff, List.any_eq_true, decide_eq_true_iff]
  constructor
  · rintro ⟨y, hy, e⟩
    obtain ⟨z, hz, rfl⟩ := List.mem_map.mp hy
    have : (z == s) = true := e
    rw [beq_iff_eq] at this
    rw [← this]; exact hz
  · intro h
    exact ⟨.str s, List.mem_map_of_mem h, (show (s == s) = true from beq_self_eq_true s)⟩
theorem cut_tail {h : V} {mid vs : List V} {n : Nat} (hn : vs.length = n) (hp : 0 < n) : cutV (h :: (mid ++ vs)) (some (-(n : Int))) none = vs ∧ ¬ (HT.sIx (h :: (mid ++ vs)).length 0 (some (-(n : Int))) = 0 ∧ HT.sIx (h :: (mid ++ vs)).length (h :: (mid ++ vs)).length none = (h :: (mid ++ vs)).length) := by
  have el : (h :: (mid ++ vs)).length = mid.length + 1 + n := by rw [List.length_cons, List.length_append, hn]; omega
  have e1 : HT.sIx (h :: (mid ++ vs)).length 0 (some (-(n : Int))) = mid.length + 1 := by
    show (if (-(n : Int)) < 0 then ((-(n : Int)) + ((h :: (mid ++ vs)).length : Int)).toNat else _) = _
    rw [if_pos (by omega), el]
    omega
  refine ⟨?_, fun z => by rw [e1] at z; omega⟩
  unfold cutV
  rw [e1, HT.sIx_none, el]
  show List.take (mid.length + 1 + n - (mid.length + 1)) (List.drop mid.length (mid ++ vs)) = vs
  rw [List.drop_left, show mid.length + 1 + n - (mid.length + 1) = n by omega, ← hn, List.take_length]
theorem ok_inputs_of {f aP : Addr} {fd : FuncData} (D : DefAt K mg "inputs_of" s_inputs_of ["plan"] f fd) (g_PAIRS : mg "PAIRS" = some (.ref aP)) (hP : ∀ H, SqT K H aP (pairS.map V.str)) : FnOk P w K mg base CX0 1 f fd ["plan"] spInputs := by
  refine D.F.ok sc_inputs_of (fun vs H Q E h => ?_) (fun cdv A outer s H vs Q E hr h => ?_)
  · obtain ⟨v, p, rfl, _⟩ := h
    rfl
  obtain ⟨v, p, rfl, hp, q⟩ := h
  obtain ⟨a, mid, vs, rfl, ha, hi, hm, h0, h1, h2, h3⟩ := hp.view
  have hl := hi.len
  refine ⟨_, (pss_cons (ps_if (pt_cmpR op_eq (pe_ix ix_tup (pv 0) pe_int (fun _ _ => rfl)) pe_str (nomark _)) (pss_one (ps_ret (pe_tup pa_nil))) pss_nil) (pss_cons (ps_if (pt_cmpR op_in_seq (pe_ix ix_tup (pv 0) pe_int (fun _ _ => rfl)) (gl_ref (by rfl) g_PAIRS) rfl) (pss_one (ps_ret (pe_slice sl_tup (pv 0) (po_some (pe_un un_neg pe_int)) po_none))) pss_nil) (pss_one (ps_ret (pe_slice sl_tup (pv 0) (po_some (pe_un un_neg pe_int)) po_none))))), ?_⟩
  -- plan[0] == 'source'
  refine ⟨_, rfl, a, _, _, _, rfl, rfl, .of ha, atI_nat (j := 0) rfl, rfl, _, rfl, ite2 (fun e => ?_) (fun e => ?_)⟩
  · have e' : p.head = "source" := V.str.inj (of_decide_eq_true e)
    have hn : p.ins = [] := by
      cases z : p.ins with
      | nil => rfl
      | cons x r => exact absurd e' (h1 (by rw [z]; exact List.cons_ne_nil _ _))
    rw [hn] at hi
    refine ⟨Nat.zero_le _, fun t nt => q t [] nt (by rw [hn]; trivial)⟩
  · have hn : p.ins ≠ [] := fun z => by
      obtain ⟨n, _, _, hh⟩ := h0 z
      exact e (decide_eq_true (congrArg V.str hh))
    -- plan[0] in PAIRS
    refine ⟨_, rfl, a, _, _, _, rfl, rfl, .of ha, atI_nat (j := 0) rfl, aP, _, rfl, .inr (hP _), rfl, rfl, _, rfl, ?_⟩
    have ein : (if false = true then !inV (.str p.head) (pairS.map V.str) else inV (.str p.head) (pairS.map V.str)) = decide (p.head ∈ pairS) := by
      rw [if_neg Bool.false_ne_true, in_strs]
    rw [ein]
    refine ite2 (fun e2 => ?_) (fun e2 => ?_)
    · have l2 : vs.length = 2 := by rw [← hl]; exact h2.mpr (of_decide_eq_true e2)
      obtain ⟨c1, c2⟩ := cut_tail (h := .str p.head) (mid := mid) l2 (by decide)
      refine ⟨_, rfl, _, rfl, _, rfl, a, _, rfl, .of ha, c2, fun t nt => ?_⟩
      have c1' : cutV (V.str p.head :: (mid ++ vs)) (some (-2)) none = vs := c1
      rw [c1']
      exact q t vs nt hi
    · have l1 : vs.length = 1 := by
        have z0 : p.ins.length ≠ 0 := fun z => hn (List.length_eq_zero_iff.mp z)
        have z2 : p.ins.length ≠ 2 := fun z => e2 (decide_eq_true (h2.mp z))
        omega
      obtain ⟨c1, c2⟩ := cut_tail (h := .str p.head) (mid := mid) l1 (by decide)
      refine ⟨_, rfl, _, rfl, _, rfl, a, _, rfl, .of ha, c2, fun t nt => ?_⟩
      have c1' : cutV (V.str p.head :: (mid ++ vs)) (some (-1)) none = vs := c1
      rw [c1']
      exact q t vs nt hi
end
end Tf
set_option maxHeartbeats 8000000
namespace Tf
open PySem PySem.Spec PyProof.Rows L2 TL
theorem same_mut {H H1 : Hp} {p : Addr} {o : HO} (k : Same H H1) (n : H p = none) : Same H (upd H1 p o) := fun b u e => by
  rw [upd_ne (ne_of_none e n)]
  exact k b u e
theorem stack_len : ∀ ws : List (Pl × Nat), ws.length ≤ (stackL ws).length
  | [] => Nat.le_refl _
  | q :: ws => by
    have e : stackL (q :: ws) = stackL [q] ++ stackL ws := stackL_app [q] ws
    rw [e, stackL_one, List.length_append, List.length_cons, List.length_cons]
    have := stack_len ws
    omega
section
variable {P : Program} {w : World} {K : PySem.W.Frag} {mg : Str → Option Value} {base : Heap}
theorem ok_with_levels {f fi : Addr} {fd fid : FuncData} (D : DefAt K mg "with_levels" s_with_levels ["plan"] f fd) (D_inputs_of : DefAt K mg "inputs_of" s_inputs_of ["plan"] fi fid) (G_inputs_of : FnOk P w K mg base CX0 1 fi fid ["plan"] spInputs) :
    FnOk P w K mg base CX0 2 f fd ["plan"] spLevels := by
  refine D.F.ok sc_with_levels (fun vs H Q E h => ?_) (fun cdv A outer s H vs Q E hr h => ?_)
  · obtain ⟨v, p, rfl, _⟩ := h
    rfl
  obtain ⟨v, p, rfl, hp, hsz, q⟩ := h
  have two : (2 : Nat) ≤ sizeLine := by decide
  have one : (1 : Nat) ≤ sizeLine := by decide
  refine ⟨_, (pss_cons (ps_set (i := 1) sc_with_levels.nd rfl (by first | exact Or.inl rfl | exact Or.inr rfl) (pe_lst pa_nil)) (pss_cons (ps_set (i := 2) sc_with_levels.nd rfl (by first | exact Or.inl rfl | exact Or.inr rfl) (pe_lst (pa_cons (pe_tup (pa_cons (pv 0) (pa_cons pe_int pa_nil))) pa_nil))) (pss_cons (ps_while PassesOwn.never (pt_truth (pv 2) (by intro _; rfl)) (pss_cons (ps_asg (pe_bm0 PySem.F.plainAttrs_list PySem.F.slot_list_pop PySem.F.type_list_pop mt_pop (pv 2)) (pg_tup (by rfl) (pgs_cons (pg_name (i := 4) sc_with_levels.nd rfl (by first | exact Or.inl rfl | exact Or.inr rfl)) (pgs_cons (pg_name (i := 5) sc_with_levels.nd rfl (by first | exact Or.inl rfl | exact Or.inr rfl)) pgs_nil)))) (pss_cons (ps_expr (pe_bm PySem.F.plainAttrs_list PySem.F.slot_list_append PySem.F.type_list_append mt_append (pv 1) (pa_cons (pe_tup (pa_cons (pv 4) (pa_cons (pv 5) pa_nil))) pa_nil))) (pss_one (ps_for PassesOwn.never rfl (pi_tup (pe_call G_inputs_of (hr.mono (by omega)) (by rfl) D_inputs_of.m D_inputs_of.F.kp D_inputs_of.b .nil pass0 (pa_cons (pv 4) pa_nil))) (pg_name (i := 3) sc_with_levels.nd rfl (by first | exact Or.inl rfl | exact Or.inr rfl)) (pss_one (ps_expr (pe_bm PySem.F.plainAttrs_list PySem.F.slot_list_append PySem.F.type_list_append mt_append (pv 2) (pa_cons (pe_tup (pa_cons (pv 3) (pa_cons (pe_op op_add (pv 5) pe_int) pa_nil))) pa_nil))))))))) (pss_one (ps_ret (pv 1)))))), ?_⟩
  refine ⟨Nat.zero_le _, fun F nF => ?_⟩
  refine ⟨_, rfl, two, fun t nt => ⟨one, fun W nW => ?_⟩⟩
  have tF : F ≠ t := ne_of_none upd_same nt
  have WF : F ≠ W := ne_of_none (show (upd (upd H F (.lst [])) t (.tup [v, .int 1])) F = some (.lst []) by rw [upd_ne tF]; exact upd_same) nW
  have tW : t ≠ W := ne_of_none upd_same nW
  have sF := same_new nF (.lst [])
  have st := sF.trans (same_new nt (.tup [v, .int 1]))
  have sW := st.trans (same_new nW (.lst [.ref t]))
  refine ⟨fun m σ H' => ∃ (ps ws : List (Pl × Nat)) (xs us : List V) (y3 y4 y5 : Option V), σ = [some v, some (.ref F), some (.ref W), y3, y4, y5] ∧ H' F = some (.lst xs) ∧ FL H' xs ps ∧ H' W = some (.lst us) ∧ FL H' us ws ∧
    (ps ++ stackL ws).Perm (subs 1 p) ∧ m = (stackL ws).length ∧ Same H H', ⟨_, [], [(p, 1)], [], [.ref t], none, none, none, rfl, ?_, trivial, upd_same, ⟨⟨t, v, rfl, ?_, hp.mono (.same sW)⟩, trivial⟩, ?_, rfl, sW⟩, fun m σ H' hW => ?_⟩
  · rw [upd_ne WF, upd_ne tF]
    exact upd_same
  · rw [upd_ne tW]
    exact upd_same
  · rw [stackL_one, List.nil_append, subs_eq]
    unfold stackL
    rw [List.map_map]
    exact List.Perm.refl _
  obtain ⟨ps, ws, xs, us, y3, y4, y5, rfl, hF, hps, hWu, hws, hperm, rfl, hs⟩ := hW
  have htot : ps.length + (stackL ws).length = p.size := by
    have e := hperm.length_eq
    rw [List.length_append, subs_len] at e
    exact e
  have hwl := stack_len ws
  have ul := hws.len
  have xl := hps.len
  -- while waiting
  refine ⟨_, rfl, _, .inl ⟨us, .of hWu, rfl⟩, ?_⟩
  by_cases hw0 : ws = []
  · subst hw0
    have hu : us = [] := List.length_eq_zero_iff.mp ul
    subst hu
    refine iteF ?_
    refine ⟨_, rfl, ?_⟩
    refine q F xs ps H' hs nF hF hps ?_
    have : stackL [] = [] := rfl
    rw [this, List.append_nil] at hperm
    exact hperm
  obtain ⟨q0, t0, v0, e1, e2, e3, e4, e5⟩ := hws.last hw0
  have hne : (!us.isEmpty) = true := by
    cases us with
    | nil => rw [List.length_nil] at ul; exact absurd (List.length_eq_zero_iff.mp ul.symm) hw0
    | cons a r => rfl
  rw [hne]
  refine iteT ?_
  refine ⟨fun σ' H2 => ∃ (ps' ws' : List (Pl × Nat)) (xs us : List V) (y3 y4 y5 : Option V), (stackL ws').length < (stackL ws).length ∧ σ' = [some v, some (.ref F), some (.ref W), y3, y4, y5] ∧ H2 F = some (.lst xs) ∧ FL H2 xs ps' ∧ H2 W = some (.lst us) ∧ FL H2 us ws' ∧
    (ps' ++ stackL ws').Perm (subs 1 p) ∧ Same H H2, fun σ' H2 hN => ?_, ?_⟩
  · obtain ⟨ps', ws', xs', us', z3, z4, z5, b0, rfl, b1, b2, b3, b4, b5, b6⟩ := hN
    exact ⟨_, b0, ps', ws', xs', us', z3, z4, z5, rfl, b1, b2, b3, b4, b5, rfl, b6⟩
  have nW0 : H W = none := by
    cases z : H W with
    | none => rfl
    | some o => rw [st W o z] at nW; cases nW
  -- inner, level = waiting.pop()
  have kp : TupUp H' (upd H' W (.lst us.dropLast)) := TupUp.lst hWu
  refine ⟨_, rfl, .inl ⟨rfl, _, .of hWu⟩, W, us, _, rfl, rfl, hWu, e2, t0, _, rfl, .of (kp _ _ e3), rfl, _, _, rfl, _, _, rfl, rfl, ?_⟩
  have hF1 : (upd H' W (.lst us.dropLast)) F = some (.lst xs) := by rw [upd_ne WF]; exact hF
  -- found.append((inner, level))
  refine ⟨_, rfl, .inl ⟨rfl, _, .of hF1⟩, _, rfl, _, rfl, two, fun t1 nt1 => ?_⟩
  have n1F : F ≠ t1 := ne_of_none hF1 nt1
  have n1W : W ≠ t1 := ne_of_none upd_same nt1
  refine ⟨F, xs, _, rfl, rfl, by rw [upd_ne n1F]; exact hF1, small1000 (by omega), ?_⟩
  have h2 : ∀ {H2 : Hp}, upd (upd H' W (.lst us.dropLast)) t1 (.tup [v0, .int (q0.2 : Int)]) = H2 → TupUp H' H2 := fun e => e ▸ kp.trans (TupUp.new nt1)
  have k3 : TupUp H' (upd (upd (upd H' W (.lst us.dropLast)) t1 (.tup [v0, .int (q0.2 : Int)])) F (.lst (xs ++ [.ref t1]))) := (h2 rfl).trans (TupUp.lst (xs := xs) (by rw [upd_ne n1F]; exact hF1))
  have s3 : Same H (upd (upd (upd H' W (.lst us.dropLast)) t1 (.tup [v0, .int (q0.2 : Int)])) F (.lst (xs ++ [.ref t1]))) := same_mut ((same_mut hs nW0).trans (same_new nt1 _)) nF
  have f3 : (upd (upd (upd H' W (.lst us.dropLast)) t1 (.tup [v0, .int (q0.2 : Int)])) F (.lst (xs ++ [.ref t1]))) W = some (.lst us.dropLast) := by
    rw [upd_ne WF.symm, upd_ne n1W]
    exact upd_same
  have g3 : (upd (upd (upd H' W (.lst us.dropLast)) t1 (.tup [v0, .int (q0.2 : Int)])) F (.lst (xs ++ [.ref t1]))) t1 = some (.tup [v0, .int (q0.2 : Int)]) := by
    rw [upd_ne n1F.symm]
    exact upd_same
  have f4 : (upd (upd (upd H' W (.lst us.dropLast)) t1 (.tup [v0, .int (q0.2 : Int)])) F (.lst (xs ++ [.ref t1]))) F = some (.lst (xs ++ [.ref t1])) := upd_same
  generalize upd (upd (upd H' W (.lst us.dropLast)) t1 (.tup [v0, .int (q0.2 : Int)])) F (.lst (xs ++ [.ref t1])) = H3 at k3 s3 f3 f4 g3
  -- for below in inputs_of(inner)
  refine ⟨_, rfl, v0, q0.1, rfl, e4.mono k3, fun ti is nti hins => ?_⟩
  have niF : F ≠ ti := ne_of_none f4 nti
  have niW : W ≠ ti := ne_of_none f3 nti
  have k4 : TupUp H3 (upd H3 ti (.tup is)) := TupUp.new nti
  refine ⟨ti, rfl, ⟨_, .of upd_same⟩, for_tup (xs := is) (fun i σ H4 => ∃ (us' : List V) (y : Option V), σ = [some v, some (.ref F), some (.ref W), y, some v0, some (.int (q0.2 : Int))] ∧ H4 ti = some (.tup is) ∧ H4 F = some (.lst (xs ++ [.ref t1])) ∧ FL H4 (xs ++ [.ref t1]) (ps ++ [q0]) ∧
    H4 W = some (.lst us') ∧ FL H4 us' (ws.dropLast ++ (q0.1.ins.take i).map fun x => (x, q0.2 + 1)) ∧ InsAt H4 q0.1.ins is ∧ Same H H4) ?_ (fun i σ H4 _ hP => ?_) (fun i x σ H4 hx hP => ?_) (fun σ H4 hP => ?_)⟩
  · refine ⟨us.dropLast, _, rfl, upd_same, by rw [upd_ne niF]; exact f4, ?_, by rw [upd_ne niW]; exact f3, ?_, hins.mono k4, s3.trans (same_new nti _)⟩
    · exact FL.snoc (k4 _ _ g3) ((e4.mono k3).mono k4) ((hps.mono k3).mono k4)
    · rw [List.take_zero, List.map_nil, List.append_nil]
      exact (e5.mono k3).mono k4
  · obtain ⟨us', y, _, h, _⟩ := hP
    exact .of h
  · obtain ⟨us', y, rfl, b1, b2, b3, b4, b5, b6, b7⟩ := hP
    obtain ⟨px, hpx, hpl⟩ := b6.get hx
    have hil := b6.len
    have hi : i < q0.1.ins.length := (List.getElem?_eq_some_iff.mp hpx).1
    have ul' := b5.len
    have hi2 : q0.1.ins.length ≤ 2 := by
      obtain ⟨_, _, _, _, _, _, _, _, _, _, z⟩ := e4.view
      exact z
    have wl : ws.dropLast.length + 1 = ws.length := by
      rw [List.length_dropLast]
      have : 0 < ws.length := List.length_pos_iff.mpr hw0
      omega
    refine ⟨_, rfl, .inl ⟨rfl, _, .of b4⟩, _, rfl, _, rfl, _, _, rfl, rfl, two, fun t2 nt2 => ?_⟩
    have m1 : W ≠ t2 := ne_of_none b4 nt2
    have m2 : F ≠ t2 := ne_of_none b2 nt2
    have m3 : ti ≠ t2 := ne_of_none b1 nt2
    have mW : ti ≠ W := niW.symm
    refine ⟨W, us', _, rfl, rfl, by rw [upd_ne m1]; exact b4, small1000 ?_, ?_⟩
    · rw [ul', List.length_append, List.length_map, List.length_take]
      omega
    have k5 : TupUp H4 (upd (upd H4 t2 (.tup [x, .int ((q0.2 : Int) + 1)])) W (.lst (us' ++ [.ref t2]))) := (TupUp.new nt2).trans (TupUp.lst (xs := us') (by rw [upd_ne m1]; exact b4))
    refine ⟨us' ++ [.ref t2], _, rfl, k5 _ _ b1, by rw [upd_ne WF, upd_ne m2]; exact b2, b3.mono k5, upd_same, ?_, b6.mono k5, same_mut (b7.trans (same_new nt2 _)) nW0⟩
    have et : (q0.1.ins.take (i + 1)).map (fun x => (x, q0.2 + 1)) = (q0.1.ins.take i).map (fun x => (x, q0.2 + 1)) ++ [(px, q0.2 + 1)] := by
      rw [List.take_add_one, hpx, List.map_append]
      rfl
    rw [et, ← List.append_assoc]
    refine FL.snoc (v := x) ?_ (hpl.mono k5) (b5.mono k5)
    rw [upd_ne m1.symm]
    exact upd_same
  · obtain ⟨us', y, rfl, b1, b2, b3, b4, b5, b6, b7⟩ := hP
    have hil := b6.len
    rw [← hil, List.take_length] at b5
    have est : stackL ws = stackL ws.dropLast ++ (q0 :: stackL (q0.1.ins.map fun x => (x, q0.2 + 1))) := by
      rw [← stackL_one, ← stackL_app, ← e1]
    refine ⟨ps ++ [q0], ws.dropLast ++ q0.1.ins.map (fun x => (x, q0.2 + 1)), xs ++ [.ref t1], us', _, _, _, ?_, rfl, b2, b3, b4, b5, ?_, b7⟩
    · rw [est, stackL_app, List.length_append, List.length_append, List.length_cons]
      omega
    · rw [stackL_app]
      refine List.Perm.trans ?_ hperm
      rw [est, List.append_assoc]
      refine List.Perm.append_left ps ?_
      show (q0 :: (stackL ws.dropLast ++ stackL (q0.1.ins.map fun x => (x, q0.2 + 1)))).Perm _
      exact List.perm_middle.symm
end
end Tf
set_option maxHeartbeats 8000000
namespace Tf
open PySem PySem.Spec PyProof.Rows L2 TL
abbrev s_stage : Stmt := (topS 10)
abbrev n_stage : List Str := ["draw", "form", "comparison", "names", "name"]
theorem sc_stage : FnScope n_stage ["draw"] (defScope s_stage) := ⟨rfl, rfl, rfl, by decide +kernel, rfl, by decide +kernel, by decide +kernel⟩
abbrev s_aggregate : Stmt := (topS 12)
abbrev n_aggregate : List Str := ["draw"]
theorem sc_aggregate : FnScope n_aggregate ["draw"] (defScope s_aggregate) := ⟨rfl, rfl, rfl, by decide +kernel, rfl, by decide +kernel, by decide +kernel⟩
abbrev s_span : Stmt := (topS 13)
abbrev n_span : List Str := ["draw", "slide"]
theorem sc_span : FnScope n_span ["draw"] (defScope s_span) := ⟨rfl, rfl, rfl, by decide +kernel, rfl, by decide +kernel, by decide +kernel⟩
abbrev s_tree : Stmt := (topS 14)
abbrev n_tree : List Str := ["draw", "size", "form", "half", "left", "right", "combination", "size_of", "slide"]
theorem sc_tree : FnScope n_tree ["draw", "size"] (defScope s_tree) := ⟨rfl, rfl, rfl, by decide +kernel, rfl, by decide +kernel, by decide +kernel⟩
section
variable {P : Program} {w : World} {K : PySem.W.Frag} {mg : Str → Option Value} {base : Heap}
theorem ok_aggregate {f fn : Addr} {fd fnd : FuncData} (D : DefAt K mg "_law_aggregate" s_aggregate ["draw"] f fd) (D_next : DefAt K mg "_law_next" s_next ["draw", "many"] fn fnd) (G_next : FnOk P w K mg base CX0 1 fn fnd ["draw", "many"] spNext) :
    FnOk P w K mg base CX0 2 f fd ["draw"] spAgg := by
  refine D.F.ok sc_aggregate (fun vs H Q E h => ?_) (fun cdv A outer s H vs Q E hr h => ?_)
  · obtain ⟨d, sc, rfl, _⟩ := h
    rfl
  obtain ⟨d, sc, rfl, hD, q⟩ := h
  refine ⟨_, (pss_one (ps_ret (pe_ix ix_list (pe_lst (pa_cons pe_str (pa_cons pe_str (pa_cons pe_str (pa_cons pe_str pa_nil))))) (pe_call G_next (hr.mono (by omega)) (by rfl) D_next.m D_next.F.kp D_next.b .nil pass0 (pa_cons (pv 0) (pa_cons pe_int pa_nil))) (fun _ _ => rfl)))), ?_⟩
  refine ⟨(by show 4 ≤ sizeLine; decide), fun l nl => ?_⟩
  refine ⟨_, rfl, d, sc, 4, rfl, by decide, by decide, hD.new nl, fun i H1 i0 i1 hD1 hU1 => ?_⟩
  obtain ⟨g, hg, e⟩ := pickS (xs := aggS) i0 (by exact i1)
  refine ⟨l, _, i, _, rfl, rfl, .of (hU1 _ _ (hD.ne nl) upd_same), e, ?_⟩
  exact q g H1 hg hD1 ((Up.new nl).trans hU1)
theorem ok_span {f fn : Addr} {fd fnd : FuncData} (D : DefAt K mg "_law_span" s_span ["draw"] f fd) (D_next : DefAt K mg "_law_next" s_next ["draw", "many"] fn fnd) (G_next : FnOk P w K mg base CX0 1 fn fnd ["draw", "many"] spNext) :
    FnOk P w K mg base CX0 2 f fd ["draw"] spSpan := by
  refine D.F.ok sc_span (fun vs H Q E h => ?_) (fun cdv A outer s H vs Q E hr h => ?_)
  · obtain ⟨d, sc, rfl, _⟩ := h
    rfl
  obtain ⟨d, sc, rfl, hD, q⟩ := h
  refine ⟨_, (pss_cons (ps_set (i := 1) sc_span.nd rfl (by first | exact Or.inl rfl | exact Or.inr rfl) (pe_op op_add pe_int (pe_call G_next (hr.mono (by omega)) (by rfl) D_next.m D_next.F.kp D_next.b .nil pass0 (pa_cons (pv 0) (pa_cons pe_int pa_nil))))) (pss_one (ps_ret (pe_tup (pa_cons (pe_op op_add pe_int (pe_call G_next (hr.mono (by omega)) (by rfl) D_next.m D_next.F.kp D_next.b .nil pass0 (pa_cons (pv 0) (pa_cons (pe_op op_mul pe_int (pv 1)) pa_nil)))) (pa_cons (pv 1) pa_nil)))))), ?_⟩
  refine ⟨_, rfl, d, sc, 9, rfl, by decide, by decide, hD, fun i H1 i0 i1 hD1 hU1 => ⟨_, _, rfl, rfl, ?_⟩⟩
  refine ⟨_, rfl, _, rfl, _, _, rfl, rfl, .inl ⟨by decide, by decide⟩, d, sc, _, rfl, by omega, by omega, hD1, fun j H2 j0 j1 hD2 hU2 => ⟨_, _, rfl, rfl, _, rfl, (by show 2 ≤ sizeLine; decide), fun t nt => ?_⟩⟩
  exact q t _ _ _ upd_same (by omega) (by omega) (by omega) (by omega) (hD2.new nt) ((hU1.trans hU2).trans (Up.new nt))
theorem ok_stage {f fn : Addr} {fd fnd : FuncData} (D : DefAt K mg "_law_stage" s_stage ["draw"] f fd) (D_next : DefAt K mg "_law_next" s_next ["draw", "many"] fn fnd) (G_next : FnOk P w K mg base CX0 1 fn fnd ["draw", "many"] spNext)
    (z_tuple : mg "tuple" = none) : FnOk P w K mg base CX0 2 f fd ["draw"] spStage := by
  refine D.F.ok sc_stage (fun vs H Q E h => ?_) (fun cdv A outer s H vs Q E hr h => ?_)
  · obtain ⟨d, sc, rfl, _⟩ := h
    rfl
  obtain ⟨d, sc, rfl, hD, q⟩ := h
  refine ⟨_, (pss_cons (ps_set (i := 1) sc_stage.nd rfl (by first | exact Or.inl rfl | exact Or.inr rfl) (pe_call G_next (hr.mono (by omega)) (by rfl) D_next.m D_next.F.kp D_next.b .nil pass0 (pa_cons (pv 0) (pa_cons pe_int pa_nil)))) (pss_cons (ps_if (pt_cmpR op_lt (pv 1) pe_int (nomark _)) (pss_cons (ps_set (i := 2) sc_stage.nd rfl (by first | exact Or.inl rfl | exact Or.inr rfl) (pe_ix ix_list (pe_lst (pa_cons pe_str (pa_cons pe_str (pa_cons pe_str (pa_cons pe_str (pa_cons pe_str (pa_cons pe_str (pa_cons pe_str pa_nil)))))))) (pe_call G_next (hr.mono (by omega)) (by rfl) D_next.m D_next.F.kp D_next.b .nil pass0 (pa_cons (pv 0) (pa_cons pe_int pa_nil))) (fun _ _ => rfl))) (pss_one (ps_ret (pe_tup (pa_cons pe_str (pa_cons (pv 2) (pa_cons (pe_op op_sub (pe_call G_next (hr.mono (by omega)) (by rfl) D_next.m D_next.F.kp D_next.b .nil pass0 (pa_cons (pv 0) (pa_cons pe_int pa_nil))) pe_int) pa_nil))))))) pss_nil) (pss_cons (ps_if (pt_cmpR op_eq (pv 1) pe_int (nomark _)) (pss_cons (ps_set (i := 3) sc_stage.nd rfl (by first | exact Or.inl rfl | exact Or.inr rfl) (pe_lst pa_nil)) (pss_cons (ps_for PassesOwn.never rfl (pi_list (pe_lst (pa_cons pe_str (pa_cons pe_str (pa_cons pe_str (pa_cons pe_str pa_nil)))))) (pg_name (i := 4) sc_stage.nd rfl (by first | exact Or.inl rfl | exact Or.inr rfl)) (pss_one (ps_if (pt_cmpR op_gt (pe_call G_next (hr.mono (by omega)) (by rfl) D_next.m D_next.F.kp D_next.b .nil pass0 (pa_cons (pv 0) (pa_cons pe_int pa_nil))) pe_int (nomark _)) (pss_one (ps_expr (pe_bm PySem.F.plainAttrs_list PySem.F.slot_list_append PySem.F.type_list_append mt_append (pv 3) (pa_cons (pv 4) pa_nil)))) pss_nil))) (pss_one (ps_ret (pe_ifExp (pt_truth (pv 3) (by intro _; rfl)) (pe_tup (pa_cons pe_str (pa_cons (pe_callTy call_tuple_of (by rfl) z_tuple boot_tuple (pa_cons (pv 3) pa_nil)) pa_nil))) (pe_tup (pa_cons pe_str (pa_cons (pe_tup (pa_cons pe_str pa_nil)) pa_nil)))))))) pss_nil) (pss_cons (ps_if (pt_cmpR op_eq (pv 1) pe_int (nomark _)) (pss_one (ps_ret (pe_tup (pa_cons pe_str (pa_cons (pe_ix ix_list (pe_lst (pa_cons (pe_un un_neg pe_int) (pa_cons (pe_un un_neg pe_int) (pa_cons (pe_un un_neg pe_int) (pa_cons pe_int (pa_cons pe_int (pa_cons pe_int (pa_cons pe_int pa_nil)))))))) (pe_call G_next (hr.mono (by omega)) (by rfl) D_next.m D_next.F.kp D_next.b .nil pass0 (pa_cons (pv 0) (pa_cons pe_int pa_nil))) (fun _ _ => rfl)) pa_nil))))) pss_nil) (pss_cons (ps_if (pt_cmpR op_eq (pe_call G_next (hr.mono (by omega)) (by rfl) D_next.m D_next.F.kp D_next.b .nil pass0 (pa_cons (pv 0) (pa_cons pe_int pa_nil))) pe_int (nomark _)) (pss_one (ps_ret (pe_tup (pa_cons pe_str (pa_cons (pe_ix ix_list (pe_lst (pa_cons pe_str (pa_cons pe_str (pa_cons pe_str pa_nil)))) (pe_call G_next (hr.mono (by omega)) (by rfl) D_next.m D_next.F.kp D_next.b .nil pass0 (pa_cons (pv 0) (pa_cons pe_int pa_nil))) (fun _ _ => rfl)) pa_nil))))) pss_nil) (pss_one (ps_ret (pe_tup (pa_cons pe_str (pa_cons (pe_call G_next (hr.mono (by omega)) (by rfl) D_next.m D_next.F.kp D_next.b .nil pass0 (pa_cons (pv 0) (pa_cons pe_int pa_nil))) pa_nil)))))))))), ?_⟩
  refine ⟨_, rfl, d, sc, 7, rfl, by decide, by decide, hD, fun fo H1 f0 f1 hD1 hU1 => ?_⟩
  refine ⟨_, rfl, _, _, rfl, rfl, _, rfl, ite2 (fun _ => ?_) (fun _ => ?_)⟩
  · -- sift
    refine ⟨(by show 7 ≤ sizeLine; decide), fun l nl => ?_⟩
    refine ⟨_, rfl, d, sc, 7, rfl, by decide, by decide, hD1.new nl, fun i H2 i0 i1 hD2 hU2 => ?_⟩
    obtain ⟨g, hg, e⟩ := pickS (xs := ["<", "<=", "=", "!=", ">=", ">", "!="]) i0 (by exact i1)
    refine ⟨l, _, i, _, rfl, rfl, .of (hU2 _ _ (hD1.ne nl) upd_same), e, ?_⟩
    refine ⟨_, rfl, _, rfl, d, sc, 13, rfl, by decide, by decide, hD2, fun j H3 j0 j1 hD3 hU3 => ⟨_, _, rfl, rfl, (by show 3 ≤ sizeLine; decide), fun t nt => ?_⟩⟩
    have hg' : g ∈ compS := by
      have : ∀ g ∈ (["<", "<=", "=", "!=", ">=", ">", "!="] : List Str), g ∈ compS := by decide +kernel
      exact this g hg
    exact q _ (.sift g (j - 6)) _ ⟨t, rfl, upd_same⟩ ⟨hg', by omega, by omega⟩ (hD3.new nt) ((((hU1.trans (Up.new nl)).trans hU2).trans hU3).trans (Up.new nt))
  refine ⟨_, rfl, rfl, _, rfl, ite2 (fun _ => ?_) (fun _ => ?_)⟩
  · -- only
    refine ⟨Nat.zero_le _, fun N nN => ?_⟩
    have nNd := hD1.ne nN
    have nNs := hD1.nes nN
    refine ⟨(by show 4 ≤ sizeLine; decide), fun l nl => ?_⟩
    have nlN : N ≠ l := ne_of_none upd_same nl
    have hD2 : Dr sc (upd (upd H1 N (.lst [])) l (.lst [.str "a", .str "ab", .str "b", .str "c"])) d := (hD1.new nN).new nl
    have lsc := (hD1.new (o := .lst []) nN).nes nl
    refine ⟨l, rfl, ⟨_, .of upd_same⟩, for_list (xs := keyS.map V.str) (fun i σ H2 => ∃ (ks : List Str) (y2 y4 : Option V), σ = [some (.ref d), some (.int fo), y2, some (.ref N), y4] ∧ H2 N = some (.lst (ks.map V.str)) ∧ ks.Sublist (keyS.take i) ∧ H2 l = some (.lst (keyS.map V.str)) ∧ Dr sc H2 d ∧ Up d H1 H2)
      ⟨[], _, _, rfl, ?_, List.nil_sublist _, upd_same, hD2, (Up.new nN).trans (Up.new nl)⟩ (fun i σ H2 _ hP => ?_) (fun i x σ H2 hx hP => ?_) (fun σ H2 hP => ?_)⟩
    · rw [upd_ne nlN]; exact upd_same
    · obtain ⟨ks, y2, y4, _, _, _, h, _⟩ := hP
      exact .of h
    · obtain ⟨ks, y2, y4, rfl, b1, b2, b3, b4, b5⟩ := hP
      obtain ⟨z, hz, rfl⟩ : ∃ z, keyS[i]? = some z ∧ x = .str z := by
        rw [List.getElem?_map] at hx
        cases hq : keyS[i]? with
        | none => rw [hq] at hx; cases hx
        | some s => rw [hq] at hx; exact ⟨s, rfl, (Option.some.inj hx).symm⟩
      have ht : keyS.take (i + 1) = keyS.take i ++ [z] := by rw [List.take_add_one, hz]; rfl
      refine ⟨_, rfl, d, sc, 4, rfl, by decide, by decide, b4, fun j H3 j0 j1 hD3 hU3 => ⟨_, _, rfl, rfl, _, rfl, ite2 (fun _ => ?_) (fun _ => ?_)⟩⟩
      · have c1 := hU3 _ _ nNd b1
        have c2 := hU3 _ _ (show l ≠ d from (hD1.new (o := .lst []) nN).ne nl) b3
        have kl := b2.length_le
        rw [List.length_take] at kl
        refine ⟨_, rfl, .inl ⟨rfl, _, .of c1⟩, _, rfl, N, _, _, rfl, rfl, c1, small1000 (by rw [List.length_map]; have : keyS.length = 4 := rfl; omega), ?_⟩
        refine ⟨ks ++ [z], _, _, rfl, by rw [upd_same, List.map_append]; rfl, by rw [ht]; exact b2.append (List.Sublist.refl _), by rw [upd_ne nlN.symm]; exact c2, hD3.mut nNd nNs, (b5.trans hU3).mut nN⟩
      · have c1 := hU3 _ _ nNd b1
        have c2 := hU3 _ _ (show l ≠ d from (hD1.new (o := .lst []) nN).ne nl) b3
        exact ⟨ks, _, _, rfl, c1, by rw [ht]; exact b2.trans (List.sublist_append_left _ _), c2, hD3, b5.trans hU3⟩
    · obtain ⟨ks, y2, y4, rfl, b1, b2, b3, b4, b5⟩ := hP
      have b2' : ks.Sublist keyS := by
        have e : keyS.take (keyS.map V.str).length = keyS := List.take_of_length_le (by rw [List.length_map]; exact Nat.le_refl _)
        rw [e] at b2; exact b2
      refine ⟨_, rfl, _, .inl ⟨_, .of b1, rfl⟩, ?_⟩
      refine ite2 (fun e => ?_) (fun e => ?_)
      · refine ⟨_, rfl, N, _, rfl, .inl ⟨.of b1, fun k nk => ⟨(by show 2 ≤ sizeLine; decide), fun t nt => ?_⟩⟩⟩
        refine q _ (.only ks) _ ⟨t, k, rfl, upd_same, by rw [upd_ne (ne_of_none upd_same nt)]; exact upd_same⟩ ⟨fun z => ?_, b2'⟩ ((b4.new nk).new nt) (((hU1.trans b5).trans (Up.new nk)).trans (Up.new nt))
        rw [z] at e
        cases e
      · refine ⟨(by show 1 ≤ sizeLine; decide), fun k nk => ⟨(by show 2 ≤ sizeLine; decide), fun t nt => ?_⟩⟩
        exact q _ (.only ["b"]) _ ⟨t, k, rfl, upd_same, by rw [upd_ne (ne_of_none upd_same nt)]; exact upd_same⟩ ⟨List.cons_ne_nil _ _, .cons ("a" : Str) (.cons ("ab" : Str) (.cons₂ ("b" : Str) (.cons ("c" : Str) .slnil)))⟩ ((b4.new nk).new nt) (((hU1.trans b5).trans (Up.new nk)).trans (Up.new nt))
  refine ⟨_, rfl, rfl, _, rfl, ite2 (fun _ => ?_) (fun _ => ?_)⟩
  · -- scale
    refine ⟨_, rfl, _, rfl, _, rfl, (by show 7 ≤ sizeLine; decide), fun l nl => ?_⟩
    refine ⟨_, rfl, d, sc, 7, rfl, by decide, by decide, hD1.new nl, fun i H2 i0 i1 hD2 hU2 => ?_⟩
    obtain ⟨g, hg, e⟩ := pickI (xs := [-3, -2, -1, 0, 1, 2, 0]) i0 (by exact i1)
    refine ⟨l, _, i, _, rfl, rfl, .of (hU2 _ _ (hD1.ne nl) upd_same), e, (by show 2 ≤ sizeLine; decide), fun t nt => ?_⟩
    have : ∀ g ∈ ([-3, -2, -1, 0, 1, 2, 0] : List Int), -3 ≤ g ∧ g ≤ 2 := by decide
    exact q _ (.scale g) _ ⟨t, rfl, upd_same⟩ (this g hg) (hD2.new nt) (((hU1.trans (Up.new nl)).trans hU2).trans (Up.new nt))
  refine ⟨_, rfl, d, sc, 2, rfl, by decide, by decide, hD1, fun i H2 i0 i1 hD2 hU2 => ⟨rfl, _, rfl, ite2 (fun _ => ?_) (fun _ => ?_)⟩⟩
  · -- rekey
    refine ⟨(by show 3 ≤ sizeLine; decide), fun l nl => ?_⟩
    refine ⟨_, rfl, d, sc, 3, rfl, by decide, by decide, hD2.new nl, fun i H3 i0 i1 hD3 hU3 => ?_⟩
    obtain ⟨g, hg, e⟩ := pickS (xs := ["a", "b", "z"]) i0 (by exact i1)
    refine ⟨l, _, i, _, rfl, rfl, .of (hU3 _ _ (hD2.ne nl) upd_same), e, (by show 2 ≤ sizeLine; decide), fun t nt => ?_⟩
    exact q _ (.rekey g) _ ⟨t, rfl, upd_same⟩ hg (hD3.new nt) ((((hU1.trans hU2).trans (Up.new nl)).trans hU3).trans (Up.new nt))
  · -- later
    refine ⟨_, rfl, d, sc, 5, rfl, by decide, by decide, hD2, fun i H3 i0 i1 hD3 hU3 => ⟨(by show 2 ≤ sizeLine; decide), fun t nt => ?_⟩⟩
    exact q _ (.later i) _ ⟨t, rfl, upd_same⟩ ⟨i0, by omega⟩ (hD3.new nt) (((hU1.trans hU2).trans hU3).trans (Up.new nt))
def srcS : List Str := ["a", "b", "c", "rows"]
theorem tree0 {f : Addr} {fd : FuncData} {ns : List Str} {k : Nat} : FnOk P w K mg base CX0 k f fd ["draw", "size"] (spTree ns 0) := by
  have no : ∀ vs H Q E, ¬ spTree ns 0 vs H Q E := fun vs H Q E h => by
    obtain ⟨d, sc, size, _, h1, h2, _⟩ := h
    have : size ≤ 0 := h2
    omega
  exact ⟨fun vs H Q E h => absurd h (no vs H Q E), fun A outer s H args us vs Q E _ _ _ _ h => absurd h (no vs H Q E)⟩
theorem ok_tree1 {f fn fs fp fa : Addr} {fd fnd fsd fpd fad : FuncData} {n : Nat} (D_tree : DefAt K mg "_law_tree" s_tree ["draw", "size"] f fd) (G_tree : FnOk P w K mg base CX0 (n + 2) f fd ["draw", "size"] (spTree srcS n))
    (D_next : DefAt K mg "_law_next" s_next ["draw", "many"] fn fnd) (G_next : FnOk P w K mg base CX0 1 fn fnd ["draw", "many"] spNext)
    (D_stage : DefAt K mg "_law_stage" s_stage ["draw"] fs fsd) (G_stage : FnOk P w K mg base CX0 2 fs fsd ["draw"] spStage)
    (D_span : DefAt K mg "_law_span" s_span ["draw"] fp fpd) (G_span : FnOk P w K mg base CX0 2 fp fpd ["draw"] spSpan)
    (D_aggregate : DefAt K mg "_law_aggregate" s_aggregate ["draw"] fa fad) (G_aggregate : FnOk P w K mg base CX0 2 fa fad ["draw"] spAgg) :
    FnOk P w K mg base CX0 (n + 3) f fd ["draw", "size"] (spTree srcS (n + 1)) := by
  refine D_tree.F.ok sc_tree (fun vs H Q E h => ?_) (fun cdv A outer s H vs Q E hr h => ?_)
  · obtain ⟨d, sc, size, rfl, _⟩ := h
    rfl
  obtain ⟨d, sc, size, rfl, hs1, hs2, hD, q⟩ := h
  have hs3 : size ≤ (n : Int) + 1 := by have : size ≤ ((n + 1 : Nat) : Int) := hs2; omega
  refine ⟨_, (pss_cons (ps_set (i := 2) sc_tree.nd rfl (by first | exact Or.inl rfl | exact Or.inr rfl) (pe_call G_next (hr.mono (by omega)) (by rfl) D_next.m D_next.F.kp D_next.b .nil pass0 (pa_cons (pv 0) (pa_cons pe_int pa_nil)))) (pss_cons (ps_if (PW.pt (pw_or (pt_cmpR op_lt (pv 1) pe_int (nomark _)) (pw_or1 (pt_cmpR op_eq (pv 2) pe_int (nomark _))))) (pss_one (ps_ret (pe_tup (pa_cons pe_str (pa_cons (pe_ix ix_list (pe_lst (pa_cons pe_str (pa_cons pe_str (pa_cons pe_str (pa_cons pe_str pa_nil))))) (pe_call G_next (hr.mono (by omega)) (by rfl) D_next.m D_next.F.kp D_next.b .nil pass0 (pa_cons (pv 0) (pa_cons pe_int pa_nil))) (fun _ _ => rfl)) pa_nil))))) pss_nil) (pss_cons (ps_if (pt_cmpR op_lt (pv 2) pe_int (nomark _)) (pss_one (ps_ret (pe_tup (pa_cons pe_str (pa_cons (pe_call G_stage (hr.mono (by omega)) (by rfl) D_stage.m D_stage.F.kp D_stage.b .nil pass0 (pa_cons (pv 0) pa_nil)) (pa_cons (pe_call G_tree (hr.mono (by omega)) (by rfl) D_tree.m D_tree.F.kp D_tree.b .nil pass0 (pa_cons (pv 0) (pa_cons (pe_op op_sub (pv 1) pe_int) pa_nil))) pa_nil)))))) pss_nil) (pss_cons (ps_if (pt_cmpR op_eq (pv 2) pe_int (nomark _)) (pss_one (ps_ret (pe_tup (pa_cons pe_str (pa_cons (pe_call G_tree (hr.mono (by omega)) (by rfl) D_tree.m D_tree.F.kp D_tree.b .nil pass0 (pa_cons (pv 0) (pa_cons (pe_op op_sub (pv 1) pe_int) pa_nil))) pa_nil))))) pss_nil) (pss_cons (ps_if (pt_cmpR op_eq (pv 2) pe_int (nomark _)) (pss_cons (ps_asg (pe_call G_span (hr.mono (by omega)) (by rfl) D_span.m D_span.F.kp D_span.b .nil pass0 (pa_cons (pv 0) pa_nil)) (pg_tup (by rfl) (pgs_cons (pg_name (i := 7) sc_tree.nd rfl (by first | exact Or.inl rfl | exact Or.inr rfl)) (pgs_cons (pg_name (i := 8) sc_tree.nd rfl (by first | exact Or.inl rfl | exact Or.inr rfl)) pgs_nil)))) (pss_one (ps_ret (pe_tup (pa_cons pe_str (pa_cons (pv 7) (pa_cons (pv 8) (pa_cons (pe_call G_aggregate (hr.mono (by omega)) (by rfl) D_aggregate.m D_aggregate.F.kp D_aggregate.b .nil pass0 (pa_cons (pv 0) pa_nil)) (pa_cons (pe_call G_tree (hr.mono (by omega)) (by rfl) D_tree.m D_tree.F.kp D_tree.b .nil pass0 (pa_cons (pv 0) (pa_cons (pe_op op_sub (pv 1) pe_int) pa_nil))) pa_nil))))))))) pss_nil) (pss_cons (ps_if (pt_cmpR op_eq (pv 2) pe_int (nomark _)) (pss_one (ps_ret (pe_tup (pa_cons pe_str (pa_cons (pe_call G_next (hr.mono (by omega)) (by rfl) D_next.m D_next.F.kp D_next.b .nil pass0 (pa_cons (pv 0) (pa_cons pe_int pa_nil))) (pa_cons (pe_call G_aggregate (hr.mono (by omega)) (by rfl) D_aggregate.m D_aggregate.F.kp D_aggregate.b .nil pass0 (pa_cons (pv 0) pa_nil)) (pa_cons (pe_call G_tree (hr.mono (by omega)) (by rfl) D_tree.m D_tree.F.kp D_tree.b .nil pass0 (pa_cons (pv 0) (pa_cons (pe_op op_sub (pv 1) pe_int) pa_nil))) pa_nil))))))) pss_nil) (pss_cons (ps_set (i := 3) sc_tree.nd rfl (by first | exact Or.inl rfl | exact Or.inr rfl) (pe_op op_fdiv (pe_op op_sub (pv 1) pe_int) pe_int)) (pss_cons (ps_if (pt_cmpR op_lt (pv 1) pe_int (nomark _)) (pss_one (ps_ret (pe_tup (pa_cons pe_str (pa_cons pe_str pa_nil))))) pss_nil) (pss_cons (ps_set (i := 4) sc_tree.nd rfl (by first | exact Or.inl rfl | exact Or.inr rfl) (pe_call G_tree (hr.mono (by omega)) (by rfl) D_tree.m D_tree.F.kp D_tree.b .nil pass0 (pa_cons (pv 0) (pa_cons (pv 3) pa_nil)))) (pss_cons (ps_set (i := 5) sc_tree.nd rfl (by first | exact Or.inl rfl | exact Or.inr rfl) (pe_call G_tree (hr.mono (by omega)) (by rfl) D_tree.m D_tree.F.kp D_tree.b .nil pass0 (pa_cons (pv 0) (pa_cons (pv 3) pa_nil)))) (pss_cons (ps_if (pt_cmpR op_eq (pv 2) pe_int (nomark _)) (pss_cons (ps_set (i := 6) sc_tree.nd rfl (by first | exact Or.inl rfl | exact Or.inr rfl) (pe_ix ix_list (pe_lst (pa_cons pe_str (pa_cons pe_str (pa_cons pe_str (pa_cons pe_str pa_nil))))) (pe_call G_next (hr.mono (by omega)) (by rfl) D_next.m D_next.F.kp D_next.b .nil pass0 (pa_cons (pv 0) (pa_cons pe_int pa_nil))) (fun _ _ => rfl))) (pss_one (ps_ret (pe_tup (pa_cons pe_str (pa_cons (pe_call G_next (hr.mono (by omega)) (by rfl) D_next.m D_next.F.kp D_next.b .nil pass0 (pa_cons (pv 0) (pa_cons pe_int pa_nil))) (pa_cons (pe_call G_next (hr.mono (by omega)) (by rfl) D_next.m D_next.F.kp D_next.b .nil pass0 (pa_cons (pv 0) (pa_cons pe_int pa_nil))) (pa_cons (pv 6) (pa_cons (pv 4) (pa_cons (pv 5) pa_nil)))))))))) pss_nil) (pss_one (ps_ret (pe_tup (pa_cons (pe_ix ix_list (pe_lst (pa_cons pe_str (pa_cons pe_str (pa_cons pe_str pa_nil)))) (pe_call G_next (hr.mono (by omega)) (by rfl) D_next.m D_next.F.kp D_next.b .nil pass0 (pa_cons (pv 0) (pa_cons pe_int pa_nil))) (fun _ _ => rfl)) (pa_cons (pv 4) (pa_cons (pv 5) pa_nil))))))))))))))))), ?_⟩
  refine ⟨_, rfl, d, sc, 12, rfl, by decide, by decide, hD, fun fo H1 f0 f1 hD1 hU1 => ?_⟩
  have two : (2 : Nat) ≤ sizeLine := by decide
  -- a source
  have src : ∀ (Q1 : V → Hp → Prop), (∀ v p H', PlAt H' p v → PlOk srcS p → (p.size : Int) ≤ size → Dr sc H' d → Up d H H' → Q1 v H') → ∀ l, H1 l = none → ∀ (i : Int) (H2 : Hp), 0 ≤ i → i < 4 → Dr sc H2 d → Up d (upd H1 l (.lst (srcS.map V.str))) H2 → ∃ g, g ∈ srcS ∧ H2 l = some (.lst (srcS.map V.str)) ∧ atI (srcS.map V.str) i = some (.str g) ∧ ∀ t, H2 t = none → Q1 (.ref t) (upd H2 t (.tup [.str "source", .str g])) := by
    intro Q1 q1 l nl i H2 i0 i1 hD2 hU2
    obtain ⟨g, hg, e⟩ := pickS (xs := srcS) i0 (by exact i1)
    exact ⟨g, hg, hU2 _ _ (hD1.ne nl) upd_same, e, fun t nt => q1 _ (.src g) _ ⟨t, rfl, upd_same⟩ hg (by show ((1 : Nat) : Int) ≤ size; omega) (hD2.new nt) (((hU1.trans (Up.new nl)).trans hU2).trans (Up.new nt))⟩
  refine ⟨_, rfl, _, _, rfl, rfl, _, rfl, ite2 (fun _ => iteT ?_) (fun hs => ⟨_, rfl, rfl, _, rfl, ite2 (fun _ => ?_) (fun _ => ?_)⟩)⟩
  · refine ⟨(by show 4 ≤ sizeLine; decide), fun l nl => ⟨_, rfl, d, sc, 4, rfl, by decide, by decide, hD1.new nl, fun i H2 i0 i1 hD2 hU2 => ?_⟩⟩
    obtain ⟨g, hg, h2, e, fin⟩ := src Q q l nl i H2 i0 i1 hD2 hU2
    exact ⟨l, _, i, _, rfl, rfl, .of h2, e, two, fin⟩
  · refine ⟨(by show 4 ≤ sizeLine; decide), fun l nl => ⟨_, rfl, d, sc, 4, rfl, by decide, by decide, hD1.new nl, fun i H2 i0 i1 hD2 hU2 => ?_⟩⟩
    obtain ⟨g, hg, h2, e, fin⟩ := src Q q l nl i H2 i0 i1 hD2 hU2
    exact ⟨l, _, i, _, rfl, rfl, .of h2, e, two, fin⟩
  have hs4 : 2 ≤ size := by
    rcases Int.lt_or_le size 2 with h | h
    · exact absurd (decide_eq_true h) hs
    · exact h
  refine ⟨_, rfl, _, _, rfl, rfl, _, rfl, ite2 (fun _ => ?_) (fun _ => ?_)⟩
  · -- a stage
    refine ⟨_, rfl, d, sc, rfl, hD1, fun sv st H2 hst hok hD2 hU2 => ?_⟩
    refine ⟨_, rfl, _, rfl, _, _, rfl, rfl, d, sc, size - 1, rfl, by omega, by omega, hD2, fun v p H3 hp hpo hps hD3 hU3 => ⟨(by show 3 ≤ sizeLine; decide), fun t nt => ?_⟩⟩
    have k3 := hU3.tupUp hD2
    exact q _ (.stage st p) _ ⟨t, sv, v, rfl, upd_same, (hst.mono k3).mono (TupUp.new nt), hp.mono (TupUp.new nt)⟩ ⟨hok, hpo⟩ (by show ((p.size + 1 : Nat) : Int) ≤ size; omega) (hD3.new nt) (((hU1.trans hU2).trans hU3).trans (Up.new nt))
  refine ⟨_, rfl, rfl, _, rfl, ite2 (fun _ => ?_) (fun _ => ?_)⟩
  · -- once
    refine ⟨_, rfl, _, rfl, _, _, rfl, rfl, d, sc, size - 1, rfl, by omega, by omega, hD1, fun v p H3 hp hpo hps hD3 hU3 => ⟨two, fun t nt => ?_⟩⟩
    exact q _ (.once p) _ ⟨t, v, rfl, upd_same, hp.mono (TupUp.new nt)⟩ hpo (by show ((p.size + 1 : Nat) : Int) ≤ size; omega) (hD3.new nt) ((hU1.trans hU3).trans (Up.new nt))
  refine ⟨_, rfl, rfl, _, rfl, ite2 (fun _ => ?_) (fun _ => ?_)⟩
  · -- windows
    refine ⟨_, rfl, d, sc, rfl, hD1, fun tt a b H2 htt b1 b2 a1 a2 hD2 hU2 => ⟨tt, _, rfl, .of htt, rfl, _, _, rfl, _, _, rfl, rfl, ?_⟩⟩
    refine ⟨_, rfl, _, rfl, _, rfl, d, sc, rfl, hD2, fun g H3 hg hD3 hU3 => ?_⟩
    refine ⟨_, rfl, _, rfl, _, _, rfl, rfl, d, sc, size - 1, rfl, by omega, by omega, hD3, fun v p H4 hp hpo hps hD4 hU4 => ⟨(by show 5 ≤ sizeLine; decide), fun t nt => ?_⟩⟩
    exact q _ (.windows a b g p) _ ⟨t, v, rfl, upd_same, hp.mono (TupUp.new nt)⟩ ⟨⟨b1, b2, a1, a2, hg⟩, hpo⟩ (by show ((p.size + 1 : Nat) : Int) ≤ size; omega) (hD4.new nt) ((((hU1.trans hU2).trans hU3).trans hU4).trans (Up.new nt))
  refine ⟨_, rfl, rfl, _, rfl, ite2 (fun _ => ?_) (fun _ => ?_)⟩
  · -- sittings
    refine ⟨_, rfl, d, sc, 40, rfl, by decide, by decide, hD1, fun a H2 a0 a1 hD2 hU2 => ?_⟩
    refine ⟨_, rfl, d, sc, rfl, hD2, fun g H3 hg hD3 hU3 => ?_⟩
    refine ⟨_, rfl, _, rfl, _, _, rfl, rfl, d, sc, size - 1, rfl, by omega, by omega, hD3, fun v p H4 hp hpo hps hD4 hU4 => ⟨(by show 4 ≤ sizeLine; decide), fun t nt => ?_⟩⟩
    exact q _ (.sittings a g p) _ ⟨t, v, rfl, upd_same, hp.mono (TupUp.new nt)⟩ ⟨⟨a0, a1, hg⟩, hpo⟩ (by show ((p.size + 1 : Nat) : Int) ≤ size; omega) (hD4.new nt) ((((hU1.trans hU2).trans hU3).trans hU4).trans (Up.new nt))
  -- half = (size - 1) // 2
  refine ⟨_, rfl, _, _, rfl, rfl, _, _, rfl, rfl, ⟨by decide, by decide⟩, ?_⟩
  refine ⟨_, rfl, _, _, rfl, rfl, _, rfl, ite2 (fun _ => ?_) (fun h3 => ?_)⟩
  · refine ⟨two, fun t nt => ?_⟩
    exact q _ (.src "b") _ ⟨t, rfl, upd_same⟩ (by show ("b" : Str) ∈ srcS; decide +kernel) (by show ((1 : Nat) : Int) ≤ size; omega) (hD1.new nt) (hU1.trans (Up.new nt))
  have hs5 : 3 ≤ size := by
    rcases Int.lt_or_le size 3 with h | h
    · exact absurd (decide_eq_true h) h3
    · exact h
  have hh : 1 ≤ (size - 1) / 2 ∧ (size - 1) / 2 ≤ n ∧ 2 * ((size - 1) / 2) + 1 ≤ size := by omega
  refine ⟨_, rfl, _, rfl, d, sc, _, rfl, hh.1, hh.2.1, hD1, fun vl pl H2 hpl hlo hls hD2 hU2 => ?_⟩
  refine ⟨_, rfl, _, rfl, d, sc, _, rfl, hh.1, hh.2.1, hD2, fun vr pr H3 hpr hro hrs hD3 hU3 => ?_⟩
  have hpl3 := hpl.mono (hU3.tupUp hD2)
  refine ⟨_, rfl, rfl, _, rfl, ite2 (fun _ => ?_) (fun _ => ?_)⟩
  · -- near
    refine ⟨(by show 4 ≤ sizeLine; decide), fun l nl => ⟨_, rfl, d, sc, 4, rfl, by decide, by decide, hD3.new nl, fun i H4 i0 i1 hD4 hU4 => ?_⟩⟩
    obtain ⟨g, hg, e⟩ := pickS (xs := combS) i0 (by exact i1)
    refine ⟨l, _, i, _, rfl, rfl, .of (hU4 _ _ (hD3.ne nl) upd_same), e, ?_⟩
    refine ⟨_, rfl, d, sc, 9, rfl, by decide, by decide, hD4, fun a H5 a0 a1 hD5 hU5 => ?_⟩
    refine ⟨_, rfl, d, sc, 9, rfl, by decide, by decide, hD5, fun b H6 b0 b1 hD6 hU6 => ⟨_, rfl, _, rfl, _, rfl, (by show 6 ≤ sizeLine; decide), fun t nt => ?_⟩⟩
    have k : TupUp H3 (upd H6 t (.tup [.str "near", .int a, .int b, .str g, vl, vr])) := ((((TupUp.new nl).trans (hU4.tupUp (hD3.new nl))).trans (hU5.tupUp hD4)).trans (hU6.tupUp hD5)).trans (TupUp.new nt)
    exact q _ (.near a b g pl pr) _ ⟨t, vl, vr, rfl, upd_same, hpl3.mono k, hpr.mono k⟩ ⟨⟨a0, a1, b0, b1, hg⟩, hlo, hro⟩ (by show ((pl.size + pr.size + 1 : Nat) : Int) ≤ size; omega) (hD6.new nt) (((((((hU1.trans hU2).trans hU3).trans (Up.new nl)).trans hU4).trans hU5).trans hU6).trans (Up.new nt))
  · refine ⟨(by show 3 ≤ sizeLine; decide), fun l nl => ⟨_, rfl, d, sc, 3, rfl, by decide, by decide, hD3.new nl, fun i H4 i0 i1 hD4 hU4 => ?_⟩⟩
    obtain ⟨g, hg, e⟩ := pickS (xs := twoS) i0 (by exact i1)
    refine ⟨l, _, i, _, rfl, rfl, .of (hU4 _ _ (hD3.ne nl) upd_same), e, _, rfl, _, rfl, (by show 3 ≤ sizeLine; decide), fun t nt => ?_⟩
    have k : TupUp H3 (upd H4 t (.tup [.str g, vl, vr])) := ((TupUp.new nl).trans (hU4.tupUp (hD3.new nl))).trans (TupUp.new nt)
    exact q _ (.two g pl pr) _ ⟨t, vl, vr, rfl, upd_same, hg, hpl3.mono k, hpr.mono k⟩ ⟨hg, hlo, hro⟩ (by show ((pl.size + pr.size + 1 : Nat) : Int) ≤ size; omega) (hD4.new nt) (((((hU1.trans hU2).trans hU3).trans (Up.new nl)).trans hU4).trans (Up.new nt))
theorem ok_tree {f fn fs fp fa : Addr} {fd fnd fsd fpd fad : FuncData} (D_tree : DefAt K mg "_law_tree" s_tree ["draw", "size"] f fd)
    (D_next : DefAt K mg "_law_next" s_next ["draw", "many"] fn fnd) (G_next : FnOk P w K mg base CX0 1 fn fnd ["draw", "many"] spNext)
    (D_stage : DefAt K mg "_law_stage" s_stage ["draw"] fs fsd) (G_stage : FnOk P w K mg base CX0 2 fs fsd ["draw"] spStage)
    (D_span : DefAt K mg "_law_span" s_span ["draw"] fp fpd) (G_span : FnOk P w K mg base CX0 2 fp fpd ["draw"] spSpan)
    (D_aggregate : DefAt K mg "_law_aggregate" s_aggregate ["draw"] fa fad) (G_aggregate : FnOk P w K mg base CX0 2 fa fad ["draw"] spAgg) :
    ∀ n : Nat, FnOk P w K mg base CX0 (n + 2) f fd ["draw", "size"] (spTree srcS n)
  | 0 => tree0
  | n + 1 => ok_tree1 D_tree (ok_tree D_tree D_next G_next D_stage G_stage D_span G_span D_aggregate G_aggregate n) D_next G_next D_stage G_stage D_span G_span D_aggregate G_aggregate
end
end Tf
set_option maxHeartbeats 8000000
namespace Tf
open PySem PySem.Spec PyProof.Rows L2 TL
abbrev s_linputs : Stmt := (topS 15)
abbrev n_linputs : List Str := ["plan"]
theorem sc_linputs : FnScope n_linputs ["plan"] (defScope s_linputs) := ⟨rfl, rfl, rfl, by decide +kernel, rfl, by decide +kernel, by decide +kernel⟩
abbrev s_lsources : Stmt := (topS 16)
abbrev n_lsources : List Str := ["plan", "found", "part"]
theorem sc_lsources : FnScope n_lsources ["plan"] (defScope s_lsources) := ⟨rfl, rfl, rfl, by decide +kernel, rfl, by decide +kernel, by decide +kernel⟩
abbrev s_law : Stmt := (topS 17)
abbrev n_law : List Str := ["script", "draw", "plan", "names", "due", "name"]
theorem sc_law : FnScope n_law ["script"] (defScope s_law) := ⟨rfl, rfl, rfl, by decide +kernel, rfl, by decide +kernel, by decide +kernel⟩
theorem all_flat (xs : List Str) : (xs.map V.str).all flatV = true := by
  rw [List.all_eq_true]
  intro x hx
  obtain ⟨z, _, rfl⟩ := List.mem_map.mp hx
  rfl
theorem srcs_len : ∀ p : Pl, p.srcs.length ≤ p.size
  | .src _ => Nat.le_refl _
  | .stage _ p => Nat.le_succ_of_le (srcs_len p)
  | .once p => Nat.le_succ_of_le (srcs_len p)
  | .windows _ _ _ p => Nat.le_succ_of_le (srcs_len p)
  | .sittings _ _ p => Nat.le_succ_of_le (srcs_len p)
  | .two _ l r => by show (l.srcs ++ r.srcs).length ≤ l.size + r.size + 1; rw [List.length_append]; have := srcs_len l; have := srcs_len r; omega
  | .near _ _ _ l r => by show (l.srcs ++ r.srcs).length ≤ l.size + r.size + 1; rw [List.length_append]; have := srcs_len l; have := srcs_len r; omega
theorem at_back2 {h x y : V} {mid : List V} : atI (h :: (mid ++ [x, y])) (-2) = some x ∧ atI (h :: (mid ++ [x, y])) (-1) = some y := by
  have el : (h :: (mid ++ [x, y])).length = mid.length + 3 := by rw [List.length_cons, List.length_append]; rfl
  have e2 : ixN (h :: (mid ++ [x, y])).length (-2) = some (mid.length + 1) := by
    unfold ixN
    rw [if_neg (by decide), if_pos (by omega), el]
    exact congrArg some (by omega)
  have e1 : ixN (h :: (mid ++ [x, y])).length (-1) = some (mid.length + 2) := by
    unfold ixN
    rw [if_neg (by decide), if_pos (by omega), el]
    exact congrArg some (by omega)
  constructor
  · unfold atI
    rw [e2]
    show (mid ++ [x, y])[mid.length]? = some x
    rw [List.getElem?_append_right (Nat.le_refl _), Nat.sub_self] <;> rfl
  · unfold atI
    rw [e1]
    show (mid ++ [x, y])[mid.length + 1]? = some y
    rw [List.getElem?_append_right (by omega), show mid.length + 1 - mid.length = 1 by omega] <;> rfl
theorem at_back1 {h y : V} {mid : List V} : atI (h :: (mid ++ [y])) (-1) = some y := atI_last (h :: mid) y
theorem uniq_lt {α : Type} (r : α → Nat) : ∀ {l m : List α}, l.Pairwise (fun a b => r a < r b) → m.Pairwise (fun a b => r a < r b) → (∀ z, z ∈ l ↔ z ∈ m) → l = m
  | [], [], _, _, _ => rfl
  | [], b :: m, _, _, h => absurd ((h b).mpr (List.mem_cons_self ..)) (List.not_mem_nil)
  | a :: l, [], _, _, h => absurd ((h a).mp (List.mem_cons_self ..)) (List.not_mem_nil)
  | a :: l, b :: m, pl, pm, h => by
    obtain ⟨l1, l2⟩ := List.pairwise_cons.mp pl
    obtain ⟨m1, m2⟩ := List.pairwise_cons.mp pm
    have e : a = b := by
      rcases List.mem_cons.mp ((h a).mp (List.mem_cons_self ..)) with e | e
      · exact e
      · rcases List.mem_cons.mp ((h b).mpr (List.mem_cons_self ..)) with e' | e'
        · exact e'.symm
        · have := m1 a e
          have := l1 b e'
          omega
    subst e
    rw [uniq_lt r l2 m2 fun z => ⟨fun hz => ?_, fun hz => ?_⟩]
    · rcases List.mem_cons.mp ((h z).mp (List.mem_cons_of_mem _ hz)) with e | e
      · have := l1 z hz
        rw [e] at this
        omega
      · exact e
    · rcases List.mem_cons.mp ((h z).mpr (List.mem_cons_of_mem _ hz)) with e | e
      · have := m1 z hz
        rw [e] at this
        omega
      · exact e
def rank (z : Str) : Nat := srcS.findIdx (· == z)
theorem rank_lt : ∀ a ∈ srcS, ∀ b ∈ srcS, ltCps a.cps.toList b.cps.toList = decide (rank a < rank b) := by decide +kernel
theorem rank_inj : ∀ a ∈ srcS, ∀ b ∈ srcS, rank a = rank b → a = b := by decide +kernel
theorem rank_pw : srcS.Pairwise fun a b => rank a < rank b := by decide +kernel
theorem rising_le : ∀ {ys : List Str} {p : Str}, risingS p ys = true → p ∈ srcS → (∀ z ∈ ys, z ∈ srcS) → (p :: ys).Pairwise fun a b => rank a ≤ rank b
  | [], p, _, _, _ => List.pairwise_singleton _ _
  | x :: r, p, h, hp, hm => by
    have h' : (!ltCps x.cps.toList p.cps.toList && risingS x r) = true := h
    rw [Bool.and_eq_true, Bool.not_eq_true'] at h'
    have hx := hm x (List.mem_cons_self ..)
    have le : rank p ≤ rank x := by
      have := h'.1
      rw [rank_lt x hx p hp, decide_eq_false_iff_not] at this
      omega
    have ih := rising_le h'.2 hx fun z hz => hm z (List.mem_cons_of_mem _ hz)
    refine List.pairwise_cons.mpr ⟨fun z hz => ?_, ih⟩
    rcases List.mem_cons.mp hz with e | e
    · rw [e]; exact le
    · exact Nat.le_trans le ((List.pairwise_cons.mp ih).1 z e)
theorem sorted_is {ys ss : List Str} (h1 : sortedS ys = true) (h2 : ys.Nodup) (h3 : ∀ z, z ∈ ys ↔ z ∈ ss) (h4 : ∀ z ∈ ss, z ∈ srcS) : ys = srcS.filter fun z => decide (z ∈ ss) := by
  have hm : ∀ z ∈ ys, z ∈ srcS := fun z hz => h4 z ((h3 z).mp hz)
  have pw : ys.Pairwise fun a b => rank a ≤ rank b := by
    cases ys with
    | nil => exact List.Pairwise.nil
    | cons x r => exact rising_le h1 (hm x (List.mem_cons_self ..)) fun z hz => hm z (List.mem_cons_of_mem _ hz)
  have pl : ys.Pairwise fun a b => rank a < rank b := by
    refine List.Pairwise.imp_of_mem (fun {a b} ha hb z => ?_) (pw.and h2)
    rcases Nat.lt_or_eq_of_le z.1 with l | l
    · exact l
    · exact absurd (rank_inj a (hm a ha) b (hm b hb) l) z.2
  refine uniq_lt rank pl (rank_pw.filter _) fun z => ?_
  rw [List.mem_filter, decide_eq_true_iff, h3 z]
  exact ⟨fun h => ⟨h4 z h, h⟩, fun h => h.2⟩
def spSources : Sp := fun vs H Q _ => ∃ (v : V) (p : Pl), vs = [v] ∧ PlAt H p v ∧ p.size ≤ 60 ∧ ∀ (l : Addr) (ys : List Str) H', Same H H' → H' l = some (.lst (ys.map V.str)) → sortedS ys = true → ys.Nodup → (∀ z, z ∈ ys ↔ z ∈ p.srcs) → Q (.ref l) H'
def spLInputs : Sp := fun vs H Q _ => ∃ (v : V) (p : Pl), vs = [v] ∧ PlAt H p v ∧ ∀ (l : Addr) (us : List V) H', Same H H' → H' l = some (.lst us) → InsAt H p.ins us → Q (.ref l) H'
def spLSrc (n : Nat) : Sp := fun vs H Q _ => ∃ (v : V) (p : Pl), vs = [v] ∧ PlAt H p v ∧ p.size ≤ n ∧ n ≤ 400 ∧ ∀ (l : Addr) H', Same H H' → H' l = some (.lst (p.srcs.map V.str)) → Q (.ref l) H'
def spLaw (K : PySem.W.Frag) : Sp := fun vs H Q _ => ∃ (a : Addr) (ns : List Int), vs = [.ref a] ∧ SqL K H a (ns.map V.int) ∧ ns.length ≤ 63 ∧ ∀ H', Q (.bl true) H'
section
variable {P : Program} {w : World} {K : PySem.W.Frag} {mg : Str → Option Value} {base : Heap}
theorem ok_sources {f fw : Addr} {fd fwd : FuncData} (D : DefAt K mg "sources" s_sources ["plan"] f fd) (D_with_levels : DefAt K mg "with_levels" s_with_levels ["plan"] fw fwd) (G_with_levels : FnOk P w K mg base CX0 2 fw fwd ["plan"] spLevels) (z_sorted : mg "sorted" = none) :
    FnOk P w K mg base CX0 3 f fd ["plan"] spSources := by
  refine D.F.ok sc_sources (fun vs H Q E h => ?_) (fun cdv A outer s H vs Q E hr h => ?_)
  · obtain ⟨v, p, rfl, _⟩ := h
    rfl
  obtain ⟨v, p, rfl, hp, hz, q⟩ := h
  refine ⟨_, (pss_one (ps_ret (pe_callB (cr_sortT rfl) (by rfl) z_sorted boot_sorted (pa_cons (pe_sx (own := [("inner", 1), ("_", 2)]) (g := gTup K 2 (gCons (gName 1) (gCons (gName 2) gNil)))  (by rfl) sc_sources.nd (pi_list (pe_call G_with_levels (hr.mono (by omega)) (by rfl) D_with_levels.m D_with_levels.F.kp D_with_levels.b .nil pass0 (pa_cons (pv 0) pa_nil))) (blkOk_by (own := [("inner", 1), ("_", 2)]) (N := n_sources) (sc := defScope s_sources) (by decide +kernel)) (fun _ _ _ _ _ => (pg_tup (by rfl) (pgs_cons (pg_name (i := 1) sc_sources.nd rfl (by first | exact Or.inl rfl | exact Or.inr rfl)) (pgs_cons (pg_name (i := 2) sc_sources.nd rfl (by first | exact Or.inl rfl | exact Or.inr rfl)) pgs_nil)))) (fun _ _ _ _ _ => (pts_one (pt_cmpR op_eq (pe_ix (r := rIxT K) ix_tup (pv 1) pe_int (fun _ _ => rfl)) pe_str (nomark _)))) (fun _ _ _ _ _ => (pe_ix (r := rIxT K) ix_tup (pv 1) pe_int (fun _ _ => rfl)))) pa_nil)))), ?_⟩
  refine ⟨_, rfl, v, p, rfl, hp, by omega, fun f1 xs ps H1 s1 nf hf hfl hperm => ?_⟩
  have hlen : ps.length ≤ 60 := by rw [hperm.length_eq, subs_len]; exact hz
  refine ⟨f1, rfl, ⟨_, .of hf⟩, fun D nD => ?_⟩
  refine sx_list (xs := xs) (fun i H2 => ∃ (S : Str → Bool) (n : Nat), H2 D = some (SetT P w D S n) ∧ n ≤ i ∧ (∀ z, S z = true ↔ ∃ k, (Pl.src z, k) ∈ ps.take i) ∧ Same H1 H2) ⟨_, 0, upd_same, Nat.le_refl _, fun z => by simp, same_new nD _⟩ (fun i H2 _ hP => ?_) (fun i x H2 hx hP => ?_) (fun H2 hP => ?_)
  · obtain ⟨S, n, _, _, _, h⟩ := hP
    exact h.seq (.of hf)
  · obtain ⟨S, n, b1, b2, b3, b4⟩ := hP
    obtain ⟨q0, t, u, hq, rfl, ht, hpl⟩ := hfl.get hx
    obtain ⟨a, mid, us, rfl, ha, hi, _, h0, h1, _⟩ := hpl.view
    have hi60 : i < 60 := by
      have := (List.getElem?_eq_some_iff.mp hq).1
      omega
    have htk : ps.take (i + 1) = ps.take i ++ [q0] := by rw [List.take_add_one, hq]; rfl
    refine ⟨t, _, rfl, .of (b4 _ _ ht), rfl, _, _, rfl, _, _, rfl, rfl, ?_⟩
    refine ⟨rfl, ?_⟩
    refine ⟨_, rfl, a, _, _, _, rfl, rfl, .of (b4 _ _ ha), atI_nat (j := 0) rfl, rfl, _, rfl, ?_⟩
    refine ite2 (fun e => ?_) (fun e => ?_)
    · have eh : q0.1.head = "source" := V.str.inj (of_decide_eq_true e)
      have hn : q0.1.ins = [] := by
        cases z : q0.1.ins with
        | nil => rfl
        | cons x r => exact absurd eh (h1 (by rw [z]; exact List.cons_ne_nil _ _))
      obtain ⟨nm, en, em, _⟩ := h0 hn
      subst em
      refine ⟨_, rfl, a, _, _, _, rfl, rfl, .of (b4 _ _ ha), atI_nat (j := 1) rfl, nm, S, n, rfl, b1, Nat.lt_of_le_of_lt (show n + 1 ≤ 100 by omega) (by decide), ?_⟩
      refine ⟨_, _, upd_same, ?_, fun z => ?_, fun b o eb => ?_⟩
      · split <;> omega
      · rw [Bool.or_eq_true, decide_eq_true_iff, b3 z, htk]
        constructor
        · rintro (⟨k, hk⟩ | rfl)
          · exact ⟨k, List.mem_append_left _ hk⟩
          · exact ⟨q0.2, List.mem_append_right _ (by rw [← en]; exact List.mem_singleton.mpr rfl)⟩
        · rintro ⟨k, hk⟩
          rcases List.mem_append.mp hk with hk | hk
          · exact .inl ⟨k, hk⟩
          · have e2 := List.mem_singleton.mp hk
            have e3 : Pl.src z = q0.1 := congrArg Prod.fst e2
            rw [en] at e3
            exact .inr (Pl.src.inj e3)
      · rw [upd_ne (ne_of_none eb nD)]
        exact b4 _ _ eb
    · refine ⟨S, n, b1, by omega, fun z => ?_, b4⟩
      rw [b3 z, htk]
      constructor
      · rintro ⟨k, hk⟩
        exact ⟨k, List.mem_append_left _ hk⟩
      · rintro ⟨k, hk⟩
        rcases List.mem_append.mp hk with hk | hk
        · exact ⟨k, hk⟩
        · have e2 := List.mem_singleton.mp hk
          have e3 : Pl.src z = q0.1 := congrArg Prod.fst e2
          exact absurd (decide_eq_true (congrArg V.str (show q0.1.head = "source" by rw [← e3]; rfl))) e
  · obtain ⟨S, n, b1, b2, b3, b4⟩ := hP
    have hxl := hfl.len
    refine ⟨D, S, n, rfl, b1, by omega, fun ys l y1 y2 y3 nl => ?_⟩
    refine q l ys _ ?_ upd_same y1 y2 fun z => ?_
    · exact fun b o eb => by
        have e1 := b4 _ _ (s1 _ _ eb)
        rw [upd_ne (ne_of_none e1 nl)]
        exact e1
    · rw [y3 z, b3 z, hxl, List.take_length, mem_srcs p 1 z]
      exact ⟨fun ⟨k, hk⟩ => ⟨k, hperm.mem_iff.mp hk⟩, fun ⟨k, hk⟩ => ⟨k, hperm.mem_iff.mpr hk⟩⟩
end
end Tf
set_option maxHeartbeats 8000000
namespace Tf
open PySem PySem.Spec PyProof.Rows L2 TL
section
variable {P : Program} {w : World} {K : PySem.W.Frag} {mg : Str → Option Value} {base : Heap}
theorem ok_linputs {f : Addr} {fd : FuncData} (D : DefAt K mg "_law_inputs" s_linputs ["plan"] f fd) : FnOk P w K mg base CX0 1 f fd ["plan"] spLInputs := by
  refine D.F.ok sc_linputs (fun vs H Q E h => ?_) (fun cdv A outer s H vs Q E hr h => ?_)
  · obtain ⟨v, p, rfl, _⟩ := h
    rfl
  obtain ⟨v, p, rfl, hp, q⟩ := h
  obtain ⟨a, mid, vs, rfl, ha, hi, hm, h0, h1, h2, h3⟩ := hp.view
  have hl := hi.len
  refine ⟨_, (pss_cons (ps_if (pt_cmpR op_eq (pe_ix ix_tup (pv 0) pe_int (fun _ _ => rfl)) pe_str (nomark _)) (pss_one (ps_ret (pe_lst pa_nil))) pss_nil) (pss_cons (ps_if (pt_cmpR op_in_seq (pe_ix ix_tup (pv 0) pe_int (fun _ _ => rfl)) (pe_tup (pa_cons pe_str (pa_cons pe_str (pa_cons pe_str (pa_cons pe_str pa_nil))))) rfl) (pss_one (ps_ret (pe_lst (pa_cons (pe_ix ix_tup (pv 0) (pe_un un_neg pe_int) (fun _ _ => rfl)) (pa_cons (pe_ix ix_tup (pv 0) (pe_un un_neg pe_int) (fun _ _ => rfl)) pa_nil))))) pss_nil) (pss_one (ps_ret (pe_lst (pa_cons (pe_ix ix_tup (pv 0) (pe_un un_neg pe_int) (fun _ _ => rfl)) pa_nil)))))), ?_⟩
  refine ⟨_, rfl, a, _, _, _, rfl, rfl, .of ha, atI_nat (j := 0) rfl, rfl, _, rfl, ite2 (fun e => ?_) (fun e => ?_)⟩
  · have e' : p.head = "source" := V.str.inj (of_decide_eq_true e)
    have hn : p.ins = [] := by
      cases z : p.ins with
      | nil => rfl
      | cons x r => exact absurd e' (h1 (by rw [z]; exact List.cons_ne_nil _ _))
    refine ⟨Nat.zero_le _, fun t nt => q t [] _ (same_new nt _) upd_same (by rw [hn]; trivial)⟩
  · have hn : p.ins ≠ [] := fun z => by
      obtain ⟨n, _, _, hh⟩ := h0 z
      exact e (decide_eq_true (congrArg V.str hh))
    refine ⟨_, rfl, a, _, _, _, rfl, rfl, .of ha, atI_nat (j := 0) rfl, (by show 4 ≤ sizeLine; decide), fun tp ntp => ⟨tp, _, rfl, .inr (.of upd_same), rfl, rfl, _, rfl, ?_⟩⟩
    have s1 := same_new ntp (.tup [V.str "both", V.str "less", V.str "without", V.str "near"])
    have ein : (if false = true then !inV (.str p.head) (pairS.map V.str) else inV (.str p.head) (pairS.map V.str)) = decide (p.head ∈ pairS) := by
      rw [if_neg Bool.false_ne_true, in_strs]
    show (if (if false = true then !inV (.str p.head) (pairS.map V.str) else inV (.str p.head) (pairS.map V.str)) = true then _ else _)
    rw [ein]
    refine ite2 (fun e2 => ?_) (fun e2 => ?_)
    · have l2 : vs.length = 2 := by rw [← hl]; exact h2.mpr (of_decide_eq_true e2)
      match vs, l2, ha, hi with
      | [x, y], _, ha, hi =>
        refine ⟨_, rfl, 2, rfl, a, _, _, _, rfl, rfl, .of (s1 _ _ ha), at_back2.1, _, rfl, 1, rfl, a, _, _, _, rfl, rfl, .of (s1 _ _ ha), at_back2.2, (by show 2 ≤ sizeLine; decide), fun t nt => ?_⟩
        exact q t [x, y] _ (s1.trans (same_new nt _)) upd_same hi
    · have l1 : vs.length = 1 := by
        have z0 : p.ins.length ≠ 0 := fun z => hn (List.length_eq_zero_iff.mp z)
        have z2 : p.ins.length ≠ 2 := fun z => e2 (decide_eq_true (h2.mp z))
        omega
      match vs, l1, ha, hi with
      | [y], _, ha, hi =>
        refine ⟨_, rfl, 1, rfl, a, _, _, _, rfl, rfl, .of (s1 _ _ ha), at_back1, (by show 1 ≤ sizeLine; decide), fun t nt => ?_⟩
        exact q t [y] _ (s1.trans (same_new nt _)) upd_same hi
theorem lsrc0 {f : Addr} {fd : FuncData} {k : Nat} : FnOk P w K mg base CX0 k f fd ["plan"] (spLSrc 0) := by
  have no : ∀ vs H Q E, ¬ spLSrc 0 vs H Q E := fun vs H Q E h => by
    obtain ⟨v, p, _, _, h1, _⟩ := h
    rw [size_eq] at h1
    omega
  exact ⟨fun vs H Q E h => absurd h (no vs H Q E), fun A outer s H args us vs Q E _ _ _ _ h => absurd h (no vs H Q E)⟩
theorem size_mem {p x : Pl} (h : x ∈ p.ins) : x.size + 1 ≤ p.size := by
  rw [size_eq p]
  have : ∀ (l : List Pl), x ∈ l → x.size ≤ (l.map Pl.size).sum := by
    intro l
    induction l with
    | nil => intro h; exact absurd h List.not_mem_nil
    | cons y r ih =>
      intro h
      rw [List.map_cons, List.sum_cons]
      rcases List.mem_cons.mp h with e | e
      · rw [e]; omega
      · have := ih e; omega
  have := this _ h
  omega
theorem ok_lsources1 {f fi : Addr} {fd fid : FuncData} {n : Nat} (D_lsources : DefAt K mg "_law_sources" s_lsources ["plan"] f fd) (G_lsources : FnOk P w K mg base CX0 (n + 1) f fd ["plan"] (spLSrc n))
    (D_linputs : DefAt K mg "_law_inputs" s_linputs ["plan"] fi fid) (G_linputs : FnOk P w K mg base CX0 1 fi fid ["plan"] spLInputs) : FnOk P w K mg base CX0 (n + 2) f fd ["plan"] (spLSrc (n + 1)) := by
  refine D_lsources.F.ok sc_lsources (fun vs H Q E h => ?_) (fun cdv A outer s H vs Q E hr h => ?_)
  · obtain ⟨v, p, rfl, _⟩ := h
    rfl
  obtain ⟨v, p, rfl, hp, hz, hn4, q⟩ := h
  obtain ⟨a, mid, vs, rfl, ha, hi, hm, h0, h1, h2, h3⟩ := hp.view
  have hl := hi.len
  refine ⟨_, (pss_cons (ps_if (pt_cmpR op_eq (pe_ix ix_tup (pv 0) pe_int (fun _ _ => rfl)) pe_str (nomark _)) (pss_one (ps_ret (pe_lst (pa_cons (pe_ix ix_tup (pv 0) pe_int (fun _ _ => rfl)) pa_nil)))) pss_nil) (pss_cons (ps_set (i := 1) sc_lsources.nd rfl (by first | exact Or.inl rfl | exact Or.inr rfl) (pe_lst pa_nil)) (pss_cons (ps_for PassesOwn.never rfl (pi_list (pe_call G_linputs (hr.mono (by omega)) (by rfl) D_linputs.m D_linputs.F.kp D_linputs.b .nil pass0 (pa_cons (pv 0) pa_nil))) (pg_name (i := 2) sc_lsources.nd rfl (by first | exact Or.inl rfl | exact Or.inr rfl)) (pss_one (ps_set (i := 1) sc_lsources.nd rfl (by first | exact Or.inl rfl | exact Or.inr rfl) (pe_op op_cat (pv 1) (pe_call G_lsources (hr.mono (by omega)) (by rfl) D_lsources.m D_lsources.F.kp D_lsources.b .nil pass0 (pa_cons (pv 2) pa_nil)))))) (pss_one (ps_ret (pv 1)))))), ?_⟩
  refine ⟨_, rfl, a, _, _, _, rfl, rfl, .of ha, atI_nat (j := 0) rfl, rfl, _, rfl, ite2 (fun e => ?_) (fun e => ?_)⟩
  · have e' : p.head = "source" := V.str.inj (of_decide_eq_true e)
    have hn : p.ins = [] := by
      cases z : p.ins with
      | nil => rfl
      | cons x r => exact absurd e' (h1 (by rw [z]; exact List.cons_ne_nil _ _))
    obtain ⟨nm, en, em, _⟩ := h0 hn
    subst em en
    refine ⟨_, rfl, a, _, _, _, rfl, rfl, .of ha, atI_nat (j := 1) rfl, (by show 1 ≤ sizeLine; decide), fun t nt => ?_⟩
    exact q t _ (same_new nt _) upd_same
  have hn : p.ins ≠ [] := fun z => by
    obtain ⟨n, _, _, hh⟩ := h0 z
    exact e (decide_eq_true (congrArg V.str hh))
  refine ⟨Nat.zero_le _, fun N nN => ?_⟩
  have s1 := same_new nN (.lst [])
  refine ⟨_, rfl, .ref a, p, rfl, hp.mono (.same s1), fun l us H2 s2 hl2 hins => ?_⟩
  have hul := hins.len
  refine ⟨l, rfl, ⟨_, .of hl2⟩, for_list (xs := us) (fun i σ H3 => ∃ (F : Addr) (y : Option V), σ = [some (.ref a), some (.ref F), y] ∧ H3 F = some (.lst (((p.ins.take i).map Pl.srcs).flatten.map V.str)) ∧ Same (upd H N (.lst [])) H3 ∧ H3 l = some (.lst us))
    ⟨N, _, rfl, by rw [List.take_zero]; exact s2 _ _ upd_same, s2, hl2⟩ (fun i σ H3 _ hP => ?_) (fun i x σ H3 hx hP => ?_) (fun σ H3 hP => ?_)⟩
  · obtain ⟨_, _, _, _, _, h⟩ := hP
    exact .of h
  · obtain ⟨F, y, rfl, b1, b2, b3⟩ := hP
    obtain ⟨px, hpx, hpl⟩ := hins.get hx
    have hmem : px ∈ p.ins := List.mem_of_getElem? hpx
    have hsz := size_mem hmem
    refine ⟨_, rfl, _, rfl, x, px, rfl, hpl.mono (.same b2), by omega, by omega, fun l4 H4 s4 hl4 => ?_⟩
    have et : p.ins.take (i + 1) = p.ins.take i ++ [px] := by rw [List.take_add_one, hpx]; rfl
    refine ⟨F, l4, _, _, rfl, rfl, s4 _ _ b1, hl4, ?_, fun t nt => ?_⟩
    · have e1 : ∀ ps : List Pl, ((ps.map Pl.srcs).flatten).length ≤ (ps.map Pl.size).sum := by
        intro ps
        induction ps with
        | nil => exact Nat.le_refl _
        | cons z r ih => rw [List.map_cons, List.flatten_cons, List.length_append, List.map_cons, List.sum_cons]; have := srcs_len z; omega
      have e2 := e1 (p.ins.take (i + 1))
      have e3 : ((p.ins.take (i + 1)).map Pl.size).sum ≤ (p.ins.map Pl.size).sum := by
        rw [show (p.ins.map Pl.size).sum = ((p.ins.take (i + 1)).map Pl.size).sum + ((p.ins.drop (i + 1)).map Pl.size).sum by rw [← List.sum_append, ← List.map_append, List.take_append_drop]]
        omega
      have e4 := size_eq p
      rw [et] at e3
      rw [et, List.map_append, List.flatten_append, List.length_append, List.map_singleton, List.flatten_singleton] at e2
      rw [List.length_map, List.length_map]
      have : (1000 : Nat) ≤ sizeLine := by decide
      omega
    · refine ⟨t, _, rfl, ?_, (b2.trans s4).trans (same_new nt _), ?_⟩
      · rw [upd_same, et, List.map_append, List.flatten_append, List.map_append, List.map_singleton, List.flatten_singleton]
      · rw [upd_ne (ne_of_none (s4 _ _ b3) nt)]
        exact s4 _ _ b3
  · obtain ⟨F, y, rfl, b1, b2, b3⟩ := hP
    refine ⟨_, rfl, ?_⟩
    rw [← hul, List.take_length, ← srcs_eq p hn] at b1
    exact q F H3 (s1.trans b2) b1
theorem ok_lsources {f fi : Addr} {fd fid : FuncData} (D_lsources : DefAt K mg "_law_sources" s_lsources ["plan"] f fd) (D_linputs : DefAt K mg "_law_inputs" s_linputs ["plan"] fi fid) (G_linputs : FnOk P w K mg base CX0 1 fi fid ["plan"] spLInputs) : ∀ n : Nat, FnOk P w K mg base CX0 (n + 1) f fd ["plan"] (spLSrc n)
  | 0 => lsrc0
  | n + 1 => ok_lsources1 D_lsources (ok_lsources D_lsources D_linputs G_linputs n) D_linputs G_linputs
theorem ok_law {f f1 f2 f3 f4 f5 f6 : Addr} {fd fd1 fd2 fd3 fd4 fd5 fd6 : FuncData} (D : DefAt K mg "law" s_law ["script"] f fd)
    (D_draw : DefAt K mg "_law_draw" s_draw ["script"] f1 fd1) (G_draw : FnOk P w K mg base CX0 1 f1 fd1 ["script"] (spDraw K))
    (D_next : DefAt K mg "_law_next" s_next ["draw", "many"] f2 fd2) (G_next : FnOk P w K mg base CX0 1 f2 fd2 ["draw", "many"] spNext)
    (D_tree : DefAt K mg "_law_tree" s_tree ["draw", "size"] f3 fd3) (G_tree : FnOk P w K mg base CX0 22 f3 fd3 ["draw", "size"] (spTree srcS 20))
    (D_lsources : DefAt K mg "_law_sources" s_lsources ["plan"] f4 fd4) (G_lsources : FnOk P w K mg base CX0 21 f4 fd4 ["plan"] (spLSrc 20))
    (D_same : DefAt K mg "_law_same" s_same ["actual", "due"] f5 fd5) (G_same : FnOk P w K mg base CX0 2 f5 fd5 ["actual", "due"] (spS 2))
    (D_sources : DefAt K mg "sources" s_sources ["plan"] f6 fd6) (G_sources : FnOk P w K mg base CX0 3 f6 fd6 ["plan"] spSources) : FnOk P w K mg base CX0 23 f fd ["script"] (spLaw K) := by
  refine D.F.ok sc_law (fun vs H Q E h => ?_) (fun cdv A outer s H vs Q E hr h => ?_)
  · obtain ⟨a, ns, rfl, _⟩ := h
    rfl
  obtain ⟨a, ns, rfl, hS, h63, q⟩ := h
  refine ⟨_, (pss_cons (ps_set (i := 1) sc_law.nd rfl (by first | exact Or.inl rfl | exact Or.inr rfl) (pe_call G_draw (hr.mono (by omega)) (by rfl) D_draw.m D_draw.F.kp D_draw.b .nil pass0 (pa_cons (pv 0) pa_nil))) (pss_cons (ps_set (i := 2) sc_law.nd rfl (by first | exact Or.inl rfl | exact Or.inr rfl) (pe_call G_tree (hr.mono (by omega)) (by rfl) D_tree.m D_tree.F.kp D_tree.b .nil pass0 (pa_cons (pv 1) (pa_cons (pe_op op_add pe_int (pe_call G_next (hr.mono (by omega)) (by rfl) D_next.m D_next.F.kp D_next.b .nil pass0 (pa_cons (pv 1) (pa_cons pe_int pa_nil)))) pa_nil)))) (pss_cons (ps_set (i := 3) sc_law.nd rfl (by first | exact Or.inl rfl | exact Or.inr rfl) (pe_call G_lsources (hr.mono (by omega)) (by rfl) D_lsources.m D_lsources.F.kp D_lsources.b .nil pass0 (pa_cons (pv 2) pa_nil))) (pss_cons (ps_setLc (i := 4) (own := [("name", 5)]) (g := gName 5)  (by rfl) sc_law.nd rfl rfl (sw_true rfl rfl rfl (by decide +kernel)) (pi_list (pe_lst (pa_cons pe_str (pa_cons pe_str (pa_cons pe_str (pa_cons pe_str pa_nil)))))) (blkOk_by (own := [("name", 5)]) (N := n_law) (sc := defScope s_law) (by decide +kernel)) (fun _ _ _ _ _ => (pg_name (i := 5) sc_law.nd rfl (by first | exact Or.inl rfl | exact Or.inr rfl))) (fun _ _ _ _ _ => (pts_one (pt_cmpR (r := rIn K false) op_in_seq (pv 5) (pv 3) rfl))) (fun _ _ _ _ _ => (pv 5))) (pss_one (ps_ret (pe_call G_same (hr.mono (by omega)) (by rfl) D_same.m D_same.F.kp D_same.b .nil pass0 (pa_cons (pe_call G_sources (hr.mono (by omega)) (by rfl) D_sources.m D_sources.F.kp D_sources.b .nil pass0 (pa_cons (pv 2) pa_nil)) (pa_cons (pv 4) pa_nil))))))))), ?_⟩
  refine ⟨_, rfl, a, ns, rfl, hS, h63, fun d sc H1 nd hD1 s1 => ?_⟩
  refine ⟨_, rfl, _, rfl, d, sc, 20, rfl, by decide, by decide, hD1, fun i H2 i0 i1 hD2 hU2 => ⟨_, _, rfl, rfl, d, sc, _, rfl, by omega, by omega, hD2, fun v p H3 hp hpo hps hD3 hU3 => ?_⟩⟩
  have hsz : p.size ≤ 20 := by omega
  refine ⟨_, rfl, v, p, rfl, hp, hsz, by decide, fun nl H4 s4 hnl => ?_⟩
  -- due = [name for name in [..] if name in names]
  refine ⟨(by show 4 ≤ sizeLine; decide), fun l nll => ⟨l, rfl, ⟨_, .of upd_same⟩, fun Dl nD => ?_⟩⟩
  have s5 := same_new nll (.lst (srcS.map V.str))
  refine lc_list (xs := srcS.map V.str) (fun i H5 => H5 Dl = some (.lst (((srcS.take i).filter fun z => decide (z ∈ p.srcs)).map V.str)) ∧ Same (upd H4 l (.lst (srcS.map V.str))) H5) ⟨upd_same, same_new nD _⟩ (fun i H5 _ hP => hP.2.seq (.of upd_same)) (fun i x H5 hx hP => ?_) (fun H5 hP => ?_)
  · obtain ⟨b1, b2⟩ := hP
    obtain ⟨z, hz, rfl⟩ : ∃ z, srcS[i]? = some z ∧ x = .str z := by
      rw [List.getElem?_map] at hx
      cases hq : srcS[i]? with
      | none => rw [hq] at hx; cases hx
      | some s => rw [hq] at hx; exact ⟨s, rfl, (Option.some.inj hx).symm⟩
    have ht : srcS.take (i + 1) = srcS.take i ++ [z] := by rw [List.take_add_one, hz]; rfl
    refine ⟨rfl, ?_⟩
    refine ⟨_, rfl, _, rfl, nl, _, rfl, .inl (.of (b2 _ _ (s5 _ _ hnl))), rfl, all_flat _, _, rfl, ?_⟩
    have ein : (if false = true then !inV (.str z) (p.srcs.map V.str) else inV (.str z) (p.srcs.map V.str)) = decide (z ∈ p.srcs) := by
      rw [if_neg Bool.false_ne_true, in_strs]
    rw [ein]
    refine ite2 (fun e => ?_) (fun e => ?_)
    · refine ⟨_, rfl, _, b1, small1000 ?_, ?_, fun b o eb => ?_⟩
      · rw [List.length_map]
        have := List.length_filter_le (fun z => decide (z ∈ p.srcs)) (srcS.take i)
        rw [List.length_take] at this
        have h4 : srcS.length = 4 := rfl
        omega
      · rw [upd_same, ht, List.filter_append, List.map_append, List.filter_cons, if_pos e]
        rfl
      · rw [upd_ne (ne_of_none eb nD)]
        exact b2 _ _ eb
    · refine ⟨?_, b2⟩
      rw [ht, List.filter_append, List.filter_cons, if_neg e, List.filter_nil, List.append_nil]
      exact b1
  · obtain ⟨b1, b2⟩ := hP
    have k5 : TupUp H3 H5 := ((TupUp.same s4).trans (.same s5)).trans (.same b2)
    refine ⟨_, rfl, v, p, rfl, hp.mono k5, by omega, fun ls ys H6 s6 hls y1 y2 y3 => ?_⟩
    have ey := sorted_is y1 y2 y3 (ok_srcs hpo)
    have e4 : srcS.take (srcS.map V.str).length = srcS := List.take_of_length_le (by rw [List.length_map]; exact Nat.le_refl _)
    rw [e4, ← ey] at b1
    refine ⟨_, rfl, 1, _, _, rfl, rfl, ?_, fun H7 _ => q H7⟩
    refine .inr ⟨false, ls, Dl, _, _, rfl, rfl, hls, s6 _ _ b1, rfl, ?_, fun i u w' hu hw => ?_⟩
    · rw [List.length_map, ey]
      have := List.length_filter_le (fun z => decide (z ∈ p.srcs)) srcS
      have h4 : srcS.length = 4 := rfl
      omega
    · rw [hu] at hw
      have e := Option.some.inj hw
      subst e
      obtain ⟨z, _, rfl⟩ := List.mem_map.mp (List.mem_of_getElem? hu)
      exact .inr (.inl ⟨z, rfl, rfl⟩)
end
end Tf
set_option maxHeartbeats 8000000
namespace Tf
open PySem PySem.Spec PyProof.Rows L2 TL
theorem all_mk {l : PySem.W.OpenLaw} {w : World} {K : PySem.W.Frag} {h : Heap} {mg : Str → Option Value} {fa : Addr} (X : K.In h) (G : h.Ns mainGlobals mg) (hfa : mg "law" = some (.ref fa))
    {f0 f1 f2 f3 f4 f5 f6 f7 f8 f9 f10 f11 f12 : Addr}
    {od0 an0 od1 an1 od2 an2 od3 an3 od4 an4 od5 an5 od6 an6 od7 an7 od8 an8 od9 an9 od10 an10 od11 an11 od12 an12 : Option Addr}
    {sl0 sl1 sl2 sl3 sl4 sl5 sl6 sl7 sl8 sl9 sl10 sl11 sl12 : Array (Option Value)}
    {oc0 kV0 dc0 pm0 cd0 ct0 oc1 kV1 dc1 pm1 cd1 ct1 oc2 kV2 dc2 pm2 cd2 ct2 oc3 kV3 dc3 pm3 cd3 ct3 oc4 kV4 dc4 pm4 cd4 ct4 oc5 kV5 dc5 pm5 cd5 ct5 oc6 kV6 dc6 pm6 cd6 ct6 oc7 kV7 dc7 pm7 cd7 ct7 oc8 kV8 dc8 pm8 cd8 ct8 oc9 kV9 dc9 pm9 cd9 ct9 oc10 kV10 dc10 pm10 cd10 ct10 oc11 kV11 dc11 pm11 cd11 ct11 oc12 kV12 dc12 pm12 cd12 ct12 : Value}
    (a0 : PySem.W.nsIn K mainGlobals "inputs_of" = some (some (.ref f0)))
    (l0 : K.lookup f0 = some ⟨oc0, od0, .func (PySem.W.fnOf "inputs_of" "inputs_of" (defArgs s_inputs_of) (defBody s_inputs_of) (defScope s_inputs_of) .none kV0 dc0 pm0 an0 cd0 ct0), sl0⟩)
    (c0 : PySem.W.codeIn K cd0 "inputs_of" = true) (k0 : PySem.W.keepIn K (.ref f0) = true)
    (a1 : PySem.W.nsIn K mainGlobals "with_levels" = some (some (.ref f1)))
    (l1 : K.lookup f1 = some ⟨oc1, od1, .func (PySem.W.fnOf "with_levels" "with_levels" (defArgs s_with_levels) (defBody s_with_levels) (defScope s_with_levels) .none kV1 dc1 pm1 an1 cd1 ct1), sl1⟩)
    (c1 : PySem.W.codeIn K cd1 "with_levels" = true) (k1 : PySem.W.keepIn K (.ref f1) = true)
    (a2 : PySem.W.nsIn K mainGlobals "sources" = some (some (.ref f2)))
    (l2 : K.lookup f2 = some ⟨oc2, od2, .func (PySem.W.fnOf "sources" "sources" (defArgs s_sources) (defBody s_sources) (defScope s_sources) .none kV2 dc2 pm2 an2 cd2 ct2), sl2⟩)
    (c2 : PySem.W.codeIn K cd2 "sources" = true) (k2 : PySem.W.keepIn K (.ref f2) = true)
    (a3 : PySem.W.nsIn K mainGlobals "_law_draw" = some (some (.ref f3)))
    (l3 : K.lookup f3 = some ⟨oc3, od3, .func (PySem.W.fnOf "_law_draw" "_law_draw" (defArgs s_draw) (defBody s_draw) (defScope s_draw) .none kV3 dc3 pm3 an3 cd3 ct3), sl3⟩)
    (c3 : PySem.W.codeIn K cd3 "_law_draw" = true) (k3 : PySem.W.keepIn K (.ref f3) = true)
    (a4 : PySem.W.nsIn K mainGlobals "_law_next" = some (some (.ref f4)))
    (l4 : K.lookup f4 = some ⟨oc4, od4, .func (PySem.W.fnOf "_law_next" "_law_next" (defArgs s_next) (defBody s_next) (defScope s_next) .none kV4 dc4 pm4 an4 cd4 ct4), sl4⟩)
    (c4 : PySem.W.codeIn K cd4 "_law_next" = true) (k4 : PySem.W.keepIn K (.ref f4) = true)
    (a5 : PySem.W.nsIn K mainGlobals "_law_same" = some (some (.ref f5)))
    (l5 : K.lookup f5 = some ⟨oc5, od5, .func (PySem.W.fnOf "_law_same" "_law_same" (defArgs s_same) (defBody s_same) (defScope s_same) .none kV5 dc5 pm5 an5 cd5 ct5), sl5⟩)
    (c5 : PySem.W.codeIn K cd5 "_law_same" = true) (k5 : PySem.W.keepIn K (.ref f5) = true)
    (a6 : PySem.W.nsIn K mainGlobals "_law_stage" = some (some (.ref f6)))
    (l6 : K.lookup f6 = some ⟨oc6, od6, .func (PySem.W.fnOf "_law_stage" "_law_stage" (defArgs s_stage) (defBody s_stage) (defScope s_stage) .none kV6 dc6 pm6 an6 cd6 ct6), sl6⟩)
    (c6 : PySem.W.codeIn K cd6 "_law_stage" = true) (k6 : PySem.W.keepIn K (.ref f6) = true)
    (a7 : PySem.W.nsIn K mainGlobals "_law_aggregate" = some (some (.ref f7)))
    (l7 : K.lookup f7 = some ⟨oc7, od7, .func (PySem.W.fnOf "_law_aggregate" "_law_aggregate" (defArgs s_aggregate) (defBody s_aggregate) (defScope s_aggregate) .none kV7 dc7 pm7 an7 cd7 ct7), sl7⟩)
    (c7 : PySem.W.codeIn K cd7 "_law_aggregate" = true) (k7 : PySem.W.keepIn K (.ref f7) = true)
    (a8 : PySem.W.nsIn K mainGlobals "_law_span" = some (some (.ref f8)))
    (l8 : K.lookup f8 = some ⟨oc8, od8, .func (PySem.W.fnOf "_law_span" "_law_span" (defArgs s_span) (defBody s_span) (defScope s_span) .none kV8 dc8 pm8 an8 cd8 ct8), sl8⟩)
    (c8 : PySem.W.codeIn K cd8 "_law_span" = true) (k8 : PySem.W.keepIn K (.ref f8) = true)
    (a9 : PySem.W.nsIn K mainGlobals "_law_tree" = some (some (.ref f9)))
    (l9 : K.lookup f9 = some ⟨oc9, od9, .func (PySem.W.fnOf "_law_tree" "_law_tree" (defArgs s_tree) (defBody s_tree) (defScope s_tree) .none kV9 dc9 pm9 an9 cd9 ct9), sl9⟩)
    (c9 : PySem.W.codeIn K cd9 "_law_tree" = true) (k9 : PySem.W.keepIn K (.ref f9) = true)
    (a10 : PySem.W.nsIn K mainGlobals "_law_inputs" = some (some (.ref f10)))
    (l10 : K.lookup f10 = some ⟨oc10, od10, .func (PySem.W.fnOf "_law_inputs" "_law_inputs" (defArgs s_linputs) (defBody s_linputs) (defScope s_linputs) .none kV10 dc10 pm10 an10 cd10 ct10), sl10⟩)
    (c10 : PySem.W.codeIn K cd10 "_law_inputs" = true) (k10 : PySem.W.keepIn K (.ref f10) = true)
    (a11 : PySem.W.nsIn K mainGlobals "_law_sources" = some (some (.ref f11)))
    (l11 : K.lookup f11 = some ⟨oc11, od11, .func (PySem.W.fnOf "_law_sources" "_law_sources" (defArgs s_lsources) (defBody s_lsources) (defScope s_lsources) .none kV11 dc11 pm11 an11 cd11 ct11), sl11⟩)
    (c11 : PySem.W.codeIn K cd11 "_law_sources" = true) (k11 : PySem.W.keepIn K (.ref f11) = true)
    (a12 : PySem.W.nsIn K mainGlobals "law" = some (some (.ref f12)))
    (l12 : K.lookup f12 = some ⟨oc12, od12, .func (PySem.W.fnOf "law" "law" (defArgs s_law) (defBody s_law) (defScope s_law) .none kV12 dc12 pm12 an12 cd12 ct12), sl12⟩)
    (c12 : PySem.W.codeIn K cd12 "law" = true) (k12 : PySem.W.keepIn K (.ref f12) = true)
    (b_int : PySem.W.nsIn K mainGlobals "int" = some none)
    (b_len : PySem.W.nsIn K mainGlobals "len" = some none)
    (b_abs : PySem.W.nsIn K mainGlobals "abs" = some none)
    (b_isinstance : PySem.W.nsIn K mainGlobals "isinstance" = some none)
    (b_list : PySem.W.nsIn K mainGlobals "list" = some none)
    (b_tuple : PySem.W.nsIn K mainGlobals "tuple" = some none)
    (b_bool : PySem.W.nsIn K mainGlobals "bool" = some none)
    (b_str : PySem.W.nsIn K mainGlobals "str" = some none)
    (b_all : PySem.W.nsIn K mainGlobals "all" = some none)
    (b_range : PySem.W.nsIn K mainGlobals "range" = some none)
    (b_sorted : PySem.W.nsIn K mainGlobals "sorted" = some none)
    {a_PAIRS : Addr} {o_PAIRS : Obj} {i_PAIRS : Array Value} {n_PAIRS : Nat} (v_PAIRS : PySem.W.nsIn K mainGlobals "PAIRS" = some (some (.ref a_PAIRS))) (w_PAIRS : K.lookup a_PAIRS = some o_PAIRS) (x_PAIRS : o_PAIRS.cls = .type "tuple") (y_PAIRS : o_PAIRS.data = .seq i_PAIRS n_PAIRS) (z_PAIRS : i_PAIRS.size ≤ sizeLine) (r_PAIRS : Vals (pairS.map V.str) i_PAIRS.toList) :
    ∃ fd : FuncData, (∀ (s : Shared) (v : Value), BindsTo s fd ⟨[v], []⟩ [("script", v)]) ∧ ∀ base : Heap, K.In base → base.Ns mainGlobals mg → FnOk l.prog w K mg base CX0 23 fa fd ["script"] (spLaw K) := by
  have e := (PySem.W.mg_of X G a12).symm.trans hfa
  cases e
  have F0 := fun_mk (st := s_inputs_of) l0 c0 k0
  have D_inputs_of : DefAt K mg "inputs_of" s_inputs_of ["plan"] f0 _ := ⟨F0, PySem.W.mg_of X G a0, F0.binds (ps := ["plan"]) fun _ _ _ _ _ _ us hl => match us, hl with | [_], _ => rfl⟩
  have F1 := fun_mk (st := s_with_levels) l1 c1 k1
  have D_with_levels : DefAt K mg "with_levels" s_with_levels ["plan"] f1 _ := ⟨F1, PySem.W.mg_of X G a1, F1.binds (ps := ["plan"]) fun _ _ _ _ _ _ us hl => match us, hl with | [_], _ => rfl⟩
  have F2 := fun_mk (st := s_sources) l2 c2 k2
  have D_sources : DefAt K mg "sources" s_sources ["plan"] f2 _ := ⟨F2, PySem.W.mg_of X G a2, F2.binds (ps := ["plan"]) fun _ _ _ _ _ _ us hl => match us, hl with | [_], _ => rfl⟩
  have F3 := fun_mk (st := s_draw) l3 c3 k3
  have D_draw : DefAt K mg "_law_draw" s_draw ["script"] f3 _ := ⟨F3, PySem.W.mg_of X G a3, F3.binds (ps := ["script"]) fun _ _ _ _ _ _ us hl => match us, hl with | [_], _ => rfl⟩
  have F4 := fun_mk (st := s_next) l4 c4 k4
  have D_next : DefAt K mg "_law_next" s_next ["draw", "many"] f4 _ := ⟨F4, PySem.W.mg_of X G a4, F4.binds (ps := ["draw", "many"]) fun _ _ _ _ _ _ us hl => match us, hl with | [_, _], _ => rfl⟩
  have F5 := fun_mk (st := s_same) l5 c5 k5
  have D_same : DefAt K mg "_law_same" s_same ["actual", "due"] f5 _ := ⟨F5, PySem.W.mg_of X G a5, F5.binds (ps := ["actual", "due"]) fun _ _ _ _ _ _ us hl => match us, hl with | [_, _], _ => rfl⟩
  have F6 := fun_mk (st := s_stage) l6 c6 k6
  have D_stage : DefAt K mg "_law_stage" s_stage ["draw"] f6 _ := ⟨F6, PySem.W.mg_of X G a6, F6.binds (ps := ["draw"]) fun _ _ _ _ _ _ us hl => match us, hl with | [_], _ => rfl⟩
  have F7 := fun_mk (st := s_aggregate) l7 c7 k7
  have D_aggregate : DefAt K mg "_law_aggregate" s_aggregate ["draw"] f7 _ := ⟨F7, PySem.W.mg_of X G a7, F7.binds (ps := ["draw"]) fun _ _ _ _ _ _ us hl => match us, hl with | [_], _ => rfl⟩
  have F8 := fun_mk (st := s_span) l8 c8 k8
  have D_span : DefAt K mg "_law_span" s_span ["draw"] f8 _ := ⟨F8, PySem.W.mg_of X G a8, F8.binds (ps := ["draw"]) fun _ _ _ _ _ _ us hl => match us, hl with | [_], _ => rfl⟩
  have F9 := fun_mk (st := s_tree) l9 c9 k9
  have D_tree : DefAt K mg "_law_tree" s_tree ["draw", "size"] f9 _ := ⟨F9, PySem.W.mg_of X G a9, F9.binds (ps := ["draw", "size"]) fun _ _ _ _ _ _ us hl => match us, hl with | [_, _], _ => rfl⟩
  have F10 := fun_mk (st := s_linputs) l10 c10 k10
  have D_linputs : DefAt K mg "_law_inputs" s_linputs ["plan"] f10 _ := ⟨F10, PySem.W.mg_of X G a10, F10.binds (ps := ["plan"]) fun _ _ _ _ _ _ us hl => match us, hl with | [_], _ => rfl⟩
  have F11 := fun_mk (st := s_lsources) l11 c11 k11
  have D_lsources : DefAt K mg "_law_sources" s_lsources ["plan"] f11 _ := ⟨F11, PySem.W.mg_of X G a11, F11.binds (ps := ["plan"]) fun _ _ _ _ _ _ us hl => match us, hl with | [_], _ => rfl⟩
  have F12 := fun_mk (st := s_law) l12 c12 k12
  have D_law : DefAt K mg "law" s_law ["script"] fa _ := ⟨F12, PySem.W.mg_of X G a12, F12.binds (ps := ["script"]) fun _ _ _ _ _ _ us hl => match us, hl with | [_], _ => rfl⟩
  have z_int := PySem.W.mg_none_of X G b_int
  have z_len := PySem.W.mg_none_of X G b_len
  have z_abs := PySem.W.mg_none_of X G b_abs
  have z_isinstance := PySem.W.mg_none_of X G b_isinstance
  have z_list := PySem.W.mg_none_of X G b_list
  have z_tuple := PySem.W.mg_none_of X G b_tuple
  have z_bool := PySem.W.mg_none_of X G b_bool
  have z_str := PySem.W.mg_none_of X G b_str
  have z_all := PySem.W.mg_none_of X G b_all
  have z_range := PySem.W.mg_none_of X G b_range
  have z_sorted := PySem.W.mg_none_of X G b_sorted
  have g_PAIRS := PySem.W.mg_of X G v_PAIRS
  have h_PAIRS : ∀ H, SqT K H a_PAIRS (pairS.map V.str) := fun H => .inr ⟨o_PAIRS, i_PAIRS, n_PAIRS, w_PAIRS, x_PAIRS, y_PAIRS, z_PAIRS, r_PAIRS⟩
  refine ⟨PySem.W.fnOf "law" "law" (defArgs s_law) (defBody s_law) (defScope s_law) .none kV12 dc12 pm12 an12 cd12 ct12, fun s v => .of_eq rfl, fun base _ _ => ?_⟩
  have G_next := ok_next (P := l.prog) (w := w) (base := base) D_next z_int z_len z_abs
  have G_same := ok_same (P := l.prog) (w := w) (base := base) D_same z_isinstance z_list z_tuple z_bool z_str z_int z_len z_all z_range 2
  have G_stage := ok_stage (P := l.prog) (w := w) (base := base) D_stage D_next G_next z_tuple
  have G_agg := ok_aggregate (P := l.prog) (w := w) (base := base) D_aggregate D_next G_next
  have G_span := ok_span (P := l.prog) (w := w) (base := base) D_span D_next G_next
  have G_tree := ok_tree (P := l.prog) (w := w) (base := base) D_tree D_next G_next D_stage G_stage D_span G_span D_aggregate G_agg 20
  have G_io := ok_inputs_of (P := l.prog) (w := w) (base := base) D_inputs_of g_PAIRS h_PAIRS
  have G_wl := ok_with_levels (P := l.prog) (w := w) (base := base) D_with_levels D_inputs_of G_io
  have G_so := ok_sources (P := l.prog) (w := w) (base := base) D_sources D_with_levels G_wl z_sorted
  have G_li := ok_linputs (P := l.prog) (w := w) (base := base) D_linputs
  have G_ls := ok_lsources (P := l.prog) (w := w) (base := base) D_lsources D_linputs G_li 20
  exact ok_law D_law D_draw (ok_draw D_draw z_list) D_next G_next D_tree G_tree D_lsources G_ls D_same G_same D_sources G_so
end Tf
set_option maxHeartbeats 8000000
open PySem PySem.W PyProof.Rows
set_option maxRecDepth 100000 in
set_option maxHeartbeats 0 in
theorem PySem.Challenge.cw_tidefold_k05_sources_of_plans_holds : PySem.Challenge.rw_tidefold_k05_sources_of_plans.Holds := by
  w_on; o_law; k_head; (case hw => w_witness2)
  k_fill
  refine L2.walk_of (l := PySem.Challenge.rw_tidefold_k05_sources_of_plans) (n := 63) (k := 23) (x := "script") (CX := fun _ => L2.CX0) (sp := fun w => Tf.spLaw _) rfl (by decide) rfl ⟨rfl, by decide, by decide⟩ (fun w h Y => PySem.W.kIn_of Y) ?F (fun _ _ a ns hl _ hS => ⟨a, ns, rfl, hS, hl, fun _ => rfl⟩) (fun _ _ _ _ _ h => h)
  case F =>
    intro w mg fa h KX G hmg
    refine' Tf.all_mk KX G hmg ?a0 ?l0 ?c0 ?k0 ?a1 ?l1 ?c1 ?k1 ?a2 ?l2 ?c2 ?k2 ?a3 ?l3 ?c3 ?k3 ?a4 ?l4 ?c4 ?k4 ?a5 ?l5 ?c5 ?k5 ?a6 ?l6 ?c6 ?k6 ?a7 ?l7 ?c7 ?k7 ?a8 ?l8 ?c8 ?k8 ?a9 ?l9 ?c9 ?k9 ?a10 ?l10 ?c10 ?k10 ?a11 ?l11 ?c11 ?k11 ?a12 ?l12 ?c12 ?k12 ?b_int ?b_len ?b_abs ?b_isinstance ?b_list ?b_tuple ?b_bool ?b_str ?b_all ?b_range ?b_sorted ?v_PAIRS ?w_PAIRS ?x_PAIRS ?y_PAIRS ?z_PAIRS ?r_PAIRS
    (case a0 => k_is)
    (case l0 => k_is)
    (case c0 => k_is)
    (case k0 => k_is)
    (case a1 => k_is)
    (case l1 => k_is)
    (case c1 => k_is)
    (case k1 => k_is)
    (case a2 => k_is)
    (case l2 => k_is)
    (case c2 => k_is)
    (case k2 => k_is)
    (case a3 => k_is)
    (case l3 => k_is)
    (case c3 => k_is)
    (case k3 => k_is)
    (case a4 => k_is)
    (case l4 => k_is)
    (case c4 => k_is)
    (case k4 => k_is)
    (case a5 => k_is)
    (case l5 => k_is)
    (case c5 => k_is)
    (case k5 => k_is)
    (case a6 => k_is)
    (case l6 => k_is)
    (case c6 => k_is)
    (case k6 => k_is)
    (case a7 => k_is)
    (case l7 => k_is)
    (case c7 => k_is)
    (case k7 => k_is)
    (case a8 => k_is)
    (case l8 => k_is)
    (case c8 => k_is)
    (case k8 => k_is)
    (case a9 => k_is)
    (case l9 => k_is)
    (case c9 => k_is)
    (case k9 => k_is)
    (case a10 => k_is)
    (case l10 => k_is)
    (case c10 => k_is)
    (case k10 => k_is)
    (case a11 => k_is)
    (case l11 => k_is)
    (case c11 => k_is)
    (case k11 => k_is)
    (case a12 => k_is)
    (case l12 => k_is)
    (case c12 => k_is)
    (case k12 => k_is)
    (case b_int => k_is)
    (case b_len => k_is)
    (case b_abs => k_is)
    (case b_isinstance => k_is)
    (case b_list => k_is)
    (case b_tuple => k_is)
    (case b_bool => k_is)
    (case b_str => k_is)
    (case b_all => k_is)
    (case b_range => k_is)
    (case b_sorted => k_is)
    (case v_PAIRS => k_is)
    (case w_PAIRS => k_is)
    (case x_PAIRS => exact rfl)
    (case y_PAIRS => exact rfl)
    (case z_PAIRS => decide)
    (case r_PAIRS => repeat (first | exact Paired.nil | refine Paired.cons ⟨_, rfl⟩ ?_))
