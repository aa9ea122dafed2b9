import PyProof.Rows.All
import Wide.All
import OpenK.AllK
import Wide.FinOn
import HandS.ForMost
import HandS.IsInst
import HandS.StrMore
import HandS.Evl
import PySem.Challenge.RW_tidefold_k01_tokens
set_option Elab.async false
set_option linter.all false
set_option maxRecDepth 100000
set_option maxHeartbeats 4000000
namespace Tf
open PySem PySem.Spec PyProof.Rows L2

/-! ### heaps: all but what stands at d stays -/
def Up (d : Addr) (H H' : Hp) : Prop := ∀ b o, b ≠ d → H b = some o → H' b = some o
theorem Up.refl {d : Addr} {H : Hp} : Up d H H := fun _ _ _ h => h
theorem Up.trans {d : Addr} {H H1 H2 : Hp} (a : Up d H H1) (b : Up d H1 H2) : Up d H H2 := fun c o n h => b c o n (a c o n h)
theorem Up.same {d : Addr} {H H' : Hp} (a : Same H H') : Up d H H' := fun c o _ h => a c o h
theorem Up.new {d : Addr} {H : Hp} {p : Addr} {o : HO} (h : H p = none) : Up d H (upd H p o) := fun b u _ e => by rw [upd_ne (ne_of_none e h)]; exact e
theorem Up.at {d : Addr} {H : Hp} {o : HO} : Up d H (upd H d o) := fun b u n e => by rw [upd_ne n]; exact e
/-- a list that the call before did not know may change -/
theorem Up.mut {d : Addr} {H H' : Hp} {p : Addr} {o : HO} (a : Up d H H') (h : H p = none) : Up d H (upd H' p o) := fun b u n e => by
  rw [upd_ne (ne_of_none e h)]
  exact a b u n e
theorem same_new {H : Hp} {p : Addr} (h : H p = none) (o : HO) : Same H (upd H p o) := fun b u q => by rw [upd_ne (ne_of_none q h)]; exact q
theorem Up.seq {d a : Addr} {K : PySem.W.Frag} {H H' : Hp} {xs : List V} (u : Up d H H') (n : a ≠ d) (h : SqL K H a xs) : SqL K H' a xs := by
  rcases h with (h | ⟨o, h⟩) | h
  · exact .inl (.inl (u _ _ n h))
  · exact .inl (.inr ⟨o, u _ _ n h⟩)
  · exact .inr h
/-! ### the numbers that are drawn -/
def Dr (sc : Addr) (H : Hp) (d : Addr) : Prop := ∃ (ns : List Int) (i : Nat) (big st : Int), H d = some (.lst [.ref sc, .int i, .int big, .int st]) ∧ H sc = some (.lst (ns.map V.int)) ∧ sc ≠ d ∧ 0 ≤ big ∧ 0 ≤ st ∧ st < 2147483647
theorem Dr.up {sc : Addr} {H H' : Hp} {d : Addr} (h : Dr sc H d) (k : ∀ b o, H b = some o → H' b = some o) : Dr sc H' d := by
  obtain ⟨ns, i, big, st, h1, h2, r⟩ := h
  exact ⟨ns, i, big, st, k _ _ h1, k _ _ h2, r⟩
theorem Dr.new {sc : Addr} {H : Hp} {d p : Addr} {o : HO} (h : Dr sc H d) (n : H p = none) : Dr sc (upd H p o) d := h.up (same_new n o)
theorem Dr.ne {sc : Addr} {H : Hp} {d p : Addr} (h : Dr sc H d) (n : H p = none) : p ≠ d := by
  obtain ⟨ns, i, big, st, h1, h2, r⟩ := h
  exact (ne_of_none h1 n).symm
theorem Dr.nes {sc : Addr} {H : Hp} {d p : Addr} (h : Dr sc H d) (n : H p = none) : p ≠ sc := by
  obtain ⟨ns, i, big, st, h1, h2, r⟩ := h
  exact (ne_of_none h2 n).symm
theorem Dr.lst {sc : Addr} {H : Hp} {d : Addr} (h : Dr sc H d) : ∃ xs, H d = some (.lst xs) := by
  obtain ⟨ns, i, big, st, h1, _⟩ := h
  exact ⟨_, h1⟩
/-- another object may change -/
theorem Dr.mut {sc : Addr} {H : Hp} {d p : Addr} {o : HO} (h : Dr sc H d) (n : p ≠ d) (m : p ≠ sc) : Dr sc (upd H p o) d := by
  obtain ⟨ns, i, big, st, h1, h2, r⟩ := h
  exact ⟨ns, i, big, st, by rw [upd_ne n.symm]; exact h1, by rw [upd_ne m.symm]; exact h2, r⟩
theorem Up.free {sc d : Addr} {H H' : Hp} (u : Up d H H') (h2 : Dr sc H' d) {t : Addr} (h : H' t = none) : H t = none := by
  cases e : H t with
  | none => rfl
  | some o =>
    rw [u t o (h2.ne h) e] at h
    cases h
def spNext : Sp := fun vs H Q _ => ∃ (d sc : Addr) (m : Int), vs = [.ref d, .int m] ∧ 1 ≤ m ∧ m < 1073741824 ∧ Dr sc H d ∧ ∀ (i : Int) (H' : Hp), 0 ≤ i → i < m → Dr sc H' d → Up d H H' → Q (.int i) H'
/-- a def of the text, where it stands, how its arguments bind -/
structure DefAt (K : PySem.W.Frag) (mg : Str → Option Value) (x : Str) (st : Stmt) (ps : List Str) (f : Addr) (fd : FuncData) : Prop where
  F : Fun K x x st f fd
  m : mg x = some (.ref f)
  b : Binds K fd ps []
section
variable {X : Cx} {x : Str} {pos : Pos}
theorem gl_str {z : Str} {t : Tok} (hg : Gl X x) (hm : X.mg x = some (.str z t)) (hd : (x == ("__debug__" : Str)) = false := by decide) : PE X (.Name x pos) (tC (.str z)) := pe_glob (v := .str z) hg hm ⟨_, rfl⟩ hd
theorem gl_int {z : Int} {t : Tok} (hg : Gl X x) (hm : X.mg x = some (.int z t)) (hd : (x == ("__debug__" : Str)) = false := by decide) : PE X (.Name x pos) (tC (.int z)) := pe_glob (v := .int z) hg hm ⟨_, rfl⟩ hd
theorem gl_ref {a : Addr} (hg : Gl X x) (hm : X.mg x = some (.ref a)) (hd : (x == ("__debug__" : Str)) = false := by decide) : PE X (.Name x pos) (tC (.ref a)) := pe_glob (v := .ref a) hg hm rfl hd
end
end Tf
set_option maxHeartbeats 4000000
namespace Tf
open PySem PySem.Spec PyProof.Rows L2 TL

/-! ### letters, digits, signs -/
def Lt (c : Nat) : Prop := 97 ≤ c ∧ c ≤ 122
def Dg (c : Nat) : Prop := 48 ≤ c ∧ c ≤ 57
def Bl (c : Nat) : Prop := c = 32 ∨ c = 10
instance (c : Nat) : Decidable (Lt c) := by unfold Lt; infer_instance
instance (c : Nat) : Decidable (Dg c) := by unfold Dg; infer_instance
instance (c : Nat) : Decidable (Bl c) := by unfold Bl; infer_instance
/-- the signs in the order in which they are tried -/
def sgL : List (List Nat) := [[60, 61], [62, 61], [33, 61], [40], [41], [44], [124], [60], [62], [61]]
def sgS : List Str := ["<=", ">=", "!=", "(", ")", ",", "|", "<", ">", "="]
theorem sg_tl : sgS.map tl = sgL := by decide +kernel
/-- what one token is, ahead of r -/
inductive Tok1 (w r : List Nat) : Str → Prop
  | word (h : w ≠ []) (hw : ∀ c ∈ w, Lt c) (hr : ∀ c, r.head? = some c → ¬ Lt c) : Tok1 w r "word"
  | num {ds : List Nat} (h : ds ≠ []) (hd : ∀ c ∈ ds, Dg c) (hr : ∀ c, r.head? = some c → ¬ Dg c) (hw : w = ds ∨ w = 45 :: ds) : Tok1 w r "number"
  | sign (h : w ∈ sgL) (hr : w = [60] ∨ w = [62] → ∀ c, r.head? = some c → c ≠ 61) : Tok1 w r "sign"
def TokVal (kind : Str) (w : List Nat) (v : V) : Prop := (kind = "number" ∧ w.length ≤ 640 ∧ ∃ n, PySem.intText? ⟨w.toArray⟩ = some n ∧ v = .int n) ∨ (kind ≠ "number" ∧ v = .str ⟨w.toArray⟩)
abbrev Tk := Str × V × Nat
/-- the tokens of a text from a place on -/
inductive Lex : Nat → List Nat → List Tk → Prop
  | nil (p : Nat) : Lex p [] []
  | blank {p c r d} (h : Bl c) (k : Lex (p + 1) r d) : Lex p (c :: r) d
  | tok {p w r kind v d} (h : Tok1 w r kind) (hv : TokVal kind w v) (k : Lex (p + w.length) r d) : Lex p (w ++ r) ((kind, v, p) :: d)
theorem Tok1.ne {w r : List Nat} {kind : Str} (h : Tok1 w r kind) : w ≠ [] := by
  cases h with
  | word h _ _ => exact h
  | num h _ _ hw => rcases hw with e | e <;> rw [e] <;> first | exact h | exact List.cons_ne_nil _ _
  | sign h _ =>
    intro e
    rw [e] at h
    exact absurd h (by decide)
theorem Lex.blanks : ∀ {g : List Nat} {p : Nat} {r : List Nat} {d : List Tk}, (∀ c ∈ g, Bl c) → Lex (p + g.length) r d → Lex p (g ++ r) d
  | [], _, _, _, _, k => k
  | c :: g, p, r, d, h, k => Lex.blank (h c (List.mem_cons_self ..)) (Lex.blanks (fun x hx => h x (List.mem_cons_of_mem _ hx)) (by
      have e : p + 1 + g.length = p + (c :: g).length := by rw [List.length_cons]; omega
      rw [e]; exact k))
/-! ### what is written: gaps and tokens -/
structure Itm where
  g : List Nat
  w : List Nat
  kind : Str
  v : V
inductive Wf : List Nat → Str → Prop
  | word {w} (h : w ≠ []) (hw : ∀ c ∈ w, Lt c) : Wf w "word"
  | num {w ds} (h : ds ≠ []) (hd : ∀ c ∈ ds, Dg c) (hw : w = ds ∨ w = 45 :: ds) : Wf w "number"
  | sign {w} (h : w ∈ sgL) : Wf w "sign"
theorem Wf.ne {w : List Nat} {kind : Str} (h : Wf w kind) : w ≠ [] := by
  cases h with
  | word h _ => exact h
  | num h _ hw => rcases hw with e | e <;> rw [e] <;> first | exact h | exact List.cons_ne_nil _ _
  | sign h =>
    intro e
    rw [e] at h
    exact absurd h (by decide)
/-- two tokens may stand beside each other with nothing between them -/
def Apart (p w : List Nat) : Prop := ∀ a b, p.getLast? = some a → w.head? = some b → ¬ (Lt a ∧ Lt b) ∧ ¬ (Dg a ∧ Dg b) ∧ ((p = [60] ∨ p = [62]) → b ≠ 61)
def ItmOk (p : List Nat) (x : Itm) : Prop := (∀ c ∈ x.g, Bl c) ∧ Wf x.w x.kind ∧ TokVal x.kind x.w x.v ∧ (x.g = [] → Apart p x.w)
def Chain : List Nat → List Itm → Prop
  | _, [] => True
  | p, x :: r => ItmOk p x ∧ Chain x.w r
def render : List Itm → List Nat
  | [] => []
  | x :: r => x.g ++ (x.w ++ render r)
def places : Nat → List Itm → List Tk
  | _, [] => []
  | p, x :: r => (x.kind, x.v, p + x.g.length) :: places (p + x.g.length + x.w.length) r
def lastw : List Nat → List Itm → List Nat
  | p, [] => p
  | _, x :: r => lastw x.w r
theorem chain_snoc : ∀ {l : List Itm} {p : List Nat} {x : Itm}, Chain p l → ItmOk (lastw p l) x → Chain p (l ++ [x])
  | [], _, _, _, h => ⟨h, trivial⟩
  | y :: l, p, x, ⟨h1, h2⟩, h => ⟨h1, chain_snoc h2 h⟩
theorem lastw_snoc : ∀ {l : List Itm} {p : List Nat} {x : Itm}, lastw p (l ++ [x]) = x.w
  | [], _, _ => rfl
  | y :: l, _, x => lastw_snoc (l := l)
theorem render_snoc : ∀ {l : List Itm} {x : Itm}, render (l ++ [x]) = render l ++ (x.g ++ x.w)
  | [], x => by show x.g ++ (x.w ++ []) = [] ++ (x.g ++ x.w); simp
  | y :: l, x => by show y.g ++ (y.w ++ render (l ++ [x])) = (y.g ++ (y.w ++ render l)) ++ (x.g ++ x.w); rw [render_snoc]; simp only [List.append_assoc]
theorem places_snoc : ∀ {l : List Itm} {p : Nat} {x : Itm}, places p (l ++ [x]) = places p l ++ [(x.kind, x.v, p + (render l).length + x.g.length)]
  | [], p, x => rfl
  | y :: l, p, x => by
    show (y.kind, y.v, p + y.g.length) :: places (p + y.g.length + y.w.length) (l ++ [x]) = ((y.kind, y.v, p + y.g.length) :: places (p + y.g.length + y.w.length) l) ++ _
    rw [places_snoc]
    have e : p + y.g.length + y.w.length + (render l).length + x.g.length = p + (render (y :: l)).length + x.g.length := by
      show _ = p + (y.g ++ (y.w ++ render l)).length + x.g.length
      rw [List.length_append, List.length_append]; omega
    rw [e]; rfl
theorem bl_not {c : Nat} (h : Bl c) : ¬ Lt c ∧ ¬ Dg c ∧ c ≠ 61 := by unfold Bl Lt Dg at *; omega
theorem head_app {a b : List Nat} (h : a ≠ []) : (a ++ b).head? = a.head? := by cases a with | nil => exact absurd rfl h | cons x r => rfl
/-- what stands behind a token of a chain: not what would lengthen it -/
theorem after_ok {w : List Nat} {l : List Itm} {gend : List Nat} (hc : Chain w l) (hg : ∀ c ∈ gend, Bl c) : ∀ a b, w.getLast? = some a → (render l ++ gend).head? = some b → ¬ (Lt a ∧ Lt b) ∧ ¬ (Dg a ∧ Dg b) ∧ ((w = [60] ∨ w = [62]) → b ≠ 61) := by
  intro a b ha hb
  have blank : Bl b → ¬ (Lt a ∧ Lt b) ∧ ¬ (Dg a ∧ Dg b) ∧ ((w = [60] ∨ w = [62]) → b ≠ 61) := fun h => by
    have q := bl_not h
    exact ⟨fun z => q.1 z.2, fun z => q.2.1 z.2, fun _ => q.2.2⟩
  cases l with
  | nil =>
    have hb' : gend.head? = some b := hb
    cases gend with
    | nil => cases hb'
    | cons c r =>
      have e : c = b := Option.some.inj hb'
      exact blank (e ▸ hg c (List.mem_cons_self ..))
  | cons x r =>
    obtain ⟨⟨h1, h2, h3, h4⟩, _⟩ := hc
    have e : render (x :: r) ++ gend = x.g ++ (x.w ++ (render r ++ gend)) := by show (x.g ++ (x.w ++ render r)) ++ gend = _; simp only [List.append_assoc]
    rw [e] at hb
    cases hx : x.g with
    | nil =>
      rw [hx] at hb
      have hb2 : (x.w ++ (render r ++ gend)).head? = some b := hb
      rw [head_app h2.ne] at hb2
      exact h4 hx a b ha hb2
    | cons c g =>
      rw [hx] at hb
      have e : c = b := Option.some.inj hb
      exact blank (e ▸ h1 c (by rw [hx]; exact List.mem_cons_self ..))
theorem last_mem {l : List Nat} {a : Nat} (h : l.getLast? = some a) : a ∈ l := List.mem_of_getLast? h
theorem last_of {l : List Nat} (h : l ≠ []) : ∃ a, l.getLast? = some a := ⟨_, List.getLast?_eq_some_getLast h⟩
theorem lex_of : ∀ {l : List Itm} {p : Nat} {w gend : List Nat}, Chain w l → (∀ c ∈ gend, Bl c) → Lex p (render l ++ gend) (places p l)
  | [], p, w, gend, _, hg => by
    have k := Lex.blanks (g := gend) (p := p) (r := []) (d := []) hg (Lex.nil _)
    rw [List.append_nil] at k
    exact k
  | x :: r, p, w, gend, hc, hg => by
    obtain ⟨⟨h1, h2, h3, h4⟩, hr⟩ := hc
    have e : render (x :: r) ++ gend = x.g ++ (x.w ++ (render r ++ gend)) := by show (x.g ++ (x.w ++ render r)) ++ gend = _; simp only [List.append_assoc]
    rw [e]
    cases x with | mk xg xw xk xv => ?_
    dsimp only at h1 h2 h3 h4 hr ⊢
    refine Lex.blanks h1 (Lex.tok ?_ h3 (lex_of hr hg))
    have ao := after_ok hr hg
    obtain ⟨a, ha⟩ := last_of h2.ne
    cases h2 with
    | word h hw =>
      refine Tok1.word h hw fun c hc z => ?_
      exact (ao a c ha hc).1 ⟨hw a (last_mem ha), z⟩
    | num h hd hw =>
      refine Tok1.num h hd (fun c hc z => ?_) hw
      obtain ⟨b, hb⟩ := last_of h
      have e : a = b := by
        rcases hw with e | e
        · rw [e, hb] at ha
          exact (Option.some.inj ha).symm
        · rw [e, List.getLast?_cons, hb] at ha
          exact (Option.some.inj ha).symm
      exact (ao a c ha hc).2.1 ⟨e ▸ hd b (last_mem hb), z⟩
    | sign h => exact Tok1.sign h fun hw c hc => (ao a c ha hc).2.2 hw
/-! ### numbers written -/
theorem digits_zeros : ∀ {z : List Nat} {n : Nat}, (∀ c ∈ z, c = 48) → NumText.digitsVal (z ++ numL n) = n := by
  intro z n h
  unfold NumText.digitsVal
  rw [List.foldl_append]
  have e : ∀ (z : List Nat), (∀ c ∈ z, c = 48) → List.foldl (fun acc c => acc * 10 + (c - 48)) 0 z = 0 := by
    intro z
    induction z with
    | nil => intro _; rfl
    | cons c r ih =>
      intro h
      rw [List.foldl_cons, h c (List.mem_cons_self ..)]
      exact ih fun x hx => h x (List.mem_cons_of_mem _ hx)
  rw [e z h]
  exact numL_val n
theorem num_text {z : List Nat} {n : Nat} (h : ∀ c ∈ z, c = 48) (hl : z.length + (numL n).length ≤ 600) : PySem.intText? ⟨(z ++ numL n).toArray⟩ = some (n : Int) := by
  have e := intText_digits (x := ⟨(z ++ numL n).toArray⟩) (fun c hc => by
    rcases List.mem_append.mp hc with q | q
    · rw [h c q]; decide
    · exact numL_digits n c q) (fun q => numL_ne n (List.append_eq_nil_iff.mp q).2) (by rw [len_tl, tl_mk, List.length_append]; omega)
  rw [show (⟨(z ++ numL n).toArray⟩ : Str).cps.toList = z ++ numL n from rfl, digits_zeros h] at e
  exact e
theorem num_text_neg {z : List Nat} {n : Nat} (h : ∀ c ∈ z, c = 48) (hl : z.length + (numL n).length ≤ 600) : PySem.intText? ⟨(45 :: (z ++ numL n)).toArray⟩ = some (-(n : Int)) := by
  have e := intText_neg (x := ⟨(45 :: (z ++ numL n)).toArray⟩) (cs := z ++ numL n) rfl (fun c hc => by
    rcases List.mem_append.mp hc with q | q
    · rw [h c q]; decide
    · exact numL_digits n c q) (fun q => numL_ne n (List.append_eq_nil_iff.mp q).2) (by rw [len_tl, tl_mk, List.length_cons, List.length_append]; omega)
  rw [digits_zeros h] at e
  exact e
theorem zeros_dg {z : List Nat} {n : Nat} (h : ∀ c ∈ z, c = 48) : ∀ c ∈ z ++ numL n, Dg c := fun c hc => by
  rcases List.mem_append.mp hc with q | q
  · rw [h c q]; decide
  · exact numL_digits n c q
end Tf
set_option maxHeartbeats 4000000
namespace Tf
open PySem PySem.Spec PyProof.Rows L2 TL
/-! ### the alphabets -/
theorem mem_letters (c : Nat) : c ∈ tl ("abcdefghijklmnopqrstuvwxyz" : Str) ↔ Lt c := by
  have e : tl ("abcdefghijklmnopqrstuvwxyz" : Str) = (List.range 26).map (· + 97) := by decide +kernel
  rw [e, List.mem_map]
  unfold Lt
  constructor
  · rintro ⟨a, ha, rfl⟩
    have := List.mem_range.mp ha
    omega
  · intro h
    exact ⟨c - 97, List.mem_range.mpr (by omega), by omega⟩
theorem mem_digits (c : Nat) : c ∈ tl ("0123456789" : Str) ↔ Dg c := by
  have e : tl ("0123456789" : Str) = (List.range 10).map (· + 48) := by decide +kernel
  rw [e, List.mem_map]
  unfold Dg
  constructor
  · rintro ⟨a, ha, rfl⟩
    have := List.mem_range.mp ha
    omega
  · intro h
    exact ⟨c - 48, List.mem_range.mpr (by omega), by omega⟩
/-! ### the same data -/
def Eq0 (x y : V) : Prop := (∃ i, x = .int i ∧ y = .int i) ∨ (∃ s, x = .str s ∧ y = .str s) ∨ (x = .non ∧ y = .non)
def SeqH (H : Hp) (b : Bool) (a : Addr) (xs : List V) : Prop := H a = some (if b = true then .tup xs else .lst xs)
def Eq2 (H : Hp) : Nat → V → V → Prop
  | 0, x, y => Eq0 x y
  | n + 1, x, y => Eq0 x y ∨ ∃ (t : Bool) (a b : Addr) (xs ys : List V), x = .ref a ∧ y = .ref b ∧ SeqH H t a xs ∧ SeqH H t b ys ∧ xs.length = ys.length ∧ ys.length ≤ 1000 ∧ ∀ (i : Nat) u v, xs[i]? = some u → ys[i]? = some v → Eq2 H n u v
theorem Eq2.mono {H H' : Hp} (k : Same H H') : ∀ {n : Nat} {x y : V}, Eq2 H n x y → Eq2 H' n x y
  | 0, _, _, h => h
  | n + 1, _, _, .inl h => .inl h
  | n + 1, _, _, .inr ⟨t, a, b, xs, ys, e1, e2, h1, h2, h3, h4, h5⟩ => .inr ⟨t, a, b, xs, ys, e1, e2, k _ _ h1, k _ _ h2, h3, h4, fun i u v hu hv => (h5 i u v hu hv).mono k⟩
theorem Eq2.base {H : Hp} {n : Nat} {x y : V} (h : Eq0 x y) : Eq2 H n x y := by cases n with | zero => exact h | succ n => exact .inl h
def spS (k : Nat) : Sp := fun vs H Q _ => ∃ (n : Nat) (x y : V), k = n + 1 ∧ vs = [x, y] ∧ Eq2 H n x y ∧ ∀ H', Same H H' → Q (.bl true) H'
theorem rix_of {K : PySem.W.Frag} {H : Hp} {a : Addr} {t : Bool} {xs : List V} {i : Nat} {j : Int} {v : V} {Q : VK} (h : SeqH H t a xs) (e : j = (i : Int)) (hi : xs[i]? = some v) (q : Q v H) : rIx K (.ref a) (.int j) H Q := by
  cases t with
  | true => exact .inr (.inl ⟨a, xs, _, v, rfl, rfl, .of h, at_of e hi, q⟩)
  | false => exact .inl ⟨a, xs, _, v, rfl, rfl, .of h, at_of e hi, q⟩
theorem seq_or {K : PySem.W.Frag} {H : Hp} {a : Addr} {t : Bool} {xs : List V} (h : SeqH H t a xs) : SqL K H a xs ∨ SqT K H a xs := by
  cases t with
  | true => exact .inr (.of h)
  | false => exact .inl (.of h)
theorem seq_ty {K : PySem.W.Frag} {H : Hp} {a : Addr} {t : Bool} {xs : List V} (h : SeqH H t a xs) : TyX K H (.ref a) (.type (if t = true then "tuple" else "list")) := by
  cases t with
  | true => exact .base (.tup h)
  | false => exact .base (.lst h)
theorem kit_seq (K : PySem.W.Frag) (t : Bool) : PySem.W.kitAny K (.type (if t = true then "tuple" else "list")) [.type "list", .type "tuple"] = some true := by
  cases t with
  | true => exact kitAny_cons (b := false) (kit_ty (by decide +kernel)) (fun _ => kitAny_cons (b := true) (kit_ty (by decide +kernel)) (fun h => by cases h) (fun _ => rfl)) (fun h => by cases h)
  | false => exact kitAny_cons (b := true) (kit_ty (by decide +kernel)) (fun h => by cases h) (fun _ => rfl)
theorem kit_no (K : PySem.W.Frag) (a : String) (h1 : kitB a "list" = some false) (h2 : kitB a "tuple" = some false) : PySem.W.kitAny K (.type a) [.type "list", .type "tuple"] = some false :=
  kitAny_cons (b := false) (kit_ty h1) (fun _ => kitAny_cons (b := false) (kit_ty h2) (fun _ => kitAny_nil) (fun h => by cases h)) (fun h => by cases h)
theorem kit_l (K : PySem.W.Frag) (t : Bool) : PySem.W.kitOne K (.type (if t = true then "tuple" else "list")) (.type "list") = some (!t) := by
  cases t with
  | true => exact kit_ty (by decide +kernel)
  | false => exact kit_ty (by decide +kernel)
theorem kit_t (K : PySem.W.Frag) (t : Bool) : PySem.W.kitOne K (.type (if t = true then "tuple" else "list")) (.type "tuple") = some t := by
  cases t with
  | true => exact kit_ty (by decide +kernel)
  | false => exact kit_ty (by decide +kernel)
theorem dec_self {α : Type} [DecidableEq α] (x : α) : (!decide (x = x)) = false := by rw [decide_eq_true rfl] <;> rfl
/-- a value that is one of two, told by what both are -/
theorem if_te {c : Prop} [Decidable c] {ta tb : TE} {σ : L2.St} {H : Hp} {Q : VK} (R : V → Prop) (hx : c → ∀ Q : VK, (∀ v, R v → Q v H) → ta σ H Q) (hy : ¬ c → ∀ Q : VK, (∀ v, R v → Q v H) → tb σ H Q) (h : ∀ v, R v → Q v H) : if c then ta σ H Q else tb σ H Q := by
  by_cases k : c
  · rw [if_pos k]; exact hx k Q h
  · rw [if_neg k]; exact hy k Q h
/-- the same of a test that is asked behind another -/
theorem if_tt {c : Prop} [Decidable c] {tt : TT} {σ : L2.St} {H : Hp} {Q : Bool → Hp → Prop} (b : Bool) (hx : c → ∀ Q : Bool → Hp → Prop, Q b H → tt σ H Q) (hy : ¬ c → b = false) (h : Q b H) : if c then tt σ H Q else Q false H := by
  by_cases k : c
  · rw [if_pos k]; exact hx k Q h
  · rw [if_neg k, ← hy k]; exact h
/-! ### the draws' promises -/
def spDraw (K : PySem.W.Frag) : Sp := fun vs H Q _ => ∃ (a : Addr) (ns : List Int), vs = [.ref a] ∧ SqL K H a (ns.map V.int) ∧ ns.length ≤ 63 ∧ ∀ d sc H', H d = none → Dr sc H' d → Same H H' → Q (.ref d) H'
theorem atI_of {α : Type} {xs : List α} {z : Int} {j : Nat} {v : α} (e : z = (j : Int)) (h : xs[j]? = some v) : atI xs z = some v := by
  rw [e]
  exact atI_nat h
theorem pick {α : Type} {xs : List α} {i : Int} (h0 : 0 ≤ i) (h1 : i < (xs.length : Int)) : ∃ v, v ∈ xs ∧ atI xs i = some v := by
  have hi : i.toNat < xs.length := by omega
  have e : i = ((i.toNat : Nat) : Int) := by omega
  exact ⟨xs[i.toNat], List.getElem_mem hi, atI_of e (List.getElem?_eq_getElem hi)⟩
/-- an item of a list of texts that is made for it -/
theorem pickS {xs : List Str} {i : Int} (h0 : 0 ≤ i) (h1 : i < (xs.length : Int)) : ∃ s, s ∈ xs ∧ atI (xs.map V.str) i = some (.str s) := by
  obtain ⟨v, hv, e⟩ := pick (xs := xs.map V.str) h0 (by rw [List.length_map]; exact h1)
  obtain ⟨s, hs, rfl⟩ := List.mem_map.mp hv
  exact ⟨s, hs, e⟩
theorem pickI {xs : List Int} {i : Int} (h0 : 0 ≤ i) (h1 : i < (xs.length : Int)) : ∃ s, s ∈ xs ∧ atI (xs.map V.int) i = some (.int s) := by
  obtain ⟨v, hv, e⟩ := pick (xs := xs.map V.int) h0 (by rw [List.length_map]; exact h1)
  obtain ⟨s, hs, rfl⟩ := List.mem_map.mp hv
  exact ⟨s, hs, e⟩
def gapS : List Str := ["", " ", "\n", "  ", " \n "]
theorem gap_ok : ∀ g ∈ gapS, (∀ c ∈ tl g, Bl c) ∧ (tl g).length ≤ 3 := by decide +kernel
def spGap : Sp := fun vs H Q _ => ∃ d sc : Addr, vs = [.ref d] ∧ Dr sc H d ∧ ∀ g H', g ∈ gapS → Dr sc H' d → Up d H H' → Q (.str g) H'
def NoGlue (last word : List Nat) : Prop := ∀ a b, last.getLast? = some a → word.head? = some b → ¬ (Lt a ∧ Lt b) ∧ ¬ (Dg a ∧ Dg b)
def spJoint : Sp := fun vs H Q _ => ∃ (d sc : Addr) (last word : Str), vs = [.ref d, .str last, .str word] ∧ Dr sc H d ∧ tl word ≠ [] ∧ word.length ≤ 1000 ∧ last.length ≤ 1000 ∧
  ∀ g H', g ∈ gapS → (tl g = [] → NoGlue (tl last) (tl word)) → Dr sc H' d → Up d H H' → Q (.str g) H'
def spOne : Sp := fun vs H Q _ => ∃ d sc : Addr, vs = [.ref d] ∧ Dr sc H d ∧ ∀ (t : Addr) (kind wr : Str) (v : V) H', H t = none → H' t = some (.tup [.str kind, v, .str wr]) → Dr sc H' d → Up d H H' → Wf (tl wr) kind → TokVal kind (tl wr) v → (tl wr).length ≤ 20 → Q (.ref t) H'
/-! ### what _law_one makes -/
theorem join_nil_tl (ws : List Str) : tl (Txt.join ("" : Str) ws) = (ws.map tl).flatten := by
  rw [join_eq, tl_join]
  have e : tl ("" : Str) = [] := by decide +kernel
  rw [e]
  generalize ws.map tl = ls
  induction ls with
  | nil => rfl
  | cons x r ih =>
    cases r with
    | nil => simp [joinL]
    | cons y r => 
      rw [List.flatten_cons, ← ih]
      simp [joinL]
theorem ones {ws : List Str} (h : ∀ x ∈ ws, ∃ c, x = ⟨#[c]⟩ ∧ Lt c) : (∀ c ∈ (ws.map tl).flatten, Lt c) ∧ (ws.map tl).flatten.length = ws.length ∧ (ws.map (·.length)).sum = ws.length := by
  induction ws with
  | nil => exact ⟨fun c hc => absurd hc (by simp), rfl, rfl⟩
  | cons x r ih =>
    obtain ⟨c, rfl, hc⟩ := h x (List.mem_cons_self ..)
    obtain ⟨i1, i2, i3⟩ := ih fun y hy => h y (List.mem_cons_of_mem _ hy)
    refine ⟨fun b hb => ?_, ?_, ?_⟩
    · rw [List.map_cons, List.flatten_cons] at hb
      rcases List.mem_append.mp hb with hb | hb
      · rw [show tl (⟨#[c]⟩ : Str) = [c] from rfl] at hb
        rw [List.mem_singleton.mp hb]; exact hc
      · exact i1 b hb
    · rw [List.map_cons, List.flatten_cons, List.length_append, i2]
      show 1 + r.length = r.length + 1
      omega
    · rw [List.map_cons, List.sum_cons, i3]
      show 1 + r.length = r.length + 1
      omega
def zeroS : List Str := ["", "0", "000"]
theorem zero_ok : ∀ z ∈ zeroS, (∀ c ∈ tl z, c = 48) ∧ (tl z).length ≤ 3 := by decide +kernel
theorem number_of {a m b : Int} (a0 : 0 ≤ a) (a1 : a < 100) (hm : m ∈ ([1, 1000, 1000000, 1000000000] : List Int)) (b0 : 0 ≤ b) (b1 : b < 12) : ∃ n : Nat, a * m + b = (n : Int) ∧ n < 10 ^ 12 := by
  have h : 0 ≤ a * m + b ∧ a * m + b < 10 ^ 12 := by
    simp only [List.mem_cons, List.not_mem_nil, or_false] at hm
    rcases hm with rfl | rfl | rfl | rfl <;> omega
  exact ⟨(a * m + b).toNat, by omega, by omega⟩
theorem log_ok {n : Nat} (h : n < 10 ^ 12) : ((n : Int)).natAbs.log2 < 1920 := by
  rw [Int.natAbs_natCast]
  rcases Nat.eq_zero_or_pos n with e | e
  · rw [e]; decide
  · have : n.log2 < 41 := (Nat.log2_lt (by omega)).mpr (by omega)
    omega
theorem tl_strI (n : Nat) : tl (Str.ofString (toString ((n : Nat) : Int))) = numL n := tl_num n
end Tf
set_option maxHeartbeats 4000000
namespace Tf
open PySem PySem.Spec PyProof.Rows L2 TL PySem.Builtin PySem.Builtin.Str
/-! ### places of a text -/
theorem drop_get {l w r : List Nat} {p i : Nat} (h : l.drop p = w ++ r) : l[p + i]? = (w ++ r)[i]? := by rw [← h, List.getElem?_drop]
theorem drop_len {l w r : List Nat} {p : Nat} (h : l.drop p = w ++ r) (hw : w ≠ []) : p + w.length + r.length = l.length := by
  have e := congrArg List.length h
  rw [List.length_drop, List.length_append] at e
  have : 0 < w.length := List.length_pos_iff.mpr hw
  omega
theorem drop_add {l w r : List Nat} {p : Nat} (h : l.drop p = w ++ r) : l.drop (p + w.length) = r := by
  rw [← List.drop_drop, h, List.drop_left]
theorem eos_uniq {l w r : List Nat} {p e : Nat} {S : Nat → Prop} (h : l.drop p = w ++ r) (hw : ∀ c ∈ w, S c) (hr : ∀ c, r.head? = some c → ¬ S c) (h1 : p ≤ e) (hl : e ≤ l.length) (hp : p + w.length ≤ l.length)
    (h2 : ∀ i c, p ≤ i → i < e → l[i]? = some c → S c) (h3 : ∀ c, l[e]? = some c → ¬ S c) : e = p + w.length := by
  rcases Nat.lt_trichotomy e (p + w.length) with q | q | q
  · exfalso
    have hlt : e - p < w.length := by omega
    have g : l[e]? = some w[e - p] := by
      have k := drop_get (i := e - p) h
      rw [show p + (e - p) = e by omega, List.getElem?_append_left hlt, List.getElem?_eq_getElem hlt] at k
      exact k
    exact h3 _ g (hw _ (List.getElem_mem hlt))
  · exact q
  · exfalso
    have k := drop_get (i := w.length) h
    rw [List.getElem?_append_right (Nat.le_refl _), Nat.sub_self] at k
    have hlt : p + w.length < l.length := by omega
    rw [List.getElem?_eq_getElem hlt] at k
    have k2 : r.head? = some l[p + w.length] := by rw [List.head?_eq_getElem?]; exact k.symm
    exact hr _ k2 (h2 (p + w.length) _ (by omega) q (List.getElem?_eq_getElem hlt))
/-! ### the alphabets -/
theorem mem_blanks (c : Nat) : c ∈ tl (" \n" : Str) ↔ Bl c := by
  have e : tl (" \n" : Str) = [32, 10] := by decide +kernel
  rw [e]
  unfold Bl
  simp
theorem one_sign (c : Nat) : (⟨#[c]⟩ : Str) = ("-" : Str) ↔ c = 45 := by
  have e : ("-" : Str) = ⟨#[45]⟩ := by decide +kernel
  rw [e]
  constructor
  · intro h
    have := congrArg Str.cps h
    simpa using this
  · intro h; rw [h]
theorem sw_iff {z s : Str} {p : Nat} (hp : p ≤ (tl z).length) : Txt.startswith3 z s (p : Int) = true ↔ ∃ r, (tl z).drop p = tl s ++ r := by
  have e : Txt.startswith3 z s (p : Int) = (decide (p + s.length ≤ z.length) && (((tl z).drop p).take s.length == tl s)) := by
    unfold Txt.startswith3
    have e1 : fromIndex z.length (p : Int) = p := by
      unfold fromIndex
      rw [if_neg (by omega)]
      omega
    rw [e1, PySem.StrLaws.subAt_eq]
  rw [e, Bool.and_eq_true, decide_eq_true_iff, beq_iff_eq]
  have hs := len_tl s
  have hz := len_tl z
  constructor
  · rintro ⟨h1, h2⟩
    exact ⟨((tl z).drop p).drop s.length, by rw [← h2]; exact (List.take_append_drop _ _).symm⟩
  · rintro ⟨r, h⟩
    have k := congrArg List.length h
    rw [List.length_drop, List.length_append] at k
    refine ⟨by omega, ?_⟩
    rw [h, hs, List.take_left]
theorem sg_f1 : ∀ a ∈ sgL, a.length = 1 ∨ (a.length = 2 ∧ a.getLast? = some 61) := by decide
theorem sg_f2 : ∀ i < 10, ∀ k < 10, i ≤ k → (sgL.getD i []).length = 1 → (sgL.getD k []).length = 1 := by decide
theorem sg_f3 : ∀ a ∈ sgL, ∀ w ∈ sgL, a.length = 2 → w.length = 1 → a.head? = w.head? → (w = [60] ∨ w = [62]) := by decide
theorem sg_pref {i k : Nat} {a w r r' : List Nat} (hik : i ≤ k) (ha : sgL[i]? = some a) (hw : sgL[k]? = some w) (e : a ++ r' = w ++ r) : a = w ∨ ((w = [60] ∨ w = [62]) ∧ r.head? = some 61) := by
  have ma : a ∈ sgL := List.mem_of_getElem? ha
  have mw : w ∈ sgL := List.mem_of_getElem? hw
  have hk : k < 10 := (List.getElem?_eq_some_iff.mp hw).1
  have da : sgL.getD i [] = a := by rw [List.getD_eq_getElem?_getD, ha]; rfl
  have dw : sgL.getD k [] = w := by rw [List.getD_eq_getElem?_getD, hw]; rfl
  rcases sg_f1 a ma with la | ⟨la, ga⟩ <;> rcases sg_f1 w mw with lw | ⟨lw, gw⟩
  · exact .inl (List.append_inj e (la.trans lw.symm)).1
  · have := sg_f2 i (by omega) k hk hik (by rw [da]; exact la)
    rw [dw] at this
    omega
  · right
    match a, w, la, lw, e, ma, mw, ga with
    | [x, y], [u], _, _, e, ma, mw, ga =>
      have e1 : x = u := by injection e
      have e2 : y :: r' = r := by injection e
      refine ⟨sg_f3 _ ma _ mw rfl rfl (by rw [e1]; rfl), ?_⟩
      rw [← e2]
      exact ga
  · exact .inl (List.append_inj e (la.trans lw.symm)).1
theorem sg_head : ∀ a ∈ sgL, ∀ c, a.head? = some c → ¬ Lt c ∧ ¬ Dg c ∧ c ≠ 45 ∧ ¬ Bl c := by
  intro a ha
  have f : ∀ a ∈ sgL, ∀ c ∈ a.head?.toList, ¬ Lt c ∧ ¬ Dg c ∧ c ≠ 45 ∧ ¬ Bl c := by decide
  intro c hc
  exact f a ha c (by rw [hc]; exact List.mem_singleton.mpr rfl)
theorem Tok1.head {w r : List Nat} {kind : Str} (h : Tok1 w r kind) {c : Nat} (hc : w.head? = some c) : ¬ Bl c := by
  have hm : c ∈ w := List.mem_of_head? hc
  cases h with
  | word h hw hr => exact fun b => (bl_not b).1 (hw c hm)
  | num h hd hr hw =>
    rcases hw with e | e
    · rw [e] at hm
      exact fun b => (bl_not b).2.1 (hd c hm)
    · rw [e] at hc
      have e2 : (45 : Nat) = c := Option.some.inj hc
      subst e2
      decide
  | sign h hr => exact (sg_head w h c hc).2.2.2
theorem lex_inv {p : Nat} {l : List Nat} {d : List Tk} (h : Lex p l d) (hl : l ≠ []) :
    (∃ c r, l = c :: r ∧ Bl c ∧ Lex (p + 1) r d) ∨ ∃ w r kind v d', l = w ++ r ∧ Tok1 w r kind ∧ TokVal kind w v ∧ Lex (p + w.length) r d' ∧ d = (kind, v, p) :: d' := by
  cases h with
  | nil => exact absurd rfl hl
  | blank h k => exact .inl ⟨_, _, rfl, h, k⟩
  | tok h hv k => exact .inr ⟨_, _, _, _, _, rfl, h, hv, k, rfl⟩
theorem lex_end {p : Nat} {d : List Tk} (h : Lex p [] d) : d = [] := by
  generalize e : ([] : List Nat) = l at h
  cases h with
  | nil => rfl
  | blank h k => cases e
  | tok h hv k => exact absurd (List.append_eq_nil_iff.mp e.symm).1 h.ne
theorem cut_at {z : Str} {p : Nat} {w r : List Nat} (h : (tl z).drop p = w ++ r) (hw : w ≠ []) : cutS z (some (p : Int)) (some ((p + w.length : Nat) : Int)) = ⟨w.toArray⟩ := by
  have k := drop_len h hw
  have hz := len_tl z
  refine ext_tl ?_
  unfold cutS
  rw [tl_mk, tl_mk, HT.sIx_nat, HT.sIx_nat, show min p z.length = p by omega, show min (p + w.length) z.length = p + w.length by omega, show p + w.length - p = w.length by omega]
  show List.take w.length ((tl z).drop p) = w
  rw [h, List.take_left]
/-! ### lists of tokens in the heap -/
def TkL (H : Hp) : List V → List Tk → Prop
  | [], [] => True
  | x :: xs, t :: ts => (∃ p, x = .ref p ∧ H p = some (.tup [.str t.1, t.2.1, .int t.2.2])) ∧ TkL H xs ts
  | _, _ => False
theorem TkL.mono {H H' : Hp} (k : ∀ p xs, H p = some (.tup xs) → H' p = some (.tup xs)) : ∀ {xs : List V} {ts : List Tk}, TkL H xs ts → TkL H' xs ts
  | [], [], _ => trivial
  | x :: xs, t :: ts, ⟨⟨p, e, h⟩, r⟩ => ⟨⟨p, e, k _ _ h⟩, r.mono k⟩
theorem TkL.snoc {H : Hp} {p : Addr} {t : Tk} (hp : H p = some (.tup [.str t.1, t.2.1, .int t.2.2])) : ∀ {xs : List V} {ts : List Tk}, TkL H xs ts → TkL H (xs ++ [.ref p]) (ts ++ [t])
  | [], [], _ => ⟨⟨p, rfl, hp⟩, trivial⟩
  | x :: xs, u :: ts, ⟨h, r⟩ => ⟨h, TkL.snoc hp r⟩
theorem TkL.len {H : Hp} : ∀ {xs : List V} {ts : List Tk}, TkL H xs ts → xs.length = ts.length
  | [], [], _ => rfl
  | x :: xs, t :: ts, ⟨_, r⟩ => by rw [List.length_cons, List.length_cons, r.len]
theorem tup_upd {H : Hp} {a : Addr} {o : HO} (h : ∀ xs, H a ≠ some (.tup xs)) : ∀ p xs, H p = some (.tup xs) → upd H a o p = some (.tup xs) := fun p xs e => by
  rw [upd_ne (fun q => h xs (by rw [← q]; exact e))]
  exact e
/-! ### the promises of tidefold.tokens -/
def spEos : Sp := fun vs H Q _ => ∃ (z cs : Str) (p : Nat), vs = [.str z, .int (p : Int), .str cs] ∧ p ≤ (tl z).length ∧ z.length ≤ sizeLine ∧
  ∀ e : Nat, p ≤ e → e ≤ (tl z).length → (∀ i c, p ≤ i → i < e → (tl z)[i]? = some c → c ∈ tl cs) → (∀ c, (tl z)[e]? = some c → c ∉ tl cs) → Q (.int (e : Int)) H
def spTokAt : Sp := fun vs H Q _ => ∃ (z : Str) (p : Nat) (w r : List Nat) (kind : Str), vs = [.str z, .int (p : Int)] ∧ (tl z).drop p = w ++ r ∧ Tok1 w r kind ∧ z.length ≤ sizeLine ∧
  ∀ t, H t = none → Q (.ref t) (upd H t (.tup [.str kind, .int ((p + w.length : Nat) : Int)]))
def spTokens : Sp := fun vs H Q _ => ∃ (z : Str) (due : List Tk), vs = [.str z] ∧ Lex 0 (tl z) due ∧ z.length ≤ 1000 ∧
  ∀ a xs H', H a = none → Same H H' → H' a = some (.lst xs) → TkL H' xs due → Q (.ref a) H'
end Tf
set_option maxHeartbeats 4000000
namespace Tf
open PySem PySem.Spec PyProof.Rows L2 TL
theorem Up.tup {sc d : Addr} {H H' : Hp} (u : Up d H H') (hD : Dr sc H d) : ∀ p xs, H p = some (.tup xs) → H' p = some (.tup xs) := fun p xs e => by
  refine u p _ (fun q => ?_) e
  obtain ⟨ys, hy⟩ := hD.lst
  rw [q, hy] at e
  cases e
theorem same_tup {H H' : Hp} (u : Same H H') : ∀ p xs, H p = some (.tup xs) → H' p = some (.tup xs) := fun p xs e => u _ _ e
def FlatV (v : V) : Prop := (∃ n, v = .int n) ∨ ∃ s, v = .str s
theorem TokVal.flat {kind : Str} {w : List Nat} {v : V} (h : TokVal kind w v) : FlatV v := by
  rcases h with ⟨_, _, n, _, e⟩ | ⟨_, e⟩
  · exact .inl ⟨n, e⟩
  · exact .inr ⟨_, e⟩
theorem FlatV.eq0 {v : V} (h : FlatV v) : Eq0 v v := by
  rcases h with ⟨n, e⟩ | ⟨s, e⟩
  · exact .inl ⟨n, e, e⟩
  · exact .inr (.inl ⟨s, e, e⟩)
theorem chain_flat : ∀ {l : List Itm} {p : List Nat} {k : Nat}, Chain p l → ∀ t ∈ places k l, FlatV t.2.1
  | [], _, _, _, t, ht => absurd ht (by simp [places])
  | x :: r, p, k, ⟨h, hr⟩, t, ht => by
    rcases List.mem_cons.mp ht with e | ht
    · rw [e]; exact h.2.2.1.flat
    · exact chain_flat hr t ht
theorem three_eq {H : Hp} {n : Nat} {p q : Addr} {s : Str} {v : V} {k : Nat} (hp : H p = some (.tup [.str s, v, .int k])) (hq : H q = some (.tup [.str s, v, .int k])) (hv : FlatV v) : Eq2 H (n + 1) (.ref p) (.ref q) := by
  refine .inr ⟨true, p, q, _, _, rfl, rfl, hp, hq, rfl, (by show 3 ≤ 1000; decide), fun i u w hu hw => ?_⟩
  refine Eq2.base ?_
  rw [hu] at hw
  have e : u = w := Option.some.inj hw
  subst e
  have hm := List.mem_of_getElem? hu
  simp only [List.mem_cons, List.not_mem_nil, or_false] at hm
  rcases hm with rfl | rfl | rfl
  · exact .inr (.inl ⟨_, rfl, rfl⟩)
  · exact hv.eq0
  · exact .inl ⟨_, rfl, rfl⟩
theorem tkl_eq {H : Hp} : ∀ {ts : List Tk} {xs ys : List V}, TkL H xs ts → TkL H ys ts → (∀ t ∈ ts, FlatV t.2.1) → ∀ (i : Nat) u v, xs[i]? = some u → ys[i]? = some v → Eq2 H 1 u v
  | [], [], [], _, _, _, i, u, v, hu, _ => by simp at hu
  | t :: ts, x :: xs, y :: ys, ⟨⟨p, ep, hp⟩, hx⟩, ⟨⟨q, eq, hq⟩, hy⟩, hf, 0, u, v, hu, hv => by
    have e1 : x = u := Option.some.inj hu
    have e2 : y = v := Option.some.inj hv
    subst e1 e2 ep eq
    exact three_eq hp hq (hf t (List.mem_cons_self ..))
  | t :: ts, x :: xs, y :: ys, ⟨_, hx⟩, ⟨_, hy⟩, hf, i + 1, u, v, hu, hv => tkl_eq hx hy (fun s hs => hf s (List.mem_cons_of_mem _ hs)) i u v hu hv
theorem wf_eq {w : List Nat} {kind : Str} (h : Wf w kind) (hh : w.head? = some 61) : w = [61] := by
  have hm : 61 ∈ w := List.mem_of_head? hh
  cases h with
  | word h hw => exact absurd (hw 61 hm) (by decide)
  | num h hd hw =>
    rcases hw with e | e
    · rw [e] at hm
      exact absurd (hd 61 hm) (by decide)
    · rw [e] at hh
      exact absurd (Option.some.inj hh) (by decide)
  | sign h =>
    have f : ∀ a ∈ sgL, a.head? = some 61 → a = [61] := by decide
    exact f w h hh
def spLaw (K : PySem.W.Frag) : Sp := fun vs H Q _ => ∃ (a : Addr) (ns : List Int), vs = [.ref a] ∧ SqL K H a (ns.map V.int) ∧ ns.length ≤ 63 ∧ ∀ H', Q (.bl true) H'
def heads : List Str := ["", " ", "\n ", "   "]
theorem heads_ok : ∀ g ∈ heads, (∀ c ∈ tl g, Bl c) ∧ (tl g).length ≤ 3 := by decide +kernel
theorem in_lt (last : Str) : inV (.str last) [.str "<", .str ">"] = decide (tl last = [60] ∨ tl last = [62]) := by
  have e1 : tl ("<" : Str) = [60] := by decide +kernel
  have e2 : tl (">" : Str) = [62] := by decide +kernel
  show ((("<" : Str) == last) || (((">" : Str) == last) || false)) = _
  rw [Bool.or_false, Bool.eq_iff_iff, Bool.or_eq_true, beq_iff_eq, beq_iff_eq, decide_eq_true_iff]
  constructor
  · rintro (h | h)
    · exact .inl (by rw [← h]; exact e1)
    · exact .inr (by rw [← h]; exact e2)
  · rintro (h | h)
    · exact .inl (ext_tl (by rw [h]; exact e1))
    · exact .inr (ext_tl (by rw [h]; exact e2))
end Tf
set_option maxHeartbeats 4000000
namespace Tf
open PySem PySem.Spec PyProof.Rows L2
def topS (i : Nat) : Stmt := PySem.Challenge.pw_tidefold_k01_tokens.main.body.getD i (.Pass ⟨0, 0, 0, 0⟩)
abbrev s_next : Stmt := (topS 13)
abbrev n_next : List Str := ["draw", "many", "found", "cell"]
theorem sc_next : FnScope n_next ["draw", "many"] (defScope s_next) := ⟨rfl, rfl, rfl, by decide +kernel, rfl, by decide +kernel, by decide +kernel⟩
section
variable {P : Program} {w : World} {K : PySem.W.Frag} {mg : Str → Option Value} {base : Heap}
set_option maxHeartbeats 8000000 in
theorem ok_next {f : Addr} {fd : FuncData} (D : DefAt K mg "_law_next" s_next ["draw", "many"] f fd) (z_int : mg "int" = none) (z_len : mg "len" = none) (z_abs : mg "abs" = none) :
    FnOk P w K mg base CX0 1 f fd ["draw", "many"] spNext := by
  refine D.F.ok sc_next (fun vs H Q E h => ?_) (fun cdv A outer s H vs Q E hr h => ?_)
  · obtain ⟨d, sc, m, rfl, _⟩ := h
    rfl
  obtain ⟨d, sc, m, rfl, h1, h2, ⟨ns, i, big, st, hd, hs, hne, hb, hst0, hst1⟩, q⟩ := h
  refine ⟨_, (pss_cons (ps_if (pt_cmpR op_gt (pe_ix ix_list (pv 0) pe_int (fun _ _ => rfl)) pe_int (nomark _)) (pss_cons (ps_set (i := 2) sc_next.nd rfl (by first | exact Or.inl rfl | exact Or.inr rfl) (pe_op op_mod (pe_callTy call_int1 (by rfl) z_int boot_int (pa_cons (pe_ix ix_list (pv 0) pe_int (fun _ _ => rfl)) pa_nil)) (pv 1))) (pss_cons (ps_asg (pe_op op_fdiv (pe_ix ix_list (pv 0) pe_int (fun _ _ => rfl)) (pv 1)) (pg_sub (pv 0) pe_int set_list)) (pss_one (ps_ret (pv 2))))) pss_nil) (pss_cons (ps_if (pt_cmpR op_lt (pe_ix ix_list (pv 0) pe_int (fun _ _ => rfl)) (pe_callB call_len_seq (by rfl) z_len boot_len (pa_cons (pe_ix ix_list (pv 0) pe_int (fun _ _ => rfl)) pa_nil)) (nomark _)) (pss_cons (ps_set (i := 3) sc_next.nd rfl (by first | exact Or.inl rfl | exact Or.inr rfl) (pe_callB call_abs (by rfl) z_abs boot_abs (pa_cons (pe_ix ix_list (pe_ix ix_list (pv 0) pe_int (fun _ _ => rfl)) (pe_ix ix_list (pv 0) pe_int (fun _ _ => rfl)) (fun _ _ => rfl)) pa_nil))) (pss_cons (ps_asg (pe_op op_add (pe_ix ix_list (pv 0) pe_int (fun _ _ => rfl)) pe_int) (pg_sub (pv 0) pe_int set_list)) (pss_cons (ps_if (pt_cmpR op_ge (pv 3) (pe_op op_pow pe_int pe_int) (nomark _)) (pss_cons (ps_asg (pe_op op_fdiv (pv 3) (pv 1)) (pg_sub (pv 0) pe_int set_list)) (pss_one (ps_ret (pe_op op_mod (pe_callTy call_int1 (by rfl) z_int boot_int (pa_cons (pv 3) pa_nil)) (pv 1))))) pss_nil) (pss_one (ps_asg (pe_op op_mod (pe_callTy call_int1 (by rfl) z_int boot_int (pa_cons (pe_op op_add (pe_op op_add (pe_op op_mul (pe_ix ix_list (pv 0) pe_int (fun _ _ => rfl)) pe_int) (pv 3)) pe_int) pa_nil)) pe_int) (pg_sub (pv 0) pe_int set_list)))))) (pss_one (ps_asg (pe_op op_mod (pe_callTy call_int1 (by rfl) z_int boot_int (pa_cons (pe_op op_add (pe_op op_mul (pe_ix ix_list (pv 0) pe_int (fun _ _ => rfl)) pe_int) pe_int) pa_nil)) pe_int) (pg_sub (pv 0) pe_int set_list)))) (pss_one (ps_ret (pe_op op_mod (pe_op op_fdiv (pe_callTy call_int1 (by rfl) z_int boot_int (pa_cons (pe_op op_mod (pe_op op_mul (pe_ix ix_list (pv 0) pe_int (fun _ _ => rfl)) pe_int) pe_int) pa_nil)) pe_int) (pv 1)))))), ?_⟩
  have fin : ∀ (H0 H1 : Hp) (i' big' st' : Int) (j : Nat), Up d H H0 → H0 sc = some (.lst (ns.map V.int)) → i' = j → 0 ≤ big' → 0 ≤ st' → st' < 2147483647 → H1 = upd H0 d (.lst [.ref sc, .int i', .int big', .int st']) → Dr sc H1 d ∧ Up d H H1 := by
    intro H0 H1 i' big' st' j u0 e0 ei e1 e2 e3 e4
    subst ei e4
    exact ⟨⟨ns, j, big', st', upd_same, by rw [upd_ne hne]; exact e0, hne, e1, e2, e3⟩, u0.trans Up.at⟩
  have em : ∀ a b : Int, 0 < b → 0 ≤ a % b ∧ a % b < b := fun a b hb => ⟨Int.emod_nonneg a (by omega), Int.emod_lt_of_pos a hb⟩
  -- if draw[2] > 0
  refine ⟨_, rfl, d, _, _, _, rfl, rfl, .of hd, rfl, _, _, rfl, rfl, _, rfl, ite2 (fun e => ?_) (fun e => ?_)⟩
  · refine ⟨_, rfl, d, _, _, _, rfl, rfl, .of hd, rfl, .inl ⟨_, rfl, ?_⟩⟩
    refine ⟨_, rfl, _, _, rfl, rfl, (by show (0:Int) < m; omega), ?_⟩
    refine ⟨_, rfl, d, _, _, _, rfl, rfl, .of hd, rfl, _, rfl, _, _, rfl, rfl, ⟨by omega, by omega⟩, _, rfl, d, _, _, 2, rfl, rfl, hd, rfl, _, rfl, ?_⟩
    obtain ⟨r1, r2⟩ := fin H _ i (big / m) st i Up.refl hs rfl (Int.ediv_nonneg hb (by omega)) hst0 hst1 rfl
    exact q _ _ (em big m (by omega)).1 (em big m (by omega)).2 r1 r2
  have last : ∀ (H1 : Hp) (i' big' st' : Int) (j : Nat), Up d H H1 → H1 sc = some (.lst (ns.map V.int)) → i' = j → 0 ≤ big' → 0 ≤ st' → st' < 2147483647 → H1 d = some (.lst [.ref sc, .int i', .int big', .int st']) → ∀ x : Int, Q (.int (x % m)) H1 := by
    intro H1 i' big' st' j u0 e0 ei e1 e2 e3 e4 x
    subst ei
    exact q _ _ (em x m (by omega)).1 (em x m (by omega)).2 ⟨ns, j, big', st', e4, e0, hne, e1, e2, e3⟩ u0
  -- if draw[1] < len(draw[0])
  refine ⟨_, rfl, d, _, _, _, rfl, rfl, .of hd, rfl, _, rfl, d, _, _, _, rfl, rfl, .of hd, rfl, sc, _, rfl, .inl (.of hs), _, _, rfl, rfl, _, rfl, ite2 (fun e => ?_) (fun e => ?_)⟩
  · have hi : i < ns.length := by
      have e' := of_decide_eq_true e
      rw [List.length_map] at e'
      omega
    -- cell = abs(draw[0][draw[1]])
    refine ⟨_, rfl, d, _, _, _, rfl, rfl, .of hd, rfl, _, rfl, d, _, _, _, rfl, rfl, .of hd, rfl, sc, _, _, _, rfl, rfl, .of hs, atI_nat (j := i) (v := .int ns[i]) (by rw [List.getElem?_map, List.getElem?_eq_getElem hi]; rfl), _, rfl, ?_⟩
    -- draw[1] = draw[1] + 1
    refine ⟨_, rfl, d, _, _, _, rfl, rfl, .of hd, rfl, _, _, rfl, rfl, _, rfl, d, _, _, 1, rfl, rfl, hd, rfl, ?_⟩
    have hs1 : ∀ o, upd H d o sc = some (.lst (ns.map V.int)) := fun o => by rw [upd_ne hne]; exact hs
    have c0 : (0 : Int) ≤ (if ns[i] < 0 then -ns[i] else ns[i]) := by split <;> omega
    generalize (if ns[i] < 0 then -ns[i] else ns[i]) = c at c0
    -- if cell >= 10 ** 18
    refine ⟨_, rfl, _, _, rfl, rfl, ⟨by decide, by decide, by decide⟩, _, _, rfl, rfl, _, rfl, ite2 (fun e => ?_) (fun e => ?_)⟩
    · refine ⟨_, rfl, _, rfl, _, _, rfl, rfl, ⟨by omega, by omega⟩, _, rfl, d, _, _, 2, rfl, rfl, upd_same, rfl, ?_⟩
      refine ⟨_, rfl, .inl ⟨_, rfl, _, rfl, _, _, rfl, rfl, (by show (0:Int) < m; omega), ?_⟩⟩
      refine last _ ((i : Int) + 1) (c / m) st (i + 1) (Up.at.trans Up.at) (by rw [upd_ne hne]; exact hs1 _) (by omega) (Int.ediv_nonneg c0 (by omega)) hst0 hst1 upd_same _
    · refine ⟨_, rfl, d, _, _, _, rfl, rfl, .of upd_same, rfl, _, _, rfl, rfl, .inr ⟨by decide, by decide⟩, _, rfl, _, _, rfl, rfl, _, _, rfl, rfl, .inl ⟨_, rfl, _, _, rfl, rfl, (by show (0:Int) < _; decide), _, rfl, d, _, _, 3, rfl, rfl, upd_same, rfl, ?_⟩⟩
      refine ⟨_, rfl, d, _, _, _, rfl, rfl, .of upd_same, rfl, _, _, rfl, rfl, .inr ⟨by decide, by decide⟩, _, _, rfl, rfl, (by show (0:Int) < _; decide), .inl ⟨_, rfl, _, _, rfl, rfl, ⟨by decide, by decide⟩, _, rfl, _, _, rfl, rfl, (by show (0:Int) < m; omega), ?_⟩⟩
      have e3 := em (st * 48271 + c + 11) 2147483647 (by decide)
      exact last _ ((i : Int) + 1) big _ (i + 1) (Up.at.trans Up.at) (by rw [upd_ne hne]; exact hs1 _) (by omega) hb e3.1 e3.2 upd_same _
  · refine ⟨_, rfl, d, _, _, _, rfl, rfl, .of hd, rfl, _, _, rfl, rfl, .inr ⟨by decide, by decide⟩, _, _, rfl, rfl, .inl ⟨_, rfl, _, _, rfl, rfl, (by show (0:Int) < _; decide), _, rfl, d, _, _, 3, rfl, rfl, hd, rfl, ?_⟩⟩
    refine ⟨_, rfl, d, _, _, _, rfl, rfl, .of upd_same, rfl, _, _, rfl, rfl, .inr ⟨by decide, by decide⟩, _, _, rfl, rfl, (by show (0:Int) < _; decide), .inl ⟨_, rfl, _, _, rfl, rfl, ⟨by decide, by decide⟩, _, rfl, _, _, rfl, rfl, (by show (0:Int) < m; omega), ?_⟩⟩
    have e3 := em (st * 48271 + 12345) 2147483647 (by decide)
    exact last _ (i : Int) big _ i Up.at (by rw [upd_ne hne]; exact hs) rfl hb e3.1 e3.2 upd_same _
end
end Tf
set_option maxHeartbeats 8000000
namespace Tf
open PySem PySem.Spec PyProof.Rows L2 TL
abbrev s_end_of_stretch : Stmt := (topS 10)
abbrev n_end_of_stretch : List Str := ["text", "place", "characters"]
theorem sc_end_of_stretch : FnScope n_end_of_stretch ["text", "place", "characters"] (defScope s_end_of_stretch) := ⟨rfl, rfl, rfl, by decide +kernel, rfl, by decide +kernel, by decide +kernel⟩
abbrev s_token_at : Stmt := (topS 9)
abbrev n_token_at : List Str := ["text", "place", "end", "digits", "sign"]
theorem sc_token_at : FnScope n_token_at ["text", "place"] (defScope s_token_at) := ⟨rfl, rfl, rfl, by decide +kernel, rfl, by decide +kernel, by decide +kernel⟩
abbrev s_tokens : Stmt := (topS 8)
abbrev n_tokens : List Str := ["text", "found", "place", "written", "value", "kind", "end"]
theorem sc_tokens : FnScope n_tokens ["text"] (defScope s_tokens) := ⟨rfl, rfl, rfl, by decide +kernel, rfl, by decide +kernel, by decide +kernel⟩
section
variable {P : Program} {w : World} {K : PySem.W.Frag} {mg : Str → Option Value} {base : Heap}
theorem ok_end_of_stretch {f : Addr} {fd : FuncData} (D : DefAt K mg "end_of_stretch" s_end_of_stretch ["text", "place", "characters"] f fd) (z_len : mg "len" = none) :
    FnOk P w K mg base CX0 1 f fd ["text", "place", "characters"] spEos := by
  refine D.F.ok sc_end_of_stretch (fun vs H Q E h => ?_) (fun cdv A outer s H vs Q E hr h => ?_)
  · obtain ⟨z, cs, p, rfl, _⟩ := h
    rfl
  obtain ⟨z, cs, p, rfl, hp, hz, q⟩ := h
  have hzl := len_tl z
  refine ⟨_, (pss_cons (ps_while PassesOwn.never (PW.pt (pw_and (pt_cmpR op_lt (pv 1) (pe_callB call_len_str (by rfl) z_len boot_len (pa_cons (pv 0) pa_nil)) (nomark _)) (pw_and1 (pt_cmpR op_in_sign (pe_ix ix_str (pv 0) (pv 1) (fun _ _ => rfl)) (pv 2) rfl)))) (pss_one (ps_aug (i := 1) sc_end_of_stretch.nd rfl (by first | exact Or.inl rfl | exact Or.inr rfl) pe_int ip_add))) (pss_one (ps_ret (pv 1)))), ?_⟩
  refine ⟨fun m σ H' => ∃ j : Nat, σ = [some (.str z), some (.int (j : Int)), some (.str cs)] ∧ H' = H ∧ p ≤ j ∧ j ≤ (tl z).length ∧ m = (tl z).length - j ∧ ∀ i c, p ≤ i → i < j → (tl z)[i]? = some c → c ∈ tl cs, ⟨_, p, rfl, rfl, Nat.le_refl _, hp, rfl, fun i c h1 h2 => by omega⟩, fun m σ H' hW => ?_⟩
  obtain ⟨j, rfl, rfl, h1, h2, rfl, h3⟩ := hW
  refine ⟨_, rfl, _, rfl, _, rfl, hz, _, _, rfl, rfl, _, rfl, ite2 (fun e => ?_) (fun e => ?_)⟩
  · have hj : j < (tl z).length := by
      have := of_decide_eq_true e
      omega
    obtain ⟨c, hc⟩ : ∃ c, (tl z)[j]? = some c := ⟨_, List.getElem?_eq_getElem hj⟩
    refine ⟨_, rfl, _, rfl, _, _, c, rfl, rfl, hz, atI_nat hc, _, rfl, c, cs, rfl, rfl, _, rfl, ite2 (fun e2 => ?_) (fun e2 => ?_)⟩
    · refine ⟨fun σ' H1 => σ' = [some (.str z), some (.int ((j : Int) + 1)), some (.str cs)] ∧ H1 = H', fun σ' H1 hN => ?_, _, rfl, _, _, rfl, rfl, rfl, rfl⟩
      obtain ⟨rfl, rfl⟩ := hN
      refine ⟨_, ?_, j + 1, rfl, rfl, by omega, by omega, rfl, fun i c' a b g => ?_⟩
      · omega
      · rcases Nat.lt_or_eq_of_le (Nat.le_of_lt_succ b) with b' | b'
        · exact h3 i c' a b' g
        · subst b'
          rw [hc] at g
          have g' : c = c' := Option.some.inj g
          subst g'
          exact of_decide_eq_true e2
    · refine ⟨_, rfl, ?_⟩
      refine q j h1 h2 h3 fun c' g => ?_
      rw [hc] at g
      have g' : c = c' := Option.some.inj g
      subst g'
      exact fun z => e2 (decide_eq_true z)
  · have hj : j = (tl z).length := by
      have : ¬ (j : Int) < (z.length : Int) := fun z => e (decide_eq_true z)
      omega
    refine ⟨_, rfl, ?_⟩
    refine q j h1 h2 h3 fun c' g => ?_
    rw [List.getElem?_eq_none (by omega)] at g
    cases g
theorem ok_token_at {f fe aS : Addr} {fd fed : FuncData} (D : DefAt K mg "token_at" s_token_at ["text", "place"] f fd)
    (D_end_of_stretch : DefAt K mg "end_of_stretch" s_end_of_stretch ["text", "place", "characters"] fe fed) (G_end_of_stretch : FnOk P w K mg base CX0 1 fe fed ["text", "place", "characters"] spEos)
    (z_len : mg "len" = none) {t1 t2 : Tok} (g_LETTERS : mg "LETTERS" = some (.str ("abcdefghijklmnopqrstuvwxyz" : Str) t1)) (g_DIGITS : mg "DIGITS" = some (.str ("0123456789" : Str) t2)) (g_SIGNS : mg "SIGNS" = some (.ref aS)) (hS : ∀ H, SqT K H aS (sgS.map V.str)) :
    FnOk P w K mg base CX0 2 f fd ["text", "place"] spTokAt := by
  refine D.F.ok sc_token_at (fun vs H Q E h => ?_) (fun cdv A outer s H vs Q E hr h => ?_)
  · obtain ⟨z, p, _, _, _, rfl, _⟩ := h
    rfl
  obtain ⟨z, p, wd, r, kind, rfl, hd, ht, hz, q⟩ := h
  have hzl := len_tl z
  have hlen := drop_len hd ht.ne
  have hpos : 0 < wd.length := List.length_pos_iff.mpr ht.ne
  obtain ⟨c0, hc0⟩ : ∃ c, wd.head? = some c := by
    cases wd with
    | nil => exact absurd rfl ht.ne
    | cons c r => exact ⟨c, rfl⟩
  have hg : (tl z)[p]? = some c0 := by
    have k := drop_get (i := 0) hd
    rw [Nat.add_zero, List.getElem?_append_left hpos, ← List.head?_eq_getElem?, hc0] at k
    exact k
  have zero : ∀ S : Nat → Prop, ¬ S c0 → ∀ e : Nat, p ≤ e → e ≤ (tl z).length → (∀ i c, p ≤ i → i < e → (tl z)[i]? = some c → S c) → e = p := fun S hn e h1 h2 h3 => by
    rcases Nat.eq_or_lt_of_le h1 with h | h
    · exact h.symm
    · exact absurd (h3 p c0 (Nat.le_refl _) h hg) hn
  refine ⟨_, (pss_cons (ps_set (i := 2) sc_token_at.nd rfl (by first | exact Or.inl rfl | exact Or.inr rfl) (pe_call G_end_of_stretch (hr.mono (by omega)) (by rfl) D_end_of_stretch.m D_end_of_stretch.F.kp D_end_of_stretch.b .nil pass0 (pa_cons (pv 0) (pa_cons (pv 1) (pa_cons (gl_str (by rfl) g_LETTERS) pa_nil))))) (pss_cons (ps_if (pt_cmpR op_gt (pv 2) (pv 1) (nomark _)) (pss_one (ps_ret (pe_tup (pa_cons pe_str (pa_cons (pv 2) pa_nil))))) pss_nil) (pss_cons (ps_set (i := 3) sc_token_at.nd rfl (by first | exact Or.inl rfl | exact Or.inr rfl) (pe_ifExp (pt_cmpR op_eq (pe_ix ix_str (pv 0) (pv 1) (fun _ _ => rfl)) pe_str (nomark _)) (pe_op op_add (pv 1) pe_int) (pv 1))) (pss_cons (ps_set (i := 2) sc_token_at.nd rfl (by first | exact Or.inl rfl | exact Or.inr rfl) (pe_call G_end_of_stretch (hr.mono (by omega)) (by rfl) D_end_of_stretch.m D_end_of_stretch.F.kp D_end_of_stretch.b .nil pass0 (pa_cons (pv 0) (pa_cons (pv 3) (pa_cons (gl_str (by rfl) g_DIGITS) pa_nil))))) (pss_cons (ps_if (pt_cmpR op_gt (pv 2) (pv 3) (nomark _)) (pss_one (ps_ret (pe_tup (pa_cons pe_str (pa_cons (pv 2) pa_nil))))) pss_nil) (pss_cons (ps_for PassesOwn.never rfl (pi_tup (gl_ref (by rfl) g_SIGNS)) (pg_name (i := 4) sc_token_at.nd rfl (by first | exact Or.inl rfl | exact Or.inr rfl)) (pss_one (ps_if (pt_val (pe_bm PySem.F.plainAttrs_str PySem.F.slot_str_startswith PySem.F.type_str_startswith mt_startswith3 (pv 0) (pa_cons (pv 4) (pa_cons (pv 1) pa_nil)))) (pss_one (ps_ret (pe_tup (pa_cons pe_str (pa_cons (pe_op op_add (pv 1) (pe_callB call_len_str (by rfl) z_len boot_len (pa_cons (pv 4) pa_nil))) pa_nil))))) pss_nil))) (pss_one ps_never))))))), ?_⟩
  -- end = end_of_stretch(text, place, LETTERS)
  refine ⟨_, rfl, _, rfl, z, _, p, rfl, by omega, hz, fun e h1 h2 h3 h4 => ?_⟩
  have h3' : ∀ i c, p ≤ i → i < e → (tl z)[i]? = some c → Lt c := fun i c a b g => (mem_letters c).mp (h3 i c a b g)
  have h4' : ∀ c, (tl z)[e]? = some c → ¬ Lt c := fun c g n => h4 c g ((mem_letters c).mpr n)
  refine ⟨_, rfl, _, rfl, _, _, rfl, rfl, _, rfl, ite2 (fun g => ?_) (fun g => ?_)⟩
  · have hgt : p < e := by have := of_decide_eq_true g; omega
    have hlt : Lt c0 := h3' p c0 (Nat.le_refl _) hgt hg
    cases ht with
    | word h hw hr' =>
      have ee : e = p + wd.length := eos_uniq hd hw hr' h1 h2 (by omega) h3' h4'
      subst ee
      refine ⟨_, rfl, (by show 2 ≤ sizeLine; decide), fun t nt => ?_⟩
      exact q t nt
    | num h hdg hr' hw =>
      exfalso
      rcases hw with e1 | e1
      · exact (show ¬ Lt c0 from fun n => by have := hdg c0 (by rw [← e1]; exact List.mem_of_head? hc0); unfold Lt Dg at *; omega) hlt
      · rw [e1] at hc0
        have : (45 : Nat) = c0 := Option.some.inj hc0
        subst this
        exact absurd hlt (by decide)
    | sign h hr' => exact absurd hlt (sg_head wd h c0 hc0).1
  · have hle : e = p := by
      rcases Nat.lt_or_ge p e with l | l
      · exact absurd (decide_eq_true (by omega)) g
      · omega
    have hnl : ¬ Lt c0 := fun n => h4' c0 (by rw [hle]; exact hg) n
    subst hle
    -- digits = place + 1 if text[place] == "-" else place
    refine ⟨_, rfl, _, rfl, _, _, c0, rfl, rfl, hz, atI_nat hg, rfl, _, rfl, ?_⟩
    have dash : decide (V.str ⟨#[c0]⟩ = V.str ("-" : Str)) = decide (c0 = 45) := by
      rw [Bool.eq_iff_iff, decide_eq_true_iff, decide_eq_true_iff, ← one_sign]
      exact ⟨fun h => V.str.inj h, fun h => congrArg V.str h⟩
    rw [dash]
    refine if_te (fun v => ∃ dg : Nat, v = .int (dg : Int) ∧ ((dg = e + 1 ∧ c0 = 45) ∨ (dg = e ∧ c0 ≠ 45))) (fun g Q' q' => ?_) (fun g Q' q' => ?_) (fun v hv => ?_)
    · refine ⟨_, rfl, _, _, rfl, rfl, ?_⟩
      exact q' _ ⟨e + 1, rfl, .inl ⟨rfl, of_decide_eq_true g⟩⟩
    · refine ⟨_, rfl, ?_⟩
      exact q' _ ⟨e, rfl, .inr ⟨rfl, fun z => g (decide_eq_true z)⟩⟩
    obtain ⟨dg, rfl, hdg0⟩ := hv
    -- end = end_of_stretch(text, digits, DIGITS)
    refine ⟨_, rfl, _, rfl, z, _, dg, rfl, by omega, hz, fun e2 k1 k2 k3 k4 => ?_⟩
    have k3' : ∀ i c, dg ≤ i → i < e2 → (tl z)[i]? = some c → Dg c := fun i c a b g => (mem_digits c).mp (k3 i c a b g)
    have k4' : ∀ c, (tl z)[e2]? = some c → ¬ Dg c := fun c g n => k4 c g ((mem_digits c).mpr n)
    have two : (dg < e2 → kind = "number" ∧ e2 = e + wd.length) ∧ (¬ dg < e2 → wd ∈ sgL ∧ (wd = [60] ∨ wd = [62] → ∀ c, r.head? = some c → c ≠ 61) ∧ kind = "sign") := by
      cases ht with
      | word h hw hr' => exact absurd (hw c0 (List.mem_of_head? hc0)) hnl
      | @num ds h hdg hr' hw =>
        have key : ∀ k : Nat, dg = e + k → (tl z).drop (e + k) = ds ++ r → wd.length = k + ds.length → e2 = e + wd.length := fun k a1 a2 a3 => by
          have := eos_uniq (S := Dg) (e := e2) a2 hdg hr' (by omega) k2 (by omega) (fun i c x y => k3' i c (by omega) y) k4'
          omega
        have hdp : 0 < ds.length := List.length_pos_iff.mpr h
        have ee : e2 = e + wd.length ∧ dg < e + wd.length := by
          rcases hdg0 with ⟨a1, a2⟩ | ⟨a1, a2⟩
          · rcases hw with e1 | e1
            · have := hdg c0 (by rw [← e1]; exact List.mem_of_head? hc0)
              unfold Dg at this
              omega
            · refine ⟨key 1 a1 ?_ (by rw [e1, List.length_cons]; omega), by rw [e1, List.length_cons]; omega⟩
              have hd1 : (tl z).drop e = [45] ++ (ds ++ r) := by rw [hd, e1]; rfl
              exact drop_add hd1
          · rcases hw with e1 | e1
            · exact ⟨key 0 a1 (by rw [Nat.add_zero, hd, e1]) (by rw [e1, Nat.zero_add]), by rw [e1]; omega⟩
            · rw [e1] at hc0
              exact absurd (Option.some.inj hc0).symm a2
        exact ⟨fun _ => ⟨rfl, ee.1⟩, fun n => by omega⟩
      | sign h hr' =>
        have hs := sg_head wd h c0 hc0
        have a1 : dg = e := by
          rcases hdg0 with ⟨_, a2⟩ | ⟨a1, _⟩
          · exact absurd a2 hs.2.2.1
          · exact a1
        have : e2 = e := zero Dg hs.2.1 e2 (by omega) k2 (fun i c x y => k3' i c (by omega) y)
        exact ⟨fun n => by omega, fun _ => ⟨h, hr', rfl⟩⟩
    -- if end > digits
    refine ⟨_, rfl, _, rfl, _, _, rfl, rfl, _, rfl, ite2 (fun g2 => ?_) (fun g2 => ?_)⟩
    · obtain ⟨rfl, rfl⟩ := two.1 (by have := of_decide_eq_true g2; omega)
      refine ⟨_, rfl, (by show 2 ≤ sizeLine; decide), fun t nt => ?_⟩
      exact q t nt
    · obtain ⟨hsg, hfol, rfl⟩ := two.2 (fun n => g2 (decide_eq_true (by omega)))
      obtain ⟨k, hk⟩ := List.mem_iff_getElem?.mp hsg
      have tlS : ∀ (i : Nat) (s : Str), sgS[i]? = some s → sgL[i]? = some (tl s) := fun i s hs => by rw [← sg_tl, List.getElem?_map, hs]; rfl
      -- for sign in SIGNS
      refine ⟨aS, rfl, ⟨_, hS _⟩, for_tup (xs := sgS.map V.str) (fun i σ H' => H' = H ∧ (∃ y, σ = [some (.str z), some (.int (e : Int)), some (.int (e2 : Int)), some (.int (dg : Int)), y]) ∧ ∀ j < i, ∀ s, sgS[j]? = some s → Txt.startswith3 z s (e : Int) = false)
        ⟨rfl, ⟨_, rfl⟩, fun j hj => absurd hj (Nat.not_lt_zero _)⟩ (fun i σ H' _ _ => hS _) (fun i x σ H' hx hP => ?_) (fun σ H' hP => ?_)⟩
      · obtain ⟨rfl, ⟨y, rfl⟩, hno⟩ := hP
        obtain ⟨s, hs, rfl⟩ : ∃ s, sgS[i]? = some s ∧ x = .str s := by
          rw [List.getElem?_map] at hx
          cases hq : sgS[i]? with
          | none => rw [hq] at hx; cases hx
          | some s => rw [hq] at hx; exact ⟨s, rfl, (Option.some.inj hx).symm⟩
        have hi10 : i < 10 := (List.getElem?_eq_some_iff.mp hs).1
        -- text.startswith(sign, place)
        refine ⟨_, rfl, rfl, _, rfl, _, rfl, _, _, _, rfl, rfl, _, rfl, ite2 (fun g3 => ?_) (fun g3 => ?_)⟩
        · obtain ⟨r', hr'⟩ := (sw_iff (by omega)).mp g3
          have hik : i ≤ k := by
            rcases Nat.lt_or_ge k i with l | l
            · exfalso
              have hk10 : k < 10 := (List.getElem?_eq_some_iff.mp hk).1
              obtain ⟨sk, hsk⟩ : ∃ s, sgS[k]? = some s := ⟨_, List.getElem?_eq_getElem (show k < sgS.length from hk10)⟩
              have e1 : tl sk = wd := Option.some.inj ((tlS k sk hsk).symm.trans hk)
              have := hno k l sk hsk
              rw [(sw_iff (by omega)).mpr ⟨r, by rw [e1]; exact hd⟩] at this
              cases this
            · exact l
          have ew : tl s = wd := by
            rcases sg_pref hik (tlS i s hs) hk (hr'.symm.trans hd) with h | ⟨h1, h2⟩
            · exact h
            · exact absurd rfl (hfol h1 61 h2)
          have el : (s.length : Int) = (wd.length : Int) := by rw [len_tl, ew]
          refine ⟨_, rfl, _, rfl, s, rfl, ?_, _, _, rfl, rfl, (by show 2 ≤ sizeLine; decide), fun t nt => ?_⟩
          · have := len_tl s
            rw [ew] at this
            omega
          · rw [el]
            exact q t nt
        · refine ⟨rfl, ⟨_, rfl⟩, fun j hj s' hs' => ?_⟩
          rcases Nat.lt_or_eq_of_le (Nat.le_of_lt_succ hj) with l | l
          · exact hno j l s' hs'
          · subst l
            rw [hs] at hs'
            cases hs'
            exact Bool.eq_false_iff.mpr g3
      · exfalso
        obtain ⟨rfl, _, hno⟩ := hP
        have hk10 : k < 10 := (List.getElem?_eq_some_iff.mp hk).1
        obtain ⟨sk, hsk⟩ : ∃ s, sgS[k]? = some s := ⟨_, List.getElem?_eq_getElem (show k < sgS.length from hk10)⟩
        have e1 : tl sk = wd := Option.some.inj ((tlS k sk hsk).symm.trans hk)
        have := hno k (by rw [List.length_map]; exact hk10) sk hsk
        rw [(sw_iff (by omega)).mpr ⟨r, by rw [e1]; exact hd⟩] at this
        cases this
end
end Tf
set_option maxHeartbeats 8000000
namespace Tf
open PySem PySem.Spec PyProof.Rows L2 TL
section
variable {P : Program} {w : World} {K : PySem.W.Frag} {mg : Str → Option Value} {base : Heap}
theorem ok_tokens {f fe : Addr} {fd fed : FuncData} (D : DefAt K mg "tokens" s_tokens ["text"] f fd)
    (D_token_at : DefAt K mg "token_at" s_token_at ["text", "place"] fe fed) (G_token_at : FnOk P w K mg base CX0 2 fe fed ["text", "place"] spTokAt)
    (z_len : mg "len" = none) (z_int : mg "int" = none) {t1 : Tok} (g_BLANKS : mg "BLANKS" = some (.str (" \n" : Str) t1)) :
    FnOk P w K mg base CX0 3 f fd ["text"] spTokens := by
  refine D.F.ok sc_tokens (fun vs H Q E h => ?_) (fun cdv A outer s H vs Q E hr h => ?_)
  · obtain ⟨z, due, rfl, _⟩ := h
    rfl
  obtain ⟨z, due, rfl, hx, hz, q⟩ := h
  have hzl := len_tl z
  have hzs : z.length ≤ sizeLine := Nat.le_of_lt (small1000 hz)
  refine ⟨_, (pss_cons (ps_set (i := 1) sc_tokens.nd rfl (by first | exact Or.inl rfl | exact Or.inr rfl) (pe_lst pa_nil)) (pss_cons (ps_set (i := 2) sc_tokens.nd rfl (by first | exact Or.inl rfl | exact Or.inr rfl) pe_int) (pss_cons (ps_while PassesOwn.never (pt_cmpR op_lt (pv 2) (pe_callB call_len_str (by rfl) z_len boot_len (pa_cons (pv 0) pa_nil)) (nomark _)) (pss_one (ps_if (pt_cmpR op_in_sign (pe_ix ix_str (pv 0) (pv 2) (fun _ _ => rfl)) (gl_str (by rfl) g_BLANKS) rfl) (pss_one (ps_aug (i := 2) sc_tokens.nd rfl (by first | exact Or.inl rfl | exact Or.inr rfl) pe_int ip_add)) (pss_cons (ps_asg (pe_call G_token_at (hr.mono (by omega)) (by rfl) D_token_at.m D_token_at.F.kp D_token_at.b .nil pass0 (pa_cons (pv 0) (pa_cons (pv 2) pa_nil))) (pg_tup (by rfl) (pgs_cons (pg_name (i := 5) sc_tokens.nd rfl (by first | exact Or.inl rfl | exact Or.inr rfl)) (pgs_cons (pg_name (i := 6) sc_tokens.nd rfl (by first | exact Or.inl rfl | exact Or.inr rfl)) pgs_nil)))) (pss_cons (ps_set (i := 3) sc_tokens.nd rfl (by first | exact Or.inl rfl | exact Or.inr rfl) (pe_slice sl_str (pv 0) (po_some (pv 2)) (po_some (pv 6)))) (pss_cons (ps_set (i := 4) sc_tokens.nd rfl (by first | exact Or.inl rfl | exact Or.inr rfl) (pe_ifExp (pt_cmpR op_eq (pv 5) pe_str (nomark _)) (pe_callTy call_int_str (by rfl) z_int boot_int (pa_cons (pv 3) pa_nil)) (pv 3))) (pss_cons (ps_expr (pe_bm PySem.F.plainAttrs_list PySem.F.slot_list_append PySem.F.type_list_append mt_append (pv 1) (pa_cons (pe_tup (pa_cons (pv 5) (pa_cons (pv 4) (pa_cons (pv 2) pa_nil)))) pa_nil))) (pss_one (ps_set (i := 2) sc_tokens.nd rfl (by first | exact Or.inl rfl | exact Or.inr rfl) (pv 6)))))))))) (pss_one (ps_ret (pv 1)))))), ?_⟩
  refine ⟨Nat.zero_le _, fun a na => ?_⟩
  refine ⟨fun m σ H' => ∃ (p : Nat) (dn rest : List Tk) (xs : List V) (y1 y2 y3 y4 : Option V), σ = [some (.str z), some (.ref a), some (.int (p : Int)), y1, y2, y3, y4] ∧ p ≤ (tl z).length ∧ Lex p ((tl z).drop p) rest ∧ dn ++ rest = due ∧ m = (tl z).length - p ∧
    H' a = some (.lst xs) ∧ TkL H' xs dn ∧ xs.length ≤ p ∧ Same H H', ⟨_, 0, [], due, [], none, none, none, none, rfl, Nat.zero_le _, hx, rfl, rfl, upd_same, trivial, Nat.zero_le _, same_new na _⟩, fun m σ H' hW => ?_⟩
  obtain ⟨p, dn, rest, xs, y1, y2, y3, y4, rfl, hp, hl, hdue, rfl, ha, hT, hxl, hsm⟩ := hW
  -- place < len(text)
  refine ⟨_, rfl, _, rfl, _, rfl, hzs, _, _, rfl, rfl, _, rfl, ite2 (fun g => ?_) (fun g => ?_)⟩
  · have hlt : p < (tl z).length := by have := of_decide_eq_true g; omega
    have hg := List.getElem?_eq_getElem hlt
    have hne : (tl z).drop p ≠ [] := fun e => by
      have := congrArg List.length e
      rw [List.length_drop, List.length_nil] at this
      omega
    refine ⟨fun σ' H1 => ∃ (p' : Nat) (dn rest : List Tk) (xs : List V) (y1 y2 y3 y4 : Option V), p < p' ∧ σ' = [some (.str z), some (.ref a), some (.int (p' : Int)), y1, y2, y3, y4] ∧ p' ≤ (tl z).length ∧ Lex p' ((tl z).drop p') rest ∧ dn ++ rest = due ∧
      H1 a = some (.lst xs) ∧ TkL H1 xs dn ∧ xs.length ≤ p' ∧ Same H H1, fun σ' H1 hN => ?_, ?_⟩
    · obtain ⟨p', dn', rest', xs', z1, z2, z3, z4, hpp, rfl, b1, b2, b3, b4, b5, b6, b7⟩ := hN
      exact ⟨_, by omega, p', dn', rest', xs', z1, z2, z3, z4, rfl, b1, b2, b3, rfl, b4, b5, b6, b7⟩
    -- text[place] in BLANKS
    refine ⟨_, rfl, _, rfl, _, _, (tl z)[p], rfl, rfl, hzs, atI_nat hg, _, _, rfl, rfl, _, rfl, ?_⟩
    rcases lex_inv hl hne with ⟨c, r, e, hb, hk⟩ | ⟨wd, r, kind, v, d', e, ht, hv, hk, hd'⟩
    · have ec : (tl z)[p] = c := by
        have k := drop_get (l := tl z) (p := p) (i := 0) (w := [c]) (r := r) e
        rw [Nat.add_zero, hg] at k
        exact Option.some.inj k
      rw [ec, decide_eq_true ((mem_blanks c).mpr hb)]
      refine iteT ?_
      refine ⟨_, rfl, _, _, rfl, rfl, ?_⟩
      have ed : (tl z).drop (p + 1) = r := drop_add (w := [c]) e
      exact ⟨p + 1, dn, rest, xs, y1, y2, y3, y4, Nat.lt_succ_self _, rfl, hlt, by rw [ed]; exact hk, hdue, ha, hT, by omega, hsm⟩
    · have hw0 := ht.ne
      have hpos : 0 < wd.length := List.length_pos_iff.mpr hw0
      have hlen := drop_len e hw0
      have ec : wd.head? = some (tl z)[p] := by
        have k := drop_get (l := tl z) (p := p) (i := 0) e
        rw [Nat.add_zero, hg, List.getElem?_append_left hpos, ← List.head?_eq_getElem?] at k
        exact k.symm
      rw [decide_eq_false fun n => ht.head ec ((mem_blanks _).mp n)]
      refine iteF ?_
      -- kind, end = token_at(text, place)
      refine ⟨_, rfl, _, rfl, z, p, wd, r, kind, rfl, e, ht, hzs, fun t nt => ?_⟩
      have nta : a ≠ t := ne_of_none ha nt
      refine ⟨t, _, rfl, .inl (.inl upd_same), rfl, _, _, rfl, _, _, rfl, rfl, ?_⟩
      -- written = text[place:end]
      refine ⟨_, rfl, _, rfl, _, rfl, _, rfl, _, rfl, z, rfl, hzs, ?_⟩
      rw [cut_at e hw0]
      -- value = int(written) if kind == "number" else written
      refine ⟨_, rfl, rfl, _, rfl, ?_⟩
      refine if_te (fun v' => v' = v) (fun g Q' q' => ?_) (fun g Q' q' => ?_) (fun v' hv' => ?_)
      · have gk : kind = "number" := V.str.inj (of_decide_eq_true g)
        rcases hv with ⟨_, l640, n, h1, h2⟩ | ⟨h1, _⟩
        · refine ⟨_, rfl, _, n, rfl, h1, (by rw [len_tl, tl_mk]; exact l640), ?_⟩
          exact q' _ h2.symm
        · exact absurd gk h1
      · rcases hv with ⟨h1, _⟩ | ⟨h1, h2⟩
        · exact absurd (decide_eq_true (congrArg V.str h1)) g
        · refine ⟨_, rfl, ?_⟩
          exact q' _ h2.symm
      subst hv'
      -- found.append((kind, value, place))
      have ha1 : ∀ o, (upd H' t o) a = some (.lst xs) := fun o => by rw [upd_ne nta]; exact ha
      refine ⟨_, rfl, .inl ⟨rfl, _, .of (ha1 _)⟩, _, rfl, _, rfl, _, rfl, (by show 3 ≤ sizeLine; decide), fun u nu => ?_⟩
      have nua : a ≠ u := ne_of_none (ha1 _) nu
      have ha2 : ∀ o o', (upd (upd H' t o) u o') a = some (.lst xs) := fun o o' => by rw [upd_ne nua]; exact ha1 o
      refine ⟨a, xs, _, rfl, rfl, ha2 _ _, small1000 (by omega), ?_⟩
      -- place = end
      refine ⟨_, rfl, ?_⟩
      refine ⟨p + wd.length, dn ++ [(kind, v', p)], d', xs ++ [.ref u], _, _, _, _, by omega, rfl, by omega, by rw [drop_add e]; exact hk, by rw [List.append_assoc, ← hdue, hd']; rfl, upd_same, ?_, by rw [List.length_append]; show xs.length + 1 ≤ _; omega, ?_⟩
      · have k1 : ∀ q ys, H' q = some (.tup ys) → (upd H' t (.tup [.str kind, .int ((p + wd.length : Nat) : Int)])) q = some (.tup ys) := fun q ys eq => by rw [upd_ne (ne_of_none eq nt)]; exact eq
        have k2 : ∀ q ys, (upd H' t (.tup [.str kind, .int ((p + wd.length : Nat) : Int)])) q = some (.tup ys) → (upd (upd H' t (.tup [.str kind, .int ((p + wd.length : Nat) : Int)])) u (.tup [.str kind, v', .int (p : Int)])) q = some (.tup ys) := fun q ys eq => by rw [upd_ne (ne_of_none eq nu)]; exact eq
        refine TkL.mono (tup_upd (fun ys eq => ?_)) (TkL.snoc (t := (kind, v', p)) upd_same ((hT.mono k1).mono k2))
        rw [ha2 _ _] at eq
        cases eq
      · intro b o eb
        have nb : b ≠ a := ne_of_none eb na
        have nbt : b ≠ t := ne_of_none (hsm _ _ eb) nt
        have nbu : b ≠ u := ne_of_none (by rw [upd_ne nbt]; exact hsm _ _ eb) nu
        rw [upd_ne nb, upd_ne nbu, upd_ne nbt]
        exact hsm _ _ eb
  · have hpe : p = (tl z).length := by
      rcases Nat.lt_or_ge p (tl z).length with l | l
      · exact absurd (decide_eq_true (by omega)) g
      · omega
    rw [hpe, List.drop_length] at hl
    have hr0 := lex_end hl
    rw [hr0, List.append_nil] at hdue
    subst hdue
    refine ⟨_, rfl, ?_⟩
    exact q a xs H' na hsm ha hT
end
end Tf
set_option maxHeartbeats 8000000
namespace Tf
open PySem PySem.Spec PyProof.Rows L2 TL
abbrev s_same : Stmt := (topS 14)
abbrev n_same : List Str := ["actual", "due", "k"]
theorem sc_same : FnScope n_same ["actual", "due"] (defScope s_same) := ⟨rfl, rfl, rfl, by decide +kernel, rfl, by decide +kernel, by decide +kernel⟩
abbrev s_draw : Stmt := (topS 12)
abbrev n_draw : List Str := ["script"]
theorem sc_draw : FnScope n_draw ["script"] (defScope s_draw) := ⟨rfl, rfl, rfl, by decide +kernel, rfl, by decide +kernel, by decide +kernel⟩
abbrev s_gap : Stmt := (topS 15)
abbrev n_gap : List Str := ["draw"]
theorem sc_gap : FnScope n_gap ["draw"] (defScope s_gap) := ⟨rfl, rfl, rfl, by decide +kernel, rfl, by decide +kernel, by decide +kernel⟩
abbrev s_joint : Stmt := (topS 16)
abbrev n_joint : List Str := ["draw", "last", "word", "gap"]
theorem sc_joint : FnScope n_joint ["draw", "last", "word"] (defScope s_joint) := ⟨rfl, rfl, rfl, by decide +kernel, rfl, by decide +kernel, by decide +kernel⟩
abbrev s_one : Stmt := (topS 17)
abbrev n_one : List Str := ["draw", "form", "sign", "letters", "word", "number", "zeros", "k"]
theorem sc_one : FnScope n_one ["draw"] (defScope s_one) := ⟨rfl, rfl, rfl, by decide +kernel, rfl, by decide +kernel, by decide +kernel⟩
section
variable {P : Program} {w : World} {K : PySem.W.Frag} {mg : Str → Option Value} {base : Heap}
theorem same0 {f : Addr} {fd : FuncData} : FnOk P w K mg base CX0 0 f fd ["actual", "due"] (spS 0) := by
  have no : ∀ vs H Q E, ¬ spS 0 vs H Q E := fun vs H Q E h => by
    obtain ⟨n, x, y, e, _⟩ := h
    omega
  exact ⟨fun vs H Q E h => absurd h (no vs H Q E), fun A outer s H args us vs Q E _ _ _ _ h => absurd h (no vs H Q E)⟩
theorem ok_same1 {f : Addr} {fd : FuncData} {k : Nat} (D_same : DefAt K mg "_law_same" s_same ["actual", "due"] f fd) (G_same : FnOk P w K mg base CX0 k f fd ["actual", "due"] (spS k))
    (z_isinstance : mg "isinstance" = none) (z_list : mg "list" = none) (z_tuple : mg "tuple" = none) (z_bool : mg "bool" = none) (z_str : mg "str" = none) (z_int : mg "int" = none) (z_len : mg "len" = none) (z_all : mg "all" = none) (z_range : mg "range" = none) :
    FnOk P w K mg base CX0 (k + 1) f fd ["actual", "due"] (spS (k + 1)) := by
  refine D_same.F.ok sc_same (fun vs H Q E h => ?_) (fun cdv A outer s H vs Q E hr h => ?_)
  · obtain ⟨n, x, y, _, rfl, _⟩ := h
    rfl
  obtain ⟨n, x, y, hk, rfl, he, q⟩ := h
  obtain rfl : k = n := by omega
  refine ⟨_, (pss_cons (ps_if (pt_val (pe_callB call_isiT (by rfl) z_isinstance boot_isinstance (pa_cons (pv 1) (pa_cons (pe_tup (pa_cons (pe_bltn (v := .ty "list") (by rfl) z_list boot_list rfl) (pa_cons (pe_bltn (v := .ty "tuple") (by rfl) z_tuple boot_tuple rfl) pa_nil))) pa_nil)))) (pss_cons (ps_if (PW.pt (pw_or (pt_cmpR op_ne (pe_callB call_isi (by rfl) z_isinstance boot_isinstance (pa_cons (pv 1) (pa_cons (pe_bltn (v := .ty "list") (by rfl) z_list boot_list rfl) pa_nil))) (pe_callB call_isi (by rfl) z_isinstance boot_isinstance (pa_cons (pv 0) (pa_cons (pe_bltn (v := .ty "list") (by rfl) z_list boot_list rfl) pa_nil))) (nomark _)) (pw_or1 (pt_cmpR op_ne (pe_callB call_isi (by rfl) z_isinstance boot_isinstance (pa_cons (pv 1) (pa_cons (pe_bltn (v := .ty "tuple") (by rfl) z_tuple boot_tuple rfl) pa_nil))) (pe_callB call_isi (by rfl) z_isinstance boot_isinstance (pa_cons (pv 0) (pa_cons (pe_bltn (v := .ty "tuple") (by rfl) z_tuple boot_tuple rfl) pa_nil))) (nomark _))))) (pss_one (ps_ret pe_bl)) pss_nil) (pss_cons (ps_if (pt_cmpR op_ne (pe_callB call_len_seq (by rfl) z_len boot_len (pa_cons (pv 0) pa_nil)) (pe_callB call_len_seq (by rfl) z_len boot_len (pa_cons (pv 1) pa_nil)) (nomark _)) (pss_one (ps_ret pe_bl)) pss_nil) (pss_one (ps_ret (pe_callB (cr_all rfl) (by rfl) z_all boot_all (pa_cons (pe_lc (own := [("k", 2)]) (g := gName 2) (tt := tYes) (by rfl) sc_same.nd (pi_range1 (by rfl) z_range (pa_cons (pe_callB call_len_seq (by rfl) z_len boot_len (pa_cons (pv 1) pa_nil)) pa_nil)) (blkOk_by (own := [("k", 2)]) (N := n_same) (sc := defScope s_same) (by decide +kernel)) (fun _ _ _ _ _ => (pg_name (i := 2) sc_same.nd rfl (by first | exact Or.inl rfl | exact Or.inr rfl))) (fun _ _ _ _ _ => pts_nil) (fun _ _ _ _ _ => (pe_call G_same (hr.mono (by omega)) (by rfl) D_same.m D_same.F.kp D_same.b .nil pass0 (pa_cons (pe_ix (r := rIx K) ix_seq (pv 0) (pv 2) (fun _ _ => rfl)) (pa_cons (pe_ix (r := rIx K) ix_seq (pv 1) (pv 2) (fun _ _ => rfl)) pa_nil))))) pa_nil)))))) pss_nil) (pss_cons (ps_if (pt_cmpR op_isN (pv 1) pe_non (nomark _)) (pss_one (ps_ret (pe_cmpR op_isN (pv 0) pe_non (nomark _)))) pss_nil) (pss_cons (ps_if (pt_cmpR op_ne (pe_callB call_isi (by rfl) z_isinstance boot_isinstance (pa_cons (pv 1) (pa_cons (pe_bltn (v := .ty "bool") (by rfl) z_bool boot_bool rfl) pa_nil))) (pe_callB call_isi (by rfl) z_isinstance boot_isinstance (pa_cons (pv 0) (pa_cons (pe_bltn (v := .ty "bool") (by rfl) z_bool boot_bool rfl) pa_nil))) (nomark _)) (pss_one (ps_ret pe_bl)) pss_nil) (pss_cons (ps_if (pt_val (pe_callB call_isi (by rfl) z_isinstance boot_isinstance (pa_cons (pv 1) (pa_cons (pe_bltn (v := .ty "str") (by rfl) z_str boot_str rfl) pa_nil)))) (pss_one (ps_ret (pe_and (pe_callB call_isi (by rfl) z_isinstance boot_isinstance (pa_cons (pv 0) (pa_cons (pe_bltn (v := .ty "str") (by rfl) z_str boot_str rfl) pa_nil))) (pe_one (pe_cmpR op_eq (pv 0) (pv 1) (nomark _)))))) pss_nil) (pss_one (ps_ret (pe_and (pe_callB call_isi (by rfl) z_isinstance boot_isinstance (pa_cons (pv 0) (pa_cons (pe_bltn (v := .ty "int") (by rfl) z_int boot_int rfl) pa_nil))) (pe_one (pe_cmpR op_eq (pv 0) (pv 1) (nomark _)))))))))), ?_⟩
  have two : (2 : Nat) ≤ sizeLine := by decide
  have cls2 : Paired ClsV [V.ty "list", V.ty "tuple"] [Value.type "list", Value.type "tuple"] := .cons (.ty "list") (.cons (.ty "tuple") .nil)
  have he' : Eq0 x y ∨ ∃ (k' : Nat) (t : Bool) (a b : Addr) (xs ys : List V), k = k' + 1 ∧ x = .ref a ∧ y = .ref b ∧ SeqH H t a xs ∧ SeqH H t b ys ∧ xs.length = ys.length ∧ ys.length ≤ 1000 ∧ ∀ (i : Nat) u v, xs[i]? = some u → ys[i]? = some v → Eq2 H k' u v := by
    cases k with
    | zero => exact .inl he
    | succ k =>
      rcases he with h | ⟨t, a, b, xs, ys, h⟩
      · exact .inl h
      · exact .inr ⟨k, t, a, b, xs, ys, rfl, h⟩
  rcases he' with (⟨i, rfl, rfl⟩ | ⟨z, rfl, rfl⟩ | ⟨rfl, rfl⟩) | ⟨k', t, a, b, xs, ys, rfl, rfl, rfl, h1, h2, h3, h4, h5⟩
  · refine ⟨_, rfl, two, fun tp np => ⟨_, tp, _, _, _, false, rfl, upd_same, cls2, .base (.int i), kit_no K "int" (by decide +kernel) (by decide +kernel), _, rfl, iteF ?_⟩⟩
    refine ⟨_, rfl, rfl, _, rfl, ite2 (fun e => nomatch of_decide_eq_true e) (fun _ => ?_)⟩
    refine ⟨_, rfl, _, _, _, _, false, rfl, .ty "bool", .base (.int i), kit_ty (by decide +kernel), _, rfl, _, _, _, _, false, rfl, .ty "bool", .base (.int i), kit_ty (by decide +kernel), rfl, _, rfl, iteNS rfl ?_⟩
    refine ⟨_, rfl, _, _, _, _, false, rfl, .ty "str", .base (.int i), kit_ty (by decide +kernel), _, rfl, iteF ?_⟩
    refine ⟨_, rfl, _, _, _, _, true, rfl, .ty "int", .base (.int i), kit_ty (by decide +kernel), _, rfl, iteT ⟨_, rfl, _, rfl, rfl, ?_⟩⟩
    rw [decide_eq_true rfl]
    exact q _ (same_new np _)
  · refine ⟨_, rfl, two, fun tp np => ⟨_, tp, _, _, _, false, rfl, upd_same, cls2, .base (.str z), kit_no K "str" (by decide +kernel) (by decide +kernel), _, rfl, iteF ?_⟩⟩
    refine ⟨_, rfl, rfl, _, rfl, ite2 (fun e => nomatch of_decide_eq_true e) (fun _ => ?_)⟩
    refine ⟨_, rfl, _, _, _, _, false, rfl, .ty "bool", .base (.str z), kit_ty (by decide +kernel), _, rfl, _, _, _, _, false, rfl, .ty "bool", .base (.str z), kit_ty (by decide +kernel), rfl, _, rfl, iteNS rfl ?_⟩
    refine ⟨_, rfl, _, _, _, _, true, rfl, .ty "str", .base (.str z), kit_ty (by decide +kernel), _, rfl, iteT ?_⟩
    refine ⟨_, rfl, _, _, _, _, true, rfl, .ty "str", .base (.str z), kit_ty (by decide +kernel), _, rfl, iteT ⟨_, rfl, _, rfl, rfl, ?_⟩⟩
    rw [decide_eq_true rfl]
    exact q _ (same_new np _)
  · refine ⟨_, rfl, two, fun tp np => ⟨_, tp, _, _, _, false, rfl, upd_same, cls2, .base .non, kit_no K "NoneType" (by decide +kernel) (by decide +kernel), _, rfl, iteF ?_⟩⟩
    refine ⟨_, rfl, rfl, _, rfl, ite2 (fun e => ?_) (fun e => absurd (decide_eq_true rfl) e)⟩
    refine ⟨_, rfl, rfl, ?_⟩
    rw [decide_eq_true rfl]
    exact q _ (same_new np _)
  · refine ⟨_, rfl, two, fun tp np => ?_⟩
    have s1 := same_new np (.tup [V.ty "list", V.ty "tuple"])
    have h1' : SeqH _ t a xs := s1 _ _ h1
    have h2' : SeqH _ t b ys := s1 _ _ h2
    refine ⟨_, tp, _, _, _, true, rfl, upd_same, cls2, seq_ty h2', kit_seq K t, _, rfl, iteT ?_⟩
    refine ⟨_, rfl, _, _, _, _, _, rfl, .ty "list", seq_ty h2', kit_l K t, _, rfl, _, _, _, _, _, rfl, .ty "list", seq_ty h1', kit_l K t, rfl, _, rfl, iteNS rfl ?_⟩
    refine ⟨_, rfl, _, _, _, _, _, rfl, .ty "tuple", seq_ty h2', kit_t K t, _, rfl, _, _, _, _, _, rfl, .ty "tuple", seq_ty h1', kit_t K t, rfl, _, rfl, iteNS rfl ?_⟩
    refine ⟨_, rfl, a, _, rfl, seq_or h1', _, rfl, b, _, rfl, seq_or h2', rfl, _, rfl, iteNS (congrArg (fun n : Nat => V.int (n : Int)) h3) ?_⟩
    refine ⟨_, rfl, b, _, rfl, seq_or h2', _, rfl, by omega, by omega, fun Dl nD => ?_⟩
    refine lc_range (lo := 0) (n := ys.length) (fun i H' => H' Dl = some (.lst ((List.replicate i true).map V.bl)) ∧ Same (upd H tp (.tup [V.ty "list", V.ty "tuple"])) H') ⟨upd_same, same_new nD _⟩ (fun i H' hi hP => ?_) (fun H' hP => ?_)
    · obtain ⟨p1, p2⟩ := hP
      obtain ⟨u, hu⟩ : ∃ u, xs[i]? = some u := ⟨_, List.getElem?_eq_getElem (by omega)⟩
      obtain ⟨v, hv⟩ : ∃ v, ys[i]? = some v := ⟨_, List.getElem?_eq_getElem hi⟩
      refine ⟨rfl, ?_⟩
      refine ⟨_, rfl, _, rfl, rix_of (p2 _ _ h1') (Int.zero_add _) hu ⟨_, rfl, _, rfl, rix_of (p2 _ _ h2') (Int.zero_add _) hv ?_⟩⟩
      refine ⟨k', u, v, rfl, rfl, ((h5 i u v hu hv).mono s1).mono p2, fun H4 s4 => ?_⟩
      refine ⟨_, s4 _ _ p1, small1000 (by rw [List.length_map, List.length_replicate]; omega), ?_, fun b o eb => ?_⟩
      · rw [upd_same, List.replicate_succ', List.map_append]
        rfl
      · rw [upd_ne (ne_of_none eb nD)]
        exact s4 _ _ (p2 _ _ eb)
    · obtain ⟨p1, p2⟩ := hP
      refine ⟨Dl, List.replicate ys.length true, rfl, .of p1, ?_⟩
      have e : (List.replicate ys.length true).all id = true := by simp
      rw [e]
      exact q _ (fun b o eb => p2 _ _ (s1 _ _ eb))
theorem ok_same {f : Addr} {fd : FuncData} (D_same : DefAt K mg "_law_same" s_same ["actual", "due"] f fd)
    (z_isinstance : mg "isinstance" = none) (z_list : mg "list" = none) (z_tuple : mg "tuple" = none) (z_bool : mg "bool" = none) (z_str : mg "str" = none) (z_int : mg "int" = none) (z_len : mg "len" = none) (z_all : mg "all" = none) (z_range : mg "range" = none) :
    ∀ k : Nat, FnOk P w K mg base CX0 k f fd ["actual", "due"] (spS k)
  | 0 => same0
  | k + 1 => ok_same1 D_same (ok_same D_same z_isinstance z_list z_tuple z_bool z_str z_int z_len z_all z_range k) z_isinstance z_list z_tuple z_bool z_str z_int z_len z_all z_range
end
end Tf
set_option maxHeartbeats 8000000
namespace Tf
open PySem PySem.Spec PyProof.Rows L2 TL
section
variable {P : Program} {w : World} {K : PySem.W.Frag} {mg : Str → Option Value} {base : Heap}
theorem ok_draw {f : Addr} {fd : FuncData} (D : DefAt K mg "_law_draw" s_draw ["script"] f fd) (z_list : mg "list" = none) : FnOk P w K mg base CX0 1 f fd ["script"] (spDraw K) := by
  refine D.F.ok sc_draw (fun vs H Q E h => ?_) (fun cdv A outer s H vs Q E hr h => ?_)
  · obtain ⟨a, ns, rfl, _⟩ := h
    rfl
  obtain ⟨a, ns, rfl, hS, h63, q⟩ := h
  refine ⟨_, (pss_one (ps_ret (pe_lst (pa_cons (pe_callTy call_list_of (by rfl) z_list boot_list (pa_cons (pv 0) pa_nil)) (pa_cons pe_int (pa_cons pe_int (pa_cons pe_int pa_nil))))))), ?_⟩
  refine ⟨_, rfl, a, _, rfl, .inl hS, fun l nl => ⟨(by show 4 ≤ sizeLine; decide), fun d nd => ?_⟩⟩
  have nld : l ≠ d := fun e => by rw [e] at nd; rw [upd_same] at nd; cases nd
  refine q d l _ ?_ ⟨ns, 0, 0, 17, upd_same, by rw [upd_ne nld]; exact upd_same, nld, by decide, by decide, by decide⟩ fun b o eb => ?_
  · cases e : H d with
    | none => rfl
    | some o =>
      rw [upd_ne nld.symm, e] at nd
      cases nd
  · have h1 : b ≠ l := ne_of_none eb nl
    rw [upd_ne (ne_of_none (by rw [upd_ne h1]; exact eb) nd), upd_ne h1]
    exact eb
theorem ok_gap {f fn : Addr} {fd fnd : FuncData} (D : DefAt K mg "_law_gap" s_gap ["draw"] f fd) (D_next : DefAt K mg "_law_next" s_next ["draw", "many"] fn fnd) (G_next : FnOk P w K mg base CX0 1 fn fnd ["draw", "many"] spNext) :
    FnOk P w K mg base CX0 2 f fd ["draw"] spGap := by
  refine D.F.ok sc_gap (fun vs H Q E h => ?_) (fun cdv A outer s H vs Q E hr h => ?_)
  · obtain ⟨a, sc, rfl, _⟩ := h
    rfl
  obtain ⟨d, sc, rfl, hD, q⟩ := h
  refine ⟨_, (pss_one (ps_ret (pe_ix ix_list (pe_lst (pa_cons pe_str (pa_cons pe_str (pa_cons pe_str (pa_cons pe_str (pa_cons pe_str pa_nil)))))) (pe_call G_next (hr.mono (by omega)) (by rfl) D_next.m D_next.F.kp D_next.b .nil pass0 (pa_cons (pv 0) (pa_cons pe_int pa_nil))) (fun _ _ => rfl)))), ?_⟩
  refine ⟨(by show 5 ≤ sizeLine; decide), fun l nl => ?_⟩
  refine ⟨_, rfl, d, sc, 5, rfl, by decide, by decide, hD.new nl, fun i H' i0 i1 hD' hU => ?_⟩
  obtain ⟨g, hg, e⟩ := pickS (xs := gapS) i0 (by exact i1)
  refine ⟨l, _, i, _, rfl, rfl, .of (hU _ _ (hD.ne nl) upd_same), e, ?_⟩
  exact q g H' hg hD' ((Up.new nl).trans hU)
theorem ok_joint {f fg : Addr} {fd fgd : FuncData} (D : DefAt K mg "_law_joint" s_joint ["draw", "last", "word"] f fd) (D_gap : DefAt K mg "_law_gap" s_gap ["draw"] fg fgd) (G_gap : FnOk P w K mg base CX0 2 fg fgd ["draw"] spGap) :
    FnOk P w K mg base CX0 3 f fd ["draw", "last", "word"] spJoint := by
  refine D.F.ok sc_joint (fun vs H Q E h => ?_) (fun cdv A outer s H vs Q E hr h => ?_)
  · obtain ⟨d, sc, l, wd, rfl, _⟩ := h
    rfl
  obtain ⟨d, sc, last, word, rfl, hD, hne, hw, hl, q⟩ := h
  have lineW : word.length ≤ sizeLine := Nat.le_of_lt (small1000 hw)
  have lineL : last.length ≤ sizeLine := Nat.le_of_lt (small1000 hl)
  obtain ⟨b, hb⟩ : ∃ b, (tl word).head? = some b := by
    cases e : tl word with
    | nil => exact absurd e hne
    | cons c r => exact ⟨c, rfl⟩
  have hb0 : (tl word)[0]? = some b := by rw [← List.head?_eq_getElem?]; exact hb
  refine ⟨_, (pss_cons (ps_set (i := 3) sc_joint.nd rfl (by first | exact Or.inl rfl | exact Or.inr rfl) (pe_call G_gap (hr.mono (by omega)) (by rfl) D_gap.m D_gap.F.kp D_gap.b .nil pass0 (pa_cons (pv 0) pa_nil))) (pss_cons (ps_if (PW.pt (pw_and (pt_cmpR op_eq (pv 3) pe_str (nomark _)) (pw_and (pt_cmpR op_ne (pv 1) pe_str (nomark _)) (pw_and (pt_cmpR op_in_sign (pe_ix ix_str (pv 1) (pe_un un_neg pe_int) (fun _ _ => rfl)) pe_str rfl) (pw_and1 (pt_cmpR op_in_sign (pe_ix ix_str (pv 2) pe_int (fun _ _ => rfl)) pe_str rfl)))))) (pss_one (ps_ret pe_str)) pss_nil) (pss_cons (ps_if (PW.pt (pw_and (pt_cmpR op_eq (pv 3) pe_str (nomark _)) (pw_and (pt_cmpR op_ne (pv 1) pe_str (nomark _)) (pw_and (pt_cmpR op_in_sign (pe_ix ix_str (pv 1) (pe_un un_neg pe_int) (fun _ _ => rfl)) pe_str rfl) (pw_and1 (pt_cmpR op_in_sign (pe_ix ix_str (pv 2) pe_int (fun _ _ => rfl)) pe_str rfl)))))) (pss_one (ps_ret pe_str)) pss_nil) (pss_one (ps_ret (pv 3)))))), ?_⟩
  refine ⟨_, rfl, d, sc, rfl, hD, fun g H' hg hD' hU => ?_⟩
  have sp : (" " : Str) ∈ gapS := by decide +kernel
  have spn : tl (" " : Str) ≠ [] := by decide +kernel
  by_cases hg0 : g = ("" : Str)
  · by_cases hl0 : last = ("" : Str)
    · -- last == ''
      refine ⟨_, rfl, rfl, _, rfl, ite2 (fun _ => ?_) (fun e => absurd (decide_eq_true (congrArg V.str hg0)) e)⟩
      refine ⟨_, rfl, rfl, _, rfl, ?_⟩
      rw [decide_eq_true (congrArg V.str hl0)]
      refine iteF ?_
      refine ⟨_, rfl, rfl, _, rfl, ite2 (fun _ => ?_) (fun e => absurd (decide_eq_true (congrArg V.str hg0)) e)⟩
      refine ⟨_, rfl, rfl, _, rfl, ?_⟩
      rw [decide_eq_true (congrArg V.str hl0)]
      refine iteF ?_
      refine ⟨_, rfl, ?_⟩
      refine q g H' hg (fun _ a b' ha => ?_) hD' hU
      rw [hl0] at ha
      have : tl ("" : Str) = [] := by decide +kernel
      rw [this] at ha
      cases ha
    · have hln : tl last ≠ [] := fun e => hl0 (ext_tl (by rw [e]; decide +kernel))
      obtain ⟨a, ha⟩ := last_of hln
      have hat : atI (tl last) (-1) = some a := by
        have e := List.dropLast_concat_getLast hln
        have e2 : (tl last).getLast hln = a := Option.some.inj ((List.getLast?_eq_some_getLast hln).symm.trans ha)
        rw [← e, e2]
        exact atI_last _ _
      refine ⟨_, rfl, rfl, _, rfl, ite2 (fun _ => ?_) (fun e => absurd (decide_eq_true (congrArg V.str hg0)) e)⟩
      refine ⟨_, rfl, rfl, _, rfl, ?_⟩
      rw [decide_eq_false (fun e => hl0 (V.str.inj e))]
      refine iteT ?_
      -- last[-1] in letters
      refine ⟨_, rfl, 1, rfl, last, -1, a, rfl, rfl, lineL, hat, a, _, rfl, rfl, _, rfl, ?_⟩
      have bothL : ∀ c : Nat, decide (c ∈ tl ("abcdefghijklmnopqrstuvwxyz" : Str)) = decide (Lt c) := fun c => by
        rw [Bool.eq_iff_iff, decide_eq_true_iff, decide_eq_true_iff]; exact mem_letters c
      have bothD : ∀ c : Nat, decide (c ∈ tl ("0123456789" : Str)) = decide (Dg c) := fun c => by
        rw [Bool.eq_iff_iff, decide_eq_true_iff, decide_eq_true_iff]; exact mem_digits c
      refine if_tt (decide (Lt a ∧ Lt b)) (fun e1 Q' q' => ?_) (fun e1 => ?_) ?_
      · refine ⟨_, rfl, _, 0, b, rfl, rfl, lineW, atI_nat hb0, b, _, rfl, rfl, _, rfl, ?_⟩
        have h1 : Lt a := (mem_letters a).mp (of_decide_eq_true e1)
        rw [show decide (b ∈ tl ("abcdefghijklmnopqrstuvwxyz" : Str)) = decide (Lt a ∧ Lt b) by rw [bothL, Bool.eq_iff_iff, decide_eq_true_iff, decide_eq_true_iff]; exact ⟨fun h => ⟨h1, h⟩, fun h => h.2⟩]
        exact q'
      · exact decide_eq_false fun h => e1 (decide_eq_true ((mem_letters a).mpr h.1))
      refine ite2 (fun e1 => ?_) (fun e1 => ?_)
      · refine q _ H' sp (fun e => absurd e spn) hD' hU
      refine ⟨_, rfl, rfl, _, rfl, ite2 (fun _ => ?_) (fun e => absurd (decide_eq_true (congrArg V.str hg0)) e)⟩
      refine ⟨_, rfl, rfl, _, rfl, ?_⟩
      rw [decide_eq_false (fun e => hl0 (V.str.inj e))]
      refine iteT ?_
      refine ⟨_, rfl, 1, rfl, last, -1, a, rfl, rfl, lineL, hat, a, _, rfl, rfl, _, rfl, ?_⟩
      refine if_tt (decide (Dg a ∧ Dg b)) (fun e1 Q' q' => ?_) (fun e1 => ?_) ?_
      · refine ⟨_, rfl, _, 0, b, rfl, rfl, lineW, atI_nat hb0, b, _, rfl, rfl, _, rfl, ?_⟩
        have h1 : Dg a := (mem_digits a).mp (of_decide_eq_true e1)
        rw [show decide (b ∈ tl ("0123456789" : Str)) = decide (Dg a ∧ Dg b) by rw [bothD, Bool.eq_iff_iff, decide_eq_true_iff, decide_eq_true_iff]; exact ⟨fun h => ⟨h1, h⟩, fun h => h.2⟩]
        exact q'
      · exact decide_eq_false fun h => e1 (decide_eq_true ((mem_digits a).mpr h.1))
      refine ite2 (fun e2 => ?_) (fun e2 => ?_)
      · refine q _ H' sp (fun e => absurd e spn) hD' hU
      refine ⟨_, rfl, ?_⟩
      refine q g H' hg (fun _ a' b' ha' hb' => ?_) hD' hU
      rw [ha] at ha'
      rw [hb] at hb'
      cases ha'
      cases hb'
      exact ⟨fun h => e1 (decide_eq_true h), fun h => e2 (decide_eq_true h)⟩
  · refine ⟨_, rfl, rfl, _, rfl, ite2 (fun e => absurd (V.str.inj (of_decide_eq_true e)) hg0) (fun _ => iteF ?_)⟩
    refine ⟨_, rfl, rfl, _, rfl, ite2 (fun e => absurd (V.str.inj (of_decide_eq_true e)) hg0) (fun _ => iteF ?_)⟩
    refine ⟨_, rfl, ?_⟩
    refine q g H' hg (fun e => absurd (ext_tl (by rw [e]; decide +kernel)) hg0) hD' hU
theorem ok_one {f fn : Addr} {fd fnd : FuncData} (D : DefAt K mg "_law_one" s_one ["draw"] f fd) (D_next : DefAt K mg "_law_next" s_next ["draw", "many"] fn fnd) (G_next : FnOk P w K mg base CX0 1 fn fnd ["draw", "many"] spNext)
    (z_range : mg "range" = none) (z_str : mg "str" = none) : FnOk P w K mg base CX0 2 f fd ["draw"] spOne := by
  refine D.F.ok sc_one (fun vs H Q E h => ?_) (fun cdv A outer s H vs Q E hr h => ?_)
  · obtain ⟨a, sc, rfl, _⟩ := h
    rfl
  obtain ⟨d, sc, rfl, hD, q⟩ := h
  refine ⟨_, (pss_cons (ps_set (i := 1) sc_one.nd rfl (by first | exact Or.inl rfl | exact Or.inr rfl) (pe_call G_next (hr.mono (by omega)) (by rfl) D_next.m D_next.F.kp D_next.b .nil pass0 (pa_cons (pv 0) (pa_cons pe_int pa_nil)))) (pss_cons (ps_if (pt_cmpR op_eq (pv 1) pe_int (nomark _)) (pss_cons (ps_set (i := 3) sc_one.nd rfl (by first | exact Or.inl rfl | exact Or.inr rfl) pe_str) (pss_cons (ps_set (i := 4) sc_one.nd rfl (by first | exact Or.inl rfl | exact Or.inr rfl) (pe_join pe_str (pe_lc (own := [("k", 7)]) (g := gName 7) (tt := tYes) (by rfl) sc_one.nd (pi_range1 (by rfl) z_range (pa_cons (pe_op op_add pe_int (pe_call G_next (hr.mono (by omega)) (by rfl) D_next.m D_next.F.kp D_next.b .nil pass0 (pa_cons (pv 0) (pa_cons pe_int pa_nil)))) pa_nil)) (blkOk_by (own := [("k", 7)]) (N := n_one) (sc := defScope s_one) (by decide +kernel)) (fun _ _ _ _ _ => (pg_name (i := 7) sc_one.nd rfl (by first | exact Or.inl rfl | exact Or.inr rfl))) (fun _ _ _ _ _ => pts_nil) (fun _ _ _ _ _ => (pe_ix ix_str (pv 3) (pe_call G_next (hr.mono (by omega)) (by rfl) D_next.m D_next.F.kp D_next.b .nil pass0 (pa_cons (pv 0) (pa_cons pe_int pa_nil))) (fun _ _ => rfl)))))) (pss_one (ps_ret (pe_tup (pa_cons pe_str (pa_cons (pv 4) (pa_cons (pv 4) pa_nil)))))))) pss_nil) (pss_cons (ps_if (pt_cmpR op_eq (pv 1) pe_int (nomark _)) (pss_cons (ps_set (i := 5) sc_one.nd rfl (by first | exact Or.inl rfl | exact Or.inr rfl) (pe_op op_add (pe_op op_mul (pe_call G_next (hr.mono (by omega)) (by rfl) D_next.m D_next.F.kp D_next.b .nil pass0 (pa_cons (pv 0) (pa_cons pe_int pa_nil))) (pe_ix ix_list (pe_lst (pa_cons pe_int (pa_cons pe_int (pa_cons pe_int (pa_cons pe_int pa_nil))))) (pe_call G_next (hr.mono (by omega)) (by rfl) D_next.m D_next.F.kp D_next.b .nil pass0 (pa_cons (pv 0) (pa_cons pe_int pa_nil))) (fun _ _ => rfl))) (pe_call G_next (hr.mono (by omega)) (by rfl) D_next.m D_next.F.kp D_next.b .nil pass0 (pa_cons (pv 0) (pa_cons pe_int pa_nil))))) (pss_cons (ps_set (i := 6) sc_one.nd rfl (by first | exact Or.inl rfl | exact Or.inr rfl) (pe_ix ix_list (pe_lst (pa_cons pe_str (pa_cons pe_str (pa_cons pe_str pa_nil)))) (pe_call G_next (hr.mono (by omega)) (by rfl) D_next.m D_next.F.kp D_next.b .nil pass0 (pa_cons (pv 0) (pa_cons pe_int pa_nil))) (fun _ _ => rfl))) (pss_cons (ps_if (pt_cmpR op_eq (pe_call G_next (hr.mono (by omega)) (by rfl) D_next.m D_next.F.kp D_next.b .nil pass0 (pa_cons (pv 0) (pa_cons pe_int pa_nil))) pe_int (nomark _)) (pss_one (ps_ret (pe_tup (pa_cons pe_str (pa_cons (pe_un un_neg (pv 5)) (pa_cons (pe_op op_add_str (pe_op op_add_str pe_str (pv 6)) (pe_callTy call_str_int (by rfl) z_str boot_str (pa_cons (pv 5) pa_nil))) pa_nil)))))) pss_nil) (pss_one (ps_ret (pe_tup (pa_cons pe_str (pa_cons (pv 5) (pa_cons (pe_op op_add_str (pv 6) (pe_callTy call_str_int (by rfl) z_str boot_str (pa_cons (pv 5) pa_nil))) pa_nil))))))))) pss_nil) (pss_cons (ps_set (i := 2) sc_one.nd rfl (by first | exact Or.inl rfl | exact Or.inr rfl) (pe_ix ix_list (pe_lst (pa_cons pe_str (pa_cons pe_str (pa_cons pe_str (pa_cons pe_str (pa_cons pe_str (pa_cons pe_str (pa_cons pe_str (pa_cons pe_str (pa_cons pe_str (pa_cons pe_str pa_nil))))))))))) (pe_call G_next (hr.mono (by omega)) (by rfl) D_next.m D_next.F.kp D_next.b .nil pass0 (pa_cons (pv 0) (pa_cons pe_int pa_nil))) (fun _ _ => rfl))) (pss_one (ps_ret (pe_tup (pa_cons pe_str (pa_cons (pv 2) (pa_cons (pv 2) pa_nil)))))))))), ?_⟩
  refine ⟨_, rfl, d, sc, 3, rfl, by decide, by decide, hD, fun fo H1 f0 f1 hD1 hU1 => ?_⟩
  refine ⟨_, rfl, rfl, _, rfl, ite2 (fun g0 => ?_) (fun g0 => ?_)⟩
  · -- a word
    refine ⟨⟨_, rfl⟩, _, rfl, d, sc, 10, rfl, by decide, by decide, hD1, fun n H2 n0 n1 hD2 hU2 => ?_⟩
    refine ⟨_, _, rfl, rfl, _, rfl, by omega, by omega, fun Dl nD => ?_⟩
    have nDd : Dl ≠ d := hD2.ne nD
    have hlet : (tl ("abcdefghijklmnopqrstuvwxyz" : Str)).length = 26 := by decide +kernel
    refine lc_range (lo := 0) (n := (1 + n).toNat) (fun i H' => ∃ ws : List Str, H' Dl = some (.lst (ws.map V.str)) ∧ ws.length = i ∧ (∀ x ∈ ws, ∃ c, x = ⟨#[c]⟩ ∧ Lt c) ∧ Dr sc H' d ∧ Up d H2 H') ⟨[], upd_same, rfl, fun x hx => absurd hx (by simp), hD2.new nD, Up.new nD⟩ (fun i H' hi hP => ?_) (fun H' hP => ?_)
    · obtain ⟨ws, p1, p2, p3, p4, p5⟩ := hP
      refine ⟨rfl, ?_⟩
      refine ⟨_, rfl, _, rfl, d, sc, 26, rfl, by decide, by decide, p4, fun k H4 k0 k1 hD4 hU4 => ?_⟩
      obtain ⟨c, hc, e⟩ := pick (xs := tl ("abcdefghijklmnopqrstuvwxyz" : Str)) k0 (by rw [hlet]; exact k1)
      refine ⟨_, k, c, rfl, rfl, by decide +kernel, e, _, hU4 _ _ nDd p1, small1000 (by rw [List.length_map]; omega), ws ++ [⟨#[c]⟩], ?_, ?_, fun x hx => ?_, ?_, ?_⟩
      · rw [upd_same, List.map_append]
        rfl
      · rw [List.length_append]
        show ws.length + 1 = i + 1
        omega
      · rcases List.mem_append.mp hx with hx | hx
        · exact p3 x hx
        · exact ⟨c, List.mem_singleton.mp hx, (mem_letters c).mp hc⟩
      · exact hD4.mut nDd (hD2.nes nD)
      · exact (p5.trans hU4).mut nD
    · obtain ⟨ws, p1, p2, p3, p4, p5⟩ := hP
      obtain ⟨o1, o2, o3⟩ := ones p3
      refine ⟨_, Dl, ws, rfl, rfl, .inl (.of p1), ?_, ?_⟩
      · have e : (Str.length ("" : Str)) = 0 := by decide +kernel
        rw [o3, e, p2]
        omega
      -- return ('word', word, word)
      refine ⟨_, rfl, _, rfl, (by show 3 ≤ sizeLine; decide), fun t nt => ?_⟩
      have htl := join_nil_tl ws
      refine q t _ _ _ _ ((((hU1.trans hU2).trans p5)).free p4 nt) upd_same (p4.new nt) (((hU1.trans hU2).trans p5).trans (Up.new nt)) (Wf.word ?_ ?_) (.inr ⟨by decide +kernel, congrArg V.str (mk_tl _).symm⟩) ?_
      · rw [htl]
        intro e
        have := congrArg List.length e
        rw [o2, p2, List.length_nil] at this
        omega
      · rw [htl]; exact o1
      · rw [htl, o2, p2]; omega
  · refine ⟨_, rfl, rfl, _, rfl, ite2 (fun g1 => ?_) (fun g1 => ?_)⟩
    · -- a number
      refine ⟨_, rfl, d, sc, 100, rfl, by decide, by decide, hD1, fun a H2 a0 a1 hD2 hU2 => ⟨(by show 4 ≤ sizeLine; decide), fun l nl => ?_⟩⟩
      refine ⟨_, rfl, d, sc, 4, rfl, by decide, by decide, hD2.new nl, fun i H3 i0 i1 hD3 hU3 => ?_⟩
      obtain ⟨m, hm, em⟩ := pickI (xs := [1, 1000, 1000000, 1000000000]) i0 (by exact i1)
      refine ⟨l, _, i, _, rfl, rfl, .of (hU3 _ _ (hD2.ne nl) upd_same), em, _, _, rfl, rfl, .inl ⟨by omega, by omega⟩, ?_⟩
      refine ⟨_, rfl, d, sc, 12, rfl, by decide, by decide, hD3, fun b H4 b0 b1 hD4 hU4 => ⟨_, _, rfl, rfl, ?_⟩⟩
      obtain ⟨n, en, hn⟩ := number_of a0 a1 hm b0 b1
      show gName 5 (.int (a * m + b)) _ _ _
      rw [en]
      have hnl : (numL n).length ≤ 12 := numL_len (by decide) hn
      -- zeros
      refine ⟨(by show 3 ≤ sizeLine; decide), fun l2 nl2 => ?_⟩
      refine ⟨_, rfl, d, sc, 3, rfl, by decide, by decide, hD4.new nl2, fun i2 H5 j0 j1 hD5 hU5 => ?_⟩
      obtain ⟨z, hz, ez⟩ := pickS (xs := zeroS) j0 (by exact j1)
      refine ⟨l2, _, i2, _, rfl, rfl, .of (hU5 _ _ (hD4.ne nl2) upd_same), ez, ?_⟩
      obtain ⟨z48, zl⟩ := zero_ok z hz
      have hzl := len_tl z
      have hU : Up d H H5 := (((((hU1.trans hU2).trans (Up.new nl)).trans hU3).trans hU4).trans (Up.new nl2)).trans hU5
      have lm : (Str.length ("-" : Str)) = 1 := by decide +kernel
      have ls : (Str.length (Str.ofString (toString ((n : Nat) : Int)))) ≤ 12 := by rw [len_tl, tl_strI]; exact hnl
      have sl : (40 : Nat) ≤ sizeLine := by decide
      -- if _law_next(draw, 3) == 0
      refine ⟨_, rfl, d, sc, 3, rfl, by decide, by decide, hD5, fun i3 H6 k0 k1 hD6 hU6 => ⟨rfl, _, rfl, ite2 (fun g3 => ?_) (fun g3 => ?_)⟩⟩
      · refine ⟨_, rfl, _, rfl, _, rfl, _, _, rfl, rfl, by omega, _, rfl, _, rfl, log_ok hn, _, _, rfl, rfl, ?_, (by show 3 ≤ sizeLine; decide), fun t nt => ?_⟩
        · have e : Str.length (("-" : Str) ++ z) = 1 + (tl z).length := by
            rw [len_tl, tl_append, List.length_append, ← len_tl, lm]
          rw [e]
          omega
        · have etl : tl ((("-" : Str) ++ z) ++ (Str.ofString (toString ((n : Nat) : Int)))) = 45 :: (tl z ++ numL n) := by
            rw [tl_append, tl_append, tl_strI]
            have e : tl ("-" : Str) = [45] := by decide +kernel
            rw [e]; rfl
          refine q t _ _ _ _ ((hU.trans hU6).free hD6 nt) upd_same (hD6.new nt) ((hU.trans hU6).trans (Up.new nt)) ?_ ?_ ?_
          · rw [etl]
            exact Wf.num (ds := tl z ++ numL n) (fun e => numL_ne n (List.append_eq_nil_iff.mp e).2) (zeros_dg z48) (.inr rfl)
          · rw [etl]
            exact .inl ⟨rfl, by rw [List.length_cons, List.length_append]; omega, -(n : Int), num_text_neg z48 (by omega), rfl⟩
          · rw [etl, List.length_cons, List.length_append]; omega
      · refine ⟨_, rfl, _, rfl, _, rfl, _, rfl, log_ok hn, _, _, rfl, rfl, by omega, (by show 3 ≤ sizeLine; decide), fun t nt => ?_⟩
        have etl : tl (z ++ (Str.ofString (toString ((n : Nat) : Int)))) = tl z ++ numL n := by rw [tl_append, tl_strI]
        refine q t _ _ _ _ ((hU.trans hU6).free hD6 nt) upd_same (hD6.new nt) ((hU.trans hU6).trans (Up.new nt)) ?_ ?_ ?_
        · rw [etl]
          exact Wf.num (ds := tl z ++ numL n) (fun e => numL_ne n (List.append_eq_nil_iff.mp e).2) (zeros_dg z48) (.inl rfl)
        · rw [etl]
          exact .inl ⟨rfl, by rw [List.length_append]; omega, (n : Int), num_text z48 (by omega), rfl⟩
        · rw [etl, List.length_append]; omega
    · -- a sign
      refine ⟨(by show 10 ≤ sizeLine; decide), fun l nl => ?_⟩
      refine ⟨_, rfl, d, sc, 10, rfl, by decide, by decide, hD1.new nl, fun i H2 i0 i1 hD2 hU2 => ?_⟩
      obtain ⟨g, hg, e⟩ := pickS (xs := sgS) i0 (by exact i1)
      refine ⟨l, _, i, _, rfl, rfl, .of (hU2 _ _ (hD1.ne nl) upd_same), e, ?_⟩
      refine ⟨_, rfl, _, rfl, (by show 3 ≤ sizeLine; decide), fun t nt => ?_⟩
      have hU : Up d H H2 := (hU1.trans (Up.new nl)).trans hU2
      have hgl : tl g ∈ sgL := by rw [← sg_tl]; exact List.mem_map_of_mem hg
      refine q t _ _ _ _ (hU.free hD2 nt) upd_same (hD2.new nt) (hU.trans (Up.new nt)) (Wf.sign hgl) (.inr ⟨by decide +kernel, congrArg V.str (mk_tl _).symm⟩) ?_
      have : ∀ a ∈ sgL, a.length ≤ 20 := by decide
      exact this _ hgl
end
end Tf
set_option maxHeartbeats 8000000
namespace Tf
open PySem PySem.Spec PyProof.Rows L2 TL
abbrev s_law : Stmt := (topS 18)
abbrev n_law : List Str := ["script", "draw", "text", "due", "last", "k", "gap", "kind", "value", "written"]
theorem sc_law : FnScope n_law ["script"] (defScope s_law) := ⟨rfl, rfl, rfl, by decide +kernel, rfl, by decide +kernel, by decide +kernel⟩
section
variable {P : Program} {w : World} {K : PySem.W.Frag} {mg : Str → Option Value} {base : Heap}
theorem ok_law {f f1 f2 f3 f4 f5 f6 f7 : Addr} {fd fd1 fd2 fd3 fd4 fd5 fd6 fd7 : FuncData} (D : DefAt K mg "law" s_law ["script"] f fd)
    (D_draw : DefAt K mg "_law_draw" s_draw ["script"] f1 fd1) (G_draw : FnOk P w K mg base CX0 1 f1 fd1 ["script"] (spDraw K))
    (D_next : DefAt K mg "_law_next" s_next ["draw", "many"] f2 fd2) (G_next : FnOk P w K mg base CX0 1 f2 fd2 ["draw", "many"] spNext)
    (D_one : DefAt K mg "_law_one" s_one ["draw"] f3 fd3) (G_one : FnOk P w K mg base CX0 2 f3 fd3 ["draw"] spOne)
    (D_joint : DefAt K mg "_law_joint" s_joint ["draw", "last", "word"] f4 fd4) (G_joint : FnOk P w K mg base CX0 3 f4 fd4 ["draw", "last", "word"] spJoint)
    (D_gap : DefAt K mg "_law_gap" s_gap ["draw"] f5 fd5) (G_gap : FnOk P w K mg base CX0 2 f5 fd5 ["draw"] spGap)
    (D_same : DefAt K mg "_law_same" s_same ["actual", "due"] f6 fd6) (G_same : FnOk P w K mg base CX0 3 f6 fd6 ["actual", "due"] (spS 3))
    (D_tokens : DefAt K mg "tokens" s_tokens ["text"] f7 fd7) (G_tokens : FnOk P w K mg base CX0 3 f7 fd7 ["text"] spTokens)
    (z_range : mg "range" = none) (z_len : mg "len" = none) : FnOk P w K mg base CX0 4 f fd ["script"] (spLaw K) := by
  refine D.F.ok sc_law (fun vs H Q E h => ?_) (fun cdv A outer s H vs Q E hr h => ?_)
  · obtain ⟨a, ns, rfl, _⟩ := h
    rfl
  obtain ⟨a, ns, rfl, hS, h63, q⟩ := h
  refine ⟨_, (pss_cons (ps_set (i := 1) sc_law.nd rfl (by first | exact Or.inl rfl | exact Or.inr rfl) (pe_call G_draw (hr.mono (by omega)) (by rfl) D_draw.m D_draw.F.kp D_draw.b .nil pass0 (pa_cons (pv 0) pa_nil))) (pss_cons (ps_set (i := 2) sc_law.nd rfl (by first | exact Or.inl rfl | exact Or.inr rfl) (pe_ix ix_list (pe_lst (pa_cons pe_str (pa_cons pe_str (pa_cons pe_str (pa_cons pe_str pa_nil))))) (pe_call G_next (hr.mono (by omega)) (by rfl) D_next.m D_next.F.kp D_next.b .nil pass0 (pa_cons (pv 1) (pa_cons pe_int pa_nil))) (fun _ _ => rfl))) (pss_cons (ps_set (i := 3) sc_law.nd rfl (by first | exact Or.inl rfl | exact Or.inr rfl) (pe_lst pa_nil)) (pss_cons (ps_set (i := 4) sc_law.nd rfl (by first | exact Or.inl rfl | exact Or.inr rfl) pe_str) (pss_cons (ps_for PassesOwn.never rfl (pi_range1 (by rfl) z_range (pa_cons (pe_call G_next (hr.mono (by omega)) (by rfl) D_next.m D_next.F.kp D_next.b .nil pass0 (pa_cons (pv 1) (pa_cons pe_int pa_nil))) pa_nil)) (pg_name (i := 5) sc_law.nd rfl (by first | exact Or.inl rfl | exact Or.inr rfl)) (pss_cons (ps_asg (pe_call G_one (hr.mono (by omega)) (by rfl) D_one.m D_one.F.kp D_one.b .nil pass0 (pa_cons (pv 1) pa_nil)) (pg_tup (by rfl) (pgs_cons (pg_name (i := 7) sc_law.nd rfl (by first | exact Or.inl rfl | exact Or.inr rfl)) (pgs_cons (pg_name (i := 8) sc_law.nd rfl (by first | exact Or.inl rfl | exact Or.inr rfl)) (pgs_cons (pg_name (i := 9) sc_law.nd rfl (by first | exact Or.inl rfl | exact Or.inr rfl)) pgs_nil))))) (pss_cons (ps_set (i := 6) sc_law.nd rfl (by first | exact Or.inl rfl | exact Or.inr rfl) (pe_call G_joint (hr.mono (by omega)) (by rfl) D_joint.m D_joint.F.kp D_joint.b .nil pass0 (pa_cons (pv 1) (pa_cons (pv 4) (pa_cons (pv 9) pa_nil))))) (Evl.pss_cut (ps_if (PW.pt (pw_and (pt_cmpR op_eq (pv 6) pe_str (nomark _)) (pw_and (pt_cmpR op_in_seq (pv 4) (pe_tup (pa_cons pe_str (pa_cons pe_str pa_nil))) rfl) (pw_and1 (pt_cmpR op_eq (pv 9) pe_str (nomark _)))))) (pss_one (ps_set (i := 6) sc_law.nd rfl (by first | exact Or.inl rfl | exact Or.inr rfl) pe_str)) pss_nil) (pss_cons (ps_set (i := 2) sc_law.nd rfl (by first | exact Or.inl rfl | exact Or.inr rfl) (pe_op op_add_str (pv 2) (pv 6))) (pss_cons (ps_expr (pe_bm PySem.F.plainAttrs_list PySem.F.slot_list_append PySem.F.type_list_append mt_append (pv 3) (pa_cons (pe_tup (pa_cons (pv 7) (pa_cons (pv 8) (pa_cons (pe_callB call_len_str (by rfl) z_len boot_len (pa_cons (pv 2) pa_nil)) pa_nil)))) pa_nil))) (pss_cons (ps_set (i := 2) sc_law.nd rfl (by first | exact Or.inl rfl | exact Or.inr rfl) (pe_op op_add_str (pv 2) (pv 9))) (pss_one (ps_set (i := 4) sc_law.nd rfl (by first | exact Or.inl rfl | exact Or.inr rfl) (pv 9)))))))))) (pss_cons (ps_set (i := 2) sc_law.nd rfl (by first | exact Or.inl rfl | exact Or.inr rfl) (pe_op op_add_str (pv 2) (pe_call G_gap (hr.mono (by omega)) (by rfl) D_gap.m D_gap.F.kp D_gap.b .nil pass0 (pa_cons (pv 1) pa_nil)))) (pss_cons (ps_if (pt_cmpR op_gt (pe_callB call_len_str (by rfl) z_len boot_len (pa_cons (pv 2) pa_nil)) pe_int (nomark _)) (pss_one (ps_ret pe_bl)) pss_nil) (pss_one (ps_ret (pe_call G_same (hr.mono (by omega)) (by rfl) D_same.m D_same.F.kp D_same.b .nil pass0 (pa_cons (pe_call G_tokens (hr.mono (by omega)) (by rfl) D_tokens.m D_tokens.F.kp D_tokens.b .nil pass0 (pa_cons (pv 2) pa_nil)) (pa_cons (pv 3) pa_nil)))))))))))), ?_⟩
  -- draw = _law_draw(script)
  refine ⟨_, rfl, a, ns, rfl, hS, h63, fun d sc H1 nd hD1 s1 => ?_⟩
  -- text = [..][_law_next(draw, 4)]
  refine ⟨(by show 4 ≤ sizeLine; decide), fun l nl => ?_⟩
  refine ⟨_, rfl, d, sc, 4, rfl, by decide, by decide, hD1.new nl, fun i H2 i0 i1 hD2 hU2 => ?_⟩
  obtain ⟨g0, hg0, eg0⟩ := pickS (xs := heads) i0 (by exact i1)
  obtain ⟨bg0, lg0⟩ := heads_ok g0 hg0
  refine ⟨l, _, i, _, rfl, rfl, .of (hU2 _ _ (hD1.ne nl) upd_same), eg0, ?_⟩
  -- due = []; last = ''
  refine ⟨Nat.zero_le _, fun du ndu => ?_⟩
  have dud : du ≠ d := hD2.ne ndu
  have dus : du ≠ sc := hD2.nes ndu
  have hD3 := hD2.new (o := .lst []) ndu
  -- for k in range(_law_next(draw, 17))
  refine ⟨_, rfl, d, sc, 17, rfl, by decide, by decide, hD3, fun n H3 n0 n1 hD4 hU4 => ?_⟩
  refine ⟨_, rfl, by omega, by omega, for_range (lo := 0) (n := n.toNat) (fun i σ H' => ∃ (txt last : Str) (its : List Itm) (xs : List V) (y5 y6 y7 y8 y9 : Option V),
      σ = [some (.ref a), some (.ref d), some (.str txt), some (.ref du), some (.str last), y5, y6, y7, y8, y9] ∧ tl txt = tl g0 ++ render its ∧ Chain [] its ∧ tl last = lastw [] its ∧ H' du = some (.lst xs) ∧ TkL H' xs (places (tl g0).length its) ∧
      xs.length ≤ i ∧ (tl txt).length ≤ 3 + 23 * i ∧ (tl last).length ≤ 20 ∧ Dr sc H' d) ?_ (fun i σ H' hi hP => ?_) (fun σ H' hP => ?_)⟩
  · refine ⟨g0, "", [], [], none, none, none, none, none, rfl, by simp [render], trivial, by decide +kernel, hU4 _ _ dud upd_same, trivial, Nat.le_refl _, by omega, by decide +kernel, hD4⟩
  · obtain ⟨txt, last, its, xs, y5, y6, y7, y8, y9, rfl, htxt, hch, hlast, hdu, hTk, hxl, htl, hll, hD⟩ := hP
    have lt := len_tl txt
    have ll := len_tl last
    -- kind, value, written = _law_one(draw)
    refine ⟨_, rfl, d, sc, rfl, hD, fun t kind wr v H5 nt ht hD5 hU5 hwf htv hwl => ?_⟩
    have lw := len_tl wr
    refine ⟨t, _, rfl, .of ht, rfl, _, _, rfl, _, _, rfl, _, _, rfl, rfl, ?_⟩
    -- gap = _law_joint(draw, last, written)
    refine ⟨_, rfl, _, rfl, _, rfl, d, sc, last, wr, rfl, hD5, hwf.ne, by omega, by omega, fun gp H6 hgp hng hD6 hU6 => ?_⟩
    obtain ⟨bgp, lgp⟩ := gap_ok gp hgp
    -- if gap == '' and last in ('<', '>') and written == '=': gap = ' '
    refine ⟨fun σ' H' => ∃ g2 : Str, g2 ∈ gapS ∧ (tl g2 = [] → Apart (tl last) (tl wr)) ∧ Same H6 H' ∧ σ' = [some (.ref a), some (.ref d), some (.str txt), some (.ref du), some (.str last), some (.int (0 + (i : Int))), some (.str g2), some (.str kind), some v, some (.str wr)], ?_, fun σ' H7 hM => ?_⟩
    · by_cases hg : gp = ("" : Str)
      · refine ⟨_, rfl, rfl, _, rfl, ite2 (fun _ => ?_) (fun e => absurd (decide_eq_true (congrArg V.str hg)) e)⟩
        refine ⟨_, rfl, (by show 2 ≤ sizeLine; decide), fun tp ntp => ⟨tp, _, rfl, .inr (.of upd_same), rfl, rfl, _, rfl, ?_⟩⟩
        have same7 : Same H6 (upd H6 tp (.tup [.str "<", .str ">"])) := same_new ntp _
        refine ite2 (fun e1 => ?_) (fun e1 => ?_)
        · refine ⟨_, rfl, rfl, _, rfl, ite2 (fun e2 => ?_) (fun e2 => ?_)⟩
          · exact ⟨" ", by decide +kernel, fun e => absurd e (by decide +kernel), same7, rfl⟩
          · refine ⟨gp, hgp, fun e a' b' ha hb => ⟨(hng e a' b' ha hb).1, (hng e a' b' ha hb).2, fun _ eb => e2 ?_⟩, same7, rfl⟩
            subst eb
            have := wf_eq hwf hb
            exact decide_eq_true (congrArg V.str (ext_tl (by rw [this]; decide +kernel)))
        · refine iteF ?_
          refine ⟨gp, hgp, fun e a' b' ha hb => ⟨(hng e a' b' ha hb).1, (hng e a' b' ha hb).2, fun hp => absurd ?_ e1⟩, same7, rfl⟩
          show (if false = true then !inV (.str last) [.str "<", .str ">"] else inV (.str last) [.str "<", .str ">"]) = true
          rw [if_neg Bool.false_ne_true, in_lt]
          exact decide_eq_true hp
      · refine ⟨_, rfl, rfl, _, rfl, ite2 (fun e => absurd (V.str.inj (of_decide_eq_true e)) hg) (fun _ => iteF ?_)⟩
        exact ⟨gp, hgp, fun e => absurd (ext_tl (by rw [e]; decide +kernel)) hg, fun _ _ h => h, rfl⟩
    obtain ⟨g2, hg2, hap, s7, rfl⟩ := hM
    obtain ⟨bg2, lg2⟩ := gap_ok g2 hg2
    have lgl := len_tl g2
    have line : (2000 : Nat) ≤ sizeLine := by decide
    have hi17 : i < 17 := by omega
    -- text = text + gap
    refine ⟨_, rfl, _, rfl, _, _, rfl, rfl, by omega, ?_⟩
    have l1 : Str.length (txt ++ g2) = (tl txt).length + (tl g2).length := by rw [len_tl, tl_append, List.length_append]
    -- due.append((kind, value, len(text)))
    have hdu7 : H7 du = some (.lst xs) := s7 _ _ (hU6 _ _ dud (hU5 _ _ dud hdu))
    refine ⟨_, rfl, .inl ⟨rfl, _, .of hdu7⟩, _, rfl, _, rfl, _, rfl, _, rfl, by omega, (by show 3 ≤ sizeLine; decide), fun u nu => ?_⟩
    have duu : du ≠ u := ne_of_none hdu7 nu
    refine ⟨du, xs, _, rfl, rfl, by rw [upd_ne duu]; exact hdu7, small1000 (by omega), ?_⟩
    -- text = text + written; last = written
    refine ⟨_, rfl, _, rfl, _, _, rfl, rfl, by omega, ?_⟩
    refine ⟨_, rfl, ?_⟩
    have hD7 : Dr sc H7 d := hD6.up s7
    have etxt : tl ((txt ++ g2) ++ wr) = tl g0 ++ render (its ++ [⟨tl g2, tl wr, kind, v⟩]) := by
      rw [tl_append, tl_append, htxt, render_snoc]
      simp only [List.append_assoc]
    refine ⟨_, wr, its ++ [⟨tl g2, tl wr, kind, v⟩], xs ++ [.ref u], _, _, _, _, _, rfl, etxt, chain_snoc hch ⟨bg2, hwf, htv, fun e => by rw [← hlast]; exact hap e⟩, by rw [lastw_snoc], upd_same, ?_, by rw [List.length_append]; show xs.length + 1 ≤ i + 1; omega, ?_, hwl, (hD7.new nu).mut dud dus⟩
    · rw [places_snoc]
      have k1 : ∀ p ys, H' p = some (.tup ys) → H7 p = some (.tup ys) := fun p ys e => s7 _ _ (hU6.tup hD5 p ys (hU5.tup hD p ys e))
      have k2 := same_tup (same_new (H := H7) nu (.tup [V.str kind, v, .int ((Str.length (txt ++ g2) : Nat) : Int)]))
      have ep : Str.length (txt ++ g2) = (tl g0).length + (render its).length + (tl g2).length := by rw [l1, htxt, List.length_append]
      refine TkL.mono (tup_upd (fun ys e => ?_)) (TkL.snoc (t := (kind, v, (tl g0).length + (render its).length + (tl g2).length)) ?_ ((hTk.mono k1).mono k2))
      · rw [upd_ne duu, hdu7] at e
        cases e
      · rw [upd_same, ep]
    · rw [tl_append, tl_append, List.length_append, List.length_append]
      omega
  · obtain ⟨txt, last, its, xs, y5, y6, y7, y8, y9, rfl, htxt, hch, hlast, hdu, hTk, hxl, htl, hll, hD⟩ := hP
    have lt := len_tl txt
    have line : (2000 : Nat) ≤ sizeLine := by decide
    have hn : n.toNat ≤ 17 := by omega
    -- text = text + _law_gap(draw)
    refine ⟨_, rfl, _, rfl, d, sc, rfl, hD, fun ge H8 hge hD8 hU8 => ?_⟩
    obtain ⟨bge, lge⟩ := gap_ok ge hge
    have lgl := len_tl ge
    refine ⟨_, _, rfl, rfl, by omega, ?_⟩
    have l1 : Str.length (txt ++ ge) = (tl txt).length + (tl ge).length := by rw [len_tl, tl_append, List.length_append]
    -- if len(text) > 300
    refine ⟨_, rfl, _, rfl, by omega, _, _, rfl, rfl, _, rfl, ite2 (fun _ => ?_) (fun _ => ?_)⟩
    · exact q _
    · have hlex : Lex 0 (tl (txt ++ ge)) (places (tl g0).length its) := by
        rw [tl_append, htxt, List.append_assoc]
        have k := lex_of (p := (tl g0).length) hch bge
        exact Lex.blanks bg0 (by rw [Nat.zero_add]; exact k)
      refine ⟨_, rfl, _, _, rfl, hlex, by omega, fun ta xs' H9 nta s9 hta hT9 => ?_⟩
      refine ⟨_, rfl, 2, _, _, rfl, rfl, ?_, fun H10 _ => q H10⟩
      have hT8 : TkL H9 xs (places (tl g0).length its) := (hTk.mono (hU8.tup hD)).mono (same_tup s9)
      have hdu9 : H9 du = some (.lst xs) := s9 _ _ (hU8 _ _ dud hdu)
      refine .inr ⟨false, ta, du, xs', xs, rfl, rfl, hta, hdu9, by rw [hT9.len, hT8.len], by omega, fun i u v hu hv => tkl_eq hT9 hT8 (chain_flat hch) i u v hu hv⟩
end
end Tf
set_option maxHeartbeats 8000000
namespace Tf
open PySem PySem.Spec PyProof.Rows L2 TL
theorem all_mk {l : PySem.W.OpenLaw} {w : World} {K : PySem.W.Frag} {h : Heap} {mg : Str → Option Value} {fa : Addr} (X : K.In h) (G : h.Ns mainGlobals mg) (hfa : mg "law" = some (.ref fa))
    {f0 f1 f2 f3 f4 f5 f6 f7 f8 f9 : Addr}
    {od0 an0 od1 an1 od2 an2 od3 an3 od4 an4 od5 an5 od6 an6 od7 an7 od8 an8 od9 an9 : Option Addr}
    {sl0 sl1 sl2 sl3 sl4 sl5 sl6 sl7 sl8 sl9 : Array (Option Value)}
    {oc0 kV0 dc0 pm0 cd0 ct0 oc1 kV1 dc1 pm1 cd1 ct1 oc2 kV2 dc2 pm2 cd2 ct2 oc3 kV3 dc3 pm3 cd3 ct3 oc4 kV4 dc4 pm4 cd4 ct4 oc5 kV5 dc5 pm5 cd5 ct5 oc6 kV6 dc6 pm6 cd6 ct6 oc7 kV7 dc7 pm7 cd7 ct7 oc8 kV8 dc8 pm8 cd8 ct8 oc9 kV9 dc9 pm9 cd9 ct9 : Value}
    (a0 : PySem.W.nsIn K mainGlobals "end_of_stretch" = some (some (.ref f0)))
    (l0 : K.lookup f0 = some ⟨oc0, od0, .func (PySem.W.fnOf "end_of_stretch" "end_of_stretch" (defArgs s_end_of_stretch) (defBody s_end_of_stretch) (defScope s_end_of_stretch) .none kV0 dc0 pm0 an0 cd0 ct0), sl0⟩)
    (c0 : PySem.W.codeIn K cd0 "end_of_stretch" = true) (k0 : PySem.W.keepIn K (.ref f0) = true)
    (a1 : PySem.W.nsIn K mainGlobals "token_at" = some (some (.ref f1)))
    (l1 : K.lookup f1 = some ⟨oc1, od1, .func (PySem.W.fnOf "token_at" "token_at" (defArgs s_token_at) (defBody s_token_at) (defScope s_token_at) .none kV1 dc1 pm1 an1 cd1 ct1), sl1⟩)
    (c1 : PySem.W.codeIn K cd1 "token_at" = true) (k1 : PySem.W.keepIn K (.ref f1) = true)
    (a2 : PySem.W.nsIn K mainGlobals "tokens" = some (some (.ref f2)))
    (l2 : K.lookup f2 = some ⟨oc2, od2, .func (PySem.W.fnOf "tokens" "tokens" (defArgs s_tokens) (defBody s_tokens) (defScope s_tokens) .none kV2 dc2 pm2 an2 cd2 ct2), sl2⟩)
    (c2 : PySem.W.codeIn K cd2 "tokens" = true) (k2 : PySem.W.keepIn K (.ref f2) = true)
    (a3 : PySem.W.nsIn K mainGlobals "_law_draw" = some (some (.ref f3)))
    (l3 : K.lookup f3 = some ⟨oc3, od3, .func (PySem.W.fnOf "_law_draw" "_law_draw" (defArgs s_draw) (defBody s_draw) (defScope s_draw) .none kV3 dc3 pm3 an3 cd3 ct3), sl3⟩)
    (c3 : PySem.W.codeIn K cd3 "_law_draw" = true) (k3 : PySem.W.keepIn K (.ref f3) = true)
    (a4 : PySem.W.nsIn K mainGlobals "_law_next" = some (some (.ref f4)))
    (l4 : K.lookup f4 = some ⟨oc4, od4, .func (PySem.W.fnOf "_law_next" "_law_next" (defArgs s_next) (defBody s_next) (defScope s_next) .none kV4 dc4 pm4 an4 cd4 ct4), sl4⟩)
    (c4 : PySem.W.codeIn K cd4 "_law_next" = true) (k4 : PySem.W.keepIn K (.ref f4) = true)
    (a5 : PySem.W.nsIn K mainGlobals "_law_same" = some (some (.ref f5)))
    (l5 : K.lookup f5 = some ⟨oc5, od5, .func (PySem.W.fnOf "_law_same" "_law_same" (defArgs s_same) (defBody s_same) (defScope s_same) .none kV5 dc5 pm5 an5 cd5 ct5), sl5⟩)
    (c5 : PySem.W.codeIn K cd5 "_law_same" = true) (k5 : PySem.W.keepIn K (.ref f5) = true)
    (a6 : PySem.W.nsIn K mainGlobals "_law_gap" = some (some (.ref f6)))
    (l6 : K.lookup f6 = some ⟨oc6, od6, .func (PySem.W.fnOf "_law_gap" "_law_gap" (defArgs s_gap) (defBody s_gap) (defScope s_gap) .none kV6 dc6 pm6 an6 cd6 ct6), sl6⟩)
    (c6 : PySem.W.codeIn K cd6 "_law_gap" = true) (k6 : PySem.W.keepIn K (.ref f6) = true)
    (a7 : PySem.W.nsIn K mainGlobals "_law_joint" = some (some (.ref f7)))
    (l7 : K.lookup f7 = some ⟨oc7, od7, .func (PySem.W.fnOf "_law_joint" "_law_joint" (defArgs s_joint) (defBody s_joint) (defScope s_joint) .none kV7 dc7 pm7 an7 cd7 ct7), sl7⟩)
    (c7 : PySem.W.codeIn K cd7 "_law_joint" = true) (k7 : PySem.W.keepIn K (.ref f7) = true)
    (a8 : PySem.W.nsIn K mainGlobals "_law_one" = some (some (.ref f8)))
    (l8 : K.lookup f8 = some ⟨oc8, od8, .func (PySem.W.fnOf "_law_one" "_law_one" (defArgs s_one) (defBody s_one) (defScope s_one) .none kV8 dc8 pm8 an8 cd8 ct8), sl8⟩)
    (c8 : PySem.W.codeIn K cd8 "_law_one" = true) (k8 : PySem.W.keepIn K (.ref f8) = true)
    (a9 : PySem.W.nsIn K mainGlobals "law" = some (some (.ref f9)))
    (l9 : K.lookup f9 = some ⟨oc9, od9, .func (PySem.W.fnOf "law" "law" (defArgs s_law) (defBody s_law) (defScope s_law) .none kV9 dc9 pm9 an9 cd9 ct9), sl9⟩)
    (c9 : PySem.W.codeIn K cd9 "law" = true) (k9 : PySem.W.keepIn K (.ref f9) = true)
    (b_int : PySem.W.nsIn K mainGlobals "int" = some none)
    (b_len : PySem.W.nsIn K mainGlobals "len" = some none)
    (b_abs : PySem.W.nsIn K mainGlobals "abs" = some none)
    (b_isinstance : PySem.W.nsIn K mainGlobals "isinstance" = some none)
    (b_list : PySem.W.nsIn K mainGlobals "list" = some none)
    (b_tuple : PySem.W.nsIn K mainGlobals "tuple" = some none)
    (b_bool : PySem.W.nsIn K mainGlobals "bool" = some none)
    (b_str : PySem.W.nsIn K mainGlobals "str" = some none)
    (b_all : PySem.W.nsIn K mainGlobals "all" = some none)
    (b_range : PySem.W.nsIn K mainGlobals "range" = some none)
    {t_LETTERS : Tok} (v_LETTERS : PySem.W.nsIn K mainGlobals "LETTERS" = some (some (.str ("abcdefghijklmnopqrstuvwxyz" : Str) t_LETTERS)))
    {t_DIGITS : Tok} (v_DIGITS : PySem.W.nsIn K mainGlobals "DIGITS" = some (some (.str ("0123456789" : Str) t_DIGITS)))
    {t_BLANKS : Tok} (v_BLANKS : PySem.W.nsIn K mainGlobals "BLANKS" = some (some (.str (" \n" : Str) t_BLANKS)))
    {a_SIGNS : Addr} {o_SIGNS : Obj} {i_SIGNS : Array Value} {n_SIGNS : Nat} (v_SIGNS : PySem.W.nsIn K mainGlobals "SIGNS" = some (some (.ref a_SIGNS))) (w_SIGNS : K.lookup a_SIGNS = some o_SIGNS) (x_SIGNS : o_SIGNS.cls = .type "tuple") (y_SIGNS : o_SIGNS.data = .seq i_SIGNS n_SIGNS) (z_SIGNS : i_SIGNS.size ≤ sizeLine) (r_SIGNS : Vals (sgS.map V.str) i_SIGNS.toList) :
    ∃ fd : FuncData, (∀ (s : Shared) (v : Value), BindsTo s fd ⟨[v], []⟩ [("script", v)]) ∧ ∀ base : Heap, K.In base → base.Ns mainGlobals mg → FnOk l.prog w K mg base CX0 4 fa fd ["script"] (spLaw K) := by
  have e := (PySem.W.mg_of X G a9).symm.trans hfa
  cases e
  have F0 := fun_mk (st := s_end_of_stretch) l0 c0 k0
  have D_end_of_stretch : DefAt K mg "end_of_stretch" s_end_of_stretch ["text", "place", "characters"] f0 _ := ⟨F0, PySem.W.mg_of X G a0, F0.binds (ps := ["text", "place", "characters"]) fun _ _ _ _ _ _ us hl => match us, hl with | [_, _, _], _ => rfl⟩
  have F1 := fun_mk (st := s_token_at) l1 c1 k1
  have D_token_at : DefAt K mg "token_at" s_token_at ["text", "place"] f1 _ := ⟨F1, PySem.W.mg_of X G a1, F1.binds (ps := ["text", "place"]) fun _ _ _ _ _ _ us hl => match us, hl with | [_, _], _ => rfl⟩
  have F2 := fun_mk (st := s_tokens) l2 c2 k2
  have D_tokens : DefAt K mg "tokens" s_tokens ["text"] f2 _ := ⟨F2, PySem.W.mg_of X G a2, F2.binds (ps := ["text"]) fun _ _ _ _ _ _ us hl => match us, hl with | [_], _ => rfl⟩
  have F3 := fun_mk (st := s_draw) l3 c3 k3
  have D_draw : DefAt K mg "_law_draw" s_draw ["script"] f3 _ := ⟨F3, PySem.W.mg_of X G a3, F3.binds (ps := ["script"]) fun _ _ _ _ _ _ us hl => match us, hl with | [_], _ => rfl⟩
  have F4 := fun_mk (st := s_next) l4 c4 k4
  have D_next : DefAt K mg "_law_next" s_next ["draw", "many"] f4 _ := ⟨F4, PySem.W.mg_of X G a4, F4.binds (ps := ["draw", "many"]) fun _ _ _ _ _ _ us hl => match us, hl with | [_, _], _ => rfl⟩
  have F5 := fun_mk (st := s_same) l5 c5 k5
  have D_same : DefAt K mg "_law_same" s_same ["actual", "due"] f5 _ := ⟨F5, PySem.W.mg_of X G a5, F5.binds (ps := ["actual", "due"]) fun _ _ _ _ _ _ us hl => match us, hl with | [_, _], _ => rfl⟩
  have F6 := fun_mk (st := s_gap) l6 c6 k6
  have D_gap : DefAt K mg "_law_gap" s_gap ["draw"] f6 _ := ⟨F6, PySem.W.mg_of X G a6, F6.binds (ps := ["draw"]) fun _ _ _ _ _ _ us hl => match us, hl with | [_], _ => rfl⟩
  have F7 := fun_mk (st := s_joint) l7 c7 k7
  have D_joint : DefAt K mg "_law_joint" s_joint ["draw", "last", "word"] f7 _ := ⟨F7, PySem.W.mg_of X G a7, F7.binds (ps := ["draw", "last", "word"]) fun _ _ _ _ _ _ us hl => match us, hl with | [_, _, _], _ => rfl⟩
  have F8 := fun_mk (st := s_one) l8 c8 k8
  have D_one : DefAt K mg "_law_one" s_one ["draw"] f8 _ := ⟨F8, PySem.W.mg_of X G a8, F8.binds (ps := ["draw"]) fun _ _ _ _ _ _ us hl => match us, hl with | [_], _ => rfl⟩
  have F9 := fun_mk (st := s_law) l9 c9 k9
  have D_law : DefAt K mg "law" s_law ["script"] fa _ := ⟨F9, PySem.W.mg_of X G a9, F9.binds (ps := ["script"]) fun _ _ _ _ _ _ us hl => match us, hl with | [_], _ => rfl⟩
  have z_int := PySem.W.mg_none_of X G b_int
  have z_len := PySem.W.mg_none_of X G b_len
  have z_abs := PySem.W.mg_none_of X G b_abs
  have z_isinstance := PySem.W.mg_none_of X G b_isinstance
  have z_list := PySem.W.mg_none_of X G b_list
  have z_tuple := PySem.W.mg_none_of X G b_tuple
  have z_bool := PySem.W.mg_none_of X G b_bool
  have z_str := PySem.W.mg_none_of X G b_str
  have z_all := PySem.W.mg_none_of X G b_all
  have z_range := PySem.W.mg_none_of X G b_range
  have g_LETTERS := PySem.W.mg_of X G v_LETTERS
  have g_DIGITS := PySem.W.mg_of X G v_DIGITS
  have g_BLANKS := PySem.W.mg_of X G v_BLANKS
  have g_SIGNS := PySem.W.mg_of X G v_SIGNS
  have h_SIGNS : ∀ H, SqT K H a_SIGNS (sgS.map V.str) := fun H => .inr ⟨o_SIGNS, i_SIGNS, n_SIGNS, w_SIGNS, x_SIGNS, y_SIGNS, z_SIGNS, r_SIGNS⟩
  refine ⟨PySem.W.fnOf "law" "law" (defArgs s_law) (defBody s_law) (defScope s_law) .none kV9 dc9 pm9 an9 cd9 ct9, fun s v => .of_eq rfl, fun base _ _ => ?_⟩
  have G_next := ok_next (P := l.prog) (w := w) (base := base) D_next z_int z_len z_abs
  have G_same := ok_same (P := l.prog) (w := w) (base := base) D_same z_isinstance z_list z_tuple z_bool z_str z_int z_len z_all z_range 3
  have G_gap := ok_gap (P := l.prog) (w := w) (base := base) D_gap D_next G_next
  have G_joint := ok_joint (P := l.prog) (w := w) (base := base) D_joint D_gap G_gap
  have G_one := ok_one (P := l.prog) (w := w) (base := base) D_one D_next G_next z_range z_str
  have G_eos := ok_end_of_stretch (P := l.prog) (w := w) (base := base) D_end_of_stretch z_len
  have G_ta := ok_token_at (P := l.prog) (w := w) (base := base) D_token_at D_end_of_stretch G_eos z_len g_LETTERS g_DIGITS g_SIGNS h_SIGNS
  have G_tk := ok_tokens (P := l.prog) (w := w) (base := base) D_tokens D_token_at G_ta z_len z_int g_BLANKS
  exact ok_law D_law D_draw (ok_draw D_draw z_list) D_next G_next D_one G_one D_joint G_joint D_gap G_gap D_same G_same D_tokens G_tk z_range z_len
end Tf
set_option maxHeartbeats 8000000
open PySem PySem.W PyProof.Rows
set_option maxRecDepth 100000 in
set_option maxHeartbeats 0 in
theorem PySem.Challenge.cw_tidefold_k01_tokens_holds : PySem.Challenge.rw_tidefold_k01_tokens.Holds := by
  w_on; o_law; k_head; (case hw => w_witness2)
  k_fill
  refine L2.walk_of (l := PySem.Challenge.rw_tidefold_k01_tokens) (n := 63) (k := 4) (x := "script") (CX := fun _ => L2.CX0) (sp := fun w => Tf.spLaw _) rfl (by decide) rfl ⟨rfl, by decide, by decide⟩ (fun w h Y => PySem.W.kIn_of Y) ?F (fun _ _ a ns hl _ hS => ⟨a, ns, rfl, hS, hl, fun _ => rfl⟩) (fun _ _ _ _ _ h => h)
  case F =>
    intro w mg fa h KX G hmg
    refine' Tf.all_mk KX G hmg ?a0 ?l0 ?c0 ?k0 ?a1 ?l1 ?c1 ?k1 ?a2 ?l2 ?c2 ?k2 ?a3 ?l3 ?c3 ?k3 ?a4 ?l4 ?c4 ?k4 ?a5 ?l5 ?c5 ?k5 ?a6 ?l6 ?c6 ?k6 ?a7 ?l7 ?c7 ?k7 ?a8 ?l8 ?c8 ?k8 ?a9 ?l9 ?c9 ?k9 ?b_int ?b_len ?b_abs ?b_isinstance ?b_list ?b_tuple ?b_bool ?b_str ?b_all ?b_range ?v_LETTERS ?v_DIGITS ?v_BLANKS ?v_SIGNS ?w_SIGNS ?x_SIGNS ?y_SIGNS ?z_SIGNS ?r_SIGNS
    (case a0 => k_is)
    (case l0 => k_is)
    (case c0 => k_is)
    (case k0 => k_is)
    (case a1 => k_is)
    (case l1 => k_is)
    (case c1 => k_is)
    (case k1 => k_is)
    (case a2 => k_is)
    (case l2 => k_is)
    (case c2 => k_is)
    (case k2 => k_is)
    (case a3 => k_is)
    (case l3 => k_is)
    (case c3 => k_is)
    (case k3 => k_is)
    (case a4 => k_is)
    (case l4 => k_is)
    (case c4 => k_is)
    (case k4 => k_is)
    (case a5 => k_is)
    (case l5 => k_is)
    (case c5 => k_is)
    (case k5 => k_is)
    (case a6 => k_is)
    (case l6 => k_is)
    (case c6 => k_is)
    (case k6 => k_is)
    (case a7 => k_is)
    (case l7 => k_is)
    (case c7 => k_is)
    (case k7 => k_is)
    (case a8 => k_is)
    (case l8 => k_is)
    (case c8 => k_is)
    (case k8 => k_is)
    (case a9 => k_is)
    (case l9 => k_is)
    (case c9 => k_is)
    (case k9 => k_is)
    (case b_int => k_is)
    (case b_len => k_is)
    (case b_abs => k_is)
    (case b_isinstance => k_is)
    (case b_list => k_is)
    (case b_tuple => k_is)
    (case b_bool => k_is)
    (case b_str => k_is)
    (case b_all => k_is)
    (case b_range => k_is)
    (case v_LETTERS => k_is)
    (case v_DIGITS => k_is)
    (case v_BLANKS => k_is)
    (case v_SIGNS => k_is)
    (case w_SIGNS => k_is)
    (case x_SIGNS => exact rfl)
    (case y_SIGNS => exact rfl)
    (case z_SIGNS => decide)
    (case r_SIGNS => repeat (first | exact Paired.nil | refine Paired.cons ⟨_, rfl⟩ ?_))
