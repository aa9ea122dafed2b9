import PyProof.Rows.All
import Wide.All
import OpenK.AllK
import Wide.FinOn
import HandS.ForMost
import HandS.IsInst
import HandS.StrMore
import KE.SortData
import KE.KDictSum
import KE.KDictPairs
import HandS.Conv
import HandS.SetKeys
import KE.KDictKeyed
import KE.KRangeStep
import PySem.Challenge.RW_tidefold_k43_windows_are_counted
set_option Elab.async false
set_option linter.all false
set_option maxRecDepth 100000
set_option maxHeartbeats 4000000
namespace Tf
open PySem PySem.Spec PyProof.Rows L2

/-! ### heaps: all but what stands at d stays -/
def Up (d : Addr) (H H' : Hp) : Prop := ∀ b o, b ≠ d → H b = some o → H' b = some o
theorem Up.refl {d : Addr} {H : Hp} : Up d H H := fun _ _ _ h => h
theorem Up.trans {d : Addr} {H H1 H2 : Hp} (a : Up d H H1) (b : Up d H1 H2) : Up d H H2 := fun c o n h => b c o n (a c o n h)
theorem Up.same {d : Addr} {H H' : Hp} (a : Same H H') : Up d H H' := fun c o _ h => a c o h
theorem Up.new {d : Addr} {H : Hp} {p : Addr} {o : HO} (h : H p = none) : Up d H (upd H p o) := fun b u _ e => by rw [upd_ne (ne_of_none e h)]; exact e
theorem Up.at {d : Addr} {H : Hp} {o : HO} : Up d H (upd H d o) := fun b u n e => by rw [upd_ne n]; exact e
/-- a list that the call before did not know may change -/
theorem Up.mut {d : Addr} {H H' : Hp} {p : Addr} {o : HO} (a : Up d H H') (h : H p = none) : Up d H (upd H' p o) := fun b u n e => by
  rw [upd_ne (ne_of_none e h)]
  exact a b u n e
theorem same_new {H : Hp} {p : Addr} (h : H p = none) (o : HO) : Same H (upd H p o) := fun b u q => by rw [upd_ne (ne_of_none q h)]; exact q
theorem Up.seq {d a : Addr} {K : PySem.W.Frag} {H H' : Hp} {xs : List V} (u : Up d H H') (n : a ≠ d) (h : SqL K H a xs) : SqL K H' a xs := by
  rcases h with (h | ⟨o, h⟩) | h
  · exact .inl (.inl (u _ _ n h))
  · exact .inl (.inr ⟨o, u _ _ n h⟩)
  · exact .inr h
/-! ### the numbers that are drawn -/
def Dr (sc : Addr) (H : Hp) (d : Addr) : Prop := ∃ (ns : List Int) (i : Nat) (big st : Int), H d = some (.lst [.ref sc, .int i, .int big, .int st]) ∧ H sc = some (.lst (ns.map V.int)) ∧ sc ≠ d ∧ 0 ≤ big ∧ 0 ≤ st ∧ st < 2147483647
theorem Dr.up {sc : Addr} {H H' : Hp} {d : Addr} (h : Dr sc H d) (k : ∀ b o, H b = some o → H' b = some o) : Dr sc H' d := by
  obtain ⟨ns, i, big, st, h1, h2, r⟩ := h
  exact ⟨ns, i, big, st, k _ _ h1, k _ _ h2, r⟩
theorem Dr.new {sc : Addr} {H : Hp} {d p : Addr} {o : HO} (h : Dr sc H d) (n : H p = none) : Dr sc (upd H p o) d := h.up (same_new n o)
theorem Dr.ne {sc : Addr} {H : Hp} {d p : Addr} (h : Dr sc H d) (n : H p = none) : p ≠ d := by
  obtain ⟨ns, i, big, st, h1, h2, r⟩ := h
  exact (ne_of_none h1 n).symm
theorem Dr.nes {sc : Addr} {H : Hp} {d p : Addr} (h : Dr sc H d) (n : H p = none) : p ≠ sc := by
  obtain ⟨ns, i, big, st, h1, h2, r⟩ := h
  exact (ne_of_none h2 n).symm
theorem Dr.lst {sc : Addr} {H : Hp} {d : Addr} (h : Dr sc H d) : ∃ xs, H d = some (.lst xs) := by
  obtain ⟨ns, i, big, st, h1, _⟩ := h
  exact ⟨_, h1⟩
/-- another object may change -/
theorem Dr.mut {sc : Addr} {H : Hp} {d p : Addr} {o : HO} (h : Dr sc H d) (n : p ≠ d) (m : p ≠ sc) : Dr sc (upd H p o) d := by
  obtain ⟨ns, i, big, st, h1, h2, r⟩ := h
  exact ⟨ns, i, big, st, by rw [upd_ne n.symm]; exact h1, by rw [upd_ne m.symm]; exact h2, r⟩
theorem Up.free {sc d : Addr} {H H' : Hp} (u : Up d H H') (h2 : Dr sc H' d) {t : Addr} (h : H' t = none) : H t = none := by
  cases e : H t with
  | none => rfl
  | some o =>
    rw [u t o (h2.ne h) e] at h
    cases h
def spNext : Sp := fun vs H Q _ => ∃ (d sc : Addr) (m : Int), vs = [.ref d, .int m] ∧ 1 ≤ m ∧ m < 1073741824 ∧ Dr sc H d ∧ ∀ (i : Int) (H' : Hp), 0 ≤ i → i < m → Dr sc H' d → Up d H H' → Q (.int i) H'
/-- a def of the text, where it stands, how its arguments bind -/
structure DefAt (K : PySem.W.Frag) (mg : Str → Option Value) (x : Str) (st : Stmt) (ps : List Str) (f : Addr) (fd : FuncData) : Prop where
  F : Fun K x x st f fd
  m : mg x = some (.ref f)
  b : Binds K fd ps []
section
variable {X : Cx} {x : Str} {pos : Pos}
theorem gl_str {z : Str} {t : Tok} (hg : Gl X x) (hm : X.mg x = some (.str z t)) (hd : (x == ("__debug__" : Str)) = false := by decide) : PE X (.Name x pos) (tC (.str z)) := pe_glob (v := .str z) hg hm ⟨_, rfl⟩ hd
theorem gl_int {z : Int} {t : Tok} (hg : Gl X x) (hm : X.mg x = some (.int z t)) (hd : (x == ("__debug__" : Str)) = false := by decide) : PE X (.Name x pos) (tC (.int z)) := pe_glob (v := .int z) hg hm ⟨_, rfl⟩ hd
theorem gl_ref {a : Addr} (hg : Gl X x) (hm : X.mg x = some (.ref a)) (hd : (x == ("__debug__" : Str)) = false := by decide) : PE X (.Name x pos) (tC (.ref a)) := pe_glob (v := .ref a) hg hm rfl hd
end
end Tf
set_option maxHeartbeats 4000000
namespace Tf
open PySem PySem.Spec PyProof.Rows L2 TL

/-! ### letters, digits, signs -/
def Lt (c : Nat) : Prop := 97 ≤ c ∧ c ≤ 122
def Dg (c : Nat) : Prop := 48 ≤ c ∧ c ≤ 57
def Bl (c : Nat) : Prop := c = 32 ∨ c = 10
instance (c : Nat) : Decidable (Lt c) := by unfold Lt; infer_instance
instance (c : Nat) : Decidable (Dg c) := by unfold Dg; infer_instance
instance (c : Nat) : Decidable (Bl c) := by unfold Bl; infer_instance
/-- the signs in the order in which they are tried -/
def sgL : List (List Nat) := [[60, 61], [62, 61], [33, 61], [40], [41], [44], [124], [60], [62], [61]]
def sgS : List Str := ["<=", ">=", "!=", "(", ")", ",", "|", "<", ">", "="]
theorem sg_tl : sgS.map tl = sgL := by decide +kernel
/-- what one token is, ahead of r -/
inductive Tok1 (w r : List Nat) : Str → Prop
  | word (h : w ≠ []) (hw : ∀ c ∈ w, Lt c) (hr : ∀ c, r.head? = some c → ¬ Lt c) : Tok1 w r "word"
  | num {ds : List Nat} (h : ds ≠ []) (hd : ∀ c ∈ ds, Dg c) (hr : ∀ c, r.head? = some c → ¬ Dg c) (hw : w = ds ∨ w = 45 :: ds) : Tok1 w r "number"
  | sign (h : w ∈ sgL) (hr : w = [60] ∨ w = [62] → ∀ c, r.head? = some c → c ≠ 61) : Tok1 w r "sign"
def TokVal (kind : Str) (w : List Nat) (v : V) : Prop := (kind = "number" ∧ w.length ≤ 640 ∧ ∃ n, PySem.intText? ⟨w.toArray⟩ = some n ∧ v = .int n) ∨ (kind ≠ "number" ∧ v = .str ⟨w.toArray⟩)
abbrev Tk := Str × V × Nat
/-- the tokens of a text from a place on -/
inductive Lex : Nat → List Nat → List Tk → Prop
  | nil (p : Nat) : Lex p [] []
  | blank {p c r d} (h : Bl c) (k : Lex (p + 1) r d) : Lex p (c :: r) d
  | tok {p w r kind v d} (h : Tok1 w r kind) (hv : TokVal kind w v) (k : Lex (p + w.length) r d) : Lex p (w ++ r) ((kind, v, p) :: d)
theorem Tok1.ne {w r : List Nat} {kind : Str} (h : Tok1 w r kind) : w ≠ [] := by
  cases h with
  | word h _ _ => exact h
  | num h _ _ hw => rcases hw with e | e <;> rw [e] <;> first | exact h | exact List.cons_ne_nil _ _
  | sign h _ =>
    intro e
    rw [e] at h
    exact absurd h (by decide)
theorem Lex.blanks : ∀ {g : List Nat} {p : Nat} {r : List Nat} {d : List Tk}, (∀ c ∈ g, Bl c) → Lex (p + g.length) r d → Lex p (g ++ r) d
  | [], _, _, _, _, k => k
  | c :: g, p, r, d, h, k => Lex.blank (h c (List.mem_cons_self ..)) (Lex.blanks (fun x hx => h x (List.mem_cons_of_mem _ hx)) (by
      have e : p + 1 + g.length = p + (c :: g).length := by rw [List.length_cons]; omega
      rw [e]; exact k))
/-! ### what is written: gaps and tokens -/
structure Itm where
  g : List Nat
  w : List Nat
  kind : Str
  v : V
inductive Wf : List Nat → Str → Prop
  | word {w} (h : w ≠ []) (hw : ∀ c ∈ w, Lt c) : Wf w "word"
  | num {w ds} (h : ds ≠ []) (hd : ∀ c ∈ ds, Dg c) (hw : w = ds ∨ w = 45 :: ds) : Wf w "number"
  | sign {w} (h : w ∈ sgL) : Wf w "sign"
theorem Wf.ne {w : List Nat} {kind : Str} (h : Wf w kind) : w ≠ [] := by
  cases h with
  | word h _ => exact h
  | num h _ hw => rcases hw with e | e <;> rw [e] <;> first | exact h | exact List.cons_ne_nil _ _
  | sign h =>
    intro e
    rw [e] at h
    exact absurd h (by decide)
/-- two tokens may stand beside each other with nothing between them -/
def Apart (p w : List Nat) : Prop := ∀ a b, p.getLast? = some a → w.head? = some b → ¬ (Lt a ∧ Lt b) ∧ ¬ (Dg a ∧ Dg b) ∧ ((p = [60] ∨ p = [62]) → b ≠ 61)
def ItmOk (p : List Nat) (x : Itm) : Prop := (∀ c ∈ x.g, Bl c) ∧ Wf x.w x.kind ∧ TokVal x.kind x.w x.v ∧ (x.g = [] → Apart p x.w)
def Chain : List Nat → List Itm → Prop
  | _, [] => True
  | p, x :: r => ItmOk p x ∧ Chain x.w r
def render : List Itm → List Nat
  | [] => []
  | x :: r => x.g ++ (x.w ++ render r)
def places : Nat → List Itm → List Tk
  | _, [] => []
  | p, x :: r => (x.kind, x.v, p + x.g.length) :: places (p + x.g.length + x.w.length) r
def lastw : List Nat → List Itm → List Nat
  | p, [] => p
  | _, x :: r => lastw x.w r
theorem chain_snoc : ∀ {l : List Itm} {p : List Nat} {x : Itm}, Chain p l → ItmOk (lastw p l) x → Chain p (l ++ [x])
  | [], _, _, _, h => ⟨h, trivial⟩
  | y :: l, p, x, ⟨h1, h2⟩, h => ⟨h1, chain_snoc h2 h⟩
theorem lastw_snoc : ∀ {l : List Itm} {p : List Nat} {x : Itm}, lastw p (l ++ [x]) = x.w
  | [], _, _ => rfl
  | y :: l, _, x => lastw_snoc (l := l)
theorem render_snoc : ∀ {l : List Itm} {x : Itm}, render (l ++ [x]) = render l ++ (x.g ++ x.w)
  | [], x => by show x.g ++ (x.w ++ []) = [] ++ (x.g ++ x.w); simp
  | y :: l, x => by show y.g ++ (y.w ++ render (l ++ [x])) = (y.g ++ (y.w ++ render l)) ++ (x.g ++ x.w); rw [render_snoc]; simp only [List.append_assoc]
theorem places_snoc : ∀ {l : List Itm} {p : Nat} {x : Itm}, places p (l ++ [x]) = places p l ++ [(x.kind, x.v, p + (render l).length + x.g.length)]
  | [], p, x => rfl
  | y :: l, p, x => by
    show (y.kind, y.v, p + y.g.length) :: places (p + y.g.length + y.w.length) (l ++ [x]) = ((y.kind, y.v, p + y.g.length) :: places (p + y.g.length + y.w.length) l) ++ _
    rw [places_snoc]
    have e : p + y.g.length + y.w.length + (render l).length + x.g.length = p + (render (y :: l)).length + x.g.length := by
      show _ = p + (y.g ++ (y.w ++ render l)).length + x.g.length
      rw [List.length_append, List.length_append]; omega
    rw [e]; rfl
theorem bl_not {c : Nat} (h : Bl c) : ¬ Lt c ∧ ¬ Dg c ∧ c ≠ 61 := by unfold Bl Lt Dg at *; omega
theorem head_app {a b : List Nat} (h : a ≠ []) : (a ++ b).head? = a.head? := by cases a with | nil => exact absurd rfl h | cons x r => rfl
/-- what stands behind a token of a chain: not what would lengthen it -/
theorem after_ok {w : List Nat} {l : List Itm} {gend : List Nat} (hc : Chain w l) (hg : ∀ c ∈ gend, Bl c) : ∀ a b, w.getLast? = some a → (render l ++ gend).head? = some b → ¬ (Lt a ∧ Lt b) ∧ ¬ (Dg a ∧ Dg b) ∧ ((w = [60] ∨ w = [62]) → b ≠ 61) := by
  intro a b ha hb
  have blank : Bl b → ¬ (Lt a ∧ Lt b) ∧ ¬ (Dg a ∧ Dg b) ∧ ((w = [60] ∨ w = [62]) → b ≠ 61) := fun h => by
    have q := bl_not h
    exact ⟨fun z => q.1 z.2, fun z => q.2.1 z.2, fun _ => q.2.2⟩
  cases l with
  | nil =>
    have hb' : gend.head? = some b := hb
    cases gend with
    | nil => cases hb'
    | cons c r =>
      have e : c = b := Option.some.inj hb'
      exact blank (e ▸ hg c (List.mem_cons_self ..))
  | cons x r =>
    obtain ⟨⟨h1, h2, h3, h4⟩, _⟩ := hc
    have e : render (x :: r) ++ gend = x.g ++ (x.w ++ (render r ++ gend)) := by show (x.g ++ (x.w ++ render r)) ++ gend = _; simp only [List.append_assoc]
    rw [e] at hb
    cases hx : x.g with
    | nil =>
      rw [hx] at hb
      have hb2 : (x.w ++ (render r ++ gend)).head? = some b := hb
      rw [head_app h2.ne] at hb2
      exact h4 hx a b ha hb2
    | cons c g =>
      rw [hx] at hb
      have e : c = b := Option.some.inj hb
      exact blank (e ▸ h1 c (by rw [hx]; exact List.mem_cons_self ..))
theorem last_mem {l : List Nat} {a : Nat} (h : l.getLast? = some a) : a ∈ l := List.mem_of_getLast? h
theorem last_of {l : List Nat} (h : l ≠ []) : ∃ a, l.getLast? = some a := ⟨_, List.getLast?_eq_some_getLast h⟩
theorem lex_of : ∀ {l : List Itm} {p : Nat} {w gend : List Nat}, Chain w l → (∀ c ∈ gend, Bl c) → Lex p (render l ++ gend) (places p l)
  | [], p, w, gend, _, hg => by
    have k := Lex.blanks (g := gend) (p := p) (r := []) (d := []) hg (Lex.nil _)
    rw [List.append_nil] at k
    exact k
  | x :: r, p, w, gend, hc, hg => by
    obtain ⟨⟨h1, h2, h3, h4⟩, hr⟩ := hc
    have e : render (x :: r) ++ gend = x.g ++ (x.w ++ (render r ++ gend)) := by show (x.g ++ (x.w ++ render r)) ++ gend = _; simp only [List.append_assoc]
    rw [e]
    cases x with | mk xg xw xk xv => ?_
    dsimp only at h1 h2 h3 h4 hr ⊢
    refine Lex.blanks h1 (Lex.tok ?_ h3 (lex_of hr hg))
    have ao := after_ok hr hg
    obtain ⟨a, ha⟩ := last_of h2.ne
    cases h2 with
    | word h hw =>
      refine Tok1.word h hw fun c hc z => ?_
      exact (ao a c ha hc).1 ⟨hw a (last_mem ha), z⟩
    | num h hd hw =>
      refine Tok1.num h hd (fun c hc z => ?_) hw
      obtain ⟨b, hb⟩ := last_of h
      have e : a = b := by
        rcases hw with e | e
        · rw [e, hb] at ha
          exact (Option.some.inj ha).symm
        · rw [e, List.getLast?_cons, hb] at ha
          exact (Option.some.inj ha).symm
      exact (ao a c ha hc).2.1 ⟨e ▸ hd b (last_mem hb), z⟩
    | sign h => exact Tok1.sign h fun hw c hc => (ao a c ha hc).2.2 hw
/-! ### numbers written -/
theorem digits_zeros : ∀ {z : List Nat} {n : Nat}, (∀ c ∈ z, c = 48) → NumText.digitsVal (z ++ numL n) = n := by
  intro z n h
  unfold NumText.digitsVal
  rw [List.foldl_append]
  have e : ∀ (z : List Nat), (∀ c ∈ z, c = 48) → List.foldl (fun acc c => acc * 10 + (c - 48)) 0 z = 0 := by
    intro z
    induction z with
    | nil => intro _; rfl
    | cons c r ih =>
      intro h
      rw [List.foldl_cons, h c (List.mem_cons_self ..)]
      exact ih fun x hx => h x (List.mem_cons_of_mem _ hx)
  rw [e z h]
  exact numL_val n
theorem num_text {z : List Nat} {n : Nat} (h : ∀ c ∈ z, c = 48) (hl : z.length + (numL n).length ≤ 600) : PySem.intText? ⟨(z ++ numL n).toArray⟩ = some (n : Int) := by
  have e := intText_digits (x := ⟨(z ++ numL n).toArray⟩) (fun c hc => by
    rcases List.mem_append.mp hc with q | q
    · rw [h c q]; decide
    · exact numL_digits n c q) (fun q => numL_ne n (List.append_eq_nil_iff.mp q).2) (by rw [len_tl, tl_mk, List.length_append]; omega)
  rw [show (⟨(z ++ numL n).toArray⟩ : Str).cps.toList = z ++ numL n from rfl, digits_zeros h] at e
  exact e
theorem num_text_neg {z : List Nat} {n : Nat} (h : ∀ c ∈ z, c = 48) (hl : z.length + (numL n).length ≤ 600) : PySem.intText? ⟨(45 :: (z ++ numL n)).toArray⟩ = some (-(n : Int)) := by
  have e := intText_neg (x := ⟨(45 :: (z ++ numL n)).toArray⟩) (cs := z ++ numL n) rfl (fun c hc => by
    rcases List.mem_append.mp hc with q | q
    · rw [h c q]; decide
    · exact numL_digits n c q) (fun q => numL_ne n (List.append_eq_nil_iff.mp q).2) (by rw [len_tl, tl_mk, List.length_cons, List.length_append]; omega)
  rw [digits_zeros h] at e
  exact e
theorem zeros_dg {z : List Nat} {n : Nat} (h : ∀ c ∈ z, c = 48) : ∀ c ∈ z ++ numL n, Dg c := fun c hc => by
  rcases List.mem_append.mp hc with q | q
  · rw [h c q]; decide
  · exact numL_digits n c q
end Tf
set_option maxHeartbeats 4000000
namespace Tf
open PySem PySem.Spec PyProof.Rows L2 TL
/-! ### the alphabets -/
theorem mem_letters (c : Nat) : c ∈ tl ("abcdefghijklmnopqrstuvwxyz" : Str) ↔ Lt c := by
  have e : tl ("abcdefghijklmnopqrstuvwxyz" : Str) = (List.range 26).map (· + 97) := by decide +kernel
  rw [e, List.mem_map]
  unfold Lt
  constructor
  · rintro ⟨a, ha, rfl⟩
    have := List.mem_range.mp ha
    omega
  · intro h
    exact ⟨c - 97, List.mem_range.mpr (by omega), by omega⟩
theorem mem_digits (c : Nat) : c ∈ tl ("0123456789" : Str) ↔ Dg c := by
  have e : tl ("0123456789" : Str) = (List.range 10).map (· + 48) := by decide +kernel
  rw [e, List.mem_map]
  unfold Dg
  constructor
  · rintro ⟨a, ha, rfl⟩
    have := List.mem_range.mp ha
    omega
  · intro h
    exact ⟨c - 48, List.mem_range.mpr (by omega), by omega⟩
/-! ### the same data -/
def Eq0 (x y : V) : Prop := (∃ i, x = .int i ∧ y = .int i) ∨ (∃ s, x = .str s ∧ y = .str s) ∨ (x = .non ∧ y = .non)
def SeqH (H : Hp) (b : Bool) (a : Addr) (xs : List V) : Prop := H a = some (if b = true then .tup xs else .lst xs)
def Eq2 (H : Hp) : Nat → V → V → Prop
  | 0, x, y => Eq0 x y
  | n + 1, x, y => Eq0 x y ∨ ∃ (t : Bool) (a b : Addr) (xs ys : List V), x = .ref a ∧ y = .ref b ∧ SeqH H t a xs ∧ SeqH H t b ys ∧ xs.length = ys.length ∧ ys.length ≤ 1000 ∧ ∀ (i : Nat) u v, xs[i]? = some u → ys[i]? = some v → Eq2 H n u v
theorem Eq2.mono {H H' : Hp} (k : Same H H') : ∀ {n : Nat} {x y : V}, Eq2 H n x y → Eq2 H' n x y
  | 0, _, _, h => h
  | n + 1, _, _, .inl h => .inl h
  | n + 1, _, _, .inr ⟨t, a, b, xs, ys, e1, e2, h1, h2, h3, h4, h5⟩ => .inr ⟨t, a, b, xs, ys, e1, e2, k _ _ h1, k _ _ h2, h3, h4, fun i u v hu hv => (h5 i u v hu hv).mono k⟩
theorem Eq2.base {H : Hp} {n : Nat} {x y : V} (h : Eq0 x y) : Eq2 H n x y := by cases n with | zero => exact h | succ n => exact .inl h
def spS (k : Nat) : Sp := fun vs H Q _ => ∃ (n : Nat) (x y : V), k = n + 1 ∧ vs = [x, y] ∧ Eq2 H n x y ∧ ∀ H', Same H H' → Q (.bl true) H'
theorem rix_of {K : PySem.W.Frag} {H : Hp} {a : Addr} {t : Bool} {xs : List V} {i : Nat} {j : Int} {v : V} {Q : VK} (h : SeqH H t a xs) (e : j = (i : Int)) (hi : xs[i]? = some v) (q : Q v H) : rIx K (.ref a) (.int j) H Q := by
  cases t with
  | true => exact .inr (.inl ⟨a, xs, _, v, rfl, rfl, .of h, at_of e hi, q⟩)
  | false => exact .inl ⟨a, xs, _, v, rfl, rfl, .of h, at_of e hi, q⟩
theorem seq_or {K : PySem.W.Frag} {H : Hp} {a : Addr} {t : Bool} {xs : List V} (h : SeqH H t a xs) : SqL K H a xs ∨ SqT K H a xs := by
  cases t with
  | true => exact .inr (.of h)
  | false => exact .inl (.of h)
theorem seq_ty {K : PySem.W.Frag} {H : Hp} {a : Addr} {t : Bool} {xs : List V} (h : SeqH H t a xs) : TyX K H (.ref a) (.type (if t = true then "tuple" else "list")) := by
  cases t with
  | true => exact .base (.tup h)
  | false => exact .base (.lst h)
theorem kit_seq (K : PySem.W.Frag) (t : Bool) : PySem.W.kitAny K (.type (if t = true then "tuple" else "list")) [.type "list", .type "tuple"] = some true := by
  cases t with
  | true => exact kitAny_cons (b := false) (kit_ty (by decide +kernel)) (fun _ => kitAny_cons (b := true) (kit_ty (by decide +kernel)) (fun h => by cases h) (fun _ => rfl)) (fun h => by cases h)
  | false => exact kitAny_cons (b := true) (kit_ty (by decide +kernel)) (fun h => by cases h) (fun _ => rfl)
theorem kit_no (K : PySem.W.Frag) (a : String) (h1 : kitB a "list" = some false) (h2 : kitB a "tuple" = some false) : PySem.W.kitAny K (.type a) [.type "list", .type "tuple"] = some false :=
  kitAny_cons (b := false) (kit_ty h1) (fun _ => kitAny_cons (b := false) (kit_ty h2) (fun _ => kitAny_nil) (fun h => by cases h)) (fun h => by cases h)
theorem kit_l (K : PySem.W.Frag) (t : Bool) : PySem.W.kitOne K (.type (if t = true then "tuple" else "list")) (.type "list") = some (!t) := by
  cases t with
  | true => exact kit_ty (by decide +kernel)
  | false => exact kit_ty (by decide +kernel)
theorem kit_t (K : PySem.W.Frag) (t : Bool) : PySem.W.kitOne K (.type (if t = true then "tuple" else "list")) (.type "tuple") = some t := by
  cases t with
  | true => exact kit_ty (by decide +kernel)
  | false => exact kit_ty (by decide +kernel)
theorem dec_self {α : Type} [DecidableEq α] (x : α) : (!decide (x = x)) = false := by rw [decide_eq_true rfl] <;> rfl
/-- a value that is one of two, told by what both are -/
theorem if_te {c : Prop} [Decidable c] {ta tb : TE} {σ : L2.St} {H : Hp} {Q : VK} (R : V → Prop) (hx : c → ∀ Q : VK, (∀ v, R v → Q v H) → ta σ H Q) (hy : ¬ c → ∀ Q : VK, (∀ v, R v → Q v H) → tb σ H Q) (h : ∀ v, R v → Q v H) : if c then ta σ H Q else tb σ H Q := by
  by_cases k : c
  · rw [if_pos k]; exact hx k Q h
  · rw [if_neg k]; exact hy k Q h
/-- the same of a test that is asked behind another -/
theorem if_tt {c : Prop} [Decidable c] {tt : TT} {σ : L2.St} {H : Hp} {Q : Bool → Hp → Prop} (b : Bool) (hx : c → ∀ Q : Bool → Hp → Prop, Q b H → tt σ H Q) (hy : ¬ c → b = false) (h : Q b H) : if c then tt σ H Q else Q false H := by
  by_cases k : c
  · rw [if_pos k]; exact hx k Q h
  · rw [if_neg k, ← hy k]; exact h
/-! ### the draws' promises -/
def spDraw (K : PySem.W.Frag) : Sp := fun vs H Q _ => ∃ (a : Addr) (ns : List Int), vs = [.ref a] ∧ SqL K H a (ns.map V.int) ∧ ns.length ≤ 63 ∧ ∀ d sc H', H d = none → Dr sc H' d → Same H H' → Q (.ref d) H'
theorem atI_of {α : Type} {xs : List α} {z : Int} {j : Nat} {v : α} (e : z = (j : Int)) (h : xs[j]? = some v) : atI xs z = some v := by
  rw [e]
  exact atI_nat h
theorem pick {α : Type} {xs : List α} {i : Int} (h0 : 0 ≤ i) (h1 : i < (xs.length : Int)) : ∃ v, v ∈ xs ∧ atI xs i = some v := by
  have hi : i.toNat < xs.length := by omega
  have e : i = ((i.toNat : Nat) : Int) := by omega
  exact ⟨xs[i.toNat], List.getElem_mem hi, atI_of e (List.getElem?_eq_getElem hi)⟩
/-- an item of a list of texts that is made for it -/
theorem pickS {xs : List Str} {i : Int} (h0 : 0 ≤ i) (h1 : i < (xs.length : Int)) : ∃ s, s ∈ xs ∧ atI (xs.map V.str) i = some (.str s) := by
  obtain ⟨v, hv, e⟩ := pick (xs := xs.map V.str) h0 (by rw [List.length_map]; exact h1)
  obtain ⟨s, hs, rfl⟩ := List.mem_map.mp hv
  exact ⟨s, hs, e⟩
theorem pickI {xs : List Int} {i : Int} (h0 : 0 ≤ i) (h1 : i < (xs.length : Int)) : ∃ s, s ∈ xs ∧ atI (xs.map V.int) i = some (.int s) := by
  obtain ⟨v, hv, e⟩ := pick (xs := xs.map V.int) h0 (by rw [List.length_map]; exact h1)
  obtain ⟨s, hs, rfl⟩ := List.mem_map.mp hv
  exact ⟨s, hs, e⟩
def gapS : List Str := ["", " ", "\n", "  ", " \n "]
theorem gap_ok : ∀ g ∈ gapS, (∀ c ∈ tl g, Bl c) ∧ (tl g).length ≤ 3 := by decide +kernel
def spGap : Sp := fun vs H Q _ => ∃ d sc : Addr, vs = [.ref d] ∧ Dr sc H d ∧ ∀ g H', g ∈ gapS → Dr sc H' d → Up d H H' → Q (.str g) H'
def NoGlue (last word : List Nat) : Prop := ∀ a b, last.getLast? = some a → word.head? = some b → ¬ (Lt a ∧ Lt b) ∧ ¬ (Dg a ∧ Dg b)
def spJoint : Sp := fun vs H Q _ => ∃ (d sc : Addr) (last word : Str), vs = [.ref d, .str last, .str word] ∧ Dr sc H d ∧ tl word ≠ [] ∧ word.length ≤ 1000 ∧ last.length ≤ 1000 ∧
  ∀ g H', g ∈ gapS → (tl g = [] → NoGlue (tl last) (tl word)) → Dr sc H' d → Up d H H' → Q (.str g) H'
def spOne : Sp := fun vs H Q _ => ∃ d sc : Addr, vs = [.ref d] ∧ Dr sc H d ∧ ∀ (t : Addr) (kind wr : Str) (v : V) H', H t = none → H' t = some (.tup [.str kind, v, .str wr]) → Dr sc H' d → Up d H H' → Wf (tl wr) kind → TokVal kind (tl wr) v → (tl wr).length ≤ 20 → Q (.ref t) H'
/-! ### what _law_one makes -/
theorem join_nil_tl (ws : List Str) : tl (Txt.join ("" : Str) ws) = (ws.map tl).flatten := by
  rw [join_eq, tl_join]
  have e : tl ("" : Str) = [] := by decide +kernel
  rw [e]
  generalize ws.map tl = ls
  induction ls with
  | nil => rfl
  | cons x r ih =>
    cases r with
    | nil => simp [joinL]
    | cons y r => 
      rw [List.flatten_cons, ← ih]
      simp [joinL]
theorem ones {ws : List Str} (h : ∀ x ∈ ws, ∃ c, x = ⟨#[c]⟩ ∧ Lt c) : (∀ c ∈ (ws.map tl).flatten, Lt c) ∧ (ws.map tl).flatten.length = ws.length ∧ (ws.map (·.length)).sum = ws.length := by
  induction ws with
  | nil => exact ⟨fun c hc => absurd hc (by simp), rfl, rfl⟩
  | cons x r ih =>
    obtain ⟨c, rfl, hc⟩ := h x (List.mem_cons_self ..)
    obtain ⟨i1, i2, i3⟩ := ih fun y hy => h y (List.mem_cons_of_mem _ hy)
    refine ⟨fun b hb => ?_, ?_, ?_⟩
    · rw [List.map_cons, List.flatten_cons] at hb
      rcases List.mem_append.mp hb with hb | hb
      · rw [show tl (⟨#[c]⟩ : Str) = [c] from rfl] at hb
        rw [List.mem_singleton.mp hb]; exact hc
      · exact i1 b hb
    · rw [List.map_cons, List.flatten_cons, List.length_append, i2]
      show 1 + r.length = r.length + 1
      omega
    · rw [List.map_cons, List.sum_cons, i3]
      show 1 + r.length = r.length + 1
      omega
def zeroS : List Str := ["", "0", "000"]
theorem zero_ok : ∀ z ∈ zeroS, (∀ c ∈ tl z, c = 48) ∧ (tl z).length ≤ 3 := by decide +kernel
theorem number_of {a m b : Int} (a0 : 0 ≤ a) (a1 : a < 100) (hm : m ∈ ([1, 1000, 1000000, 1000000000] : List Int)) (b0 : 0 ≤ b) (b1 : b < 12) : ∃ n : Nat, a * m + b = (n : Int) ∧ n < 10 ^ 12 := by
  have h : 0 ≤ a * m + b ∧ a * m + b < 10 ^ 12 := by
    simp only [List.mem_cons, List.not_mem_nil, or_false] at hm
    rcases hm with rfl | rfl | rfl | rfl <;> omega
  exact ⟨(a * m + b).toNat, by omega, by omega⟩
theorem log_ok {n : Nat} (h : n < 10 ^ 12) : ((n : Int)).natAbs.log2 < 1920 := by
  rw [Int.natAbs_natCast]
  rcases Nat.eq_zero_or_pos n with e | e
  · rw [e]; decide
  · have : n.log2 < 41 := (Nat.log2_lt (by omega)).mpr (by omega)
    omega
theorem tl_strI (n : Nat) : tl (Str.ofString (toString ((n : Nat) : Int))) = numL n := tl_num n
end Tf
set_option maxHeartbeats 4000000
namespace Tf
open PySem PySem.Spec PyProof.Rows L2 TL
/-! ### plans -/
inductive Stg
  | sift (c : Str) (b : Int)
  | only (ks : List Str)
  | rekey (k : Str)
  | scale (f : Int)
  | later (d : Int)
inductive Pl
  | src (n : Str)
  | stage (s : Stg) (p : Pl)
  | once (p : Pl)
  | windows (a b : Int) (g : Str) (p : Pl)
  | sittings (a : Int) (g : Str) (p : Pl)
  | two (w : Str) (l r : Pl)
  | near (a b : Int) (c : Str) (l r : Pl)
def twoS : List Str := ["both", "less", "without"]
def pairS : List Str := ["both", "less", "without", "near"]
def Pl.ins : Pl → List Pl
  | .src _ => []
  | .stage _ p => [p]
  | .once p => [p]
  | .windows _ _ _ p => [p]
  | .sittings _ _ p => [p]
  | .two _ l r => [l, r]
  | .near _ _ _ l r => [l, r]
def Pl.head : Pl → Str
  | .src _ => "source"
  | .stage _ _ => "stage"
  | .once _ => "once"
  | .windows _ _ _ _ => "windows"
  | .sittings _ _ _ => "sittings"
  | .two w _ _ => w
  | .near _ _ _ _ _ => "near"
def Pl.size : Pl → Nat
  | .src _ => 1
  | .stage _ p => p.size + 1
  | .once p => p.size + 1
  | .windows _ _ _ p => p.size + 1
  | .sittings _ _ p => p.size + 1
  | .two _ l r => l.size + r.size + 1
  | .near _ _ _ l r => l.size + r.size + 1
def Pl.srcs : Pl → List Str
  | .src n => [n]
  | .stage _ p => p.srcs
  | .once p => p.srcs
  | .windows _ _ _ p => p.srcs
  | .sittings _ _ p => p.srcs
  | .two _ l r => l.srcs ++ r.srcs
  | .near _ _ _ l r => l.srcs ++ r.srcs
/-- all plans within a plan, each with its level -/
def subs : Nat → Pl → List (Pl × Nat)
  | l, .src n => [(.src n, l)]
  | l, .stage s p => (.stage s p, l) :: subs (l + 1) p
  | l, .once p => (.once p, l) :: subs (l + 1) p
  | l, .windows a b g p => (.windows a b g p, l) :: subs (l + 1) p
  | l, .sittings a g p => (.sittings a g p, l) :: subs (l + 1) p
  | l, .two w x y => (.two w x y, l) :: (subs (l + 1) x ++ subs (l + 1) y)
  | l, .near a b c x y => (.near a b c x y, l) :: (subs (l + 1) x ++ subs (l + 1) y)
theorem subs_eq (l : Nat) (p : Pl) : subs l p = (p, l) :: (p.ins.map (subs (l + 1))).flatten := by
  cases p <;> simp [subs, Pl.ins]
theorem subs_len : ∀ (p : Pl) (l : Nat), (subs l p).length = p.size
  | .src _, _ => rfl
  | .stage _ p, l => by simp [subs, Pl.size, subs_len p]
  | .once p, l => by simp [subs, Pl.size, subs_len p]
  | .windows _ _ _ p, l => by simp [subs, Pl.size, subs_len p]
  | .sittings _ _ p, l => by simp [subs, Pl.size, subs_len p]
  | .two _ x y, l => by simp [subs, Pl.size, subs_len x, subs_len y]
  | .near _ _ _ x y, l => by simp [subs, Pl.size, subs_len x, subs_len y]
theorem srcs_eq (p : Pl) (h : p.ins ≠ []) : p.srcs = (p.ins.map Pl.srcs).flatten := by
  cases p <;> first | exact absurd rfl h | simp [Pl.srcs, Pl.ins]
theorem size_eq (p : Pl) : p.size = (p.ins.map Pl.size).sum + 1 := by
  cases p <;> simp [Pl.size, Pl.ins]
theorem mem_srcs : ∀ (p : Pl) (l : Nat) (n : Str), n ∈ p.srcs ↔ ∃ k, (Pl.src n, k) ∈ subs l p
  | .src m, l, n => by simp [Pl.srcs, subs]
  | .stage _ p, l, n => by simp [Pl.srcs, subs, mem_srcs p (l + 1) n]
  | .once p, l, n => by simp [Pl.srcs, subs, mem_srcs p (l + 1) n]
  | .windows _ _ _ p, l, n => by simp [Pl.srcs, subs, mem_srcs p (l + 1) n]
  | .sittings _ _ p, l, n => by simp [Pl.srcs, subs, mem_srcs p (l + 1) n]
  | .two _ x y, l, n => by simp only [Pl.srcs, subs, List.mem_append, mem_srcs x (l + 1) n, mem_srcs y (l + 1) n, List.mem_cons, exists_or, Prod.mk.injEq, reduceCtorEq, false_and, false_or]
  | .near _ _ _ x y, l, n => by simp only [Pl.srcs, subs, List.mem_append, mem_srcs x (l + 1) n, mem_srcs y (l + 1) n, List.mem_cons, exists_or, Prod.mk.injEq, reduceCtorEq, false_and, false_or]
/-! ### plans in the heap -/
def StAt (H : Hp) : Stg → V → Prop
  | .sift c b, v => ∃ a, v = .ref a ∧ H a = some (.tup [.str "sift", .str c, .int b])
  | .only ks, v => ∃ a k, v = .ref a ∧ H a = some (.tup [.str "only", .ref k]) ∧ H k = some (.tup (ks.map V.str))
  | .rekey k, v => ∃ a, v = .ref a ∧ H a = some (.tup [.str "rekey", .str k])
  | .scale f, v => ∃ a, v = .ref a ∧ H a = some (.tup [.str "scale", .int f])
  | .later d, v => ∃ a, v = .ref a ∧ H a = some (.tup [.str "later", .int d])
def PlAt (H : Hp) : Pl → V → Prop
  | .src n, v => ∃ a, v = .ref a ∧ H a = some (.tup [.str "source", .str n])
  | .stage s p, v => ∃ a x y, v = .ref a ∧ H a = some (.tup [.str "stage", x, y]) ∧ StAt H s x ∧ PlAt H p y
  | .once p, v => ∃ a y, v = .ref a ∧ H a = some (.tup [.str "once", y]) ∧ PlAt H p y
  | .windows i j g p, v => ∃ a y, v = .ref a ∧ H a = some (.tup [.str "windows", .int i, .int j, .str g, y]) ∧ PlAt H p y
  | .sittings i g p, v => ∃ a y, v = .ref a ∧ H a = some (.tup [.str "sittings", .int i, .str g, y]) ∧ PlAt H p y
  | .two w l r, v => ∃ a x y, v = .ref a ∧ H a = some (.tup [.str w, x, y]) ∧ w ∈ twoS ∧ PlAt H l x ∧ PlAt H r y
  | .near i j c l r, v => ∃ a x y, v = .ref a ∧ H a = some (.tup [.str "near", .int i, .int j, .str c, x, y]) ∧ PlAt H l x ∧ PlAt H r y
def TupUp (H H' : Hp) : Prop := ∀ p xs, H p = some (.tup xs) → H' p = some (.tup xs)
theorem TupUp.refl {H : Hp} : TupUp H H := fun _ _ h => h
theorem TupUp.trans {H H1 H2 : Hp} (a : TupUp H H1) (b : TupUp H1 H2) : TupUp H H2 := fun p xs h => b p xs (a p xs h)
theorem TupUp.same {H H' : Hp} (a : Same H H') : TupUp H H' := fun p xs h => a p _ h
theorem TupUp.new {H : Hp} {p : Addr} {o : HO} (h : H p = none) : TupUp H (upd H p o) := .same (same_new h o)
theorem TupUp.lst {H : Hp} {p : Addr} {xs : List V} {o : HO} (h : H p = some (.lst xs)) : TupUp H (upd H p o) := fun q ys e => by
  rw [upd_ne (fun z => by rw [z, h] at e; cases e)]
  exact e
theorem Up.tupUp {sc d : Addr} {H H' : Hp} (u : Up d H H') (hD : Dr sc H d) : TupUp H H' := fun p xs e => by
  refine u p _ (fun q => ?_) e
  obtain ⟨ys, hy⟩ := hD.lst
  rw [q, hy] at e
  cases e
theorem StAt.mono {H H' : Hp} (k : TupUp H H') : ∀ {s : Stg} {v : V}, StAt H s v → StAt H' s v
  | .sift _ _, _, ⟨a, e, h⟩ => ⟨a, e, k _ _ h⟩
  | .only _, _, ⟨a, b, e, h, g⟩ => ⟨a, b, e, k _ _ h, k _ _ g⟩
  | .rekey _, _, ⟨a, e, h⟩ => ⟨a, e, k _ _ h⟩
  | .scale _, _, ⟨a, e, h⟩ => ⟨a, e, k _ _ h⟩
  | .later _, _, ⟨a, e, h⟩ => ⟨a, e, k _ _ h⟩
theorem PlAt.mono {H H' : Hp} (k : TupUp H H') : ∀ {p : Pl} {v : V}, PlAt H p v → PlAt H' p v
  | .src _, _, ⟨a, e, h⟩ => ⟨a, e, k _ _ h⟩
  | .stage _ _, _, ⟨a, x, y, e, h, s, p⟩ => ⟨a, x, y, e, k _ _ h, s.mono k, p.mono k⟩
  | .once _, _, ⟨a, y, e, h, p⟩ => ⟨a, y, e, k _ _ h, p.mono k⟩
  | .windows _ _ _ _, _, ⟨a, y, e, h, p⟩ => ⟨a, y, e, k _ _ h, p.mono k⟩
  | .sittings _ _ _, _, ⟨a, y, e, h, p⟩ => ⟨a, y, e, k _ _ h, p.mono k⟩
  | .two _ _ _, _, ⟨a, x, y, e, h, w, p, q⟩ => ⟨a, x, y, e, k _ _ h, w, p.mono k, q.mono k⟩
  | .near _ _ _ _ _, _, ⟨a, x, y, e, h, p, q⟩ => ⟨a, x, y, e, k _ _ h, p.mono k, q.mono k⟩
/-- several plans -/
def InsAt (H : Hp) : List Pl → List V → Prop
  | [], [] => True
  | p :: ps, v :: vs => PlAt H p v ∧ InsAt H ps vs
  | _, _ => False
theorem InsAt.mono {H H' : Hp} (k : TupUp H H') : ∀ {ps : List Pl} {vs : List V}, InsAt H ps vs → InsAt H' ps vs
  | [], [], _ => trivial
  | p :: ps, v :: vs, ⟨h, r⟩ => ⟨h.mono k, r.mono k⟩
theorem InsAt.len {H : Hp} : ∀ {ps : List Pl} {vs : List V}, InsAt H ps vs → ps.length = vs.length
  | [], [], _ => rfl
  | p :: ps, v :: vs, ⟨h, r⟩ => by rw [List.length_cons, List.length_cons, r.len]
theorem InsAt.get {H : Hp} : ∀ {ps : List Pl} {vs : List V} {i : Nat} {v : V}, InsAt H ps vs → vs[i]? = some v → ∃ p, ps[i]? = some p ∧ PlAt H p v
  | [], [], _, _, _, e => by simp at e
  | p :: ps, v :: vs, 0, u, ⟨h, r⟩, e => ⟨p, rfl, by rw [← Option.some.inj e]; exact h⟩
  | p :: ps, v :: vs, i + 1, u, ⟨h, r⟩, e => r.get (i := i) e
/-- what a plan's tuple is: its word, what belongs to the word, its inputs -/
theorem PlAt.view {H : Hp} {p : Pl} {v : V} (h : PlAt H p v) : ∃ (a : Addr) (mid vs : List V), v = .ref a ∧ H a = some (.tup (.str p.head :: (mid ++ vs))) ∧ InsAt H p.ins vs ∧ mid.length ≤ 3 ∧
    (p.ins = [] → ∃ n, p = .src n ∧ mid = [.str n] ∧ p.head = "source") ∧ (p.ins ≠ [] → p.head ≠ "source") ∧ (p.ins.length = 2 ↔ p.head ∈ pairS) ∧ p.ins.length ≤ 2 := by
  have n1 : ∀ s ∈ (["stage", "once", "windows", "sittings", "source"] : List Str), s ∉ pairS := by decide +kernel
  have n2 : ∀ s ∈ (["stage", "once", "windows", "sittings"] : List Str), s ≠ ("source" : Str) := by decide +kernel
  have n3 : ∀ s ∈ pairS, s ≠ ("source" : Str) := by decide +kernel
  have n4 : ∀ s ∈ twoS, s ∈ pairS := by decide +kernel
  cases p with
  | src n =>
    obtain ⟨a, e, h⟩ := h
    exact ⟨a, [.str n], [], e, h, trivial, by show 1 ≤ 3; decide, fun _ => ⟨n, rfl, rfl, rfl⟩, fun z => absurd rfl z, ⟨fun z => absurd z (by show ¬ (0 = 2); decide), fun z => absurd z (n1 _ (by simp [Pl.head]))⟩, by show 0 ≤ 2; decide⟩
  | stage s p =>
    obtain ⟨a, x, y, e, h, _, g⟩ := h
    exact ⟨a, [x], [y], e, h, ⟨g, trivial⟩, by show 1 ≤ 3; decide, fun z => absurd z (List.cons_ne_nil _ _), fun _ => n2 _ (by simp [Pl.head]), ⟨fun z => absurd z (by show ¬ (1 = 2); decide), fun z => absurd z (n1 _ (by simp [Pl.head]))⟩, by show 1 ≤ 2; decide⟩
  | once p =>
    obtain ⟨a, y, e, h, g⟩ := h
    exact ⟨a, [], [y], e, h, ⟨g, trivial⟩, by decide, fun z => absurd z (List.cons_ne_nil _ _), fun _ => n2 _ (by simp [Pl.head]), ⟨fun z => absurd z (by show ¬ (1 = 2); decide), fun z => absurd z (n1 _ (by simp [Pl.head]))⟩, by show 1 ≤ 2; decide⟩
  | windows i j g p =>
    obtain ⟨a, y, e, h, g⟩ := h
    exact ⟨a, [.int i, .int j, .str _], [y], e, h, ⟨g, trivial⟩, by show 3 ≤ 3; decide, fun z => absurd z (List.cons_ne_nil _ _), fun _ => n2 _ (by simp [Pl.head]), ⟨fun z => absurd z (by show ¬ (1 = 2); decide), fun z => absurd z (n1 _ (by simp [Pl.head]))⟩, by show 1 ≤ 2; decide⟩
  | sittings i g p =>
    obtain ⟨a, y, e, h, g⟩ := h
    exact ⟨a, [.int i, .str _], [y], e, h, ⟨g, trivial⟩, by show 2 ≤ 3; decide, fun z => absurd z (List.cons_ne_nil _ _), fun _ => n2 _ (by simp [Pl.head]), ⟨fun z => absurd z (by show ¬ (1 = 2); decide), fun z => absurd z (n1 _ (by simp [Pl.head]))⟩, by show 1 ≤ 2; decide⟩
  | two w l r =>
    obtain ⟨a, x, y, e, h, hw, g1, g2⟩ := h
    exact ⟨a, [], [x, y], e, h, ⟨g1, g2, trivial⟩, by decide, fun z => absurd z (List.cons_ne_nil _ _), fun _ => n3 _ (n4 _ hw), ⟨fun _ => n4 _ hw, fun _ => rfl⟩, by show 2 ≤ 2; decide⟩
  | near i j c l r =>
    obtain ⟨a, x, y, e, h, g1, g2⟩ := h
    exact ⟨a, [.int i, .int j, .str c], [x, y], e, h, ⟨g1, g2, trivial⟩, by show 3 ≤ 3; decide, fun z => absurd z (List.cons_ne_nil _ _), fun _ => n3 _ (by show ("near" : Str) ∈ pairS; decide +kernel), ⟨fun _ => by show ("near" : Str) ∈ pairS; decide +kernel, fun _ => rfl⟩, by show 2 ≤ 2; decide⟩
/-! ### lists of plans with their levels -/
def FL (H : Hp) : List V → List (Pl × Nat) → Prop
  | [], [] => True
  | x :: xs, q :: qs => (∃ t v, x = .ref t ∧ H t = some (.tup [v, .int (q.2 : Int)]) ∧ PlAt H q.1 v) ∧ FL H xs qs
  | _, _ => False
theorem FL.mono {H H' : Hp} (k : TupUp H H') : ∀ {xs : List V} {qs : List (Pl × Nat)}, FL H xs qs → FL H' xs qs
  | [], [], _ => trivial
  | x :: xs, q :: qs, ⟨⟨t, v, e, h, p⟩, r⟩ => ⟨⟨t, v, e, k _ _ h, p.mono k⟩, r.mono k⟩
theorem FL.len {H : Hp} : ∀ {xs : List V} {qs : List (Pl × Nat)}, FL H xs qs → xs.length = qs.length
  | [], [], _ => rfl
  | x :: xs, q :: qs, ⟨_, r⟩ => by rw [List.length_cons, List.length_cons, r.len]
theorem FL.snoc {H : Hp} {t : Addr} {v : V} {q : Pl × Nat} (h : H t = some (.tup [v, .int (q.2 : Int)])) (hp : PlAt H q.1 v) : ∀ {xs : List V} {qs : List (Pl × Nat)}, FL H xs qs → FL H (xs ++ [.ref t]) (qs ++ [q])
  | [], [], _ => ⟨⟨t, v, rfl, h, hp⟩, trivial⟩
  | x :: xs, q :: qs, ⟨a, r⟩ => ⟨a, FL.snoc h hp r⟩
theorem FL.get {H : Hp} : ∀ {xs : List V} {qs : List (Pl × Nat)} {i : Nat} {x : V}, FL H xs qs → xs[i]? = some x → ∃ q t v, qs[i]? = some q ∧ x = .ref t ∧ H t = some (.tup [v, .int (q.2 : Int)]) ∧ PlAt H q.1 v
  | [], [], _, _, _, e => by simp at e
  | x :: xs, q :: qs, 0, u, ⟨⟨t, v, ex, h, p⟩, r⟩, e => ⟨q, t, v, rfl, (Option.some.inj e).symm.trans ex, h, p⟩
  | x :: xs, q :: qs, i + 1, u, ⟨_, r⟩, e => r.get (i := i) e
/-- the last one apart -/
theorem FL.last {H : Hp} {xs : List V} {qs : List (Pl × Nat)} (h : FL H xs qs) (hn : qs ≠ []) : ∃ q t v, qs = qs.dropLast ++ [q] ∧ xs[xs.length - 1]? = some (.ref t) ∧ H t = some (.tup [v, .int (q.2 : Int)]) ∧ PlAt H q.1 v ∧ FL H xs.dropLast qs.dropLast := by
  induction xs generalizing qs with
  | nil =>
    cases qs with
    | nil => exact absurd rfl hn
    | cons q qs => exact h.elim
  | cons x xs ih =>
    cases qs with
    | nil => exact h.elim
    | cons q qs =>
      obtain ⟨⟨t, v, ex, h1, p⟩, r⟩ := h
      cases qs with
      | nil =>
        cases xs with
        | nil => exact ⟨q, t, v, rfl, by rw [ex]; rfl, h1, p, trivial⟩
        | cons y ys => exact r.elim
      | cons q2 qs =>
        cases xs with
        | nil => exact r.elim
        | cons y ys =>
          obtain ⟨q', t', v', e1, e2, e3, e4, e5⟩ := ih r (List.cons_ne_nil _ _)
          refine ⟨q', t', v', ?_, ?_, e3, e4, ?_⟩
          · rw [List.dropLast_cons_cons, List.cons_append, ← e1]
          · rw [← e2]; rfl
          · exact ⟨⟨t, v, ex, h1, p⟩, e5⟩
/-- what is still in a stack of plans -/
def stackL (ws : List (Pl × Nat)) : List (Pl × Nat) := (ws.map fun q => subs q.2 q.1).flatten
theorem stackL_app (a b : List (Pl × Nat)) : stackL (a ++ b) = stackL a ++ stackL b := by unfold stackL; rw [List.map_append, List.flatten_append]
theorem stackL_one (q : Pl × Nat) : stackL [q] = q :: stackL (q.1.ins.map fun p => (p, q.2 + 1)) := by
  unfold stackL
  rw [List.map_singleton, List.flatten_singleton, subs_eq, List.map_map]
  rfl
def spInputs : Sp := fun vs H Q _ => ∃ (v : V) (p : Pl), vs = [v] ∧ PlAt H p v ∧ ∀ (t : Addr) (us : List V), H t = none → InsAt H p.ins us → Q (.ref t) (upd H t (.tup us))
def spLevels : Sp := fun vs H Q _ => ∃ (v : V) (p : Pl), vs = [v] ∧ PlAt H p v ∧ p.size ≤ 400 ∧ ∀ (f : Addr) (xs : List V) (ps : List (Pl × Nat)) H', Same H H' → H f = none → H' f = some (.lst xs) → FL H' xs ps → ps.Perm (subs 1 p) → Q (.ref f) H'
/-! ### the plans that are drawn -/
def compS : List Str := ["<", "<=", "=", "!=", ">=", ">"]
def keyS : List Str := ["a", "ab", "b", "c"]
def aggS : List Str := ["count", "sum", "least", "greatest"]
def combS : List Str := ["left", "right", "sum", "difference"]
def StOk : Stg → Prop
  | .sift c b => c ∈ compS ∧ -6 ≤ b ∧ b ≤ 6
  | .only ks => ks ≠ [] ∧ ks.Sublist keyS
  | .rekey k => k ∈ (["a", "b", "z"] : List Str)
  | .scale f => -3 ≤ f ∧ f ≤ 2
  | .later d => 0 ≤ d ∧ d ≤ 4
def PlOk (ns : List Str) : Pl → Prop
  | .src n => n ∈ ns
  | .stage s p => StOk s ∧ PlOk ns p
  | .once p => PlOk ns p
  | .windows a b g p => (1 ≤ b ∧ b ≤ 9 ∧ 1 ≤ a ∧ a ≤ 10 * b ∧ g ∈ aggS) ∧ PlOk ns p
  | .sittings a g p => (0 ≤ a ∧ a < 40 ∧ g ∈ aggS) ∧ PlOk ns p
  | .two w l r => w ∈ twoS ∧ PlOk ns l ∧ PlOk ns r
  | .near a b c l r => (0 ≤ a ∧ a < 9 ∧ 0 ≤ b ∧ b < 9 ∧ c ∈ combS) ∧ PlOk ns l ∧ PlOk ns r
theorem ok_srcs {ns : List Str} : ∀ {p : Pl}, PlOk ns p → ∀ z ∈ p.srcs, z ∈ ns
  | .src n, h, z, hz => by rw [List.mem_singleton.mp hz]; exact h
  | .stage _ p, h, z, hz => ok_srcs h.2 z hz
  | .once p, h, z, hz => ok_srcs (p := p) h z hz
  | .windows _ _ _ p, h, z, hz => ok_srcs h.2 z hz
  | .sittings _ _ p, h, z, hz => ok_srcs h.2 z hz
  | .two _ l r, h, z, hz => (List.mem_append.mp hz).elim (ok_srcs h.2.1 z) (ok_srcs h.2.2 z)
  | .near _ _ _ l r, h, z, hz => (List.mem_append.mp hz).elim (ok_srcs h.2.1 z) (ok_srcs h.2.2 z)
def spStage : Sp := fun vs H Q _ => ∃ (d sc : Addr), vs = [.ref d] ∧ Dr sc H d ∧ ∀ v s H', StAt H' s v → StOk s → Dr sc H' d → Up d H H' → Q v H'
def spAgg : Sp := fun vs H Q _ => ∃ (d sc : Addr), vs = [.ref d] ∧ Dr sc H d ∧ ∀ g H', g ∈ aggS → Dr sc H' d → Up d H H' → Q (.str g) H'
def spSpan : Sp := fun vs H Q _ => ∃ (d sc : Addr), vs = [.ref d] ∧ Dr sc H d ∧ ∀ (t : Addr) (a b : Int) H', H' t = some (.tup [.int a, .int b]) → 1 ≤ b → b ≤ 9 → 1 ≤ a → a ≤ 10 * b → Dr sc H' d → Up d H H' → Q (.ref t) H'
def spTree (ns : List Str) (n : Nat) : Sp := fun vs H Q _ => ∃ (d sc : Addr) (size : Int), vs = [.ref d, .int size] ∧ 1 ≤ size ∧ size ≤ n ∧ Dr sc H d ∧
  ∀ v p H', PlAt H' p v → PlOk ns p → (p.size : Int) ≤ size → Dr sc H' d → Up d H H' → Q v H'
end Tf
set_option maxHeartbeats 4000000
namespace Tf
open PySem PySem.Spec PyProof.Rows L2 TL
/-! ### rows -/
structure Row where
  t : Int
  k : Str
  v : Int
  deriving DecidableEq
def rowK (r : Row) : List Key := [.inl r.t, .inr r.k, .inl r.v]
def rowV (r : Row) : List V := [.int r.t, .str r.k, .int r.v]
theorem rowK_V (r : Row) : (rowK r).map kV = rowV r := rfl
theorem rowK_inj {r s : Row} (h : rowK r = rowK s) : r = s := by
  obtain ⟨a, b, c⟩ := r
  obtain ⟨x, y, z⟩ := s
  unfold rowK at h
  simp only [List.cons.injEq, Sum.inl.injEq, Sum.inr.injEq, and_true] at h
  obtain ⟨rfl, rfl, rfl⟩ := h
  rfl
theorem rowV_inj {r s : Row} (h : rowV r = rowV s) : r = s := by
  obtain ⟨a, b, c⟩ := r
  obtain ⟨x, y, z⟩ := s
  unfold rowV at h
  simp only [List.cons.injEq, V.int.injEq, V.str.injEq, and_true] at h
  obtain ⟨rfl, rfl, rfl⟩ := h
  rfl
def Row.Lt (r s : Row) : Prop := r.t < s.t ∨ (r.t = s.t ∧ (r.k.cps.toList < s.k.cps.toList ∨ (r.k = s.k ∧ r.v < s.v)))
instance (r s : Row) : Decidable (r.Lt s) := by unfold Row.Lt; infer_instance
theorem Row.Lt.irrefl (r : Row) : ¬ r.Lt r := by
  rintro (h | ⟨_, h | ⟨_, h⟩⟩)
  · omega
  · exact List.lt_irrefl _ h
  · omega
theorem Row.Lt.trans {a b c : Row} (h : a.Lt b) (g : b.Lt c) : a.Lt c := by
  rcases h with h | ⟨e, h⟩
  · rcases g with g | ⟨e', g⟩
    · exact .inl (by omega)
    · exact .inl (by omega)
  · rcases g with g | ⟨e', g⟩
    · exact .inl (by omega)
    · refine .inr ⟨by omega, ?_⟩
      rcases h with h | ⟨f, h⟩
      · rcases g with g | ⟨f', g⟩
        · exact .inl (List.lt_trans h g)
        · exact .inl (by rw [← f']; exact h)
      · rcases g with g | ⟨f', g⟩
        · exact .inl (by rw [f]; exact g)
        · exact .inr ⟨f.trans f', by omega⟩
theorem str_ext {x y : Str} (h : x.cps.toList = y.cps.toList) : x = y := ext_tl h
theorem Row.Lt.tri (a b : Row) : a.Lt b ∨ a = b ∨ b.Lt a := by
  rcases Int.lt_trichotomy a.t b.t with h | h | h
  · exact .inl (.inl h)
  · by_cases e1 : a.k.cps.toList < b.k.cps.toList
    · exact .inl (.inr ⟨h, .inl e1⟩)
    · by_cases e2 : b.k.cps.toList < a.k.cps.toList
      · exact .inr (.inr (.inr ⟨h.symm, .inl e2⟩))
      · have ek : a.k = b.k := str_ext (List.le_antisymm (List.not_lt.mp e2) (List.not_lt.mp e1))
        rcases Int.lt_trichotomy a.v b.v with g | g | g
        · exact .inl (.inr ⟨h, .inr ⟨ek, g⟩⟩)
        · exact .inr (.inl (by cases a; cases b; simp_all))
        · exact .inr (.inr (.inr ⟨h.symm, .inr ⟨ek.symm, g⟩⟩))
  · exact .inr (.inr (.inl h))
/-! ### counts of rows, added up -/
theorem sorted_uniq {α : Type} {R : α → α → Prop} (as : ∀ a b, R a b → ¬ R b a) : ∀ {l m : List α}, l.Pairwise R → m.Pairwise R → (∀ x, x ∈ l ↔ x ∈ m) → l = m
  | [], [], _, _, _ => rfl
  | [], y :: m, _, _, h => absurd ((h y).mpr (List.mem_cons_self ..)) List.not_mem_nil
  | x :: l, [], _, _, h => absurd ((h x).mp (List.mem_cons_self ..)) List.not_mem_nil
  | x :: l, y :: m, hl, hm, h => by
    rw [List.pairwise_cons] at hl hm
    have irr : ∀ a, ¬ R a a := fun a k => as a a k k
    have e : x = y := by
      rcases List.mem_cons.mp ((h x).mp (List.mem_cons_self ..)) with e | e
      · exact e
      · rcases List.mem_cons.mp ((h y).mpr (List.mem_cons_self ..)) with f | f
        · exact f.symm
        · exact absurd (hl.1 y f) (as _ _ (hm.1 x e))
    subst e
    congr 1
    refine sorted_uniq as hl.2 hm.2 fun z => ?_
    have hz := h z
    rw [List.mem_cons, List.mem_cons] at hz
    constructor
    · intro k
      rcases hz.mp (.inr k) with e | e
      · exact absurd (hl.1 z k) (by rw [e]; exact irr x)
      · exact e
    · intro k
      rcases hz.mpr (.inr k) with e | e
      · exact absurd (hm.1 z k) (by rw [e]; exact irr x)
      · exact e
abbrev Chs := List (Row × Int)
def cnt : Chs → Row → Int
  | [], _ => 0
  | p :: l, r => (if p.1 = r then p.2 else 0) + cnt l r
theorem cnt_app (l m : Chs) (r : Row) : cnt (l ++ m) r = cnt l r + cnt m r := by
  induction l with
  | nil => simp [cnt]
  | cons p l ih => rw [List.cons_append, cnt, cnt, ih]; omega
theorem cnt_no {l : Chs} {r : Row} (h : r ∉ l.map (·.1)) : cnt l r = 0 := by
  induction l with
  | nil => rfl
  | cons p l ih =>
    rw [List.map_cons, List.mem_cons, not_or] at h
    rw [cnt, ih h.2, if_neg (fun e => h.1 e.symm)]
    rfl
theorem cnt_mem {l : Chs} (hn : (l.map (·.1)).Nodup) {r : Row} {c : Int} (h : (r, c) ∈ l) : cnt l r = c := by
  induction l with
  | nil => exact absurd h List.not_mem_nil
  | cons p l ih =>
    rw [List.map_cons, List.nodup_cons] at hn
    rcases List.mem_cons.mp h with e | h
    · rw [cnt, ← e, if_pos rfl, cnt_no (by rw [← e] at hn; exact hn.1)]; omega
    · have : r ∈ l.map (·.1) := List.mem_map_of_mem (f := (·.1)) h
      rw [cnt, if_neg (fun e => hn.1 (by rw [e]; exact this)), ih hn.2 h]; omega
theorem cnt_some {l : Chs} (hn : (l.map (·.1)).Nodup) {r : Row} (h : cnt l r ≠ 0) : (r, cnt l r) ∈ l := by
  by_cases m : r ∈ l.map (·.1)
  · obtain ⟨⟨r', c⟩, hp, rfl⟩ := List.mem_map.mp m
    rw [cnt_mem hn hp]; exact hp
  · exact absurd (cnt_no m) h
def Canon (m : Chs) : Prop := m.Pairwise (fun p q => p.1.Lt q.1) ∧ ∀ p ∈ m, p.2 ≠ 0
theorem Canon.nodup {m : Chs} (h : Canon m) : (m.map (·.1)).Nodup := by
  unfold List.Nodup
  rw [List.pairwise_map]
  exact h.1.imp fun {a b} k (e : a.1 = b.1) => Row.Lt.irrefl b.1 (by rw [e] at k; exact k)
theorem Canon.mem {m : Chs} (h : Canon m) (p : Row × Int) : p ∈ m ↔ cnt m p.1 = p.2 ∧ p.2 ≠ 0 := by
  constructor
  · exact fun k => ⟨cnt_mem h.nodup k, h.2 p k⟩
  · rintro ⟨e, n⟩
    have := cnt_some h.nodup (r := p.1) (by rw [e]; exact n)
    rwa [e] at this
theorem Canon.ext {m m' : Chs} (h : Canon m) (h' : Canon m') (e : ∀ r, cnt m r = cnt m' r) : m = m' :=
  sorted_uniq (fun a b k g => Row.Lt.irrefl _ (k.trans g)) h.1 h'.1 fun p => by rw [h.mem, h'.mem, e]
theorem Canon.filter {m : Chs} (h : Canon m) (f : Row × Int → Bool) : Canon (m.filter f) := ⟨h.1.filter f, fun p hp => h.2 p (List.mem_filter.mp hp).1⟩
def IsNorm (l m : Chs) : Prop := Canon m ∧ ∀ r, cnt m r = cnt l r
theorem IsNorm.uniq {l m m' : Chs} (h : IsNorm l m) (h' : IsNorm l m') : m = m' := h.1.ext h'.1 fun r => (h.2 r).trans (h'.2 r).symm
theorem IsNorm.of {m : Chs} (h : Canon m) : IsNorm m m := ⟨h, fun _ => rfl⟩
/-! ### tables of rows -/
def keysA (as : Chs) : List Row := as.map (·.1)
def bump (as : Chs) (r : Row) (c : Int) : Chs := if r ∈ keysA as then as.map (fun p => if p.1 = r then (p.1, p.2 + c) else p) else as ++ [(r, c)]
theorem keys_map (as : Chs) (r : Row) (f : Row × Int → Int) : keysA (as.map fun p => if p.1 = r then (p.1, f p) else p) = keysA as := by
  unfold keysA
  rw [List.map_map]
  refine List.map_congr_left fun p _ => ?_
  show (if p.1 = r then (p.1, f p) else p).1 = p.1
  by_cases h : p.1 = r
  · rw [if_pos h]
  · rw [if_neg h]
theorem bump_keys (as : Chs) (r : Row) (c : Int) : keysA (bump as r c) = if r ∈ keysA as then keysA as else keysA as ++ [r] := by
  unfold bump
  split
  · exact keys_map as r _
  · unfold keysA; rw [List.map_append]; rfl
theorem bump_nodup {as : Chs} (h : (keysA as).Nodup) (r : Row) (c : Int) : (keysA (bump as r c)).Nodup := by
  rw [bump_keys]
  split
  · exact h
  · rename_i k
    rw [List.nodup_append]
    refine ⟨h, by simp, fun a ha b hb e => ?_⟩
    rw [List.mem_singleton] at hb
    exact k (by rw [← hb, ← e]; exact ha)
theorem bump_len (as : Chs) (r : Row) (c : Int) : (bump as r c).length ≤ as.length + 1 := by
  unfold bump
  split
  · rw [List.length_map]; omega
  · rw [List.length_append]; exact Nat.le_refl _
theorem cnt_bump {as : Chs} (hn : (keysA as).Nodup) (r : Row) (c : Int) (x : Row) : cnt (bump as r c) x = cnt as x + if r = x then c else 0 := by
  unfold bump
  split
  · rename_i hr
    induction as with
    | nil => exact absurd hr List.not_mem_nil
    | cons p l ih =>
      have hn' : p.1 ∉ keysA l ∧ (keysA l).Nodup := List.nodup_cons.mp hn
      rw [List.map_cons, cnt, cnt]
      by_cases e : p.1 = r
      · have nl : r ∉ keysA l := by rw [← e]; exact hn'.1
        have el : (l.map fun p => if p.1 = r then (p.1, p.2 + c) else p) = l := by
          conv => rhs; rw [← List.map_id l]
          refine List.map_congr_left fun q hq => ?_
          exact if_neg fun z => nl (by rw [← z]; exact List.mem_map_of_mem (f := (·.1)) hq)
        rw [el, if_pos e]
        show (if p.1 = x then p.2 + c else 0) + cnt l x = _
        rw [← e]
        by_cases z : p.1 = x
        · rw [if_pos z, if_pos z, if_pos z]; omega
        · rw [if_neg z, if_neg z, if_neg z]; omega
      · have hl : r ∈ keysA l := by
          rcases List.mem_cons.mp (show r ∈ p.1 :: keysA l from hr) with z | z
          · exact absurd z.symm e
          · exact z
        rw [if_neg e, ih hn'.2 hl]; omega
  · rw [cnt_app, cnt, cnt, Int.add_zero]
/-- a table of rows as the layer's dict -/
def dT (as : Chs) : List (List Key × V) := as.map fun p => (rowK p.1, .int p.2)
theorem dT_len (as : Chs) : (dT as).length = as.length := List.length_map ..
theorem dT_any (as : Chs) (r : Row) : ((dT as).any fun kv => decide (kv.1 = rowK r)) = decide (r ∈ keysA as) := by
  rw [Bool.eq_iff_iff, List.any_eq_true, decide_eq_true_iff]
  constructor
  · rintro ⟨kv, hk, e⟩
    obtain ⟨p, hp, rfl⟩ := List.mem_map.mp hk
    rw [← rowK_inj (of_decide_eq_true e)]
    exact List.mem_map_of_mem (f := (·.1)) hp
  · intro h
    obtain ⟨p, hp, rfl⟩ := List.mem_map.mp h
    exact ⟨_, List.mem_map_of_mem hp, decide_eq_true rfl⟩
theorem dT_val {as : Chs} (hn : (keysA as).Nodup) (r : Row) : valV (dT as) (rowK r) = if r ∈ keysA as then some (.int (cnt as r)) else none := by
  induction as with
  | nil => rfl
  | cons p l ih =>
    have hn' : p.1 ∉ keysA l ∧ (keysA l).Nodup := List.nodup_cons.mp hn
    have ek : keysA (p :: l) = p.1 :: keysA l := rfl
    have e0 : dT (p :: l) = (rowK p.1, .int p.2) :: dT l := rfl
    rw [e0, ek]
    by_cases e : p.1 = r
    · rw [valV_pos (p := (rowK p.1, V.int p.2)) (by rw [e]), if_pos (by rw [e]; exact List.mem_cons_self ..), cnt, if_pos e, cnt_no (by rw [← e]; exact hn'.1), Int.add_zero]
    · rw [valV_neg (p := (rowK p.1, V.int p.2)) (fun z => e (rowK_inj z)), ih hn'.2]
      by_cases h : r ∈ keysA l
      · rw [if_pos h, if_pos (List.mem_cons_of_mem _ h), cnt, if_neg e, Int.zero_add]
      · rw [if_neg h, if_neg (fun z => by
          rcases List.mem_cons.mp z with z | z
          · exact e z.symm
          · exact h z)]
theorem dT_getD {as : Chs} (hn : (keysA as).Nodup) (r : Row) : (valV (dT as) (rowK r)).getD (.int 0) = .int (cnt as r) := by
  rw [dT_val hn]
  split
  · rfl
  · rename_i h
    rw [cnt_no h]; rfl
theorem dT_put {as : Chs} (hn : (keysA as).Nodup) (r : Row) (c : Int) : putK (dT as) (rowK r) (.int (cnt as r + c)) = dT (bump as r c) := by
  unfold putK bump
  rw [dT_any]
  by_cases h : r ∈ keysA as
  · rw [if_pos (decide_eq_true h), if_pos h]
    unfold dT
    rw [List.map_map, List.map_map]
    refine List.map_congr_left fun p hp => ?_
    show (if rowK p.1 = rowK r then (rowK p.1, V.int (cnt as r + c)) else (rowK p.1, V.int p.2)) = (rowK (if p.1 = r then (p.1, p.2 + c) else p).1, V.int (if p.1 = r then (p.1, p.2 + c) else p).2)
    by_cases e : p.1 = r
    · rw [if_pos (by rw [e]), if_pos e, ← e, cnt_mem hn hp]
    · rw [if_neg (fun z => e (rowK_inj z)), if_neg e]
  · rw [if_neg (fun z => h (of_decide_eq_true z)), if_neg h, cnt_no h, Int.zero_add]
    unfold dT
    rw [List.map_append]
    rfl
/-- the rows of the table, in order, those that do not add up to 0 -/
def takeC (as : Chs) (rs : List Row) : Chs := (rs.filter fun r => decide (cnt as r ≠ 0)).map fun r => (r, cnt as r)
theorem takeC_snoc (as : Chs) (rs : List Row) (r : Row) : takeC as (rs ++ [r]) = takeC as rs ++ (if cnt as r ≠ 0 then [(r, cnt as r)] else []) := by
  unfold takeC
  rw [List.filter_append, List.map_append]
  by_cases h : cnt as r ≠ 0
  · rw [if_pos h, List.filter_cons, if_pos (decide_eq_true h)]; rfl
  · rw [if_neg h, List.filter_cons, if_neg (fun z => h (of_decide_eq_true z))]; rfl
theorem takeC_len (as : Chs) (rs : List Row) : (takeC as rs).length ≤ rs.length := by
  unfold takeC
  rw [List.length_map]
  exact List.length_filter_le _ _
theorem take_norm {as : Chs} {rs : List Row} (hn : (keysA as).Nodup) (hp : rs.Perm (keysA as)) (hs : rs.Pairwise Row.Lt) : IsNorm as (takeC as rs) := by
  have hc : Canon (takeC as rs) := by
    constructor
    · unfold takeC
      rw [List.pairwise_map]
      exact (hs.filter _).imp fun h => h
    · intro p hp
      obtain ⟨r, hr, rfl⟩ := List.mem_map.mp hp
      exact of_decide_eq_true (List.mem_filter.mp hr).2
  refine ⟨hc, fun r => ?_⟩
  by_cases h : cnt as r = 0
  · by_cases e : cnt (takeC as rs) r = 0
    · rw [e, h]
    · obtain ⟨x, hx, ex⟩ := List.mem_map.mp (cnt_some hc.nodup e)
      have e1 : x = r := (Prod.mk.inj ex).1
      have := of_decide_eq_true (List.mem_filter.mp hx).2
      exact absurd h (by rw [← e1]; exact this)
  · refine cnt_mem hc.nodup ?_
    refine List.mem_map.mpr ⟨r, List.mem_filter.mpr ⟨hp.mem_iff.mpr ?_, decide_eq_true h⟩, rfl⟩
    exact List.mem_map_of_mem (f := (·.1)) (cnt_some hn h)
/-! ### bags and changes in the heap -/
def PrAt (H : Hp) (x : V) (p : Row × Int) : Prop := ∃ a q, x = .ref a ∧ H a = some (.tup [.ref q, .int p.2]) ∧ H q = some (.tup (rowV p.1))
def BagAt (H : Hp) (xs : List V) (l : Chs) : Prop := xs.length = l.length ∧ ∀ (i : Nat) (x : V) (p : Row × Int), xs[i]? = some x → l[i]? = some p → PrAt H x p
theorem PrAt.mono {H H' : Hp} (k : TupUp H H') {x : V} {p : Row × Int} (h : PrAt H x p) : PrAt H' x p := by
  obtain ⟨a, q, e, h1, h2⟩ := h
  exact ⟨a, q, e, k _ _ h1, k _ _ h2⟩
theorem BagAt.mono {H H' : Hp} (k : TupUp H H') {xs : List V} {l : Chs} (h : BagAt H xs l) : BagAt H' xs l := ⟨h.1, fun i x p a b => (h.2 i x p a b).mono k⟩
theorem BagAt.nil {H : Hp} : BagAt H [] [] := ⟨rfl, fun i x p a => by simp at a⟩
theorem BagAt.get {H : Hp} {xs : List V} {l : Chs} (h : BagAt H xs l) {i : Nat} {x : V} (e : xs[i]? = some x) : ∃ p, l[i]? = some p ∧ PrAt H x p := by
  have hi := (List.getElem?_eq_some_iff.mp e).1
  have hl : i < l.length := by rw [← h.1]; exact hi
  exact ⟨l[i], List.getElem?_eq_getElem hl, h.2 i x _ e (List.getElem?_eq_getElem hl)⟩
theorem BagAt.snoc {H : Hp} {xs : List V} {l : Chs} {x : V} {p : Row × Int} (h : BagAt H xs l) (k : PrAt H x p) : BagAt H (xs ++ [x]) (l ++ [p]) := by
  refine ⟨by rw [List.length_append, List.length_append, h.1]; rfl, fun i y q hy hq => ?_⟩
  rcases Nat.lt_or_ge i xs.length with lt | ge
  · rw [List.getElem?_append_left lt] at hy
    rw [List.getElem?_append_left (by rw [← h.1]; exact lt)] at hq
    exact h.2 i y q hy hq
  · rw [List.getElem?_append_right ge] at hy
    rw [List.getElem?_append_right (by rw [← h.1]; exact ge), ← h.1] at hq
    cases hi : i - xs.length with
    | zero =>
      rw [hi] at hy hq
      have e1 : x = y := Option.some.inj hy
      have e2 : p = q := Option.some.inj hq
      rw [← e1, ← e2]; exact k
    | succ n => rw [hi] at hy; simp at hy
theorem BagAt.app {H : Hp} {xs ys : List V} {l m : Chs} (h : BagAt H xs l) (k : BagAt H ys m) : BagAt H (xs ++ ys) (l ++ m) := by
  refine ⟨by rw [List.length_append, List.length_append, h.1, k.1], fun i y q hy hq => ?_⟩
  rcases Nat.lt_or_ge i xs.length with lt | ge
  · rw [List.getElem?_append_left lt] at hy
    rw [List.getElem?_append_left (by rw [← h.1]; exact lt)] at hq
    exact h.2 i y q hy hq
  · rw [List.getElem?_append_right ge] at hy
    rw [List.getElem?_append_right (by rw [← h.1]; exact ge), ← h.1] at hq
    exact k.2 _ y q hy hq
/-- two bags of the same rows are the same data -/
theorem row_eq {H : Hp} {p q : Addr} {r : Row} (hp : H p = some (.tup (rowV r))) (hq : H q = some (.tup (rowV r))) : Eq2 H 1 (.ref p) (.ref q) := by
  refine .inr ⟨true, p, q, _, _, rfl, rfl, hp, hq, rfl, (by show 3 ≤ 1000; decide), fun i u w hu hw => ?_⟩
  rw [hu] at hw
  obtain rfl := Option.some.inj hw
  have hm := List.mem_of_getElem? hu
  simp only [rowV, List.mem_cons, List.not_mem_nil, or_false] at hm
  rcases hm with rfl | rfl | rfl
  · exact .inl ⟨_, rfl, rfl⟩
  · exact .inr (.inl ⟨_, rfl, rfl⟩)
  · exact .inl ⟨_, rfl, rfl⟩
theorem pr_eq {H : Hp} {x y : V} {p : Row × Int} (hx : PrAt H x p) (hy : PrAt H y p) : Eq2 H 2 x y := by
  obtain ⟨a, q, rfl, h1, h2⟩ := hx
  obtain ⟨b, s, rfl, h3, h4⟩ := hy
  refine .inr ⟨true, a, b, _, _, rfl, rfl, h1, h3, rfl, (by show 2 ≤ 1000; decide), fun i u w hu hw => ?_⟩
  match i with
  | 0 =>
    obtain rfl : V.ref q = u := Option.some.inj hu
    obtain rfl : V.ref s = w := Option.some.inj hw
    exact row_eq h2 h4
  | 1 =>
    obtain rfl : V.int p.2 = u := Option.some.inj hu
    obtain rfl : V.int p.2 = w := Option.some.inj hw
    exact Eq2.base (.inl ⟨_, rfl, rfl⟩)
  | n + 2 => simp at hu
theorem bag_eq {H : Hp} {a b : Addr} {xs ys : List V} {l : Chs} (ha : H a = some (.lst xs)) (hb : H b = some (.lst ys)) (hx : BagAt H xs l) (hy : BagAt H ys l) (hl : l.length ≤ 1000) : Eq2 H 3 (.ref a) (.ref b) := by
  refine .inr ⟨false, a, b, _, _, rfl, rfl, ha, hb, by rw [hx.1, hy.1], by rw [hy.1]; exact hl, fun i u w hu hw => ?_⟩
  obtain ⟨p, hp, h1⟩ := hx.get hu
  exact pr_eq h1 (hy.2 i w p hw hp)
end Tf
set_option maxHeartbeats 4000000
namespace Tf
open PySem PySem.Spec PyProof.Rows L2 TL
/-! ### sorted(d), d a table of rows -/
def encR (r : Row) : PyData := .tuple [.int r.t, .str r.k, .int r.v]
theorem encR_alike (r s : Row) : PySem.W.alike (encR r) (encR s) = true := by simp [encR, PySem.W.alike, PySem.W.alikeAll]
theorem encR_depth (r : Row) : (encR r).depth = 1 := by simp [encR, PyData.depth, PyData.depthAll]
theorem lt_nil : PyProof.Rows.lexLt itemOrd (PySem.W.keyToksAll []) (PySem.W.keyToksAll []) = false := lex_irrefl _
theorem encR_lt (r s : Row) : PySem.W.dataLt (encR r) (encR s) = decide (r.Lt s) := by
  unfold encR
  rw [PySem.W.dataLt_tuple, PySem.W.dataLt_cons (by simp [PySem.W.alike]), PySem.W.dataLt_cons (by simp [PySem.W.alike]), PySem.W.dataLt_cons (by simp [PySem.W.alike]), lt_nil, PySem.W.dataLt_int, PySem.W.dataLt_int, PySem.W.dataLt_str]
  simp only [PyData.eqv, beq_iff_eq]
  unfold Row.Lt
  by_cases h1 : r.t = s.t
  · rw [if_pos h1]
    by_cases h2 : r.k = s.k
    · rw [if_pos h2]
      have n1 : ¬ r.k.cps.toList < s.k.cps.toList := by rw [h2]; exact List.lt_irrefl _
      by_cases h3 : r.v = s.v
      · rw [if_pos h3]; simp [h1, h2, h3, n1]
      · rw [if_neg h3]
        refine decide_eq_decide.mpr ⟨fun g => .inr ⟨h1, .inr ⟨h2, g⟩⟩, ?_⟩
        rintro (g | ⟨_, g | ⟨_, g⟩⟩)
        · omega
        · exact absurd g n1
        · exact g
    · rw [if_neg h2]; simp [h1, h2]
  · rw [if_neg h1]; simp [h1]
theorem mergeR {rs : List Row} (hn : rs.Nodup) : (rs.mergeSort (PySem.W.dataLe false encR)).Perm rs ∧ (rs.mergeSort (PySem.W.dataLe false encR)).Pairwise Row.Lt := by
  have hp := List.mergeSort_perm rs (PySem.W.dataLe false encR)
  refine ⟨hp, ?_⟩
  have ht : PySem.W.TotalLe (PySem.W.dataLe false encR) := PySem.W.sortLe_total _ _ _
  have hs := PySem.W.sort_pairwise ht rs
  have hd : (rs.mergeSort (PySem.W.dataLe false encR)).Nodup := hp.nodup_iff.mpr hn
  refine (hs.and hd).imp fun {a b} h => ?_
  obtain ⟨h1, h2⟩ := h
  have e : PySem.W.dataLe false encR a b = !PySem.W.dataLt (encR b) (encR a) := rfl
  rw [e, encR_lt] at h1
  have h3 : ¬ b.Lt a := by simpa using h1
  rcases Row.Lt.tri a b with k | k | k
  · exact k
  · exact absurd k h2
  · exact absurd k h3
def RowsAt (H : Hp) (qs : List V) (rs : List Row) : Prop := qs.length = rs.length ∧ ∀ (i : Nat) (x : V) (r : Row), qs[i]? = some x → rs[i]? = some r → ∃ a, x = .ref a ∧ H a = some (.tup (rowV r))
def rSortD : List V → Hp → VK → Prop := fun vs H Q => ∃ (d : Addr) (as : Chs), vs = [.ref d] ∧ H d = some (.dT (dT as)) ∧ (keysA as).Nodup ∧
  ∀ (rs : List Row) (qs : List V) (p : Addr), rs.Perm (keysA as) → rs.Pairwise Row.Lt → RowsAt H qs rs → H p = none → Q (.ref p) (upd H p (.lst qs))
section
variable {X : Cx}
theorem reads_row {pins : List (Addr × Obj)} {σ : L2.St} {H : Hp} {s : Shared} (I : Inv X pins σ H s) {a : Addr} {r : Row} (h : H a = some (.tup (rowV r))) : Reads s.heap (.ref a) (encR r) [] := by
  obtain ⟨z, its, rv, o, ho, hc, n, hd⟩ := (show ObjOk X.prog X.w H s.heap a (.tup (rowV r)) from I.hok a _ h)
  cases rv with
  | cons h1 t1 =>
    cases t1 with
    | cons h2 t2 =>
      cases t2 with
      | cons h3 t3 =>
        cases t3
        obtain ⟨k1, rfl⟩ := (show ∃ t, _ = Value.int r.t t from h1)
        obtain ⟨k2, rfl⟩ := (show ∃ t, _ = Value.str r.k t from h2)
        obtain ⟨k3, rfl⟩ := (show ∃ t, _ = Value.int r.v t from h3)
        exact .tuple ho hc hd (.cons (as := []) (.int _ _) (.cons (as := []) (.str _ _) (.cons (as := []) (.int _ _) .nil)))
theorem each_of {α β : Type} {R : α → β → Prop} : ∀ {as : List α} {bs : List β}, as.length = bs.length → (∀ (i : Nat) (a : α) (b : β), as[i]? = some a → bs[i]? = some b → R a b) → PySem.W.EachIs R as bs
  | [], [], _, _ => .nil
  | a :: as, b :: bs, hl, h => .cons (h 0 a b rfl rfl) (each_of (by simpa using hl) fun i x y e f => h (i + 1) x y (by simpa using e) (by simpa using f))
  | [], _ :: _, hl, _ => by simp at hl
  | _ :: _, [], hl, _ => by simp at hl
theorem each_to {α β : Type} {R : α → β → Prop} {as : List α} {bs : List β} (h : PySem.W.EachIs R as bs) : ∀ (i : Nat) (a : α) (b : β), as[i]? = some a → bs[i]? = some b → R a b := by
  induction h with
  | nil => intro i a b e; simp at e
  | cons r t ih =>
    intro i a b e f
    cases i with
    | zero => rw [← Option.some.inj e, ← Option.some.inj f]; exact r
    | succ i => exact ih i a b (by simpa using e) (by simpa using f)
theorem refs_of {H : Hp} {out : List Value} {rs : List Row} (h : PySem.W.EachIs (fun (v : Value) (r : Row) => ∃ a, v = .ref a ∧ H a = some (.tup (rowV r))) out rs) : ∃ bs : List Addr, out = bs.map Value.ref ∧ RowsAt H (bs.map V.ref) rs := by
  induction h with
  | nil => exact ⟨[], rfl, rfl, fun i x r e => by simp at e⟩
  | cons r t ih =>
    obtain ⟨a, rfl, ha⟩ := r
    obtain ⟨bs, rfl, hl, hb⟩ := ih
    refine ⟨a :: bs, rfl, by rw [List.map_cons, List.length_cons, List.length_cons, hl], fun i x r e f => ?_⟩
    cases i with
    | zero =>
      have e1 : V.ref a = x := Option.some.inj e
      rw [← Option.some.inj f]
      exact ⟨a, e1.symm, ha⟩
    | succ i => exact hb i x r (by simpa using e) (by simpa using f)
theorem cr_sortD (hc : X.calm = true) (hu : X.A.units + 64 < cLine) : CallR X (.builtin "sorted") rSortD := by
  intro pins s σ H vs us Q I r h
  obtain ⟨d, as, rfl, hd, hn, q⟩ := h
  obtain ⟨u, rfl, rx⟩ := r.one
  cases rx
  obtain ⟨z, hs, ks, pr, o, es, ep, ho, hx, hdt, he, hnd⟩ := (show ObjOk X.prog X.w H s.heap d (.dT (dT as)) from I.hok d _ hd)
  have l1 : es.size = ks.length := size_of_entries he
  have l2 : (dT as).length = ks.length := Paired.length pr
  have l3 : (keysA as).length = ks.length := by rw [← l2, dT_len]; exact List.length_map ..
  have key : ∀ (i : Nat) (x : List Key × Addr × Value) (r : Row), ks[i]? = some x → (keysA as)[i]? = some r → H x.2.1 = some (.tup (rowV r)) := by
    have gen : ∀ {l : Chs} {ks : List (List Key × Addr × Value)}, KT H (dT l) ks → ∀ (i : Nat) (x : List Key × Addr × Value) (r : Row), ks[i]? = some x → (keysA l)[i]? = some r → H x.2.1 = some (.tup (rowV r)) := by
      intro l
      induction l with
      | nil => intro ks k i x r e f; simp [keysA] at f
      | cons p l ih =>
        intro ks k i x r e f
        have k' : KT H ((rowK p.1, V.int p.2) :: dT l) ks := k
        cases k' with
        | cons hh tt =>
          cases i with
          | zero =>
            have e1 := Option.some.inj e
            have f1 : p.1 = r := Option.some.inj f
            rw [← e1, ← f1]
            exact hh.2.1
          | succ i => exact ih tt i x r (by simpa using e) (by simpa [keysA] using f)
    exact gen pr
  refine Calls.call_function_entry kind_sorted plain_sorted entry_sorted (args_sorted1 _) ?_
  unfold Builtin.«sorted»
  refine wpAny_bind (m := checkCount "sorted" 1 1 _) (wpAny_pure ?_)
  refine wpAny_bind (PySem.W.kdu_collect (A := X.A.in1) (kdl_raw hs hx hdt) (I.ok.hd hc) ho (by omega) fun h' tk acc hk it => ?_)
  have ea : acc.toList = ks.map fun x => Value.ref x.2.1 := by
    have hl : acc.toList.length = ks.length := by rw [Array.length_toList, it.1]; exact l1
    apply List.ext_getElem?
    intro j
    rw [List.getElem?_map]
    cases hj : acc.toList[j]? with
    | none =>
      have h1 := List.getElem?_eq_none_iff.mp hj
      rw [List.getElem?_eq_none (by omega)]
      all_goals rfl
    | some v =>
      obtain ⟨en, hen, hv⟩ := it.2 j v (by rw [← Array.getElem?_toList]; exact hj)
      have qe := entry_at he j
      rw [hen] at qe
      cases hb : ks[j]? with
      | none =>
        rw [hb] at qe
        exact nomatch (show some en = none from qe)
      | some b =>
        rw [hb] at qe
        have e2 : en = entryOfKey (tupleKind (mixKind X.prog X.w)) b := Option.some.inj qe
        rw [hv, e2]
        all_goals rfl
  have hal : acc.toList.length = (keysA as).length := by rw [ea, List.length_map, l3]
  have I1 : Inv X pins σ H { s with heap := h', toks := tk } := I.kept hk
  have hL : (keysA as).length ≤ sizeLine := by rw [l3, ← l2]; exact z
  refine wpAny_bind (wpAny_newList ?_ (by rw [hal]; exact hL))
  have hoL : (h'.push (seqObj "list" acc.toList.toArray 0)).get? h'.objs.size = some (seqObj "list" acc.toList.toArray 0) := Heap.get?_push_size _ rfl
  show wpAny _ _ _ _ _ { s with heap := h'.push (seqObj "list" acc.toList.toArray 0), toks := tk }
  have eR : PySem.W.EachIs (fun (v : Value) (r : Row) => ∃ a, v = .ref a ∧ H a = some (.tup (rowV r))) acc.toList (keysA as) := each_of hal fun i a b e f => by
    rw [ea, List.getElem?_map] at e
    cases hk : ks[i]? with
    | none => rw [hk] at e; cases e
    | some x =>
      rw [hk] at e
      exact ⟨_, (Option.some.inj e).symm, key i x b hk f⟩
  have I2 : Inv X pins σ H { s with heap := h'.push (seqObj "list" acc.toList.toArray 0), toks := tk } := I1.kept (t' := tk) fun b ob e => Heap.get?_push_of_some _ e
  refine wpAny_bind (wpAny_holding (PySem.W.list_sort_data (s := { s with heap := h'.push (seqObj "list" acc.toList.toArray 0), toks := tk }) (a := h'.objs.size) (enc := encR) hoL eR (eR.mono fun v r hv => ?_) (PySem.W.AllAlike.of encR_alike) (PySem.W.Sortable.tuples fun r => ⟨_, _, rfl⟩) hL (fun r _ => ?_) fun out ho eo => ?_))
  · obtain ⟨a, rfl, ha⟩ := hv
    exact ⟨[], reads_row I2 ha, List.not_mem_nil⟩
  · rw [encR_depth]
    show X.A.units + 1 + 1 + 1 < cLine
    omega
  · obtain ⟨hp, hs⟩ := mergeR (rs := keysA as) hn
    obtain ⟨c, hc'⟩ := sortedHeap_at (vs := acc.toList) (out := out.toArray) hoL
    obtain ⟨bs, eb, hb⟩ := refs_of eo
    have hz : (bs.map V.ref).length ≤ sizeLine := by
      have z1 : out.length = bs.length := by rw [eb, List.length_map]
      rw [List.length_map, ← z1, ho]; exact hL
    refine wpAny_pure ⟨_, rfl, .ref h'.objs.size, upd H h'.objs.size (.lst (bs.map V.ref)), I1.laid (t' := tk) (fun b u e => ?_) (Nat.le_refl _)
      (show ObjOk X.prog X.w _ _ _ (.lst (bs.map V.ref)) from ⟨hz, out, c, by rw [eb]; exact vals_refs bs, hc'⟩), rfl, q _ _ _ hp hs hb (I1.hok.fresh (Nat.le_refl _))⟩
    have lt : b < h'.objs.size := Heap.lt_size e
    rw [sortedHeap_old (Nat.ne_of_lt lt) (by rw [size_push']; exact Nat.lt_succ_of_lt lt)]
    exact Heap.get?_push_of_some _ e
end
end Tf
set_option maxHeartbeats 4000000
namespace Tf
open PySem PySem.Spec PyProof.Rows L2 TL
/-! ### dict(bag) -/
theorem BagAt.uncons {H : Hp} {x : V} {xs : List V} {p : Row × Int} {l : Chs} (h : BagAt H (x :: xs) (p :: l)) : PrAt H x p ∧ BagAt H xs l :=
  ⟨h.2 0 x p rfl rfl, by simpa using h.1, fun i y q hy hq => h.2 (i + 1) y q (by simpa using hy) (by simpa using hq)⟩
theorem storedAllH_new {α : Type} [DecidableEq α] : ∀ (xs acc : List (α × Addr × Value)), ((acc ++ xs).map (·.1)).Nodup → storedAllH acc xs = acc ++ xs
  | [], acc, _ => by show acc = acc ++ []; rw [List.append_nil]
  | x :: xs, acc, h => by
    show storedAllH (storedH acc x.1 x.2.1 x.2.2) xs = _
    have hk : atKey acc x.1 = none := by
      unfold atKey
      rw [List.find?_eq_none.mpr fun y hy => ?_]
      · rfl
      · intro e
        have e' := of_decide_eq_true e
        rw [List.map_append, List.nodup_append] at h
        exact h.2.2 y.1 (List.mem_map_of_mem hy) x.1 (by simp) e'
    rw [storedH_new hk, storedAllH_new xs _ (by rw [List.append_assoc]; exact h), List.append_assoc]
    rfl
def rDictB (K : PySem.W.Frag) : List V → Hp → VK → Prop := fun vs H Q => ∃ (a : Addr) (xs : List V) (l : Chs), vs = [.ref a] ∧ SqL K H a xs ∧ BagAt H xs l ∧ (keysA l).Nodup ∧ ∀ p, H p = none → Q (.ref p) (upd H p (.dT (dT l)))
section
variable {X : Cx}
theorem prs_of {pins : List (Addr × Obj)} {σ : L2.St} {H : Hp} {s : Shared} (I : Inv X pins σ H s) : ∀ {xs : List V} {l : Chs}, BagAt H xs l →
    ∃ zs : List (Addr × (List Key × Addr × Value)), xs = zs.map (fun z => V.ref z.1) ∧ KT H (dT l) (zs.map (·.2)) ∧ zs.length = l.length ∧ ∀ z ∈ zs, PairAt s.heap z.1 (.ref z.2.2.1) z.2.2.2
  | [], [], _ => ⟨[], rfl, .nil, rfl, fun z hz => absurd hz List.not_mem_nil⟩
  | x :: xs, [], h => by have := h.1; simp at this
  | [], p :: l, h => by have := h.1; simp at this
  | x :: xs, p :: l, h => by
    obtain ⟨hp, hb⟩ := h.uncons
    obtain ⟨zs, e1, e2, e3, e4⟩ := prs_of I hb
    obtain ⟨a, q, rfl, h1, h2⟩ := hp
    obtain ⟨_, its, rv, pl⟩ := (show ObjOk X.prog X.w H s.heap a (.tup [.ref q, .int p.2]) from I.hok a _ h1)
    cases rv with
    | cons g1 t1 =>
      cases t1 with
      | cons g2 t2 =>
        cases t2
        cases g1
        rename_i v
        refine ⟨(a, rowK p.1, q, v) :: zs, by rw [e1]; rfl, .cons ⟨rfl, h2, g2⟩ e2, by rw [List.length_cons, List.length_cons, e3], fun z hz => ?_⟩
        rcases List.mem_cons.mp hz with e | hz
        · rw [e]; exact .inl pl
        · exact e4 z hz
theorem cr_dictB (hc : X.calm = true) (hu : X.A.units + 64 < cLine) : CallR X (.type "dict") (rDictB X.K) := by
  intro pins s σ H vs us Q I r h
  obtain ⟨a, xs, l, rfl, hS, hB, hn, q⟩ := h
  obtain ⟨u, rfl, rx⟩ := r.one
  cases rx
  obtain ⟨its, rv, pl, hz⟩ := I.list hS
  obtain ⟨zs, e1, e2, e3, e4⟩ := prs_of I hB
  have ei : its = (zs.map (·.1)).map Value.ref := refs_at (ps := zs.map (·.1)) (by rw [e1] at rv; rw [List.map_map]; exact rv)
  obtain ⟨o, n, ho, hcl, hd, hdat⟩ := pl
  have hlen : zs.length ≤ sizeLine := by rw [e1, List.length_map] at hz; exact hz
  have hkeys : (zs.map (·.2)).map (·.1) = (dT l).map (·.1) := by
    have gen : ∀ {kvs : List (List Key × V)} {ks : List (List Key × Addr × Value)}, KT H kvs ks → ks.map (·.1) = kvs.map (·.1) := fun k => by
      induction k with
      | nil => rfl
      | cons h t ih => rw [List.map_cons, List.map_cons, ih, h.1]
    exact gen e2
  have hnd : ((([] : List (List Key × Addr × Value)) ++ zs.map (·.2)).map (·.1)).Nodup := by
    rw [List.nil_append, hkeys]
    unfold dT
    rw [List.map_map]
    have : ((fun x => x.1) ∘ fun p : Row × Int => (rowK p.1, V.int p.2)) = fun p : Row × Int => rowK p.1 := rfl
    rw [this]
    unfold List.Nodup at hn ⊢
    unfold keysA at hn
    rw [List.pairwise_map] at hn ⊢
    exact hn.imp fun {a b} h e => h (rowK_inj e)
  let Ts : Nat → Addr := fun j => (zs.map (·.1)).getD j 0
  let ps : List (Value × Value) := zs.map fun z => (Value.ref z.2.2.1, z.2.2.2)
  have hps : ps.length = zs.length := List.length_map ..
  have hItems : PairItems s.heap its.toArray Ts ps := by
    refine ⟨by rw [List.size_toArray, ei, List.length_map, List.length_map, hps], fun j k v hj => ?_⟩
    have hj' : (zs.map fun z => (Value.ref z.2.2.1, z.2.2.2))[j]? = some (k, v) := hj
    rw [List.getElem?_map] at hj'
    cases hzj : zs[j]? with
    | none => rw [hzj] at hj'; cases hj'
    | some z =>
      rw [hzj] at hj'
      obtain ⟨rfl, rfl⟩ := Prod.mk.inj (Option.some.inj hj')
      have et : Ts j = z.1 := by
        show (zs.map (·.1)).getD j 0 = z.1
        rw [List.getD_eq_getElem?_getD, List.getElem?_map, hzj]; rfl
      rw [et]
      refine ⟨?_, e4 z (List.mem_of_getElem? hzj)⟩
      rw [ei]
      simp [hzj]
  refine call_dict_pairsH (knd := tupleKind (mixKind X.prog X.w)) (ps := zs.map (·.2)) (PairArg.list a its.toArray Ts ps) (I.ok.hd hc) (by show X.A.units + 1 + 1 < cLine; omega) ⟨⟨o, n, ho, hcl, hd, hdat⟩, hItems⟩ ⟨by rw [List.length_map, hps], fun i key v hi => ?_⟩ (fun h' hk x hx => ?_) (by rw [hps]; exact hlen) fun h' tk hd' hk => ?_
  · have hi' : (zs.map fun z => (Value.ref z.2.2.1, z.2.2.2))[i]? = some (key, v) := hi
    rw [List.getElem?_map] at hi'
    cases hzj : zs[i]? with
    | none => rw [hzj] at hi'; cases hi'
    | some z =>
      rw [hzj] at hi'
      obtain ⟨rfl, rfl⟩ := Prod.mk.inj (Option.some.inj hi')
      exact ⟨z.2.1, z.2.2.1, by rw [List.getElem?_map, hzj]; rfl, rfl⟩
  · have I' : Inv X pins σ H { s with heap := h' } := I.kept (t' := s.toks) fun b ob e => hk b ob (Nat.ne_of_lt (Heap.lt_size e)) List.not_mem_nil e
    have gen : ∀ {kvs : List (List Key × V)} {ks : List (List Key × Addr × Value)}, KT H kvs ks → ∀ x ∈ ks, H x.2.1 = some (.tup (x.1.map kV)) := fun k => by
      induction k with
      | nil => exact fun x hx => absurd hx List.not_mem_nil
      | cons h t ih =>
        intro x hx
        rcases List.mem_cons.mp hx with e | hx
        · rw [e, ← h.1]; exact h.2.1
        · exact ih x hx
    exact key_of I'.hok (gen e2 x hx)
  · rw [storedAllH_new _ _ hnd, List.nil_append] at hd'
    obtain ⟨o', es, ep, g1, g2, g3, g4, g5, g6⟩ := hd'
    have hm : (s.heap.objs.size == sysModules) = false := beq_eq_false_iff_ne.mpr (Nat.ne_of_gt I.big)
    have hf : H s.heap.objs.size = none := I.hok.fresh (Nat.le_refl _)
    refine ⟨.ref s.heap.objs.size, upd H s.heap.objs.size (.dT (dT l)), I.laid (t' := tk) (fun b ob e => hk b ob List.not_mem_nil e) (Nat.le_refl _) ?_, rfl, q _ hf⟩
    refine ⟨by rw [dT_len, ← e3]; exact hlen, hm, zs.map (·.2), KT.keeps e2 fun b ys hb => by rw [upd_ne (ne_of_none hb hf)]; exact hb, o', es, ep, g1, g2, g3, g4, ?_⟩
    rw [List.nil_append] at hnd
    exact hnd
end
end Tf
set_option maxHeartbeats 4000000
namespace Tf
open PySem PySem.Spec PyProof.Rows L2 TL
theorem same_mu {H H1 : Hp} {p : Addr} {o : HO} (k : Same H H1) (n : H p = none) : Same H (upd H1 p o) := fun b u e => by
  rw [upd_ne (ne_of_none e n)]
  exact k b u e
theorem Same.none {H H' : Hp} (k : Same H H') {p : Addr} (h : H' p = none) : H p = none := by
  cases e : H p with
  | none => rfl
  | some o => rw [k p o e] at h; cases h
theorem dgr {H : Hp} {d q : Addr} {as : Chs} {r : Row} (hd : H d = some (.dT (dT as))) (hn : (keysA as).Nodup) (hq : H q = some (.tup (rowV r))) (hr : r ∈ keysA as) : DGet H d (.ref q) (some (.int (cnt as r))) := by
  have e : valV (dT as) (rowK r) = some (.int (cnt as r)) := by rw [dT_val hn, if_pos hr]
  rw [← e]
  exact DGet.t (k := rowK r) hd hq
theorem size_le {n : Nat} (h : n ≤ 100001) : n < sizeLine := by rw [sizeLine_eq]; omega
theorem ne0 (x : Int) : (!decide (V.int x = V.int 0)) = decide (x ≠ 0) := by
  rw [Bool.eq_iff_iff]
  simp
/-! ### bags: what the laws draw and add -/
/-- changes_of -/
def spNorm (K : PySem.W.Frag) : Sp := fun vs H Q _ => ∃ (a : Addr) (xs : List V) (l : Chs), vs = [.ref a] ∧ SqL K H a xs ∧ BagAt H xs l ∧ l.length ≤ 100000 ∧
  ∀ (p : Addr) (ys : List V) (m : Chs) (H' : Hp), Same H H' → H p = none → H' p = some (.lst ys) → BagAt H' ys m → IsNorm l m → m.length ≤ l.length → Q (.ref p) H'
def spAdd : Sp := fun vs H Q _ => ∃ (d q : Addr) (c : Int) (as : Chs) (r : Row), vs = [.ref d, .ref q, .int c] ∧ H d = some (.dT (dT as)) ∧ (keysA as).Nodup ∧ H q = some (.tup (rowV r)) ∧ as.length ≤ 100000 ∧ Q .non (upd H d (.dT (dT (bump as r c))))
def spBagOf : Sp := fun vs H Q _ => ∃ (d : Addr) (as : Chs), vs = [.ref d] ∧ H d = some (.dT (dT as)) ∧ (keysA as).Nodup ∧ as.length ≤ 100000 ∧
  ∀ (p : Addr) (ys : List V) (m : Chs) (H' : Hp), Same H H' → H p = none → H' p = some (.lst ys) → BagAt H' ys m → IsNorm as m → m.length ≤ as.length → Q (.ref p) H'
def rkeyS : List Str := ["a", "b", "ab"]
/-- a drawn row -/
def RowIn (first span : Int) (r : Row) : Prop := first ≤ r.t ∧ r.t < first + span ∧ r.k ∈ rkeyS ∧ -4 ≤ r.v ∧ r.v ≤ 4
def spRow : Sp := fun vs H Q _ => ∃ (d sc : Addr) (first span : Int), vs = [.ref d, .int first, .int span] ∧ Dr sc H d ∧ 1 ≤ span ∧ span < 1073741824 ∧
  ∀ (t : Addr) (r : Row) (H' : Hp), H t = none → H' t = some (.tup (rowV r)) → RowIn first span r → Dr sc H' d → Up d H H' → Q (.ref t) H'
def spBag : Sp := fun vs H Q _ => ∃ (d sc : Addr) (many first span : Int), vs = [.ref d, .int many, .int first, .int span] ∧ Dr sc H d ∧ 1 ≤ span ∧ span < 1073741824 ∧ 0 ≤ many ∧ many ≤ 1000 ∧
  ∀ (p : Addr) (ys : List V) (m : Chs) (H' : Hp), H p = none → H' p = some (.lst ys) → BagAt H' ys m → Canon m → (∀ q ∈ m, RowIn first span q.1 ∧ 1 ≤ q.2 ∧ q.2 ≤ 3 * many) → (m.length : Int) ≤ many → Dr sc H' d → Up d H H' → Q (.ref p) H'
def spSum (K : PySem.W.Frag) : Sp := fun vs H Q _ => ∃ (a b : Addr) (xs ys : List V) (l m : Chs), vs = [.ref a, .ref b] ∧ SqL K H a xs ∧ SqL K H b ys ∧ BagAt H xs l ∧ BagAt H ys m ∧ (keysA l).Nodup ∧ l.length + m.length ≤ 100000 ∧
  ∀ (p : Addr) (zs : List V) (n : Chs) (H' : Hp), Same H H' → H p = none → H' p = some (.lst zs) → BagAt H' zs n → IsNorm (l ++ m) n → n.length ≤ l.length + m.length → Q (.ref p) H'
def neg (m : Chs) : Chs := m.map fun p => (p.1, -p.2)
theorem cnt_neg (m : Chs) (r : Row) : cnt (neg m) r = - cnt m r := by
  induction m with
  | nil => rfl
  | cons p m ih =>
    show (if p.1 = r then -p.2 else 0) + cnt (neg m) r = - ((if p.1 = r then p.2 else 0) + cnt m r)
    rw [ih]
    split <;> omega
theorem neg_len (m : Chs) : (neg m).length = m.length := List.length_map ..
def spLess (K : PySem.W.Frag) : Sp := fun vs H Q _ => ∃ (a b : Addr) (xs ys : List V) (l m : Chs), vs = [.ref a, .ref b] ∧ SqL K H a xs ∧ SqL K H b ys ∧ BagAt H xs l ∧ BagAt H ys m ∧ (keysA l).Nodup ∧ l.length + m.length ≤ 100000 ∧
  ∀ (p : Addr) (zs : List V) (n : Chs) (H' : Hp), Same H H' → H p = none → H' p = some (.lst zs) → BagAt H' zs n → IsNorm (l ++ neg m) n → n.length ≤ l.length + m.length → Q (.ref p) H'
/-- rows of a norm stand in what was added up -/
theorem IsNorm.row {l m : Chs} (h : IsNorm l m) {p : Row × Int} (hp : p ∈ m) : ∃ c, (p.1, c) ∈ l := by
  have h1 := (h.1.mem p).mp hp
  have h2 : cnt l p.1 ≠ 0 := by rw [← h.2, h1.1]; exact h1.2
  by_cases e : p.1 ∈ l.map (·.1)
  · obtain ⟨q, hq, eq⟩ := List.mem_map.mp e
    exact ⟨q.2, by rw [← eq]; exact hq⟩
  · exact absurd (cnt_no e) h2
theorem IsNorm.congr {l l' m : Chs} (h : IsNorm l m) (e : ∀ r, cnt l r = cnt l' r) : IsNorm l' m := ⟨h.1, fun r => (h.2 r).trans (e r)⟩
theorem keys_len (as : Chs) : (keysA as).length = as.length := List.length_map ..
theorem cnt_take {l : Chs} {i : Nat} {p : Row × Int} (h : l[i]? = some p) (r : Row) : cnt (l.take (i + 1)) r = cnt (l.take i) r + if p.1 = r then p.2 else 0 := by
  rw [List.take_add_one, h, cnt_app]
  show _ + ((if p.1 = r then p.2 else 0) + 0) = _
  rw [Int.add_zero]
/-- a table with counts of at least 1, their sum at most n -/
def PosA (n : Int) (as : Chs) : Prop := (∀ p ∈ as, 1 ≤ p.2) ∧ (as.map (·.2)).sum ≤ n
theorem PosA.nil {n : Int} (h : 0 ≤ n) : PosA n [] := ⟨fun p hp => absurd hp List.not_mem_nil, h⟩
theorem PosA.bump {n c : Int} {as : Chs} (hn : (keysA as).Nodup) (h : PosA n as) (hc : 1 ≤ c) (r : Row) : PosA (n + c) (bump as r c) := by
  unfold Tf.bump
  split
  · rename_i hr
    refine ⟨fun p hp => ?_, ?_⟩
    · obtain ⟨q, hq, rfl⟩ := List.mem_map.mp hp
      have := h.1 q hq
      by_cases e : q.1 = r
      · rw [if_pos e]; show 1 ≤ q.2 + c; omega
      · rw [if_neg e]; exact this
    · have key : ∀ as : Chs, (keysA as).Nodup → r ∈ keysA as → ((as.map fun p => if p.1 = r then (p.1, p.2 + c) else p).map (·.2)).sum = (as.map (·.2)).sum + c := by
        intro as
        induction as with
        | nil => intro _ hr; exact absurd hr List.not_mem_nil
        | cons p l ih =>
          intro hn hr
          have hn' : p.1 ∉ keysA l ∧ (keysA l).Nodup := List.nodup_cons.mp hn
          rw [List.map_cons, List.map_cons, List.map_cons, List.sum_cons, List.sum_cons]
          by_cases e : p.1 = r
          · have nl : r ∉ keysA l := by rw [← e]; exact hn'.1
            have el : (l.map fun p => if p.1 = r then (p.1, p.2 + c) else p) = l := by
              conv => rhs; rw [← List.map_id l]
              refine List.map_congr_left fun q hq => ?_
              exact if_neg fun z => nl (by rw [← z]; exact List.mem_map_of_mem (f := (·.1)) hq)
            rw [el, if_pos e]
            show p.2 + c + _ = _
            omega
          · have hl : r ∈ keysA l := by
              rcases List.mem_cons.mp (show r ∈ p.1 :: keysA l from hr) with z | z
              · exact absurd z.symm e
              · exact z
            rw [if_neg e, ih hn'.2 hl]; omega
      rw [key as hn hr]
      have := h.2
      omega
  · refine ⟨fun p hp => ?_, ?_⟩
    · rcases List.mem_append.mp hp with k | k
      · exact h.1 p k
      · rw [List.mem_singleton.mp k]; exact hc
    · rw [List.map_append, List.sum_append]
      have := h.2
      show _ + (c + 0) ≤ _
      omega
theorem PosA.cnt {n : Int} {as : Chs} (h : PosA n as) (r : Row) : cnt as r ≤ n ∧ (cnt as r ≠ 0 → 1 ≤ cnt as r) := by
  have key : ∀ as : Chs, (∀ p ∈ as, 1 ≤ p.2) → 0 ≤ Tf.cnt as r ∧ Tf.cnt as r ≤ (as.map (·.2)).sum := by
    intro as
    induction as with
    | nil => intro _; exact ⟨Int.le_refl _, Int.le_refl _⟩
    | cons p l ih =>
      intro h
      have h1 := h p (List.mem_cons_self ..)
      have h2 := ih fun q hq => h q (List.mem_cons_of_mem _ hq)
      rw [List.map_cons, List.sum_cons, Tf.cnt]
      split <;> omega
  have h1 := key as h.1
  have h2 := h.2
  omega
/-- every row of a table that is added to -/
theorem bump_rows {as : Chs} {r : Row} {c : Int} {R : Row → Prop} (h : ∀ x ∈ keysA as, R x) (hr : R r) : ∀ x ∈ keysA (bump as r c), R x := by
  intro x hx
  rw [bump_keys] at hx
  split at hx
  · exact h x hx
  · rcases List.mem_append.mp hx with k | k
    · exact h x k
    · rw [List.mem_singleton.mp k]; exact hr
theorem idx_some {α : Type} {l : List α} {i : Nat} (h : i < l.length) : ∃ x, l[i]? = some x := ⟨_, List.getElem?_eq_getElem h⟩
theorem idx_lt {α : Type} {l : List α} {i : Nat} {x : α} (h : l[i]? = some x) : i < l.length := (List.getElem?_eq_some_iff.mp h).1
theorem isD_t {H : Hp} {d : Addr} {kvs : List (List Key × V)} (h : H d = some (.dT kvs)) : IsD H d := .inr ⟨kvs, .inl h⟩
theorem Dr.dT {sc : Addr} {H : Hp} {d p : Addr} {kvs : List (List Key × V)} (h : Dr sc H d) (e : H p = some (HO.dT kvs)) : p ≠ d ∧ p ≠ sc := by
  obtain ⟨ns, i, big, st, h1, h2, _⟩ := h
  exact ⟨fun z => (by rw [z, h1] at e; cases e), fun z => (by rw [z, h2] at e; cases e)⟩
theorem TupUp.dT {H : Hp} {d : Addr} {kvs : List (List Key × V)} {o : HO} (h : H d = some (.dT kvs)) : TupUp H (upd H d o) := fun q ys e => by
  rw [upd_ne (fun z => by rw [z, h] at e; cases e)]
  exact e
end Tf
set_option maxHeartbeats 4000000
namespace Tf
open PySem PySem.Spec PyProof.Rows L2 TL
theorem ifS_ne {a b : Str} {A B : Prop} (h : a ≠ b) (k : B) : if decide (V.str a = V.str b) = true then A else B := by
  rw [if_neg (fun e => h (V.str.inj (of_decide_eq_true e)))]; exact k
theorem ifS_eq {a : Str} {A B : Prop} (k : A) : if decide (V.str a = V.str a) = true then A else B := by
  rw [if_pos (decide_eq_true rfl)]; exact k
theorem inStrs (s : Str) (xs : List Str) : inV (.str s) (xs.map V.str) = decide (s ∈ xs) := by
  unfold inV
  rw [Bool.eq_iff_iff, List.any_eq_true, decide_eq_true_iff]
  constructor
  · rintro ⟨y, hy, e⟩
    obtain ⟨z, hz, rfl⟩ := List.mem_map.mp hy
    have : (z == s) = true := e
    rw [beq_iff_eq] at this
    rw [← this]; exact hz
  · intro h
    exact ⟨.str s, List.mem_map_of_mem h, (show (s == s) = true from beq_self_eq_true s)⟩
theorem flatS (xs : List Str) : (xs.map V.str).all flatV = true := by
  rw [List.all_eq_true]
  intro x hx
  obtain ⟨z, _, rfl⟩ := List.mem_map.mp hx
  rfl
/-! ### stages upon rows -/
def cmpS : List Str := ["<", "<=", "=", "!=", ">=", ">"]
def satB (c : Str) (v b : Int) : Bool := if c = "<" then decide (v < b) else if c = "<=" then decide (v ≤ b) else if c = "=" then decide (v = b) else if c = "!=" then decide (v ≠ b) else if c = ">=" then decide (b ≤ v) else decide (b < v)
theorem sat_1 (v b : Int) : satB "<" v b = decide (v < b) := by unfold satB; rw [if_pos rfl]
theorem sat_2 (v b : Int) : satB "<=" v b = decide (v ≤ b) := by unfold satB; rw [if_neg (by decide +kernel), if_pos rfl]
theorem sat_3 (v b : Int) : satB "=" v b = decide (v = b) := by unfold satB; rw [if_neg (by decide +kernel), if_neg (by decide +kernel), if_pos rfl]
theorem sat_4 (v b : Int) : satB "!=" v b = decide (v ≠ b) := by unfold satB; rw [if_neg (by decide +kernel), if_neg (by decide +kernel), if_neg (by decide +kernel), if_pos rfl]
theorem sat_5 (v b : Int) : satB ">=" v b = decide (b ≤ v) := by unfold satB; rw [if_neg (by decide +kernel), if_neg (by decide +kernel), if_neg (by decide +kernel), if_neg (by decide +kernel), if_pos rfl]
theorem sat_6 (v b : Int) : satB ">" v b = decide (b < v) := by unfold satB; rw [if_neg (by decide +kernel), if_neg (by decide +kernel), if_neg (by decide +kernel), if_neg (by decide +kernel), if_neg (by decide +kernel)]
def Stg.pass : Stg → Row → Bool
  | .sift c b, r => satB c r.v b
  | .only ks, r => decide (r.k ∈ ks)
  | _, _ => true
def Stg.app : Stg → Row → Row
  | .rekey k, r => ⟨r.t, k, r.v⟩
  | .scale f, r => ⟨r.t, r.k, f * r.v⟩
  | .later d, r => ⟨r.t + d, r.k, r.v⟩
  | _, r => r
/-- a factor that can be multiplied -/
def Stg.fit : Stg → Prop
  | .scale f => -(2 ^ 64) < f ∧ f < 2 ^ 64
  | _ => True
def stageL (s : Stg) (l : Chs) : Chs := (l.filter fun p => s.pass p.1).map fun p => (s.app p.1, p.2)
theorem stageL_snoc (s : Stg) (l : Chs) (p : Row × Int) : stageL s (l ++ [p]) = stageL s l ++ if s.pass p.1 = true then [(s.app p.1, p.2)] else [] := by
  unfold stageL
  rw [List.filter_append, List.map_append, List.filter_cons]
  by_cases h : s.pass p.1 = true
  · rw [if_pos h, if_pos h]; rfl
  · rw [if_neg h, if_neg h]; rfl
theorem stageL_take {s : Stg} {l : Chs} {i : Nat} {p : Row × Int} (h : l[i]? = some p) : stageL s (l.take (i + 1)) = stageL s (l.take i) ++ if s.pass p.1 = true then [(s.app p.1, p.2)] else [] := by
  rw [List.take_add_one, h]
  exact stageL_snoc s _ p
theorem stageL_len (s : Stg) (l : Chs) : (stageL s l).length ≤ l.length := by
  unfold stageL
  rw [List.length_map]
  exact List.length_filter_le _ _
def spSat : Sp := fun vs H Q _ => ∃ (v b : Int) (c : Str), vs = [.int v, .str c, .int b] ∧ Q (.bl (satB c v b)) H
def spPass : Sp := fun vs H Q _ => ∃ (v : V) (q : Addr) (s : Stg) (r : Row), vs = [v, .ref q] ∧ StAt H s v ∧ H q = some (.tup (rowV r)) ∧ Q (.bl (s.pass r)) H
def spAlt : Sp := fun vs H Q _ => ∃ (v : V) (q : Addr) (s : Stg) (r : Row), vs = [v, .ref q] ∧ StAt H s v ∧ s.fit ∧ H q = some (.tup (rowV r)) ∧ ∀ (t : Addr) (H' : Hp), Same H H' → H' t = some (.tup (rowV (s.app r))) → Q (.ref t) H'
def spStaged (K : PySem.W.Frag) : Sp := fun vs H Q _ => ∃ (v : V) (a : Addr) (s : Stg) (xs : List V) (l : Chs), vs = [v, .ref a] ∧ StAt H s v ∧ s.fit ∧ SqL K H a xs ∧ BagAt H xs l ∧ l.length ≤ 100000 ∧
  ∀ (p : Addr) (ys : List V) (m : Chs) (H' : Hp), Same H H' → H p = none → H' p = some (.lst ys) → BagAt H' ys m → IsNorm (stageL s l) m → m.length ≤ l.length → Q (.ref p) H'
/-- a stage that a law draws -/
def Stg.good : Stg → Prop
  | .sift c b => c ∈ cmpS ∧ -10 ≤ b ∧ b ≤ 10
  | .only ks => ∀ k ∈ ks, k ∈ rkeyS
  | .rekey k => k ∈ rkeyS
  | .scale f => -10 ≤ f ∧ f ≤ 10
  | .later d => 0 ≤ d ∧ d ≤ 10
def spStagedG (K : PySem.W.Frag) : Sp := fun vs H Q _ => ∃ (v : V) (a : Addr) (s : Stg) (xs : List V) (l : Chs), vs = [v, .ref a] ∧ StAt H s v ∧ s.good ∧ SqL K H a xs ∧ BagAt H xs l ∧ l.length ≤ 100000 ∧
  ∀ (p : Addr) (ys : List V) (m : Chs) (H' : Hp), Same H H' → H p = none → H' p = some (.lst ys) → BagAt H' ys m → IsNorm (stageL s l) m → m.length ≤ l.length → Q (.ref p) H'
def spCmp : Sp := fun vs H Q _ => ∃ (v b : Int) (c : Str), vs = [.str c, .int v, .int b] ∧ c ∈ cmpS ∧ ∀ H', Same H H' → Q (.bl (satB c v b)) H'
theorem Stg.good.fit {s : Stg} (h : s.good) : s.fit := by
  cases s with
  | scale f =>
    obtain ⟨h1, h2⟩ := (show -10 ≤ f ∧ f ≤ 10 from h)
    exact ⟨by omega, by omega⟩
  | _ => trivial
def spDrawn : Sp := fun vs H Q _ => ∃ (d sc : Addr), vs = [.ref d] ∧ Dr sc H d ∧ ∀ v s H', StAt H' s v → s.good → Dr sc H' d → Up d H H' → Q v H'
end Tf
set_option maxHeartbeats 4000000
namespace Tf
open PySem PySem.Spec PyProof.Rows L2 TL
def spLawG (K : PySem.W.Frag) : Sp := fun vs H Q _ => ∃ (a : Addr) (ns : List Int), vs = [.ref a] ∧ SqL K H a (ns.map V.int) ∧ ns.length ≤ 63 ∧ ∀ H', Q (.bl true) H'
/-! ### bags as data -/
def encP (p : Row × Int) : PyData := .tuple [encR p.1, .int p.2]
def encB (l : Chs) : PyData := .list (l.map encP)
theorem dp_row {K : PySem.W.Frag} {H : Hp} {q : Addr} {r : Row} (h : H q = some (.tup (rowV r))) : Dp K H (.ref q) (encR r) :=
  .tup (.of h) (.cons (.int _) (.cons (.str _) (.cons (.int _) .nil)))
theorem dp_pr {K : PySem.W.Frag} {H : Hp} {x : V} {p : Row × Int} (h : PrAt H x p) : Dp K H x (encP p) := by
  obtain ⟨a, q, rfl, h1, h2⟩ := h
  exact .tup (.of h1) (.cons (dp_row h2) (.cons (.int _) .nil))
theorem dp_all {K : PySem.W.Frag} {H : Hp} : ∀ {xs : List V} {l : Chs}, BagAt H xs l → DpAll K H xs (l.map encP)
  | [], [], _ => .nil
  | x :: xs, p :: l, h => .cons (dp_pr h.uncons.1) (dp_all h.uncons.2)
  | [], _ :: _, h => by have := h.1; simp at this
  | _ :: _, [], h => by have := h.1; simp at this
theorem dp_bag {K : PySem.W.Frag} {H : Hp} {a : Addr} {xs : List V} {l : Chs} (ha : SqL K H a xs) (h : BagAt H xs l) : Dp K H (.ref a) (encB l) := .lst ha (dp_all h)
theorem depth_all {α : Type} (f : α → PyData) (n : Nat) (h : ∀ x, (f x).depth ≤ n) : ∀ l : List α, PyData.depthAll (l.map f) ≤ n
  | [] => by simp [PyData.depthAll]
  | x :: l => by
    rw [List.map_cons, PyData.depthAll]
    have h1 := h x
    have h2 := depth_all f n h l
    omega
theorem lay_all {α : Type} (f : α → PyData) : ∀ l : List α, (∀ x ∈ l, (f x).canLay0 = true) → PyData.canLayAll0 (l.map f) = true
  | [], _ => rfl
  | x :: l, h => by
    rw [List.map_cons, PyData.canLayAll0, h x (List.mem_cons_self ..), lay_all f l fun y hy => h y (List.mem_cons_of_mem _ hy)]
    rfl
theorem bag_shaped {l : Chs} (h : ∀ p ∈ l, p.1.k ∈ rkeyS) : SeqAt.shaped (encB l) = true := by
  have ok : ∀ k ∈ rkeyS, PyData.canLay0 (.str k) = true := by decide +kernel
  unfold SeqAt.shaped
  rw [Bool.and_eq_true]
  constructor
  · show PyData.canLayAll0 (l.map encP) = true
    refine lay_all encP l fun p hp => ?_
    have := ok _ (h p hp)
    show ((true && (PyData.canLay0 (.str p.1.k) && (true && true))) && (true && true)) = true
    rw [this]
    rfl
  · refine decide_eq_true ?_
    have h1 : ∀ p : Row × Int, (encP p).depth ≤ 2 := fun p => by
      show PyData.depth (.tuple [encR p.1, .int p.2]) ≤ 2
      have := encR_depth p.1
      simp only [PyData.depth, PyData.depthAll] at *
      omega
    have h2 := depth_all encP 2 h1 l
    show PyData.depth (.list (l.map encP)) ≤ 64
    simp only [PyData.depth]
    omega
theorem eqv_bag {l : Chs} (h : ∀ p ∈ l, p.1.k ∈ rkeyS) : PyData.eqv (encB l) (encB l) = true := by
  refine SeqAt.eqv_refl _ ?_
  have := bag_shaped h
  unfold SeqAt.shaped at this
  exact (Bool.and_eq_true_iff.mp this).1
end Tf
set_option maxHeartbeats 4000000
namespace Tf
open PySem PySem.Spec PyProof.Rows L2 TL
/-! ### aggregates -/
def sumC (l : Chs) : Int := (l.map (·.2)).sum
def sumV (l : Chs) : Int := (l.map fun p => p.1.v * p.2).sum
def IsAgg (name : Str) (l : Chs) (x : Int) : Prop :=
  (name = "count" → x = sumC l) ∧ (name = "sum" → x = sumV l) ∧ (name = "least" → (∃ p ∈ l, p.1.v = x) ∧ ∀ p ∈ l, x ≤ p.1.v) ∧ (name = "greatest" → (∃ p ∈ l, p.1.v = x) ∧ ∀ p ∈ l, p.1.v ≤ x)
def aggN : List Str := ["count", "sum", "least", "greatest"]
theorem IsAgg.uniq {name : Str} (hn : name ∈ aggN) {l : Chs} {x y : Int} (h : IsAgg name l x) (k : IsAgg name l y) : x = y := by
  simp only [aggN, List.mem_cons, List.not_mem_nil, or_false] at hn
  rcases hn with e | e | e | e
  · rw [h.1 e, k.1 e]
  · rw [h.2.1 e, k.2.1 e]
  · obtain ⟨⟨p, hp, rfl⟩, h2⟩ := h.2.2.1 e
    obtain ⟨⟨q, hq, rfl⟩, k2⟩ := k.2.2.1 e
    have := h2 q hq
    have := k2 p hp
    omega
  · obtain ⟨⟨p, hp, rfl⟩, h2⟩ := h.2.2.2 e
    obtain ⟨⟨q, hq, rfl⟩, k2⟩ := k.2.2.2 e
    have := h2 q hq
    have := k2 p hp
    omega
/-- each value as often as its row is there -/
def expand (l : Chs) : List Int := l.flatMap fun p => List.replicate p.2.toNat p.1.v
theorem expand_app (l m : Chs) : expand (l ++ m) = expand l ++ expand m := by unfold expand; rw [List.flatMap_append]
theorem expand_len : ∀ l : Chs, (∀ p ∈ l, 1 ≤ p.2) → ((expand l).length : Int) = sumC l
  | [], _ => rfl
  | p :: l, h => by
    have ih := expand_len l fun q hq => h q (List.mem_cons_of_mem _ hq)
    have hp := h p (List.mem_cons_self ..)
    have e : expand (p :: l) = List.replicate p.2.toNat p.1.v ++ expand l := rfl
    have e2 : sumC (p :: l) = p.2 + sumC l := by unfold sumC; rw [List.map_cons, List.sum_cons]
    rw [e, List.length_append, List.length_replicate, e2]
    omega
theorem sum_rep (n : Nat) (v : Int) : (List.replicate n v).sum = v * n := by
  induction n with
  | zero => simp
  | succ n ih => rw [List.replicate_succ, List.sum_cons, ih]; rw [Int.natCast_succ, Int.mul_add, Int.mul_one]; omega
theorem expand_sum : ∀ l : Chs, (∀ p ∈ l, 1 ≤ p.2) → (expand l).sum = sumV l
  | [], _ => rfl
  | p :: l, h => by
    have ih := expand_sum l fun q hq => h q (List.mem_cons_of_mem _ hq)
    have hp := h p (List.mem_cons_self ..)
    have e : expand (p :: l) = List.replicate p.2.toNat p.1.v ++ expand l := rfl
    have e2 : sumV (p :: l) = p.1.v * p.2 + sumV l := by unfold sumV; rw [List.map_cons, List.sum_cons]
    rw [e, List.sum_append, ih, e2, sum_rep]
    have : ((p.2.toNat : Nat) : Int) = p.2 := by omega
    rw [this]
theorem mem_expand {l : Chs} (h : ∀ p ∈ l, 1 ≤ p.2) (v : Int) : v ∈ expand l ↔ ∃ p ∈ l, p.1.v = v := by
  unfold expand
  rw [List.mem_flatMap]
  constructor
  · rintro ⟨p, hp, hv⟩
    exact ⟨p, hp, (List.mem_replicate.mp hv).2.symm⟩
  · rintro ⟨p, hp, rfl⟩
    have := h p hp
    exact ⟨p, hp, List.mem_replicate.mpr ⟨by omega, rfl⟩⟩
theorem expand_le {l : Chs} {b : Int} (h : ∀ p ∈ l, p.2 ≤ b) (hb : 0 ≤ b) : ((expand l).length : Int) ≤ l.length * b := by
  induction l with
  | nil => simp [expand]
  | cons p l ih =>
    have ih := ih fun q hq => h q (List.mem_cons_of_mem _ hq)
    have hp := h p (List.mem_cons_self ..)
    have e : expand (p :: l) = List.replicate p.2.toNat p.1.v ++ expand l := rfl
    rw [e, List.length_append, List.length_replicate, List.length_cons]
    have e1 : (((l.length + 1 : Nat) : Int)) * b = l.length * b + b := by rw [Int.natCast_succ, Int.add_mul, Int.one_mul]
    rw [e1]
    omega
/-- what the law reckons of the values is the aggregate of the rows -/
def IsAggV (name : Str) (vs : List Int) (x : Int) : Prop :=
  (name = "count" → x = vs.length) ∧ (name = "sum" → x = vs.sum) ∧ (name = "least" → x ∈ vs ∧ ∀ v ∈ vs, x ≤ v) ∧ (name = "greatest" → x ∈ vs ∧ ∀ v ∈ vs, v ≤ x)
theorem IsAggV.rows {name : Str} {l : Chs} {x : Int} (h : ∀ p ∈ l, 1 ≤ p.2) (k : IsAggV name (expand l) x) : IsAgg name l x := by
  refine ⟨fun e => ?_, fun e => ?_, fun e => ?_, fun e => ?_⟩
  · rw [k.1 e, expand_len l h]
  · rw [k.2.1 e, expand_sum l h]
  · obtain ⟨a, b⟩ := k.2.2.1 e
    exact ⟨(mem_expand h x).mp a, fun p hp => b _ ((mem_expand h _).mpr ⟨p, hp, rfl⟩)⟩
  · obtain ⟨a, b⟩ := k.2.2.2 e
    exact ⟨(mem_expand h x).mp a, fun p hp => b _ ((mem_expand h _).mpr ⟨p, hp, rfl⟩)⟩
/-! ### promises -/
/-- aggregated -/
def spAggregated (K : PySem.W.Frag) : Sp := fun vs H Q _ => ∃ (a : Addr) (name : Str) (xs : List V) (l : Chs), vs = [.ref a, .str name] ∧ SqL K H a xs ∧ BagAt H xs l ∧ l ≠ [] ∧ l.length ≤ 100000 ∧ (∀ p ∈ l, 1 ≤ p.2 ∧ p.2 ≤ 1000000) ∧ name ∈ aggN ∧
  ∀ (x : Int) (H' : Hp), Same H H' → IsAgg name l x → Q (.int x) H'
/-- _law_aggregate -/
def spLAgg : Sp := fun vs H Q _ => ∃ (a : Addr) (name : Str) (ns : List Int), vs = [.str name, .ref a] ∧ H a = some (.lst (ns.map V.int)) ∧ ns ≠ [] ∧ name ∈ aggN ∧ ∀ (x : Int), IsAggV name ns x → Q (.int x) H
def sel (m : Chs) (k : Str) (a b : Int) : Chs := m.filter fun p => decide (p.1.k = k) && (decide (a ≤ p.1.t) && decide (p.1.t ≤ b))
/-- _law_values -/
def spLVals (K : PySem.W.Frag) : Sp := fun vs H Q _ => ∃ (a : Addr) (xs : List V) (m : Chs) (k : Str) (f l : Int), vs = [.ref a, .str k, .int f, .int l] ∧ SqL K H a xs ∧ BagAt H xs m ∧ m.length ≤ 1000 ∧ (∀ p ∈ m, 1 ≤ p.2 ∧ p.2 ≤ 1000) ∧
  ∀ (p : Addr) (H' : Hp), Same H H' → H p = none → H' p = some (.lst ((expand (sel m k f l)).map V.int)) → Q (.ref p) H'
/-- _law_keys -/
def spLKeys (K : PySem.W.Frag) : Sp := fun vs H Q _ => ∃ (a : Addr) (xs : List V) (m : Chs), vs = [.ref a] ∧ SqL K H a xs ∧ BagAt H xs m ∧ m.length ≤ 60 ∧
  ∀ (p : Addr) (ks : List Str) (H' : Hp), Same H H' → H p = none → H' p = some (.lst (ks.map V.str)) → ks.Nodup → ks.length ≤ m.length → (∀ k, k ∈ ks ↔ ∃ q ∈ m, q.1.k = k) → Q (.ref p) H'
theorem inInts' (s : Int) (xs : List Int) : inV (.int s) (xs.map V.int) = decide (s ∈ xs) := by
  unfold inV
  rw [Bool.eq_iff_iff, List.any_eq_true, decide_eq_true_iff]
  constructor
  · rintro ⟨y, hy, e⟩
    obtain ⟨z, hz, rfl⟩ := List.mem_map.mp hy
    have : (z == s) = true := e
    rw [beq_iff_eq] at this
    rw [← this]; exact hz
  · intro h
    exact ⟨.int s, List.mem_map_of_mem h, (show (s == s) = true from beq_self_eq_true s)⟩
theorem flatI' (xs : List Int) : (xs.map V.int).all flatV = true := by
  rw [List.all_eq_true]
  intro x hx
  obtain ⟨z, _, rfl⟩ := List.mem_map.mp hx
  rfl
end Tf
set_option maxHeartbeats 4000000
namespace Tf
open PySem PySem.Spec PyProof.Rows L2 TL
/-! ### sittings of one key -/
def lastT (g : Chs) : Int := (g.getLast?.map fun p => p.1.t).getD 0
def firstT (g : Chs) : Int := (g.head?.map fun p => p.1.t).getD 0
def addS (gap : Int) (gs : List Chs) (p : Row × Int) : List Chs :=
  match gs.getLast? with
  | none => [[p]]
  | some g => if p.1.t - lastT g ≤ gap then gs.dropLast ++ [g ++ [p]] else gs ++ [[p]]
def splitG (gap : Int) (l : Chs) : List Chs := l.foldl (addS gap) []
theorem splitG_snoc (gap : Int) (l : Chs) (p : Row × Int) : splitG gap (l ++ [p]) = addS gap (splitG gap l) p := by unfold splitG; rw [List.foldl_append]; rfl
def addR (gap : Int) (rs : List (Int × Int)) (t : Int) : List (Int × Int) :=
  match rs.getLast? with
  | none => [(t, t)]
  | some r => if t - r.2 ≤ gap then rs.dropLast ++ [(r.1, t)] else rs ++ [(t, t)]
def runsT (gap : Int) (ts : List Int) : List (Int × Int) := ts.foldl (addR gap) []
theorem runsT_snoc (gap : Int) (ts : List Int) (t : Int) : runsT gap (ts ++ [t]) = addR gap (runsT gap ts) t := by unfold runsT; rw [List.foldl_append]; rfl
def flT (g : Chs) : Int × Int := (firstT g, lastT g)
theorem last_split {α : Type} {l : List α} {x : α} (h : l.getLast? = some x) : l = l.dropLast ++ [x] := by
  have hne : l ≠ [] := fun z => by rw [z] at h; cases h
  have e := List.getLast?_eq_some_getLast hne
  rw [e] at h
  have := List.dropLast_concat_getLast hne
  rw [Option.some.inj h] at this
  exact this.symm
theorem lastT_snoc (g : Chs) (p : Row × Int) : lastT (g ++ [p]) = p.1.t := by unfold lastT; rw [List.getLast?_concat]; rfl
theorem firstT_snoc {g : Chs} (hg : g ≠ []) (p : Row × Int) : firstT (g ++ [p]) = firstT g := by
  cases g with
  | nil => exact absurd rfl hg
  | cons x r => rfl
/-- what is known of the sittings of rows in the order of their times -/
structure SplitOk (gap : Int) (l : Chs) (gs : List Chs) : Prop where
  flat : gs.flatten = l
  ne : ∀ g ∈ gs, g ≠ []
  runs : gs.map flT = runsT gap (l.map fun p => p.1.t)
  within : ∀ g ∈ gs, ∀ p ∈ g, firstT g ≤ p.1.t ∧ p.1.t ≤ lastT g
  apart : gs.Pairwise fun g h => lastT g < firstT h
  top : ∀ g ∈ gs, ∀ p, l.getLast? = some p → lastT g ≤ p.1.t
theorem split_ok {gap : Int} (h0 : 0 ≤ gap) : ∀ (n : Nat) (l : Chs), l.length = n → l.Pairwise (fun a b => a.1.t ≤ b.1.t) → SplitOk gap l (splitG gap l)
  | 0, l, hl, _ => by
    have e : l = [] := List.length_eq_zero_iff.mp hl
    subst e
    exact ⟨rfl, fun g h => absurd h List.not_mem_nil, rfl, fun g h => absurd h List.not_mem_nil, .nil, fun g h => absurd h List.not_mem_nil⟩
  | n + 1, l, hl, hs => by
    have hne : l ≠ [] := fun z => by rw [z] at hl; cases hl
    obtain ⟨r, p, rfl⟩ : ∃ r p, l = r ++ [p] := ⟨l.dropLast, l.getLast hne, (List.dropLast_concat_getLast hne).symm⟩
    rw [List.pairwise_append] at hs
    obtain ⟨hs1, _, hs3⟩ := hs
    have ih := split_ok h0 n r (by simpa using hl) hs1
    rw [splitG_snoc]
    have hrt : (r ++ [p]).map (fun q => q.1.t) = r.map (fun q => q.1.t) ++ [p.1.t] := by rw [List.map_append]; rfl
    have lp : ∀ q, (r ++ [p]).getLast? = some q → q = p := fun q hq => by rw [List.getLast?_concat] at hq; exact (Option.some.inj hq).symm
    generalize splitG gap r = gs at ih
    unfold addS
    cases hg : gs.getLast? with
    | none =>
      have e : gs = [] := by
        cases gs with
        | nil => rfl
        | cons x y => simp at hg
      subst e
      have er : r = [] := ih.flat.symm
      subst er
      refine ⟨rfl, fun g hg => ?_, ?_, fun g hg q hq => ?_, List.pairwise_singleton _ _, fun g hg q hq => ?_⟩
      · rw [List.mem_singleton.mp hg]; exact List.cons_ne_nil _ _
      · rfl
      · rw [List.mem_singleton.mp hg] at hq ⊢
        rw [List.mem_singleton.mp hq]
        exact ⟨Int.le_refl _, Int.le_refl _⟩
      · rw [List.mem_singleton.mp hg, lp q hq]
        exact Int.le_refl _
    | some g =>
      have eg := last_split hg
      have gm : g ∈ gs := by rw [eg]; exact List.mem_append_right _ (List.mem_singleton.mpr rfl)
      have hrun : (runsT gap (r.map fun q => q.1.t)).getLast? = some (flT g) := by
        rw [← ih.runs, eg, List.map_append]
        exact List.getLast?_concat
      have hrd : (runsT gap (r.map fun q => q.1.t)).dropLast = gs.dropLast.map flT := by
        rw [← ih.runs]
        rw [eg, List.map_append, List.dropLast_concat]
        show List.dropLast (_ ++ [flT g]) = _
        rw [List.dropLast_concat]
      have hgt : ∀ q ∈ g, q.1.t ≤ p.1.t := fun q hq => hs3 q (by rw [← ih.flat]; exact List.mem_flatten.mpr ⟨g, gm, hq⟩) p (List.mem_singleton.mpr rfl)
      have hgne := ih.ne g gm
      have hlg : lastT g ≤ p.1.t := by
        obtain ⟨x, hx⟩ : ∃ x, g.getLast? = some x := ⟨_, List.getLast?_eq_some_getLast hgne⟩
        have e : lastT g = x.1.t := by unfold lastT; rw [hx]; rfl
        rw [e]
        exact hgt x (List.mem_of_getLast? hx)
      dsimp only
      by_cases hc : p.1.t - lastT g ≤ gap
      · rw [if_pos hc]
        have e1 : gs.flatten = gs.dropLast.flatten ++ g := by
          conv => lhs; rw [eg]
          rw [List.flatten_append]; simp
        refine ⟨?_, fun x hx => ?_, ?_, fun x hx q hq => ?_, ?_, fun x hx q hq => ?_⟩
        · rw [List.flatten_append]
          show gs.dropLast.flatten ++ ([g ++ [p]]).flatten = r ++ [p]
          rw [← ih.flat, e1]; simp
        · rcases List.mem_append.mp hx with h | h
          · exact ih.ne x (List.dropLast_subset _ h)
          · rw [List.mem_singleton.mp h]; simp
        · rw [hrt, runsT_snoc]
          unfold addR
          rw [hrun]
          dsimp only
          rw [if_pos (show p.1.t - (flT g).2 ≤ gap from hc), hrd, List.map_append]
          show _ ++ [flT (g ++ [p])] = _
          unfold flT
          rw [lastT_snoc, firstT_snoc hgne]
        · rcases List.mem_append.mp hx with h | h
          · exact ih.within x (List.dropLast_subset _ h) q hq
          · rw [List.mem_singleton.mp h] at hq ⊢
            rw [lastT_snoc, firstT_snoc hgne]
            rcases List.mem_append.mp hq with hq | hq
            · exact ⟨(ih.within g gm q hq).1, hgt q hq⟩
            · rw [List.mem_singleton.mp hq]
              have := ih.within g gm _ (List.head_mem hgne)
              have := hgt _ (List.head_mem hgne)
              exact ⟨by omega, Int.le_refl _⟩
        · have ha := ih.apart
          rw [eg, List.pairwise_append] at ha
          rw [List.pairwise_append]
          refine ⟨ha.1, List.pairwise_singleton _ _, fun x hx y hy => ?_⟩
          rw [List.mem_singleton.mp hy, firstT_snoc hgne]
          exact ha.2.2 x hx g (List.mem_singleton.mpr rfl)
        · rw [lp q hq]
          rcases List.mem_append.mp hx with h | h
          · have hxr := ih.within x (List.dropLast_subset _ h)
            have hxm := List.dropLast_subset _ h
            have hxne := ih.ne x hxm
            obtain ⟨z, hz⟩ : ∃ z, x.getLast? = some z := ⟨_, List.getLast?_eq_some_getLast hxne⟩
            have e : lastT x = z.1.t := by unfold lastT; rw [hz]; rfl
            rw [e]
            exact hs3 z (by rw [← ih.flat]; exact List.mem_flatten.mpr ⟨x, hxm, List.mem_of_getLast? hz⟩) p (List.mem_singleton.mpr rfl)
          · rw [List.mem_singleton.mp h, lastT_snoc]; exact Int.le_refl _
      · rw [if_neg hc]
        have hlx : ∀ x ∈ gs, lastT x ≤ lastT g := fun x hx => by
          have ha := ih.apart
          rw [eg, List.pairwise_append] at ha
          rw [eg] at hx
          rcases List.mem_append.mp hx with h | h
          · have h1 := ha.2.2 x h g (List.mem_singleton.mpr rfl)
            have h2 := ih.within g gm _ (List.head_mem hgne)
            omega
          · rw [List.mem_singleton.mp h]; exact Int.le_refl _
        refine ⟨?_, fun x hx => ?_, ?_, fun x hx q hq => ?_, ?_, fun x hx q hq => ?_⟩
        · rw [List.flatten_append, ih.flat]; simp
        · rcases List.mem_append.mp hx with h | h
          · exact ih.ne x h
          · rw [List.mem_singleton.mp h]; exact List.cons_ne_nil _ _
        · rw [hrt, runsT_snoc]
          unfold addR
          rw [hrun]
          dsimp only
          rw [if_neg (show ¬ p.1.t - (flT g).2 ≤ gap from hc), ← ih.runs, List.map_append]; rfl
        · rcases List.mem_append.mp hx with h | h
          · exact ih.within x h q hq
          · rw [List.mem_singleton.mp h] at hq ⊢
            rw [List.mem_singleton.mp hq]
            exact ⟨Int.le_refl _, Int.le_refl _⟩
        · rw [List.pairwise_append]
          refine ⟨ih.apart, List.pairwise_singleton _ _, fun x hx y hy => ?_⟩
          rw [List.mem_singleton.mp hy]
          have := hlx x hx
          show lastT x < p.1.t
          omega
        · rw [lp q hq]
          rcases List.mem_append.mp hx with h | h
          · have := hlx x h; omega
          · rw [List.mem_singleton.mp h]; exact Int.le_refl _
/-- a sitting is what lies between its first and its last time -/
theorem split_sel {gap : Int} {l : Chs} {gs : List Chs} (S : SplitOk gap l gs) {g : Chs} (hg : g ∈ gs) : l.filter (fun p => decide (firstT g ≤ p.1.t) && decide (p.1.t ≤ lastT g)) = g := by
  rw [← S.flat]
  have key : ∀ gs : List Chs, (∀ x ∈ gs, ∀ p ∈ x, firstT x ≤ p.1.t ∧ p.1.t ≤ lastT x) → (∀ x ∈ gs, x ≠ []) → gs.Pairwise (fun g h => lastT g < firstT h) → g ∈ gs → (gs.flatten).filter (fun p => decide (firstT g ≤ p.1.t) && decide (p.1.t ≤ lastT g)) = g := by
    intro gs
    induction gs with
    | nil => intro _ _ _ h; exact absurd h List.not_mem_nil
    | cons x r ih =>
      intro hw hne hp hg
      rw [List.pairwise_cons] at hp
      rw [List.flatten_cons, List.filter_append]
      have own : g.filter (fun p => decide (firstT g ≤ p.1.t) && decide (p.1.t ≤ lastT g)) = g := List.filter_eq_self.mpr fun p hp' => by
        have := hw g hg p hp'
        rw [decide_eq_true this.1, decide_eq_true this.2]; rfl
      rcases List.mem_cons.mp hg with e | hgr
      · subst e
        rw [own]
        have : (r.flatten).filter (fun p => decide (firstT g ≤ p.1.t) && decide (p.1.t ≤ lastT g)) = [] := List.filter_eq_nil_iff.mpr fun p hp' => by
          obtain ⟨y, hy, hpy⟩ := List.mem_flatten.mp hp'
          have h1 := hp.1 y hy
          have h2 := hw y (List.mem_cons_of_mem _ hy) p hpy
          rw [decide_eq_false (show ¬ p.1.t ≤ lastT g by omega), Bool.and_false]
          decide
        rw [this, List.append_nil]
      · have : x.filter (fun p => decide (firstT g ≤ p.1.t) && decide (p.1.t ≤ lastT g)) = [] := List.filter_eq_nil_iff.mpr fun p hp' => by
          have h1 := hp.1 g hgr
          have h2 := hw x (List.mem_cons_self ..) p hp'
          rw [decide_eq_false (show ¬ firstT g ≤ p.1.t by omega), Bool.false_and]
          decide
        rw [this, List.nil_append]
        exact ih (fun y hy => hw y (List.mem_cons_of_mem _ hy)) (fun y hy => hne y (List.mem_cons_of_mem _ hy)) hp.2 hgr
  exact key gs S.within S.ne S.apart hg
/-! ### equal times beside each other make no difference -/
theorem addR_same {gap : Int} (h0 : 0 ≤ gap) {rs : List (Int × Int)} {r : Int × Int} (h : rs.getLast? = some r) : addR gap rs r.2 = rs := by
  unfold addR
  rw [h]
  dsimp only
  rw [if_pos (by omega)]
  exact (last_split h).symm
theorem addR_last (gap : Int) (rs : List (Int × Int)) (t : Int) : ∃ f, (addR gap rs t).getLast? = some (f, t) := by
  unfold addR
  cases rs.getLast? with
  | none => exact ⟨t, rfl⟩
  | some r =>
    dsimp only
    split
    · exact ⟨r.1, List.getLast?_concat⟩
    · exact ⟨t, List.getLast?_concat⟩
theorem runsT_last {gap : Int} {ts : List Int} {t : Int} (h : ts.getLast? = some t) : ∃ f, (runsT gap ts).getLast? = some (f, t) := by
  rw [last_split h, runsT_snoc]
  exact addR_last gap _ t
theorem runsT_same {gap : Int} (h0 : 0 ≤ gap) {ts : List Int} {t : Int} (h : ts.getLast? = some t) : runsT gap (ts ++ [t]) = runsT gap ts := by
  rw [runsT_snoc]
  obtain ⟨f, hf⟩ := runsT_last (gap := gap) h
  exact addR_same h0 hf
end Tf
set_option maxHeartbeats 4000000
namespace Tf
open PySem PySem.Spec PyProof.Rows L2 TL
/-! ### sittings of all keys, each at an address -/
def keyG (g : Chs) : Str := (g.head?.map fun p => p.1.k).getD ""
abbrev Gs := List (Addr × Chs)
def ofK (k : Str) (G : Gs) : Gs := G.filter fun x => decide (keyG x.2 = k)
def lastK (G : Gs) (k : Str) : Option (Addr × Chs) := (ofK k G).getLast?
def rowsK (k : Str) (m : Chs) : Chs := m.filter fun p => decide (p.1.k = k)
def updG (a : Addr) (p : Row × Int) (x : Addr × Chs) : Addr × Chs := if x.1 = a then (x.1, x.2 ++ [p]) else x
theorem keyG_snoc {g : Chs} (h : g ≠ []) (p : Row × Int) : keyG (g ++ [p]) = keyG g := by
  cases g with
  | nil => exact absurd rfl h
  | cons x r => rfl
theorem updG_fst (a : Addr) (p : Row × Int) (x : Addr × Chs) : (updG a p x).1 = x.1 := by unfold updG; split <;> rfl
theorem updG_key {a : Addr} {p : Row × Int} {x : Addr × Chs} (h : x.2 ≠ []) : keyG (updG a p x).2 = keyG x.2 := by
  unfold updG
  split
  · exact keyG_snoc h p
  · rfl
theorem updG_ne {a : Addr} {p : Row × Int} {x : Addr × Chs} (h : x.2 ≠ []) : (updG a p x).2 ≠ [] := by
  unfold updG
  split
  · simp
  · exact h
theorem upd_keys (a : Addr) (p : Row × Int) (G : Gs) : (G.map (updG a p)).map (·.1) = G.map (·.1) := by
  rw [List.map_map]
  exact List.map_congr_left fun x _ => updG_fst a p x
theorem ofK_upd {a : Addr} {p : Row × Int} {G : Gs} (hne : ∀ x ∈ G, x.2 ≠ []) (k : Str) : ofK k (G.map (updG a p)) = (ofK k G).map (updG a p) := by
  unfold ofK
  rw [List.filter_map]
  congr 1
  refine List.filter_congr fun x hx => ?_
  show decide (keyG (updG a p x).2 = k) = _
  rw [updG_key (hne x hx)]
theorem lastK_upd {a : Addr} {p : Row × Int} {G : Gs} (hne : ∀ x ∈ G, x.2 ≠ []) (k : Str) : (lastK (G.map (updG a p)) k).map (·.1) = (lastK G k).map (·.1) := by
  unfold lastK
  rw [ofK_upd hne, List.getLast?_map, Option.map_map]
  congr 1
  funext x
  exact updG_fst a p x
theorem map_upd_no {a : Addr} {p : Row × Int} {G : Gs} (h : ∀ x ∈ G, x.1 ≠ a) : G.map (updG a p) = G := by
  conv => rhs; rw [← List.map_id G]
  refine List.map_congr_left fun x hx => ?_
  exact if_neg (h x hx)
theorem ofK_app {gap : Int} {a : Addr} {g : Chs} {p : Row × Int} {G : Gs} (hk : lastK G p.1.k = some (a, g)) (hn : (G.map (·.1)).Nodup) (hne : ∀ x ∈ G, x.2 ≠ []) (hc : p.1.t - lastT g ≤ gap) (k : Str) :
    (ofK k (G.map (updG a p))).map (·.2) = if p.1.k = k then addS gap ((ofK k G).map (·.2)) p else (ofK k G).map (·.2) := by
  rw [ofK_upd hne]
  have el := last_split hk
  have hsub : (ofK p.1.k G).Sublist G := List.filter_sublist
  have nd : ((ofK p.1.k G).map (·.1)).Nodup := hn.sublist (hsub.map _)
  by_cases e : p.1.k = k
  · subst e
    rw [if_pos rfl]
    have hD : ∀ x ∈ (ofK p.1.k G).dropLast, x.1 ≠ a := fun x hx z => by
      rw [el, List.map_append, List.nodup_append] at nd
      exact nd.2.2 x.1 (List.mem_map_of_mem hx) a (by simp) z
    have e1 : (ofK p.1.k G).map (updG a p) = (ofK p.1.k G).dropLast ++ [(a, g ++ [p])] := by
      conv => lhs; rw [el]
      rw [List.map_append, map_upd_no hD]
      show _ ++ [updG a p (a, g)] = _
      unfold updG
      rw [if_pos rfl]
    have e2 : ((ofK p.1.k G).map (·.2)).getLast? = some g := by rw [List.getLast?_map]; unfold lastK at hk; rw [hk]; rfl
    rw [e1, List.map_append]
    unfold addS
    rw [e2]
    dsimp only
    rw [if_pos hc, ← List.map_dropLast]
    rfl
  · rw [if_neg e, map_upd_no]
    intro x hx z
    have hx1 := List.mem_filter.mp hx
    have ha : (a, g) ∈ G := hsub.subset (List.mem_of_getLast? hk)
    have hka : keyG g = p.1.k := of_decide_eq_true (List.mem_filter.mp (List.mem_of_getLast? hk)).2
    have : x = (a, g) := by
      have key : ∀ G : Gs, (G.map (·.1)).Nodup → ∀ x ∈ G, ∀ y ∈ G, x.1 = y.1 → x = y := by
        intro G
        induction G with
        | nil => intro _ x hx; exact absurd hx List.not_mem_nil
        | cons w r ih =>
          intro hn x hx y hy e
          rw [List.map_cons, List.nodup_cons] at hn
          rcases List.mem_cons.mp hx with h1 | h1
          · rcases List.mem_cons.mp hy with h2 | h2
            · rw [h1, h2]
            · exact absurd (by rw [← h1, e]; exact List.mem_map_of_mem (f := (·.1)) h2) hn.1
          · rcases List.mem_cons.mp hy with h2 | h2
            · exact absurd (by rw [← h2, ← e]; exact List.mem_map_of_mem (f := (·.1)) h1) hn.1
            · exact ih hn.2 x h1 y h2 e
      exact key G hn x hx1.1 _ ha z
    rw [this] at hx1
    have := of_decide_eq_true hx1.2
    exact e (hka.symm.trans this)
theorem ofK_new {gap : Int} {b : Addr} {p : Row × Int} {G : Gs} (hc : ∀ x, lastK G p.1.k = some x → ¬ p.1.t - lastT x.2 ≤ gap) (k : Str) :
    (ofK k (G ++ [(b, [p])])).map (·.2) = if p.1.k = k then addS gap ((ofK k G).map (·.2)) p else (ofK k G).map (·.2) := by
  have e0 : ofK k (G ++ [(b, [p])]) = ofK k G ++ if p.1.k = k then [(b, [p])] else [] := by
    unfold ofK
    rw [List.filter_append, List.filter_cons]
    show _ ++ (if decide (p.1.k = k) = true then _ else _) = _
    by_cases e : p.1.k = k
    · rw [if_pos (decide_eq_true e), if_pos e]; rfl
    · rw [if_neg (fun z => e (of_decide_eq_true z)), if_neg e]; rfl
  rw [e0]
  by_cases e : p.1.k = k
  · subst e
    rw [if_pos rfl, if_pos rfl, List.map_append]
    unfold addS
    rw [List.getLast?_map]
    cases hl : (ofK p.1.k G).getLast? with
    | none =>
      have : ofK p.1.k G = [] := by
        cases h : ofK p.1.k G with
        | nil => rfl
        | cons x r => rw [h] at hl; simp at hl
      rw [this]; rfl
    | some x =>
      dsimp only [Option.map]
      rw [if_neg (hc x hl)]; rfl
  · rw [if_neg e, if_neg e, List.append_nil]
theorem lastK_new {b : Addr} {p : Row × Int} {G : Gs} (k : Str) : lastK (G ++ [(b, [p])]) k = if p.1.k = k then some (b, [p]) else lastK G k := by
  have e0 : ofK k (G ++ [(b, [p])]) = ofK k G ++ if p.1.k = k then [(b, [p])] else [] := by
    unfold ofK
    rw [List.filter_append, List.filter_cons]
    show _ ++ (if decide (p.1.k = k) = true then _ else _) = _
    by_cases e : p.1.k = k
    · rw [if_pos (decide_eq_true e), if_pos e]; rfl
    · rw [if_neg (fun z => e (of_decide_eq_true z)), if_neg e]; rfl
  unfold lastK
  rw [e0]
  by_cases e : p.1.k = k
  · rw [if_pos e, if_pos e]
    exact List.getLast?_concat
  · rw [if_neg e, if_neg e, List.append_nil]
theorem rowsK_take {m : Chs} {i : Nat} {p : Row × Int} (h : m[i]? = some p) (k : Str) : rowsK k (m.take (i + 1)) = rowsK k (m.take i) ++ if p.1.k = k then [p] else [] := by
  unfold rowsK
  rw [List.take_add_one, h, List.filter_append]
  show _ ++ List.filter _ [p] = _
  rw [List.filter_cons]
  by_cases e : p.1.k = k
  · rw [if_pos (decide_eq_true e), if_pos e]; rfl
  · rw [if_neg (fun z => e (of_decide_eq_true z)), if_neg e]; rfl
theorem splitG_take {gap : Int} {m : Chs} {i : Nat} {p : Row × Int} (h : m[i]? = some p) (k : Str) : splitG gap (rowsK k (m.take (i + 1))) = if p.1.k = k then addS gap (splitG gap (rowsK k (m.take i))) p else splitG gap (rowsK k (m.take i)) := by
  rw [rowsK_take h]
  by_cases e : p.1.k = k
  · rw [if_pos e, if_pos e, splitG_snoc]
  · rw [if_neg e, if_neg e, List.append_nil]
/-! ### what a row of the result says -/
def SitRow (gap : Int) (name : Str) (m : Chs) (r : Row) : Prop := ∃ g ∈ splitG gap (rowsK r.k m), r.t = lastT g + gap ∧ IsAgg name g r.v
def Tab (as : Chs) (R : Row → Prop) : Prop := (∀ r, R r → cnt as r = 1) ∧ ∀ r, ¬ R r → cnt as r = 0
theorem Tab.put {as : Chs} {R : Row → Prop} (hn : (keysA as).Nodup) (h : Tab as R) (r0 : Row) : Tab (bump as r0 (1 - cnt as r0)) (fun r => R r ∨ r = r0) := by
  refine ⟨fun r hr => ?_, fun r hr => ?_⟩
  · rw [cnt_bump hn]
    by_cases e : r0 = r
    · rw [if_pos e, e]; omega
    · rw [if_neg e]
      rcases hr with h1 | h1
      · rw [h.1 r h1]; omega
      · exact absurd h1.symm e
  · rw [cnt_bump hn, if_neg (fun z => hr (.inr z.symm)), h.2 r (fun z => hr (.inl z))]; omega
theorem Tab.congr {as : Chs} {R R' : Row → Prop} (h : Tab as R) (e : ∀ r, R r ↔ R' r) : Tab as R' := ⟨fun r hr => h.1 r ((e r).mpr hr), fun r hr => h.2 r fun z => hr ((e r).mp z)⟩
theorem Tab.norm {as m m' : Chs} {R : Row → Prop} (h : Canon m) (h' : Canon m') (t : ∀ r, cnt m r = cnt as r) (u : Tab as R) {as' : Chs} (t' : ∀ r, cnt m' r = cnt as' r) (u' : Tab as' R) : m = m' :=
  h.ext h' fun r => by
    rw [t, t']
    rcases Classical.em (R r) with k | k
    · rw [u.1 r k, u'.1 r k]
    · rw [u.2 r k, u'.2 r k]
theorem canon_t {m : Chs} (h : Canon m) : m.Pairwise (fun a b => a.1.t ≤ b.1.t) := h.1.imp fun {a b} k => by
  rcases k with k | ⟨e, _⟩
  · omega
  · omega
theorem rowsK_sorted {m : Chs} (h : Canon m) (k : Str) : (rowsK k m).Pairwise (fun a b => a.1.t ≤ b.1.t) := (canon_t h).filter _
theorem rowsK_ok {gap : Int} (h0 : 0 ≤ gap) {m : Chs} (h : Canon m) (k : Str) : SplitOk gap (rowsK k m) (splitG gap (rowsK k m)) := split_ok h0 _ _ rfl (rowsK_sorted h k)
/-- rows of a sitting are rows of the bag, with its key -/
theorem split_mem {gap : Int} (h0 : 0 ≤ gap) {m : Chs} (h : Canon m) {k : Str} {g : Chs} (hg : g ∈ splitG gap (rowsK k m)) {p : Row × Int} (hp : p ∈ g) : p ∈ m ∧ p.1.k = k := by
  have S := rowsK_ok h0 h k
  have : p ∈ rowsK k m := by rw [← S.flat]; exact List.mem_flatten.mpr ⟨g, hg, hp⟩
  have := List.mem_filter.mp this
  exact ⟨this.1, of_decide_eq_true this.2⟩
/-- by first and last times: what the law selects -/
theorem sit_iff {gap : Int} (h0 : 0 ≤ gap) {m : Chs} (h : Canon m) (name : Str) (r : Row) : SitRow gap name m r ↔ ∃ fl ∈ runsT gap ((rowsK r.k m).map fun p => p.1.t), r.t = fl.2 + gap ∧ IsAgg name (sel m r.k fl.1 fl.2) r.v := by
  have S := rowsK_ok h0 h r.k
  have hsel : ∀ f l, sel m r.k f l = (rowsK r.k m).filter fun p => decide (f ≤ p.1.t) && decide (p.1.t ≤ l) := fun f l => by
    unfold sel rowsK
    rw [List.filter_filter]
    refine List.filter_congr fun p _ => ?_
    rw [Bool.and_comm]
  constructor
  · rintro ⟨g, hg, e1, e2⟩
    refine ⟨flT g, by rw [← S.runs]; exact List.mem_map_of_mem hg, e1, ?_⟩
    rw [hsel]
    show IsAgg name ((rowsK r.k m).filter fun p => decide (firstT g ≤ p.1.t) && decide (p.1.t ≤ lastT g)) r.v
    rw [split_sel S hg]; exact e2
  · rintro ⟨fl, hfl, e1, e2⟩
    rw [← S.runs] at hfl
    obtain ⟨g, hg, rfl⟩ := List.mem_map.mp hfl
    refine ⟨g, hg, e1, ?_⟩
    rw [hsel] at e2
    have e2' : IsAgg name ((rowsK r.k m).filter fun p => decide (firstT g ≤ p.1.t) && decide (p.1.t ≤ lastT g)) r.v := e2
    rw [split_sel S hg] at e2'
    exact e2'
/-! ### in the heap -/
def GAt (H : Hp) (G : Gs) : Prop := ∀ x ∈ G, x.2 ≠ [] ∧ ∃ ys, H x.1 = some (.lst ys) ∧ BagAt H ys x.2
def spDivided (K : PySem.W.Frag) : Sp := fun vs H Q _ => ∃ (a : Addr) (xs : List V) (m : Chs) (gap : Int), vs = [.ref a, .int gap] ∧ SqL K H a xs ∧ BagAt H xs m ∧ m.length ≤ 1000 ∧
  ∀ (p : Addr) (G : Gs) (H' : Hp), Same H H' → H p = none → H' p = some (.lst (G.map fun x => V.ref x.1)) → GAt H' G → (∀ k, (ofK k G).map (·.2) = splitG gap (rowsK k m)) → G.length ≤ m.length → (∀ x ∈ G, x.2.length ≤ m.length) → (∀ x ∈ G, H x.1 = none) → Q (.ref p) H'
def spSittings (K : PySem.W.Frag) (N : Nat) : Sp := fun vs H Q _ => ∃ (a : Addr) (xs : List V) (m : Chs) (gap : Int) (name : Str), vs = [.ref a, .int gap, .str name] ∧ SqL K H a xs ∧ BagAt H xs m ∧ Canon m ∧ m.length ≤ 60 ∧ (∀ p ∈ m, 1 ≤ p.2 ∧ p.2 ≤ 1000) ∧ 0 ≤ gap ∧ name ∈ aggN ∧
  ∀ (p : Addr) (ys : List V) (n : Chs) (H' : Hp), Same H H' → H p = none → H' p = some (.lst ys) → BagAt H' ys n → Canon n → n.length ≤ N → Tab n (SitRow gap name m) → Q (.ref p) H'
/-- the rows that are told of sittings -/
def Told (gap : Int) (name : Str) (l : Chs) (G : Gs) : Prop := l.length = G.length ∧ ∀ (j : Nat) q x, l[j]? = some q → G[j]? = some x → q.2 = 1 ∧ q.1.t = lastT x.2 + gap ∧ q.1.k = keyG x.2 ∧ IsAgg name x.2 q.1.v
theorem lastq {g : Chs} (h : g ≠ []) : ∃ q, g.getLast? = some q ∧ lastT g = q.1.t := by
  refine ⟨_, List.getLast?_eq_some_getLast h, ?_⟩
  unfold lastT
  rw [List.getLast?_eq_some_getLast h]; rfl
theorem keyG_of {g : Chs} {k : Str} (h : g ≠ []) (hk : ∀ p ∈ g, p.1.k = k) : keyG g = k := by
  cases g with
  | nil => exact absurd rfl h
  | cons x r => exact hk x (List.mem_cons_self ..)
theorem G_key {gap : Int} (h0 : 0 ≤ gap) {m : Chs} (hC : Canon m) {G : Gs} (hne : ∀ x ∈ G, x.2 ≠ []) (hG : ∀ k, (ofK k G).map (·.2) = splitG gap (rowsK k m)) {x : Addr × Chs} (hx : x ∈ G) : x.2 ∈ splitG gap (rowsK (keyG x.2) m) ∧ ∀ p ∈ x.2, p ∈ m ∧ p.1.k = keyG x.2 := by
  have hm : x ∈ ofK (keyG x.2) G := List.mem_filter.mpr ⟨hx, decide_eq_true rfl⟩
  have h1 : x.2 ∈ splitG gap (rowsK (keyG x.2) m) := by rw [← hG]; exact List.mem_map_of_mem hm
  exact ⟨h1, fun p hp => split_mem h0 hC h1 hp⟩
theorem G_apart {gap : Int} (h0 : 0 ≤ gap) {m : Chs} (hC : Canon m) {G : Gs} (hG : ∀ k, (ofK k G).map (·.2) = splitG gap (rowsK k m)) : G.Pairwise fun x y => keyG x.2 = keyG y.2 → lastT x.2 < lastT y.2 := by
  have hP : ∀ k, (ofK k G).Pairwise fun x y => lastT x.2 < lastT y.2 := fun k => by
    have S := rowsK_ok h0 hC k
    have h1 : ((ofK k G).map (·.2)).Pairwise fun g h => lastT g < firstT h := by rw [hG]; exact S.apart
    rw [List.pairwise_map] at h1
    refine h1.imp_of_mem fun {x y} hx hy h => ?_
    have hy' : y.2 ∈ splitG gap (rowsK k m) := by rw [← hG]; exact List.mem_map_of_mem hy
    have h2 := S.within y.2 hy' _ (List.head_mem (S.ne y.2 hy'))
    omega
  have key : ∀ G : Gs, (∀ k, (ofK k G).Pairwise fun x y => lastT x.2 < lastT y.2) → G.Pairwise fun x y => keyG x.2 = keyG y.2 → lastT x.2 < lastT y.2 := by
    intro G
    induction G with
    | nil => intro _; exact .nil
    | cons x r ih =>
      intro h
      have hx := h (keyG x.2)
      have e : ofK (keyG x.2) (x :: r) = x :: ofK (keyG x.2) r := by unfold ofK; rw [List.filter_cons, if_pos (decide_eq_true rfl)]
      rw [e, List.pairwise_cons] at hx
      refine List.pairwise_cons.mpr ⟨fun y hy hk => hx.1 y (List.mem_filter.mpr ⟨hy, decide_eq_true hk.symm⟩), ih fun k => ?_⟩
      have hk := h k
      unfold ofK at hk ⊢
      rw [List.filter_cons] at hk
      split at hk
      · exact (List.pairwise_cons.mp hk).2
      · exact hk
  exact key G hP
theorem told_tab {gap : Int} (h0 : 0 ≤ gap) {m : Chs} (hC : Canon m) {G : Gs} (hne : ∀ x ∈ G, x.2 ≠ []) (hG : ∀ k, (ofK k G).map (·.2) = splitG gap (rowsK k m)) {name : Str} (hn : name ∈ aggN) {l : Chs} (T : Told gap name l G) : Tab l (SitRow gap name m) := by
  have hnd : (l.map (·.1)).Nodup := by
    have hA := G_apart h0 hC hG
    rw [List.Nodup, List.pairwise_map, List.pairwise_iff_getElem]
    intro i j hi hj hij e
    have hi' : i < G.length := by rw [← T.1]; exact hi
    have hj' : j < G.length := by rw [← T.1]; exact hj
    have t1 := T.2 i _ _ (List.getElem?_eq_getElem hi) (List.getElem?_eq_getElem hi')
    have t2 := T.2 j _ _ (List.getElem?_eq_getElem hj) (List.getElem?_eq_getElem hj')
    have := List.pairwise_iff_getElem.mp hA i j hi' hj' hij (by rw [← t1.2.2.1, ← t2.2.2.1, e])
    rw [e] at t1
    omega
  refine ⟨fun r hr => ?_, fun r hr => ?_⟩
  · obtain ⟨g, hg, e1, e2⟩ := hr
    rw [← hG] at hg
    obtain ⟨x, hx, rfl⟩ := List.mem_map.mp hg
    have hx' := List.mem_filter.mp hx
    obtain ⟨j, hj⟩ := List.mem_iff_getElem?.mp hx'.1
    have hj' : j < l.length := by rw [T.1]; exact idx_lt hj
    obtain ⟨q, hq⟩ := idx_some hj'
    obtain ⟨t1, t2, t3, t4⟩ := T.2 j q x hq hj
    have er : q.1 = r := by
      have hk : keyG x.2 = r.k := of_decide_eq_true hx'.2
      have hv := t4.uniq hn e2
      obtain ⟨⟨a, b, c⟩, d⟩ := q
      obtain ⟨a', b', c'⟩ := r
      simp only at t2 t3 hv e1 hk
      rw [t2, t3, hk, hv, e1]
    have hmem : (r, 1) ∈ l := by
      have h1 := List.mem_of_getElem? hq
      obtain ⟨q1, q2⟩ := q
      simp only at er t1
      rw [← er, ← t1]; exact h1
    exact cnt_mem hnd hmem
  · refine cnt_no fun hm => hr ?_
    obtain ⟨q, hq, e⟩ := List.mem_map.mp hm
    obtain ⟨j, hj⟩ := List.mem_iff_getElem?.mp hq
    have hj' : j < G.length := by rw [← T.1]; exact idx_lt hj
    obtain ⟨x, hx⟩ := idx_some hj'
    obtain ⟨t1, t2, t3, t4⟩ := T.2 j q x hj hx
    have hxm := List.mem_of_getElem? hx
    refine ⟨x.2, ?_, by rw [← e]; exact t2, by rw [← e]; exact t4⟩
    rw [← e, t3]
    exact (G_key h0 hC hne hG hxm).1
theorem atI_lastq {xs : List V} {x : V} (h : xs.getLast? = some x) : atI xs (-1) = some x := by
  rw [last_split h]
  exact atI_last _ _
theorem bag_last {H : Hp} {ys : List V} {g : Chs} (h : BagAt H ys g) {q : Row × Int} (hq : g.getLast? = some q) : ∃ y, ys.getLast? = some y ∧ PrAt H y q := by
  have hne : g ≠ [] := fun z => by rw [z] at hq; cases hq
  have hl : 0 < g.length := List.length_pos_iff.mpr hne
  rw [List.getLast?_eq_getElem?] at hq ⊢
  have hy : ys.length - 1 < ys.length := by rw [h.1]; omega
  obtain ⟨y, hy'⟩ := idx_some hy
  exact ⟨y, hy', h.2 _ y q hy' (by rw [h.1]; exact hq)⟩
end Tf
namespace Tf
open PySem PySem.Spec PyProof.Rows L2
/-! ### d.setdefault(key, x), the key a tuple -/
theorem d_setdT {X : Cx} {pins : List (Addr × Obj)} {σ : L2.St} {H : Hp} {s : Shared} {a b : Addr} {r : Value} {d : V} {k : List Key} {A : Around} {E : Value → Shared → Prop} {kvs : List (List Key × V)} {Q : Value → Shared → Prop}
    (hu : A.units + 1 < cLine) (I : L2.Inv X pins σ H s) (e : H a = some (.dT kvs)) (eb : H b = some (.tup (k.map kV))) (rd : L2.RelV d r) (hl : kvs.length < sizeLine)
    (h1 : ∀ v, valV kvs k = some v → ∀ w' s', L2.Inv X pins σ H s' → L2.RelV v w' → Q w' s') (h2 : valV kvs k = none → ∀ w' s', L2.Inv X pins σ (upd H a (.dT (putK kvs k d))) s' → L2.RelV d w' → Q w' s') :
    wpAny (model X.prog X.w) A (call (.builtin "dict.setdefault") [.ref a, .ref b, r]) Q E s := by
  obtain ⟨z, hd, xs, rel, dd⟩ := dt_of I.hok e
  have hz : xs.length ≤ sizeLine := by rw [← Paired.length rel]; exact z
  have q := KT.val rel k
  refine call_setdefault_heap (tupleKind_room_in1 hu) (key_of I.hok eb) hd dd (fun p hp => ?_) (fun hn h' dd' hs => ?_) hz
  · rw [hp] at q
    cases hv : valV kvs k with
    | none => rw [hv] at q; exact q.elim
    | some v0 =>
      rw [hv] at q
      exact h1 v0 hv _ _ (I.tok _) q
  · rw [hn] at q
    cases hv : valV kvs k with
    | some v0 => rw [hv] at q; exact q.elim
    | none =>
      have hl2 : (putK kvs k d).length ≤ sizeLine := by have := length_putK kvs k d; omega
      obtain ⟨o, es, ep, hq, g2, g3, g4, g5, g6⟩ := dd'
      refine h2 hv _ _ (d_write I (by rw [e]; trivial) hs ⟨o, hq⟩ ⟨hl2, hd, storedH xs k b r, KT.keeps (KT.put rel k eb rd) fun c ys ec => ?_, o, es, ep, hq, g2, g3, g4, g6⟩) rd
      rw [upd_ne (ne_of ec e fun z => nomatch z)]; exact ec
def tDSetdT (td ty tx : TE) : TE := fun σ H Q => td σ H fun x H1 => ∃ a, x = .ref a ∧ IsD H1 a ∧ ty σ H1 fun y H2 => tx σ H2 fun z H3 => ∃ (kvs : List (List Key × V)) (k : List Key) (b : Addr), H3 a = some (.dT kvs) ∧ y = .ref b ∧ H3 b = some (.tup (k.map kV)) ∧ kvs.length < sizeLine ∧
  (∀ v, valV kvs k = some v → Q v H3) ∧ (valV kvs k = none → Q z (upd H3 a (.dT (putK kvs k z))))
theorem pe_dsetdT {X : Cx} {o e f : Expr} {td ty tx : TE} {apos cpos : Pos} (hu : X.A.units + 1 < cLine) (ho : PE X o td) (he : PE X e ty) (hf : PE X f tx) (m : M2 X o "setdefault" apos e f cpos) : PE X (.Call (.Attribute o "setdefault" apos) [e, f] [] cpos) (tDSetdT td ty tx) := by
  refine ⟨fun pins s σ H Q I h => ?_⟩
  refine wpAny_Call_method m.base m.few m.line F.plainAttrs_dict F.slot_dict_setdefault F.type_dict_setdefault (thn (ho.run pins s σ H _ I h) fun u s1 x => ?_)
  obtain ⟨x1, H1, I1, rx, a, ex, d, q1⟩ := x
  subst ex
  cases rx
  obtain ⟨t1, t2⟩ := isD_at I1 d
  refine ⟨t1, t2.1, ?_⟩
  rw [m.trees]
  refine Calls.callWith_builtin rfl (Calls.evalArgs_plain (Calls.spliced_cons (thn (he.run pins s1 σ H1 _ I1 q1) fun iv s2 x => ?_)))
  obtain ⟨y, H2, I2, ry, q2⟩ := x
  refine Calls.spliced_cons (thn (hf.run pins s2 σ H2 _ I2 q2) fun fv s3 x => ?_)
  obtain ⟨z, H3, I3, rz, kvs, k, b, ea, ey, eb, hl, q3, q4⟩ := x
  subst ey
  cases ry
  refine Calls.spliced_nil ?_
  exact d_setdT hu I3 ea eb rz hl (fun v hv w' s' I' r' => ⟨v, H3, I', r', q3 v hv⟩) (fun hv w' s' I' r' => ⟨z, _, I', r', q4 hv⟩)
theorem for_keysT {d : Addr} {o : Obj} {kvs : List (List Key × V)} {g : TG} {tb : TS} {D : Ends} {σ : L2.St} {H : Hp} (Pv : Nat → L2.St → Hp → Prop) (h0 : Pv 0 σ H)
    (hl : ∀ i σ H, i ≤ kvs.length → Pv i σ H → H d = some (.frz o (.dT kvs)))
    (hs : ∀ i k v q σ H, kvs[i]? = some (k, v) → Pv i σ H → H q = some (.tup (k.map kV)) → g (.ref q) σ H fun σ2 H2 => tb { nx := Pv (i + 1), rt := D.rt, bk := D.nx, ct := Pv (i + 1) } σ2 H2)
    (hd : ∀ σ H, Pv kvs.length σ H → D.nx σ H) :
    ∃ W : Nat → Nat → L2.St → Hp → Prop, (∃ m, W 0 m σ H) ∧ ∀ i m σ H, W i m σ H → ((Itkt d o kvs).stop i H ∧ D.nx σ H) ∨ ((Itkt d o kvs).go i H ∧ ∃ N : L2.St → Hp → Prop, (∀ σ' H', N σ' H' → ∃ m', m' < m ∧ W (i + 1) m' σ' H') ∧
      ∀ x H', (Itkt d o kvs).yld i H x H' → g x σ H' fun σ2 H2 => tb { nx := N, rt := D.rt, bk := D.nx, ct := N } σ2 H2) := by
  refine ⟨fun i m σ H => i ≤ kvs.length ∧ m = kvs.length - i ∧ Pv i σ H, ⟨_, Nat.zero_le _, rfl, h0⟩, fun i m σ H hW => ?_⟩
  obtain ⟨h1, h2, h3⟩ := hW
  rcases Nat.lt_or_ge i kvs.length with lt | ge
  · refine .inr ⟨⟨hl i σ H h1 h3, lt⟩, Pv (i + 1), fun σ' H' h => ⟨_, by omega, by omega, rfl, h⟩, fun x H' hy => ?_⟩
    obtain ⟨rfl, k, v, q, e1, rfl, e2⟩ := hy
    exact hs i k v q σ H' e1 h3 e2
  · have e : i = kvs.length := Nat.le_antisymm h1 ge
    subst e
    exact .inl ⟨⟨hl _ σ H h1 h3, ge⟩, hd σ H h3⟩
/-! ### list(range(a, b, c)) -/
def rg3 (i c : Int) (n : Nat) : List V := (List.range n).map fun m : Nat => V.int (i + (m : Int) * c)
def tLstRg3 (ta : TA) : TE := fun σ H Q => ta σ H fun vs H1 => ∃ (i j c : Int) (n : Nat), vs = [.int i, .int j, .int c] ∧ RgC i j c n ∧ n ≤ 2 ^ 24 ∧ ∀ q, H1 q = none → Q (.ref q) (upd H1 q (.lst (rg3 i c n)))
theorem vals_rg3 {i c : Int} {n : Nat} {acc : Array Value} (h : ItemsOf (fun m v => ∃ t, v = Value.int (i + (m : Int) * c) t) acc n) : Vals (rg3 i c n) acc.toList := by
  have e : acc.toList.length = n := by rw [Array.length_toList]; exact h.1
  unfold rg3
  rw [← e]
  refine vals_of_get acc.toList (fun m : Nat => V.int (i + (m : Int) * c)) fun j u hj => ?_
  obtain ⟨t, rfl⟩ := h.2 j u (by rw [← Array.getElem?_toList]; exact hj)
  exact ⟨t, rfl⟩
theorem pe_listRg3 {X : Cx} {a b c : Expr} {ta : TA} {p p2 pos pos2 : Pos} (hc : X.calm = true) (hg : Gl X "list") (hm : X.mg "list" = none) (hg2 : Gl X "range") (hm2 : X.mg "range" = none) (ha : PA X [a, b, c] ta)
    (hs : starEach [a, b, c] X.env = (false, eval a X.env) :: starEach [b, c] X.env := by rfl) (hpl : ((backTo pos2 (starEach [b, c] X.env)).any fun x => x.1) = false := by rfl)
    (na : starEach [Expr.Call (.Name "range" p2) [a, b, c] [] pos2] X.env = (false, eval (Expr.Call (.Name "range" p2) [a, b, c] [] pos2) X.env) :: starEach [] X.env := by rfl) :
    PE X (.Call (.Name "list" p) [.Call (.Name "range" p2) [a, b, c] [] pos2] [] pos) (tLstRg3 ta) := by
  refine ⟨fun pins s σ H Q I h => ?_⟩
  refine Call_ (ld_blt I hg hm boot_list (callWith_type1 (args_cons (thn (Q := fun x s' => ∃ r i j k t u v n H', x = Value.ref r ∧ IsRange s'.heap r i j k t u v ∧ L2.Inv X pins σ H' s' ∧ RgC i j k n ∧ n ≤ 2 ^ 24 ∧ ∀ q, H' q = none → Q (.ref q) (upd H' q (.lst (rg3 i k n)))) (Call_ (ld_blt I hg2 hm2 boot_range (callWith_type1 (thn (ha.run pos2 pins s σ H _ I h) fun us s1 x => ?_) hs hpl) (by decide) (by decide)) rfl) fun x s1 hx => ?_) na) na rfl) (by decide) (by decide)) rfl
  · obtain ⟨vs, H1, I1, r1, i, j, k, n, rfl, ⟨c0, c1, c2, c3⟩, hn, q⟩ := x
    cases r1 with
    | cons ra rr =>
      cases rr with
      | cons rb rr =>
        cases rr with
        | cons rc rr =>
          cases rr
          obtain ⟨t, rfl⟩ := ra
          obtain ⟨t', rfl⟩ := rb
          obtain ⟨t'', rfl⟩ := rc
          refine call_range_3 c0 ⟨_, i, j, k, t, t', t'', n, H1, rfl, IsRange.new _ _ _ _ _ _ _, I1.kept fun b u e => Heap.get?_push_of_some _ e, ⟨c0, c1, c2, c3⟩, hn, q⟩ (.inl ?_)
          have hz : k.natAbs ≠ 0 := fun z => c0 (Int.natAbs_eq_zero.mp z)
          have h1 : k.natAbs.log2 < 30 := (Nat.log2_lt hz).mpr (by omega)
          have h2 : ¬ ((if (k == 0) = true then 0 else k.natAbs.log2 / 30 + 1) > 300) := by
            split <;> omega
          unfold Builtin.divisionGoesByPylong
          simp only [h2, decide_false, Bool.false_and]
  · obtain ⟨r, i, j, k, t, u, v, n, H1, rfl, hr, I1, ⟨c0, c1, c2, c3⟩, hn, q⟩ := hx
    refine args_nil ?_
    refine call_list_range (I1.ok.hd hc) hr c2 c3 hn fun h' tk acc c' hk e' hi => ?_
    refine ⟨.ref _, upd H1 _ (.lst (rg3 i k n)), I1.laid hk (Nat.le_refl _) ⟨?_, acc.toList, c', vals_rg3 hi, by rw [Array.toArray_toList]; exact e'⟩, rfl, q _ (I1.hok.fresh (Nat.le_refl _))⟩
    rw [show (rg3 i k n).length = n by unfold rg3; rw [List.length_map, List.length_range], sizeLine_eq]; exact hn
end Tf
set_option maxHeartbeats 4000000
namespace Tf
open PySem PySem.Spec PyProof.Rows L2 TL
/-! ### the windows of a time -/
def wFirst (size slide t : Int) : Int := -((size - 1 - t) / slide) * slide
def wMany (size slide t : Int) : Nat := if wFirst size slide t ≤ t then ((t - wFirst size slide t) / slide + 1).toNat else 0
def startsL (size slide t : Int) : List Int := (List.range (wMany size slide t)).map fun m : Nat => wFirst size slide t + (m : Int) * slide
def IsStart (size slide t s : Int) : Prop := slide ∣ s ∧ s ≤ t ∧ t ≤ s + size - 1
theorem wFirst_bd {size slide t : Int} (h : 1 ≤ slide) : t - size + 1 ≤ wFirst size slide t ∧ wFirst size slide t < t - size + 1 + slide := by
  unfold wFirst
  have h1 := Int.ediv_mul_le (size - 1 - t) (show slide ≠ 0 by omega)
  have h2 := Int.lt_ediv_add_one_mul_self (size - 1 - t) (show 0 < slide by omega)
  rw [Int.add_mul, Int.one_mul] at h2
  rw [Int.neg_mul]
  omega
theorem starts_mem {size slide t : Int} (h : 1 ≤ slide) (s : Int) : s ∈ startsL size slide t ↔ IsStart size slide t s := by
  have bd := wFirst_bd (size := size) (t := t) h
  have hd : slide ∣ wFirst size slide t := ⟨-((size - 1 - t) / slide), by unfold wFirst; rw [Int.mul_comm]⟩
  unfold startsL
  rw [List.mem_map]
  constructor
  · rintro ⟨m, hm, rfl⟩
    rw [List.mem_range] at hm
    have h0 : 0 ≤ (m : Int) * slide := Int.mul_nonneg (by omega) (by omega)
    refine ⟨Int.dvd_add hd ⟨m, by rw [Int.mul_comm]⟩, ?_, by omega⟩
    unfold wMany at hm
    split at hm
    · rename_i hf
      have h1 : (m : Int) ≤ (t - wFirst size slide t) / slide := by omega
      have := (Int.le_ediv_iff_mul_le (show 0 < slide by omega)).mp h1
      omega
    · omega
  · rintro ⟨⟨c, e⟩, h1, h2⟩
    obtain ⟨c0, e0⟩ := hd
    have e1 : s - wFirst size slide t = slide * (c - c0) := by rw [Int.mul_sub, ← e, ← e0]
    have hn : 0 ≤ c - c0 := by
      rcases Int.lt_or_le (c - c0) 0 with lt | ge
      · exfalso
        have : slide * (c - c0) ≤ slide * (-1) := Int.mul_le_mul_of_nonneg_left (by omega) (by omega)
        omega
      · exact ge
    have hs0 : 0 ≤ slide * (c - c0) := Int.mul_nonneg (by omega) hn
    refine ⟨(c - c0).toNat, ?_, ?_⟩
    · rw [List.mem_range]
      unfold wMany
      rw [if_pos (by omega)]
      have : c - c0 ≤ (t - wFirst size slide t) / slide := (Int.le_ediv_iff_mul_le (show 0 < slide by omega)).mpr (by rw [Int.mul_comm]; omega)
      omega
    · rw [show (((c - c0).toNat : Nat) : Int) = c - c0 by omega, Int.mul_comm]; omega
theorem starts_lt {size slide t : Int} (h : 1 ≤ slide) : (startsL size slide t).Pairwise (· < ·) := by
  unfold startsL
  rw [List.pairwise_map]
  refine List.pairwise_lt_range.imp fun {a b} lt => ?_
  have : (a : Int) * slide < (b : Int) * slide := Int.mul_lt_mul_of_pos_right (by omega) (by omega)
  omega
theorem starts_nodup {size slide t : Int} (h : 1 ≤ slide) : (startsL size slide t).Nodup := (starts_lt h).imp fun {a b} lt e => by omega
theorem wMany_le {size slide t : Int} (h : 1 ≤ slide) (hs : 0 ≤ size) : (wMany size slide t : Int) ≤ size := by
  have bd := wFirst_bd (size := size) (t := t) h
  unfold wMany
  split
  · have h1 : (t - wFirst size slide t) / slide ≤ t - wFirst size slide t := Int.ediv_le_self _ (by omega)
    omega
  · omega
theorem starts_len {size slide t : Int} (h : 1 ≤ slide) (hs : 0 ≤ size) : ((startsL size slide t).length : Int) ≤ size := by
  unfold startsL; rw [List.length_map, List.length_range]; exact wMany_le h hs
theorem starts_rgc {size slide t : Int} (h : 1 ≤ slide) (h1 : slide ≤ 100000) (h2 : 1 ≤ size) (h3 : size ≤ 100000) (h4 : -1000000000000 ≤ t) (h5 : t ≤ 1000000000000) : RgC (wFirst size slide t) (t + 1) slide (wMany size slide t) := by
  have bd := wFirst_bd (size := size) (t := t) h
  have hr : Builtin.Range.rangeSize (wFirst size slide t) (t + 1) slide = (wMany size slide t : Int) := by
    unfold Builtin.Range.rangeSize wMany
    rw [if_pos (show slide > 0 by omega)]
    split
    · rename_i hf
      have : 0 ≤ (t - wFirst size slide t) / slide := Int.ediv_nonneg (by omega) (by omega)
      rw [if_pos (by omega), show t + 1 - wFirst size slide t - 1 = t - wFirst size slide t by omega]; omega
    · rw [if_neg (by omega)]; rfl
  have hw := wMany_le (t := t) h (show 0 ≤ size by omega)
  refine ⟨by omega, by omega, ?_, hr⟩
  unfold Builtin.Range.small
  rw [hr]
  unfold Builtin.Range.rangeFitsLong
  simp only [Bool.and_eq_true, Bool.or_eq_true, decide_eq_true_eq]
  rw [if_pos (show slide > 0 by omega)]
  simp only [decide_eq_true_eq, Bool.and_eq_true]
  omega
def spStarts : Sp := fun vs H Q _ => ∃ (t size slide : Int), vs = [.int t, .int size, .int slide] ∧ 1 ≤ slide ∧ slide ≤ 100000 ∧ 1 ≤ size ∧ size ≤ 100000 ∧ -1000000000000 ≤ t ∧ t ≤ 1000000000000 ∧
  ∀ p, H p = none → Q (.ref p) (upd H p (.lst ((startsL size slide t).map V.int)))
theorem rg3_starts (size slide t : Int) : rg3 (wFirst size slide t) slide (wMany size slide t) = (startsL size slide t).map V.int := by
  unfold rg3 startsL
  rw [List.map_map]; rfl
end Tf
set_option maxHeartbeats 4000000
namespace Tf
open PySem PySem.Spec PyProof.Rows L2 TL
/-! ### groups of rows by window and key -/
abbrev Wt := List ((Int × Str) × Addr × Chs)
def wk (p : Int × Str) : List Key := [.inl p.1, .inr p.2]
theorem wk_inj {p q : Int × Str} (h : wk p = wk q) : p = q := by
  obtain ⟨a, b⟩ := p
  obtain ⟨c, d⟩ := q
  unfold wk at h
  have h1 := (List.cons.inj h).1
  have h2 := (List.cons.inj (List.cons.inj h).2).1
  have e1 : a = c := Sum.inl.inj h1
  have e2 : b = d := Sum.inr.inj h2
  rw [e1, e2]
def dW (G : Wt) : List (List Key × V) := G.map fun p => (wk p.1, V.ref p.2.1)
theorem dW_len (G : Wt) : (dW G).length = G.length := List.length_map ..
theorem dW_get {G : Wt} {i : Nat} {p : (Int × Str) × Addr × Chs} (h : G[i]? = some p) : (dW G)[i]? = some (wk p.1, V.ref p.2.1) := by
  unfold dW; rw [List.getElem?_map, h]; rfl
theorem dW_no {G : Wt} {k : Int × Str} (h : ∀ p ∈ G, p.1 ≠ k) : valV (dW G) (wk k) = none := by
  unfold valV
  rw [show (dW G).find? (fun kv => decide (kv.1 = wk k)) = none from List.find?_eq_none.mpr fun kv hk => by
    obtain ⟨p, hp, rfl⟩ := List.mem_map.mp hk
    exact fun e => h p hp (wk_inj (of_decide_eq_true e))]
  rfl
theorem dW_yes {G : Wt} (hn : (G.map (·.1)).Nodup) {p : (Int × Str) × Addr × Chs} (h : p ∈ G) : valV (dW G) (wk p.1) = some (V.ref p.2.1) := by
  induction G with
  | nil => exact absurd h List.not_mem_nil
  | cons q G ih =>
    unfold valV
    have e : dW (q :: G) = (wk q.1, V.ref q.2.1) :: dW G := rfl
    rw [e, List.find?_cons]
    rw [List.map_cons, List.nodup_cons] at hn
    rcases List.mem_cons.mp h with rfl | h'
    · rw [decide_eq_true rfl]; rfl
    · have hne : ¬ wk q.1 = wk p.1 := fun z => hn.1 (by rw [wk_inj z]; exact List.mem_map_of_mem h')
      rw [decide_eq_false hne]
      exact ih hn.2 h'
theorem dW_put {G : Wt} {k : Int × Str} (h : ∀ p ∈ G, p.1 ≠ k) (a : Addr) (c : Chs) : putK (dW G) (wk k) (V.ref a) = dW (G ++ [(k, a, c)]) := by
  unfold putK
  rw [if_neg]
  · unfold dW; rw [List.map_append]; rfl
  · intro z
    obtain ⟨kv, hk, e⟩ := List.any_eq_true.mp z
    obtain ⟨p, hp, rfl⟩ := List.mem_map.mp hk
    exact h p hp (wk_inj (of_decide_eq_true e))
/-- a row more in a group -/
def addW (G : Wt) (k : Int × Str) (p0 : Row × Int) : Wt := G.map fun p => if p.1 = k then (p.1, p.2.1, p.2.2 ++ [p0]) else p
theorem addW_at (G : Wt) (k : Int × Str) (p0 : Row × Int) : dW (addW G k p0) = dW G := by
  unfold addW dW
  rw [List.map_map]
  refine List.map_congr_left fun p _ => ?_
  show (wk (if p.1 = k then (p.1, p.2.1, p.2.2 ++ [p0]) else p).1, V.ref (if p.1 = k then (p.1, p.2.1, p.2.2 ++ [p0]) else p).2.1) = _
  split <;> rfl
theorem addW_keys (G : Wt) (k : Int × Str) (p0 : Row × Int) : (addW G k p0).map (·.1) = G.map (·.1) := by
  unfold addW
  rw [List.map_map]
  refine List.map_congr_left fun p _ => ?_
  show (if p.1 = k then (p.1, p.2.1, p.2.2 ++ [p0]) else p).1 = _
  split <;> rfl
theorem addW_addr (G : Wt) (k : Int × Str) (p0 : Row × Int) : (addW G k p0).map (·.2.1) = G.map (·.2.1) := by
  unfold addW
  rw [List.map_map]
  refine List.map_congr_left fun p _ => ?_
  show (if p.1 = k then (p.1, p.2.1, p.2.2 ++ [p0]) else p).2.1 = _
  split <;> rfl
theorem addW_len (G : Wt) (k : Int × Str) (p0 : Row × Int) : (addW G k p0).length = G.length := List.length_map ..
theorem addW_mem {G : Wt} {k : Int × Str} {p0 : Row × Int} {q : (Int × Str) × Addr × Chs} (h : q ∈ addW G k p0) : ∃ p ∈ G, (p.1 = k ∧ q = (p.1, p.2.1, p.2.2 ++ [p0])) ∨ (p.1 ≠ k ∧ q = p) := by
  obtain ⟨p, hp, e⟩ := List.mem_map.mp h
  refine ⟨p, hp, ?_⟩
  by_cases e1 : p.1 = k
  · rw [if_pos e1] at e; exact .inl ⟨e1, e.symm⟩
  · rw [if_neg e1] at e; exact .inr ⟨e1, e.symm⟩
theorem nodup_inj {α β : Type} {f : α → β} : ∀ {l : List α}, (l.map f).Nodup → ∀ {x y : α}, x ∈ l → y ∈ l → f x = f y → x = y
  | [], _, _, _, h, _, _ => absurd h List.not_mem_nil
  | a :: l, h, x, y, hx, hy, e => by
    rw [List.map_cons, List.nodup_cons] at h
    rcases List.mem_cons.mp hx with e1 | h1
    · rcases List.mem_cons.mp hy with e2 | h2
      · rw [e1, e2]
      · refine absurd ?_ h.1
        rw [← e1, e]; exact List.mem_map_of_mem h2
    · rcases List.mem_cons.mp hy with e2 | h2
      · refine absurd ?_ h.1
        rw [← e2, ← e]; exact List.mem_map_of_mem h1
      · exact nodup_inj h.2 h1 h2 e
/-- the groups hold just what f says -/
structure WInv (slide : Int) (f : Int → Str → Chs) (G : Wt) : Prop where
  keys : (G.map (·.1)).Nodup
  has : ∀ p ∈ G, slide ∣ p.1.1 ∧ p.2.2 = f p.1.1 p.1.2 ∧ p.2.2 ≠ []
  all : ∀ s k, slide ∣ s → f s k ≠ [] → ∃ p ∈ G, p.1 = (s, k)
theorem WInv.nil (slide : Int) {f : Int → Str → Chs} (h : ∀ s k, slide ∣ s → f s k = []) : WInv slide f [] := ⟨List.nodup_nil, fun p hp => absurd hp List.not_mem_nil, fun s k hs hf => absurd (h s k hs) hf⟩
theorem WInv.congr {slide : Int} {f f' : Int → Str → Chs} {G : Wt} (h : WInv slide f G) (e : ∀ s k, slide ∣ s → f s k = f' s k) : WInv slide f' G :=
  ⟨h.keys, fun p hp => by
    obtain ⟨a, b, c⟩ := h.has p hp
    exact ⟨a, by rw [b, e _ _ a], c⟩, fun s k hs hf => h.all s k hs (by rw [e s k hs]; exact hf)⟩
theorem WInv.put {slide : Int} {f : Int → Str → Chs} {G : Wt} (h : WInv slide f G) {p : (Int × Str) × Addr × Chs} (hp : p ∈ G) (p0 : Row × Int) : WInv slide (fun s k => f s k ++ if (s, k) = p.1 then [p0] else []) (addW G p.1 p0) := by
  refine ⟨by rw [addW_keys]; exact h.keys, fun q hq => ?_, fun s k hs hf => ?_⟩
  · obtain ⟨q', hq', ⟨e1, rfl⟩ | ⟨e1, rfl⟩⟩ := addW_mem hq
    · obtain ⟨a, b, c⟩ := h.has q' hq'
      refine ⟨a, ?_, ?_⟩
      · show q'.2.2 ++ [p0] = _
        rw [if_pos e1, b]
      · show q'.2.2 ++ [p0] ≠ []
        exact fun z => by have := congrArg List.length z; rw [List.length_append] at this; simp at this
    · obtain ⟨a, b, c⟩ := h.has q hq'
      exact ⟨a, by rw [if_neg e1, List.append_nil]; exact b, c⟩
  · have key : ∃ q ∈ G, q.1 = (s, k) := by
      by_cases e : (s, k) = p.1
      · exact ⟨p, hp, e.symm⟩
      · rw [if_neg e, List.append_nil] at hf
        exact h.all s k hs hf
    obtain ⟨q, hq, e⟩ := key
    refine ⟨if q.1 = p.1 then (q.1, q.2.1, q.2.2 ++ [p0]) else q, List.mem_map_of_mem hq, ?_⟩
    split <;> exact e
theorem WInv.new {slide : Int} {f : Int → Str → Chs} {G : Wt} (h : WInv slide f G) {key : Int × Str} (hd : slide ∣ key.1) (hno : ∀ p ∈ G, p.1 ≠ key) (a : Addr) (p0 : Row × Int) : WInv slide (fun s k => f s k ++ if (s, k) = key then [p0] else []) (G ++ [(key, a, [p0])]) := by
  have hf0 : f key.1 key.2 = [] := by
    refine Classical.byContradiction fun z => ?_
    obtain ⟨p, hp, e⟩ := h.all key.1 key.2 hd z
    exact hno p hp e
  refine ⟨?_, fun q hq => ?_, fun s k hs hf => ?_⟩
  · rw [List.map_append, List.nodup_append]
    refine ⟨h.keys, List.nodup_cons.mpr ⟨List.not_mem_nil, List.nodup_nil⟩, fun x hx y hy => ?_⟩
    obtain ⟨p, hp, rfl⟩ := List.mem_map.mp hx
    rw [show y = key from List.mem_singleton.mp hy]
    exact hno p hp
  · rcases List.mem_append.mp hq with hq | hq
    · obtain ⟨x, y, z⟩ := h.has q hq
      exact ⟨x, by rw [if_neg (hno q hq), List.append_nil]; exact y, z⟩
    · rw [List.mem_singleton.mp hq]
      refine ⟨hd, ?_, fun z => by cases z⟩
      show [p0] = f key.1 key.2 ++ if key = key then [p0] else []
      rw [if_pos rfl, hf0]; rfl
  · by_cases e : (s, k) = key
    · exact ⟨_, List.mem_append_right _ (List.mem_singleton.mpr rfl), e.symm⟩
    · rw [if_neg e, List.append_nil] at hf
      obtain ⟨p, hp, e1⟩ := h.all s k hs hf
      exact ⟨p, List.mem_append_left _ hp, e1⟩
/-! ### a row of the result -/
def WinRow (size slide : Int) (name : Str) (m : Chs) (r : Row) : Prop := slide ∣ (r.t - size + 1) ∧ sel m r.k (r.t - size + 1) r.t ≠ [] ∧ IsAgg name (sel m r.k (r.t - size + 1) r.t) r.v
def ToldW (size : Int) (name : Str) (l : Chs) (G : Wt) : Prop := l.length = G.length ∧ ∀ (j : Nat) q x, l[j]? = some q → G[j]? = some x → q.2 = 1 ∧ q.1.t = x.1.1 + size - 1 ∧ q.1.k = x.1.2 ∧ IsAgg name x.2.2 q.1.v
theorem toldW_tab {size slide : Int} {m : Chs} {G : Wt} (I : WInv slide (fun s k => sel m k s (s + size - 1)) G) {name : Str} (hn : name ∈ aggN) {l : Chs} (T : ToldW size name l G) : Tab l (WinRow size slide name m) := by
  have hnd : (l.map (·.1)).Nodup := by
    have hA := I.keys
    rw [List.Nodup, List.pairwise_map, List.pairwise_iff_getElem] at hA ⊢
    intro i j hi hj hij e
    have hi' : i < G.length := by rw [← T.1]; exact hi
    have hj' : j < G.length := by rw [← T.1]; exact hj
    have t1 := T.2 i _ _ (List.getElem?_eq_getElem hi) (List.getElem?_eq_getElem hi')
    have t2 := T.2 j _ _ (List.getElem?_eq_getElem hj) (List.getElem?_eq_getElem hj')
    refine hA i j hi' hj' hij (Prod.ext ?_ ?_)
    · have h1 := t1.2.1
      have h2 := t2.2.1
      rw [e] at h1
      omega
    · rw [← t1.2.2.1, ← t2.2.2.1, e]
  refine ⟨fun r hr => ?_, fun r hr => ?_⟩
  · obtain ⟨h1, h2, h3⟩ := hr
    have ee : r.t - size + 1 + size - 1 = r.t := by omega
    obtain ⟨x, hx, ex⟩ := I.all (r.t - size + 1) r.k h1 (by show sel m r.k (r.t - size + 1) (r.t - size + 1 + size - 1) ≠ []; rw [ee]; exact h2)
    obtain ⟨_, hc, _⟩ := I.has x hx
    obtain ⟨j, hj⟩ := List.mem_iff_getElem?.mp hx
    have hj' : j < l.length := by rw [T.1]; exact idx_lt hj
    obtain ⟨q, hq⟩ := idx_some hj'
    obtain ⟨t1, t2, t3, t4⟩ := T.2 j q x hq hj
    have er : q.1 = r := by
      rw [ex] at t2 t3 hc
      have hc' : x.2.2 = sel m r.k (r.t - size + 1) (r.t - size + 1 + size - 1) := hc
      rw [ee] at hc'
      rw [hc'] at t4
      have hv := t4.uniq hn h3
      obtain ⟨⟨a, b, c⟩, d⟩ := q
      obtain ⟨a', b', c'⟩ := r
      simp only at t2 t3 hv
      rw [show a = a' by omega, t3, hv]
    have hmem : (r, 1) ∈ l := by
      have h1 := List.mem_of_getElem? hq
      obtain ⟨q1, q2⟩ := q
      simp only at er t1
      rw [← er, ← t1]; exact h1
    exact cnt_mem hnd hmem
  · refine cnt_no fun hm => hr ?_
    obtain ⟨q, hq, e⟩ := List.mem_map.mp hm
    obtain ⟨j, hj⟩ := List.mem_iff_getElem?.mp hq
    have hj' : j < G.length := by rw [← T.1]; exact idx_lt hj
    obtain ⟨x, hx⟩ := idx_some hj'
    obtain ⟨t1, t2, t3, t4⟩ := T.2 j q x hj hx
    obtain ⟨a, b, c⟩ := I.has x (List.mem_of_getElem? hx)
    rw [← e]
    have e1 : q.1.t - size + 1 = x.1.1 := by omega
    have e2 : sel m q.1.k (q.1.t - size + 1) q.1.t = x.2.2 := by
      rw [b, t3, e1, t2]
    refine ⟨by rw [e1]; exact a, by rw [e2]; exact c, by rw [e2]; exact t4⟩
/-- the selection grows by a row -/
theorem sel_snoc (l : Chs) (p : Row × Int) (k : Str) (a b : Int) : sel (l ++ [p]) k a b = sel l k a b ++ if p.1.k = k ∧ a ≤ p.1.t ∧ p.1.t ≤ b then [p] else [] := by
  unfold sel
  rw [List.filter_append, List.filter_cons, List.filter_nil]
  congr 1
  by_cases h1 : p.1.k = k <;> by_cases h2 : a ≤ p.1.t <;> by_cases h3 : p.1.t ≤ b <;> simp [h1, h2, h3]
/-- in the midst of a row's windows -/
def cont (size : Int) (l : Chs) (p0 : Row × Int) (ss : List Int) (s : Int) (k : Str) : Chs := sel l k s (s + size - 1) ++ if k = p0.1.k ∧ s ∈ ss then [p0] else []
theorem cont_nil (size : Int) (l : Chs) (p0 : Row × Int) (s : Int) (k : Str) : cont size l p0 [] s k = sel l k s (s + size - 1) := by
  unfold cont
  rw [if_neg fun z => absurd z.2 List.not_mem_nil, List.append_nil]
theorem cont_all {size slide : Int} (h : 1 ≤ slide) (l : Chs) (p0 : Row × Int) {s : Int} (hs : slide ∣ s) (k : Str) : cont size l p0 (startsL size slide p0.1.t) s k = sel (l ++ [p0]) k s (s + size - 1) := by
  unfold cont
  rw [sel_snoc]
  congr 1
  have : (k = p0.1.k ∧ s ∈ startsL size slide p0.1.t) ↔ (p0.1.k = k ∧ s ≤ p0.1.t ∧ p0.1.t ≤ s + size - 1) := by
    rw [starts_mem h]
    exact ⟨fun z => ⟨z.1.symm, z.2.2.1, z.2.2.2⟩, fun z => ⟨z.1.symm, hs, z.2.1, z.2.2⟩⟩
  by_cases e : k = p0.1.k ∧ s ∈ startsL size slide p0.1.t
  · rw [if_pos e, if_pos (this.mp e)]
  · rw [if_neg e, if_neg fun z => e (this.mpr z)]
theorem cont_step {size : Int} (l : Chs) (p0 : Row × Int) {ss : List Int} {s0 : Int} (h : s0 ∉ ss) (s : Int) (k : Str) : (cont size l p0 ss s k ++ if (s, k) = (s0, p0.1.k) then [p0] else []) = cont size l p0 (ss ++ [s0]) s k := by
  unfold cont
  rw [List.append_assoc]
  congr 1
  by_cases e1 : k = p0.1.k
  · by_cases e2 : s = s0
    · subst e1 e2
      rw [if_neg fun z => h z.2, if_pos rfl, if_pos ⟨rfl, List.mem_append_right _ (List.mem_singleton.mpr rfl)⟩]; rfl
    · rw [if_neg fun z : (s, k) = (s0, p0.1.k) => e2 (Prod.mk.inj z).1, List.append_nil]
      by_cases e3 : s ∈ ss
      · rw [if_pos ⟨e1, e3⟩, if_pos ⟨e1, List.mem_append_left _ e3⟩]
      · rw [if_neg fun z => e3 z.2, if_neg fun z => (List.mem_append.mp z.2).elim e3 fun y => e2 (List.mem_singleton.mp y)]
  · rw [if_neg fun z => e1 z.1, if_neg fun z : (s, k) = (s0, p0.1.k) => e1 (Prod.mk.inj z).2, if_neg fun z => e1 z.1]; rfl
theorem cont_len (size : Int) (l : Chs) (p0 : Row × Int) (ss : List Int) (s : Int) (k : Str) : (cont size l p0 ss s k).length ≤ l.length + 1 := by
  unfold cont sel
  rw [List.length_append]
  have := List.length_filter_le (fun p : Row × Int => decide (p.1.k = k) && (decide (s ≤ p.1.t) && decide (p.1.t ≤ s + size - 1))) l
  split
  · show _ + 1 ≤ _; omega
  · show _ + 0 ≤ _; omega
theorem WInv.lenc {slide size : Int} {l : Chs} {p0 : Row × Int} {ss : List Int} {G : Wt} (h : WInv slide (cont size l p0 ss) G) {q : (Int × Str) × Addr × Chs} (hq : q ∈ G) : q.2.2.length ≤ l.length + 1 := by
  rw [(h.has q hq).2.1]; exact cont_len ..
/-! ### in the heap -/
def WAt (H : Hp) (G : Wt) : Prop := ∀ p ∈ G, ∃ ys, H p.2.1 = some (.lst ys) ∧ BagAt H ys p.2.2
theorem WAt.put {H : Hp} {G : Wt} (h : WAt H G) (hk : (G.map (·.1)).Nodup) (ha : (G.map (·.2.1)).Nodup) {p : (Int × Str) × Addr × Chs} (hp : p ∈ G) {ys : List V} (hy : H p.2.1 = some (.lst ys)) {x : V} {p0 : Row × Int} (hx : PrAt H x p0) : WAt (upd H p.2.1 (.lst (ys ++ [x]))) (addW G p.1 p0) := by
  have kT : TupUp H (upd H p.2.1 (.lst (ys ++ [x]))) := TupUp.lst (xs := ys) hy
  intro q hq
  obtain ⟨q', hq', ⟨e1, rfl⟩ | ⟨e1, rfl⟩⟩ := addW_mem hq
  · have : q' = p := nodup_inj hk hq' hp e1
    subst this
    obtain ⟨zs, hz, B⟩ := h q' hq'
    rw [hy] at hz
    have ez : zs = ys := by cases hz; rfl
    subst ez
    exact ⟨_, upd_same, (B.mono kT).snoc (hx.mono kT)⟩
  · obtain ⟨zs, hz, B⟩ := h q hq'
    refine ⟨zs, ?_, B.mono kT⟩
    rw [upd_ne fun e => e1 (by rw [nodup_inj ha hq' hp e])]; exact hz
theorem WAt.keep {H H' : Hp} {G : Wt} (h : WAt H G) (k : ∀ b xs, H b = some (.lst xs) → (∃ p ∈ G, p.2.1 = b) → H' b = some (.lst xs)) (kT : TupUp H H') : WAt H' G := fun p hp => by
  obtain ⟨ys, hy, B⟩ := h p hp
  exact ⟨ys, k _ _ hy ⟨p, hp, rfl⟩, B.mono kT⟩
/-! ### promises -/
def spWindows (K : PySem.W.Frag) : Sp := fun vs H Q _ => ∃ (a : Addr) (xs : List V) (m : Chs) (size slide : Int) (name : Str), vs = [.ref a, .int size, .int slide, .str name] ∧ SqL K H a xs ∧ BagAt H xs m ∧ Canon m ∧ m.length ≤ 60 ∧ (∀ p ∈ m, 1 ≤ p.2 ∧ p.2 ≤ 1000) ∧ (∀ p ∈ m, -1000000000000 ≤ p.1.t ∧ p.1.t ≤ 1000000000000) ∧ 1 ≤ slide ∧ slide ≤ 1000 ∧ 1 ≤ size ∧ size ≤ 1000 ∧ name ∈ aggN ∧
  ∀ (p : Addr) (ys : List V) (n : Chs) (H' : Hp), Same H H' → H p = none → H' p = some (.lst ys) → BagAt H' ys n → Canon n → (n.length : Int) ≤ m.length * size → Tab n (WinRow size slide name m) → Q (.ref p) H'
def spLWindows (K : PySem.W.Frag) : Sp := fun vs H Q _ => ∃ (a : Addr) (xs : List V) (m : Chs) (size slide : Int) (name : Str), vs = [.ref a, .int size, .int slide, .str name] ∧ SqL K H a xs ∧ BagAt H xs m ∧ Canon m ∧ m.length ≤ 60 ∧ (∀ p ∈ m, 1 ≤ p.2 ∧ p.2 ≤ 1000) ∧ (∀ p ∈ m, -100 ≤ p.1.t ∧ p.1.t ≤ 100) ∧ 1 ≤ slide ∧ slide ≤ 1000 ∧ 1 ≤ size ∧ size ≤ 100 ∧ name ∈ aggN ∧
  ∀ (p : Addr) (ys : List V) (n : Chs) (H' : Hp), Same H H' → H p = none → H' p = some (.lst ys) → BagAt H' ys n → Canon n → Tab n (WinRow size slide name m) → Q (.ref p) H'
theorem ints_eq {H : Hp} {a b : Addr} {ns : List Int} (ha : H a = some (.lst (ns.map V.int))) (hb : H b = some (.lst (ns.map V.int))) (hl : ns.length ≤ 1000) : Eq2 H 3 (.ref a) (.ref b) := by
  refine .inr ⟨false, a, b, _, _, rfl, rfl, ha, hb, rfl, by rw [List.length_map]; exact hl, fun i u w hu hw => ?_⟩
  rw [hu] at hw
  have e := Option.some.inj hw
  subst e
  rw [List.getElem?_map] at hu
  cases hq : ns[i]? with
  | none => rw [hq] at hu; cases hu
  | some z =>
    rw [hq] at hu
    have e : V.int z = u := Option.some.inj hu
    subst e
    exact Eq2.base (.inl ⟨_, rfl, rfl⟩)
/-- what the law counts one by one -/
def rngW (lo : Int) (n : Nat) : List Int := (List.range n).map fun i : Nat => lo + (i : Int)
theorem rngW_len (lo : Int) (n : Nat) : (rngW lo n).length = n := by unfold rngW; rw [List.length_map, List.length_range]
theorem rngW_succ (lo : Int) (n : Nat) : rngW lo (n + 1) = rngW lo n ++ [lo + (n : Int)] := by unfold rngW; rw [List.range_succ, List.map_append]; rfl
theorem due_starts {size slide t : Int} (h : 1 ≤ slide) : (rngW (t - size + 1) (t + 1 - (t - size + 1)).toNat).filter (fun s => decide (s % slide = 0)) = startsL size slide t := by
  refine sorted_uniq (R := (· < ·)) (fun a b k g => by omega) ?_ (starts_lt h) fun s => ?_
  · refine List.Pairwise.filter _ ?_
    unfold rngW
    rw [List.pairwise_map]
    exact List.pairwise_lt_range.imp fun {a b} lt => by omega
  · rw [starts_mem h, List.mem_filter, decide_eq_true_iff]
    unfold rngW IsStart
    rw [List.mem_map]
    constructor
    · rintro ⟨⟨i, hi, rfl⟩, h2⟩
      rw [List.mem_range] at hi
      exact ⟨Int.dvd_of_emod_eq_zero h2, by omega, by omega⟩
    · rintro ⟨h1, h2, h3⟩
      exact ⟨⟨(s - (t - size + 1)).toNat, List.mem_range.mpr (by omega), by omega⟩, Int.emod_eq_zero_of_dvd h1⟩
end Tf
set_option maxHeartbeats 8000000
namespace Tf
open PySem PySem.Spec PyProof.Rows L2 TL
def topS (i : Nat) : Stmt := PySem.Challenge.pw_tidefold_k43_windows_are_counted.main.body.getD i (.Pass ⟨0, 0, 0, 0⟩)
abbrev s_next : Stmt := (topS 9)
abbrev n_next : List Str := ["draw", "many", "found", "cell"]
theorem sc_next : FnScope n_next ["draw", "many"] (defScope s_next) := ⟨rfl, rfl, rfl, by decide +kernel, rfl, by decide +kernel, by decide +kernel⟩
abbrev s_same : Stmt := (topS 10)
abbrev n_same : List Str := ["actual", "due", "k"]
theorem sc_same : FnScope n_same ["actual", "due"] (defScope s_same) := ⟨rfl, rfl, rfl, by decide +kernel, rfl, by decide +kernel, by decide +kernel⟩
abbrev s_draw : Stmt := (topS 8)
abbrev n_draw : List Str := ["script"]
theorem sc_draw : FnScope n_draw ["script"] (defScope s_draw) := ⟨rfl, rfl, rfl, by decide +kernel, rfl, by decide +kernel, by decide +kernel⟩
section
variable {P : Program} {w : World} {K : PySem.W.Frag} {mg : Str → Option Value} {base : Heap}
set_option maxHeartbeats 8000000 in
theorem ok_next {f : Addr} {fd : FuncData} (D : DefAt K mg "_law_next" s_next ["draw", "many"] f fd) (z_int : mg "int" = none) (z_len : mg "len" = none) (z_abs : mg "abs" = none) :
    FnOk P w K mg base CX0 1 f fd ["draw", "many"] spNext := by
  refine D.F.ok sc_next (fun vs H Q E h => ?_) (fun cdv A outer s H vs Q E hr h => ?_)
  · obtain ⟨d, sc, m, rfl, _⟩ := h
    rfl
  obtain ⟨d, sc, m, rfl, h1, h2, ⟨ns, i, big, st, hd, hs, hne, hb, hst0, hst1⟩, q⟩ := h
  refine ⟨_, (pss_cons (ps_if (pt_cmpR op_gt (pe_ix ix_list (pv 0) pe_int (fun _ _ => rfl)) pe_int (nomark _)) (pss_cons (ps_set (i := 2) sc_next.nd rfl (by first | exact Or.inl rfl | exact Or.inr rfl) (pe_op op_mod (pe_callTy call_int1 (by rfl) z_int boot_int (pa_cons (pe_ix ix_list (pv 0) pe_int (fun _ _ => rfl)) pa_nil)) (pv 1))) (pss_cons (ps_asg (pe_op op_fdiv (pe_ix ix_list (pv 0) pe_int (fun _ _ => rfl)) (pv 1)) (pg_sub (pv 0) pe_int set_list)) (pss_one (ps_ret (pv 2))))) pss_nil) (pss_cons (ps_if (pt_cmpR op_lt (pe_ix ix_list (pv 0) pe_int (fun _ _ => rfl)) (pe_callB call_len_seq (by rfl) z_len boot_len (pa_cons (pe_ix ix_list (pv 0) pe_int (fun _ _ => rfl)) pa_nil)) (nomark _)) (pss_cons (ps_set (i := 3) sc_next.nd rfl (by first | exact Or.inl rfl | exact Or.inr rfl) (pe_callB call_abs (by rfl) z_abs boot_abs (pa_cons (pe_ix ix_list (pe_ix ix_list (pv 0) pe_int (fun _ _ => rfl)) (pe_ix ix_list (pv 0) pe_int (fun _ _ => rfl)) (fun _ _ => rfl)) pa_nil))) (pss_cons (ps_asg (pe_op op_add (pe_ix ix_list (pv 0) pe_int (fun _ _ => rfl)) pe_int) (pg_sub (pv 0) pe_int set_list)) (pss_cons (ps_if (pt_cmpR op_ge (pv 3) (pe_op op_pow pe_int pe_int) (nomark _)) (pss_cons (ps_asg (pe_op op_fdiv (pv 3) (pv 1)) (pg_sub (pv 0) pe_int set_list)) (pss_one (ps_ret (pe_op op_mod (pe_callTy call_int1 (by rfl) z_int boot_int (pa_cons (pv 3) pa_nil)) (pv 1))))) pss_nil) (pss_one (ps_asg (pe_op op_mod (pe_callTy call_int1 (by rfl) z_int boot_int (pa_cons (pe_op op_add (pe_op op_add (pe_op op_mul (pe_ix ix_list (pv 0) pe_int (fun _ _ => rfl)) pe_int) (pv 3)) pe_int) pa_nil)) pe_int) (pg_sub (pv 0) pe_int set_list)))))) (pss_one (ps_asg (pe_op op_mod (pe_callTy call_int1 (by rfl) z_int boot_int (pa_cons (pe_op op_add (pe_op op_mul (pe_ix ix_list (pv 0) pe_int (fun _ _ => rfl)) pe_int) pe_int) pa_nil)) pe_int) (pg_sub (pv 0) pe_int set_list)))) (pss_one (ps_ret (pe_op op_mod (pe_op op_fdiv (pe_callTy call_int1 (by rfl) z_int boot_int (pa_cons (pe_op op_mod (pe_op op_mul (pe_ix ix_list (pv 0) pe_int (fun _ _ => rfl)) pe_int) pe_int) pa_nil)) pe_int) (pv 1)))))), ?_⟩
  have fin : ∀ (H0 H1 : Hp) (i' big' st' : Int) (j : Nat), Up d H H0 → H0 sc = some (.lst (ns.map V.int)) → i' = j → 0 ≤ big' → 0 ≤ st' → st' < 2147483647 → H1 = upd H0 d (.lst [.ref sc, .int i', .int big', .int st']) → Dr sc H1 d ∧ Up d H H1 := by
    intro H0 H1 i' big' st' j u0 e0 ei e1 e2 e3 e4
    subst ei e4
    exact ⟨⟨ns, j, big', st', upd_same, by rw [upd_ne hne]; exact e0, hne, e1, e2, e3⟩, u0.trans Up.at⟩
  have em : ∀ a b : Int, 0 < b → 0 ≤ a % b ∧ a % b < b := fun a b hb => ⟨Int.emod_nonneg a (by omega), Int.emod_lt_of_pos a hb⟩
  -- if draw[2] > 0
  refine ⟨_, rfl, d, _, _, _, rfl, rfl, .of hd, rfl, _, _, rfl, rfl, _, rfl, ite2 (fun e => ?_) (fun e => ?_)⟩
  · refine ⟨_, rfl, d, _, _, _, rfl, rfl, .of hd, rfl, .inl ⟨_, rfl, ?_⟩⟩
    refine ⟨_, rfl, _, _, rfl, rfl, (by show (0:Int) < m; omega), ?_⟩
    refine ⟨_, rfl, d, _, _, _, rfl, rfl, .of hd, rfl, _, rfl, _, _, rfl, rfl, ⟨by omega, by omega⟩, _, rfl, d, _, _, 2, rfl, rfl, hd, rfl, _, rfl, ?_⟩
    obtain ⟨r1, r2⟩ := fin H _ i (big / m) st i Up.refl hs rfl (Int.ediv_nonneg hb (by omega)) hst0 hst1 rfl
    exact q _ _ (em big m (by omega)).1 (em big m (by omega)).2 r1 r2
  have last : ∀ (H1 : Hp) (i' big' st' : Int) (j : Nat), Up d H H1 → H1 sc = some (.lst (ns.map V.int)) → i' = j → 0 ≤ big' → 0 ≤ st' → st' < 2147483647 → H1 d = some (.lst [.ref sc, .int i', .int big', .int st']) → ∀ x : Int, Q (.int (x % m)) H1 := by
    intro H1 i' big' st' j u0 e0 ei e1 e2 e3 e4 x
    subst ei
    exact q _ _ (em x m (by omega)).1 (em x m (by omega)).2 ⟨ns, j, big', st', e4, e0, hne, e1, e2, e3⟩ u0
  -- if draw[1] < len(draw[0])
  refine ⟨_, rfl, d, _, _, _, rfl, rfl, .of hd, rfl, _, rfl, d, _, _, _, rfl, rfl, .of hd, rfl, sc, _, rfl, .inl (.of hs), _, _, rfl, rfl, _, rfl, ite2 (fun e => ?_) (fun e => ?_)⟩
  · have hi : i < ns.length := by
      have e' := of_decide_eq_true e
      rw [List.length_map] at e'
      omega
    -- cell = abs(draw[0][draw[1]])
    refine ⟨_, rfl, d, _, _, _, rfl, rfl, .of hd, rfl, _, rfl, d, _, _, _, rfl, rfl, .of hd, rfl, sc, _, _, _, rfl, rfl, .of hs, atI_nat (j := i) (v := .int ns[i]) (by rw [List.getElem?_map, List.getElem?_eq_getElem hi]; rfl), _, rfl, ?_⟩
    -- draw[1] = draw[1] + 1
    refine ⟨_, rfl, d, _, _, _, rfl, rfl, .of hd, rfl, _, _, rfl, rfl, _, rfl, d, _, _, 1, rfl, rfl, hd, rfl, ?_⟩
    have hs1 : ∀ o, upd H d o sc = some (.lst (ns.map V.int)) := fun o => by rw [upd_ne hne]; exact hs
    have c0 : (0 : Int) ≤ (if ns[i] < 0 then -ns[i] else ns[i]) := by split <;> omega
    generalize (if ns[i] < 0 then -ns[i] else ns[i]) = c at c0
    -- if cell >= 10 ** 18
    refine ⟨_, rfl, _, _, rfl, rfl, ⟨by decide, by decide, by decide⟩, _, _, rfl, rfl, _, rfl, ite2 (fun e => ?_) (fun e => ?_)⟩
    · refine ⟨_, rfl, _, rfl, _, _, rfl, rfl, ⟨by omega, by omega⟩, _, rfl, d, _, _, 2, rfl, rfl, upd_same, rfl, ?_⟩
      refine ⟨_, rfl, .inl ⟨_, rfl, _, rfl, _, _, rfl, rfl, (by show (0:Int) < m; omega), ?_⟩⟩
      refine last _ ((i : Int) + 1) (c / m) st (i + 1) (Up.at.trans Up.at) (by rw [upd_ne hne]; exact hs1 _) (by omega) (Int.ediv_nonneg c0 (by omega)) hst0 hst1 upd_same _
    · refine ⟨_, rfl, d, _, _, _, rfl, rfl, .of upd_same, rfl, _, _, rfl, rfl, .inr ⟨by decide, by decide⟩, _, rfl, _, _, rfl, rfl, _, _, rfl, rfl, .inl ⟨_, rfl, _, _, rfl, rfl, (by show (0:Int) < _; decide), _, rfl, d, _, _, 3, rfl, rfl, upd_same, rfl, ?_⟩⟩
      refine ⟨_, rfl, d, _, _, _, rfl, rfl, .of upd_same, rfl, _, _, rfl, rfl, .inr ⟨by decide, by decide⟩, _, _, rfl, rfl, (by show (0:Int) < _; decide), .inl ⟨_, rfl, _, _, rfl, rfl, ⟨by decide, by decide⟩, _, rfl, _, _, rfl, rfl, (by show (0:Int) < m; omega), ?_⟩⟩
      have e3 := em (st * 48271 + c + 11) 2147483647 (by decide)
      exact last _ ((i : Int) + 1) big _ (i + 1) (Up.at.trans Up.at) (by rw [upd_ne hne]; exact hs1 _) (by omega) hb e3.1 e3.2 upd_same _
  · refine ⟨_, rfl, d, _, _, _, rfl, rfl, .of hd, rfl, _, _, rfl, rfl, .inr ⟨by decide, by decide⟩, _, _, rfl, rfl, .inl ⟨_, rfl, _, _, rfl, rfl, (by show (0:Int) < _; decide), _, rfl, d, _, _, 3, rfl, rfl, hd, rfl, ?_⟩⟩
    refine ⟨_, rfl, d, _, _, _, rfl, rfl, .of upd_same, rfl, _, _, rfl, rfl, .inr ⟨by decide, by decide⟩, _, _, rfl, rfl, (by show (0:Int) < _; decide), .inl ⟨_, rfl, _, _, rfl, rfl, ⟨by decide, by decide⟩, _, rfl, _, _, rfl, rfl, (by show (0:Int) < m; omega), ?_⟩⟩
    have e3 := em (st * 48271 + 12345) 2147483647 (by decide)
    exact last _ (i : Int) big _ i Up.at (by rw [upd_ne hne]; exact hs) rfl hb e3.1 e3.2 upd_same _
theorem same0 {f : Addr} {fd : FuncData} : FnOk P w K mg base CX0 0 f fd ["actual", "due"] (spS 0) := by
  have no : ∀ vs H Q E, ¬ spS 0 vs H Q E := fun vs H Q E h => by
    obtain ⟨n, x, y, e, _⟩ := h
    omega
  exact ⟨fun vs H Q E h => absurd h (no vs H Q E), fun A outer s H args us vs Q E _ _ _ _ h => absurd h (no vs H Q E)⟩
theorem ok_same1 {f : Addr} {fd : FuncData} {k : Nat} (D_same : DefAt K mg "_law_same" s_same ["actual", "due"] f fd) (G_same : FnOk P w K mg base CX0 k f fd ["actual", "due"] (spS k))
    (z_isinstance : mg "isinstance" = none) (z_list : mg "list" = none) (z_tuple : mg "tuple" = none) (z_bool : mg "bool" = none) (z_str : mg "str" = none) (z_int : mg "int" = none) (z_len : mg "len" = none) (z_all : mg "all" = none) (z_range : mg "range" = none) :
    FnOk P w K mg base CX0 (k + 1) f fd ["actual", "due"] (spS (k + 1)) := by
  refine D_same.F.ok sc_same (fun vs H Q E h => ?_) (fun cdv A outer s H vs Q E hr h => ?_)
  · obtain ⟨n, x, y, _, rfl, _⟩ := h
    rfl
  obtain ⟨n, x, y, hk, rfl, he, q⟩ := h
  obtain rfl : k = n := by omega
  refine ⟨_, (pss_cons (ps_if (pt_val (pe_callB call_isiT (by rfl) z_isinstance boot_isinstance (pa_cons (pv 1) (pa_cons (pe_tup (pa_cons (pe_bltn (v := .ty "list") (by rfl) z_list boot_list rfl) (pa_cons (pe_bltn (v := .ty "tuple") (by rfl) z_tuple boot_tuple rfl) pa_nil))) pa_nil)))) (pss_cons (ps_if (PW.pt (pw_or (pt_cmpR op_ne (pe_callB call_isi (by rfl) z_isinstance boot_isinstance (pa_cons (pv 1) (pa_cons (pe_bltn (v := .ty "list") (by rfl) z_list boot_list rfl) pa_nil))) (pe_callB call_isi (by rfl) z_isinstance boot_isinstance (pa_cons (pv 0) (pa_cons (pe_bltn (v := .ty "list") (by rfl) z_list boot_list rfl) pa_nil))) (nomark _)) (pw_or1 (pt_cmpR op_ne (pe_callB call_isi (by rfl) z_isinstance boot_isinstance (pa_cons (pv 1) (pa_cons (pe_bltn (v := .ty "tuple") (by rfl) z_tuple boot_tuple rfl) pa_nil))) (pe_callB call_isi (by rfl) z_isinstance boot_isinstance (pa_cons (pv 0) (pa_cons (pe_bltn (v := .ty "tuple") (by rfl) z_tuple boot_tuple rfl) pa_nil))) (nomark _))))) (pss_one (ps_ret pe_bl)) pss_nil) (pss_cons (ps_if (pt_cmpR op_ne (pe_callB call_len_seq (by rfl) z_len boot_len (pa_cons (pv 0) pa_nil)) (pe_callB call_len_seq (by rfl) z_len boot_len (pa_cons (pv 1) pa_nil)) (nomark _)) (pss_one (ps_ret pe_bl)) pss_nil) (pss_one (ps_ret (pe_callB (cr_all rfl) (by rfl) z_all boot_all (pa_cons (pe_lc (own := [("k", 2)]) (g := gName 2) (tt := tYes) (by rfl) sc_same.nd (pi_range1 (by rfl) z_range (pa_cons (pe_callB call_len_seq (by rfl) z_len boot_len (pa_cons (pv 1) pa_nil)) pa_nil)) (blkOk_by (own := [("k", 2)]) (N := n_same) (sc := defScope s_same) (by decide +kernel)) (fun _ _ _ _ _ => (pg_name (i := 2) sc_same.nd rfl (by first | exact Or.inl rfl | exact Or.inr rfl))) (fun _ _ _ _ _ => pts_nil) (fun _ _ _ _ _ => (pe_call G_same (hr.mono (by omega)) (by rfl) D_same.m D_same.F.kp D_same.b .nil pass0 (pa_cons (pe_ix (r := rIx K) ix_seq (pv 0) (pv 2) (fun _ _ => rfl)) (pa_cons (pe_ix (r := rIx K) ix_seq (pv 1) (pv 2) (fun _ _ => rfl)) pa_nil))))) pa_nil)))))) pss_nil) (pss_cons (ps_if (pt_cmpR op_isN (pv 1) pe_non (nomark _)) (pss_one (ps_ret (pe_cmpR op_isN (pv 0) pe_non (nomark _)))) pss_nil) (pss_cons (ps_if (pt_cmpR op_ne (pe_callB call_isi (by rfl) z_isinstance boot_isinstance (pa_cons (pv 1) (pa_cons (pe_bltn (v := .ty "bool") (by rfl) z_bool boot_bool rfl) pa_nil))) (pe_callB call_isi (by rfl) z_isinstance boot_isinstance (pa_cons (pv 0) (pa_cons (pe_bltn (v := .ty "bool") (by rfl) z_bool boot_bool rfl) pa_nil))) (nomark _)) (pss_one (ps_ret pe_bl)) pss_nil) (pss_cons (ps_if (pt_val (pe_callB call_isi (by rfl) z_isinstance boot_isinstance (pa_cons (pv 1) (pa_cons (pe_bltn (v := .ty "str") (by rfl) z_str boot_str rfl) pa_nil)))) (pss_one (ps_ret (pe_and (pe_callB call_isi (by rfl) z_isinstance boot_isinstance (pa_cons (pv 0) (pa_cons (pe_bltn (v := .ty "str") (by rfl) z_str boot_str rfl) pa_nil))) (pe_one (pe_cmpR op_eq (pv 0) (pv 1) (nomark _)))))) pss_nil) (pss_one (ps_ret (pe_and (pe_callB call_isi (by rfl) z_isinstance boot_isinstance (pa_cons (pv 0) (pa_cons (pe_bltn (v := .ty "int") (by rfl) z_int boot_int rfl) pa_nil))) (pe_one (pe_cmpR op_eq (pv 0) (pv 1) (nomark _)))))))))), ?_⟩
  have two : (2 : Nat) ≤ sizeLine := by decide
  have cls2 : Paired ClsV [V.ty "list", V.ty "tuple"] [Value.type "list", Value.type "tuple"] := .cons (.ty "list") (.cons (.ty "tuple") .nil)
  have he' : Eq0 x y ∨ ∃ (k' : Nat) (t : Bool) (a b : Addr) (xs ys : List V), k = k' + 1 ∧ x = .ref a ∧ y = .ref b ∧ SeqH H t a xs ∧ SeqH H t b ys ∧ xs.length = ys.length ∧ ys.length ≤ 1000 ∧ ∀ (i : Nat) u v, xs[i]? = some u → ys[i]? = some v → Eq2 H k' u v := by
    cases k with
    | zero => exact .inl he
    | succ k =>
      rcases he with h | ⟨t, a, b, xs, ys, h⟩
      · exact .inl h
      · exact .inr ⟨k, t, a, b, xs, ys, rfl, h⟩
  rcases he' with (⟨i, rfl, rfl⟩ | ⟨z, rfl, rfl⟩ | ⟨rfl, rfl⟩) | ⟨k', t, a, b, xs, ys, rfl, rfl, rfl, h1, h2, h3, h4, h5⟩
  · refine ⟨_, rfl, two, fun tp np => ⟨_, tp, _, _, _, false, rfl, upd_same, cls2, .base (.int i), kit_no K "int" (by decide +kernel) (by decide +kernel), _, rfl, iteF ?_⟩⟩
    refine ⟨_, rfl, rfl, _, rfl, ite2 (fun e => nomatch of_decide_eq_true e) (fun _ => ?_)⟩
    refine ⟨_, rfl, _, _, _, _, false, rfl, .ty "bool", .base (.int i), kit_ty (by decide +kernel), _, rfl, _, _, _, _, false, rfl, .ty "bool", .base (.int i), kit_ty (by decide +kernel), rfl, _, rfl, iteNS rfl ?_⟩
    refine ⟨_, rfl, _, _, _, _, false, rfl, .ty "str", .base (.int i), kit_ty (by decide +kernel), _, rfl, iteF ?_⟩
    refine ⟨_, rfl, _, _, _, _, true, rfl, .ty "int", .base (.int i), kit_ty (by decide +kernel), _, rfl, iteT ⟨_, rfl, _, rfl, rfl, ?_⟩⟩
    rw [decide_eq_true rfl]
    exact q _ (same_new np _)
  · refine ⟨_, rfl, two, fun tp np => ⟨_, tp, _, _, _, false, rfl, upd_same, cls2, .base (.str z), kit_no K "str" (by decide +kernel) (by decide +kernel), _, rfl, iteF ?_⟩⟩
    refine ⟨_, rfl, rfl, _, rfl, ite2 (fun e => nomatch of_decide_eq_true e) (fun _ => ?_)⟩
    refine ⟨_, rfl, _, _, _, _, false, rfl, .ty "bool", .base (.str z), kit_ty (by decide +kernel), _, rfl, _, _, _, _, false, rfl, .ty "bool", .base (.str z), kit_ty (by decide +kernel), rfl, _, rfl, iteNS rfl ?_⟩
    refine ⟨_, rfl, _, _, _, _, true, rfl, .ty "str", .base (.str z), kit_ty (by decide +kernel), _, rfl, iteT ?_⟩
    refine ⟨_, rfl, _, _, _, _, true, rfl, .ty "str", .base (.str z), kit_ty (by decide +kernel), _, rfl, iteT ⟨_, rfl, _, rfl, rfl, ?_⟩⟩
    rw [decide_eq_true rfl]
    exact q _ (same_new np _)
  · refine ⟨_, rfl, two, fun tp np => ⟨_, tp, _, _, _, false, rfl, upd_same, cls2, .base .non, kit_no K "NoneType" (by decide +kernel) (by decide +kernel), _, rfl, iteF ?_⟩⟩
    refine ⟨_, rfl, rfl, _, rfl, ite2 (fun e => ?_) (fun e => absurd (decide_eq_true rfl) e)⟩
    refine ⟨_, rfl, rfl, ?_⟩
    rw [decide_eq_true rfl]
    exact q _ (same_new np _)
  · refine ⟨_, rfl, two, fun tp np => ?_⟩
    have s1 := same_new np (.tup [V.ty "list", V.ty "tuple"])
    have h1' : SeqH _ t a xs := s1 _ _ h1
    have h2' : SeqH _ t b ys := s1 _ _ h2
    refine ⟨_, tp, _, _, _, true, rfl, upd_same, cls2, seq_ty h2', kit_seq K t, _, rfl, iteT ?_⟩
    refine ⟨_, rfl, _, _, _, _, _, rfl, .ty "list", seq_ty h2', kit_l K t, _, rfl, _, _, _, _, _, rfl, .ty "list", seq_ty h1', kit_l K t, rfl, _, rfl, iteNS rfl ?_⟩
    refine ⟨_, rfl, _, _, _, _, _, rfl, .ty "tuple", seq_ty h2', kit_t K t, _, rfl, _, _, _, _, _, rfl, .ty "tuple", seq_ty h1', kit_t K t, rfl, _, rfl, iteNS rfl ?_⟩
    refine ⟨_, rfl, a, _, rfl, seq_or h1', _, rfl, b, _, rfl, seq_or h2', rfl, _, rfl, iteNS (congrArg (fun n : Nat => V.int (n : Int)) h3) ?_⟩
    refine ⟨_, rfl, b, _, rfl, seq_or h2', _, rfl, by omega, by omega, fun Dl nD => ?_⟩
    refine lc_range (lo := 0) (n := ys.length) (fun i H' => H' Dl = some (.lst ((List.replicate i true).map V.bl)) ∧ Same (upd H tp (.tup [V.ty "list", V.ty "tuple"])) H') ⟨upd_same, same_new nD _⟩ (fun i H' hi hP => ?_) (fun H' hP => ?_)
    · obtain ⟨p1, p2⟩ := hP
      obtain ⟨u, hu⟩ : ∃ u, xs[i]? = some u := ⟨_, List.getElem?_eq_getElem (by omega)⟩
      obtain ⟨v, hv⟩ : ∃ v, ys[i]? = some v := ⟨_, List.getElem?_eq_getElem hi⟩
      refine ⟨rfl, ?_⟩
      refine ⟨_, rfl, _, rfl, rix_of (p2 _ _ h1') (Int.zero_add _) hu ⟨_, rfl, _, rfl, rix_of (p2 _ _ h2') (Int.zero_add _) hv ?_⟩⟩
      refine ⟨k', u, v, rfl, rfl, ((h5 i u v hu hv).mono s1).mono p2, fun H4 s4 => ?_⟩
      refine ⟨_, s4 _ _ p1, small1000 (by rw [List.length_map, List.length_replicate]; omega), ?_, fun b o eb => ?_⟩
      · rw [upd_same, List.replicate_succ', List.map_append]
        rfl
      · rw [upd_ne (ne_of_none eb nD)]
        exact s4 _ _ (p2 _ _ eb)
    · obtain ⟨p1, p2⟩ := hP
      refine ⟨Dl, List.replicate ys.length true, rfl, .of p1, ?_⟩
      have e : (List.replicate ys.length true).all id = true := by simp
      rw [e]
      exact q _ (fun b o eb => p2 _ _ (s1 _ _ eb))
theorem ok_same {f : Addr} {fd : FuncData} (D_same : DefAt K mg "_law_same" s_same ["actual", "due"] f fd)
    (z_isinstance : mg "isinstance" = none) (z_list : mg "list" = none) (z_tuple : mg "tuple" = none) (z_bool : mg "bool" = none) (z_str : mg "str" = none) (z_int : mg "int" = none) (z_len : mg "len" = none) (z_all : mg "all" = none) (z_range : mg "range" = none) :
    ∀ k : Nat, FnOk P w K mg base CX0 k f fd ["actual", "due"] (spS k)
  | 0 => same0
  | k + 1 => ok_same1 D_same (ok_same D_same z_isinstance z_list z_tuple z_bool z_str z_int z_len z_all z_range k) z_isinstance z_list z_tuple z_bool z_str z_int z_len z_all z_range
theorem ok_draw {f : Addr} {fd : FuncData} (D : DefAt K mg "_law_draw" s_draw ["script"] f fd) (z_list : mg "list" = none) : FnOk P w K mg base CX0 1 f fd ["script"] (spDraw K) := by
  refine D.F.ok sc_draw (fun vs H Q E h => ?_) (fun cdv A outer s H vs Q E hr h => ?_)
  · obtain ⟨a, ns, rfl, _⟩ := h
    rfl
  obtain ⟨a, ns, rfl, hS, h63, q⟩ := h
  refine ⟨_, (pss_one (ps_ret (pe_lst (pa_cons (pe_callTy call_list_of (by rfl) z_list boot_list (pa_cons (pv 0) pa_nil)) (pa_cons pe_int (pa_cons pe_int (pa_cons pe_int pa_nil))))))), ?_⟩
  refine ⟨_, rfl, a, _, rfl, .inl hS, fun l nl => ⟨(by show 4 ≤ sizeLine; decide), fun d nd => ?_⟩⟩
  have nld : l ≠ d := fun e => by rw [e] at nd; rw [upd_same] at nd; cases nd
  refine q d l _ ?_ ⟨ns, 0, 0, 17, upd_same, by rw [upd_ne nld]; exact upd_same, nld, by decide, by decide, by decide⟩ fun b o eb => ?_
  · cases e : H d with
    | none => rfl
    | some o =>
      rw [upd_ne nld.symm, e] at nd
      cases nd
  · have h1 : b ≠ l := ne_of_none eb nl
    rw [upd_ne (ne_of_none (by rw [upd_ne h1]; exact eb) nd), upd_ne h1]
    exact eb
end
end Tf
set_option maxHeartbeats 8000000
namespace Tf
open PySem PySem.Spec PyProof.Rows L2 TL
abbrev s_add : Stmt := (topS 11)
abbrev n_add : List Str := ["counts", "row", "count"]
theorem sc_add : FnScope n_add ["counts", "row", "count"] (defScope s_add) := ⟨rfl, rfl, rfl, by decide +kernel, rfl, by decide +kernel, by decide +kernel⟩
abbrev s_bag_of : Stmt := (topS 12)
abbrev n_bag_of : List Str := ["counts", "row"]
theorem sc_bag_of : FnScope n_bag_of ["counts"] (defScope s_bag_of) := ⟨rfl, rfl, rfl, by decide +kernel, rfl, by decide +kernel, by decide +kernel⟩
abbrev s_row : Stmt := (topS 13)
abbrev n_row : List Str := ["draw", "first", "span", "key"]
theorem sc_row : FnScope n_row ["draw", "first", "span"] (defScope s_row) := ⟨rfl, rfl, rfl, by decide +kernel, rfl, by decide +kernel, by decide +kernel⟩
abbrev s_bag : Stmt := (topS 14)
abbrev n_bag : List Str := ["draw", "many", "first", "span", "counts", "k"]
theorem sc_bag : FnScope n_bag ["draw", "many", "first", "span"] (defScope s_bag) := ⟨rfl, rfl, rfl, by decide +kernel, rfl, by decide +kernel, by decide +kernel⟩
abbrev s_sum : Stmt := (topS 15)
abbrev n_sum : List Str := ["one", "two", "counts", "row", "count"]
theorem sc_sum : FnScope n_sum ["one", "two"] (defScope s_sum) := ⟨rfl, rfl, rfl, by decide +kernel, rfl, by decide +kernel, by decide +kernel⟩
abbrev s_lless : Stmt := (topS 16)
abbrev n_lless : List Str := ["one", "two", "row", "count"]
theorem sc_lless : FnScope n_lless ["one", "two"] (defScope s_lless) := ⟨rfl, rfl, rfl, by decide +kernel, rfl, by decide +kernel, by decide +kernel⟩
section
variable {P : Program} {w : World} {K : PySem.W.Frag} {mg : Str → Option Value} {base : Heap}
theorem ok_add {f : Addr} {fd : FuncData} (D : DefAt K mg "_law_add" s_add ["counts", "row", "count"] f fd) : FnOk P w K mg base CX0 1 f fd ["counts", "row", "count"] spAdd := by
  refine D.F.ok sc_add (fun vs H Q E h => ?_) (fun cdv A outer s H vs Q E hr h => ?_)
  · obtain ⟨d, q, c, as, r, rfl, _⟩ := h
    rfl
  obtain ⟨d, q, c, as, r, rfl, hd, hn, hq, hl, k⟩ := h
  refine ⟨_, (pss_one (ps_dput (hu_of hr) (pv 0) (pv 1) (pe_op op_add (pe_dget2 (hu_of hr) (pv 0) (pv 1) pe_int ⟨rfl, rfl, rfl, rfl⟩) (pv 2)) rfl)), ?_⟩
  refine ⟨_, rfl, d, rfl, isD_t hd, _, rfl, _, DGet.t (k := rowK r) hd hq, _, rfl, cnt as r, c, dT_getD hn r, rfl, _, rfl, _, rfl, d, _, rfl, DPut.t (k := rowK r) hd hq (by rw [dT_len]; exact size_le (by omega)), ?_⟩
  rw [dT_put hn]
  exact k
theorem ok_bag_of {f : Addr} {fd : FuncData} (D : DefAt K mg "_law_bag_of" s_bag_of ["counts"] f fd) (z_sorted : mg "sorted" = none) : FnOk P w K mg base CX0 1 f fd ["counts"] spBagOf := by
  refine D.F.ok sc_bag_of (fun vs H Q E h => ?_) (fun cdv A outer s H vs Q E hr h => ?_)
  · obtain ⟨d, as, rfl, _⟩ := h
    rfl
  obtain ⟨d, as, rfl, hd, hn, hl, k⟩ := h
  refine ⟨_, (pss_one (ps_ret (pe_lc (own := [("row", 1)]) (g := gName 1)  (by rfl) sc_bag_of.nd (pi_list (pe_callB (cr_sortD rfl hr.units) (by rfl) z_sorted boot_sorted (pa_cons (pv 0) pa_nil))) (blkOk_by (own := [("row", 1)]) (N := n_bag_of) (sc := defScope s_bag_of) (by decide +kernel)) (fun _ _ _ _ _ => (pg_name (i := 1) sc_bag_of.nd rfl (by first | exact Or.inl rfl | exact Or.inr rfl))) (fun _ _ _ _ _ => (pts_one (pt_cmpR op_ne (pe_dget (hu_of hr) (pv 0) (pv 1) (fun _ _ => rfl)) pe_int (nomark _)))) (fun _ _ _ _ _ => (pe_tup (pa_cons (pv 1) (pa_cons (pe_dget (hu_of hr) (pv 0) (pv 1) (fun _ _ => rfl)) pa_nil))))))), ?_⟩
  refine ⟨_, rfl, d, as, rfl, hd, hn, fun rs qs p hp hs hq np => ?_⟩
  refine ⟨p, rfl, ⟨_, .of upd_same⟩, fun Dl nD => ?_⟩
  have hlen : rs.length = as.length := by rw [hp.length_eq, keys_len]
  refine lc_list (xs := qs) (fun i H' => (∃ acc, H' Dl = some (.lst acc) ∧ BagAt H' acc (takeC as (rs.take i))) ∧ Same (upd H p (.lst qs)) H') ⟨⟨[], upd_same, BagAt.nil⟩, same_new nD _⟩ (fun i H' _ hP => .of (hP.2 _ _ upd_same)) (fun i x H' hx hP => ?_) (fun H' hP => ?_)
  · obtain ⟨⟨acc, b1, b2⟩, b3⟩ := hP
    have b4 : Same H H' := (same_new np _).trans b3
    obtain ⟨r, hr'⟩ := idx_some (l := rs) (i := i) (by rw [← hq.1]; exact idx_lt hx)
    obtain ⟨a, rfl, ha⟩ := hq.2 i x r hx hr'
    have hk : r ∈ keysA as := hp.mem_iff.mp (List.mem_of_getElem? hr')
    have g : DGet H' d (.ref a) (some (.int (cnt as r))) := dgr (b4 _ _ hd) hn (b4 _ _ ha) hk
    have et : takeC as (rs.take (i + 1)) = takeC as (rs.take i) ++ (if cnt as r ≠ 0 then [(r, cnt as r)] else []) := by
      rw [List.take_add_one, hr']; exact takeC_snoc as _ r
    refine ⟨rfl, ?_⟩
    refine ⟨_, rfl, _, rfl, d, _, rfl, g, rfl, _, rfl, ?_⟩
    rw [ne0]
    refine ite2 (fun e => ?_) (fun e => ?_)
    · have e' := of_decide_eq_true e
      rw [if_pos e'] at et
      refine ⟨_, rfl, _, rfl, _, rfl, d, _, rfl, g, (by show 2 ≤ sizeLine; decide), fun t nt => ?_⟩
      have n1 : Dl ≠ t := ne_of_none b1 nt
      refine ⟨acc, by rw [upd_ne n1]; exact b1, size_le ?_, ⟨⟨_, upd_same, ?_⟩, fun b o eb => ?_⟩⟩
      · rw [b2.1]
        have := takeC_len as (rs.take i)
        rw [List.length_take] at this
        omega
      · rw [et]
        have k5 : TupUp H' (upd (upd H' t (.tup [.ref a, .int (cnt as r)])) Dl (.lst (acc ++ [.ref t]))) := (TupUp.new nt).trans (TupUp.lst (xs := acc) (by rw [upd_ne n1]; exact b1))
        exact (b2.mono k5).snoc ⟨t, a, rfl, by rw [upd_ne n1.symm]; exact upd_same, k5 _ _ (b4 _ _ ha)⟩
      · have nb : b ≠ Dl := ne_of_none eb nD
        rw [upd_ne nb, upd_ne (ne_of_none (b3 _ _ eb) nt)]
        exact b3 _ _ eb
    · rw [if_neg (fun z => e (decide_eq_true z)), List.append_nil] at et
      rw [et]
      exact ⟨⟨acc, b1, b2⟩, b3⟩
  · obtain ⟨⟨acc, b1, b2⟩, b3⟩ := hP
    rw [hq.1, List.take_length] at b2
    refine k Dl acc _ H' ((same_new np _).trans b3) (Same.none (same_new np _) nD) b1 b2 (take_norm hn hp hs) ?_
    have := takeC_len as rs
    omega
theorem ok_row {f fn : Addr} {fd fnd : FuncData} (D : DefAt K mg "_law_row" s_row ["draw", "first", "span"] f fd) (D_next : DefAt K mg "_law_next" s_next ["draw", "many"] fn fnd) (G_next : FnOk P w K mg base CX0 1 fn fnd ["draw", "many"] spNext) :
    FnOk P w K mg base CX0 2 f fd ["draw", "first", "span"] spRow := by
  refine D.F.ok sc_row (fun vs H Q E h => ?_) (fun cdv A outer s H vs Q E hr h => ?_)
  · obtain ⟨d, sc, f, s, rfl, _⟩ := h
    rfl
  obtain ⟨d, sc, first, span, rfl, hD, s1, s2, k⟩ := h
  refine ⟨_, (pss_cons (ps_set (i := 3) sc_row.nd rfl (by first | exact Or.inl rfl | exact Or.inr rfl) (pe_ix ix_list (pe_lst (pa_cons pe_str (pa_cons pe_str (pa_cons pe_str pa_nil)))) (pe_call G_next (hr.mono (by omega)) (by rfl) D_next.m D_next.F.kp D_next.b .nil pass0 (pa_cons (pv 0) (pa_cons pe_int pa_nil))) (fun _ _ => rfl))) (pss_one (ps_ret (pe_tup (pa_cons (pe_op op_add (pv 1) (pe_call G_next (hr.mono (by omega)) (by rfl) D_next.m D_next.F.kp D_next.b .nil pass0 (pa_cons (pv 0) (pa_cons (pv 2) pa_nil)))) (pa_cons (pv 3) (pa_cons (pe_op op_sub (pe_call G_next (hr.mono (by omega)) (by rfl) D_next.m D_next.F.kp D_next.b .nil pass0 (pa_cons (pv 0) (pa_cons pe_int pa_nil))) pe_int) pa_nil))))))), ?_⟩
  refine ⟨(by show 3 ≤ sizeLine; decide), fun l nl => ?_⟩
  refine ⟨_, rfl, d, sc, 3, rfl, by decide, by decide, hD.new nl, fun i H1 i0 i1 hD1 hU1 => ?_⟩
  obtain ⟨g, hg, e⟩ := pickS (xs := rkeyS) i0 (by exact i1)
  refine ⟨l, _, i, _, rfl, rfl, .of (hU1 _ _ (hD.ne nl) upd_same), e, ?_⟩
  refine ⟨_, rfl, _, rfl, _, rfl, d, sc, span, rfl, s1, s2, hD1, fun j H2 j0 j1 hD2 hU2 => ?_⟩
  refine ⟨_, _, rfl, rfl, _, rfl, ?_⟩
  refine ⟨_, rfl, d, sc, 9, rfl, by decide, by decide, hD2, fun v H3 v0 v1 hD3 hU3 => ?_⟩
  refine ⟨_, _, rfl, rfl, (by show 3 ≤ sizeLine; decide), fun t nt => ?_⟩
  have u3 : Up d H H3 := (((Up.new nl).trans hU1).trans hU2).trans hU3
  refine k t ⟨first + j, g, v - 4⟩ _ (u3.free hD3 nt) upd_same ⟨?_, ?_, hg, ?_, ?_⟩ (hD3.new nt) (u3.trans (Up.new nt))
  · show first ≤ first + j; omega
  · show first + j < first + span; omega
  · show -4 ≤ v - 4; omega
  · show v - 4 ≤ 4; omega
theorem ok_bag {f fn fa fr fb : Addr} {fd fnd fad frd fbd : FuncData} (D : DefAt K mg "_law_bag" s_bag ["draw", "many", "first", "span"] f fd) (D_next : DefAt K mg "_law_next" s_next ["draw", "many"] fn fnd) (G_next : FnOk P w K mg base CX0 1 fn fnd ["draw", "many"] spNext)
    (D_add : DefAt K mg "_law_add" s_add ["counts", "row", "count"] fa fad) (G_add : FnOk P w K mg base CX0 1 fa fad ["counts", "row", "count"] spAdd) (D_row : DefAt K mg "_law_row" s_row ["draw", "first", "span"] fr frd) (G_row : FnOk P w K mg base CX0 2 fr frd ["draw", "first", "span"] spRow)
    (D_bag_of : DefAt K mg "_law_bag_of" s_bag_of ["counts"] fb fbd) (G_bag_of : FnOk P w K mg base CX0 1 fb fbd ["counts"] spBagOf) (z_range : mg "range" = none) :
    FnOk P w K mg base CX0 3 f fd ["draw", "many", "first", "span"] spBag := by
  refine D.F.ok sc_bag (fun vs H Q E h => ?_) (fun cdv A outer s H vs Q E hr h => ?_)
  · obtain ⟨d, sc, m, f, s, rfl, _⟩ := h
    rfl
  obtain ⟨d, sc, many, first, span, rfl, hD, s1, s2, m0, m1, k⟩ := h
  refine ⟨_, (pss_cons (ps_set (i := 4) sc_bag.nd rfl (by first | exact Or.inl rfl | exact Or.inr rfl) pe_dnewT) (pss_cons (ps_for PassesOwn.never rfl (pi_range1 (by rfl) z_range (pa_cons (pe_call G_next (hr.mono (by omega)) (by rfl) D_next.m D_next.F.kp D_next.b .nil pass0 (pa_cons (pv 0) (pa_cons (pe_op op_add (pv 1) pe_int) pa_nil))) pa_nil)) (pg_name (i := 5) sc_bag.nd rfl (by first | exact Or.inl rfl | exact Or.inr rfl)) (pss_one (ps_expr (pe_call G_add (hr.mono (by omega)) (by rfl) D_add.m D_add.F.kp D_add.b .nil pass0 (pa_cons (pv 4) (pa_cons (pe_call G_row (hr.mono (by omega)) (by rfl) D_row.m D_row.F.kp D_row.b .nil pass0 (pa_cons (pv 0) (pa_cons (pv 2) (pa_cons (pv 3) pa_nil)))) (pa_cons (pe_op op_add pe_int (pe_call G_next (hr.mono (by omega)) (by rfl) D_next.m D_next.F.kp D_next.b .nil pass0 (pa_cons (pv 0) (pa_cons pe_int pa_nil)))) pa_nil))))))) (pss_one (ps_ret (pe_call G_bag_of (hr.mono (by omega)) (by rfl) D_bag_of.m D_bag_of.F.kp D_bag_of.b .nil pass0 (pa_cons (pv 4) pa_nil)))))), ?_⟩
  intro c nc
  refine ⟨_, rfl, _, rfl, many, 1, rfl, rfl, d, sc, many + 1, rfl, by omega, by omega, hD.new nc, fun n H1 n0 n1 hD1 hU1 => ?_⟩
  have hc1 : H1 c = some (.dT (dT [])) := hU1 _ _ (hD.ne nc) upd_same
  refine ⟨n, rfl, by omega, by omega, for_range (lo := 0) (n := n.toNat) (fun i σ H' => ∃ (y : Option V) (as : Chs), σ = [some (.ref d), some (.int many), some (.int first), some (.int span), some (.ref c), y] ∧ H' c = some (.dT (dT as)) ∧ (keysA as).Nodup ∧ as.length ≤ i ∧ (∀ x ∈ keysA as, RowIn first span x) ∧ PosA (3 * i) as ∧ Dr sc H' d ∧ Up d H H') ?_ (fun i σ H' hi hP => ?_) (fun σ H' hP => ?_)⟩
  · exact ⟨_, [], rfl, hc1, List.nodup_nil, Nat.le_refl _, fun x hx => absurd hx List.not_mem_nil, PosA.nil (by omega), hD1, (Up.new nc).trans hU1⟩
  · obtain ⟨y, as, rfl, b1, b2, b3, b4, b5, b6, b7⟩ := hP
    refine ⟨_, rfl, _, rfl, _, rfl, _, rfl, d, sc, first, span, rfl, b6, s1, s2, fun t r H2 nt ht hr' hD2 hU2 => ?_⟩
    refine ⟨_, rfl, d, sc, 3, rfl, by decide, by decide, hD2, fun v H3 v0 v1 hD3 hU3 => ?_⟩
    have cd := b6.dT b1
    have td : t ≠ d := fun e => by
      obtain ⟨xs, hxs⟩ := hD2.lst
      rw [e, hxs] at ht; cases ht
    have b8 : H3 c = some (.dT (dT as)) := hU3 _ _ cd.1 (hU2 _ _ cd.1 b1)
    refine ⟨1, v, rfl, rfl, c, t, 1 + v, as, r, rfl, b8, b2, hU3 _ _ td ht, by omega, ?_⟩
    refine ⟨_, bump as r (1 + v), rfl, upd_same, bump_nodup b2 r _, ?_, bump_rows b4 hr', ?_, hD3.mut cd.1 cd.2, ?_⟩
    · have := bump_len as r (1 + v)
      omega
    · have h := b5.bump b2 (c := 1 + v) (by omega) r
      exact ⟨h.1, by have := h.2; omega⟩
    · exact ((b7.trans hU2).trans hU3).mut nc
  · obtain ⟨y, as, rfl, b1, b2, b3, b4, b5, b6, b7⟩ := hP
    refine ⟨_, rfl, c, as, rfl, b1, b2, by omega, fun p ys m H2 h1 h2 h3 h4 h5 h6 => ?_⟩
    refine k p ys m H2 (b7.free b6 h2) h3 h4 h5.1 (fun q hq => ?_) (by omega) (b6.up h1) (b7.trans (.same h1))
    obtain ⟨c', hc'⟩ := h5.row hq
    have e := ((h5.1.mem q).mp hq)
    have e2 : cnt as q.1 = q.2 := by rw [← h5.2]; exact e.1
    have e3 := b5.cnt q.1
    refine ⟨b4 _ (List.mem_map_of_mem (f := (·.1)) hc'), ?_, ?_⟩
    · rw [← e2]; exact e3.2 (by rw [e2]; exact e.2)
    · rw [← e2]; omega
theorem ok_sum {f fa fb : Addr} {fd fad fbd : FuncData} (D : DefAt K mg "_law_sum" s_sum ["one", "two"] f fd) (D_add : DefAt K mg "_law_add" s_add ["counts", "row", "count"] fa fad) (G_add : FnOk P w K mg base CX0 1 fa fad ["counts", "row", "count"] spAdd)
    (D_bag_of : DefAt K mg "_law_bag_of" s_bag_of ["counts"] fb fbd) (G_bag_of : FnOk P w K mg base CX0 1 fb fbd ["counts"] spBagOf) (z_dict : mg "dict" = none) :
    FnOk P w K mg base CX0 2 f fd ["one", "two"] (spSum K) := by
  refine D.F.ok sc_sum (fun vs H Q E h => ?_) (fun cdv A outer s H vs Q E hr h => ?_)
  · obtain ⟨a, b, xs, ys, l, m, rfl, _⟩ := h
    rfl
  obtain ⟨a, b, xs, ys, l, m, rfl, hA, hB, hl, hm, hn, hz, k⟩ := h
  refine ⟨_, (pss_cons (ps_set (i := 2) sc_sum.nd rfl (by first | exact Or.inl rfl | exact Or.inr rfl) (pe_callTy (cr_dictB rfl hr.units) (by rfl) z_dict boot_dict (pa_cons (pv 0) pa_nil))) (pss_cons (ps_for PassesOwn.never rfl (pi_list (pv 1)) (pg_tup (by rfl) (pgs_cons (pg_name (i := 3) sc_sum.nd rfl (by first | exact Or.inl rfl | exact Or.inr rfl)) (pgs_cons (pg_name (i := 4) sc_sum.nd rfl (by first | exact Or.inl rfl | exact Or.inr rfl)) pgs_nil))) (pss_one (ps_expr (pe_call G_add (hr.mono (by omega)) (by rfl) D_add.m D_add.F.kp D_add.b .nil pass0 (pa_cons (pv 2) (pa_cons (pv 3) (pa_cons (pv 4) pa_nil))))))) (pss_one (ps_ret (pe_call G_bag_of (hr.mono (by omega)) (by rfl) D_bag_of.m D_bag_of.F.kp D_bag_of.b .nil pass0 (pa_cons (pv 2) pa_nil)))))), ?_⟩
  refine ⟨_, rfl, a, xs, l, rfl, hA, hl, hn, fun c nc => ?_⟩
  refine ⟨_, rfl, b, rfl, ⟨_, (same_new nc _).seq hB⟩, for_list (xs := ys) (fun i σ H' => ∃ (y1 y2 : Option V) (as : Chs), σ = [some (.ref a), some (.ref b), some (.ref c), y1, y2] ∧ H' c = some (.dT (dT as)) ∧ (keysA as).Nodup ∧ as.length ≤ l.length + i ∧ (∀ r, cnt as r = cnt l r + cnt (m.take i) r) ∧ Same H H') ?_ (fun i σ H' _ hP => ?_) (fun i x σ H' hx hP => ?_) (fun σ H' hP => ?_)⟩
  · exact ⟨_, _, l, rfl, upd_same, hn, Nat.le_refl _, fun r => by show _ = _ + 0; omega, same_new nc _⟩
  · obtain ⟨y1, y2, as, _, _, _, _, _, h⟩ := hP
    exact h.seq hB
  · obtain ⟨y1, y2, as, rfl, b1, b2, b3, b4, b5⟩ := hP
    obtain ⟨p, hp, a0, q0, rfl, h1, h2⟩ := hm.get hx
    have hi := idx_lt hp
    refine ⟨a0, _, rfl, .of (b5 _ _ h1), rfl, _, _, rfl, _, _, rfl, rfl, ?_⟩
    refine ⟨_, rfl, _, rfl, _, rfl, c, q0, p.2, as, p.1, rfl, b1, b2, b5 _ _ h2, by omega, ?_⟩
    refine ⟨_, _, bump as p.1 p.2, rfl, upd_same, bump_nodup b2 _ _, ?_, fun r => ?_, same_mu b5 nc⟩
    · have := bump_len as p.1 p.2
      omega
    · rw [cnt_bump b2, b4, cnt_take hp]; omega
  · obtain ⟨y1, y2, as, rfl, b1, b2, b3, b4, b5⟩ := hP
    rw [hm.1, List.take_length] at b4
    rw [hm.1] at b3
    refine ⟨_, rfl, c, as, rfl, b1, b2, by omega, fun p zs n H2 h1 h2 h3 h4 h5 h6 => ?_⟩
    exact k p zs n H2 (b5.trans h1) (Same.none b5 h2) h3 h4 (h5.congr fun r => by rw [b4, cnt_app]) (by omega)
theorem ok_lless {f fs : Addr} {fd fsd : FuncData} (D : DefAt K mg "_law_less" s_lless ["one", "two"] f fd) (D_sum : DefAt K mg "_law_sum" s_sum ["one", "two"] fs fsd) (G_sum : FnOk P w K mg base CX0 2 fs fsd ["one", "two"] (spSum K)) :
    FnOk P w K mg base CX0 3 f fd ["one", "two"] (spLess K) := by
  refine D.F.ok sc_lless (fun vs H Q E h => ?_) (fun cdv A outer s H vs Q E hr h => ?_)
  · obtain ⟨a, b, xs, ys, l, m, rfl, _⟩ := h
    rfl
  obtain ⟨a, b, xs, ys, l, m, rfl, hA, hB, hl, hm, hn, hz, k⟩ := h
  refine ⟨_, (pss_one (ps_ret (pe_call G_sum (hr.mono (by omega)) (by rfl) D_sum.m D_sum.F.kp D_sum.b .nil pass0 (pa_cons (pv 0) (pa_cons (pe_lc (own := [("row", 2), ("count", 3)]) (g := gTup K 2 (gCons (gName 2) (gCons (gName 3) gNil))) (tt := tYes) (by rfl) sc_lless.nd (pi_list (pv 1)) (blkOk_by (own := [("row", 2), ("count", 3)]) (N := n_lless) (sc := defScope s_lless) (by decide +kernel)) (fun _ _ _ _ _ => (pg_tup (by rfl) (pgs_cons (pg_name (i := 2) sc_lless.nd rfl (by first | exact Or.inl rfl | exact Or.inr rfl)) (pgs_cons (pg_name (i := 3) sc_lless.nd rfl (by first | exact Or.inl rfl | exact Or.inr rfl)) pgs_nil)))) (fun _ _ _ _ _ => pts_nil) (fun _ _ _ _ _ => (pe_tup (pa_cons (pv 2) (pa_cons (pe_un un_neg (pv 3)) pa_nil))))) pa_nil))))), ?_⟩
  refine ⟨_, rfl, _, rfl, b, rfl, ⟨_, hB⟩, fun Dl nD => ?_⟩
  refine lc_list (xs := ys) (fun i H' => (∃ acc, H' Dl = some (.lst acc) ∧ BagAt H' acc (neg (m.take i))) ∧ Same H H') ⟨⟨[], upd_same, BagAt.nil⟩, same_new nD _⟩ (fun i H' _ hP => hP.2.seq hB) (fun i x H' hx hP => ?_) (fun H' hP => ?_)
  · obtain ⟨⟨acc, b1, b2⟩, b3⟩ := hP
    obtain ⟨p, hp, a0, q0, rfl, h1, h2⟩ := hm.get hx
    have hi := idx_lt hp
    have et : neg (m.take (i + 1)) = neg (m.take i) ++ [(p.1, -p.2)] := by
      rw [List.take_add_one, hp]
      unfold neg
      rw [List.map_append]
      rfl
    refine ⟨a0, _, rfl, .of (b3 _ _ h1), rfl, _, _, rfl, _, _, rfl, rfl, ?_⟩
    refine ⟨rfl, ?_⟩
    refine ⟨_, rfl, _, rfl, _, rfl, (by show 2 ≤ sizeLine; decide), fun t nt => ?_⟩
    have n1 : Dl ≠ t := ne_of_none b1 nt
    refine ⟨acc, by rw [upd_ne n1]; exact b1, size_le ?_, ⟨⟨_, upd_same, ?_⟩, fun b' o eb => ?_⟩⟩
    · rw [b2.1, neg_len, List.length_take]; omega
    · rw [et]
      have k5 : TupUp H' (upd (upd H' t (.tup [.ref q0, .int (-p.2)])) Dl (.lst (acc ++ [.ref t]))) := (TupUp.new nt).trans (TupUp.lst (xs := acc) (by rw [upd_ne n1]; exact b1))
      exact (b2.mono k5).snoc ⟨t, q0, rfl, by rw [upd_ne n1.symm]; exact upd_same, k5 _ _ (b3 _ _ h2)⟩
    · rw [upd_ne (ne_of_none eb nD), upd_ne (ne_of_none (b3 _ _ eb) nt)]
      exact b3 _ _ eb
  · obtain ⟨⟨acc, b1, b2⟩, b3⟩ := hP
    rw [hm.1, List.take_length] at b2
    refine ⟨a, Dl, xs, acc, l, neg m, rfl, b3.seq hA, .of b1, hl.mono (.same b3), b2, hn, by rw [neg_len]; exact hz, fun p zs n H2 h1 h2 h3 h4 h5 h6 => ?_⟩
    rw [neg_len] at h6
    exact k p zs n H2 (b3.trans h1) (Same.none b3 h2) h3 h4 h5 h6
end
end Tf
set_option maxHeartbeats 8000000
namespace Tf
open PySem PySem.Spec PyProof.Rows L2 TL
abbrev s_changes_of : Stmt := (topS 1)
abbrev n_changes_of : List Str := ["pairs", "counts", "row", "count"]
theorem sc_changes_of : FnScope n_changes_of ["pairs"] (defScope s_changes_of) := ⟨rfl, rfl, rfl, by decide +kernel, rfl, by decide +kernel, by decide +kernel⟩
section
variable {P : Program} {w : World} {K : PySem.W.Frag} {mg : Str → Option Value} {base : Heap}
theorem ok_changes_of {f : Addr} {fd : FuncData} (D : DefAt K mg "changes_of" s_changes_of ["pairs"] f fd) (z_sorted : mg "sorted" = none) : FnOk P w K mg base CX0 1 f fd ["pairs"] (spNorm K) := by
  refine D.F.ok sc_changes_of (fun vs H Q E h => ?_) (fun cdv A outer s H vs Q E hr h => ?_)
  · obtain ⟨a, xs, l, rfl, _⟩ := h
    rfl
  obtain ⟨a, xs, l, rfl, hS, hB, hl, k⟩ := h
  refine ⟨_, (pss_cons (ps_set (i := 1) sc_changes_of.nd rfl (by first | exact Or.inl rfl | exact Or.inr rfl) pe_dnewT) (pss_cons (ps_for PassesOwn.never rfl (pi_list (pv 0)) (pg_tup (by rfl) (pgs_cons (pg_name (i := 2) sc_changes_of.nd rfl (by first | exact Or.inl rfl | exact Or.inr rfl)) (pgs_cons (pg_name (i := 3) sc_changes_of.nd rfl (by first | exact Or.inl rfl | exact Or.inr rfl)) pgs_nil))) (pss_one (ps_dput (hu_of hr) (pv 1) (pv 2) (pe_op op_add (pe_dget2 (hu_of hr) (pv 1) (pv 2) pe_int ⟨rfl, rfl, rfl, rfl⟩) (pv 3)) rfl))) (pss_one (ps_ret (pe_lc (own := [("row", 2)]) (g := gName 2)  (by rfl) sc_changes_of.nd (pi_list (pe_callB (cr_sortD rfl hr.units) (by rfl) z_sorted boot_sorted (pa_cons (pv 1) pa_nil))) (blkOk_by (own := [("row", 2)]) (N := n_changes_of) (sc := defScope s_changes_of) (by decide +kernel)) (fun _ _ _ _ _ => (pg_name (i := 2) sc_changes_of.nd rfl (by first | exact Or.inl rfl | exact Or.inr rfl))) (fun _ _ _ _ _ => (pts_one (pt_cmpR op_ne (pe_dget (hu_of hr) (pv 1) (pv 2) (fun _ _ => rfl)) pe_int (nomark _)))) (fun _ _ _ _ _ => (pe_tup (pa_cons (pv 2) (pa_cons (pe_dget (hu_of hr) (pv 1) (pv 2) (fun _ _ => rfl)) pa_nil))))))))), ?_⟩
  intro d nd
  have hS0 : SqL K (upd H d (.dT [])) a xs := (same_new nd _).seq hS
  refine ⟨_, rfl, a, rfl, ⟨_, hS0⟩, for_list (xs := xs) (fun i σ H' => ∃ (y1 y2 : Option V) (as : Chs), σ = [some (.ref a), some (.ref d), y1, y2] ∧ H' d = some (.dT (dT as)) ∧ (keysA as).Nodup ∧ as.length ≤ i ∧ (∀ r, cnt as r = cnt (l.take i) r) ∧ Same H H') ?_ (fun i σ H' _ hP => ?_) (fun i x σ H' hx hP => ?_) (fun σ H' hP => ?_)⟩
  · exact ⟨_, _, [], rfl, upd_same, List.nodup_nil, Nat.le_refl _, fun r => rfl, same_new nd _⟩
  · obtain ⟨y1, y2, as, _, _, _, _, _, h⟩ := hP
    exact h.seq hS
  · obtain ⟨y1, y2, as, rfl, b1, b2, b3, b4, b5⟩ := hP
    obtain ⟨p, hp, a0, q0, rfl, h1, h2⟩ := hB.get hx
    have hi := idx_lt hp
    refine ⟨a0, _, rfl, .of (b5 _ _ h1), rfl, _, _, rfl, _, _, rfl, rfl, ?_⟩
    refine ⟨_, rfl, d, rfl, isD_t b1, _, rfl, _, DGet.t (k := rowK p.1) b1 (b5 _ _ h2), _, rfl, cnt as p.1, p.2, dT_getD b2 p.1, rfl, _, rfl, _, rfl, d, _, rfl, DPut.t (k := rowK p.1) b1 (b5 _ _ h2) (by rw [dT_len]; exact size_le (by omega)), ?_⟩
    refine ⟨_, _, bump as p.1 p.2, rfl, by rw [dT_put b2]; exact upd_same, bump_nodup b2 _ _, ?_, fun r => ?_, same_mu b5 nd⟩
    · have := bump_len as p.1 p.2
      omega
    · rw [cnt_bump b2, b4, cnt_take hp]
  · obtain ⟨y1, y2, as, rfl, hd, hn, has, hcn, hs0⟩ := hP
    rw [hB.1, List.take_length] at hcn
    rw [hB.1] at has
    refine ⟨_, rfl, d, as, rfl, hd, hn, fun rs qs p hp hs hq np => ?_⟩
    refine ⟨p, rfl, ⟨_, .of upd_same⟩, fun Dl nD => ?_⟩
    have hlen : rs.length = as.length := by rw [hp.length_eq, keys_len]
    refine lc_list (xs := qs) (fun i H2 => (∃ acc, H2 Dl = some (.lst acc) ∧ BagAt H2 acc (takeC as (rs.take i))) ∧ Same (upd H' p (.lst qs)) H2) ⟨⟨[], upd_same, BagAt.nil⟩, same_new nD _⟩ (fun i H2 _ hP => .of (hP.2 _ _ upd_same)) (fun i x H2 hx hP => ?_) (fun H2 hP => ?_)
    · obtain ⟨⟨acc, b1, b2⟩, b3⟩ := hP
      have b4 : Same H' H2 := (same_new np _).trans b3
      obtain ⟨r, hr'⟩ := idx_some (l := rs) (i := i) (by rw [← hq.1]; exact idx_lt hx)
      obtain ⟨a1, rfl, ha⟩ := hq.2 i x r hx hr'
      have hk : r ∈ keysA as := hp.mem_iff.mp (List.mem_of_getElem? hr')
      have g : DGet H2 d (.ref a1) (some (.int (cnt as r))) := dgr (b4 _ _ hd) hn (b4 _ _ ha) hk
      have et : takeC as (rs.take (i + 1)) = takeC as (rs.take i) ++ (if cnt as r ≠ 0 then [(r, cnt as r)] else []) := by
        rw [List.take_add_one, hr']; exact takeC_snoc as _ r
      refine ⟨rfl, ?_⟩
      refine ⟨_, rfl, _, rfl, d, _, rfl, g, rfl, _, rfl, ?_⟩
      rw [ne0]
      refine ite2 (fun e => ?_) (fun e => ?_)
      · have e' := of_decide_eq_true e
        rw [if_pos e'] at et
        refine ⟨_, rfl, _, rfl, _, rfl, d, _, rfl, g, (by show 2 ≤ sizeLine; decide), fun t nt => ?_⟩
        have n1 : Dl ≠ t := ne_of_none b1 nt
        refine ⟨acc, by rw [upd_ne n1]; exact b1, size_le ?_, ⟨⟨_, upd_same, ?_⟩, fun b o eb => ?_⟩⟩
        · rw [b2.1]
          have := takeC_len as (rs.take i)
          rw [List.length_take] at this
          omega
        · rw [et]
          have k5 : TupUp H2 (upd (upd H2 t (.tup [.ref a1, .int (cnt as r)])) Dl (.lst (acc ++ [.ref t]))) := (TupUp.new nt).trans (TupUp.lst (xs := acc) (by rw [upd_ne n1]; exact b1))
          exact (b2.mono k5).snoc ⟨t, a1, rfl, by rw [upd_ne n1.symm]; exact upd_same, k5 _ _ (b4 _ _ ha)⟩
        · have nb : b ≠ Dl := ne_of_none eb nD
          rw [upd_ne nb, upd_ne (ne_of_none (b3 _ _ eb) nt)]
          exact b3 _ _ eb
      · rw [if_neg (fun z => e (decide_eq_true z)), List.append_nil] at et
        rw [et]
        exact ⟨⟨acc, b1, b2⟩, b3⟩
    · obtain ⟨⟨acc, b1, b2⟩, b3⟩ := hP
      rw [hq.1, List.take_length] at b2
      refine k Dl acc _ H2 ((hs0.trans (same_new np _)).trans b3) (Same.none (hs0.trans (same_new np _)) nD) b1 b2 ((take_norm hn hp hs).congr hcn) ?_
      have := takeC_len as rs
      omega
end
end Tf
set_option maxHeartbeats 8000000
namespace Tf
open PySem PySem.Spec PyProof.Rows L2 TL
abbrev s_aggregated : Stmt := (topS 6)
abbrev n_aggregated : List Str := ["rows", "aggregate", "found", "row", "_", "count"]
theorem sc_aggregated : FnScope n_aggregated ["rows", "aggregate"] (defScope s_aggregated) := ⟨rfl, rfl, rfl, by decide +kernel, rfl, by decide +kernel, by decide +kernel⟩
abbrev s_aggregate : Stmt := (topS 18)
abbrev n_aggregate : List Str := ["name", "values", "found", "value"]
theorem sc_aggregate : FnScope n_aggregate ["name", "values"] (defScope s_aggregate) := ⟨rfl, rfl, rfl, by decide +kernel, rfl, by decide +kernel, by decide +kernel⟩
abbrev s_values : Stmt := (topS 19)
abbrev n_values : List Str := ["bag", "key", "first", "last", "found", "row", "count"]
theorem sc_values : FnScope n_values ["bag", "key", "first", "last"] (defScope s_values) := ⟨rfl, rfl, rfl, by decide +kernel, rfl, by decide +kernel, by decide +kernel⟩
abbrev s_keys : Stmt := (topS 20)
abbrev n_keys : List Str := ["bag", "found", "row", "count"]
theorem sc_keys : FnScope n_keys ["bag"] (defScope s_keys) := ⟨rfl, rfl, rfl, by decide +kernel, rfl, by decide +kernel, by decide +kernel⟩
section
variable {P : Program} {w : World} {K : PySem.W.Frag} {mg : Str → Option Value} {base : Heap}
theorem ok_aggregated {f : Addr} {fd : FuncData} (D : DefAt K mg "aggregated" s_aggregated ["rows", "aggregate"] f fd) (z_sum : mg "sum" = none) (z_min : mg "min" = none) (z_max : mg "max" = none) : FnOk P w K mg base CX0 1 f fd ["rows", "aggregate"] (spAggregated K) := by
  refine D.F.ok sc_aggregated (fun vs H Q E h => ?_) (fun cdv A outer s H vs Q E hr h => ?_)
  · obtain ⟨a, name, xs, l, rfl, _⟩ := h
    rfl
  obtain ⟨a, name, xs, l, rfl, hS, hB, hne, hz, hc, hn, k⟩ := h
  refine ⟨_, (pss_cons (ps_if (pt_cmpR op_eq (pv 1) pe_str (nomark _)) (pss_one (ps_ret (pe_callB (cr_sum rfl) (by rfl) z_sum boot_sum (pa_cons (pe_lc (own := [("_", 4), ("count", 5)]) (g := gTup K 2 (gCons (gName 4) (gCons (gName 5) gNil))) (tt := tYes) (by rfl) sc_aggregated.nd (pi_list (pv 0)) (blkOk_by (own := [("_", 4), ("count", 5)]) (N := n_aggregated) (sc := defScope s_aggregated) (by decide +kernel)) (fun _ _ _ _ _ => (pg_tup (by rfl) (pgs_cons (pg_name (i := 4) sc_aggregated.nd rfl (by first | exact Or.inl rfl | exact Or.inr rfl)) (pgs_cons (pg_name (i := 5) sc_aggregated.nd rfl (by first | exact Or.inl rfl | exact Or.inr rfl)) pgs_nil)))) (fun _ _ _ _ _ => pts_nil) (fun _ _ _ _ _ => (pv 5))) pa_nil)))) pss_nil) (pss_cons (ps_if (pt_cmpR op_eq (pv 1) pe_str (nomark _)) (pss_one (ps_ret (pe_callB (cr_sum rfl) (by rfl) z_sum boot_sum (pa_cons (pe_lc (own := [("row", 3), ("count", 5)]) (g := gTup K 2 (gCons (gName 3) (gCons (gName 5) gNil))) (tt := tYes) (by rfl) sc_aggregated.nd (pi_list (pv 0)) (blkOk_by (own := [("row", 3), ("count", 5)]) (N := n_aggregated) (sc := defScope s_aggregated) (by decide +kernel)) (fun _ _ _ _ _ => (pg_tup (by rfl) (pgs_cons (pg_name (i := 3) sc_aggregated.nd rfl (by first | exact Or.inl rfl | exact Or.inr rfl)) (pgs_cons (pg_name (i := 5) sc_aggregated.nd rfl (by first | exact Or.inl rfl | exact Or.inr rfl)) pgs_nil)))) (fun _ _ _ _ _ => pts_nil) (fun _ _ _ _ _ => (pe_op op_mul (pe_ix (r := rIxT K) ix_tup (pv 3) pe_int (fun _ _ => rfl)) (pv 5)))) pa_nil)))) pss_nil) (pss_cons (ps_setLc (i := 2) (own := [("row", 3), ("_", 4)]) (g := gTup K 2 (gCons (gName 3) (gCons (gName 4) gNil))) (tt := tYes) (by rfl) sc_aggregated.nd rfl rfl (sw_true rfl rfl rfl (by decide +kernel)) (pi_list (pv 0)) (blkOk_by (own := [("row", 3), ("_", 4)]) (N := n_aggregated) (sc := defScope s_aggregated) (by decide +kernel)) (fun _ _ _ _ _ => (pg_tup (by rfl) (pgs_cons (pg_name (i := 3) sc_aggregated.nd rfl (by first | exact Or.inl rfl | exact Or.inr rfl)) (pgs_cons (pg_name (i := 4) sc_aggregated.nd rfl (by first | exact Or.inl rfl | exact Or.inr rfl)) pgs_nil)))) (fun _ _ _ _ _ => pts_nil) (fun _ _ _ _ _ => (pe_ix (r := rIxT K) ix_tup (pv 3) pe_int (fun _ _ => rfl)))) (pss_one (ps_ret (pe_ifExp (pt_cmpR op_eq (pv 1) pe_str (nomark _)) (pe_callB (cr_min rfl) (by rfl) z_min boot_min (pa_cons (pv 2) pa_nil)) (pe_callB (cr_max rfl) (by rfl) z_max boot_max (pa_cons (pv 2) pa_nil)))))))), ?_⟩
  have step : ∀ (g : Row × Int → Int) {i : Nat} {p : Row × Int}, l[i]? = some p → (l.take (i + 1)).map g = (l.take i).map g ++ [g p] := fun g {i p} hp => by
    rw [List.take_add_one, hp, List.map_append]; rfl
  have other : ∀ {b : Str}, name ≠ b → ¬ (decide (V.str name = V.str b) = true) := fun h e => h (V.str.inj (of_decide_eq_true e))
  refine ⟨_, rfl, rfl, _, rfl, ite2 (fun e => ?_) (fun e => ?_)⟩
  · have e1 : name = "count" := V.str.inj (of_decide_eq_true e)
    refine ⟨_, rfl, a, rfl, ⟨_, hS⟩, fun Dl nD => ?_⟩
    refine lc_list (xs := xs) (fun i H' => H' Dl = some (.lst (((l.take i).map (·.2)).map V.int)) ∧ Same H H') ⟨upd_same, same_new nD _⟩ (fun i H' _ hP => hP.2.seq hS) (fun i x H' hx hP => ?_) (fun H' hP => ?_)
    · obtain ⟨b1, b3⟩ := hP
      obtain ⟨p, hp, a0, q0, rfl, h1, h2⟩ := hB.get hx
      have hi := idx_lt hp
      refine ⟨a0, _, rfl, .of (b3 _ _ h1), rfl, _, _, rfl, _, _, rfl, rfl, ?_⟩
      refine ⟨rfl, _, rfl, _, b1, size_le (by rw [List.length_map, List.length_map, List.length_take]; omega), ?_, fun b' o eb => ?_⟩
      · rw [upd_same, step (·.2) hp, List.map_append]; rfl
      · rw [upd_ne (ne_of_none eb nD)]; exact b3 _ _ eb
    · obtain ⟨b1, b3⟩ := hP
      rw [hB.1, List.take_length] at b1
      refine ⟨Dl, _, rfl, .of b1, k _ _ b3 ⟨fun _ => rfl, fun e2 => ?_, fun e2 => ?_, fun e2 => ?_⟩⟩
      · rw [e1] at e2; exact absurd e2 (by decide +kernel)
      · rw [e1] at e2; exact absurd e2 (by decide +kernel)
      · rw [e1] at e2; exact absurd e2 (by decide +kernel)
  refine ⟨_, rfl, rfl, _, rfl, ite2 (fun e' => ?_) (fun e' => ?_)⟩
  · have e1 : name = "sum" := V.str.inj (of_decide_eq_true e')
    refine ⟨_, rfl, a, rfl, ⟨_, hS⟩, fun Dl nD => ?_⟩
    refine lc_list (xs := xs) (fun i H' => H' Dl = some (.lst (((l.take i).map fun p => p.1.v * p.2).map V.int)) ∧ Same H H') ⟨upd_same, same_new nD _⟩ (fun i H' _ hP => hP.2.seq hS) (fun i x H' hx hP => ?_) (fun H' hP => ?_)
    · obtain ⟨b1, b3⟩ := hP
      obtain ⟨p, hp, a0, q0, rfl, h1, h2⟩ := hB.get hx
      have hi := idx_lt hp
      have hcp := hc p (List.mem_of_getElem? hp)
      refine ⟨a0, _, rfl, .of (b3 _ _ h1), rfl, _, _, rfl, _, _, rfl, rfl, ?_⟩
      refine ⟨rfl, _, rfl, q0, _, _, _, rfl, rfl, .of (b3 _ _ h2), atI_nat (j := 2) rfl, _, rfl, _, _, rfl, rfl, .inr ⟨by omega, by omega⟩, _, b1, size_le (by rw [List.length_map, List.length_map, List.length_take]; omega), ?_, fun b' o eb => ?_⟩
      · rw [upd_same, step (fun p => p.1.v * p.2) hp, List.map_append]; rfl
      · rw [upd_ne (ne_of_none eb nD)]; exact b3 _ _ eb
    · obtain ⟨b1, b3⟩ := hP
      rw [hB.1, List.take_length] at b1
      refine ⟨Dl, _, rfl, .of b1, k _ _ b3 ⟨fun e2 => ?_, fun _ => rfl, fun e2 => ?_, fun e2 => ?_⟩⟩
      · rw [e1] at e2; exact absurd e2 (by decide +kernel)
      · rw [e1] at e2; exact absurd e2 (by decide +kernel)
      · rw [e1] at e2; exact absurd e2 (by decide +kernel)
  refine ⟨_, rfl, a, rfl, ⟨_, hS⟩, fun Dl nD => ?_⟩
  refine lc_list (xs := xs) (fun i H' => H' Dl = some (.lst (((l.take i).map fun p => p.1.v).map V.int)) ∧ Same H H') ⟨upd_same, same_new nD _⟩ (fun i H' _ hP => hP.2.seq hS) (fun i x H' hx hP => ?_) (fun H' hP => ?_)
  · obtain ⟨b1, b3⟩ := hP
    obtain ⟨p, hp, a0, q0, rfl, h1, h2⟩ := hB.get hx
    have hi := idx_lt hp
    refine ⟨a0, _, rfl, .of (b3 _ _ h1), rfl, _, _, rfl, _, _, rfl, rfl, ?_⟩
    refine ⟨rfl, _, rfl, q0, _, _, _, rfl, rfl, .of (b3 _ _ h2), atI_nat (j := 2) rfl, _, b1, size_le (by rw [List.length_map, List.length_map, List.length_take]; omega), ?_, fun b' o eb => ?_⟩
    · rw [upd_same, step (fun p => p.1.v) hp, List.map_append]; rfl
    · rw [upd_ne (ne_of_none eb nD)]; exact b3 _ _ eb
  obtain ⟨b1, b3⟩ := hP
  rw [hB.1, List.take_length] at b1
  have hlen : 0 < (l.map fun p => p.1.v).length := by rw [List.length_map]; exact List.length_pos_iff.mpr hne
  have n1 : name ≠ "count" := fun z => e (decide_eq_true (congrArg V.str z))
  have n2 : name ≠ "sum" := fun z => e' (decide_eq_true (congrArg V.str z))
  refine ⟨_, rfl, rfl, _, rfl, ite2 (fun g => ?_) (fun g => ?_)⟩
  · have e1 : name = "least" := V.str.inj (of_decide_eq_true g)
    refine ⟨_, rfl, Dl, _, rfl, .of b1, hlen, fun m hm hle => k _ _ b3 ⟨fun z => absurd z n1, fun z => absurd z n2, fun _ => ?_, fun e2 => ?_⟩⟩
    · obtain ⟨p, hp, e3⟩ := List.mem_map.mp hm
      exact ⟨⟨p, hp, e3⟩, fun q hq => hle _ (List.mem_map_of_mem (f := fun p : Row × Int => p.1.v) hq)⟩
    · rw [e1] at e2; exact absurd e2 (by decide +kernel)
  · have n3 : name ≠ "least" := fun z => g (decide_eq_true (congrArg V.str z))
    refine ⟨_, rfl, Dl, _, rfl, .of b1, hlen, fun m hm hle => k _ _ b3 ⟨fun z => absurd z n1, fun z => absurd z n2, fun z => absurd z n3, fun _ => ?_⟩⟩
    obtain ⟨p, hp, e3⟩ := List.mem_map.mp hm
    exact ⟨⟨p, hp, e3⟩, fun q hq => hle _ (List.mem_map_of_mem (f := fun p : Row × Int => p.1.v) hq)⟩
theorem ok_aggregate {f : Addr} {fd : FuncData} (D : DefAt K mg "_law_aggregate" s_aggregate ["name", "values"] f fd) (z_sum : mg "sum" = none) (z_len : mg "len" = none) : FnOk P w K mg base CX0 1 f fd ["name", "values"] spLAgg := by
  refine D.F.ok sc_aggregate (fun vs H Q E h => ?_) (fun cdv A outer s H vs Q E hr h => ?_)
  · obtain ⟨a, name, ns, rfl, _⟩ := h
    rfl
  obtain ⟨a, name, ns, rfl, hA, hne, hn, k⟩ := h
  have t1 : ("count" : Str) ≠ "sum" ∧ ("count" : Str) ≠ "least" ∧ ("count" : Str) ≠ "greatest" ∧ ("sum" : Str) ≠ "least" ∧ ("sum" : Str) ≠ "greatest" ∧ ("least" : Str) ≠ "greatest" := by decide +kernel
  refine ⟨_, (pss_cons (ps_if (pt_cmpR op_eq (pv 0) pe_str (nomark _)) (pss_one (ps_ret (pe_callB call_len_seq (by rfl) z_len boot_len (pa_cons (pv 1) pa_nil)))) pss_nil) (pss_cons (ps_if (pt_cmpR op_eq (pv 0) pe_str (nomark _)) (pss_one (ps_ret (pe_callB (cr_sum rfl) (by rfl) z_sum boot_sum (pa_cons (pv 1) pa_nil)))) pss_nil) (pss_cons (ps_set (i := 2) sc_aggregate.nd rfl (by first | exact Or.inl rfl | exact Or.inr rfl) (pe_ix ix_list (pv 1) pe_int (fun _ _ => rfl))) (pss_cons (ps_for PassesOwn.never rfl (pi_list (pv 1)) (pg_name (i := 3) sc_aggregate.nd rfl (by first | exact Or.inl rfl | exact Or.inr rfl)) (pss_one (ps_if (PW.pt (pw_or (PW.pt (pw_and (pt_cmpR op_lt (pv 3) (pv 2) (nomark _)) (pw_and1 (pt_cmpR op_eq (pv 0) pe_str (nomark _))))) (pw_or1 (PW.pt (pw_and (pt_cmpR op_gt (pv 3) (pv 2) (nomark _)) (pw_and1 (pt_cmpR op_eq (pv 0) pe_str (nomark _)))))))) (pss_one (ps_set (i := 2) sc_aggregate.nd rfl (by first | exact Or.inl rfl | exact Or.inr rfl) (pv 3))) pss_nil))) (pss_one (ps_ret (pv 2))))))), ?_⟩
  refine ⟨_, rfl, rfl, _, rfl, ite2 (fun e => ?_) (fun e => ?_)⟩
  · have e1 : name = "count" := V.str.inj (of_decide_eq_true e)
    subst e1
    refine ⟨_, rfl, a, _, rfl, .inl (.of hA), ?_⟩
    rw [List.length_map]
    exact k _ ⟨fun _ => rfl, fun z => absurd z t1.1, fun z => absurd z t1.2.1, fun z => absurd z t1.2.2.1⟩
  have n1 : name ≠ "count" := fun z => e (decide_eq_true (congrArg V.str z))
  refine ⟨_, rfl, rfl, _, rfl, ite2 (fun e' => ?_) (fun e' => ?_)⟩
  · have e1 : name = "sum" := V.str.inj (of_decide_eq_true e')
    subst e1
    exact ⟨_, rfl, a, _, rfl, .of hA, k _ ⟨fun z => absurd z n1, fun _ => rfl, fun z => absurd z t1.2.2.2.1, fun z => absurd z t1.2.2.2.2.1⟩⟩
  have n2 : name ≠ "sum" := fun z => e' (decide_eq_true (congrArg V.str z))
  have hn' : name = "least" ∨ name = "greatest" := by
    simp only [aggN, List.mem_cons, List.not_mem_nil, or_false] at hn
    rcases hn with z | z | z | z
    · exact absurd z n1
    · exact absurd z n2
    · exact .inl z
    · exact .inr z
  obtain ⟨x0, r0, rfl⟩ : ∃ x r, ns = x :: r := by
    cases ns with
    | nil => exact absurd rfl hne
    | cons x r => exact ⟨x, r, rfl⟩
  refine ⟨_, rfl, a, _, _, _, rfl, rfl, .of hA, atI_nat (j := 0) rfl, ?_⟩
  refine ⟨_, rfl, a, rfl, ⟨_, .of hA⟩, for_list (xs := (x0 :: r0).map V.int) (fun i σ H' => H' = H ∧ ∃ (f : Int) (y : Option V), σ = [some (.str name), some (.ref a), some (.int f), y] ∧ f ∈ x0 :: r0 ∧ (name = "least" → ∀ v ∈ (x0 :: r0).take i, f ≤ v) ∧ (name = "greatest" → ∀ v ∈ (x0 :: r0).take i, v ≤ f)) ⟨rfl, x0, _, rfl, List.mem_cons_self .., fun _ v hv => absurd hv (by simp), fun _ v hv => absurd hv (by simp)⟩ (fun i σ H' _ hP => ?_) (fun i x σ H' hx hP => ?_) (fun σ H' hP => ?_)⟩
  · rw [hP.1]; exact .of hA
  · obtain ⟨rfl, g, y, rfl, hm, hl, hg⟩ := hP
    obtain ⟨v, hv, rfl⟩ : ∃ v, (x0 :: r0)[i]? = some v ∧ x = .int v := by
      rw [List.getElem?_map] at hx
      cases hq : (x0 :: r0)[i]? with
      | none => rw [hq] at hx; cases hx
      | some s => rw [hq] at hx; exact ⟨s, rfl, (Option.some.inj hx).symm⟩
    have ht : (x0 :: r0).take (i + 1) = (x0 :: r0).take i ++ [v] := by rw [List.take_add_one, hv]; rfl
    have hvm := List.mem_of_getElem? hv
    have mem : ∀ z, z ∈ (x0 :: r0).take (i + 1) → z ∈ (x0 :: r0).take i ∨ z = v := fun z hz => by
      rw [ht] at hz
      rcases List.mem_append.mp hz with h | h
      · exact .inl h
      · exact .inr (List.mem_singleton.mp h)
    rcases hn' with en | en
    · subst en
      refine ⟨_, rfl, _, rfl, _, _, rfl, rfl, _, rfl, ite2 (fun g1 => ?_) (fun g1 => ?_)⟩
      · have g1' := of_decide_eq_true g1
        refine ⟨_, rfl, rfl, _, rfl, iteT ?_⟩
        refine ⟨_, rfl, rfl, v, _, rfl, hvm, fun _ z hz => ?_, fun z => absurd z t1.2.2.2.2.2⟩
        rcases mem z hz with h | h
        · have := hl rfl z h; omega
        · omega
      · have g1' : ¬ v < g := fun z => g1 (decide_eq_true z)
        have fin : ∀ z ∈ (x0 :: r0).take (i + 1), g ≤ z := fun z hz => by
          rcases mem z hz with h | h
          · exact hl rfl z h
          · omega
        refine iteF ⟨_, rfl, _, rfl, _, _, rfl, rfl, _, rfl, ite2 (fun g2 => ?_) (fun g2 => ?_)⟩
        · refine ⟨_, rfl, rfl, _, rfl, ?_⟩
          exact ifS_ne (a := "least") (b := "greatest") t1.2.2.2.2.2 ⟨rfl, g, _, rfl, hm, fun _ => fin, fun z => absurd z t1.2.2.2.2.2⟩
        · exact iteF ⟨rfl, g, _, rfl, hm, fun _ => fin, fun z => absurd z t1.2.2.2.2.2⟩
    · subst en
      have nl : ("greatest" : Str) ≠ "least" := fun z => t1.2.2.2.2.2 z.symm
      have second : (¬ g < v → ∀ z ∈ (x0 :: r0).take (i + 1), z ≤ g) := fun hh z hz => by
        rcases mem z hz with h | h
        · exact hg rfl z h
        · omega
      have first : (g < v → ∀ z ∈ (x0 :: r0).take (i + 1), z ≤ v) := fun hh z hz => by
        rcases mem z hz with h | h
        · have := hg rfl z h; omega
        · omega
      refine ⟨_, rfl, _, rfl, _, _, rfl, rfl, _, rfl, ite2 (fun g1 => ?_) (fun g1 => ?_)⟩
      · have g1' := of_decide_eq_true g1
        refine ⟨_, rfl, rfl, _, rfl, ?_⟩
        refine ite2 (fun z => absurd (V.str.inj (of_decide_eq_true z)) nl) (fun _ => ?_)
        refine ⟨_, rfl, _, rfl, _, _, rfl, rfl, _, rfl, ite2 (fun g2 => absurd (of_decide_eq_true g2) (by omega)) (fun g2 => iteF ?_)⟩
        exact ⟨rfl, g, _, rfl, hm, fun z => absurd z nl, fun _ => second (by omega)⟩
      · refine iteF ⟨_, rfl, _, rfl, _, _, rfl, rfl, _, rfl, ite2 (fun g2 => ?_) (fun g2 => ?_)⟩
        · exact ⟨_, rfl, rfl, _, rfl, iteT ⟨_, rfl, rfl, v, _, rfl, hvm, fun z => absurd z nl, fun _ => first (of_decide_eq_true g2)⟩⟩
        · exact iteF ⟨rfl, g, _, rfl, hm, fun z => absurd z nl, fun _ => second (fun z => g2 (decide_eq_true z))⟩
  · obtain ⟨rfl, g, y, rfl, hm, hl, hg⟩ := hP
    rw [List.length_map, List.take_length] at hl hg
    exact ⟨_, rfl, k g ⟨fun z => absurd z n1, fun z => absurd z n2, fun z => ⟨hm, hl z⟩, fun z => ⟨hm, hg z⟩⟩⟩
theorem ok_values {f : Addr} {fd : FuncData} (D : DefAt K mg "_law_values" s_values ["bag", "key", "first", "last"] f fd) : FnOk P w K mg base CX0 1 f fd ["bag", "key", "first", "last"] (spLVals K) := by
  refine D.F.ok sc_values (fun vs H Q E h => ?_) (fun cdv A outer s H vs Q E hr h => ?_)
  · obtain ⟨a, xs, m, kk, fi, la, rfl, _⟩ := h
    rfl
  obtain ⟨a, xs, m, kk, fi, la, rfl, hS, hB, hz, hc, k⟩ := h
  refine ⟨_, (pss_cons (ps_set (i := 4) sc_values.nd rfl (by first | exact Or.inl rfl | exact Or.inr rfl) (pe_lst pa_nil)) (pss_cons (ps_for PassesOwn.never rfl (pi_list (pv 0)) (pg_tup (by rfl) (pgs_cons (pg_name (i := 5) sc_values.nd rfl (by first | exact Or.inl rfl | exact Or.inr rfl)) (pgs_cons (pg_name (i := 6) sc_values.nd rfl (by first | exact Or.inl rfl | exact Or.inr rfl)) pgs_nil))) (pss_one (ps_if (PW.pt (pw_and (pt_cmpR op_eq (pe_ix ix_tup (pv 5) pe_int (fun _ _ => rfl)) (pv 1) (nomark _)) (pw_and1 (pt_chain op_le op_le (pv 2) (pe_ix ix_tup (pv 5) pe_int (fun _ _ => rfl)) (pv 3))))) (pss_one (ps_set (i := 4) sc_values.nd rfl (by first | exact Or.inl rfl | exact Or.inr rfl) (pe_op op_cat (pv 4) (pe_op op_rep (pe_lst (pa_cons (pe_ix ix_tup (pv 5) pe_int (fun _ _ => rfl)) pa_nil)) (pv 6))))) pss_nil))) (pss_one (ps_ret (pv 4))))), ?_⟩
  refine ⟨Nat.zero_le _, fun F nF => ?_⟩
  have lenB : ∀ i, i ≤ m.length → (expand (sel (m.take i) kk fi la)).length ≤ 1000000 := fun i hi => by
    have h1 := expand_le (l := sel (m.take i) kk fi la) (b := 1000) (fun p hp => (hc p (List.mem_of_mem_take (List.mem_filter.mp hp).1)).2) (by decide)
    have h2 := List.length_filter_le (fun p : Row × Int => decide (p.1.k = kk) && (decide (fi ≤ p.1.t) && decide (p.1.t ≤ la))) (m.take i)
    have h3 : (sel (m.take i) kk fi la).length ≤ 1000 := by
      show (List.filter _ _).length ≤ 1000
      rw [List.length_take] at h2
      omega
    have h4 : (((sel (m.take i) kk fi la).length : Nat) : Int) * 1000 ≤ 1000 * 1000 := Int.mul_le_mul_of_nonneg_right (by omega) (by decide)
    omega
  refine ⟨_, rfl, a, rfl, ⟨_, (same_new nF _).seq hS⟩, for_list (xs := xs) (fun i σ H' => ∃ (p : Addr) (y5 y6 : Option V), σ = [some (.ref a), some (.str kk), some (.int fi), some (.int la), some (.ref p), y5, y6] ∧ H p = none ∧ H' p = some (.lst ((expand (sel (m.take i) kk fi la)).map V.int)) ∧ Same H H') ⟨F, _, _, rfl, nF, upd_same, same_new nF _⟩ (fun i σ H' _ hP => ?_) (fun i x σ H' hx hP => ?_) (fun σ H' hP => ?_)⟩
  · obtain ⟨_, _, _, _, _, _, h⟩ := hP
    exact h.seq hS
  · obtain ⟨p, y5, y6, rfl, np, b1, b3⟩ := hP
    obtain ⟨q, hq, a0, q0, rfl, h1, h2⟩ := hB.get hx
    have hi := idx_lt hq
    have hcq := hc q (List.mem_of_getElem? hq)
    have et : sel (m.take (i + 1)) kk fi la = sel (m.take i) kk fi la ++ if (decide (q.1.k = kk) && (decide (fi ≤ q.1.t) && decide (q.1.t ≤ la))) = true then [q] else [] := by
      unfold sel
      rw [List.take_add_one, hq, List.filter_append]
      show _ ++ List.filter _ [q] = _
      rw [List.filter_cons]
      by_cases z : (decide (q.1.k = kk) && (decide (fi ≤ q.1.t) && decide (q.1.t ≤ la))) = true
      · rw [if_pos z, if_pos z]; rfl
      · rw [if_neg z, if_neg z]; rfl
    have skip : (decide (q.1.k = kk) && (decide (fi ≤ q.1.t) && decide (q.1.t ≤ la))) = false → ∃ (p' : Addr) (z5 z6 : Option V), [some (V.ref a), some (.str kk), some (.int fi), some (.int la), some (.ref p), some (.ref q0), some (.int q.2)] = [some (.ref a), some (.str kk), some (.int fi), some (.int la), some (.ref p'), z5, z6] ∧ H p' = none ∧ H' p' = some (.lst ((expand (sel (m.take (i + 1)) kk fi la)).map V.int)) ∧ Same H H' := fun hf => by
      rw [hf, if_neg Bool.false_ne_true, List.append_nil] at et
      exact ⟨p, _, _, rfl, np, by rw [et]; exact b1, b3⟩
    refine ⟨a0, _, rfl, .of (b3 _ _ h1), rfl, _, _, rfl, _, _, rfl, rfl, ?_⟩
    have eqs : ∀ x y : Str, decide (V.str x = V.str y) = decide (x = y) := fun x y => by rw [Bool.eq_iff_iff]; simp
    refine ⟨_, rfl, q0, _, _, _, rfl, rfl, .of (b3 _ _ h2), atI_nat (j := 1) rfl, _, rfl, rfl, _, rfl, ite2 (fun g => ?_) (fun g => ?_)⟩
    · have g' : q.1.k = kk := V.str.inj (of_decide_eq_true g)
      refine ⟨_, rfl, _, rfl, q0, _, _, _, rfl, rfl, .of (b3 _ _ h2), atI_nat (j := 0) rfl, _, _, rfl, rfl, _, rfl, ite2 (fun c1 => ?_) (fun c1 => ?_)⟩
      · refine ⟨_, rfl, _, _, rfl, rfl, _, rfl, ite2 (fun c2 => ?_) (fun c2 => ?_)⟩
        · rw [decide_eq_true g', c1, c2] at et
          have et' : sel (m.take (i + 1)) kk fi la = sel (m.take i) kk fi la ++ [q] := et
          refine ⟨_, rfl, _, rfl, q0, _, _, _, rfl, rfl, .of (b3 _ _ h2), atI_nat (j := 2) rfl, (by show 1 ≤ sizeLine; decide), fun l1 n1 => ?_⟩
          refine ⟨_, rfl, l1, q.2, _, rfl, rfl, upd_same, by omega, by omega, ?_, fun l2 n2 => ?_⟩
          · show 1 * q.2.toNat ≤ sizeLine
            rw [sizeLine_eq]; omega
          have erep : (List.replicate q.2.toNat [V.int q.1.v]).flatten = (List.replicate q.2.toNat q.1.v).map V.int := by
            generalize q.2.toNat = n
            induction n with
            | zero => rfl
            | succ n ih => rw [List.replicate_succ, List.flatten_cons, ih, List.replicate_succ]; rfl
          have n1p : p ≠ l1 := ne_of_none b1 n1
          have b1a : (upd H' l1 (.lst [.int q.1.v])) p = some (.lst ((expand (sel (m.take i) kk fi la)).map V.int)) := by rw [upd_ne n1p]; exact b1
          have n2p : p ≠ l2 := ne_of_none b1a n2
          have s12 := (same_new n1 (.lst [.int q.1.v])).trans (same_new n2 (.lst (List.replicate q.2.toNat [V.int q.1.v]).flatten))
          refine ⟨p, l2, _, _, rfl, rfl, by rw [upd_ne n2p]; exact b1a, upd_same, ?_, fun l3 n3 => ?_⟩
          · have z1 := lenB i (by omega)
            rw [List.length_map, erep, List.length_map, List.length_replicate, sizeLine_eq]
            omega
          refine ⟨l3, _, _, rfl, Same.none (b3.trans s12) n3, ?_, (b3.trans s12).trans (same_new n3 _)⟩
          rw [upd_same, et', expand_app, erep, List.map_append]
          have : expand [q] = List.replicate q.2.toNat q.1.v := by show List.replicate q.2.toNat q.1.v ++ [] = _; rw [List.append_nil]
          rw [this]
        · exact skip (by rw [Bool.eq_false_iff.mpr c2, Bool.and_false, Bool.and_false])
      · exact ⟨_, rfl, iteF (skip (by rw [Bool.eq_false_iff.mpr c1, Bool.false_and, Bool.and_false]))⟩
    · exact iteF (skip (by rw [eqs] at g; rw [Bool.eq_false_iff.mpr g, Bool.false_and]))
  · obtain ⟨p, y5, y6, rfl, np, b1, b3⟩ := hP
    rw [hB.1, List.take_length] at b1
    exact ⟨_, rfl, k p H' b3 np b1⟩
theorem ok_keys {f : Addr} {fd : FuncData} (D : DefAt K mg "_law_keys" s_keys ["bag"] f fd) (z_sorted : mg "sorted" = none) : FnOk P w K mg base CX0 1 f fd ["bag"] (spLKeys K) := by
  refine D.F.ok sc_keys (fun vs H Q E h => ?_) (fun cdv A outer s H vs Q E hr h => ?_)
  · obtain ⟨a, xs, m, rfl, _⟩ := h
    rfl
  obtain ⟨a, xs, m, rfl, hS, hB, hz, k⟩ := h
  refine ⟨_, (pss_cons (ps_set (i := 1) sc_keys.nd rfl (by first | exact Or.inl rfl | exact Or.inr rfl) (pe_lst pa_nil)) (pss_cons (ps_for PassesOwn.never rfl (pi_list (pv 0)) (pg_tup (by rfl) (pgs_cons (pg_name (i := 2) sc_keys.nd rfl (by first | exact Or.inl rfl | exact Or.inr rfl)) (pgs_cons (pg_name (i := 3) sc_keys.nd rfl (by first | exact Or.inl rfl | exact Or.inr rfl)) pgs_nil))) (pss_one (ps_if (pt_cmpR op_notIn_seq (pe_ix ix_tup (pv 2) pe_int (fun _ _ => rfl)) (pv 1) rfl) (pss_one (ps_expr (pe_bm PySem.F.plainAttrs_list PySem.F.slot_list_append PySem.F.type_list_append mt_append (pv 1) (pa_cons (pe_ix ix_tup (pv 2) pe_int (fun _ _ => rfl)) pa_nil)))) pss_nil))) (pss_one (ps_ret (pe_callB cr_sortedS (by rfl) z_sorted boot_sorted (pa_cons (pv 1) pa_nil)))))), ?_⟩
  refine ⟨Nat.zero_le _, fun F nF => ?_⟩
  refine ⟨_, rfl, a, rfl, ⟨_, (same_new nF _).seq hS⟩, for_list (xs := xs) (fun i σ H' => ∃ (ks : List Str) (y2 y3 : Option V), σ = [some (.ref a), some (.ref F), y2, y3] ∧ H' F = some (.lst (ks.map V.str)) ∧ ks.Nodup ∧ ks.length ≤ i ∧ (∀ k, k ∈ ks ↔ ∃ q ∈ m.take i, q.1.k = k) ∧ Same H H') ⟨[], _, _, rfl, upd_same, List.nodup_nil, Nat.le_refl _, fun k => by simp, same_new nF _⟩ (fun i σ H' _ hP => ?_) (fun i x σ H' hx hP => ?_) (fun σ H' hP => ?_)⟩
  · obtain ⟨_, _, _, _, _, _, _, _, h⟩ := hP
    exact h.seq hS
  · obtain ⟨ks, y2, y3, rfl, b1, b2, b4, b5, b3⟩ := hP
    obtain ⟨q, hq, a0, q0, rfl, h1, h2⟩ := hB.get hx
    have hi := idx_lt hq
    have ht : m.take (i + 1) = m.take i ++ [q] := by rw [List.take_add_one, hq]; rfl
    refine ⟨a0, _, rfl, .of (b3 _ _ h1), rfl, _, _, rfl, _, _, rfl, rfl, ?_⟩
    have e : (if true = true then !inV (.str q.1.k) (ks.map V.str) else inV (.str q.1.k) (ks.map V.str)) = !decide (q.1.k ∈ ks) := by rw [if_pos rfl, inStrs]
    refine ⟨_, rfl, q0, _, _, _, rfl, rfl, .of (b3 _ _ h2), atI_nat (j := 1) rfl, _, rfl, F, _, rfl, .inl (.of b1), rfl, flatS ks, !decide (q.1.k ∈ ks), congrArg V.bl e, ?_⟩
    by_cases hm : q.1.k ∈ ks
    · refine ite2 (fun z => absurd z (by rw [decide_eq_true hm]; decide)) (fun _ => ?_)
      refine ⟨ks, _, _, rfl, b1, b2, by omega, fun k' => ?_, b3⟩
      rw [ht, b5]
      constructor
      · rintro ⟨p, hp, e⟩
        exact ⟨p, List.mem_append_left _ hp, e⟩
      · rintro ⟨p, hp, e⟩
        rcases List.mem_append.mp hp with h | h
        · exact ⟨p, h, e⟩
        · rw [List.mem_singleton.mp h] at e
          rw [← e]; exact (b5 _).mp hm
    · refine ite2 (fun _ => ?_) (fun z => absurd (by rw [decide_eq_false hm]; rfl) z)
      refine ⟨_, rfl, .inl ⟨rfl, _, .of b1⟩, _, rfl, q0, _, _, _, rfl, rfl, .of (b3 _ _ h2), atI_nat (j := 1) rfl, F, _, _, rfl, rfl, b1, size_le (by rw [List.length_map]; omega), ?_⟩
      refine ⟨ks ++ [q.1.k], _, _, rfl, by rw [upd_same, List.map_append]; rfl, ?_, by rw [List.length_append]; show ks.length + 1 ≤ i + 1; omega, fun k' => ?_, same_mu b3 nF⟩
      · rw [List.nodup_append]
        refine ⟨b2, by simp, fun x hx y hy z => hm ?_⟩
        rw [List.mem_singleton] at hy
        rw [← hy, ← z]; exact hx
      · rw [ht, List.mem_append, List.mem_singleton, b5]
        constructor
        · rintro (⟨p, hp, e⟩ | e)
          · exact ⟨p, List.mem_append_left _ hp, e⟩
          · exact ⟨q, List.mem_append_right _ (List.mem_singleton.mpr rfl), e.symm⟩
        · rintro ⟨p, hp, e⟩
          rcases List.mem_append.mp hp with h | h
          · exact .inl ⟨p, h, e⟩
          · rw [List.mem_singleton.mp h] at e
            exact .inr e.symm
  · obtain ⟨ks, y2, y3, rfl, b1, b2, b4, b5, b3⟩ := hP
    rw [hB.1, List.take_length] at b5
    rw [hB.1] at b4
    refine ⟨_, rfl, F, ks, rfl, .of b1, by omega, fun ys p hp _ np => ?_⟩
    exact k p ys _ (b3.trans (same_new np _)) (Same.none b3 np) upd_same (hp.nodup_iff.mpr b2) (by rw [hp.length_eq]; exact b4) fun k' => by rw [hp.mem_iff]; exact b5 k'
end
end Tf
set_option maxHeartbeats 8000000
namespace Tf
open PySem PySem.Spec PyProof.Rows L2 TL
abbrev s_first_open : Stmt := (topS 5)
abbrev n_first_open : List Str := ["time", "size", "slide"]
theorem sc_first_open : FnScope n_first_open ["time", "size", "slide"] (defScope s_first_open) := ⟨rfl, rfl, rfl, by decide +kernel, rfl, by decide +kernel, by decide +kernel⟩
abbrev s_window_starts : Stmt := (topS 4)
abbrev n_window_starts : List Str := ["time", "size", "slide"]
theorem sc_window_starts : FnScope n_window_starts ["time", "size", "slide"] (defScope s_window_starts) := ⟨rfl, rfl, rfl, by decide +kernel, rfl, by decide +kernel, by decide +kernel⟩
abbrev s_windows : Stmt := (topS 3)
abbrev n_windows : List Str := ["bag", "size", "slide", "aggregate", "groups", "found", "row", "count", "start", "key", "worth"]
theorem sc_windows : FnScope n_windows ["bag", "size", "slide", "aggregate"] (defScope s_windows) := ⟨rfl, rfl, rfl, by decide +kernel, rfl, by decide +kernel, by decide +kernel⟩
section
variable {P : Program} {w : World} {K : PySem.W.Frag} {mg : Str → Option Value} {base : Heap}
def spFirst : Sp := fun vs H Q _ => ∃ (t size slide : Int), vs = [.int t, .int size, .int slide] ∧ 1 ≤ slide ∧ slide ≤ 100000 ∧ Q (.int (wFirst size slide t)) H
theorem ok_first_open {f : Addr} {fd : FuncData} (D : DefAt K mg "first_open" s_first_open ["time", "size", "slide"] f fd) : FnOk P w K mg base CX0 1 f fd ["time", "size", "slide"] spFirst := by
  refine D.F.ok sc_first_open (fun vs H Q E h => ?_) (fun cdv A outer s H vs Q E hr h => ?_)
  · obtain ⟨t, size, slide, rfl, _⟩ := h
    rfl
  obtain ⟨t, size, slide, rfl, h1, h2, k⟩ := h
  refine ⟨_, (pss_one (ps_ret (pe_op op_mul (pe_un un_neg (pe_op op_fdiv (pe_op op_sub (pe_op op_sub (pv 1) pe_int) (pv 0)) (pv 2))) (pv 2)))), ?_⟩
  exact ⟨_, rfl, _, _, rfl, rfl, _, rfl, _, _, rfl, rfl, _, rfl, _, _, rfl, rfl, (by show (0 : Int) < slide ∧ slide < 1073741824; omega), _, rfl, _, rfl, _, _, rfl, rfl, (.inr (by omega)), k⟩
theorem ok_window_starts {f fo : Addr} {fd fod : FuncData} (D : DefAt K mg "window_starts" s_window_starts ["time", "size", "slide"] f fd) (D_first_open : DefAt K mg "first_open" s_first_open ["time", "size", "slide"] fo fod) (G_first_open : FnOk P w K mg base CX0 1 fo fod ["time", "size", "slide"] spFirst)
    (z_range : mg "range" = none) (z_list : mg "list" = none) : FnOk P w K mg base CX0 2 f fd ["time", "size", "slide"] spStarts := by
  refine D.F.ok sc_window_starts (fun vs H Q E h => ?_) (fun cdv A outer s H vs Q E hr h => ?_)
  · obtain ⟨t, size, slide, rfl, _⟩ := h
    rfl
  obtain ⟨t, size, slide, rfl, h1, h2, h3, h4, h5, h6, k⟩ := h
  refine ⟨_, (pss_one (ps_ret (pe_listRg3 rfl (by rfl) z_list (by rfl) z_range (pa_cons (pe_call G_first_open (hr.mono (by omega)) (by rfl) D_first_open.m D_first_open.F.kp D_first_open.b .nil pass0 (pa_cons (pv 0) (pa_cons (pv 1) (pa_cons (pv 2) pa_nil)))) (pa_cons (pe_op op_add (pv 0) pe_int) (pa_cons (pv 2) pa_nil)))))), ?_⟩
  refine ⟨_, rfl, _, rfl, _, rfl, t, size, slide, rfl, h1, h2, ?_⟩
  refine ⟨_, rfl, _, _, rfl, rfl, _, rfl, _, _, _, wMany size slide t, rfl, starts_rgc h1 h2 h3 h4 h5 h6, ?_, fun q hq => ?_⟩
  · have := wMany_le (t := t) h1 (show 0 ≤ size by omega)
    omega
  · have e := rg3_starts size slide t
    rw [e]
    exact k q hq
theorem ok_windows {f fs fa fc : Addr} {fd fsd fad fcd : FuncData} (D : DefAt K mg "windows" s_windows ["bag", "size", "slide", "aggregate"] f fd) (D_window_starts : DefAt K mg "window_starts" s_window_starts ["time", "size", "slide"] fs fsd) (G_window_starts : FnOk P w K mg base CX0 2 fs fsd ["time", "size", "slide"] spStarts)
    (D_aggregated : DefAt K mg "aggregated" s_aggregated ["rows", "aggregate"] fa fad) (G_aggregated : FnOk P w K mg base CX0 1 fa fad ["rows", "aggregate"] (spAggregated K)) (D_changes_of : DefAt K mg "changes_of" s_changes_of ["pairs"] fc fcd) (G_changes_of : FnOk P w K mg base CX0 1 fc fcd ["pairs"] (spNorm K)) :
    FnOk P w K mg base CX0 3 f fd ["bag", "size", "slide", "aggregate"] (spWindows K) := by
  refine D.F.ok sc_windows (fun vs H Q E h => ?_) (fun cdv A outer s H vs Q E hr h => ?_)
  · obtain ⟨a, xs, m, size, slide, name, rfl, _⟩ := h
    rfl
  obtain ⟨a, xs, m, size, slide, name, rfl, hS, hB, hC, hz, hc, ht, l1, l2, l3, l4, hn, k⟩ := h
  refine ⟨_, (pss_cons (ps_set (i := 4) sc_windows.nd rfl (by first | exact Or.inl rfl | exact Or.inr rfl) pe_dnewT) (pss_cons (ps_for PassesOwn.never rfl (pi_list (pv 0)) (pg_tup (by rfl) (pgs_cons (pg_name (i := 6) sc_windows.nd rfl (by first | exact Or.inl rfl | exact Or.inr rfl)) (pgs_cons (pg_name (i := 7) sc_windows.nd rfl (by first | exact Or.inl rfl | exact Or.inr rfl)) pgs_nil))) (pss_one (ps_for PassesOwn.never rfl (pi_list (pe_call G_window_starts (hr.mono (by omega)) (by rfl) D_window_starts.m D_window_starts.F.kp D_window_starts.b .nil pass0 (pa_cons (pe_ix ix_tup (pv 6) pe_int (fun _ _ => rfl)) (pa_cons (pv 1) (pa_cons (pv 2) pa_nil))))) (pg_name (i := 8) sc_windows.nd rfl (by first | exact Or.inl rfl | exact Or.inr rfl)) (pss_one (ps_expr (pe_bm PySem.F.plainAttrs_list PySem.F.slot_list_append PySem.F.type_list_append mt_append (pe_dsetdT (hu_of hr) (pv 4) (pe_tup (pa_cons (pv 8) (pa_cons (pe_ix ix_tup (pv 6) pe_int (fun _ _ => rfl)) pa_nil))) (pe_lst pa_nil) ⟨rfl, rfl, rfl, rfl⟩) (pa_cons (pe_tup (pa_cons (pv 6) (pa_cons (pv 7) pa_nil))) pa_nil))))))) (pss_cons (ps_set (i := 5) sc_windows.nd rfl (by first | exact Or.inl rfl | exact Or.inr rfl) (pe_lst pa_nil)) (pss_cons (ps_lock (ps_for PassesOwn.never rfl (pi_keys (pv 4)) (pg_tup (by rfl) (pgs_cons (pg_name (i := 8) sc_windows.nd rfl (by first | exact Or.inl rfl | exact Or.inr rfl)) (pgs_cons (pg_name (i := 9) sc_windows.nd rfl (by first | exact Or.inl rfl | exact Or.inr rfl)) pgs_nil))) (pss_cons (ps_set (i := 10) sc_windows.nd rfl (by first | exact Or.inl rfl | exact Or.inr rfl) (pe_call G_aggregated (hr.mono (by omega)) (by rfl) D_aggregated.m D_aggregated.F.kp D_aggregated.b .nil pass0 (pa_cons (pe_dget (hu_of hr) (pv 4) (pe_tup (pa_cons (pv 8) (pa_cons (pv 9) pa_nil))) (fun _ _ => rfl)) (pa_cons (pv 3) pa_nil)))) (pss_one (ps_expr (pe_bm PySem.F.plainAttrs_list PySem.F.slot_list_append PySem.F.type_list_append mt_append (pv 5) (pa_cons (pe_tup (pa_cons (pe_tup (pa_cons (pe_op op_sub (pe_op op_add (pv 8) (pv 1)) pe_int) (pa_cons (pv 9) (pa_cons (pv 10) pa_nil)))) (pa_cons pe_int pa_nil))) pa_nil))))))) (pss_one (ps_ret (pe_call G_changes_of (hr.mono (by omega)) (by rfl) D_changes_of.m D_changes_of.F.kp D_changes_of.b .nil pass0 (pa_cons (pv 5) pa_nil)))))))), ?_⟩
  intro dl ndl
  have s0 := same_new ndl (.dT [])
  have mulB : ∀ i, i ≤ 60 → i * size.toNat ≤ 60000 := fun i hi => by
    have := Nat.mul_le_mul hi (show size.toNat ≤ 1000 by omega)
    omega
  refine ⟨_, rfl, a, rfl, ⟨_, s0.seq hS⟩, for_list (xs := xs) (fun i σ H' => ∃ (y5 y6 y7 y8 y9 y10 : Option V) (G : Wt), σ = [some (.ref a), some (.int size), some (.int slide), some (.str name), some (.ref dl), y5, y6, y7, y8, y9, y10] ∧ H' dl = some (.dT (dW G)) ∧ WInv slide (fun s k => sel (m.take i) k s (s + size - 1)) G ∧ WAt H' G ∧ (G.map (·.2.1)).Nodup ∧ G.length ≤ i * size.toNat ∧ (∀ p ∈ G, H p.2.1 = none ∧ p.2.2.length ≤ i) ∧ Same H H') ⟨_, _, _, _, _, _, [], rfl, upd_same, WInv.nil _ (fun s k _ => rfl), fun p hp => absurd hp List.not_mem_nil, List.nodup_nil, Nat.zero_le _, fun p hp => absurd hp List.not_mem_nil, s0⟩ (fun i σ H' _ hP => ?_) (fun i x σ H' hx hP => ?_) (fun σ H' hP => ?_)⟩
  · obtain ⟨_, _, _, _, _, _, _, _, _, _, _, _, _, _, h⟩ := hP
    exact h.seq hS
  · obtain ⟨y5, y6, y7, y8, y9, y10, G, rfl, b1, b2, b3, b4, b5, b6, b7⟩ := hP
    obtain ⟨p, hp, a0, q0, rfl, h1, h2⟩ := hB.get hx
    have hi := idx_lt hp
    have htp := ht p (List.mem_of_getElem? hp)
    have et : m.take (i + 1) = m.take i ++ [p] := by rw [List.take_add_one, hp]; rfl
    refine ⟨a0, _, rfl, .of (b7 _ _ h1), rfl, _, _, rfl, _, _, rfl, rfl, ?_⟩
    refine ⟨_, rfl, q0, _, _, _, rfl, rfl, .of (b7 _ _ h2), atI_nat (j := 0) rfl, _, rfl, _, rfl, p.1.t, size, slide, rfl, l1, by omega, l3, by omega, htp.1, htp.2, fun sl nsl => ?_⟩
    have s1 := same_new nsl (.lst ((startsL size slide p.1.t).map V.int))
    have hsl : (upd H' sl (.lst ((startsL size slide p.1.t).map V.int))) sl = some (.lst ((startsL size slide p.1.t).map V.int)) := upd_same
    have dsl : dl ≠ sl := ne_of_none b1 nsl
    have b1' := s1 _ _ b1
    have b3' : WAt (upd H' sl (.lst ((startsL size slide p.1.t).map V.int))) G := b3.keep (fun b ys e _ => s1 _ _ e) (.same s1)
    have gsl : ∀ q ∈ G, q.2.1 ≠ sl := fun q hq e => by
      obtain ⟨ys, hy, _⟩ := b3 q hq
      rw [e, nsl] at hy; cases hy
    have nslH : H sl = none := Same.none b7 nsl
    have b7' := b7.trans s1
    generalize upd H' sl (.lst ((startsL size slide p.1.t).map V.int)) = H1 at hsl b1' b3' b7'
    have lst : (startsL size slide p.1.t).length ≤ size.toNat := by
      have := starts_len (t := p.1.t) l1 (show 0 ≤ size by omega)
      omega
    refine ⟨sl, rfl, ⟨_, .of hsl⟩, for_list (xs := (startsL size slide p.1.t).map V.int) (fun j σ H2 => ∃ (y8 : Option V) (G : Wt), σ = [some (.ref a), some (.int size), some (.int slide), some (.str name), some (.ref dl), y5, some (.ref q0), some (.int p.2), y8, y9, y10] ∧ H2 sl = some (.lst ((startsL size slide p.1.t).map V.int)) ∧ H2 dl = some (.dT (dW G)) ∧ WInv slide (cont size (m.take i) p ((startsL size slide p.1.t).take j)) G ∧ WAt H2 G ∧ (G.map (·.2.1)).Nodup ∧ G.length ≤ i * size.toNat + j ∧ (∀ p ∈ G, H p.2.1 = none ∧ p.2.2.length ≤ i + 1 ∧ p.2.1 ≠ sl) ∧ Same H H2) ⟨_, G, rfl, hsl, b1', b2.congr (fun s k _ => by rw [List.take_zero, cont_nil]), b3', b4, by omega, fun q hq => ⟨(b6 q hq).1, by have := (b6 q hq).2; omega, gsl q hq⟩, b7'⟩ (fun j σ H2 _ hP => ?_) (fun j x σ H2 hx hP => ?_) (fun σ H2 hP => ?_)⟩
    · obtain ⟨_, _, _, h, _⟩ := hP
      exact .of h
    · obtain ⟨y8, G, rfl, c0, c1, c2, c3, c4, c5, c6, c7⟩ := hP
      obtain ⟨st, hst, rfl⟩ : ∃ z, (startsL size slide p.1.t)[j]? = some z ∧ x = .int z := by
        rw [List.getElem?_map] at hx
        cases hq : (startsL size slide p.1.t)[j]? with
        | none => rw [hq] at hx; cases hx
        | some s => rw [hq] at hx; exact ⟨s, rfl, (Option.some.inj hx).symm⟩
      have hj := idx_lt hst
      have est : (startsL size slide p.1.t).take (j + 1) = (startsL size slide p.1.t).take j ++ [st] := by rw [List.take_add_one, hst]; rfl
      have isS := (starts_mem l1 st).mp (List.mem_of_getElem? hst)
      have hno : st ∉ (startsL size slide p.1.t).take j := fun z => by
        have := starts_nodup (size := size) (t := p.1.t) l1
        rw [← List.take_append_drop (j + 1) (startsL size slide p.1.t), est, List.append_assoc, List.nodup_append] at this
        exact this.2.2 st z st (List.mem_append_left _ (List.mem_singleton.mpr rfl)) rfl
      have hGl : G.length ≤ 70000 := by have := mulB i (by omega); omega
      refine ⟨_, rfl, dl, rfl, .inr ⟨_, .inl c1⟩, _, rfl, _, rfl, q0, _, _, _, rfl, rfl, .of (c7 _ _ h2), atI_nat (j := 1) rfl, (by show 2 ≤ sizeLine; decide), fun t nt => ⟨Nat.zero_le _, fun e ne => ?_⟩⟩
      have s2 := same_new nt (.tup [.int st, .str p.1.k])
      have s3 := same_new ne (.lst [])
      have he : (upd (upd H2 t (.tup [.int st, .str p.1.k])) e (.lst [])) e = some (.lst []) := upd_same
      have htt : (upd (upd H2 t (.tup [.int st, .str p.1.k])) e (.lst [])) t = some (.tup [.int st, .str p.1.k]) := s3 _ _ upd_same
      have s23 := s2.trans s3
      have neH : H e = none := Same.none (c7.trans s2) ne
      have esl : sl ≠ e := ne_of_none (s2 _ _ c0) ne
      have edl : dl ≠ e := ne_of_none (s2 _ _ c1) ne
      have eG : ∀ q ∈ G, q.2.1 ≠ e := fun q hq z => by
        obtain ⟨ys, hy, _⟩ := c3 q hq
        have := s2 _ _ hy
        rw [z, ne] at this; cases this
      generalize (upd (upd H2 t (.tup [.int st, .str p.1.k])) e (.lst [])) = H3 at he htt s23
      have d0 := s23 _ _ c0
      have d1 := s23 _ _ c1
      have d3 : WAt H3 G := c3.keep (fun b ys e _ => s23 _ _ e) (.same s23)
      have d7 := c7.trans s23
      refine ⟨dW G, wk (st, p.1.k), t, d1, rfl, htt, size_le (by rw [dW_len]; omega), fun v hv => ?_, fun hv => ?_⟩
      · -- the group is there
        have hex : ∃ q ∈ G, q.1 = (st, p.1.k) := Classical.byContradiction fun z => by
          rw [dW_no fun q hq e => z ⟨q, hq, e⟩] at hv; cases hv
        obtain ⟨q, hq, eq1⟩ := hex
        have ev : v = .ref q.2.1 := by
          rw [← eq1, dW_yes c2.keys hq] at hv
          exact (Option.some.inj hv).symm
        subst ev
        obtain ⟨ys, hy, hBy⟩ := d3 q hq
        refine ⟨.inl ⟨rfl, _, .of hy⟩, _, rfl, _, rfl, (by show 2 ≤ sizeLine; decide), fun u nu => ?_⟩
        have s4 := same_new nu (.tup [.ref q0, .int p.2])
        have hy4 := s4 _ _ hy
        have hu : (upd H3 u (.tup [.ref q0, .int p.2])) u = some (.tup [.ref q0, .int p.2]) := upd_same
        have hq4 := s4 _ _ (d7 _ _ h2)
        have e1 := s4 _ _ d1
        have e0 := s4 _ _ d0
        have e3 : WAt (upd H3 u (.tup [.ref q0, .int p.2])) G := d3.keep (fun b ys e _ => s4 _ _ e) (.same s4)
        have e7 := d7.trans s4
        generalize upd H3 u (.tup [.ref q0, .int p.2]) = H4 at hy4 hu hq4 e1 e0 e3 e7
        have yl : ys.length ≤ i + 1 := by rw [hBy.1]; exact (c6 q hq).2.1
        refine ⟨q.2.1, ys, _, rfl, rfl, hy4, size_le (by omega), ?_⟩
        have qd : q.2.1 ≠ dl := fun z => by rw [z, e1] at hy4; cases hy4
        have hI : WInv slide (cont size (m.take i) p ((startsL size slide p.1.t).take (j + 1))) (addW G q.1 p) := (c2.put hq p).congr fun s k _ => by
          rw [eq1, est]
          exact cont_step _ _ hno s k
        refine ⟨_, addW G q.1 p, rfl, by rw [upd_ne (c6 q hq).2.2.symm]; exact e0, by rw [upd_ne qd.symm, addW_at]; exact e1, hI, e3.put c2.keys c4 hq hy4 ⟨u, q0, rfl, hu, hq4⟩, by rw [addW_addr]; exact c4, by rw [addW_len]; omega, fun r hr => ?_, fun b o eb => ?_⟩
        · have hle : r.2.2.length ≤ i + 1 := by
            have := hI.lenc hr
            rw [List.length_take] at this; omega
          obtain ⟨r', hr', ⟨e1, rfl⟩ | ⟨e1, rfl⟩⟩ := addW_mem hr
          · exact ⟨(c6 r' hr').1, hle, (c6 r' hr').2.2⟩
          · exact c6 r hr'
        · rw [upd_ne (ne_of_none eb (c6 q hq).1)]
          exact e7 _ _ eb
      · -- a new group
        have hfree : ∀ q ∈ G, q.1 ≠ (st, p.1.k) := fun q hq z => by
          have := dW_yes c2.keys hq
          rw [z, hv] at this; cases this
        rw [dW_put hfree e []]
        have hI : WInv slide (cont size (m.take i) p ((startsL size slide p.1.t).take (j + 1))) (G ++ [((st, p.1.k), e, [p])]) := (c2.new (key := (st, p.1.k)) isS.1 hfree e p).congr fun s k _ => by
          rw [est]
          exact cont_step _ _ hno s k
        have hd4 : (upd H3 dl (.dT (dW (G ++ [((st, p.1.k), e, [])])))) dl = some (.dT (dW (G ++ [((st, p.1.k), e, [p])]))) := by
          rw [upd_same]
          congr 2
          unfold dW
          rw [List.map_append, List.map_append]; rfl
        have k4 : ∀ b o, b ≠ dl → H3 b = some o → (upd H3 dl (.dT (dW (G ++ [((st, p.1.k), e, [])])))) b = some o := fun b o hb eb => by rw [upd_ne hb]; exact eb
        have kT : TupUp H3 (upd H3 dl (.dT (dW (G ++ [((st, p.1.k), e, [])])))) := TupUp.dT d1
        generalize (upd H3 dl (.dT (dW (G ++ [((st, p.1.k), e, [])])))) = H4 at hd4 k4 kT
        have he4 := k4 _ _ edl.symm he
        have e0 := k4 _ _ dsl.symm d0
        have hq4 := kT _ _ (d7 _ _ h2)
        have e7 : Same H H4 := fun b o eb => k4 _ _ (ne_of_none eb ndl) (d7 _ _ eb)
        have e3 : WAt H4 G := d3.keep (fun b ys eb hb => k4 _ _ (fun z => by rw [z, d1] at eb; cases eb) eb) kT
        refine ⟨.inl ⟨rfl, _, .of he4⟩, _, rfl, _, rfl, (by show 2 ≤ sizeLine; decide), fun u nu => ?_⟩
        have s4 := same_new nu (.tup [.ref q0, .int p.2])
        have hu : (upd H4 u (.tup [.ref q0, .int p.2])) u = some (.tup [.ref q0, .int p.2]) := upd_same
        have f4 := s4 _ _ he4
        have f0 := s4 _ _ e0
        have f1 := s4 _ _ hd4
        have f3 : WAt (upd H4 u (.tup [.ref q0, .int p.2])) G := e3.keep (fun b ys e _ => s4 _ _ e) (.same s4)
        have f7 := e7.trans s4
        have fq := s4 _ _ hq4
        generalize upd H4 u (.tup [.ref q0, .int p.2]) = H5 at hu f4 f0 f1 f3 f7 fq
        refine ⟨e, [], _, rfl, rfl, f4, size_le (Nat.zero_le _), ?_⟩
        have k5 : TupUp H5 (upd H5 e (.lst ([] ++ [.ref u]))) := TupUp.lst (xs := []) f4
        refine ⟨_, G ++ [((st, p.1.k), e, [p])], rfl, by rw [upd_ne esl]; exact f0, by rw [upd_ne edl]; exact f1, hI, fun r hr => ?_, ?_, ?_, fun r hr => ?_, fun b o eb => ?_⟩
        · rcases List.mem_append.mp hr with hr | hr
          · obtain ⟨ys, hy, B⟩ := f3 r hr
            exact ⟨ys, by rw [upd_ne (eG r hr)]; exact hy, B.mono k5⟩
          · rw [List.mem_singleton.mp hr]
            exact ⟨_, upd_same, BagAt.nil.snoc ⟨u, q0, rfl, k5 _ _ hu, k5 _ _ fq⟩⟩
        · rw [List.map_append, List.nodup_append]
          refine ⟨c4, List.nodup_cons.mpr ⟨List.not_mem_nil, List.nodup_nil⟩, fun b hb c hc => ?_⟩
          obtain ⟨r, hr, rfl⟩ := List.mem_map.mp hb
          rw [show c = e from List.mem_singleton.mp hc]
          exact eG r hr
        · rw [List.length_append]; show G.length + 1 ≤ _; omega
        · have hle : r.2.2.length ≤ i + 1 := by
            have := hI.lenc hr
            rw [List.length_take] at this; omega
          rcases List.mem_append.mp hr with hr | hr
          · exact c6 r hr
          · rw [List.mem_singleton.mp hr] at hle ⊢
            exact ⟨neH, hle, esl.symm⟩
        · rw [upd_ne (ne_of_none eb neH)]
          exact f7 _ _ eb
    · obtain ⟨y8, G, rfl, c0, c1, c2, c3, c4, c5, c6, c7⟩ := hP
      rw [List.length_map] at c2 c5
      rw [List.take_length] at c2
      refine ⟨_, _, _, _, _, _, G, rfl, c1, c2.congr fun s k hs => ?_, c3, c4, ?_, fun q hq => ⟨(c6 q hq).1, (c6 q hq).2.1⟩, c7⟩
      · rw [cont_all l1 _ _ hs, et]
      · rw [Nat.succ_mul]; omega
  · obtain ⟨y5, y6, y7, y8, y9, y10, G, rfl, b1, b2, b3, b4, b5, b6, b7⟩ := hP
    rw [hB.1] at b2 b5 b6
    rw [List.take_length] at b2
    have hGl : G.length ≤ 60000 := by have := mulB m.length (by omega); omega
    refine ⟨Nat.zero_le _, fun F nF => ?_⟩
    have s1 := same_new nF (.lst [])
    have hF : (upd H' F (.lst [])) F = some (.lst []) := upd_same
    have c1 := s1 _ _ b1
    have c3 : WAt (upd H' F (.lst [])) G := b3.keep (fun b ys e _ => s1 _ _ e) (.same s1)
    have gF : ∀ q ∈ G, q.2.1 ≠ F := fun q hq e => by
      obtain ⟨ys, hy, _⟩ := b3 q hq
      rw [e, nF] at hy; cases hy
    have FH : H F = none := Same.none b7 nF
    have c7 := b7.trans s1
    have Fd : F ≠ dl := (ne_of_none b1 nF).symm
    generalize upd H' F (.lst []) = H1 at hF c1 c3 c7
    refine ⟨dl, _, c1, trivial, fun od => ?_⟩
    have dfr : (upd H1 dl (.frz od (.dT (dW G)))) dl = some (.frz od (.dT (dW G))) := upd_same
    have kz : ∀ b o, b ≠ dl → H1 b = some o → (upd H1 dl (.frz od (.dT (dW G)))) b = some o := fun b o hb eb => by rw [upd_ne hb]; exact eb
    have kzT : TupUp H1 (upd H1 dl (.frz od (.dT (dW G)))) := TupUp.dT c1
    have hFz := kz _ _ Fd hF
    have c3z : WAt (upd H1 dl (.frz od (.dT (dW G)))) G := c3.keep (fun b ys eb _ => kz _ _ (fun z => by rw [z, c1] at eb; cases eb) eb) kzT
    have c7z : Same H (upd H1 dl (.frz od (.dT (dW G)))) := fun b o eb => kz _ _ (ne_of_none eb ndl) (c7 _ _ eb)
    generalize (upd H1 dl (.frz od (.dT (dW G)))) = Hz at dfr kz hFz c3z c7z
    refine ⟨_, rfl, dl, od, rfl, .inr ⟨dW G, dfr, for_keysT (fun i σ H' => ∃ (y6 y7 y8 y9 y10 : Option V) (acc : List V) (l : Chs), σ = [some (.ref a), some (.int size), some (.int slide), some (.str name), some (.ref dl), some (.ref F), y6, y7, y8, y9, y10] ∧ H' F = some (.lst acc) ∧ BagAt H' acc l ∧ ToldW size name l (G.take i) ∧ (∀ b o, b ≠ F → Hz b = some o → H' b = some o)) ⟨_, _, _, _, _, [], [], rfl, hFz, BagAt.nil, ⟨rfl, fun j q x e => by simp at e⟩, fun _ _ _ z => z⟩ (fun i σ H' _ hP => ?_) (fun i kk v q σ H' hkv hP hq => ?_) (fun σ H' hP => ?_)⟩⟩
    · obtain ⟨_, _, _, _, _, _, _, _, _, _, _, h⟩ := hP
      exact h _ _ Fd.symm dfr
    · obtain ⟨y6, y7, y8, y9, y10, acc, l, rfl, d1, d2, d3, d4⟩ := hP
      obtain ⟨g, hg, rfl, rfl⟩ : ∃ g, G[i]? = some g ∧ kk = wk g.1 ∧ v = V.ref g.2.1 := by
        have hi : i < G.length := by rw [← dW_len]; exact idx_lt hkv
        obtain ⟨g, hg⟩ := idx_some hi
        rw [dW_get hg] at hkv
        have e := Prod.mk.inj (Option.some.inj hkv)
        exact ⟨g, hg, e.1.symm, e.2.symm⟩
      have hgm := List.mem_of_getElem? hg
      have hi := idx_lt hg
      have hq' : H' q = some (.tup [.int g.1.1, .str g.1.2]) := hq
      have kT : TupUp Hz H' := fun z zs ez => d4 z _ (fun e => by rw [e, hFz] at ez; cases ez) ez
      obtain ⟨ys, hy, hBy⟩ := c3z g hgm
      have hy' := d4 _ _ (gF g hgm) hy
      have hBy' := hBy.mono kT
      have dfr' := d4 _ _ Fd.symm dfr
      refine ⟨q, _, rfl, .of hq', rfl, _, _, rfl, _, _, rfl, rfl, ?_⟩
      refine ⟨_, rfl, _, rfl, _, rfl, (by show 2 ≤ sizeLine; decide), fun t nt => ?_⟩
      have s2 := same_new nt (.tup [.int g.1.1, .str g.1.2])
      have htt : (upd H' t (.tup [.int g.1.1, .str g.1.2])) t = some (.tup [.int g.1.1, .str g.1.2]) := upd_same
      have e1 := s2 _ _ d1
      have ey := s2 _ _ hy'
      have eB := hBy'.mono (.same s2)
      have ef := s2 _ _ dfr'
      have eb2 := d2.mono (.same s2)
      have e4 : ∀ b o, b ≠ F → Hz b = some o → (upd H' t (.tup [.int g.1.1, .str g.1.2])) b = some o := fun b o hb eb => s2 _ _ (d4 b o hb eb)
      generalize (upd H' t (.tup [.int g.1.1, .str g.1.2])) = H2 at htt e1 ey eB ef eb2 e4
      obtain ⟨g1, g2, g3⟩ := b2.has g hgm
      have gm : ∀ p ∈ g.2.2, p ∈ m := fun p hp => by
        rw [g2] at hp
        exact (List.mem_filter.mp hp).1
      refine ⟨dl, _, rfl, .inr ⟨dW G, wk g.1, t, .inr ⟨_, ef⟩, rfl, htt, (dW_yes b2.keys hgm).symm⟩, _, rfl, g.2.1, name, ys, g.2.2, rfl, .of ey, eB, g3, by have := (b6 g hgm).2; omega, fun p hp => by have := hc p (gm p hp); omega, hn, fun v H3 s3 hv => ?_⟩
      have f1 := s3 _ _ e1
      refine ⟨_, rfl, .inl ⟨rfl, _, .of f1⟩, _, rfl, _, rfl, _, _, rfl, rfl, _, _, rfl, rfl, _, rfl, _, rfl, (by show 3 ≤ sizeLine; decide), fun t' nt' => ⟨(by show 2 ≤ sizeLine; decide), fun u nu => ?_⟩⟩
      have ft : F ≠ t' := ne_of_none f1 nt'
      have tu : t' ≠ u := ne_of_none upd_same nu
      have c1t : (upd H3 t' (.tup [.int (g.1.1 + size - 1), .str g.1.2, .int v])) F = some (.lst acc) := by rw [upd_ne ft]; exact f1
      have fu : F ≠ u := ne_of_none c1t nu
      have la : acc.length ≤ i := by rw [d2.1, d3.1, List.length_take]; omega
      refine ⟨F, acc, _, rfl, rfl, by rw [upd_ne fu]; exact c1t, size_le (by omega), ?_⟩
      have k5 : TupUp H3 (upd (upd (upd H3 t' (.tup [.int (g.1.1 + size - 1), .str g.1.2, .int v])) u (.tup [.ref t', .int 1])) F (.lst (acc ++ [.ref u]))) := ((TupUp.new nt').trans (TupUp.new nu)).trans (TupUp.lst (xs := acc) (by rw [upd_ne fu]; exact c1t))
      refine ⟨_, _, _, _, _, acc ++ [.ref u], l ++ [(⟨g.1.1 + size - 1, g.1.2, v⟩, 1)], rfl, upd_same, ?_, ?_, fun b o hb eb => ?_⟩
      · refine ((eb2.mono (.same s3)).mono k5).snoc ⟨u, t', rfl, by rw [upd_ne fu.symm]; exact upd_same, ?_⟩
        rw [upd_ne ft.symm, upd_ne tu]; exact upd_same
      · have htk : G.take (i + 1) = G.take i ++ [g] := by rw [List.take_add_one, hg]; rfl
        rw [htk]
        refine ⟨by rw [List.length_append, List.length_append, d3.1]; rfl, fun j q x hq hx => ?_⟩
        rcases Nat.lt_or_ge j l.length with lt | ge
        · rw [List.getElem?_append_left lt] at hq
          rw [List.getElem?_append_left (by rw [← d3.1]; exact lt)] at hx
          exact d3.2 j q x hq hx
        · rw [List.getElem?_append_right ge] at hq
          rw [List.getElem?_append_right (by rw [← d3.1]; exact ge), ← d3.1] at hx
          cases hj : j - l.length with
          | zero =>
            rw [hj] at hq hx
            have e1 := Option.some.inj hq
            have e2 := Option.some.inj hx
            rw [← e1, ← e2]
            exact ⟨rfl, rfl, rfl, hv⟩
          | succ n => rw [hj] at hq; simp at hq
      · have eb2 := s3 _ _ (e4 b o hb eb)
        rw [upd_ne hb, upd_ne (ne_of_none (by rw [upd_ne (ne_of_none eb2 nt')]; exact eb2) nu), upd_ne (ne_of_none eb2 nt')]
        exact eb2
    · obtain ⟨y6, y7, y8, y9, y10, acc, l, rfl, d1, d2, d3, d4⟩ := hP
      rw [dW_len, List.take_length] at d3
      refine ⟨d4 _ _ Fd.symm dfr, ?_⟩
      have T := toldW_tab b2 hn d3
      have kq : TupUp H' (upd H' dl (.dT (dW G))) := fun z zs ez => by
        rw [upd_ne (fun e => by rw [e, d4 _ _ Fd.symm dfr] at ez; cases ez)]; exact ez
      refine ⟨_, rfl, F, acc, l, rfl, .of (by rw [upd_ne Fd]; exact d1), d2.mono kq, by rw [d3.1]; omega, fun p ys n H2 h1 h2 h3 h4 h5 h6 => ?_⟩
      have sH : Same H (upd H' dl (.dT (dW G))) := fun b o eb => by
        rw [upd_ne (ne_of_none eb ndl)]
        exact d4 b o (ne_of_none eb FH) (c7z _ _ eb)
      refine k p ys n H2 (sH.trans h1) (Same.none sH h2) h3 h4 h5.1 ?_ ⟨fun r hr' => by rw [h5.2]; exact T.1 r hr', fun r hr' => by rw [h5.2]; exact T.2 r hr'⟩
      have hh : n.length ≤ m.length * size.toNat := by rw [d3.1] at h6; omega
      have e : ((size.toNat : Nat) : Int) = size := by omega
      rw [← e, ← Int.natCast_mul]
      exact Int.ofNat_le.mpr hh
end
end Tf
set_option maxHeartbeats 8000000
namespace Tf
open PySem PySem.Spec PyProof.Rows L2 TL
abbrev s_lwindows : Stmt := (topS 21)
abbrev n_lwindows : List Str := ["bag", "size", "slide", "name", "counts", "low", "high", "start", "key", "values", "row", "count"]
theorem sc_lwindows : FnScope n_lwindows ["bag", "size", "slide", "name"] (defScope s_lwindows) := ⟨rfl, rfl, rfl, by decide +kernel, rfl, by decide +kernel, by decide +kernel⟩
section
variable {P : Program} {w : World} {K : PySem.W.Frag} {mg : Str → Option Value} {base : Heap}
theorem ok_lwindows {f fk fv fa fb : Addr} {fd fkd fvd fad fbd : FuncData} (D : DefAt K mg "_law_windows" s_lwindows ["bag", "size", "slide", "name"] f fd) (D_keys : DefAt K mg "_law_keys" s_keys ["bag"] fk fkd) (G_keys : FnOk P w K mg base CX0 1 fk fkd ["bag"] (spLKeys K))
    (D_values : DefAt K mg "_law_values" s_values ["bag", "key", "first", "last"] fv fvd) (G_values : FnOk P w K mg base CX0 1 fv fvd ["bag", "key", "first", "last"] (spLVals K)) (D_aggregate : DefAt K mg "_law_aggregate" s_aggregate ["name", "values"] fa fad) (G_aggregate : FnOk P w K mg base CX0 1 fa fad ["name", "values"] spLAgg)
    (D_bag_of : DefAt K mg "_law_bag_of" s_bag_of ["counts"] fb fbd) (G_bag_of : FnOk P w K mg base CX0 1 fb fbd ["counts"] spBagOf) (z_range : mg "range" = none) (z_min : mg "min" = none) (z_max : mg "max" = none) :
    FnOk P w K mg base CX0 2 f fd ["bag", "size", "slide", "name"] (spLWindows K) := by
  refine D.F.ok sc_lwindows (fun vs H Q E h => ?_) (fun cdv A outer s H vs Q E hr h => ?_)
  · obtain ⟨a, xs, m, size, slide, name, rfl, _⟩ := h
    rfl
  obtain ⟨a, xs, m, size, slide, name, rfl, hS, hB, hC, hz, hc, ht, l1, l2, l3, l4, hn, k⟩ := h
  refine ⟨_, (pss_cons (ps_set (i := 4) sc_lwindows.nd rfl (by first | exact Or.inl rfl | exact Or.inr rfl) pe_dnewT) (pss_cons (ps_if (pt_not (pt_truth (pv 0) (by intro _; rfl))) (pss_one (ps_ret (pe_lst pa_nil))) pss_nil) (pss_cons (ps_set (i := 5) sc_lwindows.nd rfl (by first | exact Or.inl rfl | exact Or.inr rfl) (pe_callB (cr_min rfl) (by rfl) z_min boot_min (pa_cons (pe_lc (own := [("row", 10), ("count", 11)]) (g := gTup K 2 (gCons (gName 10) (gCons (gName 11) gNil))) (tt := tYes) (by rfl) sc_lwindows.nd (pi_list (pv 0)) (blkOk_by (own := [("row", 10), ("count", 11)]) (N := n_lwindows) (sc := defScope s_lwindows) (by decide +kernel)) (fun _ _ _ _ _ => (pg_tup (by rfl) (pgs_cons (pg_name (i := 10) sc_lwindows.nd rfl (by first | exact Or.inl rfl | exact Or.inr rfl)) (pgs_cons (pg_name (i := 11) sc_lwindows.nd rfl (by first | exact Or.inl rfl | exact Or.inr rfl)) pgs_nil)))) (fun _ _ _ _ _ => pts_nil) (fun _ _ _ _ _ => (pe_ix (r := rIxT K) ix_tup (pv 10) pe_int (fun _ _ => rfl)))) pa_nil))) (pss_cons (ps_set (i := 6) sc_lwindows.nd rfl (by first | exact Or.inl rfl | exact Or.inr rfl) (pe_callB (cr_max rfl) (by rfl) z_max boot_max (pa_cons (pe_lc (own := [("row", 10), ("count", 11)]) (g := gTup K 2 (gCons (gName 10) (gCons (gName 11) gNil))) (tt := tYes) (by rfl) sc_lwindows.nd (pi_list (pv 0)) (blkOk_by (own := [("row", 10), ("count", 11)]) (N := n_lwindows) (sc := defScope s_lwindows) (by decide +kernel)) (fun _ _ _ _ _ => (pg_tup (by rfl) (pgs_cons (pg_name (i := 10) sc_lwindows.nd rfl (by first | exact Or.inl rfl | exact Or.inr rfl)) (pgs_cons (pg_name (i := 11) sc_lwindows.nd rfl (by first | exact Or.inl rfl | exact Or.inr rfl)) pgs_nil)))) (fun _ _ _ _ _ => pts_nil) (fun _ _ _ _ _ => (pe_ix (r := rIxT K) ix_tup (pv 10) pe_int (fun _ _ => rfl)))) pa_nil))) (pss_cons (ps_for PassesOwn.never rfl (pi_range2 (by rfl) z_range (pa_cons (pe_op op_sub (pv 5) (pv 1)) (pa_cons (pe_op op_add (pv 6) pe_int) pa_nil))) (pg_name (i := 7) sc_lwindows.nd rfl (by first | exact Or.inl rfl | exact Or.inr rfl)) (pss_cons (ps_if (pt_cmpR op_ne (pe_op op_mod (pv 7) (pv 2)) pe_int (nomark _)) (pss_one ps_continue) pss_nil) (pss_one (ps_for PassesOwn.never rfl (pi_list (pe_call G_keys (hr.mono (by omega)) (by rfl) D_keys.m D_keys.F.kp D_keys.b .nil pass0 (pa_cons (pv 0) pa_nil))) (pg_name (i := 8) sc_lwindows.nd rfl (by first | exact Or.inl rfl | exact Or.inr rfl)) (pss_cons (ps_set (i := 9) sc_lwindows.nd rfl (by first | exact Or.inl rfl | exact Or.inr rfl) (pe_call G_values (hr.mono (by omega)) (by rfl) D_values.m D_values.F.kp D_values.b .nil pass0 (pa_cons (pv 0) (pa_cons (pv 8) (pa_cons (pv 7) (pa_cons (pe_op op_sub (pe_op op_add (pv 7) (pv 1)) pe_int) pa_nil)))))) (pss_one (ps_if (pt_truth (pv 9) (by intro _; rfl)) (pss_one (ps_dput (hu_of hr) (pv 4) (pe_tup (pa_cons (pe_op op_sub (pe_op op_add (pv 7) (pv 1)) pe_int) (pa_cons (pv 8) (pa_cons (pe_call G_aggregate (hr.mono (by omega)) (by rfl) D_aggregate.m D_aggregate.F.kp D_aggregate.b .nil pass0 (pa_cons (pv 3) (pa_cons (pv 9) pa_nil))) pa_nil)))) pe_int rfl)) pss_nil))))))) (pss_one (ps_ret (pe_call G_bag_of (hr.mono (by omega)) (by rfl) D_bag_of.m D_bag_of.F.kp D_bag_of.b .nil pass0 (pa_cons (pv 4) pa_nil))))))))), ?_⟩
  intro cl ncl
  have s0 := same_new ncl (.dT [])
  have hcl : (upd H cl (.dT [])) cl = some (.dT (dT [])) := upd_same
  refine ⟨_, rfl, !xs.isEmpty, .inl ⟨xs, s0.seq hS, rfl⟩, ite2 (fun g => ?_) (fun g => ?_)⟩
  · have hm : m = [] := by
      have : xs = [] := by
        cases xs with
        | nil => rfl
        | cons x r =>
          have z : false = true := g
          cases z
      rw [this] at hB
      exact List.length_eq_zero_iff.mp hB.1.symm
    subst hm
    refine ⟨Nat.zero_le _, fun p np => k p [] [] _ (s0.trans (same_new np _)) (Same.none s0 np) upd_same BagAt.nil ⟨.nil, fun p hp => absurd hp List.not_mem_nil⟩ ⟨fun r hr' => absurd rfl hr'.2.1, fun r _ => rfl⟩⟩
  have hmne : m ≠ [] := fun z => g (by
    have : xs = [] := List.length_eq_zero_iff.mp (by rw [hB.1, z]; rfl)
    rw [this]; rfl)
  have step : ∀ (g : Row × Int → Int) {i : Nat} {p : Row × Int}, m[i]? = some p → (m.take (i + 1)).map g = (m.take i).map g ++ [g p] := fun g {i p} hp => by
    rw [List.take_add_one, hp, List.map_append]; rfl
  have hlen : 0 < (m.map fun p => p.1.t).length := by rw [List.length_map]; exact List.length_pos_iff.mpr hmne
  -- low
  refine ⟨_, rfl, a, rfl, ⟨_, s0.seq hS⟩, fun D1 n1 => ?_⟩
  refine lc_list (xs := xs) (fun i H' => H' D1 = some (.lst (((m.take i).map fun p => p.1.t).map V.int)) ∧ Same (upd H cl (.dT [])) H') ⟨upd_same, same_new n1 _⟩ (fun i H' _ hP => (s0.trans hP.2).seq hS) (fun i x H' hx hP => ?_) (fun H1 hP => ?_)
  · obtain ⟨b1, b3⟩ := hP
    obtain ⟨p, hp, a0, q0, rfl, h1, h2⟩ := hB.get hx
    have hi := idx_lt hp
    have b30 := s0.trans b3
    refine ⟨a0, _, rfl, .of (b30 _ _ h1), rfl, _, _, rfl, _, _, rfl, rfl, ?_⟩
    refine ⟨rfl, _, rfl, q0, _, _, _, rfl, rfl, .of (b30 _ _ h2), atI_nat (j := 0) rfl, _, b1, size_le (by rw [List.length_map, List.length_map, List.length_take]; omega), ?_, fun b' o eb => ?_⟩
    · rw [upd_same, step (fun p => p.1.t) hp, List.map_append]; rfl
    · rw [upd_ne (ne_of_none eb n1)]; exact b3 _ _ eb
  obtain ⟨b1, b3⟩ := hP
  rw [hB.1, List.take_length] at b1
  refine ⟨D1, _, rfl, .of b1, hlen, fun low hlow hle => ?_⟩
  have s1 := s0.trans b3
  have hcl1 := b3 _ _ hcl
  clear b1 b3
  -- high
  refine ⟨_, rfl, a, rfl, ⟨_, s1.seq hS⟩, fun D2 n2 => ?_⟩
  refine lc_list (xs := xs) (fun i H' => H' D2 = some (.lst (((m.take i).map fun p => p.1.t).map V.int)) ∧ Same H1 H') ⟨upd_same, same_new n2 _⟩ (fun i H' _ hP => (s1.trans hP.2).seq hS) (fun i x H' hx hP => ?_) (fun H2 hP => ?_)
  · obtain ⟨b1, b3⟩ := hP
    obtain ⟨p, hp, a0, q0, rfl, h1, h2⟩ := hB.get hx
    have hi := idx_lt hp
    have b30 := s1.trans b3
    refine ⟨a0, _, rfl, .of (b30 _ _ h1), rfl, _, _, rfl, _, _, rfl, rfl, ?_⟩
    refine ⟨rfl, _, rfl, q0, _, _, _, rfl, rfl, .of (b30 _ _ h2), atI_nat (j := 0) rfl, _, b1, size_le (by rw [List.length_map, List.length_map, List.length_take]; omega), ?_, fun b' o eb => ?_⟩
    · rw [upd_same, step (fun p => p.1.t) hp, List.map_append]; rfl
    · rw [upd_ne (ne_of_none eb n2)]; exact b3 _ _ eb
  obtain ⟨b1, b3⟩ := hP
  rw [hB.1, List.take_length] at b1
  refine ⟨D2, _, rfl, .of b1, hlen, fun high hhigh hge => ?_⟩
  have s2 := s1.trans b3
  have hcl2 := b3 _ _ hcl1
  clear b1 b3
  have bl : -100 ≤ low ∧ low ≤ 100 := by
    obtain ⟨p, hp, rfl⟩ := List.mem_map.mp hlow
    exact ht p hp
  have bh : -100 ≤ high ∧ high ≤ 100 := by
    obtain ⟨p, hp, rfl⟩ := List.mem_map.mp hhigh
    exact ht p hp
  have lh : low ≤ high := hle _ hhigh
  have win : ∀ r, WinRow size slide name m r → low - size < r.t - size + 1 ∧ r.t - size + 1 ≤ high ∧ ∃ q ∈ m, q.1.k = r.k := fun r hr' => by
    obtain ⟨q, hq⟩ := List.exists_mem_of_ne_nil _ hr'.2.1
    have hq' := List.mem_filter.mp hq
    have h1 := hle _ (List.mem_map_of_mem (f := fun p : Row × Int => p.1.t) hq'.1)
    have h2 := hge _ (List.mem_map_of_mem (f := fun p : Row × Int => p.1.t) hq'.1)
    have h3 := hq'.2
    simp only [Bool.and_eq_true, decide_eq_true_eq] at h3
    exact ⟨by omega, by omega, q, hq'.1, h3.1⟩
  refine ⟨_, rfl, _, rfl, _, _, rfl, rfl, _, rfl, _, _, rfl, rfl, low - size, high + 1, rfl, ⟨by omega, by omega, by omega, by omega⟩, for_range (lo := low - size) (n := (high + 1 - (low - size)).toNat) (fun i σ H' => ∃ (y7 y8 y9 y10 y11 : Option V) (as : Chs), σ = [some (.ref a), some (.int size), some (.int slide), some (.str name), some (.ref cl), some (.int low), some (.int high), y7, y8, y9, y10, y11] ∧ H' cl = some (.dT (dT as)) ∧ (keysA as).Nodup ∧ as.length ≤ i * 60 ∧ Tab as (fun r => WinRow size slide name m r ∧ r.t - size + 1 < low - size + (i : Int)) ∧ (∀ b o, b ≠ cl → H2 b = some o → H' b = some o)) ⟨_, _, _, _, _, [], rfl, hcl2, List.nodup_nil, Nat.zero_le _, ⟨fun r hr' => absurd (win r hr'.1).1 (by have := hr'.2; omega), fun r _ => rfl⟩, fun _ _ _ z => z⟩ (fun i σ H' hi hP => ?_) (fun σ H' hP => ?_)⟩
  · obtain ⟨y7, y8, y9, y10, y11, as, rfl, b1, b2, b3, b4, b5⟩ := hP
    have hH : Same H H' := fun b o eb => b5 b o (ne_of_none eb ncl) (s2 _ _ eb)
    refine ⟨_, rfl, _, rfl, _, _, rfl, rfl, (by show 0 < slide; omega), rfl, _, rfl, ite2 (fun g2 => ?_) (fun g2 => ?_)⟩
    · have hnd : ¬ slide ∣ (low - size + (i : Int)) := fun z => by
        have g3 : (!decide (V.int ((low - size + (i : Int)) % slide) = V.int 0)) = true := g2
        rw [Int.emod_eq_zero_of_dvd z] at g3
        exact absurd g3 (by decide)
      refine ⟨_, _, _, _, _, as, rfl, b1, b2, by omega, b4.congr fun r => ⟨fun z => ⟨z.1, by have := z.2; omega⟩, fun z => ⟨z.1, ?_⟩⟩, b5⟩
      have h1 := z.2
      have h2 : r.t - size + 1 ≠ low - size + (i : Int) := fun e => hnd (e ▸ z.1.1)
      omega
    · have hd : slide ∣ (low - size + (i : Int)) := by
        refine Int.dvd_of_emod_eq_zero (Classical.byContradiction fun z => g2 ?_)
        show (!decide (V.int ((low - size + (i : Int)) % slide) = V.int 0)) = true
        rw [decide_eq_false fun e => z (V.int.inj e)]; rfl
      refine ⟨_, rfl, a, xs, m, rfl, hH.seq hS, hB.mono (.same hH), hz, fun kl ks H3 s3 nkl hkl knd ksl kiff => ?_⟩
      have klc : kl ≠ cl := (ne_of_none b1 nkl).symm
      refine ⟨kl, rfl, ⟨_, .of hkl⟩, for_list (xs := ks.map V.str) (fun j σ H' => ∃ (y8 y9 y10 y11 : Option V) (as : Chs), σ = [some (.ref a), some (.int size), some (.int slide), some (.str name), some (.ref cl), some (.int low), some (.int high), some (.int (low - size + (i : Int))), y8, y9, y10, y11] ∧ H' cl = some (.dT (dT as)) ∧ (keysA as).Nodup ∧ as.length ≤ i * 60 + j ∧ Tab as (fun r => WinRow size slide name m r ∧ (r.t - size + 1 < low - size + (i : Int) ∨ (r.t - size + 1 = low - size + (i : Int) ∧ r.k ∈ ks.take j))) ∧ (∀ b o, b ≠ cl → H3 b = some o → H' b = some o)) ⟨_, _, _, _, as, rfl, s3 _ _ b1, b2, by omega, b4.congr fun r => ⟨fun z => ⟨z.1, .inl z.2⟩, fun z => ⟨z.1, z.2.elim id fun y => absurd y.2 (by simp)⟩⟩, fun _ _ _ z => z⟩ (fun j σ H4 _ hP => ?_) (fun j x σ H4 hx hP => ?_) (fun σ H4 hP => ?_)⟩
      · obtain ⟨_, _, _, _, _, _, _, _, _, _, h⟩ := hP
        exact .of (h _ _ klc hkl)
      · obtain ⟨y8, y9, y10, y11, as, rfl, c1, c2, c3, c4, c5⟩ := hP
        obtain ⟨kk, hkk, rfl⟩ : ∃ z, ks[j]? = some z ∧ x = .str z := by
          rw [List.getElem?_map] at hx
          cases hq : ks[j]? with
          | none => rw [hq] at hx; cases hx
          | some s => rw [hq] at hx; exact ⟨s, rfl, (Option.some.inj hx).symm⟩
        have hj := idx_lt hkk
        have ht' : ks.take (j + 1) = ks.take j ++ [kk] := by rw [List.take_add_one, hkk]; rfl
        have hH4 : Same H H4 := fun b o eb => c5 b o (ne_of_none eb ncl) (s3 _ _ (hH _ _ eb))
        refine ⟨_, rfl, _, rfl, _, rfl, _, rfl, _, rfl, _, _, rfl, rfl, _, _, rfl, rfl, a, xs, m, kk, _, _, rfl, hH4.seq hS, hB.mono (.same hH4), by omega, hc, fun vl H5 s5 nvl hvl => ?_⟩
        have hpos : ∀ p ∈ sel m kk (low - size + (i : Int)) (low - size + (i : Int) + size - 1), 1 ≤ p.2 := fun p hp => (hc p (List.mem_filter.mp hp).1).1
        have ee : ∀ r : Row, r.t - size + 1 = low - size + (i : Int) → low - size + (i : Int) + size - 1 = r.t := fun r e => by omega
        have d1 := s5 _ _ c1
        refine ⟨_, rfl, _, .inl ⟨_, .of hvl, rfl⟩, ite2 (fun g3 => ?_) (fun g3 => ?_)⟩
        · have hex : expand (sel m kk (low - size + (i : Int)) (low - size + (i : Int) + size - 1)) ≠ [] := fun z => by
            rw [z] at g3
            exact absurd g3 (by decide)
          have hsel : sel m kk (low - size + (i : Int)) (low - size + (i : Int) + size - 1) ≠ [] := fun z => hex (by rw [z]; rfl)
          refine ⟨_, rfl, _, rfl, _, rfl, _, _, rfl, rfl, _, _, rfl, rfl, _, rfl, _, rfl, _, rfl, vl, name, _, rfl, hvl, hex, hn, fun v hv => ⟨(by show 3 ≤ sizeLine; decide), fun r nr => ?_⟩⟩
          have hv' : IsAgg name (sel m kk (low - size + (i : Int)) (low - size + (i : Int) + size - 1)) v := hv.rows hpos
          generalize hr0 : (⟨low - size + (i : Int) + size - 1, kk, v⟩ : Row) = r0
          have hrow : [V.int (low - size + (i : Int) + size - 1), V.str kk, V.int v] = rowV r0 := by rw [← hr0]; rfl
          rw [hrow]
          have clr : cl ≠ r := ne_of_none d1 nr
          have d1' : (upd H5 r (.tup (rowV r0))) cl = some (.dT (dT as)) := by rw [upd_ne clr]; exact d1
          have e1 : cnt as r0 + (1 - cnt as r0) = 1 := by omega
          have hput : DPut (upd H5 r (.tup (rowV r0))) cl (.ref r) (.int 1) (upd (upd H5 r (.tup (rowV r0))) cl (.dT (dT (bump as r0 (1 - cnt as r0))))) := by
            have := dT_put c2 r0 (1 - cnt as r0)
            rw [e1] at this
            rw [← this]
            exact DPut.t (k := rowK r0) d1' upd_same (by rw [dT_len]; exact size_le (by omega))
          refine ⟨cl, _, rfl, hput, ?_⟩
          have rw0 : WinRow size slide name m r0 ∧ r0.t - size + 1 = low - size + (i : Int) ∧ r0.k = kk := by
            subst hr0
            refine ⟨⟨?_, ?_, ?_⟩, ?_, rfl⟩
            · show slide ∣ low - size + (i : Int) + size - 1 - size + 1
              rw [show low - size + (i : Int) + size - 1 - size + 1 = low - size + (i : Int) by omega]; exact hd
            · show sel m kk (low - size + (i : Int) + size - 1 - size + 1) (low - size + (i : Int) + size - 1) ≠ []
              rw [show low - size + (i : Int) + size - 1 - size + 1 = low - size + (i : Int) by omega]; exact hsel
            · show IsAgg name (sel m kk (low - size + (i : Int) + size - 1 - size + 1) (low - size + (i : Int) + size - 1)) v
              rw [show low - size + (i : Int) + size - 1 - size + 1 = low - size + (i : Int) by omega]; exact hv'
            · show low - size + (i : Int) + size - 1 - size + 1 = _
              omega
          refine ⟨_, _, _, _, bump as r0 (1 - cnt as r0), rfl, upd_same, bump_nodup c2 _ _, by have := bump_len as r0 (1 - cnt as r0); omega, (c4.put c2 r0).congr fun r' => ?_, fun b o hb eb => ?_⟩
          · rw [ht', List.mem_append, List.mem_singleton]
            constructor
            · rintro (⟨h1, h2⟩ | h)
              · exact ⟨h1, h2.imp id fun y => ⟨y.1, .inl y.2⟩⟩
              · rw [h]; exact ⟨rw0.1, .inr ⟨rw0.2.1, .inr rw0.2.2⟩⟩
            · rintro ⟨h1, h2 | ⟨h2, h3 | h3⟩⟩
              · exact .inl ⟨h1, .inl h2⟩
              · exact .inl ⟨h1, .inr ⟨h2, h3⟩⟩
              · refine .inr ?_
                have hv2 := h1.2.2
                rw [h2, h3, ← ee r' h2] at hv2
                have hvv := hv2.uniq hn hv'
                subst hr0
                obtain ⟨r1, r2, r3⟩ := r'
                simp only at h2 h3 hvv
                rw [h3, hvv, show r1 = low - size + (i : Int) + size - 1 by omega]
          · have e4 := s5 _ _ (c5 b o hb eb)
            rw [upd_ne hb, upd_ne (ne_of_none e4 nr)]; exact e4
        · have hno : sel m kk (low - size + (i : Int)) (low - size + (i : Int) + size - 1) = [] := Classical.byContradiction fun z => g3 (by
            obtain ⟨q, hq⟩ := List.exists_mem_of_ne_nil _ z
            have h1 : q.1.v ∈ expand (sel m kk (low - size + (i : Int)) (low - size + (i : Int) + size - 1)) := (mem_expand hpos _).mpr ⟨q, hq, rfl⟩
            cases hs : expand (sel m kk (low - size + (i : Int)) (low - size + (i : Int) + size - 1)) with
            | nil => rw [hs] at h1; exact absurd h1 List.not_mem_nil
            | cons _ _ => rfl)
          refine ⟨_, _, _, _, as, rfl, d1, c2, by omega, c4.congr fun r' => ?_, fun b o hb eb => s5 _ _ (c5 b o hb eb)⟩
          rw [ht', List.mem_append, List.mem_singleton]
          constructor
          · rintro ⟨h1, h2⟩
            exact ⟨h1, h2.imp id fun y => ⟨y.1, .inl y.2⟩⟩
          · rintro ⟨h1, h2 | ⟨h2, h3 | h3⟩⟩
            · exact ⟨h1, .inl h2⟩
            · exact ⟨h1, .inr ⟨h2, h3⟩⟩
            · have hv2 := h1.2.1
              rw [h2, h3, ← ee r' h2] at hv2
              exact absurd hno hv2
      · obtain ⟨y8, y9, y10, y11, as, rfl, c1, c2, c3, c4, c5⟩ := hP
        rw [List.length_map] at c3
        simp only [List.length_map, List.take_length] at c4
        refine ⟨_, _, _, _, _, as, rfl, c1, c2, by omega, c4.congr fun r => ⟨fun z => ⟨z.1, ?_⟩, fun z => ⟨z.1, ?_⟩⟩, fun b o hb eb => c5 b o hb (s3 _ _ (b5 b o hb eb))⟩
        · rcases z.2 with h | h
          · omega
          · have := h.1; omega
        · have h1 := z.2
          rcases Int.lt_or_le (r.t - size + 1) (low - size + (i : Int)) with h | h
          · exact .inl h
          · exact .inr ⟨by omega, (kiff _).mpr (win r z.1).2.2⟩
  · obtain ⟨y7, y8, y9, y10, y11, as, rfl, b1, b2, b3, b4, b5⟩ := hP
    have sH : Same H H' := fun b o eb => b5 b o (ne_of_none eb ncl) (s2 _ _ eb)
    have T : Tab as (WinRow size slide name m) := b4.congr fun r => ⟨fun h => h.1, fun h => ⟨h, by have := (win r h).2.1; omega⟩⟩
    refine ⟨_, rfl, cl, as, rfl, b1, b2, by omega, fun p ys n H2 h1 h2 h3 h4 h5 h6 => ?_⟩
    exact k p ys n H2 (sH.trans h1) (Same.none sH h2) h3 h4 h5.1 ⟨fun r hr' => by rw [h5.2]; exact T.1 r hr', fun r hr' => by rw [h5.2]; exact T.2 r hr'⟩
end
end Tf
set_option maxHeartbeats 8000000
namespace Tf
open PySem PySem.Spec PyProof.Rows L2 TL
abbrev s_law : Stmt := (topS 22)
abbrev n_law : List Str := ["script", "draw", "turn", "slide", "size", "time", "due", "bag", "name", "start"]
theorem sc_law : FnScope n_law ["script"] (defScope s_law) := ⟨rfl, rfl, rfl, by decide +kernel, rfl, by decide +kernel, by decide +kernel⟩
theorem filterW_snoc {α : Type} (f : α → Bool) (l : List α) (x : α) : (l ++ [x]).filter f = l.filter f ++ if f x = true then [x] else [] := by
  rw [List.filter_append, List.filter_cons]
  by_cases h : f x = true
  · rw [if_pos h, if_pos h]; rfl
  · rw [if_neg h, if_neg h]; rfl
section
variable {P : Program} {w : World} {K : PySem.W.Frag} {mg : Str → Option Value} {base : Heap}
theorem ok_law {f fd fb fn fm fp fq fs : Addr} {fdd dd bd nd' md pd qd sd : FuncData} (D : DefAt K mg "law" s_law ["script"] f fdd) (D_draw : DefAt K mg "_law_draw" s_draw ["script"] fd dd) (G_draw : FnOk P w K mg base CX0 1 fd dd ["script"] (spDraw K))
    (D_next : DefAt K mg "_law_next" s_next ["draw", "many"] fn nd') (G_next : FnOk P w K mg base CX0 1 fn nd' ["draw", "many"] spNext)
    (D_bag : DefAt K mg "_law_bag" s_bag ["draw", "many", "first", "span"] fb bd) (G_bag : FnOk P w K mg base CX0 3 fb bd ["draw", "many", "first", "span"] spBag)
    (D_same : DefAt K mg "_law_same" s_same ["actual", "due"] fm md) (G_same : FnOk P w K mg base CX0 4 fm md ["actual", "due"] (spS 4))
    (D_window_starts : DefAt K mg "window_starts" s_window_starts ["time", "size", "slide"] fs sd) (G_window_starts : FnOk P w K mg base CX0 2 fs sd ["time", "size", "slide"] spStarts)
    (D_windows : DefAt K mg "windows" s_windows ["bag", "size", "slide", "aggregate"] fp pd) (G_windows : FnOk P w K mg base CX0 3 fp pd ["bag", "size", "slide", "aggregate"] (spWindows K))
    (D_lwindows : DefAt K mg "_law_windows" s_lwindows ["bag", "size", "slide", "name"] fq qd) (G_lwindows : FnOk P w K mg base CX0 2 fq qd ["bag", "size", "slide", "name"] (spLWindows K))
    (z_range : mg "range" = none) : FnOk P w K mg base CX0 5 f fdd ["script"] (spLawG K) := by
  refine D.F.ok sc_law (fun vs H Q E h => ?_) (fun cdv A outer s H vs Q E hr h => ?_)
  · obtain ⟨a, ns, rfl, _⟩ := h
    rfl
  obtain ⟨a, ns, rfl, hS, h63, q⟩ := h
  refine ⟨_, (pss_cons (ps_set (i := 1) sc_law.nd rfl (by first | exact Or.inl rfl | exact Or.inr rfl) (pe_call G_draw (hr.mono (by omega)) (by rfl) D_draw.m D_draw.F.kp D_draw.b .nil pass0 (pa_cons (pv 0) pa_nil))) (pss_cons (ps_for PassesOwn.never rfl (pi_range1 (by rfl) z_range (pa_cons pe_int pa_nil)) (pg_name (i := 2) sc_law.nd rfl (by first | exact Or.inl rfl | exact Or.inr rfl)) (pss_cons (ps_set (i := 3) sc_law.nd rfl (by first | exact Or.inl rfl | exact Or.inr rfl) (pe_op op_add pe_int (pe_call G_next (hr.mono (by omega)) (by rfl) D_next.m D_next.F.kp D_next.b .nil pass0 (pa_cons (pv 1) (pa_cons pe_int pa_nil))))) (pss_cons (ps_set (i := 4) sc_law.nd rfl (by first | exact Or.inl rfl | exact Or.inr rfl) (pe_op op_add pe_int (pe_call G_next (hr.mono (by omega)) (by rfl) D_next.m D_next.F.kp D_next.b .nil pass0 (pa_cons (pv 1) (pa_cons pe_int pa_nil))))) (pss_cons (ps_if (pt_cmpR op_gt (pv 4) (pe_op op_mul pe_int (pv 3)) (nomark _)) (pss_one (ps_set (i := 4) sc_law.nd rfl (by first | exact Or.inl rfl | exact Or.inr rfl) (pe_op op_mul pe_int (pv 3)))) pss_nil) (pss_cons (ps_set (i := 5) sc_law.nd rfl (by first | exact Or.inl rfl | exact Or.inr rfl) (pe_op op_sub (pe_call G_next (hr.mono (by omega)) (by rfl) D_next.m D_next.F.kp D_next.b .nil pass0 (pa_cons (pv 1) (pa_cons pe_int pa_nil))) pe_int)) (pss_cons (ps_setLc (i := 6) (own := [("start", 9)]) (g := gName 9)  (by rfl) sc_law.nd rfl rfl (sw_true rfl rfl rfl (by decide +kernel)) (pi_range2 (by rfl) z_range (pa_cons (pe_op op_add (pe_op op_sub (pv 5) (pv 4)) pe_int) (pa_cons (pe_op op_add (pv 5) pe_int) pa_nil))) (blkOk_by (own := [("start", 9)]) (N := n_law) (sc := defScope s_law) (by decide +kernel)) (fun _ _ _ _ _ => (pg_name (i := 9) sc_law.nd rfl (by first | exact Or.inl rfl | exact Or.inr rfl))) (fun _ _ _ _ _ => (pts_one (pt_cmpR op_eq (pe_op op_mod (pv 9) (pv 3)) pe_int (nomark _)))) (fun _ _ _ _ _ => (pv 9))) (pss_cons (ps_if (pt_not (pt_val (pe_call G_same (hr.mono (by omega)) (by rfl) D_same.m D_same.F.kp D_same.b .nil pass0 (pa_cons (pe_call G_window_starts (hr.mono (by omega)) (by rfl) D_window_starts.m D_window_starts.F.kp D_window_starts.b .nil pass0 (pa_cons (pv 5) (pa_cons (pv 4) (pa_cons (pv 3) pa_nil)))) (pa_cons (pv 6) pa_nil))))) (pss_one (ps_ret pe_bl)) pss_nil) (pss_cons (ps_set (i := 7) sc_law.nd rfl (by first | exact Or.inl rfl | exact Or.inr rfl) (pe_call G_bag (hr.mono (by omega)) (by rfl) D_bag.m D_bag.F.kp D_bag.b .nil pass0 (pa_cons (pv 1) (pa_cons pe_int (pa_cons (pe_un un_neg pe_int) (pa_cons pe_int pa_nil)))))) (pss_one (ps_for PassesOwn.never rfl (pi_tup (pe_tup (pa_cons pe_str (pa_cons pe_str (pa_cons pe_str (pa_cons pe_str pa_nil)))))) (pg_name (i := 8) sc_law.nd rfl (by first | exact Or.inl rfl | exact Or.inr rfl)) (pss_one (ps_if (pt_not (pt_val (pe_call G_same (hr.mono (by omega)) (by rfl) D_same.m D_same.F.kp D_same.b .nil pass0 (pa_cons (pe_call G_windows (hr.mono (by omega)) (by rfl) D_windows.m D_windows.F.kp D_windows.b .nil pass0 (pa_cons (pv 7) (pa_cons (pv 4) (pa_cons (pv 3) (pa_cons (pv 8) pa_nil))))) (pa_cons (pe_call G_lwindows (hr.mono (by omega)) (by rfl) D_lwindows.m D_lwindows.F.kp D_lwindows.b .nil pass0 (pa_cons (pv 7) (pa_cons (pv 4) (pa_cons (pv 3) (pa_cons (pv 8) pa_nil))))) pa_nil))))) (pss_one (ps_ret pe_bl)) pss_nil)))))))))))) (pss_one (ps_ret pe_bl)))), ?_⟩
  refine ⟨_, rfl, a, ns, rfl, hS, h63, fun d sc H0 nd hD0 s0 => ?_⟩
  refine ⟨3, rfl, by decide, by decide, for_range (lo := 0) (n := 3) (fun i σ H' => (∃ y2 y3 y4 y5 y6 y7 y8 y9 : Option V, σ = [some (.ref a), some (.ref d), y2, y3, y4, y5, y6, y7, y8, y9]) ∧ Dr sc H' d) ⟨⟨_, _, _, _, _, _, _, _, rfl⟩, hD0⟩ (fun turn σ H' hi hP => ?_) (fun σ H' hP => ?_)⟩
  · obtain ⟨⟨y2, y3, y4, y5, y6, y7, y8, y9, rfl⟩, hD⟩ := hP
    refine ⟨_, rfl, d, sc, 5, rfl, by decide, by decide, hD, fun n1 H1 g0 g1 hD1 U1 => ⟨_, _, rfl, rfl, ?_⟩⟩
    refine ⟨_, rfl, d, sc, 12, rfl, by decide, by decide, hD1, fun n2 H2 g2 g3 hD2 U2 => ⟨_, _, rfl, rfl, ?_⟩⟩
    dsimp only
    generalize hsl : 1 + n1 = slide
    have l1 : 1 ≤ slide := by omega
    have l2 : slide ≤ 5 := by omega
    refine ⟨_, rfl, _, rfl, _, _, rfl, rfl, (.inr (by omega)), _, _, rfl, rfl, _, rfl, ite2 (fun g => ?_) (fun g => ?_)⟩
    · have g' : 10 * slide < 1 + n2 := of_decide_eq_true g
      refine ⟨_, rfl, _, _, rfl, rfl, (.inr (by omega)), ?_⟩
      dsimp only
      generalize hsz : 10 * slide = size
      have l3 : 1 ≤ size := by omega
      have l4 : size ≤ 12 := by omega
      clear hsz g g'
      refine ⟨_, rfl, d, sc, 30, rfl, by decide, by decide, hD2, fun tm H3 g4 g5 hD3 U3 => ⟨_, _, rfl, rfl, ?_⟩⟩
      dsimp only
      generalize htm : tm - 12 = time
      have t1 : -12 ≤ time := by omega
      have t2 : time ≤ 17 := by omega
      clear htm
      -- due
      refine ⟨_, rfl, _, rfl, _, _, rfl, rfl, _, _, rfl, rfl, _, rfl, _, _, rfl, rfl, time - size + 1, time + 1, rfl, ⟨by omega, by omega, by omega, by omega⟩, fun Dl nD => ?_⟩
      refine lc_range (lo := time - size + 1) (n := (time + 1 - (time - size + 1)).toNat) (fun i H' => H' Dl = some (.lst (((rngW (time - size + 1) i).filter fun s => decide (s % slide = 0)).map V.int)) ∧ Same H3 H') ⟨upd_same, same_new nD _⟩ (fun i H' hi hP => ?_) (fun H4 hP => ?_)
      · obtain ⟨b1, b3⟩ := hP
        have et : (rngW (time - size + 1) (i + 1)).filter (fun s => decide (s % slide = 0)) = (rngW (time - size + 1) i).filter (fun s => decide (s % slide = 0)) ++ if decide ((time - size + 1 + (i : Int)) % slide = 0) = true then [time - size + 1 + (i : Int)] else [] := by
          rw [rngW_succ]; exact filterW_snoc _ _ _
        have e : decide (V.int ((time - size + 1 + (i : Int)) % slide) = V.int 0) = decide ((time - size + 1 + (i : Int)) % slide = 0) := by rw [Bool.eq_iff_iff]; simp
        refine ⟨rfl, ?_⟩
        refine ⟨_, rfl, _, rfl, _, _, rfl, rfl, (by show 0 < slide; omega), rfl, decide ((time - size + 1 + (i : Int)) % slide = 0), congrArg V.bl e, ?_⟩
        refine ite2 (fun g => ?_) (fun g => ?_)
        · rw [if_pos g] at et
          refine ⟨_, rfl, _, b1, size_le ?_, ?_, fun b' o eb => ?_⟩
          · rw [List.length_map]
            have := List.length_filter_le (fun s => decide (s % slide = 0)) (rngW (time - size + 1) i)
            rw [rngW_len] at this
            omega
          · rw [upd_same, et, List.map_append]; rfl
          · rw [upd_ne (ne_of_none eb nD)]
            exact b3 _ _ eb
        · rw [if_neg g, List.append_nil] at et
          rw [et]
          exact ⟨b1, b3⟩
      obtain ⟨b1, b3⟩ := hP
      rw [due_starts l1] at b1
      have hD4 := hD3.up b3
      refine ⟨_, rfl, _, rfl, _, rfl, time, size, slide, rfl, l1, by omega, l3, by omega, by omega, by omega, fun wl nwl => ?_⟩
      have s5 := same_new nwl (.lst ((startsL size slide time).map V.int))
      refine ⟨_, rfl, 3, _, _, rfl, rfl, ints_eq upd_same (s5 _ _ b1) (by have := starts_len (t := time) l1 (show 0 ≤ size by omega); omega), fun H5 s6 => ⟨_, rfl, iteF ?_⟩⟩
      have hD5 := (hD4.up s5).up s6
      refine ⟨_, rfl, _, rfl, d, sc, 9, -6, 14, rfl, hD5, by decide, by decide, by decide, by decide, fun b ys m H6 nb h6 B6 C6 R6 L6 hD6 U6 => ?_⟩
      have ct : ∀ p ∈ m, 1 ≤ p.2 ∧ p.2 ≤ 1000 := fun p hp => ⟨(R6 p hp).2.1, by have := (R6 p hp).2.2; omega⟩
      have tt : ∀ p ∈ m, -6 ≤ p.1.t ∧ p.1.t ≤ 8 := fun p hp => ⟨(R6 p hp).1.1, by have := (R6 p hp).1.2.1; omega⟩
      refine ⟨(by show 4 ≤ sizeLine; decide), fun t nt => ?_⟩
      have s7 := same_new nt (.tup [.str "count", .str "sum", .str "least", .str "greatest"])
      have ht : (upd H6 t (.tup [.str "count", .str "sum", .str "least", .str "greatest"])) t = some (.tup [.str "count", .str "sum", .str "least", .str "greatest"]) := upd_same
      generalize upd H6 t (.tup [.str "count", .str "sum", .str "least", .str "greatest"]) = H7 at s7 ht
      refine ⟨t, rfl, ⟨_, .of ht⟩, for_tup (xs := aggN.map V.str) (fun i σ H' => (∃ y8 : Option V, σ = [some (.ref a), some (.ref d), some (.int (0 + (turn : Int))), some (.int slide), some (.int size), some (.int time), some (.ref Dl), some (.ref b), y8, y9]) ∧ Same H7 H') ⟨⟨_, rfl⟩, .refl _⟩ (fun i σ H' _ hP => .of (hP.2 _ _ ht)) (fun i x σ H' hx hP => ?_) (fun σ H' hP => ?_)⟩
      · obtain ⟨⟨y8, rfl⟩, s8⟩ := hP
        obtain ⟨name, hname, rfl⟩ : ∃ s ∈ aggN, x = .str s := by
          rw [List.getElem?_map] at hx
          cases hq : aggN[i]? with
          | none => rw [hq] at hx; cases hx
          | some s => rw [hq] at hx; exact ⟨s, List.mem_of_getElem? hq, (Option.some.inj hx).symm⟩
        have s78 := s7.trans s8
        refine ⟨_, rfl, _, rfl, _, rfl, _, rfl, b, ys, m, size, slide, name, rfl, .of (s78 _ _ h6), B6.mono (.same s78), C6, by omega, ct, fun p hp => by have := tt p hp; omega, l1, by omega, l3, by omega, hname, fun r1 xs1 k1 H9 s9 nr1 h9 B9 C9 L9 T9 => ?_⟩
        have s79 := s78.trans s9
        refine ⟨_, rfl, _, rfl, _, rfl, _, rfl, b, ys, m, size, slide, name, rfl, .of (s79 _ _ h6), B6.mono (.same s79), C6, by omega, ct, fun p hp => by have := tt p hp; omega, l1, by omega, l3, by omega, hname, fun r2 xs2 k2 H10 s10 nr2 h10 B10 C10 T10 => ?_⟩
        have el : k1 = k2 := C9.ext C10 fun r => by
          rcases Classical.em (WinRow size slide name m r) with z | z
          · rw [T9.1 r z, T10.1 r z]
          · rw [T9.2 r z, T10.2 r z]
        subst el
        have hk1 : k1.length ≤ 1000 := by
          have h1 : (m.length : Int) * size ≤ 9 * 12 := Int.mul_le_mul (by omega) l4 (by omega) (by omega)
          omega
        refine ⟨3, _, _, rfl, rfl, bag_eq (s10 _ _ h9) h10 (B9.mono (.same s10)) B10 hk1, fun H11 s11 => ⟨_, rfl, iteF ?_⟩⟩
        exact ⟨⟨_, rfl⟩, ((s8.trans s9).trans s10).trans s11⟩
      · obtain ⟨⟨y8, rfl⟩, s8⟩ := hP
        exact ⟨⟨_, _, _, _, _, _, _, _, rfl⟩, hD6.up (s7.trans s8)⟩
    · generalize hsz : 1 + n2 = size
      have l3 : 1 ≤ size := by omega
      have l4 : size ≤ 12 := by omega
      clear hsz g
      refine ⟨_, rfl, d, sc, 30, rfl, by decide, by decide, hD2, fun tm H3 g4 g5 hD3 U3 => ⟨_, _, rfl, rfl, ?_⟩⟩
      dsimp only
      generalize htm : tm - 12 = time
      have t1 : -12 ≤ time := by omega
      have t2 : time ≤ 17 := by omega
      clear htm
      -- due
      refine ⟨_, rfl, _, rfl, _, _, rfl, rfl, _, _, rfl, rfl, _, rfl, _, _, rfl, rfl, time - size + 1, time + 1, rfl, ⟨by omega, by omega, by omega, by omega⟩, fun Dl nD => ?_⟩
      refine lc_range (lo := time - size + 1) (n := (time + 1 - (time - size + 1)).toNat) (fun i H' => H' Dl = some (.lst (((rngW (time - size + 1) i).filter fun s => decide (s % slide = 0)).map V.int)) ∧ Same H3 H') ⟨upd_same, same_new nD _⟩ (fun i H' hi hP => ?_) (fun H4 hP => ?_)
      · obtain ⟨b1, b3⟩ := hP
        have et : (rngW (time - size + 1) (i + 1)).filter (fun s => decide (s % slide = 0)) = (rngW (time - size + 1) i).filter (fun s => decide (s % slide = 0)) ++ if decide ((time - size + 1 + (i : Int)) % slide = 0) = true then [time - size + 1 + (i : Int)] else [] := by
          rw [rngW_succ]; exact filterW_snoc _ _ _
        have e : decide (V.int ((time - size + 1 + (i : Int)) % slide) = V.int 0) = decide ((time - size + 1 + (i : Int)) % slide = 0) := by rw [Bool.eq_iff_iff]; simp
        refine ⟨rfl, ?_⟩
        refine ⟨_, rfl, _, rfl, _, _, rfl, rfl, (by show 0 < slide; omega), rfl, decide ((time - size + 1 + (i : Int)) % slide = 0), congrArg V.bl e, ?_⟩
        refine ite2 (fun g => ?_) (fun g => ?_)
        · rw [if_pos g] at et
          refine ⟨_, rfl, _, b1, size_le ?_, ?_, fun b' o eb => ?_⟩
          · rw [List.length_map]
            have := List.length_filter_le (fun s => decide (s % slide = 0)) (rngW (time - size + 1) i)
            rw [rngW_len] at this
            omega
          · rw [upd_same, et, List.map_append]; rfl
          · rw [upd_ne (ne_of_none eb nD)]
            exact b3 _ _ eb
        · rw [if_neg g, List.append_nil] at et
          rw [et]
          exact ⟨b1, b3⟩
      obtain ⟨b1, b3⟩ := hP
      rw [due_starts l1] at b1
      have hD4 := hD3.up b3
      refine ⟨_, rfl, _, rfl, _, rfl, time, size, slide, rfl, l1, by omega, l3, by omega, by omega, by omega, fun wl nwl => ?_⟩
      have s5 := same_new nwl (.lst ((startsL size slide time).map V.int))
      refine ⟨_, rfl, 3, _, _, rfl, rfl, ints_eq upd_same (s5 _ _ b1) (by have := starts_len (t := time) l1 (show 0 ≤ size by omega); omega), fun H5 s6 => ⟨_, rfl, iteF ?_⟩⟩
      have hD5 := (hD4.up s5).up s6
      refine ⟨_, rfl, _, rfl, d, sc, 9, -6, 14, rfl, hD5, by decide, by decide, by decide, by decide, fun b ys m H6 nb h6 B6 C6 R6 L6 hD6 U6 => ?_⟩
      have ct : ∀ p ∈ m, 1 ≤ p.2 ∧ p.2 ≤ 1000 := fun p hp => ⟨(R6 p hp).2.1, by have := (R6 p hp).2.2; omega⟩
      have tt : ∀ p ∈ m, -6 ≤ p.1.t ∧ p.1.t ≤ 8 := fun p hp => ⟨(R6 p hp).1.1, by have := (R6 p hp).1.2.1; omega⟩
      refine ⟨(by show 4 ≤ sizeLine; decide), fun t nt => ?_⟩
      have s7 := same_new nt (.tup [.str "count", .str "sum", .str "least", .str "greatest"])
      have ht : (upd H6 t (.tup [.str "count", .str "sum", .str "least", .str "greatest"])) t = some (.tup [.str "count", .str "sum", .str "least", .str "greatest"]) := upd_same
      generalize upd H6 t (.tup [.str "count", .str "sum", .str "least", .str "greatest"]) = H7 at s7 ht
      refine ⟨t, rfl, ⟨_, .of ht⟩, for_tup (xs := aggN.map V.str) (fun i σ H' => (∃ y8 : Option V, σ = [some (.ref a), some (.ref d), some (.int (0 + (turn : Int))), some (.int slide), some (.int size), some (.int time), some (.ref Dl), some (.ref b), y8, y9]) ∧ Same H7 H') ⟨⟨_, rfl⟩, .refl _⟩ (fun i σ H' _ hP => .of (hP.2 _ _ ht)) (fun i x σ H' hx hP => ?_) (fun σ H' hP => ?_)⟩
      · obtain ⟨⟨y8, rfl⟩, s8⟩ := hP
        obtain ⟨name, hname, rfl⟩ : ∃ s ∈ aggN, x = .str s := by
          rw [List.getElem?_map] at hx
          cases hq : aggN[i]? with
          | none => rw [hq] at hx; cases hx
          | some s => rw [hq] at hx; exact ⟨s, List.mem_of_getElem? hq, (Option.some.inj hx).symm⟩
        have s78 := s7.trans s8
        refine ⟨_, rfl, _, rfl, _, rfl, _, rfl, b, ys, m, size, slide, name, rfl, .of (s78 _ _ h6), B6.mono (.same s78), C6, by omega, ct, fun p hp => by have := tt p hp; omega, l1, by omega, l3, by omega, hname, fun r1 xs1 k1 H9 s9 nr1 h9 B9 C9 L9 T9 => ?_⟩
        have s79 := s78.trans s9
        refine ⟨_, rfl, _, rfl, _, rfl, _, rfl, b, ys, m, size, slide, name, rfl, .of (s79 _ _ h6), B6.mono (.same s79), C6, by omega, ct, fun p hp => by have := tt p hp; omega, l1, by omega, l3, by omega, hname, fun r2 xs2 k2 H10 s10 nr2 h10 B10 C10 T10 => ?_⟩
        have el : k1 = k2 := C9.ext C10 fun r => by
          rcases Classical.em (WinRow size slide name m r) with z | z
          · rw [T9.1 r z, T10.1 r z]
          · rw [T9.2 r z, T10.2 r z]
        subst el
        have hk1 : k1.length ≤ 1000 := by
          have h1 : (m.length : Int) * size ≤ 9 * 12 := Int.mul_le_mul (by omega) l4 (by omega) (by omega)
          omega
        refine ⟨3, _, _, rfl, rfl, bag_eq (s10 _ _ h9) h10 (B9.mono (.same s10)) B10 hk1, fun H11 s11 => ⟨_, rfl, iteF ?_⟩⟩
        exact ⟨⟨_, rfl⟩, ((s8.trans s9).trans s10).trans s11⟩
      · obtain ⟨⟨y8, rfl⟩, s8⟩ := hP
        exact ⟨⟨_, _, _, _, _, _, _, _, rfl⟩, hD6.up (s7.trans s8)⟩
  · obtain ⟨⟨y2, y3, y4, y5, y6, y7, y8, y9, rfl⟩, hD⟩ := hP
    exact q _
end
end Tf
set_option maxHeartbeats 8000000
namespace Tf
open PySem PySem.Spec PyProof.Rows L2 TL
theorem all_mk {l : PySem.W.OpenLaw} {w : World} {K : PySem.W.Frag} {h : Heap} {mg : Str → Option Value} {fa : Addr} (X : K.In h) (G : h.Ns mainGlobals mg) (hfa : mg "law" = some (.ref fa))
    {f0 : Addr} {od0 an0 : Option Addr} {sl0 : Array (Option Value)} {oc0 kV0 dc0 pm0 cd0 ct0 : Value}
    (a0 : PySem.W.nsIn K mainGlobals "changes_of" = some (some (.ref f0)))
    (l0 : K.lookup f0 = some ⟨oc0, od0, .func (PySem.W.fnOf "changes_of" "changes_of" (defArgs s_changes_of) (defBody s_changes_of) (defScope s_changes_of) .none kV0 dc0 pm0 an0 cd0 ct0), sl0⟩) (c0 : PySem.W.codeIn K cd0 "changes_of" = true) (k0 : PySem.W.keepIn K (.ref f0) = true)
    {f1 : Addr} {od1 an1 : Option Addr} {sl1 : Array (Option Value)} {oc1 kV1 dc1 pm1 cd1 ct1 : Value}
    (a1 : PySem.W.nsIn K mainGlobals "aggregated" = some (some (.ref f1)))
    (l1 : K.lookup f1 = some ⟨oc1, od1, .func (PySem.W.fnOf "aggregated" "aggregated" (defArgs s_aggregated) (defBody s_aggregated) (defScope s_aggregated) .none kV1 dc1 pm1 an1 cd1 ct1), sl1⟩) (c1 : PySem.W.codeIn K cd1 "aggregated" = true) (k1 : PySem.W.keepIn K (.ref f1) = true)
    {f2 : Addr} {od2 an2 : Option Addr} {sl2 : Array (Option Value)} {oc2 kV2 dc2 pm2 cd2 ct2 : Value}
    (a2 : PySem.W.nsIn K mainGlobals "windows" = some (some (.ref f2)))
    (l2 : K.lookup f2 = some ⟨oc2, od2, .func (PySem.W.fnOf "windows" "windows" (defArgs s_windows) (defBody s_windows) (defScope s_windows) .none kV2 dc2 pm2 an2 cd2 ct2), sl2⟩) (c2 : PySem.W.codeIn K cd2 "windows" = true) (k2 : PySem.W.keepIn K (.ref f2) = true)
    {f3 : Addr} {od3 an3 : Option Addr} {sl3 : Array (Option Value)} {oc3 kV3 dc3 pm3 cd3 ct3 : Value}
    (a3 : PySem.W.nsIn K mainGlobals "window_starts" = some (some (.ref f3)))
    (l3 : K.lookup f3 = some ⟨oc3, od3, .func (PySem.W.fnOf "window_starts" "window_starts" (defArgs s_window_starts) (defBody s_window_starts) (defScope s_window_starts) .none kV3 dc3 pm3 an3 cd3 ct3), sl3⟩) (c3 : PySem.W.codeIn K cd3 "window_starts" = true) (k3 : PySem.W.keepIn K (.ref f3) = true)
    {f4 : Addr} {od4 an4 : Option Addr} {sl4 : Array (Option Value)} {oc4 kV4 dc4 pm4 cd4 ct4 : Value}
    (a4 : PySem.W.nsIn K mainGlobals "first_open" = some (some (.ref f4)))
    (l4 : K.lookup f4 = some ⟨oc4, od4, .func (PySem.W.fnOf "first_open" "first_open" (defArgs s_first_open) (defBody s_first_open) (defScope s_first_open) .none kV4 dc4 pm4 an4 cd4 ct4), sl4⟩) (c4 : PySem.W.codeIn K cd4 "first_open" = true) (k4 : PySem.W.keepIn K (.ref f4) = true)
    {f5 : Addr} {od5 an5 : Option Addr} {sl5 : Array (Option Value)} {oc5 kV5 dc5 pm5 cd5 ct5 : Value}
    (a5 : PySem.W.nsIn K mainGlobals "_law_draw" = some (some (.ref f5)))
    (l5 : K.lookup f5 = some ⟨oc5, od5, .func (PySem.W.fnOf "_law_draw" "_law_draw" (defArgs s_draw) (defBody s_draw) (defScope s_draw) .none kV5 dc5 pm5 an5 cd5 ct5), sl5⟩) (c5 : PySem.W.codeIn K cd5 "_law_draw" = true) (k5 : PySem.W.keepIn K (.ref f5) = true)
    {f6 : Addr} {od6 an6 : Option Addr} {sl6 : Array (Option Value)} {oc6 kV6 dc6 pm6 cd6 ct6 : Value}
    (a6 : PySem.W.nsIn K mainGlobals "_law_next" = some (some (.ref f6)))
    (l6 : K.lookup f6 = some ⟨oc6, od6, .func (PySem.W.fnOf "_law_next" "_law_next" (defArgs s_next) (defBody s_next) (defScope s_next) .none kV6 dc6 pm6 an6 cd6 ct6), sl6⟩) (c6 : PySem.W.codeIn K cd6 "_law_next" = true) (k6 : PySem.W.keepIn K (.ref f6) = true)
    {f7 : Addr} {od7 an7 : Option Addr} {sl7 : Array (Option Value)} {oc7 kV7 dc7 pm7 cd7 ct7 : Value}
    (a7 : PySem.W.nsIn K mainGlobals "_law_same" = some (some (.ref f7)))
    (l7 : K.lookup f7 = some ⟨oc7, od7, .func (PySem.W.fnOf "_law_same" "_law_same" (defArgs s_same) (defBody s_same) (defScope s_same) .none kV7 dc7 pm7 an7 cd7 ct7), sl7⟩) (c7 : PySem.W.codeIn K cd7 "_law_same" = true) (k7 : PySem.W.keepIn K (.ref f7) = true)
    {f8 : Addr} {od8 an8 : Option Addr} {sl8 : Array (Option Value)} {oc8 kV8 dc8 pm8 cd8 ct8 : Value}
    (a8 : PySem.W.nsIn K mainGlobals "_law_add" = some (some (.ref f8)))
    (l8 : K.lookup f8 = some ⟨oc8, od8, .func (PySem.W.fnOf "_law_add" "_law_add" (defArgs s_add) (defBody s_add) (defScope s_add) .none kV8 dc8 pm8 an8 cd8 ct8), sl8⟩) (c8 : PySem.W.codeIn K cd8 "_law_add" = true) (k8 : PySem.W.keepIn K (.ref f8) = true)
    {f9 : Addr} {od9 an9 : Option Addr} {sl9 : Array (Option Value)} {oc9 kV9 dc9 pm9 cd9 ct9 : Value}
    (a9 : PySem.W.nsIn K mainGlobals "_law_bag_of" = some (some (.ref f9)))
    (l9 : K.lookup f9 = some ⟨oc9, od9, .func (PySem.W.fnOf "_law_bag_of" "_law_bag_of" (defArgs s_bag_of) (defBody s_bag_of) (defScope s_bag_of) .none kV9 dc9 pm9 an9 cd9 ct9), sl9⟩) (c9 : PySem.W.codeIn K cd9 "_law_bag_of" = true) (k9 : PySem.W.keepIn K (.ref f9) = true)
    {f10 : Addr} {od10 an10 : Option Addr} {sl10 : Array (Option Value)} {oc10 kV10 dc10 pm10 cd10 ct10 : Value}
    (a10 : PySem.W.nsIn K mainGlobals "_law_row" = some (some (.ref f10)))
    (l10 : K.lookup f10 = some ⟨oc10, od10, .func (PySem.W.fnOf "_law_row" "_law_row" (defArgs s_row) (defBody s_row) (defScope s_row) .none kV10 dc10 pm10 an10 cd10 ct10), sl10⟩) (c10 : PySem.W.codeIn K cd10 "_law_row" = true) (k10 : PySem.W.keepIn K (.ref f10) = true)
    {f11 : Addr} {od11 an11 : Option Addr} {sl11 : Array (Option Value)} {oc11 kV11 dc11 pm11 cd11 ct11 : Value}
    (a11 : PySem.W.nsIn K mainGlobals "_law_bag" = some (some (.ref f11)))
    (l11 : K.lookup f11 = some ⟨oc11, od11, .func (PySem.W.fnOf "_law_bag" "_law_bag" (defArgs s_bag) (defBody s_bag) (defScope s_bag) .none kV11 dc11 pm11 an11 cd11 ct11), sl11⟩) (c11 : PySem.W.codeIn K cd11 "_law_bag" = true) (k11 : PySem.W.keepIn K (.ref f11) = true)
    {f12 : Addr} {od12 an12 : Option Addr} {sl12 : Array (Option Value)} {oc12 kV12 dc12 pm12 cd12 ct12 : Value}
    (a12 : PySem.W.nsIn K mainGlobals "_law_aggregate" = some (some (.ref f12)))
    (l12 : K.lookup f12 = some ⟨oc12, od12, .func (PySem.W.fnOf "_law_aggregate" "_law_aggregate" (defArgs s_aggregate) (defBody s_aggregate) (defScope s_aggregate) .none kV12 dc12 pm12 an12 cd12 ct12), sl12⟩) (c12 : PySem.W.codeIn K cd12 "_law_aggregate" = true) (k12 : PySem.W.keepIn K (.ref f12) = true)
    {f13 : Addr} {od13 an13 : Option Addr} {sl13 : Array (Option Value)} {oc13 kV13 dc13 pm13 cd13 ct13 : Value}
    (a13 : PySem.W.nsIn K mainGlobals "_law_values" = some (some (.ref f13)))
    (l13 : K.lookup f13 = some ⟨oc13, od13, .func (PySem.W.fnOf "_law_values" "_law_values" (defArgs s_values) (defBody s_values) (defScope s_values) .none kV13 dc13 pm13 an13 cd13 ct13), sl13⟩) (c13 : PySem.W.codeIn K cd13 "_law_values" = true) (k13 : PySem.W.keepIn K (.ref f13) = true)
    {f14 : Addr} {od14 an14 : Option Addr} {sl14 : Array (Option Value)} {oc14 kV14 dc14 pm14 cd14 ct14 : Value}
    (a14 : PySem.W.nsIn K mainGlobals "_law_keys" = some (some (.ref f14)))
    (l14 : K.lookup f14 = some ⟨oc14, od14, .func (PySem.W.fnOf "_law_keys" "_law_keys" (defArgs s_keys) (defBody s_keys) (defScope s_keys) .none kV14 dc14 pm14 an14 cd14 ct14), sl14⟩) (c14 : PySem.W.codeIn K cd14 "_law_keys" = true) (k14 : PySem.W.keepIn K (.ref f14) = true)
    {f15 : Addr} {od15 an15 : Option Addr} {sl15 : Array (Option Value)} {oc15 kV15 dc15 pm15 cd15 ct15 : Value}
    (a15 : PySem.W.nsIn K mainGlobals "_law_windows" = some (some (.ref f15)))
    (l15 : K.lookup f15 = some ⟨oc15, od15, .func (PySem.W.fnOf "_law_windows" "_law_windows" (defArgs s_lwindows) (defBody s_lwindows) (defScope s_lwindows) .none kV15 dc15 pm15 an15 cd15 ct15), sl15⟩) (c15 : PySem.W.codeIn K cd15 "_law_windows" = true) (k15 : PySem.W.keepIn K (.ref f15) = true)
    {f16 : Addr} {od16 an16 : Option Addr} {sl16 : Array (Option Value)} {oc16 kV16 dc16 pm16 cd16 ct16 : Value}
    (a16 : PySem.W.nsIn K mainGlobals "law" = some (some (.ref f16)))
    (l16 : K.lookup f16 = some ⟨oc16, od16, .func (PySem.W.fnOf "law" "law" (defArgs s_law) (defBody s_law) (defScope s_law) .none kV16 dc16 pm16 an16 cd16 ct16), sl16⟩) (c16 : PySem.W.codeIn K cd16 "law" = true) (k16 : PySem.W.keepIn K (.ref f16) = true)
    (b_int : PySem.W.nsIn K mainGlobals "int" = some none)
    (b_len : PySem.W.nsIn K mainGlobals "len" = some none)
    (b_abs : PySem.W.nsIn K mainGlobals "abs" = some none)
    (b_isinstance : PySem.W.nsIn K mainGlobals "isinstance" = some none)
    (b_list : PySem.W.nsIn K mainGlobals "list" = some none)
    (b_tuple : PySem.W.nsIn K mainGlobals "tuple" = some none)
    (b_bool : PySem.W.nsIn K mainGlobals "bool" = some none)
    (b_str : PySem.W.nsIn K mainGlobals "str" = some none)
    (b_all : PySem.W.nsIn K mainGlobals "all" = some none)
    (b_range : PySem.W.nsIn K mainGlobals "range" = some none)
    (b_sorted : PySem.W.nsIn K mainGlobals "sorted" = some none)
    (b_sum : PySem.W.nsIn K mainGlobals "sum" = some none)
    (b_min : PySem.W.nsIn K mainGlobals "min" = some none)
    (b_max : PySem.W.nsIn K mainGlobals "max" = some none) :
    ∃ fd : FuncData, (∀ (s : Shared) (v : Value), BindsTo s fd ⟨[v], []⟩ [("script", v)]) ∧ ∀ base : Heap, K.In base → base.Ns mainGlobals mg → FnOk l.prog w K mg base CX0 5 fa fd ["script"] (spLawG K) := by
  have e := (PySem.W.mg_of X G a16).symm.trans hfa
  cases e
  have F0 := fun_mk (st := s_changes_of) l0 c0 k0
  have D_changes_of : DefAt K mg "changes_of" s_changes_of ["pairs"] f0 _ := ⟨F0, PySem.W.mg_of X G a0, F0.binds (ps := ["pairs"]) fun _ _ _ _ _ _ us hl => match us, hl with | [_], _ => rfl⟩
  have F1 := fun_mk (st := s_aggregated) l1 c1 k1
  have D_aggregated : DefAt K mg "aggregated" s_aggregated ["rows", "aggregate"] f1 _ := ⟨F1, PySem.W.mg_of X G a1, F1.binds (ps := ["rows", "aggregate"]) fun _ _ _ _ _ _ us hl => match us, hl with | [_, _], _ => rfl⟩
  have F2 := fun_mk (st := s_windows) l2 c2 k2
  have D_windows : DefAt K mg "windows" s_windows ["bag", "size", "slide", "aggregate"] f2 _ := ⟨F2, PySem.W.mg_of X G a2, F2.binds (ps := ["bag", "size", "slide", "aggregate"]) fun _ _ _ _ _ _ us hl => match us, hl with | [_, _, _, _], _ => rfl⟩
  have F3 := fun_mk (st := s_window_starts) l3 c3 k3
  have D_window_starts : DefAt K mg "window_starts" s_window_starts ["time", "size", "slide"] f3 _ := ⟨F3, PySem.W.mg_of X G a3, F3.binds (ps := ["time", "size", "slide"]) fun _ _ _ _ _ _ us hl => match us, hl with | [_, _, _], _ => rfl⟩
  have F4 := fun_mk (st := s_first_open) l4 c4 k4
  have D_first_open : DefAt K mg "first_open" s_first_open ["time", "size", "slide"] f4 _ := ⟨F4, PySem.W.mg_of X G a4, F4.binds (ps := ["time", "size", "slide"]) fun _ _ _ _ _ _ us hl => match us, hl with | [_, _, _], _ => rfl⟩
  have F5 := fun_mk (st := s_draw) l5 c5 k5
  have D_draw : DefAt K mg "_law_draw" s_draw ["script"] f5 _ := ⟨F5, PySem.W.mg_of X G a5, F5.binds (ps := ["script"]) fun _ _ _ _ _ _ us hl => match us, hl with | [_], _ => rfl⟩
  have F6 := fun_mk (st := s_next) l6 c6 k6
  have D_next : DefAt K mg "_law_next" s_next ["draw", "many"] f6 _ := ⟨F6, PySem.W.mg_of X G a6, F6.binds (ps := ["draw", "many"]) fun _ _ _ _ _ _ us hl => match us, hl with | [_, _], _ => rfl⟩
  have F7 := fun_mk (st := s_same) l7 c7 k7
  have D_same : DefAt K mg "_law_same" s_same ["actual", "due"] f7 _ := ⟨F7, PySem.W.mg_of X G a7, F7.binds (ps := ["actual", "due"]) fun _ _ _ _ _ _ us hl => match us, hl with | [_, _], _ => rfl⟩
  have F8 := fun_mk (st := s_add) l8 c8 k8
  have D_add : DefAt K mg "_law_add" s_add ["counts", "row", "count"] f8 _ := ⟨F8, PySem.W.mg_of X G a8, F8.binds (ps := ["counts", "row", "count"]) fun _ _ _ _ _ _ us hl => match us, hl with | [_, _, _], _ => rfl⟩
  have F9 := fun_mk (st := s_bag_of) l9 c9 k9
  have D_bag_of : DefAt K mg "_law_bag_of" s_bag_of ["counts"] f9 _ := ⟨F9, PySem.W.mg_of X G a9, F9.binds (ps := ["counts"]) fun _ _ _ _ _ _ us hl => match us, hl with | [_], _ => rfl⟩
  have F10 := fun_mk (st := s_row) l10 c10 k10
  have D_row : DefAt K mg "_law_row" s_row ["draw", "first", "span"] f10 _ := ⟨F10, PySem.W.mg_of X G a10, F10.binds (ps := ["draw", "first", "span"]) fun _ _ _ _ _ _ us hl => match us, hl with | [_, _, _], _ => rfl⟩
  have F11 := fun_mk (st := s_bag) l11 c11 k11
  have D_bag : DefAt K mg "_law_bag" s_bag ["draw", "many", "first", "span"] f11 _ := ⟨F11, PySem.W.mg_of X G a11, F11.binds (ps := ["draw", "many", "first", "span"]) fun _ _ _ _ _ _ us hl => match us, hl with | [_, _, _, _], _ => rfl⟩
  have F12 := fun_mk (st := s_aggregate) l12 c12 k12
  have D_aggregate : DefAt K mg "_law_aggregate" s_aggregate ["name", "values"] f12 _ := ⟨F12, PySem.W.mg_of X G a12, F12.binds (ps := ["name", "values"]) fun _ _ _ _ _ _ us hl => match us, hl with | [_, _], _ => rfl⟩
  have F13 := fun_mk (st := s_values) l13 c13 k13
  have D_values : DefAt K mg "_law_values" s_values ["bag", "key", "first", "last"] f13 _ := ⟨F13, PySem.W.mg_of X G a13, F13.binds (ps := ["bag", "key", "first", "last"]) fun _ _ _ _ _ _ us hl => match us, hl with | [_, _, _, _], _ => rfl⟩
  have F14 := fun_mk (st := s_keys) l14 c14 k14
  have D_keys : DefAt K mg "_law_keys" s_keys ["bag"] f14 _ := ⟨F14, PySem.W.mg_of X G a14, F14.binds (ps := ["bag"]) fun _ _ _ _ _ _ us hl => match us, hl with | [_], _ => rfl⟩
  have F15 := fun_mk (st := s_lwindows) l15 c15 k15
  have D_lwindows : DefAt K mg "_law_windows" s_lwindows ["bag", "size", "slide", "name"] f15 _ := ⟨F15, PySem.W.mg_of X G a15, F15.binds (ps := ["bag", "size", "slide", "name"]) fun _ _ _ _ _ _ us hl => match us, hl with | [_, _, _, _], _ => rfl⟩
  have F16 := fun_mk (st := s_law) l16 c16 k16
  have D_law : DefAt K mg "law" s_law ["script"] fa _ := ⟨F16, PySem.W.mg_of X G a16, F16.binds (ps := ["script"]) fun _ _ _ _ _ _ us hl => match us, hl with | [_], _ => rfl⟩
  have z_int := PySem.W.mg_none_of X G b_int
  have z_len := PySem.W.mg_none_of X G b_len
  have z_abs := PySem.W.mg_none_of X G b_abs
  have z_isinstance := PySem.W.mg_none_of X G b_isinstance
  have z_list := PySem.W.mg_none_of X G b_list
  have z_tuple := PySem.W.mg_none_of X G b_tuple
  have z_bool := PySem.W.mg_none_of X G b_bool
  have z_str := PySem.W.mg_none_of X G b_str
  have z_all := PySem.W.mg_none_of X G b_all
  have z_range := PySem.W.mg_none_of X G b_range
  have z_sorted := PySem.W.mg_none_of X G b_sorted
  have z_sum := PySem.W.mg_none_of X G b_sum
  have z_min := PySem.W.mg_none_of X G b_min
  have z_max := PySem.W.mg_none_of X G b_max
  refine ⟨PySem.W.fnOf "law" "law" (defArgs s_law) (defBody s_law) (defScope s_law) .none kV16 dc16 pm16 an16 cd16 ct16, fun s v => .of_eq rfl, fun base _ _ => ?_⟩
  have G_next := ok_next (P := l.prog) (w := w) (base := base) D_next z_int z_len z_abs
  have G_same := ok_same (P := l.prog) (w := w) (base := base) D_same z_isinstance z_list z_tuple z_bool z_str z_int z_len z_all z_range 4
  have G_add := ok_add (P := l.prog) (w := w) (base := base) D_add
  have G_bag_of := ok_bag_of (P := l.prog) (w := w) (base := base) D_bag_of z_sorted
  have G_row := ok_row (P := l.prog) (w := w) (base := base) D_row D_next G_next
  have G_bag := ok_bag (P := l.prog) (w := w) (base := base) D_bag D_next G_next D_add G_add D_row G_row D_bag_of G_bag_of z_range
  have G_changes_of := ok_changes_of (P := l.prog) (w := w) (base := base) D_changes_of z_sorted
  have G_aggregated := ok_aggregated (P := l.prog) (w := w) (base := base) D_aggregated z_sum z_min z_max
  have G_first_open := ok_first_open (P := l.prog) (w := w) (base := base) D_first_open
  have G_ws := ok_window_starts (P := l.prog) (w := w) (base := base) D_window_starts D_first_open G_first_open z_range z_list
  have G_windows := ok_windows (P := l.prog) (w := w) (base := base) D_windows D_window_starts G_ws D_aggregated G_aggregated D_changes_of G_changes_of
  have G_aggregate := ok_aggregate (P := l.prog) (w := w) (base := base) D_aggregate z_sum z_len
  have G_values := ok_values (P := l.prog) (w := w) (base := base) D_values
  have G_keys := ok_keys (P := l.prog) (w := w) (base := base) D_keys z_sorted
  have G_lwindows := ok_lwindows (P := l.prog) (w := w) (base := base) D_lwindows D_keys G_keys D_values G_values D_aggregate G_aggregate D_bag_of G_bag_of z_range z_min z_max
  exact ok_law D_law D_draw (ok_draw D_draw z_list) D_next G_next D_bag G_bag D_same G_same D_window_starts G_ws D_windows G_windows D_lwindows G_lwindows z_range
end Tf
set_option maxHeartbeats 8000000
open PySem PySem.W PyProof.Rows
set_option maxRecDepth 100000 in
set_option maxHeartbeats 0 in
theorem PySem.Challenge.cw_tidefold_k43_windows_are_counted_holds : PySem.Challenge.rw_tidefold_k43_windows_are_counted.Holds := by
  w_on; o_law; k_head; (case hw => w_witness2)
  k_fill
  refine L2.walk_of (l := PySem.Challenge.rw_tidefold_k43_windows_are_counted) (n := 63) (k := 5) (x := "script") (CX := fun _ => L2.CX0) (sp := fun w => Tf.spLawG _) rfl (by decide) rfl ⟨rfl, by decide, by decide⟩ (fun w h Y => PySem.W.kIn_of Y) ?F (fun _ _ a ns hl _ hS => ⟨a, ns, rfl, hS, hl, fun _ => rfl⟩) (fun _ _ _ _ _ h => h)
  case F =>
    intro w mg fa h KX G hmg
    refine' Tf.all_mk KX G hmg ?a0 ?l0 ?c0 ?k0 ?a1 ?l1 ?c1 ?k1 ?a2 ?l2 ?c2 ?k2 ?a3 ?l3 ?c3 ?k3 ?a4 ?l4 ?c4 ?k4 ?a5 ?l5 ?c5 ?k5 ?a6 ?l6 ?c6 ?k6 ?a7 ?l7 ?c7 ?k7 ?a8 ?l8 ?c8 ?k8 ?a9 ?l9 ?c9 ?k9 ?a10 ?l10 ?c10 ?k10 ?a11 ?l11 ?c11 ?k11 ?a12 ?l12 ?c12 ?k12 ?a13 ?l13 ?c13 ?k13 ?a14 ?l14 ?c14 ?k14 ?a15 ?l15 ?c15 ?k15 ?a16 ?l16 ?c16 ?k16 ?b_int ?b_len ?b_abs ?b_isinstance ?b_list ?b_tuple ?b_bool ?b_str ?b_all ?b_range ?b_sorted ?b_sum ?b_min ?b_max
    (case a0 => k_is)
    (case l0 => k_is)
    (case c0 => k_is)
    (case k0 => k_is)
    (case a1 => k_is)
    (case l1 => k_is)
    (case c1 => k_is)
    (case k1 => k_is)
    (case a2 => k_is)
    (case l2 => k_is)
    (case c2 => k_is)
    (case k2 => k_is)
    (case a3 => k_is)
    (case l3 => k_is)
    (case c3 => k_is)
    (case k3 => k_is)
    (case a4 => k_is)
    (case l4 => k_is)
    (case c4 => k_is)
    (case k4 => k_is)
    (case a5 => k_is)
    (case l5 => k_is)
    (case c5 => k_is)
    (case k5 => k_is)
    (case a6 => k_is)
    (case l6 => k_is)
    (case c6 => k_is)
    (case k6 => k_is)
    (case a7 => k_is)
    (case l7 => k_is)
    (case c7 => k_is)
    (case k7 => k_is)
    (case a8 => k_is)
    (case l8 => k_is)
    (case c8 => k_is)
    (case k8 => k_is)
    (case a9 => k_is)
    (case l9 => k_is)
    (case c9 => k_is)
    (case k9 => k_is)
    (case a10 => k_is)
    (case l10 => k_is)
    (case c10 => k_is)
    (case k10 => k_is)
    (case a11 => k_is)
    (case l11 => k_is)
    (case c11 => k_is)
    (case k11 => k_is)
    (case a12 => k_is)
    (case l12 => k_is)
    (case c12 => k_is)
    (case k12 => k_is)
    (case a13 => k_is)
    (case l13 => k_is)
    (case c13 => k_is)
    (case k13 => k_is)
    (case a14 => k_is)
    (case l14 => k_is)
    (case c14 => k_is)
    (case k14 => k_is)
    (case a15 => k_is)
    (case l15 => k_is)
    (case c15 => k_is)
    (case k15 => k_is)
    (case a16 => k_is)
    (case l16 => k_is)
    (case c16 => k_is)
    (case k16 => k_is)
    (case b_int => k_is)
    (case b_len => k_is)
    (case b_abs => k_is)
    (case b_isinstance => k_is)
    (case b_list => k_is)
    (case b_tuple => k_is)
    (case b_bool => k_is)
    (case b_str => k_is)
    (case b_all => k_is)
    (case b_range => k_is)
    (case b_sorted => k_is)
    (case b_sum => k_is)
    (case b_min => k_is)
    (case b_max => k_is)
