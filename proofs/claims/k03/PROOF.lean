import PyProof.Rows.All
import Wide.All
import OpenK.AllK
import Wide.FinOn
import HandS.ForMost
import HandS.IsInst
import HandS.StrMore
import HandS.Set
import HandS.SetBool
import HandS.Evl
import HandS.More
import HandS.TupSets
import PyProof.EqAt
import HandS.Strs
import HandS.Walk
import HandS.RaiseMore
import HandS.Style
import PySem.Challenge.RW_tidefold_k03_plans_are_read
set_option Elab.async false
set_option linter.all false
set_option maxRecDepth 100000
set_option maxHeartbeats 4000000
namespace Tf
open PySem PySem.Spec PyProof.Rows L2

/-! ### heaps: all but what stands at d stays -/
def Up (d : Addr) (H H' : Hp) : Prop := ∀ b o, b ≠ d → H b = some o → H' b = some o
theorem Up.refl {d : Addr} {H : Hp} : Up d H H := fun _ _ _ h => h
theorem Up.trans {d : Addr} {H H1 H2 : Hp} (a : Up d H H1) (b : Up d H1 H2) : Up d H H2 := fun c o n h => b c o n (a c o n h)
theorem Up.same {d : Addr} {H H' : Hp} (a : Same H H') : Up d H H' := fun c o _ h => a c o h
theorem Up.new {d : Addr} {H : Hp} {p : Addr} {o : HO} (h : H p = none) : Up d H (upd H p o) := fun b u _ e => by rw [upd_ne (ne_of_none e h)]; exact e
theorem Up.at {d : Addr} {H : Hp} {o : HO} : Up d H (upd H d o) := fun b u n e => by rw [upd_ne n]; exact e
/-- a list that the call before did not know may change -/
theorem Up.mut {d : Addr} {H H' : Hp} {p : Addr} {o : HO} (a : Up d H H') (h : H p = none) : Up d H (upd H' p o) := fun b u n e => by
  rw [upd_ne (ne_of_none e h)]
  exact a b u n e
theorem same_new {H : Hp} {p : Addr} (h : H p = none) (o : HO) : Same H (upd H p o) := fun b u q => by rw [upd_ne (ne_of_none q h)]; exact q
theorem Up.seq {d a : Addr} {K : PySem.W.Frag} {H H' : Hp} {xs : List V} (u : Up d H H') (n : a ≠ d) (h : SqL K H a xs) : SqL K H' a xs := by
  rcases h with (h | ⟨o, h⟩) | h
  · exact .inl (.inl (u _ _ n h))
  · exact .inl (.inr ⟨o, u _ _ n h⟩)
  · exact .inr h
/-! ### the numbers that are drawn -/
def Dr (sc : Addr) (H : Hp) (d : Addr) : Prop := ∃ (ns : List Int) (i : Nat) (big st : Int), H d = some (.lst [.ref sc, .int i, .int big, .int st]) ∧ H sc = some (.lst (ns.map V.int)) ∧ sc ≠ d ∧ 0 ≤ big ∧ 0 ≤ st ∧ st < 2147483647
theorem Dr.up {sc : Addr} {H H' : Hp} {d : Addr} (h : Dr sc H d) (k : ∀ b o, H b = some o → H' b = some o) : Dr sc H' d := by
  obtain ⟨ns, i, big, st, h1, h2, r⟩ := h
  exact ⟨ns, i, big, st, k _ _ h1, k _ _ h2, r⟩
theorem Dr.new {sc : Addr} {H : Hp} {d p : Addr} {o : HO} (h : Dr sc H d) (n : H p = none) : Dr sc (upd H p o) d := h.up (same_new n o)
theorem Dr.ne {sc : Addr} {H : Hp} {d p : Addr} (h : Dr sc H d) (n : H p = none) : p ≠ d := by
  obtain ⟨ns, i, big, st, h1, h2, r⟩ := h
  exact (ne_of_none h1 n).symm
theorem Dr.nes {sc : Addr} {H : Hp} {d p : Addr} (h : Dr sc H d) (n : H p = none) : p ≠ sc := by
  obtain ⟨ns, i, big, st, h1, h2, r⟩ := h
  exact (ne_of_none h2 n).symm
theorem Dr.lst {sc : Addr} {H : Hp} {d : Addr} (h : Dr sc H d) : ∃ xs, H d = some (.lst xs) := by
  obtain ⟨ns, i, big, st, h1, _⟩ := h
  exact ⟨_, h1⟩
/-- another object may change -/
theorem Dr.mut {sc : Addr} {H : Hp} {d p : Addr} {o : HO} (h : Dr sc H d) (n : p ≠ d) (m : p ≠ sc) : Dr sc (upd H p o) d := by
  obtain ⟨ns, i, big, st, h1, h2, r⟩ := h
  exact ⟨ns, i, big, st, by rw [upd_ne n.symm]; exact h1, by rw [upd_ne m.symm]; exact h2, r⟩
theorem Up.free {sc d : Addr} {H H' : Hp} (u : Up d H H') (h2 : Dr sc H' d) {t : Addr} (h : H' t = none) : H t = none := by
  cases e : H t with
  | none => rfl
  | some o =>
    rw [u t o (h2.ne h) e] at h
    cases h
def spNext : Sp := fun vs H Q _ => ∃ (d sc : Addr) (m : Int), vs = [.ref d, .int m] ∧ 1 ≤ m ∧ m < 1073741824 ∧ Dr sc H d ∧ ∀ (i : Int) (H' : Hp), 0 ≤ i → i < m → Dr sc H' d → Up d H H' → Q (.int i) H'
/-- a def of the text, where it stands, how its arguments bind -/
structure DefAt (K : PySem.W.Frag) (mg : Str → Option Value) (x : Str) (st : Stmt) (ps : List Str) (f : Addr) (fd : FuncData) : Prop where
  F : Fun K x x st f fd
  m : mg x = some (.ref f)
  b : Binds K fd ps []
section
variable {X : Cx} {x : Str} {pos : Pos}
theorem gl_str {z : Str} {t : Tok} (hg : Gl X x) (hm : X.mg x = some (.str z t)) (hd : (x == ("__debug__" : Str)) = false := by decide) : PE X (.Name x pos) (tC (.str z)) := pe_glob (v := .str z) hg hm ⟨_, rfl⟩ hd
theorem gl_int {z : Int} {t : Tok} (hg : Gl X x) (hm : X.mg x = some (.int z t)) (hd : (x == ("__debug__" : Str)) = false := by decide) : PE X (.Name x pos) (tC (.int z)) := pe_glob (v := .int z) hg hm ⟨_, rfl⟩ hd
theorem gl_ref {a : Addr} (hg : Gl X x) (hm : X.mg x = some (.ref a)) (hd : (x == ("__debug__" : Str)) = false := by decide) : PE X (.Name x pos) (tC (.ref a)) := pe_glob (v := .ref a) hg hm rfl hd
end
end Tf
set_option maxHeartbeats 4000000
namespace Tf
open PySem PySem.Spec PyProof.Rows L2 TL

/-! ### letters, digits, signs -/
def Lt (c : Nat) : Prop := 97 ≤ c ∧ c ≤ 122
def Dg (c : Nat) : Prop := 48 ≤ c ∧ c ≤ 57
def Bl (c : Nat) : Prop := c = 32 ∨ c = 10
instance (c : Nat) : Decidable (Lt c) := by unfold Lt; infer_instance
instance (c : Nat) : Decidable (Dg c) := by unfold Dg; infer_instance
instance (c : Nat) : Decidable (Bl c) := by unfold Bl; infer_instance
/-- the signs in the order in which they are tried -/
def sgL : List (List Nat) := [[60, 61], [62, 61], [33, 61], [40], [41], [44], [124], [60], [62], [61]]
def sgS : List Str := ["<=", ">=", "!=", "(", ")", ",", "|", "<", ">", "="]
theorem sg_tl : sgS.map tl = sgL := by decide +kernel
/-- what one token is, ahead of r -/
inductive Tok1 (w r : List Nat) : Str → Prop
  | word (h : w ≠ []) (hw : ∀ c ∈ w, Lt c) (hr : ∀ c, r.head? = some c → ¬ Lt c) : Tok1 w r "word"
  | num {ds : List Nat} (h : ds ≠ []) (hd : ∀ c ∈ ds, Dg c) (hr : ∀ c, r.head? = some c → ¬ Dg c) (hw : w = ds ∨ w = 45 :: ds) : Tok1 w r "number"
  | sign (h : w ∈ sgL) (hr : w = [60] ∨ w = [62] → ∀ c, r.head? = some c → c ≠ 61) : Tok1 w r "sign"
def TokVal (kind : Str) (w : List Nat) (v : V) : Prop := (kind = "number" ∧ w.length ≤ 640 ∧ ∃ n, PySem.intText? ⟨w.toArray⟩ = some n ∧ v = .int n) ∨ (kind ≠ "number" ∧ v = .str ⟨w.toArray⟩)
abbrev Tk := Str × V × Nat
/-- the tokens of a text from a place on -/
inductive Lex : Nat → List Nat → List Tk → Prop
  | nil (p : Nat) : Lex p [] []
  | blank {p c r d} (h : Bl c) (k : Lex (p + 1) r d) : Lex p (c :: r) d
  | tok {p w r kind v d} (h : Tok1 w r kind) (hv : TokVal kind w v) (k : Lex (p + w.length) r d) : Lex p (w ++ r) ((kind, v, p) :: d)
theorem Tok1.ne {w r : List Nat} {kind : Str} (h : Tok1 w r kind) : w ≠ [] := by
  cases h with
  | word h _ _ => exact h
  | num h _ _ hw => rcases hw with e | e <;> rw [e] <;> first | exact h | exact List.cons_ne_nil _ _
  | sign h _ =>
    intro e
    rw [e] at h
    exact absurd h (by decide)
theorem Lex.blanks : ∀ {g : List Nat} {p : Nat} {r : List Nat} {d : List Tk}, (∀ c ∈ g, Bl c) → Lex (p + g.length) r d → Lex p (g ++ r) d
  | [], _, _, _, _, k => k
  | c :: g, p, r, d, h, k => Lex.blank (h c (List.mem_cons_self ..)) (Lex.blanks (fun x hx => h x (List.mem_cons_of_mem _ hx)) (by
      have e : p + 1 + g.length = p + (c :: g).length := by rw [List.length_cons]; omega
      rw [e]; exact k))
/-! ### what is written: gaps and tokens -/
structure Itm where
  g : List Nat
  w : List Nat
  kind : Str
  v : V
inductive Wf : List Nat → Str → Prop
  | word {w} (h : w ≠ []) (hw : ∀ c ∈ w, Lt c) : Wf w "word"
  | num {w ds} (h : ds ≠ []) (hd : ∀ c ∈ ds, Dg c) (hw : w = ds ∨ w = 45 :: ds) : Wf w "number"
  | sign {w} (h : w ∈ sgL) : Wf w "sign"
theorem Wf.ne {w : List Nat} {kind : Str} (h : Wf w kind) : w ≠ [] := by
  cases h with
  | word h _ => exact h
  | num h _ hw => rcases hw with e | e <;> rw [e] <;> first | exact h | exact List.cons_ne_nil _ _
  | sign h =>
    intro e
    rw [e] at h
    exact absurd h (by decide)
/-- two tokens may stand beside each other with nothing between them -/
def Apart (p w : List Nat) : Prop := ∀ a b, p.getLast? = some a → w.head? = some b → ¬ (Lt a ∧ Lt b) ∧ ¬ (Dg a ∧ Dg b) ∧ ((p = [60] ∨ p = [62]) → b ≠ 61)
def ItmOk (p : List Nat) (x : Itm) : Prop := (∀ c ∈ x.g, Bl c) ∧ Wf x.w x.kind ∧ TokVal x.kind x.w x.v ∧ (x.g = [] → Apart p x.w)
def Chain : List Nat → List Itm → Prop
  | _, [] => True
  | p, x :: r => ItmOk p x ∧ Chain x.w r
def render : List Itm → List Nat
  | [] => []
  | x :: r => x.g ++ (x.w ++ render r)
def places : Nat → List Itm → List Tk
  | _, [] => []
  | p, x :: r => (x.kind, x.v, p + x.g.length) :: places (p + x.g.length + x.w.length) r
def lastw : List Nat → List Itm → List Nat
  | p, [] => p
  | _, x :: r => lastw x.w r
theorem chain_snoc : ∀ {l : List Itm} {p : List Nat} {x : Itm}, Chain p l → ItmOk (lastw p l) x → Chain p (l ++ [x])
  | [], _, _, _, h => ⟨h, trivial⟩
  | y :: l, p, x, ⟨h1, h2⟩, h => ⟨h1, chain_snoc h2 h⟩
theorem lastw_snoc : ∀ {l : List Itm} {p : List Nat} {x : Itm}, lastw p (l ++ [x]) = x.w
  | [], _, _ => rfl
  | y :: l, _, x => lastw_snoc (l := l)
theorem render_snoc : ∀ {l : List Itm} {x : Itm}, render (l ++ [x]) = render l ++ (x.g ++ x.w)
  | [], x => by show x.g ++ (x.w ++ []) = [] ++ (x.g ++ x.w); simp
  | y :: l, x => by show y.g ++ (y.w ++ render (l ++ [x])) = (y.g ++ (y.w ++ render l)) ++ (x.g ++ x.w); rw [render_snoc]; simp only [List.append_assoc]
theorem places_snoc : ∀ {l : List Itm} {p : Nat} {x : Itm}, places p (l ++ [x]) = places p l ++ [(x.kind, x.v, p + (render l).length + x.g.length)]
  | [], p, x => rfl
  | y :: l, p, x => by
    show (y.kind, y.v, p + y.g.length) :: places (p + y.g.length + y.w.length) (l ++ [x]) = ((y.kind, y.v, p + y.g.length) :: places (p + y.g.length + y.w.length) l) ++ _
    rw [places_snoc]
    have e : p + y.g.length + y.w.length + (render l).length + x.g.length = p + (render (y :: l)).length + x.g.length := by
      show _ = p + (y.g ++ (y.w ++ render l)).length + x.g.length
      rw [List.length_append, List.length_append]; omega
    rw [e]; rfl
theorem bl_not {c : Nat} (h : Bl c) : ¬ Lt c ∧ ¬ Dg c ∧ c ≠ 61 := by unfold Bl Lt Dg at *; omega
theorem head_app {a b : List Nat} (h : a ≠ []) : (a ++ b).head? = a.head? := by cases a with | nil => exact absurd rfl h | cons x r => rfl
/-- what stands behind a token of a chain: not what would lengthen it -/
theorem after_ok {w : List Nat} {l : List Itm} {gend : List Nat} (hc : Chain w l) (hg : ∀ c ∈ gend, Bl c) : ∀ a b, w.getLast? = some a → (render l ++ gend).head? = some b → ¬ (Lt a ∧ Lt b) ∧ ¬ (Dg a ∧ Dg b) ∧ ((w = [60] ∨ w = [62]) → b ≠ 61) := by
  intro a b ha hb
  have blank : Bl b → ¬ (Lt a ∧ Lt b) ∧ ¬ (Dg a ∧ Dg b) ∧ ((w = [60] ∨ w = [62]) → b ≠ 61) := fun h => by
    have q := bl_not h
    exact ⟨fun z => q.1 z.2, fun z => q.2.1 z.2, fun _ => q.2.2⟩
  cases l with
  | nil =>
    have hb' : gend.head? = some b := hb
    cases gend with
    | nil => cases hb'
    | cons c r =>
      have e : c = b := Option.some.inj hb'
      exact blank (e ▸ hg c (List.mem_cons_self ..))
  | cons x r =>
    obtain ⟨⟨h1, h2, h3, h4⟩, _⟩ := hc
    have e : render (x :: r) ++ gend = x.g ++ (x.w ++ (render r ++ gend)) := by show (x.g ++ (x.w ++ render r)) ++ gend = _; simp only [List.append_assoc]
    rw [e] at hb
    cases hx : x.g with
    | nil =>
      rw [hx] at hb
      have hb2 : (x.w ++ (render r ++ gend)).head? = some b := hb
      rw [head_app h2.ne] at hb2
      exact h4 hx a b ha hb2
    | cons c g =>
      rw [hx] at hb
      have e : c = b := Option.some.inj hb
      exact blank (e ▸ h1 c (by rw [hx]; exact List.mem_cons_self ..))
theorem last_mem {l : List Nat} {a : Nat} (h : l.getLast? = some a) : a ∈ l := List.mem_of_getLast? h
theorem last_of {l : List Nat} (h : l ≠ []) : ∃ a, l.getLast? = some a := ⟨_, List.getLast?_eq_some_getLast h⟩
theorem lex_of : ∀ {l : List Itm} {p : Nat} {w gend : List Nat}, Chain w l → (∀ c ∈ gend, Bl c) → Lex p (render l ++ gend) (places p l)
  | [], p, w, gend, _, hg => by
    have k := Lex.blanks (g := gend) (p := p) (r := []) (d := []) hg (Lex.nil _)
    rw [List.append_nil] at k
    exact k
  | x :: r, p, w, gend, hc, hg => by
    obtain ⟨⟨h1, h2, h3, h4⟩, hr⟩ := hc
    have e : render (x :: r) ++ gend = x.g ++ (x.w ++ (render r ++ gend)) := by show (x.g ++ (x.w ++ render r)) ++ gend = _; simp only [List.append_assoc]
    rw [e]
    cases x with | mk xg xw xk xv => ?_
    dsimp only at h1 h2 h3 h4 hr ⊢
    refine Lex.blanks h1 (Lex.tok ?_ h3 (lex_of hr hg))
    have ao := after_ok hr hg
    obtain ⟨a, ha⟩ := last_of h2.ne
    cases h2 with
    | word h hw =>
      refine Tok1.word h hw fun c hc z => ?_
      exact (ao a c ha hc).1 ⟨hw a (last_mem ha), z⟩
    | num h hd hw =>
      refine Tok1.num h hd (fun c hc z => ?_) hw
      obtain ⟨b, hb⟩ := last_of h
      have e : a = b := by
        rcases hw with e | e
        · rw [e, hb] at ha
          exact (Option.some.inj ha).symm
        · rw [e, List.getLast?_cons, hb] at ha
          exact (Option.some.inj ha).symm
      exact (ao a c ha hc).2.1 ⟨e ▸ hd b (last_mem hb), z⟩
    | sign h => exact Tok1.sign h fun hw c hc => (ao a c ha hc).2.2 hw
/-! ### numbers written -/
theorem digits_zeros : ∀ {z : List Nat} {n : Nat}, (∀ c ∈ z, c = 48) → NumText.digitsVal (z ++ numL n) = n := by
  intro z n h
  unfold NumText.digitsVal
  rw [List.foldl_append]
  have e : ∀ (z : List Nat), (∀ c ∈ z, c = 48) → List.foldl (fun acc c => acc * 10 + (c - 48)) 0 z = 0 := by
    intro z
    induction z with
    | nil => intro _; rfl
    | cons c r ih =>
      intro h
      rw [List.foldl_cons, h c (List.mem_cons_self ..)]
      exact ih fun x hx => h x (List.mem_cons_of_mem _ hx)
  rw [e z h]
  exact numL_val n
theorem num_text {z : List Nat} {n : Nat} (h : ∀ c ∈ z, c = 48) (hl : z.length + (numL n).length ≤ 600) : PySem.intText? ⟨(z ++ numL n).toArray⟩ = some (n : Int) := by
  have e := intText_digits (x := ⟨(z ++ numL n).toArray⟩) (fun c hc => by
    rcases List.mem_append.mp hc with q | q
    · rw [h c q]; decide
    · exact numL_digits n c q) (fun q => numL_ne n (List.append_eq_nil_iff.mp q).2) (by rw [len_tl, tl_mk, List.length_append]; omega)
  rw [show (⟨(z ++ numL n).toArray⟩ : Str).cps.toList = z ++ numL n from rfl, digits_zeros h] at e
  exact e
theorem num_text_neg {z : List Nat} {n : Nat} (h : ∀ c ∈ z, c = 48) (hl : z.length + (numL n).length ≤ 600) : PySem.intText? ⟨(45 :: (z ++ numL n)).toArray⟩ = some (-(n : Int)) := by
  have e := intText_neg (x := ⟨(45 :: (z ++ numL n)).toArray⟩) (cs := z ++ numL n) rfl (fun c hc => by
    rcases List.mem_append.mp hc with q | q
    · rw [h c q]; decide
    · exact numL_digits n c q) (fun q => numL_ne n (List.append_eq_nil_iff.mp q).2) (by rw [len_tl, tl_mk, List.length_cons, List.length_append]; omega)
  rw [digits_zeros h] at e
  exact e
theorem zeros_dg {z : List Nat} {n : Nat} (h : ∀ c ∈ z, c = 48) : ∀ c ∈ z ++ numL n, Dg c := fun c hc => by
  rcases List.mem_append.mp hc with q | q
  · rw [h c q]; decide
  · exact numL_digits n c q
end Tf
set_option maxHeartbeats 4000000
namespace Tf
open PySem PySem.Spec PyProof.Rows L2 TL
/-! ### the alphabets -/
theorem mem_letters (c : Nat) : c ∈ tl ("abcdefghijklmnopqrstuvwxyz" : Str) ↔ Lt c := by
  have e : tl ("abcdefghijklmnopqrstuvwxyz" : Str) = (List.range 26).map (· + 97) := by decide +kernel
  rw [e, List.mem_map]
  unfold Lt
  constructor
  · rintro ⟨a, ha, rfl⟩
    have := List.mem_range.mp ha
    omega
  · intro h
    exact ⟨c - 97, List.mem_range.mpr (by omega), by omega⟩
theorem mem_digits (c : Nat) : c ∈ tl ("0123456789" : Str) ↔ Dg c := by
  have e : tl ("0123456789" : Str) = (List.range 10).map (· + 48) := by decide +kernel
  rw [e, List.mem_map]
  unfold Dg
  constructor
  · rintro ⟨a, ha, rfl⟩
    have := List.mem_range.mp ha
    omega
  · intro h
    exact ⟨c - 48, List.mem_range.mpr (by omega), by omega⟩
/-! ### the same data -/
def Eq0 (x y : V) : Prop := (∃ i, x = .int i ∧ y = .int i) ∨ (∃ s, x = .str s ∧ y = .str s) ∨ (x = .non ∧ y = .non)
def SeqH (H : Hp) (b : Bool) (a : Addr) (xs : List V) : Prop := H a = some (if b = true then .tup xs else .lst xs)
def Eq2 (H : Hp) : Nat → V → V → Prop
  | 0, x, y => Eq0 x y
  | n + 1, x, y => Eq0 x y ∨ ∃ (t : Bool) (a b : Addr) (xs ys : List V), x = .ref a ∧ y = .ref b ∧ SeqH H t a xs ∧ SeqH H t b ys ∧ xs.length = ys.length ∧ ys.length ≤ 1000 ∧ ∀ (i : Nat) u v, xs[i]? = some u → ys[i]? = some v → Eq2 H n u v
theorem Eq2.mono {H H' : Hp} (k : Same H H') : ∀ {n : Nat} {x y : V}, Eq2 H n x y → Eq2 H' n x y
  | 0, _, _, h => h
  | n + 1, _, _, .inl h => .inl h
  | n + 1, _, _, .inr ⟨t, a, b, xs, ys, e1, e2, h1, h2, h3, h4, h5⟩ => .inr ⟨t, a, b, xs, ys, e1, e2, k _ _ h1, k _ _ h2, h3, h4, fun i u v hu hv => (h5 i u v hu hv).mono k⟩
theorem Eq2.base {H : Hp} {n : Nat} {x y : V} (h : Eq0 x y) : Eq2 H n x y := by cases n with | zero => exact h | succ n => exact .inl h
def spS (k : Nat) : Sp := fun vs H Q _ => ∃ (n : Nat) (x y : V), k = n + 1 ∧ vs = [x, y] ∧ Eq2 H n x y ∧ ∀ H', Same H H' → Q (.bl true) H'
theorem rix_of {K : PySem.W.Frag} {H : Hp} {a : Addr} {t : Bool} {xs : List V} {i : Nat} {j : Int} {v : V} {Q : VK} (h : SeqH H t a xs) (e : j = (i : Int)) (hi : xs[i]? = some v) (q : Q v H) : rIx K (.ref a) (.int j) H Q := by
  cases t with
  | true => exact .inr (.inl ⟨a, xs, _, v, rfl, rfl, .of h, at_of e hi, q⟩)
  | false => exact .inl ⟨a, xs, _, v, rfl, rfl, .of h, at_of e hi, q⟩
theorem seq_or {K : PySem.W.Frag} {H : Hp} {a : Addr} {t : Bool} {xs : List V} (h : SeqH H t a xs) : SqL K H a xs ∨ SqT K H a xs := by
  cases t with
  | true => exact .inr (.of h)
  | false => exact .inl (.of h)
theorem seq_ty {K : PySem.W.Frag} {H : Hp} {a : Addr} {t : Bool} {xs : List V} (h : SeqH H t a xs) : TyX K H (.ref a) (.type (if t = true then "tuple" else "list")) := by
  cases t with
  | true => exact .base (.tup h)
  | false => exact .base (.lst h)
theorem kit_seq (K : PySem.W.Frag) (t : Bool) : PySem.W.kitAny K (.type (if t = true then "tuple" else "list")) [.type "list", .type "tuple"] = some true := by
  cases t with
  | true => exact kitAny_cons (b := false) (kit_ty (by decide +kernel)) (fun _ => kitAny_cons (b := true) (kit_ty (by decide +kernel)) (fun h => by cases h) (fun _ => rfl)) (fun h => by cases h)
  | false => exact kitAny_cons (b := true) (kit_ty (by decide +kernel)) (fun h => by cases h) (fun _ => rfl)
theorem kit_no (K : PySem.W.Frag) (a : String) (h1 : kitB a "list" = some false) (h2 : kitB a "tuple" = some false) : PySem.W.kitAny K (.type a) [.type "list", .type "tuple"] = some false :=
  kitAny_cons (b := false) (kit_ty h1) (fun _ => kitAny_cons (b := false) (kit_ty h2) (fun _ => kitAny_nil) (fun h => by cases h)) (fun h => by cases h)
theorem kit_l (K : PySem.W.Frag) (t : Bool) : PySem.W.kitOne K (.type (if t = true then "tuple" else "list")) (.type "list") = some (!t) := by
  cases t with
  | true => exact kit_ty (by decide +kernel)
  | false => exact kit_ty (by decide +kernel)
theorem kit_t (K : PySem.W.Frag) (t : Bool) : PySem.W.kitOne K (.type (if t = true then "tuple" else "list")) (.type "tuple") = some t := by
  cases t with
  | true => exact kit_ty (by decide +kernel)
  | false => exact kit_ty (by decide +kernel)
theorem dec_self {α : Type} [DecidableEq α] (x : α) : (!decide (x = x)) = false := by rw [decide_eq_true rfl] <;> rfl
/-- a value that is one of two, told by what both are -/
theorem if_te {c : Prop} [Decidable c] {ta tb : TE} {σ : L2.St} {H : Hp} {Q : VK} (R : V → Prop) (hx : c → ∀ Q : VK, (∀ v, R v → Q v H) → ta σ H Q) (hy : ¬ c → ∀ Q : VK, (∀ v, R v → Q v H) → tb σ H Q) (h : ∀ v, R v → Q v H) : if c then ta σ H Q else tb σ H Q := by
  by_cases k : c
  · rw [if_pos k]; exact hx k Q h
  · rw [if_neg k]; exact hy k Q h
/-- the same of a test that is asked behind another -/
theorem if_tt {c : Prop} [Decidable c] {tt : TT} {σ : L2.St} {H : Hp} {Q : Bool → Hp → Prop} (b : Bool) (hx : c → ∀ Q : Bool → Hp → Prop, Q b H → tt σ H Q) (hy : ¬ c → b = false) (h : Q b H) : if c then tt σ H Q else Q false H := by
  by_cases k : c
  · rw [if_pos k]; exact hx k Q h
  · rw [if_neg k, ← hy k]; exact h
/-! ### the draws' promises -/
def spDraw (K : PySem.W.Frag) : Sp := fun vs H Q _ => ∃ (a : Addr) (ns : List Int), vs = [.ref a] ∧ SqL K H a (ns.map V.int) ∧ ns.length ≤ 63 ∧ ∀ d sc H', H d = none → Dr sc H' d → Same H H' → Q (.ref d) H'
theorem atI_of {α : Type} {xs : List α} {z : Int} {j : Nat} {v : α} (e : z = (j : Int)) (h : xs[j]? = some v) : atI xs z = some v := by
  rw [e]
  exact atI_nat h
theorem pick {α : Type} {xs : List α} {i : Int} (h0 : 0 ≤ i) (h1 : i < (xs.length : Int)) : ∃ v, v ∈ xs ∧ atI xs i = some v := by
  have hi : i.toNat < xs.length := by omega
  have e : i = ((i.toNat : Nat) : Int) := by omega
  exact ⟨xs[i.toNat], List.getElem_mem hi, atI_of e (List.getElem?_eq_getElem hi)⟩
/-- an item of a list of texts that is made for it -/
theorem pickS {xs : List Str} {i : Int} (h0 : 0 ≤ i) (h1 : i < (xs.length : Int)) : ∃ s, s ∈ xs ∧ atI (xs.map V.str) i = some (.str s) := by
  obtain ⟨v, hv, e⟩ := pick (xs := xs.map V.str) h0 (by rw [List.length_map]; exact h1)
  obtain ⟨s, hs, rfl⟩ := List.mem_map.mp hv
  exact ⟨s, hs, e⟩
theorem pickI {xs : List Int} {i : Int} (h0 : 0 ≤ i) (h1 : i < (xs.length : Int)) : ∃ s, s ∈ xs ∧ atI (xs.map V.int) i = some (.int s) := by
  obtain ⟨v, hv, e⟩ := pick (xs := xs.map V.int) h0 (by rw [List.length_map]; exact h1)
  obtain ⟨s, hs, rfl⟩ := List.mem_map.mp hv
  exact ⟨s, hs, e⟩
def gapS : List Str := ["", " ", "\n", "  ", " \n "]
theorem gap_ok : ∀ g ∈ gapS, (∀ c ∈ tl g, Bl c) ∧ (tl g).length ≤ 3 := by decide +kernel
def spGap : Sp := fun vs H Q _ => ∃ d sc : Addr, vs = [.ref d] ∧ Dr sc H d ∧ ∀ g H', g ∈ gapS → Dr sc H' d → Up d H H' → Q (.str g) H'
def NoGlue (last word : List Nat) : Prop := ∀ a b, last.getLast? = some a → word.head? = some b → ¬ (Lt a ∧ Lt b) ∧ ¬ (Dg a ∧ Dg b)
def spJoint : Sp := fun vs H Q _ => ∃ (d sc : Addr) (last word : Str), vs = [.ref d, .str last, .str word] ∧ Dr sc H d ∧ tl word ≠ [] ∧ word.length ≤ 1000 ∧ last.length ≤ 1000 ∧
  ∀ g H', g ∈ gapS → (tl g = [] → NoGlue (tl last) (tl word)) → Dr sc H' d → Up d H H' → Q (.str g) H'
def spOne : Sp := fun vs H Q _ => ∃ d sc : Addr, vs = [.ref d] ∧ Dr sc H d ∧ ∀ (t : Addr) (kind wr : Str) (v : V) H', H t = none → H' t = some (.tup [.str kind, v, .str wr]) → Dr sc H' d → Up d H H' → Wf (tl wr) kind → TokVal kind (tl wr) v → (tl wr).length ≤ 20 → Q (.ref t) H'
/-! ### what _law_one makes -/
theorem join_nil_tl (ws : List Str) : tl (Txt.join ("" : Str) ws) = (ws.map tl).flatten := by
  rw [join_eq, tl_join]
  have e : tl ("" : Str) = [] := by decide +kernel
  rw [e]
  generalize ws.map tl = ls
  induction ls with
  | nil => rfl
  | cons x r ih =>
    cases r with
    | nil => simp [joinL]
    | cons y r => 
      rw [List.flatten_cons, ← ih]
      simp [joinL]
theorem ones {ws : List Str} (h : ∀ x ∈ ws, ∃ c, x = ⟨#[c]⟩ ∧ Lt c) : (∀ c ∈ (ws.map tl).flatten, Lt c) ∧ (ws.map tl).flatten.length = ws.length ∧ (ws.map (·.length)).sum = ws.length := by
  induction ws with
  | nil => exact ⟨fun c hc => absurd hc (by simp), rfl, rfl⟩
  | cons x r ih =>
    obtain ⟨c, rfl, hc⟩ := h x (List.mem_cons_self ..)
    obtain ⟨i1, i2, i3⟩ := ih fun y hy => h y (List.mem_cons_of_mem _ hy)
    refine ⟨fun b hb => ?_, ?_, ?_⟩
    · rw [List.map_cons, List.flatten_cons] at hb
      rcases List.mem_append.mp hb with hb | hb
      · rw [show tl (⟨#[c]⟩ : Str) = [c] from rfl] at hb
        rw [List.mem_singleton.mp hb]; exact hc
      · exact i1 b hb
    · rw [List.map_cons, List.flatten_cons, List.length_append, i2]
      show 1 + r.length = r.length + 1
      omega
    · rw [List.map_cons, List.sum_cons, i3]
      show 1 + r.length = r.length + 1
      omega
def zeroS : List Str := ["", "0", "000"]
theorem zero_ok : ∀ z ∈ zeroS, (∀ c ∈ tl z, c = 48) ∧ (tl z).length ≤ 3 := by decide +kernel
theorem number_of {a m b : Int} (a0 : 0 ≤ a) (a1 : a < 100) (hm : m ∈ ([1, 1000, 1000000, 1000000000] : List Int)) (b0 : 0 ≤ b) (b1 : b < 12) : ∃ n : Nat, a * m + b = (n : Int) ∧ n < 10 ^ 12 := by
  have h : 0 ≤ a * m + b ∧ a * m + b < 10 ^ 12 := by
    simp only [List.mem_cons, List.not_mem_nil, or_false] at hm
    rcases hm with rfl | rfl | rfl | rfl <;> omega
  exact ⟨(a * m + b).toNat, by omega, by omega⟩
theorem log_ok {n : Nat} (h : n < 10 ^ 12) : ((n : Int)).natAbs.log2 < 1920 := by
  rw [Int.natAbs_natCast]
  rcases Nat.eq_zero_or_pos n with e | e
  · rw [e]; decide
  · have : n.log2 < 41 := (Nat.log2_lt (by omega)).mpr (by omega)
    omega
theorem tl_strI (n : Nat) : tl (Str.ofString (toString ((n : Nat) : Int))) = numL n := tl_num n
end Tf
set_option maxHeartbeats 4000000
namespace Tf
open PySem PySem.Spec PyProof.Rows L2 TL
/-! ### plans -/
inductive Stg
  | sift (c : Str) (b : Int)
  | only (ks : List Str)
  | rekey (k : Str)
  | scale (f : Int)
  | later (d : Int)
inductive Pl
  | src (n : Str)
  | stage (s : Stg) (p : Pl)
  | once (p : Pl)
  | windows (a b : Int) (g : Str) (p : Pl)
  | sittings (a : Int) (g : Str) (p : Pl)
  | two (w : Str) (l r : Pl)
  | near (a b : Int) (c : Str) (l r : Pl)
def twoS : List Str := ["both", "less", "without"]
def pairS : List Str := ["both", "less", "without", "near"]
def Pl.ins : Pl → List Pl
  | .src _ => []
  | .stage _ p => [p]
  | .once p => [p]
  | .windows _ _ _ p => [p]
  | .sittings _ _ p => [p]
  | .two _ l r => [l, r]
  | .near _ _ _ l r => [l, r]
def Pl.head : Pl → Str
  | .src _ => "source"
  | .stage _ _ => "stage"
  | .once _ => "once"
  | .windows _ _ _ _ => "windows"
  | .sittings _ _ _ => "sittings"
  | .two w _ _ => w
  | .near _ _ _ _ _ => "near"
def Pl.size : Pl → Nat
  | .src _ => 1
  | .stage _ p => p.size + 1
  | .once p => p.size + 1
  | .windows _ _ _ p => p.size + 1
  | .sittings _ _ p => p.size + 1
  | .two _ l r => l.size + r.size + 1
  | .near _ _ _ l r => l.size + r.size + 1
def Pl.srcs : Pl → List Str
  | .src n => [n]
  | .stage _ p => p.srcs
  | .once p => p.srcs
  | .windows _ _ _ p => p.srcs
  | .sittings _ _ p => p.srcs
  | .two _ l r => l.srcs ++ r.srcs
  | .near _ _ _ l r => l.srcs ++ r.srcs
/-- all plans within a plan, each with its level -/
def subs : Nat → Pl → List (Pl × Nat)
  | l, .src n => [(.src n, l)]
  | l, .stage s p => (.stage s p, l) :: subs (l + 1) p
  | l, .once p => (.once p, l) :: subs (l + 1) p
  | l, .windows a b g p => (.windows a b g p, l) :: subs (l + 1) p
  | l, .sittings a g p => (.sittings a g p, l) :: subs (l + 1) p
  | l, .two w x y => (.two w x y, l) :: (subs (l + 1) x ++ subs (l + 1) y)
  | l, .near a b c x y => (.near a b c x y, l) :: (subs (l + 1) x ++ subs (l + 1) y)
theorem subs_eq (l : Nat) (p : Pl) : subs l p = (p, l) :: (p.ins.map (subs (l + 1))).flatten := by
  cases p <;> simp [subs, Pl.ins]
theorem subs_len : ∀ (p : Pl) (l : Nat), (subs l p).length = p.size
  | .src _, _ => rfl
  | .stage _ p, l => by simp [subs, Pl.size, subs_len p]
  | .once p, l => by simp [subs, Pl.size, subs_len p]
  | .windows _ _ _ p, l => by simp [subs, Pl.size, subs_len p]
  | .sittings _ _ p, l => by simp [subs, Pl.size, subs_len p]
  | .two _ x y, l => by simp [subs, Pl.size, subs_len x, subs_len y]
  | .near _ _ _ x y, l => by simp [subs, Pl.size, subs_len x, subs_len y]
theorem srcs_eq (p : Pl) (h : p.ins ≠ []) : p.srcs = (p.ins.map Pl.srcs).flatten := by
  cases p <;> first | exact absurd rfl h | simp [Pl.srcs, Pl.ins]
theorem size_eq (p : Pl) : p.size = (p.ins.map Pl.size).sum + 1 := by
  cases p <;> simp [Pl.size, Pl.ins]
theorem mem_srcs : ∀ (p : Pl) (l : Nat) (n : Str), n ∈ p.srcs ↔ ∃ k, (Pl.src n, k) ∈ subs l p
  | .src m, l, n => by simp [Pl.srcs, subs]
  | .stage _ p, l, n => by simp [Pl.srcs, subs, mem_srcs p (l + 1) n]
  | .once p, l, n => by simp [Pl.srcs, subs, mem_srcs p (l + 1) n]
  | .windows _ _ _ p, l, n => by simp [Pl.srcs, subs, mem_srcs p (l + 1) n]
  | .sittings _ _ p, l, n => by simp [Pl.srcs, subs, mem_srcs p (l + 1) n]
  | .two _ x y, l, n => by simp only [Pl.srcs, subs, List.mem_append, mem_srcs x (l + 1) n, mem_srcs y (l + 1) n, List.mem_cons, exists_or, Prod.mk.injEq, reduceCtorEq, false_and, false_or]
  | .near _ _ _ x y, l, n => by simp only [Pl.srcs, subs, List.mem_append, mem_srcs x (l + 1) n, mem_srcs y (l + 1) n, List.mem_cons, exists_or, Prod.mk.injEq, reduceCtorEq, false_and, false_or]
/-! ### plans in the heap -/
def StAt (H : Hp) : Stg → V → Prop
  | .sift c b, v => ∃ a, v = .ref a ∧ H a = some (.tup [.str "sift", .str c, .int b])
  | .only ks, v => ∃ a k, v = .ref a ∧ H a = some (.tup [.str "only", .ref k]) ∧ H k = some (.tup (ks.map V.str))
  | .rekey k, v => ∃ a, v = .ref a ∧ H a = some (.tup [.str "rekey", .str k])
  | .scale f, v => ∃ a, v = .ref a ∧ H a = some (.tup [.str "scale", .int f])
  | .later d, v => ∃ a, v = .ref a ∧ H a = some (.tup [.str "later", .int d])
def PlAt (H : Hp) : Pl → V → Prop
  | .src n, v => ∃ a, v = .ref a ∧ H a = some (.tup [.str "source", .str n])
  | .stage s p, v => ∃ a x y, v = .ref a ∧ H a = some (.tup [.str "stage", x, y]) ∧ StAt H s x ∧ PlAt H p y
  | .once p, v => ∃ a y, v = .ref a ∧ H a = some (.tup [.str "once", y]) ∧ PlAt H p y
  | .windows i j g p, v => ∃ a y, v = .ref a ∧ H a = some (.tup [.str "windows", .int i, .int j, .str g, y]) ∧ PlAt H p y
  | .sittings i g p, v => ∃ a y, v = .ref a ∧ H a = some (.tup [.str "sittings", .int i, .str g, y]) ∧ PlAt H p y
  | .two w l r, v => ∃ a x y, v = .ref a ∧ H a = some (.tup [.str w, x, y]) ∧ w ∈ twoS ∧ PlAt H l x ∧ PlAt H r y
  | .near i j c l r, v => ∃ a x y, v = .ref a ∧ H a = some (.tup [.str "near", .int i, .int j, .str c, x, y]) ∧ PlAt H l x ∧ PlAt H r y
def TupUp (H H' : Hp) : Prop := ∀ p xs, H p = some (.tup xs) → H' p = some (.tup xs)
theorem TupUp.refl {H : Hp} : TupUp H H := fun _ _ h => h
theorem TupUp.trans {H H1 H2 : Hp} (a : TupUp H H1) (b : TupUp H1 H2) : TupUp H H2 := fun p xs h => b p xs (a p xs h)
theorem TupUp.same {H H' : Hp} (a : Same H H') : TupUp H H' := fun p xs h => a p _ h
theorem TupUp.new {H : Hp} {p : Addr} {o : HO} (h : H p = none) : TupUp H (upd H p o) := .same (same_new h o)
theorem TupUp.lst {H : Hp} {p : Addr} {xs : List V} {o : HO} (h : H p = some (.lst xs)) : TupUp H (upd H p o) := fun q ys e => by
  rw [upd_ne (fun z => by rw [z, h] at e; cases e)]
  exact e
theorem Up.tupUp {sc d : Addr} {H H' : Hp} (u : Up d H H') (hD : Dr sc H d) : TupUp H H' := fun p xs e => by
  refine u p _ (fun q => ?_) e
  obtain ⟨ys, hy⟩ := hD.lst
  rw [q, hy] at e
  cases e
theorem StAt.mono {H H' : Hp} (k : TupUp H H') : ∀ {s : Stg} {v : V}, StAt H s v → StAt H' s v
  | .sift _ _, _, ⟨a, e, h⟩ => ⟨a, e, k _ _ h⟩
  | .only _, _, ⟨a, b, e, h, g⟩ => ⟨a, b, e, k _ _ h, k _ _ g⟩
  | .rekey _, _, ⟨a, e, h⟩ => ⟨a, e, k _ _ h⟩
  | .scale _, _, ⟨a, e, h⟩ => ⟨a, e, k _ _ h⟩
  | .later _, _, ⟨a, e, h⟩ => ⟨a, e, k _ _ h⟩
theorem PlAt.mono {H H' : Hp} (k : TupUp H H') : ∀ {p : Pl} {v : V}, PlAt H p v → PlAt H' p v
  | .src _, _, ⟨a, e, h⟩ => ⟨a, e, k _ _ h⟩
  | .stage _ _, _, ⟨a, x, y, e, h, s, p⟩ => ⟨a, x, y, e, k _ _ h, s.mono k, p.mono k⟩
  | .once _, _, ⟨a, y, e, h, p⟩ => ⟨a, y, e, k _ _ h, p.mono k⟩
  | .windows _ _ _ _, _, ⟨a, y, e, h, p⟩ => ⟨a, y, e, k _ _ h, p.mono k⟩
  | .sittings _ _ _, _, ⟨a, y, e, h, p⟩ => ⟨a, y, e, k _ _ h, p.mono k⟩
  | .two _ _ _, _, ⟨a, x, y, e, h, w, p, q⟩ => ⟨a, x, y, e, k _ _ h, w, p.mono k, q.mono k⟩
  | .near _ _ _ _ _, _, ⟨a, x, y, e, h, p, q⟩ => ⟨a, x, y, e, k _ _ h, p.mono k, q.mono k⟩
/-- several plans -/
def InsAt (H : Hp) : List Pl → List V → Prop
  | [], [] => True
  | p :: ps, v :: vs => PlAt H p v ∧ InsAt H ps vs
  | _, _ => False
theorem InsAt.mono {H H' : Hp} (k : TupUp H H') : ∀ {ps : List Pl} {vs : List V}, InsAt H ps vs → InsAt H' ps vs
  | [], [], _ => trivial
  | p :: ps, v :: vs, ⟨h, r⟩ => ⟨h.mono k, r.mono k⟩
theorem InsAt.len {H : Hp} : ∀ {ps : List Pl} {vs : List V}, InsAt H ps vs → ps.length = vs.length
  | [], [], _ => rfl
  | p :: ps, v :: vs, ⟨h, r⟩ => by rw [List.length_cons, List.length_cons, r.len]
theorem InsAt.get {H : Hp} : ∀ {ps : List Pl} {vs : List V} {i : Nat} {v : V}, InsAt H ps vs → vs[i]? = some v → ∃ p, ps[i]? = some p ∧ PlAt H p v
  | [], [], _, _, _, e => by simp at e
  | p :: ps, v :: vs, 0, u, ⟨h, r⟩, e => ⟨p, rfl, by rw [← Option.some.inj e]; exact h⟩
  | p :: ps, v :: vs, i + 1, u, ⟨h, r⟩, e => r.get (i := i) e
/-- what a plan's tuple is: its word, what belongs to the word, its inputs -/
theorem PlAt.view {H : Hp} {p : Pl} {v : V} (h : PlAt H p v) : ∃ (a : Addr) (mid vs : List V), v = .ref a ∧ H a = some (.tup (.str p.head :: (mid ++ vs))) ∧ InsAt H p.ins vs ∧ mid.length ≤ 3 ∧
    (p.ins = [] → ∃ n, p = .src n ∧ mid = [.str n] ∧ p.head = "source") ∧ (p.ins ≠ [] → p.head ≠ "source") ∧ (p.ins.length = 2 ↔ p.head ∈ pairS) ∧ p.ins.length ≤ 2 := by
  have n1 : ∀ s ∈ (["stage", "once", "windows", "sittings", "source"] : List Str), s ∉ pairS := by decide +kernel
  have n2 : ∀ s ∈ (["stage", "once", "windows", "sittings"] : List Str), s ≠ ("source" : Str) := by decide +kernel
  have n3 : ∀ s ∈ pairS, s ≠ ("source" : Str) := by decide +kernel
  have n4 : ∀ s ∈ twoS, s ∈ pairS := by decide +kernel
  cases p with
  | src n =>
    obtain ⟨a, e, h⟩ := h
    exact ⟨a, [.str n], [], e, h, trivial, by show 1 ≤ 3; decide, fun _ => ⟨n, rfl, rfl, rfl⟩, fun z => absurd rfl z, ⟨fun z => absurd z (by show ¬ (0 = 2); decide), fun z => absurd z (n1 _ (by simp [Pl.head]))⟩, by show 0 ≤ 2; decide⟩
  | stage s p =>
    obtain ⟨a, x, y, e, h, _, g⟩ := h
    exact ⟨a, [x], [y], e, h, ⟨g, trivial⟩, by show 1 ≤ 3; decide, fun z => absurd z (List.cons_ne_nil _ _), fun _ => n2 _ (by simp [Pl.head]), ⟨fun z => absurd z (by show ¬ (1 = 2); decide), fun z => absurd z (n1 _ (by simp [Pl.head]))⟩, by show 1 ≤ 2; decide⟩
  | once p =>
    obtain ⟨a, y, e, h, g⟩ := h
    exact ⟨a, [], [y], e, h, ⟨g, trivial⟩, by decide, fun z => absurd z (List.cons_ne_nil _ _), fun _ => n2 _ (by simp [Pl.head]), ⟨fun z => absurd z (by show ¬ (1 = 2); decide), fun z => absurd z (n1 _ (by simp [Pl.head]))⟩, by show 1 ≤ 2; decide⟩
  | windows i j g p =>
    obtain ⟨a, y, e, h, g⟩ := h
    exact ⟨a, [.int i, .int j, .str _], [y], e, h, ⟨g, trivial⟩, by show 3 ≤ 3; decide, fun z => absurd z (List.cons_ne_nil _ _), fun _ => n2 _ (by simp [Pl.head]), ⟨fun z => absurd z (by show ¬ (1 = 2); decide), fun z => absurd z (n1 _ (by simp [Pl.head]))⟩, by show 1 ≤ 2; decide⟩
  | sittings i g p =>
    obtain ⟨a, y, e, h, g⟩ := h
    exact ⟨a, [.int i, .str _], [y], e, h, ⟨g, trivial⟩, by show 2 ≤ 3; decide, fun z => absurd z (List.cons_ne_nil _ _), fun _ => n2 _ (by simp [Pl.head]), ⟨fun z => absurd z (by show ¬ (1 = 2); decide), fun z => absurd z (n1 _ (by simp [Pl.head]))⟩, by show 1 ≤ 2; decide⟩
  | two w l r =>
    obtain ⟨a, x, y, e, h, hw, g1, g2⟩ := h
    exact ⟨a, [], [x, y], e, h, ⟨g1, g2, trivial⟩, by decide, fun z => absurd z (List.cons_ne_nil _ _), fun _ => n3 _ (n4 _ hw), ⟨fun _ => n4 _ hw, fun _ => rfl⟩, by show 2 ≤ 2; decide⟩
  | near i j c l r =>
    obtain ⟨a, x, y, e, h, g1, g2⟩ := h
    exact ⟨a, [.int i, .int j, .str c], [x, y], e, h, ⟨g1, g2, trivial⟩, by show 3 ≤ 3; decide, fun z => absurd z (List.cons_ne_nil _ _), fun _ => n3 _ (by show ("near" : Str) ∈ pairS; decide +kernel), ⟨fun _ => by show ("near" : Str) ∈ pairS; decide +kernel, fun _ => rfl⟩, by show 2 ≤ 2; decide⟩
/-! ### lists of plans with their levels -/
def FL (H : Hp) : List V → List (Pl × Nat) → Prop
  | [], [] => True
  | x :: xs, q :: qs => (∃ t v, x = .ref t ∧ H t = some (.tup [v, .int (q.2 : Int)]) ∧ PlAt H q.1 v) ∧ FL H xs qs
  | _, _ => False
theorem FL.mono {H H' : Hp} (k : TupUp H H') : ∀ {xs : List V} {qs : List (Pl × Nat)}, FL H xs qs → FL H' xs qs
  | [], [], _ => trivial
  | x :: xs, q :: qs, ⟨⟨t, v, e, h, p⟩, r⟩ => ⟨⟨t, v, e, k _ _ h, p.mono k⟩, r.mono k⟩
theorem FL.len {H : Hp} : ∀ {xs : List V} {qs : List (Pl × Nat)}, FL H xs qs → xs.length = qs.length
  | [], [], _ => rfl
  | x :: xs, q :: qs, ⟨_, r⟩ => by rw [List.length_cons, List.length_cons, r.len]
theorem FL.snoc {H : Hp} {t : Addr} {v : V} {q : Pl × Nat} (h : H t = some (.tup [v, .int (q.2 : Int)])) (hp : PlAt H q.1 v) : ∀ {xs : List V} {qs : List (Pl × Nat)}, FL H xs qs → FL H (xs ++ [.ref t]) (qs ++ [q])
  | [], [], _ => ⟨⟨t, v, rfl, h, hp⟩, trivial⟩
  | x :: xs, q :: qs, ⟨a, r⟩ => ⟨a, FL.snoc h hp r⟩
theorem FL.get {H : Hp} : ∀ {xs : List V} {qs : List (Pl × Nat)} {i : Nat} {x : V}, FL H xs qs → xs[i]? = some x → ∃ q t v, qs[i]? = some q ∧ x = .ref t ∧ H t = some (.tup [v, .int (q.2 : Int)]) ∧ PlAt H q.1 v
  | [], [], _, _, _, e => by simp at e
  | x :: xs, q :: qs, 0, u, ⟨⟨t, v, ex, h, p⟩, r⟩, e => ⟨q, t, v, rfl, (Option.some.inj e).symm.trans ex, h, p⟩
  | x :: xs, q :: qs, i + 1, u, ⟨_, r⟩, e => r.get (i := i) e
/-- the last one apart -/
theorem FL.last {H : Hp} {xs : List V} {qs : List (Pl × Nat)} (h : FL H xs qs) (hn : qs ≠ []) : ∃ q t v, qs = qs.dropLast ++ [q] ∧ xs[xs.length - 1]? = some (.ref t) ∧ H t = some (.tup [v, .int (q.2 : Int)]) ∧ PlAt H q.1 v ∧ FL H xs.dropLast qs.dropLast := by
  induction xs generalizing qs with
  | nil =>
    cases qs with
    | nil => exact absurd rfl hn
    | cons q qs => exact h.elim
  | cons x xs ih =>
    cases qs with
    | nil => exact h.elim
    | cons q qs =>
      obtain ⟨⟨t, v, ex, h1, p⟩, r⟩ := h
      cases qs with
      | nil =>
        cases xs with
        | nil => exact ⟨q, t, v, rfl, by rw [ex]; rfl, h1, p, trivial⟩
        | cons y ys => exact r.elim
      | cons q2 qs =>
        cases xs with
        | nil => exact r.elim
        | cons y ys =>
          obtain ⟨q', t', v', e1, e2, e3, e4, e5⟩ := ih r (List.cons_ne_nil _ _)
          refine ⟨q', t', v', ?_, ?_, e3, e4, ?_⟩
          · rw [List.dropLast_cons_cons, List.cons_append, ← e1]
          · rw [← e2]; rfl
          · exact ⟨⟨t, v, ex, h1, p⟩, e5⟩
/-- what is still in a stack of plans -/
def stackL (ws : List (Pl × Nat)) : List (Pl × Nat) := (ws.map fun q => subs q.2 q.1).flatten
theorem stackL_app (a b : List (Pl × Nat)) : stackL (a ++ b) = stackL a ++ stackL b := by unfold stackL; rw [List.map_append, List.flatten_append]
theorem stackL_one (q : Pl × Nat) : stackL [q] = q :: stackL (q.1.ins.map fun p => (p, q.2 + 1)) := by
  unfold stackL
  rw [List.map_singleton, List.flatten_singleton, subs_eq, List.map_map]
  rfl
def spInputs : Sp := fun vs H Q _ => ∃ (v : V) (p : Pl), vs = [v] ∧ PlAt H p v ∧ ∀ (t : Addr) (us : List V), H t = none → InsAt H p.ins us → Q (.ref t) (upd H t (.tup us))
def spLevels : Sp := fun vs H Q _ => ∃ (v : V) (p : Pl), vs = [v] ∧ PlAt H p v ∧ p.size ≤ 400 ∧ ∀ (f : Addr) (xs : List V) (ps : List (Pl × Nat)) H', Same H H' → H f = none → H' f = some (.lst xs) → FL H' xs ps → ps.Perm (subs 1 p) → Q (.ref f) H'
/-! ### the plans that are drawn -/
def compS : List Str := ["<", "<=", "=", "!=", ">=", ">"]
def keyS : List Str := ["a", "ab", "b", "c"]
def aggS : List Str := ["count", "sum", "least", "greatest"]
def combS : List Str := ["left", "right", "sum", "difference"]
def StOk : Stg → Prop
  | .sift c b => c ∈ compS ∧ -6 ≤ b ∧ b ≤ 6
  | .only ks => ks ≠ [] ∧ ks.Sublist keyS
  | .rekey k => k ∈ (["a", "b", "z"] : List Str)
  | .scale f => -3 ≤ f ∧ f ≤ 2
  | .later d => 0 ≤ d ∧ d ≤ 4
def PlOk (ns : List Str) : Pl → Prop
  | .src n => n ∈ ns
  | .stage s p => StOk s ∧ PlOk ns p
  | .once p => PlOk ns p
  | .windows a b g p => (1 ≤ b ∧ b ≤ 9 ∧ 1 ≤ a ∧ a ≤ 10 * b ∧ g ∈ aggS) ∧ PlOk ns p
  | .sittings a g p => (0 ≤ a ∧ a < 40 ∧ g ∈ aggS) ∧ PlOk ns p
  | .two w l r => w ∈ twoS ∧ PlOk ns l ∧ PlOk ns r
  | .near a b c l r => (0 ≤ a ∧ a < 9 ∧ 0 ≤ b ∧ b < 9 ∧ c ∈ combS) ∧ PlOk ns l ∧ PlOk ns r
theorem ok_srcs {ns : List Str} : ∀ {p : Pl}, PlOk ns p → ∀ z ∈ p.srcs, z ∈ ns
  | .src n, h, z, hz => by rw [List.mem_singleton.mp hz]; exact h
  | .stage _ p, h, z, hz => ok_srcs h.2 z hz
  | .once p, h, z, hz => ok_srcs (p := p) h z hz
  | .windows _ _ _ p, h, z, hz => ok_srcs h.2 z hz
  | .sittings _ _ p, h, z, hz => ok_srcs h.2 z hz
  | .two _ l r, h, z, hz => (List.mem_append.mp hz).elim (ok_srcs h.2.1 z) (ok_srcs h.2.2 z)
  | .near _ _ _ l r, h, z, hz => (List.mem_append.mp hz).elim (ok_srcs h.2.1 z) (ok_srcs h.2.2 z)
def spStage : Sp := fun vs H Q _ => ∃ (d sc : Addr), vs = [.ref d] ∧ Dr sc H d ∧ ∀ v s H', StAt H' s v → StOk s → Dr sc H' d → Up d H H' → Q v H'
def spAgg : Sp := fun vs H Q _ => ∃ (d sc : Addr), vs = [.ref d] ∧ Dr sc H d ∧ ∀ g H', g ∈ aggS → Dr sc H' d → Up d H H' → Q (.str g) H'
def spSpan : Sp := fun vs H Q _ => ∃ (d sc : Addr), vs = [.ref d] ∧ Dr sc H d ∧ ∀ (t : Addr) (a b : Int) H', H' t = some (.tup [.int a, .int b]) → 1 ≤ b → b ≤ 9 → 1 ≤ a → a ≤ 10 * b → Dr sc H' d → Up d H H' → Q (.ref t) H'
def spTree (ns : List Str) (n : Nat) : Sp := fun vs H Q _ => ∃ (d sc : Addr) (size : Int), vs = [.ref d, .int size] ∧ 1 ≤ size ∧ size ≤ n ∧ Dr sc H d ∧
  ∀ v p H', PlAt H' p v → PlOk ns p → (p.size : Int) ≤ size → Dr sc H' d → Up d H H' → Q v H'
end Tf
set_option maxHeartbeats 4000000
namespace Tf
open PySem PySem.Spec PyProof.Rows L2 TL PySem.Builtin PySem.Builtin.Str
/-! ### places of a text -/
theorem drop_get {l w r : List Nat} {p i : Nat} (h : l.drop p = w ++ r) : l[p + i]? = (w ++ r)[i]? := by rw [← h, List.getElem?_drop]
theorem drop_len {l w r : List Nat} {p : Nat} (h : l.drop p = w ++ r) (hw : w ≠ []) : p + w.length + r.length = l.length := by
  have e := congrArg List.length h
  rw [List.length_drop, List.length_append] at e
  have : 0 < w.length := List.length_pos_iff.mpr hw
  omega
theorem drop_add {l w r : List Nat} {p : Nat} (h : l.drop p = w ++ r) : l.drop (p + w.length) = r := by
  rw [← List.drop_drop, h, List.drop_left]
theorem eos_uniq {l w r : List Nat} {p e : Nat} {S : Nat → Prop} (h : l.drop p = w ++ r) (hw : ∀ c ∈ w, S c) (hr : ∀ c, r.head? = some c → ¬ S c) (h1 : p ≤ e) (hl : e ≤ l.length) (hp : p + w.length ≤ l.length)
    (h2 : ∀ i c, p ≤ i → i < e → l[i]? = some c → S c) (h3 : ∀ c, l[e]? = some c → ¬ S c) : e = p + w.length := by
  rcases Nat.lt_trichotomy e (p + w.length) with q | q | q
  · exfalso
    have hlt : e - p < w.length := by omega
    have g : l[e]? = some w[e - p] := by
      have k := drop_get (i := e - p) h
      rw [show p + (e - p) = e by omega, List.getElem?_append_left hlt, List.getElem?_eq_getElem hlt] at k
      exact k
    exact h3 _ g (hw _ (List.getElem_mem hlt))
  · exact q
  · exfalso
    have k := drop_get (i := w.length) h
    rw [List.getElem?_append_right (Nat.le_refl _), Nat.sub_self] at k
    have hlt : p + w.length < l.length := by omega
    rw [List.getElem?_eq_getElem hlt] at k
    have k2 : r.head? = some l[p + w.length] := by rw [List.head?_eq_getElem?]; exact k.symm
    exact hr _ k2 (h2 (p + w.length) _ (by omega) q (List.getElem?_eq_getElem hlt))
/-! ### the alphabets -/
theorem mem_blanks (c : Nat) : c ∈ tl (" \n" : Str) ↔ Bl c := by
  have e : tl (" \n" : Str) = [32, 10] := by decide +kernel
  rw [e]
  unfold Bl
  simp
theorem one_sign (c : Nat) : (⟨#[c]⟩ : Str) = ("-" : Str) ↔ c = 45 := by
  have e : ("-" : Str) = ⟨#[45]⟩ := by decide +kernel
  rw [e]
  constructor
  · intro h
    have := congrArg Str.cps h
    simpa using this
  · intro h; rw [h]
theorem sw_iff {z s : Str} {p : Nat} (hp : p ≤ (tl z).length) : Txt.startswith3 z s (p : Int) = true ↔ ∃ r, (tl z).drop p = tl s ++ r := by
  have e : Txt.startswith3 z s (p : Int) = (decide (p + s.length ≤ z.length) && (((tl z).drop p).take s.length == tl s)) := by
    unfold Txt.startswith3
    have e1 : fromIndex z.length (p : Int) = p := by
      unfold fromIndex
      rw [if_neg (by omega)]
      omega
    rw [e1, PySem.StrLaws.subAt_eq]
  rw [e, Bool.and_eq_true, decide_eq_true_iff, beq_iff_eq]
  have hs := len_tl s
  have hz := len_tl z
  constructor
  · rintro ⟨h1, h2⟩
    exact ⟨((tl z).drop p).drop s.length, by rw [← h2]; exact (List.take_append_drop _ _).symm⟩
  · rintro ⟨r, h⟩
    have k := congrArg List.length h
    rw [List.length_drop, List.length_append] at k
    refine ⟨by omega, ?_⟩
    rw [h, hs, List.take_left]
theorem sg_f1 : ∀ a ∈ sgL, a.length = 1 ∨ (a.length = 2 ∧ a.getLast? = some 61) := by decide
theorem sg_f2 : ∀ i < 10, ∀ k < 10, i ≤ k → (sgL.getD i []).length = 1 → (sgL.getD k []).length = 1 := by decide
theorem sg_f3 : ∀ a ∈ sgL, ∀ w ∈ sgL, a.length = 2 → w.length = 1 → a.head? = w.head? → (w = [60] ∨ w = [62]) := by decide
theorem sg_pref {i k : Nat} {a w r r' : List Nat} (hik : i ≤ k) (ha : sgL[i]? = some a) (hw : sgL[k]? = some w) (e : a ++ r' = w ++ r) : a = w ∨ ((w = [60] ∨ w = [62]) ∧ r.head? = some 61) := by
  have ma : a ∈ sgL := List.mem_of_getElem? ha
  have mw : w ∈ sgL := List.mem_of_getElem? hw
  have hk : k < 10 := (List.getElem?_eq_some_iff.mp hw).1
  have da : sgL.getD i [] = a := by rw [List.getD_eq_getElem?_getD, ha]; rfl
  have dw : sgL.getD k [] = w := by rw [List.getD_eq_getElem?_getD, hw]; rfl
  rcases sg_f1 a ma with la | ⟨la, ga⟩ <;> rcases sg_f1 w mw with lw | ⟨lw, gw⟩
  · exact .inl (List.append_inj e (la.trans lw.symm)).1
  · have := sg_f2 i (by omega) k hk hik (by rw [da]; exact la)
    rw [dw] at this
    omega
  · right
    match a, w, la, lw, e, ma, mw, ga with
    | [x, y], [u], _, _, e, ma, mw, ga =>
      have e1 : x = u := by injection e
      have e2 : y :: r' = r := by injection e
      refine ⟨sg_f3 _ ma _ mw rfl rfl (by rw [e1]; rfl), ?_⟩
      rw [← e2]
      exact ga
  · exact .inl (List.append_inj e (la.trans lw.symm)).1
theorem sg_head : ∀ a ∈ sgL, ∀ c, a.head? = some c → ¬ Lt c ∧ ¬ Dg c ∧ c ≠ 45 ∧ ¬ Bl c := by
  intro a ha
  have f : ∀ a ∈ sgL, ∀ c ∈ a.head?.toList, ¬ Lt c ∧ ¬ Dg c ∧ c ≠ 45 ∧ ¬ Bl c := by decide
  intro c hc
  exact f a ha c (by rw [hc]; exact List.mem_singleton.mpr rfl)
theorem Tok1.head {w r : List Nat} {kind : Str} (h : Tok1 w r kind) {c : Nat} (hc : w.head? = some c) : ¬ Bl c := by
  have hm : c ∈ w := List.mem_of_head? hc
  cases h with
  | word h hw hr => exact fun b => (bl_not b).1 (hw c hm)
  | num h hd hr hw =>
    rcases hw with e | e
    · rw [e] at hm
      exact fun b => (bl_not b).2.1 (hd c hm)
    · rw [e] at hc
      have e2 : (45 : Nat) = c := Option.some.inj hc
      subst e2
      decide
  | sign h hr => exact (sg_head w h c hc).2.2.2
theorem lex_inv {p : Nat} {l : List Nat} {d : List Tk} (h : Lex p l d) (hl : l ≠ []) :
    (∃ c r, l = c :: r ∧ Bl c ∧ Lex (p + 1) r d) ∨ ∃ w r kind v d', l = w ++ r ∧ Tok1 w r kind ∧ TokVal kind w v ∧ Lex (p + w.length) r d' ∧ d = (kind, v, p) :: d' := by
  cases h with
  | nil => exact absurd rfl hl
  | blank h k => exact .inl ⟨_, _, rfl, h, k⟩
  | tok h hv k => exact .inr ⟨_, _, _, _, _, rfl, h, hv, k, rfl⟩
theorem lex_end {p : Nat} {d : List Tk} (h : Lex p [] d) : d = [] := by
  generalize e : ([] : List Nat) = l at h
  cases h with
  | nil => rfl
  | blank h k => cases e
  | tok h hv k => exact absurd (List.append_eq_nil_iff.mp e.symm).1 h.ne
theorem cut_at {z : Str} {p : Nat} {w r : List Nat} (h : (tl z).drop p = w ++ r) (hw : w ≠ []) : cutS z (some (p : Int)) (some ((p + w.length : Nat) : Int)) = ⟨w.toArray⟩ := by
  have k := drop_len h hw
  have hz := len_tl z
  refine ext_tl ?_
  unfold cutS
  rw [tl_mk, tl_mk, HT.sIx_nat, HT.sIx_nat, show min p z.length = p by omega, show min (p + w.length) z.length = p + w.length by omega, show p + w.length - p = w.length by omega]
  show List.take w.length ((tl z).drop p) = w
  rw [h, List.take_left]
/-! ### lists of tokens in the heap -/
def TkL (H : Hp) : List V → List Tk → Prop
  | [], [] => True
  | x :: xs, t :: ts => (∃ p, x = .ref p ∧ H p = some (.tup [.str t.1, t.2.1, .int t.2.2])) ∧ TkL H xs ts
  | _, _ => False
theorem TkL.mono {H H' : Hp} (k : ∀ p xs, H p = some (.tup xs) → H' p = some (.tup xs)) : ∀ {xs : List V} {ts : List Tk}, TkL H xs ts → TkL H' xs ts
  | [], [], _ => trivial
  | x :: xs, t :: ts, ⟨⟨p, e, h⟩, r⟩ => ⟨⟨p, e, k _ _ h⟩, r.mono k⟩
theorem TkL.snoc {H : Hp} {p : Addr} {t : Tk} (hp : H p = some (.tup [.str t.1, t.2.1, .int t.2.2])) : ∀ {xs : List V} {ts : List Tk}, TkL H xs ts → TkL H (xs ++ [.ref p]) (ts ++ [t])
  | [], [], _ => ⟨⟨p, rfl, hp⟩, trivial⟩
  | x :: xs, u :: ts, ⟨h, r⟩ => ⟨h, TkL.snoc hp r⟩
theorem TkL.len {H : Hp} : ∀ {xs : List V} {ts : List Tk}, TkL H xs ts → xs.length = ts.length
  | [], [], _ => rfl
  | x :: xs, t :: ts, ⟨_, r⟩ => by rw [List.length_cons, List.length_cons, r.len]
theorem tup_upd {H : Hp} {a : Addr} {o : HO} (h : ∀ xs, H a ≠ some (.tup xs)) : ∀ p xs, H p = some (.tup xs) → upd H a o p = some (.tup xs) := fun p xs e => by
  rw [upd_ne (fun q => h xs (by rw [← q]; exact e))]
  exact e
/-! ### the promises of tidefold.tokens -/
def spEos : Sp := fun vs H Q _ => ∃ (z cs : Str) (p : Nat), vs = [.str z, .int (p : Int), .str cs] ∧ p ≤ (tl z).length ∧ z.length ≤ sizeLine ∧
  ∀ e : Nat, p ≤ e → e ≤ (tl z).length → (∀ i c, p ≤ i → i < e → (tl z)[i]? = some c → c ∈ tl cs) → (∀ c, (tl z)[e]? = some c → c ∉ tl cs) → Q (.int (e : Int)) H
def spTokAt : Sp := fun vs H Q _ => ∃ (z : Str) (p : Nat) (w r : List Nat) (kind : Str), vs = [.str z, .int (p : Int)] ∧ (tl z).drop p = w ++ r ∧ Tok1 w r kind ∧ z.length ≤ sizeLine ∧
  ∀ t, H t = none → Q (.ref t) (upd H t (.tup [.str kind, .int ((p + w.length : Nat) : Int)]))
def spTokens : Sp := fun vs H Q _ => ∃ (z : Str) (due : List Tk), vs = [.str z] ∧ Lex 0 (tl z) due ∧ z.length ≤ 1000 ∧
  ∀ a xs H', H a = none → Same H H' → H' a = some (.lst xs) → TkL H' xs due → Q (.ref a) H'
end Tf
set_option maxHeartbeats 4000000
namespace Tf
open PySem PySem.Spec PyProof.Rows L2 TL
/-! ### reading plans: a machine over tokens -/
/-- a part of a stage or of a pair -/
inductive Pv
  | s (z : Str)
  | i (n : Int)
  | ks (l : List Str)
abbrev Num := Str × Int × Nat
def partsOf : List (Str × List Str) := [("sift", ["comparison", "bound"]), ("only", ["names"]), ("rekey", ["name"]), ("scale", ["factor"]), ("later", ["delay"]), ("once", []), ("windows", ["size", "slide", "aggregate"]),
  ("sittings", ["gap", "aggregate"]), ("both", []), ("less", []), ("without", []), ("near", ["before", "after", "combination"])]
def gramS : List Str := partsOf.map (·.1) ++ (aggS ++ combS)
def IsName (t : Tk) (n : Str) : Prop := t.1 = ("word" : Str) ∧ t.2.1 = V.str n ∧ n.length ≤ 8 ∧ n ∉ gramS
def NoName (t : Tk) : Prop := ∀ n, ¬ IsName t n
def endTk (p : Nat) : Tk := ("end", .str "", p)
def numS : List Str := ["bound", "factor", "delay", "size", "slide", "gap", "before", "after"]
def NamesR : List Tk → List Str → Prop
  | [], [] => True
  | t :: ts, n :: ns => IsName t n ∧ NamesR ts ns
  | _, _ => False
/-- how a part is read: the tokens of it, ahead of the rest -/
inductive PartR (part : Str) : List Tk → List Tk → Pv → List Num → Prop
  | cmp {t r c} (e : part = "comparison") (h : t.2.1 = V.str c) (m : c ∈ compS) : PartR part (t :: r) r (.s c) []
  | agg {t r c} (e : part = "aggregate") (h : t.2.1 = V.str c) (m : c ∈ aggS) : PartR part (t :: r) r (.s c) []
  | comb {t r c} (e : part = "combination") (h : t.2.1 = V.str c) (m : c ∈ combS) : PartR part (t :: r) r (.s c) []
  | name {t r n} (e : part = "name") (h : IsName t n) : PartR part (t :: r) r (.s n) []
  | names {t ts r n} {ns ks : List Str} (e : part = "names") (h0 : IsName t n) (h : NamesR ts ns) (hl : ns.length ≤ 50) (hr : ∃ u r', r = u :: r' ∧ NoName u) (hu : ∀ ys : List Str, sortedS ys = true → ys.Nodup → (∀ z, z ∈ ys ↔ z ∈ n :: ns) → ys = ks) : PartR part (t :: (ts ++ r)) r (.ks ks) []
  | num {t r i} (m : part ∈ numS) (hk : t.1 = ("number" : Str)) (h : t.2.1 = V.int i) : PartR part (t :: r) r (.i i) [(part, i, t.2.2)]
inductive PartsR : List Str → List Tk → List Tk → List Pv → List Num → Prop
  | nil {r} : PartsR [] r r [] []
  | cons {p ps a b c v vs n ns} (h : PartR p a b v n) (k : PartsR ps b c vs ns) : PartsR (p :: ps) a c (v :: vs) (n ++ ns)
/-- what a word and its parts make of a plan -/
inductive ApR (w : Str) : List Pv → Pl → Pl → Prop
  | sift {c b p} (e : w = "sift") : ApR w [.s c, .i b] p (.stage (.sift c b) p)
  | only {ks p} (e : w = "only") : ApR w [.ks ks] p (.stage (.only ks) p)
  | rekey {k p} (e : w = "rekey") : ApR w [.s k] p (.stage (.rekey k) p)
  | scale {f p} (e : w = "scale") : ApR w [.i f] p (.stage (.scale f) p)
  | later {d p} (e : w = "later") : ApR w [.i d] p (.stage (.later d) p)
  | once {p} (e : w = "once") : ApR w [] p (.once p)
  | windows {a b g p} (e : w = "windows") : ApR w [.i a, .i b, .s g] p (.windows a b g p)
  | sittings {a g p} (e : w = "sittings") : ApR w [.i a, .s g] p (.sittings a g p)
inductive PrR (w : Str) : List Pv → Pl → Pl → Pl → Prop
  | two {l r} (h : w ∈ twoS) : PrR w [] l r (.two w l r)
  | near {a b c l r} (e : w = "near") : PrR w [.i a, .i b, .s c] l r (.near a b c l r)
def stageS : List Str := ["sift", "only", "rekey", "scale", "later"]
def singleS : List Str := ["once", "windows", "sittings"]
/-- a parenthesis that is not closed -/
inductive Fm
  | par
  | comma (w : Str) (vs : List Pv)
  | second (w : Str) (vs : List Pv) (l : Pl)
/-- what is still read, from a place on, with a plan in hand or none: it ends with this plan and these numbers -/
inductive Rd (P : Pl) (M : List Num) (e : Tk) : Option Pl → List Tk → List Fm → List Num → Prop
  | par {t r S N} (hk : t.1 = ("sign" : Str)) (h : t.2.1 = V.str "(") (k : Rd P M e none r (.par :: S) N) : Rd P M e none (t :: r) S N
  | pair {t r1 t2 r w vs n ps S N} (h : t.2.1 = V.str w) (m : w ∈ pairS) (hp : (w, ps) ∈ partsOf) (hr : PartsR ps r1 (t2 :: r) vs n) (h2 : t2.2.1 = V.str "(") (k : Rd P M e none r (.comma w vs :: S) (N ++ n)) : Rd P M e none (t :: r1) S N
  | name {t r n S N} (h : IsName t n) (k : Rd P M e (some (.src n)) r S N) : Rd P M e none (t :: r) S N
  | bar {t t1 r1 r w vs n ps p p' S N} (hk : t.1 = ("sign" : Str)) (h : t.2.1 = V.str "|") (h1 : t1.2.1 = V.str w) (m : w ∈ stageS ++ singleS) (hp : (w, ps) ∈ partsOf) (hr : PartsR ps r1 r vs n) (a : ApR w vs p p') (k : Rd P M e (some p') r S (N ++ n)) : Rd P M e (some p) (t :: t1 :: r1) S N
  | close {t r p S N} (h : t.2.1 = V.str ")") (k : Rd P M e (some p) r S N) : Rd P M e (some p) (t :: r) (.par :: S) N
  | comma {t r p w vs S N} (h : t.2.1 = V.str ",") (k : Rd P M e none r (.second w vs p :: S) N) : Rd P M e (some p) (t :: r) (.comma w vs :: S) N
  | second {t r p q w vs l S N} (h : t.2.1 = V.str ")") (a : PrR w vs l p q) (k : Rd P M e (some q) r S N) : Rd P M e (some p) (t :: r) (.second w vs l :: S) N
  | done (h1 : e.1 = ("end" : Str)) : Rd P M e (some P) [e] [] M
end Tf
set_option maxHeartbeats 4000000
namespace Tf
open PySem PySem.Spec PyProof.Rows L2
/-! ### sets over any kind of keys, whose tables can be walked -/
section
variable {P : Program} {w : World} {α : Type} [DecidableEq α]
/-- no key twice; the places rise; the order is the text's or led -/
structure Tidy (knd : PySem.KeyKind P w α) (es : Array (Int × Value)) (t : SetTable) : Prop where
  els : ElemsOf knd es.toList
  one : es.toList.Pairwise fun e f => ∀ k, ¬ (knd.is k e.2 = true ∧ knd.is k f.2 = true)
  few : es.size < scanBound
  fit : t.fits es.size = true
  ris : Ris t.place.toList
  led : w.params.followText "set-order" = true ∨ t.led = true
def SetX (knd : PySem.KeyKind P w α) (h : Heap) (a : Addr) (S : α → Bool) (n : Nat) : Prop :=
  ∃ o es ep t, (h.get? a = some o ∧ o.ExactSet ∧ o.data = .set es ep t) ∧ (∀ k, S k = true ↔ ∃ e ∈ es.toList, knd.is k e.2 = true) ∧ es.size = n ∧ Tidy knd es t
variable {knd : PySem.KeyKind P w α} {A : Around} {E : Value → Shared → Prop} {s : Shared} {a : Addr} {S : α → Bool} {n : Nat}
theorem SetX.plain {h : Heap} (R : SetX knd h a S n) : h.SetOf knd a S n := by
  obtain ⟨o, es, ep, t, ⟨h1, h2, h3⟩, h4, h5, T⟩ := R
  exact ⟨o, es, ep, t, h1, h2, h3, T.els, h4, T.few, T.fit, h5⟩
theorem SetX.at {h h' : Heap} (R : SetX knd h a S n) (k : ∀ o, h.get? a = some o → h'.get? a = some o) : SetX knd h' a S n := by
  obtain ⟨o, es, ep, t, ⟨h1, h2⟩, r⟩ := R
  exact ⟨o, es, ep, t, ⟨k o h1, h2⟩, r⟩
/-- where a tidy table is stored, the set is what its members say -/
theorem storeX {o : Obj} {es es' : Array (Int × Value)} {ep : Nat} {t t' : SetTable} {S' : α → Bool} {Q : Unit → Shared → Prop} (ho : s.heap.get? a = some o) (hx : o.ExactSet) (hd : o.data = .set es ep t) (T : Tidy knd es' t')
    (hS : ∀ k, S' k = true ↔ ∃ e ∈ es'.toList, knd.is k e.2 = true)
    (q : ∀ h' : Heap, Heap.SameBut a s.heap h' → (∃ o', h'.get? a = some o' ∧ o'.ExactSet ∧ ∃ ep', o'.data = .set es' ep' t') → SetX knd h' a S' es'.size → Q () { s with heap := h' }) : wpAny (model P w) A (storeSet a es' t') Q E s := by
  have g : (s.heap.update a (Obj.putSet es' t')).get? a = some (Obj.putSet es' t' o) := Heap.get?_update_self _ ho (by rw [putSet_of es' t' hd] <;> rfl)
  rw [putSet_of es' t' hd] at g
  exact wpAny_storeSet_of ho hd (q _ (Heap.SameBut.update s.heap a _) ⟨_, g, hx, _, rfl⟩ ⟨_, es', _, t', ⟨g, hx, rfl⟩, hS, rfl, T⟩) (fits_of_scanBound T.few)
theorem Tidy.perm {es es' : Array (Int × Value)} {t t' : SetTable} (T : Tidy knd es t) (p : es'.toList.Perm es.toList) (f : t'.fits es'.size = true) (r : Ris t'.place.toList) (l : t'.led = t.led) : Tidy knd es' t' :=
  ⟨fun e he => T.els e (p.mem_iff.mp he), (p.pairwise_iff (fun {x y} h k z => h k ⟨z.2, z.1⟩)).mpr T.one, by rw [← Array.length_toList, p.length_eq, Array.length_toList]; exact T.few, f, r, T.led.imp id fun z => l.trans z⟩
/-- the store of an addition: at once, and once more where the table is too full -/
theorem tailX {g : Bool → Sem Unit} (hg : ∀ (b : Bool) (s1 : Shared) (Q1 : Unit → Shared → Prop), Q1 () s1 → wpAny (model P w) A (g b) Q1 E s1) {o : Obj} {es es1 : Array (Int × Value)} {ep : Nat} {t t1 : SetTable} {S' : α → Bool} {dm : Bool} {R : Option Bool → Shared → Prop}
    (ho : s.heap.get? a = some o) (hx : o.ExactSet) (hd : o.data = .set es ep t) (T : Tidy knd es1 t1) (hS : ∀ k, S' k = true ↔ ∃ e ∈ es1.toList, knd.is k e.2 = true)
    (q : ∀ h' : Heap, Heap.SameBut a s.heap h' → SetX knd h' a S' es1.size → R (some true) { s with heap := h' }) :
    wpAny (model P w) A (storeSet a es1 t1 >>= fun _ => if (!dm && t1.tooFull) = true then (g (relayAll t1 es1 (SetTable.grown es1.size)).2.2 >>= fun _ => storeSet a (relayAll t1 es1 (SetTable.grown es1.size)).1 (relayAll t1 es1 (SetTable.grown es1.size)).2.1 >>= fun _ => pure (some true)) else pure (some true)) R E s := by
  refine wpAny_bind (storeX ho hx hd T hS fun h' sb ⟨o', g1, g2, ep', g3⟩ K => ?_)
  split
  · have p2 := relayAll_perm t1 es1 (SetTable.grown es1.size)
    have T2 := T.perm p2 (relayAll_fits t1 es1 _) (relayAll_ris t1 es1 _) (relayAll_led t1 es1 _)
    have z : (relayAll t1 es1 (SetTable.grown es1.size)).1.size = es1.size := by rw [← Array.length_toList, p2.length_eq, Array.length_toList]
    refine wpAny_bind (hg _ _ _ (wpAny_bind (storeX g1 g2 g3 T2 (fun k => (hS k).trans ⟨fun ⟨e, he, y⟩ => ⟨e, p2.mem_iff.mpr he, y⟩, fun ⟨e, he, y⟩ => ⟨e, p2.mem_iff.mp he, y⟩⟩) fun h2 sb2 _ K2 => wpAny_pure ?_)))
    rw [z] at K2
    exact q h2 (sb.trans sb2) K2
  · exact wpAny_pure (q h' sb K)
theorem addX {k : α} {v : Value} {Q : Bool → Shared → Prop} (hk : knd.is k v = true) (hv : v.scannable = true) (R : SetX knd s.heap a S n) (room : n + 1 < scanBound)
    (q : ∀ h', Heap.SameBut a s.heap h' → SetX knd h' a (fun j => S j || decide (j = k)) (if S k = true then n else n + 1) → Q (!S k) { s with heap := h' }) : wpAny (model P w) A (setAddHashed a v (knd.hash k)) Q E s := by
  obtain ⟨o, es, ep, t, ⟨ho, hx, hd⟩, hS, hn, T⟩ := id R
  unfold setAddHashed setAddHashedIn
  refine wpAny_holding (wpAny_bind (wpAny_setState_of ho hd T.fit ?_))
  dsimp only
  rw [byScan_of hv T.few T.els]
  simp only [↓reduceIte]
  unfold setAddByScan
  refine wpAny_bind (wpAny_bind (wpAny_rule (wpAny_bind (wpAny_setScan_of hk ho hd T.fit T.els ?_))))
  cases hf : List.findIdx? (fun e => knd.is k e.2) es.toList with
  | some j =>
    dsimp only
    obtain ⟨hj, pj, _⟩ := List.findIdx?_eq_some_iff_getElem.mp hf
    have hSk : S k = true := (hS k).mpr ⟨_, List.getElem_mem hj, pj⟩
    have e : (fun j => S j || decide (j = k)) = S := by
      funext i
      cases q : S i with
      | true => rfl
      | false =>
        show (false || decide (i = k)) = false
        rw [Bool.false_or]
        exact decide_eq_false fun z => by rw [z, hSk] at q; cases q
    have q' := q s.heap (Heap.SameBut.refl a s.heap) (by rw [e, if_pos hSk]; exact R)
    rw [hSk] at q'
    exact wpAny_pure (wpAny_pure q')
  | none =>
    dsimp only
    have no : ∀ e ∈ es.toList, knd.is k e.2 = false := fun e he => List.findIdx?_eq_none_iff.mp hf e he
    have hSk : S k = false := by
      cases q : S k with
      | false => rfl
      | true =>
        obtain ⟨e, he, z⟩ := (hS k).mp q
        rw [no e he] at z
        cases z
    have p1 := layNew_perm t es (knd.hash k) v
    have f1 := layNew_fits t es (knd.hash k) v
    have r1 := layNew_ris t es (knd.hash k) v T.ris
    have l1 := layNew_led t es (knd.hash k) v
    generalize layNew t es (knd.hash k) v = Z at p1 f1 r1 l1 ⊢
    obtain ⟨es1, t1, dm, gv⟩ := Z
    dsimp only at p1 f1 r1 l1 ⊢
    rw [Array.toList_push] at p1
    have pc : es1.toList.Perm ((knd.hash k, v) :: es.toList) := p1.trans (List.perm_append_singleton _ _)
    have hz : es1.size = n + 1 := by rw [← Array.length_toList, pc.length_eq, List.length_cons, Array.length_toList, hn]
    have T1 : ∀ t2 : SetTable, t2.fits es1.size = true → Ris t2.place.toList → t2.led = t.led → Tidy knd es1 t2 := fun t2 a1 a2 a3 => by
      refine ⟨fun e he => ?_, (pc.pairwise_iff (fun {x y} h k z => h k ⟨z.2, z.1⟩)).mpr (List.pairwise_cons.mpr ⟨fun e he i z => ?_, T.one⟩), by rw [hz]; exact room, a1, a2, T.led.imp id fun z => a3.trans z⟩
      · rcases List.mem_cons.mp (pc.mem_iff.mp he) with z | z
        · rw [z]; exact ⟨⟨k, hk, rfl⟩, hv⟩
        · exact T.els e z
      · have ei : k = i := knd.inj v k i hk z.1
        rw [← ei, no e he] at z
        exact absurd z.2 Bool.false_ne_true
    have S1 : ∀ i, (S i || decide (i = k)) = true ↔ ∃ e ∈ es1.toList, knd.is i e.2 = true := fun i => by
      rw [Bool.or_eq_true, decide_eq_true_eq, hS i]
      constructor
      · rintro (⟨e, he, z⟩ | rfl)
        · exact ⟨e, pc.mem_iff.mpr (List.mem_cons_of_mem _ he), z⟩
        · exact ⟨_, pc.mem_iff.mpr (List.mem_cons_self ..), hk⟩
      · rintro ⟨e, he, z⟩
        rcases List.mem_cons.mp (pc.mem_iff.mp he) with y | y
        · rw [y] at z; exact .inr (knd.inj v i k z hk)
        · exact .inl ⟨e, y, z⟩
    have fin : ∀ h', Heap.SameBut a s.heap h' → SetX knd h' a (fun j => S j || decide (j = k)) es1.size → Q true { s with heap := h' } := fun h' sb K => by
      have q' := q h' sb
      rw [hSk] at q'
      rw [hz] at K
      exact q' K
    have pass : ∀ (b : Bool) (s1 : Shared) (Q1 : Unit → Shared → Prop), Q1 () s1 → wpAny (model P w) A (match b with | true => rule "set.scan.the-table-gave-way" | false => pure ()) Q1 E s1 := fun b s1 Q1 y => by
      cases b
      · exact wpAny_pure y
      · exact wpAny_rule y
    refine wpAny_bind (pass gv _ _ ?_)
    split
    · refine wpAny_bind ?_
      rw [hashByValue_scannable 8 hv]
      refine wpAny_pure (tailX pass ho hx hd (T1 _ ?_ ?_ ?_) S1 fun h' sb K => wpAny_pure (fin h' sb K))
      · split
        · exact f1
        · exact SetTable.fits_plain_off f1
      · split <;> exact r1
      · split <;> exact l1
    · refine wpAny_bind (wpAny_pure ?_)
      exact tailX pass ho hx hd (T1 _ f1 r1 l1) S1 fun h' sb K => wpAny_pure (fin h' sb K)
/-- set.add of one more key -/
theorem callAddX {k : α} {v : Value} {Q : Value → Shared → Prop} (hk : knd.is k v = true) (hv : v.scannable = true) (R : SetX knd s.heap a S n) (room : n + 1 < scanBound)
    (q : ∀ h', Heap.SameBut a s.heap h' → SetX knd h' a (fun j => S j || decide (j = k)) (if S k = true then n else n + 1) → Q .none { s with heap := h', toks := s.toks + 1 }) : wpAny (model P w) A (call (.builtin "set.add") [.ref a, v]) Q E s := by
  refine wpAny_call_entry F.slot_set_add R.plain.typeIs F.entry_set_add ?_ (F.args_set_add_2 _ _)
  unfold Builtin.«set.add» Builtin.Frozenset.oneOther Builtin.Frozenset.addrOf setAdd
  simp only [List.isEmpty_nil, bind_assoc]
  refine wpAny_bind (wpAny_pure (wpAny_bind (wpAny_pure ?_)))
  refine wpAny_bind (wpAny_holding (wpAny_bind (knd.pyHash hk (addX (s := { s with toks := s.toks + 1 }) hk hv R room fun h' sb K => ?_))))
  exact wpAny_pure ⟨_, rfl, q h' sb K⟩
theorem freshX {h : Heap} : SetX knd (h.push { cls := .type "set", dict := none, data := .set #[] 0 (.fresh 0 0 (!w.params.followText "set-order")) }) h.objs.size (fun _ => false) 0 := by
  refine ⟨_, #[], 0, _, ⟨Heap.get?_push_size _ rfl, ⟨rfl, rfl, rfl⟩, rfl⟩, fun k => by simp, rfl, fun e he => by simp at he, List.Pairwise.nil, by decide, rfl, List.Pairwise.nil, ?_⟩
  show _ ∨ (!w.params.followText "set-order") = true
  cases w.params.followText "set-order"
  · exact .inr rfl
  · exact .inl rfl
end
/-! ### sorted(s), s a set of texts -/
section
variable {P : Program} {w : World} {A : Around} {E : Value → Shared → Prop} {s : Shared} {a : Addr} {S : Str → Bool} {n : Nat}
def txt : Value → Str
  | .str z _ => z
  | _ => Str.empty
theorem txt_is {z : Str} {v : Value} (h : (PySem.strKind P w).is z v = true) : txt v = z ∧ ∃ t, v = .str z t := by
  obtain ⟨t, e⟩ := Value.isStrOf_shape (show Value.isStrOf z v = true from h)
  exact ⟨by rw [e]; rfl, t, e⟩
theorem strs_of : ∀ {vs : List Value}, (∀ v ∈ vs, ∃ z t, v = Value.str z t) → StrsAre vs (vs.map txt)
  | [], _ => .nil
  | v :: r, h => by
    obtain ⟨z, t, e⟩ := h v (List.mem_cons_self ..)
    rw [e]
    exact .cons z t (strs_of fun u hu => h u (List.mem_cons_of_mem _ hu))
theorem sortX {Q : Value → Shared → Prop} (R : SetX (PySem.strKind P w) s.heap a S n) (hh : A.handled = none) (h64 : n < 64)
    (q : ∀ s' p (out : Array Value) (c : Nat) (ys : List Str), (∀ b o, s.heap.get? b = some o → s'.heap.get? b = some o) → s'.gens = s.gens → s'.os = s.os → s.heap.objs.size ≤ p → s'.heap.get? p = some (seqObj "list" out c) →
      StrsAre out.toList ys → sortedS ys = true → ys.Nodup → ys.length = n → (∀ k, k ∈ ys ↔ S k = true) → Q (.ref p) s') : wpAny (model P w) A (call (.builtin "sorted") [.ref a]) Q E s := by
  obtain ⟨o, es, ep, t, ⟨ho, hx, hd⟩, hS, hn, T⟩ := R
  refine Calls.call_function_entry kind_sorted plain_sorted entry_sorted (args_sorted1 _) ?_
  unfold Builtin.«sorted»
  refine wpAny_bind (m := checkCount "sorted" 1 1 _) (wpAny_pure (wpAny_bind (collect_set (A := A.in1) hh ⟨o, ho, hx.1, hd⟩ T.fit T.few T.ris T.led fun s1 vs k1 z1 g1 o1 pm => ?_)))
  have hl : vs.length = n := by rw [pm.length_eq, List.length_map, Array.length_toList]; exact hn
  have key : ∀ e ∈ es.toList, ∃ z t, e.2 = Value.str z t := fun e he => by
    obtain ⟨⟨k, hk, _⟩, _⟩ := T.els e he
    obtain ⟨_, t, e⟩ := txt_is hk
    exact ⟨k, t, e⟩
  have hvs : StrsAre vs (vs.map txt) := strs_of fun v hv => by
    obtain ⟨e, he, rfl⟩ := List.mem_map.mp (pm.mem_iff.mp hv)
    exact key e he
  have pz : (vs.map txt).Perm (es.toList.map fun e => txt e.2) := by
    have z := pm.map txt
    rwa [List.map_map] at z
  have nd : (es.toList.map fun e => txt e.2).Nodup := by
    refine List.pairwise_map.mpr (T.one.imp_of_mem fun {x y} hxm hym z e => ?_)
    obtain ⟨⟨k, hk, _⟩, _⟩ := T.els x hxm
    obtain ⟨⟨i, hi, _⟩, _⟩ := T.els y hym
    rw [(txt_is hk).1, (txt_is hi).1] at e
    exact z k ⟨hk, by rw [e]; exact hi⟩
  have mem : ∀ k, k ∈ (es.toList.map fun e => txt e.2) ↔ S k = true := fun k => by
    rw [List.mem_map, hS k]
    constructor
    · rintro ⟨e, he, rfl⟩
      obtain ⟨⟨i, hi, _⟩, _⟩ := T.els e he
      exact ⟨e, he, by rw [(txt_is hi).1]; exact hi⟩
    · rintro ⟨e, he, z⟩
      exact ⟨e, he, (txt_is z).1⟩
  refine wpAny_bind (wpAny_newList ?_ (by rw [hl, sizeLine_eq]; omega))
  have hoL : (s1.heap.push (seqObj "list" vs.toArray 0)).get? s1.heap.objs.size = some (seqObj "list" vs.toArray 0) := Heap.get?_push_size _ rfl
  refine wpAny_bind (wpAny_holding (wpAny_call_entry slot_list_sort ⟨_, hoL, rfl⟩ entry_list_sort (list_sort_treeK strKind_oneLt hoL hvs.keysOf (fun v₁ v₂ rest e => keyKind_strs (by rw [← e]; exact hvs)) (by rw [hl]; exact h64) fun st' hp hs => ⟨_, rfl, ?_⟩) (args_list_sort _)))
  obtain ⟨ys, y1, y2, y3⟩ := sorted_out_str hvs hp hs
  generalize (arrOf st').map (·.2) = out at y1
  obtain ⟨c, hc⟩ := sortedHeap_at (vs := vs) (out := out) hoL
  have py := y2.trans pz
  refine wpAny_pure ⟨_, rfl, q _ s1.heap.objs.size out c ys (fun b u e => ?_) g1 o1 z1 hc y1 y3 (py.nodup_iff.mpr nd) (by rw [y2.length_eq, List.length_map]; exact hl) fun k => by rw [py.mem_iff]; exact mem k⟩
  have e1 := k1 b u e
  have lt := Heap.lt_size e1
  show (sortedHeap (s1.heap.push (seqObj "list" vs.toArray 0)) s1.heap.objs.size vs out).get? b = some u
  rw [sortedHeap_old (Nat.ne_of_lt lt) (by rw [size_push']; exact Nat.lt_succ_of_lt lt)]
  exact Heap.get?_push_of_some _ e1
end
/-! ### as tracked things -/
/-- the set of texts at a -/
def SetT (P : Program) (w : World) (a : Addr) (S : Str → Bool) (n : Nat) : HO := .ext fun h => SetX (PySem.strKind P w) h a S n
theorem setT_new {P : Program} {w : World} {H : Hp} {h : Heap} {a : Addr} {S : Str → Bool} {n : Nat} (R : SetX (PySem.strKind P w) h a S n) : ObjOk P w H h a (SetT P w a S n) := by
  have ⟨o, _, _, _, ⟨ho, _⟩, _⟩ := R
  exact ⟨R, ⟨o, ho⟩, fun _ _ q k => SetX.at q k⟩
section
variable {X : Cx} {pins : List (Addr × Obj)} {σ : L2.St} {H : Hp} {s : Shared} {E : Value → Shared → Prop}
theorem setT_get {a : Addr} {S : Str → Bool} {n : Nat} (I : Inv X pins σ H s) (ha : H a = some (SetT X.prog X.w a S n)) : SetX (PySem.strKind X.prog X.w) s.heap a S n := (I.hok a _ ha).1
theorem addT {D : Addr} {S : Str → Bool} {n : Nat} {z : Str} {tk : Tok} {Q : Value → Shared → Prop} (I : Inv X pins σ H s) (hD : H D = some (SetT X.prog X.w D S n)) (room : n + 1 < scanBound)
    (h : ∀ s', Inv X pins σ (upd H D (SetT X.prog X.w D (fun j => S j || decide (j = z)) (if S z = true then n else n + 1))) s' → Q .none s') : wpAny (model X.prog X.w) X.A (call (.builtin "set.add") [.ref D, .str z tk]) Q E s := by
  refine callAddX (knd := PySem.strKind X.prog X.w) (k := z) (strKind_is _ _ _ _) rfl (setT_get I hD) room fun h' sb K => ?_
  have ⟨o, _, _, _, ⟨ho, _⟩, _⟩ := K
  exact h _ (I.write (e := D) (t' := s.toks + 1) (by rw [hD]; trivial) (.inl rfl) (fun b u hb hu => (sb.2 b hb).trans hu) ⟨o, ho⟩ (setT_new K))
/-- sorted(s), s a set of fewer than 64 texts -/
def rSortT (P : Program) (w : World) : List V → Hp → VK → Prop := fun vs H Q => ∃ (a : Addr) (S : Str → Bool) (n : Nat), vs = [V.ref a] ∧ H a = some (SetT P w a S n) ∧ n < 64 ∧
  ∀ (ys : List Str) (p : Addr), sortedS ys = true → ys.Nodup → (∀ k, k ∈ ys ↔ S k = true) → H p = none → Q (.ref p) (upd H p (.lst (ys.map V.str)))
theorem cr_sortT (hc : X.calm = true) : CallR X (.builtin "sorted") (rSortT X.prog X.w) := by
  intro pins s σ H vs us Q I r h
  obtain ⟨a, S, n, rfl, ha, h64, q⟩ := h
  rw [Vals.ref1 r]
  refine sortX (setT_get I ha) (I.ok.hd hc) h64 fun s' p out c ys k g o hp hg y1 y2 y3 y4 y5 => ?_
  have hn : H p = none := I.hok.fresh hp
  have hlen : (ys.map V.str).length ≤ sizeLine := by rw [List.length_map, y4]; exact Nat.le_of_lt (small1000 (by omega))
  have e : s' = { s with heap := s'.heap, gens := s'.gens, drawn := s'.drawn, toks := s'.toks } := by
    cases s'; cases s; cases o; rfl
  rw [e]
  exact ⟨.ref p, upd H p (.lst (ys.map V.str)), I.call (ch := []) (Un.laid k hp hn) (I.hok.laid k hp ⟨hlen, out.toList, c, vals_of_strs y1, hg⟩) (by rw [g]; exact I.bare) (fun _ z => nomatch z), rfl, q ys p y2 y3 y5 hn⟩
end
/-! ### {elt for target in iter if ..}, elt a text -/
section
variable {X : Cx}
def tSx (P : Program) (w : World) (wi : TI) (g : TG) (tt : TT) (te : TE) (vs : List Nat) : TE := fun σ H Q => wi σ H fun J H1 => ∀ D, H1 D = none → ∃ W : Nat → Nat → Hp → Prop, (∃ m, W 0 m (upd H1 D (SetT P w D (fun _ => false) 0))) ∧ ∀ i m H, W i m H →
  (J.stop i H ∧ Q (.ref D) H) ∨ (J.go i H ∧ ∃ Nx : Hp → Prop, (∀ H', Nx H' → ∃ m', m' < m ∧ W (i + 1) m' H') ∧ ∀ x H', J.yld i H x H' → g x (wipe σ vs) H' fun σ2 H2 => wipe σ2 vs = wipe σ vs ∧ tt σ2 H2 fun b H3 =>
    if b = true then te σ2 H3 fun y H4 => ∃ (z : Str) (S : Str → Bool) (n : Nat), y = .str z ∧ H4 D = some (SetT P w D S n) ∧ n + 1 < scanBound ∧ Nx (upd H4 D (SetT P w D (fun j => S j || decide (j = z)) (if S z = true then n else n + 1))) else Nx H3)
theorem pe_sx {elt tg iter : Expr} {ifs : List Expr} {scope : Scope} {own : List (Str × Nat)} {pos : Pos} {wi : TI} {g : TG} {tt : TT} {te : TE} (hc : X.calm = true) (hN : X.N.Nodup) (hi : PI X tg iter wi) (ok : BlkOk X.N X.env.scope scope own)
    (hg : ∀ s H C cl fp, PG (X.blk s H scope (compEnvC scope cl C X.env) fp) tg g) (ht : ∀ s H C cl fp, PTs (X.blk s H scope (compEnvC scope cl C X.env) fp) ifs tt) (he : ∀ s H C cl fp, PE (X.blk s H scope (compEnvC scope cl C X.env) fp) elt te)
    (hs : ∀ x, foldedSetIterable iter X.env x = pure x := by intro _; rfl) : PE X (.SetComp elt [⟨tg, iter, ifs, 0⟩] scope pos) (tSx X.prog X.w wi g tt te (own.map (·.2))) := by
  refine ⟨fun pins s σ H Q I h => ?_⟩
  rw [PpSet.eval_SetComp]
  let X0 := X
  have free : ∀ y ∈ scope.names, y.2 = .free → ∃ c, X.env.cells.lookup y.1 = some c := fun y hy e => (ok.free y hy e).elim (fun k => I.ok.has _ (.inl k)) fun k => I.ok.has _ (.inr k)
  -- the iterable, its iterator, the new set, the block's frame
  refine wpAny_comprehension_free (use := none) rfl hs (closure_ok free) ok.kind (fun y hy e => by rw [ok.uniq y hy, e]) (thn (hi.run pins s σ H _ I h) fun xv s1 hx => thn hx fun itv s2 ⟨it, fp, tn, J, H2, e, I2, T, st2, f2, q⟩ => ?_)
  subst e
  refine PpSet.newSet_ok (newEnv_comp ?_)
  obtain ⟨D, hD⟩ : ∃ D, s2.heap.objs.size = D := ⟨_, rfl⟩
  obtain ⟨W, ⟨m0, w0⟩, turn⟩ := q D (I2.hok.fresh (Nat.le_of_eq hD))
  obtain ⟨H3, hH3⟩ : ∃ H3, upd H2 D (SetT X.prog X.w D (fun _ => false) 0) = H3 := ⟨_, rfl⟩
  obtain ⟨s3, hs3⟩ : ∃ s3 : Shared, { s2 with heap := s2.heap.push { cls := .type "set", dict := none, data := .set #[] 0 (.fresh 0 0 (!X.w.params.followText "set-order")) } } = s3 := ⟨_, rfl⟩
  have h3 : s3.heap = s2.heap.push { cls := .type "set", dict := none, data := .set #[] 0 (.fresh 0 0 (!X.w.params.followText "set-order")) } := by rw [← hs3]
  have I3 : Inv X pins σ H3 s3 := by
    rw [← hs3, ← hH3]
    exact I2.laid (t' := s2.toks) (fun b o e => Heap.get?_push_of_some _ e) (Nat.le_of_eq hD) (by rw [← hD]; exact setT_new freshX)
  rw [hH3] at w0
  have f3 : ∀ b ∈ fp, FpOk X pins H3 b ∧ b < s3.heap.objs.size := fun b hb => by
    obtain ⟨o, e, _⟩ := T.obj _ _ st2 b hb
    have lt := Heap.lt_size e
    refine ⟨⟨?_, (f2 b hb).2⟩, by rw [h3, Heap.size_push]; exact Nat.lt_succ_of_lt lt⟩
    rw [← hH3, upd_ne (by rw [← hD]; exact Nat.ne_of_lt lt)]
    exact (f2 b hb).1
  have st3 : tn 0 s3.heap := T.keep _ _ _ st2 fun b _ o e => by rw [h3]; exact Heap.get?_push_of_some _ e
  have I4 := block_start I3 ok hN f3
  obtain ⟨cl, hcl⟩ : ∃ cl, cellsFrom (s3.heap.objs.size + 1) scope.names (cloFrom X.env.cells scope.names []) = cl := ⟨_, rfl⟩
  rw [hcl] at I4
  have pg := hg s3 H3 s3.heap.objs.size cl fp
  have pt := ht s3 H3 s3.heap.objs.size cl fp
  have pe := he s3 H3 s3.heap.objs.size cl fp
  obtain ⟨ce, hce⟩ : ∃ ce, compEnvC scope cl s3.heap.objs.size X.env = ce := ⟨_, rfl⟩
  rw [hce] at I4 pg pt pe
  have cL : ce.locals = s3.heap.objs.size := by rw [← hce] <;> rfl
  obtain ⟨s4, hs4⟩ : ∃ s4 : Shared, { s3 with heap := pushCells (s3.heap.push { cls := .type "dict", data := .dict #[] }) scope.names } = s4 := ⟨_, rfl⟩
  rw [hs4] at I4
  have st4 : tn 0 s4.heap := T.keep _ _ _ st3 fun b _ o e => by rw [← hs4]; exact pushCells_keeps _ _ _ _ (Heap.get?_push_of_some _ e)
  let B := X.blk s3 H3 scope ce fp
  have stat : ∀ {σ' : L2.St} {H' : Hp} {s' : Shared}, Inv B [] σ' H' s' → (∀ b ∈ fp, H' b = none) → ∀ b ∈ fp, FpOk B [] H' b := fun {σ' H' s'} I' hn b hb =>
    ⟨hn b hb, (I'.ok.exf b hb).1, I'.ok.exfs b hb, .inl hb, fun x c e => (I'.ok.exf b hb).2 x c e, fun p hp => absurd (show p ∈ ([] : List (Addr × Obj)) ++ [] from hp) (by simp)⟩
  have done : ∀ s' m H', Inv X pins σ H' s' → Q (.ref D) H' → s'.heap.Ns s3.heap.objs.size m → FpOk X pins H' s3.heap.objs.size → compPost (model X.prog X.w) X.A X.xe none (EP X pins σ Q) (.ref D) s3.heap.objs.size (.ok .next) s' := fun s' m H' I' q hn f =>
    ⟨m, hn, fun h'' sb => ⟨.ref D, H', I'.turned (t' := s'.toks) (fun b o hb e => (sb.2 b hb).trans e) f.1 f.2.1 f.2.2.2.1 f.2.2.2.2.1 f.2.2.2.2.2, rfl, q⟩⟩
  have loop : codeAny (model X.prog X.w) X.A (.compLoop (.SetComp elt [⟨tg, iter, ifs, 0⟩] scope pos) 0 (.ref it) (.ref D) ce) (compPost (model X.prog X.w) X.A X.xe none (EP X pins σ Q) (.ref D) s3.heap.objs.size) s4 := by
    refine PpSet.compLoopS_any (fun n s' => ∃ i H', Inv B [] (wipe σ (own.map (·.2))) H' s' ∧ tn i s'.heap ∧ (∀ b ∈ fp, H' b = none) ∧ W i n H') ?_ m0 ⟨0, H3, I4, st4, fun b hb => (f3 b hb).1.1, w0⟩
    rintro n s5 ⟨i, H5, I5, st5, n5, w5⟩
    rcases turn i n H5 w5 with ⟨stop, qq⟩ | ⟨go, Nx, hNx, step⟩
    · refine thnF (T.done B rfl rfl rfl hc i [] s5 _ H5 (fun _ _ => False) I5 (stat I5 n5) st5 stop) fun r s6 ⟨hr, I6⟩ => ?_
      subst hr
      have I7 : Inv X pins σ H5 s6 := I3.call' (ch := fp) I6.os I6.base I6.hok I6.bare fun b hb => ⟨(f3 b hb).1.2.2.2.1, (f3 b hb).1.2.1, (f3 b hb).1.2.2.2.2.1, (f3 b hb).1.2.2.2.2.2⟩
      have nC : H5 ce.locals = none := I6.free
      obtain ⟨m, hn, _⟩ := I6.loc
      have hn' : s6.heap.Ns ce.locals m := hn
      rw [cL] at nC hn'
      exact done s6 m H5 I7 qq hn' (I3.fpOk (Nat.le_refl _) nC)
    · refine thnF (T.item B rfl rfl rfl hc i [] s5 _ H5 (fun _ _ => False) I5 (stat I5 n5) st5 go) fun r s6 ⟨u, hr, h6⟩ => ?_
      subst hr
      refine thnF h6 fun _ s7 ⟨x, H7, I7, r7, y7, st7, n7⟩ => ?_
      refine thnF (pg.run _ s7 _ H7 x u _ (I7.pinned (stat I7 n7) (T.obj _ _ st7)) r7 (step x H7 y7)) fun _ s8 ⟨σ8, H8, I8, hw8, q8⟩ => ?_
      refine thnF (pt.run _ s8 σ8 H8 _ I8 q8) fun b s9 ⟨H9, I9, q9⟩ => ?_
      have fin : ∀ {s' : Shared} {H' : Hp}, Inv B ([] ++ pinsAt fp s7.heap) σ8 H' s' → Nx H' → ∃ m, m < n ∧ ∃ i H', Inv B [] (wipe σ (own.map (·.2))) H' s' ∧ tn i s'.heap ∧ (∀ b ∈ fp, H' b = none) ∧ W i m H' := fun {s' H'} I' nx => by
        obtain ⟨m', hm, w'⟩ := hNx H' nx
        have pin : ∀ b ∈ fp, ∀ o, s7.heap.get? b = some o → s'.heap.get? b = some o ∧ H' b = none := fun b hb o e =>
          have z := I'.pin (b, o) (List.mem_append_right _ (List.mem_append_right _ (mem_pinsAt hb e)))
          ⟨z.1, z.2.1⟩
        refine ⟨m', hm, i + 1, H', (I'.unpinned (pins := [])).weak (by rw [← hw8, wipe_length]) (fun j v e => ?_), T.keep _ _ _ st7 fun b hb o e => (pin b hb o e).1, fun b hb => ?_, w'⟩
        · rw [← hw8] at e
          exact (wipe_some e).1
        · obtain ⟨o, e, _⟩ := T.obj _ _ st7 b hb
          exact (pin b hb o e).2
      cases b with
      | false =>
        simp only [Bool.false_eq_true, if_false] at q9 ⊢
        exact fin I9 q9
      | true =>
        simp only [if_true] at q9 ⊢
        refine thnF (pe.run _ s9 σ8 H9 _ I9 q9) fun z s10 ⟨yv, H10, I10, r10, zs, S0, n0, ey, hD10, hz10, nx⟩ => ?_
        subst ey
        obtain ⟨tk, rfl⟩ := (show ∃ t, z = Value.str zs t from r10)
        exact addT (X := B) I10 hD10 hz10 fun s11 I11 => fin I11 nx
  have go := PpSet.codeAny_compStart_set loop (T.self X.A 0 _ _ _ st4 loop)
  rw [← hce, ← hcl, ← hs4] at go
  rw [← hD, hs3] at *
  exact go
end
/-- over a list that the block leaves as it is -/
theorem sx_list {P : Program} {w : World} {K : PySem.W.Frag} {a : Addr} {xs : List V} {g : TG} {tt : TT} {te : TE} {vs : List Nat} {σ : L2.St} {H1 : Hp} {D : Addr} {Qd : Hp → Prop} (Pv : Nat → Hp → Prop) (h0 : Pv 0 (upd H1 D (SetT P w D (fun _ => false) 0)))
    (hl : ∀ i H, i ≤ xs.length → Pv i H → SqL K H a xs)
    (hs : ∀ i x H, xs[i]? = some x → Pv i H → g x (wipe σ vs) H fun σ2 H2 => wipe σ2 vs = wipe σ vs ∧ tt σ2 H2 fun b H3 =>
      if b = true then te σ2 H3 fun y H4 => ∃ (z : Str) (S : Str → Bool) (n : Nat), y = .str z ∧ H4 D = some (SetT P w D S n) ∧ n + 1 < scanBound ∧ Pv (i + 1) (upd H4 D (SetT P w D (fun j => S j || decide (j = z)) (if S z = true then n else n + 1))) else Pv (i + 1) H3)
    (hd : ∀ H, Pv xs.length H → Qd H) :
    ∃ W : Nat → Nat → Hp → Prop, (∃ m, W 0 m (upd H1 D (SetT P w D (fun _ => false) 0))) ∧ ∀ i m H, W i m H → ((Itl K a).stop i H ∧ Qd H) ∨ ((Itl K a).go i H ∧ ∃ Nx : Hp → Prop, (∀ H', Nx H' → ∃ m', m' < m ∧ W (i + 1) m' H') ∧
      ∀ x H', (Itl K a).yld i H x H' → g x (wipe σ vs) H' fun σ2 H2 => wipe σ2 vs = wipe σ vs ∧ tt σ2 H2 fun b H3 => if b = true then te σ2 H3 fun y H4 => ∃ (z : Str) (S : Str → Bool) (n : Nat), y = .str z ∧ H4 D = some (SetT P w D S n) ∧ n + 1 < scanBound ∧
        Nx (upd H4 D (SetT P w D (fun j => S j || decide (j = z)) (if S z = true then n else n + 1))) else Nx H3) := by
  refine ⟨fun i m H => m + i = xs.length ∧ Pv i H, ⟨xs.length, Nat.add_zero _, h0⟩, fun i m H ⟨e, p⟩ => ?_⟩
  have q := hl i H (by omega) p
  rcases Nat.lt_or_ge i xs.length with lt | ge
  · refine .inr ⟨⟨xs, xs[i], q, List.getElem?_eq_getElem lt⟩, Pv (i + 1), fun H' p' => ⟨m - 1, by omega, by omega, p'⟩, fun x H' ⟨e1, y⟩ => ?_⟩
    subst e1
    exact hs i x _ (y xs q) p
  · have ei : i = xs.length := by omega
    subst ei
    exact .inl ⟨⟨xs, q, Nat.le_refl _⟩, hd H p⟩
end Tf
set_option maxHeartbeats 4000000
namespace Tf
open PySem PySem.Spec PyProof.Rows L2 TL
theorem Up.tup {sc d : Addr} {H H' : Hp} (u : Up d H H') (hD : Dr sc H d) : ∀ p xs, H p = some (.tup xs) → H' p = some (.tup xs) := fun p xs e => by
  refine u p _ (fun q => ?_) e
  obtain ⟨ys, hy⟩ := hD.lst
  rw [q, hy] at e
  cases e
theorem same_tup {H H' : Hp} (u : Same H H') : ∀ p xs, H p = some (.tup xs) → H' p = some (.tup xs) := fun p xs e => u _ _ e
def FlatV (v : V) : Prop := (∃ n, v = .int n) ∨ ∃ s, v = .str s
theorem TokVal.flat {kind : Str} {w : List Nat} {v : V} (h : TokVal kind w v) : FlatV v := by
  rcases h with ⟨_, _, n, _, e⟩ | ⟨_, e⟩
  · exact .inl ⟨n, e⟩
  · exact .inr ⟨_, e⟩
theorem FlatV.eq0 {v : V} (h : FlatV v) : Eq0 v v := by
  rcases h with ⟨n, e⟩ | ⟨s, e⟩
  · exact .inl ⟨n, e, e⟩
  · exact .inr (.inl ⟨s, e, e⟩)
theorem chain_flat : ∀ {l : List Itm} {p : List Nat} {k : Nat}, Chain p l → ∀ t ∈ places k l, FlatV t.2.1
  | [], _, _, _, t, ht => absurd ht (by simp [places])
  | x :: r, p, k, ⟨h, hr⟩, t, ht => by
    rcases List.mem_cons.mp ht with e | ht
    · rw [e]; exact h.2.2.1.flat
    · exact chain_flat hr t ht
theorem three_eq {H : Hp} {n : Nat} {p q : Addr} {s : Str} {v : V} {k : Nat} (hp : H p = some (.tup [.str s, v, .int k])) (hq : H q = some (.tup [.str s, v, .int k])) (hv : FlatV v) : Eq2 H (n + 1) (.ref p) (.ref q) := by
  refine .inr ⟨true, p, q, _, _, rfl, rfl, hp, hq, rfl, (by show 3 ≤ 1000; decide), fun i u w hu hw => ?_⟩
  refine Eq2.base ?_
  rw [hu] at hw
  have e : u = w := Option.some.inj hw
  subst e
  have hm := List.mem_of_getElem? hu
  simp only [List.mem_cons, List.not_mem_nil, or_false] at hm
  rcases hm with rfl | rfl | rfl
  · exact .inr (.inl ⟨_, rfl, rfl⟩)
  · exact hv.eq0
  · exact .inl ⟨_, rfl, rfl⟩
theorem tkl_eq {H : Hp} : ∀ {ts : List Tk} {xs ys : List V}, TkL H xs ts → TkL H ys ts → (∀ t ∈ ts, FlatV t.2.1) → ∀ (i : Nat) u v, xs[i]? = some u → ys[i]? = some v → Eq2 H 1 u v
  | [], [], [], _, _, _, i, u, v, hu, _ => by simp at hu
  | t :: ts, x :: xs, y :: ys, ⟨⟨p, ep, hp⟩, hx⟩, ⟨⟨q, eq, hq⟩, hy⟩, hf, 0, u, v, hu, hv => by
    have e1 : x = u := Option.some.inj hu
    have e2 : y = v := Option.some.inj hv
    subst e1 e2 ep eq
    exact three_eq hp hq (hf t (List.mem_cons_self ..))
  | t :: ts, x :: xs, y :: ys, ⟨_, hx⟩, ⟨_, hy⟩, hf, i + 1, u, v, hu, hv => tkl_eq hx hy (fun s hs => hf s (List.mem_cons_of_mem _ hs)) i u v hu hv
theorem wf_eq {w : List Nat} {kind : Str} (h : Wf w kind) (hh : w.head? = some 61) : w = [61] := by
  have hm : 61 ∈ w := List.mem_of_head? hh
  cases h with
  | word h hw => exact absurd (hw 61 hm) (by decide)
  | num h hd hw =>
    rcases hw with e | e
    · rw [e] at hm
      exact absurd (hd 61 hm) (by decide)
    · rw [e] at hh
      exact absurd (Option.some.inj hh) (by decide)
  | sign h =>
    have f : ∀ a ∈ sgL, a.head? = some 61 → a = [61] := by decide
    exact f w h hh
def spLaw (K : PySem.W.Frag) : Sp := fun vs H Q _ => ∃ (a : Addr) (ns : List Int), vs = [.ref a] ∧ SqL K H a (ns.map V.int) ∧ ns.length ≤ 63 ∧ ∀ H', Q (.bl true) H'
def heads : List Str := ["", " ", "\n ", "   "]
theorem heads_ok : ∀ g ∈ heads, (∀ c ∈ tl g, Bl c) ∧ (tl g).length ≤ 3 := by decide +kernel
theorem in_lt (last : Str) : inV (.str last) [.str "<", .str ">"] = decide (tl last = [60] ∨ tl last = [62]) := by
  have e1 : tl ("<" : Str) = [60] := by decide +kernel
  have e2 : tl (">" : Str) = [62] := by decide +kernel
  show ((("<" : Str) == last) || (((">" : Str) == last) || false)) = _
  rw [Bool.or_false, Bool.eq_iff_iff, Bool.or_eq_true, beq_iff_eq, beq_iff_eq, decide_eq_true_iff]
  constructor
  · rintro (h | h)
    · exact .inl (by rw [← h]; exact e1)
    · exact .inr (by rw [← h]; exact e2)
  · rintro (h | h)
    · exact .inl (ext_tl (by rw [h]; exact e1))
    · exact .inr (ext_tl (by rw [h]; exact e2))
end Tf
set_option maxHeartbeats 4000000
namespace Tf
open PySem PySem.Spec PyProof.Rows L2 TL
/-! ### the reader in the heap -/
def PvAt (H : Hp) : Pv → V → Prop
  | .s z, v => v = .str z
  | .i n, v => v = .int n
  | .ks l, v => ∃ a, v = .ref a ∧ H a = some (.tup (l.map V.str))
def ArgsAt (H : Hp) : List Pv → List V → Prop
  | [], [] => True
  | p :: ps, v :: vs => PvAt H p v ∧ ArgsAt H ps vs
  | _, _ => False
def FmAt (H : Hp) : Fm → V → Prop
  | .par, v => ∃ t b, v = .ref t ∧ H t = some (.tup [.str ")", .ref b]) ∧ H b = some (.tup [])
  | .comma w vs, v => ∃ t b us, v = .ref t ∧ H t = some (.tup [.str ",", .ref b]) ∧ H b = some (.tup (.str w :: us)) ∧ ArgsAt H vs us ∧ us.length ≤ 3
  | .second w vs l, v => ∃ t b us x, v = .ref t ∧ H t = some (.tup [.str ")", .ref b]) ∧ H b = some (.tup (.str w :: (us ++ [x]))) ∧ ArgsAt H vs us ∧ PlAt H l x
def FmsAt (H : Hp) : List V → List Fm → Prop
  | [], [] => True
  | v :: vs, f :: fs => FmAt H f v ∧ FmsAt H vs fs
  | _, _ => False
def NumL (H : Hp) : List V → List Num → Prop
  | [], [] => True
  | v :: vs, n :: ns => (∃ t, v = .ref t ∧ H t = some (.tup [.str n.1, .int n.2.1, .int (n.2.2 : Int)])) ∧ NumL H vs ns
  | _, _ => False
theorem PvAt.mono {H H' : Hp} (k : TupUp H H') : ∀ {p : Pv} {v : V}, PvAt H p v → PvAt H' p v
  | .s _, _, h => h
  | .i _, _, h => h
  | .ks _, _, ⟨a, e, h⟩ => ⟨a, e, k _ _ h⟩
theorem ArgsAt.mono {H H' : Hp} (k : TupUp H H') : ∀ {ps : List Pv} {vs : List V}, ArgsAt H ps vs → ArgsAt H' ps vs
  | [], [], _ => trivial
  | p :: ps, v :: vs, ⟨h, r⟩ => ⟨h.mono k, r.mono k⟩
theorem ArgsAt.len {H : Hp} : ∀ {ps : List Pv} {vs : List V}, ArgsAt H ps vs → vs.length = ps.length
  | [], [], _ => rfl
  | p :: ps, v :: vs, ⟨h, r⟩ => by rw [List.length_cons, List.length_cons, r.len]
theorem ArgsAt.snoc {H : Hp} {p : Pv} {v : V} (hp : PvAt H p v) : ∀ {ps : List Pv} {vs : List V}, ArgsAt H ps vs → ArgsAt H (ps ++ [p]) (vs ++ [v])
  | [], [], _ => ⟨hp, trivial⟩
  | q :: ps, u :: vs, ⟨h, r⟩ => ⟨h, r.snoc hp⟩
theorem FmAt.mono {H H' : Hp} (k : TupUp H H') : ∀ {f : Fm} {v : V}, FmAt H f v → FmAt H' f v
  | .par, _, ⟨t, b, e, h, g⟩ => ⟨t, b, e, k _ _ h, k _ _ g⟩
  | .comma _ _, _, ⟨t, b, us, e, h, g, a, l⟩ => ⟨t, b, us, e, k _ _ h, k _ _ g, a.mono k, l⟩
  | .second _ _ _, _, ⟨t, b, us, x, e, h, g, a, p⟩ => ⟨t, b, us, x, e, k _ _ h, k _ _ g, a.mono k, p.mono k⟩
theorem FmsAt.mono {H H' : Hp} (k : TupUp H H') : ∀ {vs : List V} {fs : List Fm}, FmsAt H vs fs → FmsAt H' vs fs
  | [], [], _ => trivial
  | v :: vs, f :: fs, ⟨h, r⟩ => ⟨h.mono k, r.mono k⟩
theorem FmsAt.len {H : Hp} : ∀ {vs : List V} {fs : List Fm}, FmsAt H vs fs → vs.length = fs.length
  | [], [], _ => rfl
  | v :: vs, f :: fs, ⟨h, r⟩ => by rw [List.length_cons, List.length_cons, r.len]
theorem FmsAt.snoc {H : Hp} {f : Fm} {v : V} (hf : FmAt H f v) : ∀ {vs : List V} {fs : List Fm}, FmsAt H vs fs → FmsAt H (vs ++ [v]) (fs ++ [f])
  | [], [], _ => ⟨hf, trivial⟩
  | u :: vs, g :: fs, ⟨h, r⟩ => ⟨h, r.snoc hf⟩
theorem FmsAt.last {H : Hp} {f : Fm} : ∀ {vs : List V} {fs : List Fm}, FmsAt H vs (fs ++ [f]) → ∃ v, vs[vs.length - 1]? = some v ∧ FmAt H f v ∧ FmsAt H vs.dropLast fs
  | [], [], h => h.elim
  | [v], [], h => ⟨v, rfl, h.1, trivial⟩
  | v :: u :: vs, [], h => h.2.elim
  | [], g :: fs, h => h.elim
  | [v], g :: fs, h => by
    obtain ⟨_, h⟩ := h
    cases fs with
    | nil => exact h.elim
    | cons a r => exact h.elim
  | v :: u :: vs, g :: fs, h => by
    obtain ⟨h1, h2⟩ := h
    obtain ⟨x, e1, e2, e3⟩ := FmsAt.last (vs := u :: vs) (fs := fs) h2
    exact ⟨x, by rw [← e1] <;> rfl, e2, h1, e3⟩
theorem NumL.mono {H H' : Hp} (k : TupUp H H') : ∀ {vs : List V} {ns : List Num}, NumL H vs ns → NumL H' vs ns
  | [], [], _ => trivial
  | v :: vs, n :: ns, ⟨⟨t, e, h⟩, r⟩ => ⟨⟨t, e, k _ _ h⟩, r.mono k⟩
theorem NumL.snoc {H : Hp} {t : Addr} {n : Num} (h : H t = some (.tup [.str n.1, .int n.2.1, .int (n.2.2 : Int)])) : ∀ {vs : List V} {ns : List Num}, NumL H vs ns → NumL H (vs ++ [.ref t]) (ns ++ [n])
  | [], [], _ => ⟨⟨t, rfl, h⟩, trivial⟩
  | v :: vs, m :: ns, ⟨a, r⟩ => ⟨a, r.snoc h⟩
theorem NumL.len {H : Hp} : ∀ {vs : List V} {ns : List Num}, NumL H vs ns → vs.length = ns.length
  | [], [], _ => rfl
  | v :: vs, f :: fs, ⟨h, r⟩ => by rw [List.length_cons, List.length_cons, r.len]
theorem TkL.get {H : Hp} : ∀ {xs : List V} {ts : List Tk} {i : Nat} {t : Tk}, TkL H xs ts → ts[i]? = some t → ∃ p, xs[i]? = some (.ref p) ∧ H p = some (.tup [.str t.1, t.2.1, .int t.2.2])
  | [], [], _, _, _, e => by simp at e
  | x :: xs, u :: ts, 0, t, ⟨⟨p, ex, h⟩, r⟩, e => ⟨p, by rw [ex] <;> rfl, by rw [← Option.some.inj e]; exact h⟩
  | x :: xs, u :: ts, i + 1, t, ⟨_, r⟩, e => r.get (i := i) e
structure Ad where
  (C dx fa na ua r : Addr)
  toks : List Tk
theorem f1 : ¬ (("found" : Str) = "at") := by decide +kernel
theorem f2 : ¬ (("found" : Str) = "numbers") := by decide +kernel
theorem f3 : ¬ (("found" : Str) = "unclosed") := by decide +kernel
theorem f4 : ¬ (("at" : Str) = "numbers") := by decide +kernel
theorem f5 : ¬ (("at" : Str) = "unclosed") := by decide +kernel
theorem f6 : ¬ (("numbers" : Str) = "unclosed") := by decide +kernel
def flds (A : Ad) (i : Nat) : List (Str × V) := putF "unclosed" (.ref A.ua) (putF "numbers" (.ref A.na) (putF "at" (.int (i : Int)) (putF "found" (.ref A.fa) [])))
theorem flds_eq (A : Ad) (i : Nat) : flds A i = [(("found" : Str), V.ref A.fa), (("at" : Str), .int (i : Int)), (("numbers" : Str), .ref A.na), (("unclosed" : Str), .ref A.ua)] := by
  unfold flds
  have e1 : putF ("found" : Str) (V.ref A.fa) [] = [(("found" : Str), V.ref A.fa)] := rfl
  have e2 : putF ("at" : Str) (V.int (i : Int)) [(("found" : Str), V.ref A.fa)] = [(("found" : Str), V.ref A.fa), (("at" : Str), .int (i : Int))] := by
    show (if ("found" : Str) = "at" then _ else (("found" : Str), V.ref A.fa) :: putF "at" (V.int (i : Int)) []) = _
    rw [if_neg f1] <;> rfl
  have e3 : putF ("numbers" : Str) (V.ref A.na) [(("found" : Str), V.ref A.fa), (("at" : Str), .int (i : Int))] = [(("found" : Str), V.ref A.fa), (("at" : Str), .int (i : Int)), (("numbers" : Str), .ref A.na)] := by
    show (if ("found" : Str) = "numbers" then _ else (("found" : Str), V.ref A.fa) :: (if ("at" : Str) = "numbers" then _ else (("at" : Str), V.int (i : Int)) :: putF "numbers" (V.ref A.na) [])) = _
    rw [if_neg f2, if_neg f4] <;> rfl
  rw [e1, e2, e3]
  show (if ("found" : Str) = "unclosed" then _ else (("found" : Str), V.ref A.fa) :: (if ("at" : Str) = "unclosed" then _ else (("at" : Str), V.int (i : Int)) :: (if ("numbers" : Str) = "unclosed" then _ else (("numbers" : Str), V.ref A.na) :: putF "unclosed" (V.ref A.ua) []))) = _
  rw [if_neg f3, if_neg f5, if_neg f6] <;> rfl
theorem flds_found (A : Ad) (i : Nat) : (flds A i).lookup ("found" : Str) = some (.ref A.fa) := by
  unfold flds
  rw [lookup_putF, if_neg f3, lookup_putF, if_neg f2, lookup_putF, if_neg f1, lookup_putF, if_pos rfl]
theorem flds_at (A : Ad) (i : Nat) : (flds A i).lookup ("at" : Str) = some (.int (i : Int)) := by
  unfold flds
  rw [lookup_putF, if_neg f5, lookup_putF, if_neg f4, lookup_putF, if_pos rfl]
theorem flds_num (A : Ad) (i : Nat) : (flds A i).lookup ("numbers" : Str) = some (.ref A.na) := by
  unfold flds
  rw [lookup_putF, if_neg f6, lookup_putF, if_pos rfl]
theorem flds_un (A : Ad) (i : Nat) : (flds A i).lookup ("unclosed" : Str) = some (.ref A.ua) := by
  unfold flds
  rw [lookup_putF, if_pos rfl]
theorem flds_put (A : Ad) (i j : Nat) : putF "at" (.int (j : Int)) (flds A i) = flds A j := by
  rw [flds_eq, flds_eq]
  show (if ("found" : Str) = "at" then _ else (("found" : Str), V.ref A.fa) :: (if ("at" : Str) = "at" then (("at" : Str), V.int (j : Int)) :: _ else _)) = _
  rw [if_neg f1, if_pos rfl]
theorem flds_no (A : Ad) (i : Nat) {m : Str} (h1 : ¬ m = "found") (h2 : ¬ m = "at") (h3 : ¬ m = "numbers") (h4 : ¬ m = "unclosed") : (flds A i).lookup m = none := by
  unfold flds
  rw [lookup_putF, if_neg h4, lookup_putF, if_neg h3, lookup_putF, if_neg h2, lookup_putF, if_neg h1]
  rfl
/-- a token's value is a text or a number; a word's is a text -/
def TkOk (t : Tk) : Prop := FlatV t.2.1 ∧ (t.1 = ("word" : Str) → ∃ z, t.2.1 = V.str z ∧ z.length ≤ sizeLine)
structure RS (A : Ad) (H : Hp) (rem : List Tk) (S : List Fm) (N : List Num) : Prop where
  ob : ∃ i, H A.r = some (.ins A.C A.dx (flds A i)) ∧ A.toks.drop i = rem ∧ i ≤ A.toks.length
  fl : ∃ xs, H A.fa = some (.lst xs) ∧ TkL H xs A.toks
  nl : ∃ xs, H A.na = some (.lst xs) ∧ NumL H xs N
  ul : ∃ xs, H A.ua = some (.lst xs) ∧ FmsAt H xs S.reverse
  n1 : A.fa ≠ A.na
  n2 : A.fa ≠ A.ua
  n3 : A.na ≠ A.ua
  ft : ∀ t ∈ A.toks, TkOk t
  few : A.toks.length ≤ 400
/-- all but the reader's own objects stays -/
def Kp (A : Ad) (H H' : Hp) : Prop := ∀ b o, b ≠ A.r → b ≠ A.na → b ≠ A.ua → H b = some o → H' b = some o
theorem Kp.refl {A : Ad} {H : Hp} : Kp A H H := fun _ _ _ _ _ h => h
theorem Kp.trans {A : Ad} {H H1 H2 : Hp} (a : Kp A H H1) (b : Kp A H1 H2) : Kp A H H2 := fun c o x y z h => b c o x y z (a c o x y z h)
theorem Kp.same {A : Ad} {H H' : Hp} (k : Same H H') : Kp A H H' := fun b o _ _ _ h => k b o h
theorem RS.tup {A : Ad} {H H' : Hp} {rem : List Tk} {S : List Fm} {N : List Num} (R : RS A H rem S N) (k : Kp A H H') : TupUp H H' := fun p xs e => by
  obtain ⟨i, h1, _⟩ := R.ob
  obtain ⟨ns, h2, _⟩ := R.nl
  obtain ⟨us, h3, _⟩ := R.ul
  refine k p _ (fun q => ?_) (fun q => ?_) (fun q => ?_) e
  · rw [q, h1] at e; cases e
  · rw [q, h2] at e; cases e
  · rw [q, h3] at e; cases e
theorem RS.mono {A : Ad} {H H' : Hp} {rem : List Tk} {S : List Fm} {N : List Num} (R : RS A H rem S N) (k : Same H H') : RS A H' rem S N := by
  obtain ⟨⟨i, h1, h2⟩, ⟨xs, g1, g2⟩, ⟨ns, n1, n2⟩, ⟨us, u1, u2⟩, z1, z2, z3, z4, z5⟩ := R
  have kt := TupUp.same k
  exact ⟨⟨i, k _ _ h1, h2⟩, ⟨xs, k _ _ g1, g2.mono kt⟩, ⟨ns, k _ _ n1, n2.mono kt⟩, ⟨us, k _ _ u1, u2.mono kt⟩, z1, z2, z3, z4, z5⟩
theorem RS.ne {A : Ad} {H : Hp} {rem : List Tk} {S : List Fm} {N : List Num} (R : RS A H rem S N) : A.r ≠ A.fa ∧ A.r ≠ A.na ∧ A.r ≠ A.ua := by
  obtain ⟨i, h1, _⟩ := R.ob
  obtain ⟨xs, h0, _⟩ := R.fl
  obtain ⟨ns, h2, _⟩ := R.nl
  obtain ⟨us, h3, _⟩ := R.ul
  exact ⟨ne_of h1 h0 (by intro z; cases z), ne_of h1 h2 (by intro z; cases z), ne_of h1 h3 (by intro z; cases z)⟩
/-- the next token, and what stands behind it -/
theorem RS.tok {A : Ad} {H : Hp} {t : Tk} {rem : List Tk} {S : List Fm} {N : List Num} (R : RS A H (t :: rem) S N) : ∃ (i : Nat) (xs : List V) (p : Addr), H A.r = some (.ins A.C A.dx (flds A i)) ∧ H A.fa = some (.lst xs) ∧ xs[i]? = some (.ref p) ∧ H p = some (.tup [.str t.1, t.2.1, .int t.2.2]) ∧ TkOk t ∧
    ∀ H', (∀ b o, b ≠ A.r → H b = some o → H' b = some o) → H' A.r = some (.ins A.C A.dx (flds A (i + 1))) → RS A H' rem S N := by
  obtain ⟨⟨i, h1, h2, h3⟩, ⟨xs, g1, g2⟩, ⟨ns, n1, n2⟩, ⟨us, u1, u2⟩, z1, z2, z3, z4, z5⟩ := id R
  obtain ⟨y1, y2, y3⟩ := R.ne
  have hlt : i < A.toks.length := by
    rcases Nat.lt_or_ge i A.toks.length with l | l
    · exact l
    · rw [List.drop_eq_nil_of_le l] at h2; cases h2
  have hd := List.drop_eq_getElem_cons hlt
  rw [h2] at hd
  have e1 : t = A.toks[i] := (List.cons.inj hd).1
  have e2 : rem = A.toks.drop (i + 1) := (List.cons.inj hd).2
  have ht : A.toks[i]? = some t := by rw [List.getElem?_eq_getElem hlt, e1]
  obtain ⟨p, hp1, hp2⟩ := g2.get ht
  refine ⟨i, xs, p, h1, g1, hp1, hp2, z4 t (by rw [e1]; exact List.getElem_mem hlt), fun H' k hr => ?_⟩
  have k' := k
  have kt : TupUp H H' := fun q ys e => k' q _ (fun z => by rw [z, h1] at e; cases e) e
  exact ⟨⟨i + 1, hr, e2.symm, hlt⟩, ⟨xs, k' _ _ y1.symm g1, g2.mono kt⟩, ⟨ns, k' _ _ y2.symm n1, n2.mono kt⟩, ⟨us, k' _ _ y3.symm u1, u2.mono kt⟩, z1, z2, z3, z4, z5⟩
theorem RS.stepped {A : Ad} {H : Hp} {t : Tk} {rem : List Tk} {S : List Fm} {N : List Num} (R : RS A H (t :: rem) S N) {i : Nat} (h : H A.r = some (.ins A.C A.dx (flds A i))) : RS A (upd H A.r (.ins A.C A.dx (flds A (i + 1)))) rem S N ∧ Kp A H (upd H A.r (.ins A.C A.dx (flds A (i + 1)))) := by
  obtain ⟨j, xs, p, h1, _, _, _, _, fin⟩ := R.tok
  have e : i = j := by
    rw [h] at h1
    have e1 := (HO.ins.inj (Option.some.inj h1)).2.2
    rw [flds_eq, flds_eq] at e1
    have e2 := (Prod.mk.inj (List.cons.inj (List.cons.inj e1).2).1).2
    have e3 : (i : Int) = (j : Int) := V.int.inj e2
    omega
  subst e
  exact ⟨fin _ (fun b o hb eb => by rw [upd_ne hb]; exact eb) upd_same, fun b o hb _ _ eb => by rw [upd_ne hb]; exact eb⟩
/-- one more parenthesis -/
theorem RS.push {A : Ad} {H : Hp} {rem : List Tk} {S : List Fm} {N : List Num} {f : Fm} {v : V} {us : List V} (R : RS A H rem S N) (hu : H A.ua = some (.lst us)) (hf : FmAt H f v) : RS A (upd H A.ua (.lst (us ++ [v]))) rem (f :: S) N ∧ Kp A H (upd H A.ua (.lst (us ++ [v]))) := by
  obtain ⟨⟨i, h1, h2⟩, ⟨xs, g1, g2⟩, ⟨ns, n1, n2⟩, ⟨us', u1, u2⟩, z1, z2, z3, z4, z5⟩ := id R
  obtain ⟨y1, y2, y3⟩ := R.ne
  rw [hu] at u1
  cases u1
  have kt : TupUp H (upd H A.ua (.lst (us ++ [v]))) := TupUp.lst hu
  refine ⟨⟨⟨i, by rw [upd_ne y3]; exact h1, h2⟩, ⟨xs, by rw [upd_ne z2]; exact g1, g2.mono kt⟩, ⟨ns, by rw [upd_ne z3]; exact n1, n2.mono kt⟩, ⟨_, upd_same, ?_⟩, z1, z2, z3, z4, z5⟩, fun b o _ _ hb eb => by rw [upd_ne hb]; exact eb⟩
  rw [List.reverse_cons]
  exact (u2.mono kt).snoc (hf.mono kt)
/-- the last parenthesis is taken off -/
theorem RS.pop {A : Ad} {H : Hp} {rem : List Tk} {S : List Fm} {N : List Num} {f : Fm} (R : RS A H rem (f :: S) N) : ∃ (us : List V) (v : V), H A.ua = some (.lst us) ∧ us[us.length - 1]? = some v ∧ FmAt H f v ∧ RS A (upd H A.ua (.lst us.dropLast)) rem S N ∧ Kp A H (upd H A.ua (.lst us.dropLast)) := by
  obtain ⟨⟨i, h1, h2⟩, ⟨xs, g1, g2⟩, ⟨ns, n1, n2⟩, ⟨us, u1, u2⟩, z1, z2, z3, z4, z5⟩ := id R
  obtain ⟨y1, y2, y3⟩ := R.ne
  rw [List.reverse_cons] at u2
  obtain ⟨v, e1, e2, e3⟩ := u2.last
  have kt : TupUp H (upd H A.ua (.lst us.dropLast)) := TupUp.lst u1
  exact ⟨us, v, u1, e1, e2, ⟨⟨i, by rw [upd_ne y3]; exact h1, h2⟩, ⟨xs, by rw [upd_ne z2]; exact g1, g2.mono kt⟩, ⟨ns, by rw [upd_ne z3]; exact n1, n2.mono kt⟩, ⟨_, upd_same, e3.mono kt⟩, z1, z2, z3, z4, z5⟩, fun b o _ _ hb eb => by rw [upd_ne hb]; exact eb⟩
/-- one more number -/
theorem RS.num {A : Ad} {H : Hp} {rem : List Tk} {S : List Fm} {N : List Num} {n : Num} {t : Addr} {ns : List V} (R : RS A H rem S N) (hu : H A.na = some (.lst ns)) (hn : H t = some (.tup [.str n.1, .int n.2.1, .int (n.2.2 : Int)])) : RS A (upd H A.na (.lst (ns ++ [.ref t]))) rem S (N ++ [n]) ∧ Kp A H (upd H A.na (.lst (ns ++ [.ref t]))) := by
  obtain ⟨⟨i, h1, h2⟩, ⟨xs, g1, g2⟩, ⟨ns', n1, n2⟩, ⟨us, u1, u2⟩, z1, z2, z3, z4, z5⟩ := id R
  obtain ⟨y1, y2, y3⟩ := R.ne
  rw [hu] at n1
  cases n1
  have kt : TupUp H (upd H A.na (.lst (ns ++ [.ref t]))) := TupUp.lst hu
  exact ⟨⟨⟨i, by rw [upd_ne y2]; exact h1, h2⟩, ⟨xs, by rw [upd_ne z1]; exact g1, g2.mono kt⟩, ⟨_, upd_same, (n2.mono kt).snoc (kt _ _ hn)⟩, ⟨us, by rw [upd_ne z3.symm]; exact u1, u2.mono kt⟩, z1, z2, z3, z4, z5⟩, fun b o _ hb _ eb => by rw [upd_ne hb]; exact eb⟩
/-- what the written part says of the class -/
structure RdT (K : PySem.W.Frag) (C : Addr) : Prop where
  cl : Cls K C
  nF : NoAttr K C "found"
  nA : NoAttr K C "at"
  nN : NoAttr K C "numbers"
  nU : NoAttr K C "unclosed"
structure MethAt (K : PySem.W.Frag) (C : Addr) (m qual : Str) (st : Stmt) (ps : List Str) (f : Addr) (fd : FuncData) : Prop where
  F : Fun K m qual st f fd
  m : Meth K C m f
  b : Binds K fd ps []
end Tf
set_option maxHeartbeats 4000000
namespace Tf
open PySem PySem.Spec PyProof.Rows L2
/-! ### set(list of texts) -/
section
variable {prog : Program} {w : World} {A : Around}
theorem walkX {R : Result → Shared → Prop} {it : Addr} {fp wr : List Addr} {G : Array GenState → Array GenState → Prop} {n : Nat} {Pv : Nat → Value → Prop} {St : Nat → Shared → Prop} (W : WalksS prog w A.in1 it fp wr G n Pv St) {D : Addr} (hD : D ∉ fp) {xs : List Str} (hx : xs.length = n) (hn : n < 64)
    (hv : ∀ i v, Pv i v → ∃ z t, xs[i]? = some z ∧ v = .str z t) : ∀ (k i : Nat) (s : Shared), n - i = k → i ≤ n → St i s → (∃ T c, c ≤ i ∧ (∀ z, T z = true ↔ z ∈ xs.take i) ∧ SetX (PySem.strKind prog w) s.heap D T c) →
      (∀ s', Moved (D :: wr) G s s' → (∃ T c, c ≤ n ∧ (∀ z, T z = true ↔ z ∈ xs) ∧ SetX (PySem.strKind prog w) s'.heap D T c) → R (.ok (.ret .none)) s') → codeAny (model prog w) A (.builtin "set.update.loop" ⟨[.ref D, .ref it], []⟩) R s := by
  have nw : D ∉ wr := fun z => hD (W.sub _ z)
  have sub1 : ∀ b ∈ wr, b ∈ D :: wr := fun b z => List.mem_cons_of_mem _ z
  intro k
  induction k with
  | zero =>
    intro i s e0 e1 st ⟨T, c, c1, c2, c3⟩ fin
    have e2 : i = n := by omega
    refine codeAny_builtin F.entry_set_update_loop ?_
    rw [Around.under_plainId F.plain_set_update_loop _]
    show wpAny _ A.in1 (pyNext (.ref it) >>= _) _ _ s
    rw [e2] at st
    refine wpAny_bind (W.done s _ _ st fun s' mv => ?_)
    show wpAny _ A.in1 (ret Value.none) _ _ s'
    refine wpAny_pure (fin s' (mv.mono sub1) ⟨T, c, by omega, fun z => ?_, c3.at fun o e => mv.heap D _ nw e⟩)
    rw [c2 z, e2, ← hx, List.take_length]
  | succ k ih =>
    intro i s e0 e1 st ⟨T, c, c1, c2, c3⟩ fin
    have e2 : i < n := by omega
    refine codeAny_builtin F.entry_set_update_loop ?_
    rw [Around.under_plainId F.plain_set_update_loop _]
    show wpAny _ A.in1 (pyNext (.ref it) >>= _) _ _ s
    refine wpAny_bind (W.item i s _ _ e2 st fun v s' hp st' mv => ?_)
    obtain ⟨z, t, hz, rfl⟩ := hv i v hp
    have c4 : SetX (PySem.strKind prog w) s'.heap D T c := c3.at fun o e => mv.heap D _ nw e
    show wpAny _ A.in1 (holding [Value.str z t] (setAdd D (.str z t)) >>= _) _ _ s'
    refine wpAny_bind (wpAny_holding ?_)
    unfold setAdd
    refine wpAny_holding (wpAny_bind ((PySem.strKind prog w).pyHash (k := z) (strKind_is _ _ _ _) ?_))
    refine addX (knd := PySem.strKind prog w) (s := { s' with toks := s'.toks + 1 }) (strKind_is _ _ _ _) rfl c4 (by unfold scanBound; omega) fun h' sb c5 => ?_
    have ht : xs.take (i + 1) = xs.take i ++ [z] := by rw [List.take_add_one, hz]; rfl
    refine wpAny_pure ⟨plainId_quiet F.plain_set_update_loop _, ih (i + 1) _ (by omega) e2 (W.frame _ s' _ _ st' (Nat.le_succ _) fun b hb o e => ?_) ⟨_, _, ?_, fun y => ?_, c5⟩ fun s2 mv2 hS2 => ?_⟩
    · rw [sb.2 b (fun q : b = D => hD (by rw [← q]; exact hb))]; exact e
    · split <;> omega
    · rw [Bool.or_eq_true, decide_eq_true_eq, c2 y, ht, List.mem_append, List.mem_singleton]
    · refine fin s2 (Moved.trans W.gtrans ((mv.mono sub1).then_heap (Nat.le_succ _) fun b o hb e => ?_) mv2) hS2
      rw [sb.2 b (fun q : b = D => hb (by rw [q]; exact List.mem_cons_self))]; exact e
set_option maxHeartbeats 8000000 in
theorem setOfL {E : Value → Shared → Prop} {s : Shared} {l : Addr} {items : Array Value} {xs : List Str} {Q : Value → Shared → Prop} (hh : A.handled = none) (hl : s.heap.IsList l items) (hi : StrsAre items.toList xs) (h64 : xs.length < 64)
    (q : ∀ (h' : Heap) (tk : Nat) (T : Str → Bool) (c : Nat), c < 64 → (∀ z, T z = true ↔ z ∈ xs) → SetX (PySem.strKind prog w) h' s.heap.objs.size T c → (∀ b o, s.heap.get? b = some o → h'.get? b = some o) → Q (.ref s.heap.objs.size) { s with heap := h', toks := tk }) :
    wpAny (model prog w) A (call (.type "set") [.ref l]) Q E s := by
  obtain ⟨c0, tl0, hmro⟩ := F.called_set.mro
  have y1 := F.called_set.made
  have y2 := F.called_set.sub
  refine wpAny_call (codeAny_of_tree ?_)
  show wpAny _ _ (callAny (.type "set") _) _ _ _
  refine wpAny_pure ⟨Code.quiet_builtin _ (by decide +kernel), codeAny_builtin F.entry_type_call ?_⟩
  rw [Around.under_plain (weight_type_call_type "set" [.ref l] []) rfl]
  have y3 := F.called_set.notType
  have y4 := F.called_set.canCreate
  have y5 := F.typeCall_set_1 (.ref l)
  repeat (any_goals (first | assumption | wp_step))
  refine codeAny_mono (code_set_led1 (.ref l) (E := E) (Q₁ := fun ob s₁ => ob = .ref s.heap.objs.size ∧ s₁ = { s with heap := s.heap.push (Obj.mk (Value.type "set") none (Data.set #[] 0 (SetTable.fresh 0 0 (!Params.followText (World.params w) "set-order"))) #[]) }) ⟨rfl, rfl⟩) fun r s₁ hr => ?_
  rcases r with e | fl
  · exact hr
  rcases fl with _ | ob | _ | _
  case ok.ret =>
    obtain ⟨rfl, rfl⟩ := hr
    have g0 : (s.heap.push (Obj.mk (Value.type "set") none (Data.set #[] 0 (SetTable.fresh 0 0 (!Params.followText (World.params w) "set-order"))) #[])).get? s.heap.objs.size = some (Obj.mk (Value.type "set") none (Data.set #[] 0 (SetTable.fresh 0 0 (!Params.followText (World.params w) "set-order"))) #[]) := Heap.get?_push_size _ rfl
    have g1 : Shared.TypeIs { s with heap := s.heap.push (Obj.mk (Value.type "set") none (Data.set #[] 0 (SetTable.fresh 0 0 (!Params.followText (World.params w) "set-order"))) #[]) } (.ref s.heap.objs.size) "set" := ⟨_, g0, rfl⟩
    have y6 := F.called_set.init.lookup
    have y7 := F.called_set.init.bind (.ref s.heap.objs.size)
    repeat (any_goals (first | assumption | wp_step))
    refine codeAny_mono (codeAny_call_builtin (R := wants (fun r s₂ => r = .none ∧ ∃ h' tk T c, s₂ = { s with heap := h', toks := tk } ∧ c < 64 ∧ (∀ z, T z = true ↔ z ∈ xs) ∧ SetX (PySem.strKind prog w) h' s.heap.objs.size T c ∧ ∀ b o, s.heap.get? b = some o → h'.get? b = some o) E)
      F.called_set.init.plain F.entry_set_init (check_set_init_1 g1 ?_)) fun r₂ s₂ hr₂ => ?_
    · obtain ⟨⟨oc, od, oda, os⟩, ho, hc, nl, hd⟩ := hl
      simp only at hc hd
      subst hc; subst hd
      have ho1 : (s.heap.push (Obj.mk (Value.type "set") none (Data.set #[] 0 (SetTable.fresh 0 0 (!Params.followText (World.params w) "set-order"))) #[])).get? l = some { cls := .type "list", dict := od, data := .seq items nl, slots := os } := Heap.get?_push_of_some _ ho
      have y8 := F.sub_list_set
      have y9 := F.sub_list_frozenset
      have y10 : (Value.type "list" == Value.type "dict") = false := by decide
      have hl1 : (s.heap.push (Obj.mk (Value.type "set") none (Data.set #[] 0 (SetTable.fresh 0 0 (!Params.followText (World.params w) "set-order"))) #[])).IsList l items := ⟨_, ho1, rfl, nl, rfl⟩
      unfold Builtin.«set.__init__» noKeywords Builtin.Frozenset.updateFrom
      generalize hPI : pyIter = PI
      wp_walk
      subst hPI
      refine wpAny_pyIter_list hl1 (wpAny_bind (wpAny_runValue ?_))
      have lt : l < s.heap.objs.size := Heap.lt_size ho
      have hh3 : A.in1.in1.in1.handled = none := by simp [hh]
      have z1 : (s.heap.push (Obj.mk (Value.type "set") none (Data.set #[] 0 (SetTable.fresh 0 0 (!Params.followText (World.params w) "set-order"))) #[])).objs.size = s.heap.objs.size + 1 := Heap.size_push ..
      have n1 : l ≠ (s.heap.push (Obj.mk (Value.type "set") none (Data.set #[] 0 (SetTable.fresh 0 0 (!Params.followText (World.params w) "set-order"))) #[])).objs.size := by rw [z1]; exact Nat.ne_of_lt (Nat.lt_succ_of_lt lt)
      have n2 : s.heap.objs.size ∉ [(s.heap.push (Obj.mk (Value.type "set") none (Data.set #[] 0 (SetTable.fresh 0 0 (!Params.followText (World.params w) "set-order"))) #[])).objs.size, l] := by
        rw [z1]
        simp only [List.mem_cons, List.not_mem_nil, or_false, not_or]
        exact ⟨Nat.ne_of_lt (Nat.lt_succ_self _), Nat.ne_of_gt lt⟩
      have hsz : xs.length = items.size := by rw [← StrsAre.len_eq hi, Array.length_toList]
      have hval : ∀ (i : Nat) (v : Value), items[i]? = some v → ∃ z t, xs[i]? = some z ∧ v = .str z t := fun i v hv => by
        have k1 : items.toList[i]? = some v := by rw [Array.getElem?_toList]; exact hv
        have k2 : i < xs.length := by
          rw [← StrsAre.len_eq hi]
          exact (List.getElem?_eq_some_iff.mp k1).1
        obtain ⟨t, e⟩ := SS.strs_at hi i v k1
        exact ⟨xs[i], t, List.getElem?_eq_getElem k2, by rw [e, List.getD_eq_getElem?_getD, List.getElem?_eq_getElem k2]; rfl⟩
      refine walkX ((Walks.list hh3 _ l n1 items).toS) n2 hsz (by omega) hval (items.size - 0) 0 _ (by omega) (Nat.zero_le _) ⟨⟨_, Heap.get?_push_size _ rfl, rfl, rfl⟩, (hl1.push _)⟩ ⟨fun _ => false, 0, Nat.le_refl _, fun z => by simp, ?_⟩ fun s' mv hS => ?_
      · exact (freshX (knd := PySem.strKind prog w) (h := s.heap)).at fun o e => Heap.get?_push_of_some _ e
      · obtain ⟨h', g', d', tk', os'⟩ := s'
        have eg : g' = s.gens := mv.gens
        have ed : d' = s.drawn := mv.drawn
        have eo : os' = s.os := mv.os
        subst eg; subst ed; subst eo
        obtain ⟨T, c, w1, w2, w3⟩ := hS
        show wpAny _ _ _ _ _ _
        refine wpAny_pure ?_
        show wpAny _ _ (ret Value.none) _ _ _
        refine wpAny_pure ⟨rfl, h', tk', T, c, rfl, by omega, w2, w3, fun b o e => ?_⟩
        have lb := Heap.lt_size e
        refine mv.heap b o (fun z => ?_) (Heap.get?_push_of_some _ (Heap.get?_push_of_some _ e))
        simp only [List.mem_cons, List.not_mem_nil, or_false] at z
        rcases z with z | z
        · exact absurd z (Nat.ne_of_lt lb)
        · rw [z1] at z
          exact absurd z (Nat.ne_of_lt (Nat.lt_succ_of_lt lb))
    · rcases r₂ with e | fl₂
      · exact hr₂
      rcases fl₂ with _ | ob | _ | _
      case ok.ret =>
        obtain ⟨rfl, h', tk, T, c, rfl, w0, w1, w2, w3⟩ := hr₂
        repeat (any_goals (first | assumption | wp_step))
        exact q _ _ _ _ w0 w1 w2 w3
      all_goals exact hr₂.elim
  all_goals exact hr.elim
end
section
variable {X : Cx}
/-- set(xs), xs a list of fewer than 64 texts -/
def rSetL (K : PySem.W.Frag) (P : Program) (w : World) : List V → Hp → VK → Prop := fun vs H Q => ∃ (a : Addr) (xs : List Str), vs = [V.ref a] ∧ SqL K H a (xs.map V.str) ∧ xs.length < 64 ∧
  ∀ (p : Addr) (T : Str → Bool) (c : Nat), c < 64 → (∀ z, T z = true ↔ z ∈ xs) → H p = none → Q (.ref p) (upd H p (SetT P w p T c))
theorem strs_of_vals : ∀ {xs : List Str} {us : List Value}, Vals (xs.map V.str) us → StrsAre us xs
  | [], _, .nil => .nil
  | x :: xs, _, .cons r t => by
    obtain ⟨tk, rfl⟩ := r
    exact .cons x tk (strs_of_vals t)
theorem cr_setL (hc : X.calm = true) : CallR X (.type "set") (rSetL X.K X.prog X.w) := by
  intro pins s σ H vs us Q I r h
  obtain ⟨a, xs, rfl, ha, h64, q⟩ := h
  rw [Vals.ref1 r]
  obtain ⟨its, rv, pl, hz⟩ := I.list ha
  refine setOfL (I.ok.hd hc) pl.isList (by simpa using strs_of_vals rv) h64 fun h' tk T c c64 hT R k => ?_
  exact ⟨.ref s.heap.objs.size, upd H s.heap.objs.size (SetT X.prog X.w s.heap.objs.size T c), I.laid (t' := tk) k (Nat.le_refl _) (setT_new R), rfl, q _ T c c64 hT (I.hok.fresh (Nat.le_refl _))⟩
/-! ### t == (), t a tuple -/
def rEqE (K : PySem.W.Frag) : R2 := fun x y H Q => ∃ a b xs, x = .ref a ∧ y = .ref b ∧ SqT K H a xs ∧ SqT K H b [] ∧ Q (.bl (xs.length == 0)) H
theorem op_eqE (hu : X.A.units < cLine) : OpR X (compareOp .Eq) (rEqE X.K) := by
  intro pins s σ H x y v u Q I rx ry h
  obtain ⟨a, b, xs, rfl, rfl, ha, hb, q⟩ := h
  cases (show v = Value.ref a from rx)
  cases (show u = Value.ref b from ry)
  obtain ⟨us, r1, ⟨o1, p1, p2, n1, p3⟩, _⟩ := I.tuple ha
  obtain ⟨ws, r2, ⟨o2, q1, q2, n2, q3⟩, _⟩ := I.tuple hb
  cases r2
  have l1 : us.length = xs.length := r1.length.symm
  refine SeqAt.eq_tupleAt (e := fun _ => true) (items := us.toArray) (items2 := ([] : List Value).toArray) ⟨o1, p1, p2, n1, p3⟩ ⟨o2, q1, q2, n2, q3⟩ hu (fun j _ h2 => absurd h2 (by simp)) ⟨.bl (xs.length == 0), H, I, ?_, q⟩
  show Value.bool _ = Value.bool _
  simp [l1]
end
end Tf
set_option maxHeartbeats 4000000
namespace Tf
open PySem PySem.Spec PyProof.Rows L2 TL
/-! ### the reader's promises -/
def spKind (A : Ad) : Sp := fun vs H Q _ => ∃ (t : Tk) (rem : List Tk) (S : List Fm) (N : List Num), vs = [.ref A.r] ∧ RS A H (t :: rem) S N ∧ Q (.str t.1) H
def spFirst (A : Ad) : Sp := fun vs H Q _ => ∃ (t : Tk) (r rem : List Tk) (S : List Fm) (N : List Num), vs = [.ref A.r] ∧ RS A H rem S N ∧ A.toks = t :: r ∧ Q (.int (t.2.2 : Int)) H
def spTakes (A : Ad) : Sp := fun vs H Q _ => ∃ (z : Str) (t : Tk) (rem : List Tk) (S : List Fm) (N : List Num), vs = [.ref A.r, .str z] ∧ RS A H (t :: rem) S N ∧ (t.2.1 ≠ V.str z → Q (.bl false) H) ∧ (t.2.1 = V.str z → ∀ H', RS A H' rem S N → Kp A H H' → Q (.bl true) H')
def spValue (A : Ad) : Sp := fun vs H Q _ => ∃ (t : Tk) (rem : List Tk) (S : List Fm) (N : List Num), vs = [.ref A.r] ∧ RS A H (t :: rem) S N ∧ ∀ H', RS A H' rem S N → Kp A H H' → Q t.2.1 H'
def spGram : Sp := fun vs H Q _ => ∃ z : Str, vs = [.str z] ∧ Q (.bl (decide (z ∈ gramS))) H
def spHas (A : Ad) : Sp := fun vs H Q _ => ∃ (t : Tk) (rem : List Tk) (S : List Fm) (N : List Num), vs = [.ref A.r] ∧ RS A H (t :: rem) S N ∧ ((∃ n, IsName t n) → Q (.bl true) H) ∧ (NoName t → Q (.bl false) H)
def spChoice (K : PySem.W.Frag) (A : Ad) : Sp := fun vs H Q _ => ∃ (c : Addr) (cs : List Str) (z : Str) (t : Tk) (rem : List Tk) (S : List Fm) (N : List Num), vs = [.ref A.r, .ref c] ∧ SqT K H c (cs.map V.str) ∧ RS A H (t :: rem) S N ∧ t.2.1 = V.str z ∧ z ∈ cs ∧ ∀ H', RS A H' rem S N → Kp A H H' → Q (.str z) H'
def spExpect (A : Ad) : Sp := fun vs H Q _ => ∃ (z : Str) (t : Tk) (rem : List Tk) (S : List Fm) (N : List Num), vs = [.ref A.r, .str z] ∧ RS A H (t :: rem) S N ∧ t.2.1 = V.str z ∧ ∀ H', RS A H' rem S N → Kp A H H' → Q .non H'
def spName (A : Ad) : Sp := fun vs H Q _ => ∃ (n : Str) (t : Tk) (rem : List Tk) (S : List Fm) (N : List Num), vs = [.ref A.r] ∧ RS A H (t :: rem) S N ∧ IsName t n ∧ ∀ H', RS A H' rem S N → Kp A H H' → Q (.str n) H'
def spNumber (A : Ad) : Sp := fun vs H Q _ => ∃ (part : Str) (i : Int) (t : Tk) (rem : List Tk) (S : List Fm) (N : List Num), vs = [.ref A.r, .str part] ∧ RS A H (t :: rem) S N ∧ t.1 = ("number" : Str) ∧ t.2.1 = V.int i ∧ N.length ≤ 400 ∧ ∀ H', RS A H' rem S (N ++ [(part, i, t.2.2)]) → Kp A H H' → Q (.int i) H'
def spNames (A : Ad) : Sp := fun vs H Q _ => ∃ (t : Tk) (ts r : List Tk) (n : Str) (ns ks : List Str) (S : List Fm) (N : List Num), vs = [.ref A.r] ∧ RS A H (t :: (ts ++ r)) S N ∧ IsName t n ∧ NamesR ts ns ∧ ns.length ≤ 50 ∧ (∃ u r', r = u :: r' ∧ NoName u) ∧ (∀ ys : List Str, sortedS ys = true → ys.Nodup → (∀ z, z ∈ ys ↔ z ∈ n :: ns) → ys = ks) ∧
  ∀ v H', RS A H' r S N → Kp A H H' → PvAt H' (.ks ks) v → Q v H'
def spPart (A : Ad) : Sp := fun vs H Q _ => ∃ (part : Str) (a b : List Tk) (pv : Pv) (n : List Num) (S : List Fm) (N : List Num), vs = [.ref A.r, .str part] ∧ RS A H a S N ∧ PartR part a b pv n ∧ N.length ≤ 400 ∧ ∀ v H', RS A H' b S (N ++ n) → Kp A H H' → PvAt H' pv v → Q v H'
def spParts (A : Ad) : Sp := fun vs H Q _ => ∃ (w : Str) (ps : List Str) (a b : List Tk) (pvs : List Pv) (n : List Num) (S : List Fm) (N : List Num), vs = [.ref A.r, .str w] ∧ (w, ps) ∈ partsOf ∧ RS A H a S N ∧ PartsR ps a b pvs n ∧ N.length + n.length ≤ 400 ∧ ∀ t us H', RS A H' b S (N ++ n) → Kp A H H' → H' t = some (.tup us) → ArgsAt H' pvs us → us.length ≤ 3 → Q (.ref t) H'
def spEnter (A : Ad) : Sp := fun vs H Q _ => ∃ (t t2 : Tk) (r1 r : List Tk) (w : Str) (pvs : List Pv) (n : List Num) (ps : List Str) (S : List Fm) (N : List Num), vs = [.ref A.r] ∧ RS A H (t :: r1) S N ∧ t.2.1 = V.str w ∧ w ∈ pairS ∧ (w, ps) ∈ partsOf ∧ PartsR ps r1 (t2 :: r) pvs n ∧ t2.2.1 = V.str "(" ∧ N.length + n.length ≤ 400 ∧ S.length ≤ 400 ∧
  ∀ H', RS A H' r (.comma w pvs :: S) (N ++ n) → Kp A H H' → Q .non H'
def spStg (A : Ad) : Sp := fun vs H Q _ => ∃ (v : V) (p p' : Pl) (t1 : Tk) (r1 r : List Tk) (w : Str) (pvs : List Pv) (n : List Num) (ps : List Str) (S : List Fm) (N : List Num), vs = [.ref A.r, v] ∧ RS A H (t1 :: r1) S N ∧ PlAt H p v ∧ t1.2.1 = V.str w ∧ w ∈ stageS ++ singleS ∧ (w, ps) ∈ partsOf ∧ PartsR ps r1 r pvs n ∧ ApR w pvs p p' ∧ N.length + n.length ≤ 400 ∧
  ∀ v' H', RS A H' r S (N ++ n) → Kp A H H' → PlAt H' p' v' → Q v' H'
def spStart (A : Ad) : Sp := fun vs H Q _ => ∃ (P : Pl) (M : List Num) (e : Tk) (rem : List Tk) (S : List Fm) (N : List Num), vs = [.ref A.r] ∧ RS A H rem S N ∧ Rd P M e none rem S N ∧ M.length ≤ 400 ∧
  ∀ v p H' rem' S' N', RS A H' rem' S' N' → Rd P M e (some p) rem' S' N' → PlAt H' p v → rem'.length < rem.length → Kp A H H' → Q v H'
def spLeave (A : Ad) : Sp := fun vs H Q _ => ∃ (P : Pl) (M : List Num) (e : Tk) (v0 : V) (p0 : Pl) (t : Tk) (rem : List Tk) (f : Fm) (S : List Fm) (N : List Num), vs = [.ref A.r, v0] ∧ PlAt H p0 v0 ∧ RS A H (t :: rem) (f :: S) N ∧ t.2.1 ≠ V.str "|" ∧ Rd P M e (some p0) (t :: rem) (f :: S) N ∧ M.length ≤ 400 ∧
  ∀ v p H' rem' S' N', RS A H' rem' S' N' → Rd P M e (some p) rem' S' N' → PlAt H' p v → rem'.length < (t :: rem).length → Kp A H H' → Q v H'
def spPlan (A : Ad) : Sp := fun vs H Q _ => ∃ (P : Pl) (M : List Num) (e : Tk) (rem : List Tk), vs = [.ref A.r] ∧ RS A H rem [] [] ∧ Rd P M e none rem [] [] ∧ M.length ≤ 400 ∧ ∀ v H', RS A H' [e] [] M → PlAt H' P v → Kp A H H' → Q v H'
/-! ### the machine: what it says of tokens, numbers, parentheses -/
theorem Rd.nums {P : Pl} {M : List Num} {e : Tk} {o : Option Pl} {r : List Tk} {S : List Fm} {N : List Num} (h : Rd P M e o r S N) : N.length ≤ M.length := by
  induction h with
  | par hk h k ih => exact ih
  | pair h m hp hr h2 k ih => rw [List.length_append] at ih; omega
  | name h k ih => exact ih
  | bar hk h h1 m hp hr a k ih => rw [List.length_append] at ih; omega
  | close h k ih => exact ih
  | comma h k ih => exact ih
  | second h a k ih => exact ih
  | done h => exact Nat.le_refl _
theorem PartR.shrink {p : Str} {a b : List Tk} {v : Pv} {n : List Num} (h : PartR p a b v n) : b.length < a.length := by
  cases h with
  | names e h0 h hl hr hu => simp only [List.length_cons, List.length_append]; omega
  | _ => exact Nat.lt_succ_self _
theorem PartsR.shrink {ps : List Str} {a b : List Tk} {v : List Pv} {n : List Num} (h : PartsR ps a b v n) : b.length ≤ a.length := by
  induction h with
  | nil => exact Nat.le_refl _
  | cons h k ih => have := h.shrink; omega
/-- there are no more open parentheses than tokens to come -/
theorem Rd.deep {P : Pl} {M : List Num} {e : Tk} {o : Option Pl} {r : List Tk} {S : List Fm} {N : List Num} (h : Rd P M e o r S N) : S.length ≤ r.length := by
  induction h with
  | par hk h k ih => simp only [List.length_cons] at ih ⊢; omega
  | pair h m hp hr h2 k ih => have := hr.shrink; simp only [List.length_cons] at ih this ⊢; omega
  | name h k ih => simp only [List.length_cons] at ih ⊢; omega
  | bar hk h h1 m hp hr a k ih => have := hr.shrink; simp only [List.length_cons] at ih this ⊢; omega
  | close h k ih => simp only [List.length_cons] at ih ⊢; omega
  | comma h k ih => simp only [List.length_cons] at ih ⊢; omega
  | second h a k ih => simp only [List.length_cons] at ih ⊢; omega
  | done h => exact Nat.zero_le _
theorem RS.short {A : Ad} {H : Hp} {rem : List Tk} {S : List Fm} {N : List Num} (R : RS A H rem S N) : rem.length ≤ 400 := by
  obtain ⟨i, _, h, _⟩ := R.ob
  have := R.few
  rw [← h, List.length_drop]
  omega
theorem RS.tkok {A : Ad} {H : Hp} {t : Tk} {rem : List Tk} {S : List Fm} {N : List Num} (R : RS A H (t :: rem) S N) : TkOk t := by
  obtain ⟨_, _, _, _, _, _, _, h, _⟩ := R.tok
  exact h
theorem no_pair {t : Tk} {w : Str} (h : t.2.1 = V.str w) (m : w ∈ gramS) : NoName t := fun n ⟨_, h2, _, h4⟩ => by
  rw [h] at h2
  exact h4 (V.str.inj h2 ▸ m)
theorem no_sign {t : Tk} (h : t.1 = ("sign" : Str)) : NoName t := fun n ⟨h1, _⟩ => by
  rw [h] at h1
  exact absurd h1 (by decide +kernel)
/-- a list that is not the reader's -/
theorem RS.not {A : Ad} {H : Hp} {rem : List Tk} {S : List Fm} {N : List Num} {L : Addr} (R : RS A H rem S N) (n : H L = none) : L ≠ A.r ∧ L ≠ A.fa ∧ L ≠ A.na ∧ L ≠ A.ua := by
  obtain ⟨_, h1, _⟩ := R.ob
  obtain ⟨_, h2, _⟩ := R.fl
  obtain ⟨_, h3, _⟩ := R.nl
  obtain ⟨_, h4, _⟩ := R.ul
  exact ⟨(ne_of_none h1 n).symm, (ne_of_none h2 n).symm, (ne_of_none h3 n).symm, (ne_of_none h4 n).symm⟩
theorem RS.mut {A : Ad} {H : Hp} {rem : List Tk} {S : List Fm} {N : List Num} {L : Addr} {us : List V} {o : HO} (R : RS A H rem S N) (h : H L = some (.lst us)) (n : L ≠ A.r ∧ L ≠ A.fa ∧ L ≠ A.na ∧ L ≠ A.ua) : RS A (upd H L o) rem S N := by
  obtain ⟨⟨i, h1, h2⟩, ⟨xs, g1, g2⟩, ⟨ns, n1, n2⟩, ⟨us', u1, u2⟩, z1, z2, z3, z4, z5⟩ := R
  obtain ⟨y1, y2, y3, y4⟩ := n
  have kt : TupUp H (upd H L o) := TupUp.lst h
  exact ⟨⟨i, by rw [upd_ne y1.symm]; exact h1, h2⟩, ⟨xs, by rw [upd_ne y2.symm]; exact g1, g2.mono kt⟩, ⟨ns, by rw [upd_ne y3.symm]; exact n1, n2.mono kt⟩, ⟨us', by rw [upd_ne y4.symm]; exact u1, u2.mono kt⟩, z1, z2, z3, z4, z5⟩
theorem Kp.free {A : Ad} {H H1 : Hp} {rem : List Tk} {S : List Fm} {N : List Num} {L : Addr} (k : Kp A H H1) (R : RS A H1 rem S N) (n : H1 L = none) : H L = none := by
  obtain ⟨a, _, b, c⟩ := R.not n
  cases e : H L with
  | none => rfl
  | some o =>
    rw [k L o a b c e] at n
    cases n
theorem Kp.mut {A : Ad} {H H1 : Hp} {L : Addr} {o : HO} (k : Kp A H H1) (n : H L = none) : Kp A H (upd H1 L o) := fun b u x y z e => by
  rw [upd_ne (ne_of_none e n)]
  exact k b u x y z e
theorem Kp.at {A : Ad} {H H1 : Hp} {L : Addr} {o : HO} (k : Kp A H H1) (n : L ≠ A.r ∧ L ≠ A.fa ∧ L ≠ A.na ∧ L ≠ A.ua) (h : H L = some o) : H1 L = some o := k L o n.1 n.2.2.1 n.2.2.2 h
theorem sdec {a b : Str} (h : a = b) : V.bl (decide (V.str a = V.str b)) = .bl true := by rw [h, decide_eq_true rfl]
theorem sdecF {a b : Str} (h : a ≠ b) : V.bl (decide (V.str a = V.str b)) = .bl false := by rw [decide_eq_false (fun z => h (V.str.inj z))]
theorem num_not {p : Str} (h : p ∈ numS) : p ≠ ("comparison" : Str) ∧ p ≠ ("aggregate" : Str) ∧ p ≠ ("combination" : Str) ∧ p ≠ ("name" : Str) ∧ p ≠ ("names" : Str) := by
  have : ∀ p ∈ numS, p ≠ ("comparison" : Str) ∧ p ≠ ("aggregate" : Str) ∧ p ≠ ("combination" : Str) ∧ p ≠ ("name" : Str) ∧ p ≠ ("names" : Str) := by decide +kernel
  exact this p h
/-- two tuples, one behind the other -/
theorem catT1 {K : PySem.W.Frag} {a b : Addr} {xs ys : List V} {H : Hp} {Q : VK} (ha : H a = some (.tup xs)) (hb : H b = some (.tup ys)) (hx : xs ≠ []) (hl : xs.length + ys.length ≤ 1000) (q : ∀ p H', Same H H' → H' p = some (.tup (xs ++ ys)) → Q (.ref p) H') : rCatT K (.ref a) (.ref b) H Q :=
  ⟨a, b, xs, ys, rfl, rfl, .of ha, .of hb, hx, (by rw [sizeLine_eq]; omega), fun e => q a H (fun _ _ h => h) (by rw [e, List.append_nil]; exact ha), fun _ p np => q p _ (same_new np _) upd_same⟩
end Tf
set_option maxHeartbeats 4000000
namespace Tf
open PySem PySem.Spec PyProof.Rows L2 TL
/-! ### parse_plan's own promises -/
theorem lex_len {p : Nat} {l : List Nat} {d : List Tk} (h : Lex p l d) : d.length ≤ l.length := by
  induction h with
  | nil => exact Nat.le_refl _
  | blank h k ih => rw [List.length_cons]; omega
  | tok h hv k ih =>
    have := List.length_pos_iff.mpr h.ne
    rw [List.length_cons, List.length_append]
    omega
theorem lex_ok {p : Nat} {l : List Nat} {d : List Tk} (h : Lex p l d) (hl : l.length ≤ 1000) : ∀ t ∈ d, TkOk t := by
  induction h with
  | nil => intro t ht; exact absurd ht List.not_mem_nil
  | blank h k ih => exact ih (by rw [List.length_cons] at hl; omega)
  | @tok p w r kind v d h hv k ih =>
    rw [List.length_append] at hl
    intro t ht
    rcases List.mem_cons.mp ht with e | ht
    · rw [e]
      refine ⟨hv.flat, fun ek => ?_⟩
      rcases hv with ⟨z, _⟩ | ⟨_, z⟩
      · have ek' : kind = ("word" : Str) := ek
        rw [z] at ek'
        exact absurd ek' (by decide +kernel)
      · refine ⟨_, z, ?_⟩
        have : (⟨w.toArray⟩ : Str).length = w.length := by show w.toArray.size = _; simp
        rw [this, sizeLine_eq]
        omega
    · exact ih (by omega) t ht
def rngs : List (Str × Int × Int) := [("bound", -1000000000, 1000000000), ("factor", -1000, 1000), ("delay", 0, 1000), ("size", 1, 1000), ("slide", 1, 1000), ("gap", 0, 1000), ("before", 0, 1000), ("after", 0, 1000)]
/-- numbers in their ranges, each size with its slide behind it -/
def NumOk (n : Num) (next : Option Num) : Prop := (∃ e ∈ rngs, e.1 = n.1 ∧ e.2.1 ≤ n.2.1 ∧ n.2.1 ≤ e.2.2) ∧ (n.1 = ("size" : Str) → ∃ m, next = some m ∧ 1 ≤ m.2.1 ∧ m.2.1 ≤ 1000 ∧ n.2.1 ≤ 10 * m.2.1)
def NumsOk (M : List Num) : Prop := ∀ i n, M[i]? = some n → NumOk n M[i + 1]?
theorem NumL.get {H : Hp} : ∀ {xs : List V} {M : List Num} {i : Nat} {x : V}, NumL H xs M → xs[i]? = some x → ∃ n t, M[i]? = some n ∧ x = .ref t ∧ H t = some (.tup [.str n.1, .int n.2.1, .int (n.2.2 : Int)])
  | [], [], _, _, _, e => by simp at e
  | x :: xs, q :: qs, 0, u, ⟨⟨t, ex, h⟩, r⟩, e => ⟨q, t, rfl, (Option.some.inj e).symm.trans ex, h⟩
  | x :: xs, q :: qs, i + 1, u, ⟨_, r⟩, e => r.get (i := i) e
theorem NumL.at {H : Hp} : ∀ {xs : List V} {M : List Num} {i : Nat} {n : Num}, NumL H xs M → M[i]? = some n → ∃ t, xs[i]? = some (.ref t) ∧ H t = some (.tup [.str n.1, .int n.2.1, .int (n.2.2 : Int)])
  | [], [], _, _, _, e => by simp at e
  | x :: xs, q :: qs, 0, u, ⟨⟨t, ex, h⟩, r⟩, e => ⟨t, by rw [ex] <;> rfl, by rw [← Option.some.inj e]; exact h⟩
  | x :: xs, q :: qs, i + 1, u, ⟨_, r⟩, e => r.at (i := i) e
theorem subs_lv : ∀ (p : Pl) (l : Nat), ∀ q ∈ subs l p, q.2 + 1 ≤ l + p.size
  | .src _, l, q, h => by rw [List.mem_singleton.mp h]; exact Nat.le_refl _
  | .stage _ p, l, q, h => by
    rcases List.mem_cons.mp h with e | h
    · rw [e]; show l + 1 ≤ l + (p.size + 1); omega
    · have := subs_lv p (l + 1) q h; show _ ≤ l + (p.size + 1); omega
  | .once p, l, q, h => by
    rcases List.mem_cons.mp h with e | h
    · rw [e]; show l + 1 ≤ l + (p.size + 1); omega
    · have := subs_lv p (l + 1) q h; show _ ≤ l + (p.size + 1); omega
  | .windows _ _ _ p, l, q, h => by
    rcases List.mem_cons.mp h with e | h
    · rw [e]; show l + 1 ≤ l + (p.size + 1); omega
    · have := subs_lv p (l + 1) q h; show _ ≤ l + (p.size + 1); omega
  | .sittings _ _ p, l, q, h => by
    rcases List.mem_cons.mp h with e | h
    · rw [e]; show l + 1 ≤ l + (p.size + 1); omega
    · have := subs_lv p (l + 1) q h; show _ ≤ l + (p.size + 1); omega
  | .two _ x y, l, q, h => by
    rcases List.mem_cons.mp h with e | h
    · rw [e]; show l + 1 ≤ l + (x.size + y.size + 1); omega
    · rcases List.mem_append.mp h with h | h
      · have := subs_lv x (l + 1) q h; show _ ≤ l + (x.size + y.size + 1); omega
      · have := subs_lv y (l + 1) q h; show _ ≤ l + (x.size + y.size + 1); omega
  | .near _ _ _ x y, l, q, h => by
    rcases List.mem_cons.mp h with e | h
    · rw [e]; show l + 1 ≤ l + (x.size + y.size + 1); omega
    · rcases List.mem_append.mp h with h | h
      · have := subs_lv x (l + 1) q h; show _ ≤ l + (x.size + y.size + 1); omega
      · have := subs_lv y (l + 1) q h; show _ ≤ l + (x.size + y.size + 1); omega
def spInit (C : Addr) : Sp := fun vs H Q _ => ∃ (x dx : Addr) (z : Str) (due : List Tk), vs = [.ref x, .str z] ∧ H x = some (.ins C dx []) ∧ Lex 0 (tl z) due ∧ z.length ≤ 399 ∧
  ∀ (A : Ad) H', A.C = C → A.r = x → A.toks = due ++ [endTk z.length] → RS A H' A.toks [] [] → (∀ b o, b ≠ x → H b = some o → H' b = some o) → H A.na = none → H A.ua = none → Q .non H'
def spRange : Sp := fun vs H Q _ => ∃ (e : Str × Int × Int) (v : Int), e ∈ rngs ∧ vs = [.str e.1, .int v] ∧ Q (.bl (decide (e.2.1 ≤ v) && decide (v ≤ e.2.2))) H
def spWide : Sp := fun vs H Q _ => ∃ a b : Int, vs = [.int a, .int b] ∧ 1 ≤ b ∧ b ≤ 1000 ∧ a ≤ 10 * b ∧ Q (.bl false) H
def spNums : Sp := fun vs H Q _ => ∃ (a : Addr) (xs : List V) (M : List Num), vs = [.ref a] ∧ H a = some (.lst xs) ∧ NumL H xs M ∧ NumsOk M ∧ ∀ H', Same H H' → Q .non H'
def spExtent : Sp := fun vs H Q _ => ∃ (v : V) (p : Pl) (i : Int), vs = [v, .int i] ∧ PlAt H p v ∧ p.size ≤ 10 ∧ ∀ H', Same H H' → Q .non H'
def spParse : Sp := fun vs H Q _ => ∃ (z : Str) (due : List Tk) (P : Pl) (M : List Num), vs = [.str z] ∧ Lex 0 (tl z) due ∧ z.length ≤ 399 ∧ Rd P M (endTk z.length) none (due ++ [endTk z.length]) [] [] ∧ NumsOk M ∧ P.size ≤ 10 ∧ M.length ≤ 400 ∧ ∀ v H', PlAt H' P v → Same H H' → Q v H'
structure RdTM (K : PySem.W.Frag) (C f : Addr) : Prop extends RdT K C where
  mk0 ::
  mk : Mk K C f
end Tf
set_option maxHeartbeats 8000000
namespace Tf
open PySem PySem.Spec PyProof.Rows L2 TL
def topS (i : Nat) : Stmt := PySem.Challenge.pw_tidefold_k03_plans_are_read.main.body.getD i (.Pass ⟨0, 0, 0, 0⟩)
abbrev s_next : Stmt := (topS 37)
abbrev n_next : List Str := ["draw", "many", "found", "cell"]
theorem sc_next : FnScope n_next ["draw", "many"] (defScope s_next) := ⟨rfl, rfl, rfl, by decide +kernel, rfl, by decide +kernel, by decide +kernel⟩
abbrev s_same : Stmt := (topS 38)
abbrev n_same : List Str := ["actual", "due", "k"]
theorem sc_same : FnScope n_same ["actual", "due"] (defScope s_same) := ⟨rfl, rfl, rfl, by decide +kernel, rfl, by decide +kernel, by decide +kernel⟩
abbrev s_draw : Stmt := (topS 36)
abbrev n_draw : List Str := ["script"]
theorem sc_draw : FnScope n_draw ["script"] (defScope s_draw) := ⟨rfl, rfl, rfl, by decide +kernel, rfl, by decide +kernel, by decide +kernel⟩
section
variable {P : Program} {w : World} {K : PySem.W.Frag} {mg : Str → Option Value} {base : Heap}
set_option maxHeartbeats 8000000 in
theorem ok_next {f : Addr} {fd : FuncData} (D : DefAt K mg "_law_next" s_next ["draw", "many"] f fd) (z_int : mg "int" = none) (z_len : mg "len" = none) (z_abs : mg "abs" = none) :
    FnOk P w K mg base CX0 1 f fd ["draw", "many"] spNext := by
  refine D.F.ok sc_next (fun vs H Q E h => ?_) (fun cdv A outer s H vs Q E hr h => ?_)
  · obtain ⟨d, sc, m, rfl, _⟩ := h
    rfl
  obtain ⟨d, sc, m, rfl, h1, h2, ⟨ns, i, big, st, hd, hs, hne, hb, hst0, hst1⟩, q⟩ := h
  refine ⟨_, (pss_cons (ps_if (pt_cmpR op_gt (pe_ix ix_list (pv 0) pe_int (fun _ _ => rfl)) pe_int (nomark _)) (pss_cons (ps_set (i := 2) sc_next.nd rfl (by first | exact Or.inl rfl | exact Or.inr rfl) (pe_op op_mod (pe_callTy call_int1 (by rfl) z_int boot_int (pa_cons (pe_ix ix_list (pv 0) pe_int (fun _ _ => rfl)) pa_nil)) (pv 1))) (pss_cons (ps_asg (pe_op op_fdiv (pe_ix ix_list (pv 0) pe_int (fun _ _ => rfl)) (pv 1)) (pg_sub (pv 0) pe_int set_list)) (pss_one (ps_ret (pv 2))))) pss_nil) (pss_cons (ps_if (pt_cmpR op_lt (pe_ix ix_list (pv 0) pe_int (fun _ _ => rfl)) (pe_callB call_len_seq (by rfl) z_len boot_len (pa_cons (pe_ix ix_list (pv 0) pe_int (fun _ _ => rfl)) pa_nil)) (nomark _)) (pss_cons (ps_set (i := 3) sc_next.nd rfl (by first | exact Or.inl rfl | exact Or.inr rfl) (pe_callB call_abs (by rfl) z_abs boot_abs (pa_cons (pe_ix ix_list (pe_ix ix_list (pv 0) pe_int (fun _ _ => rfl)) (pe_ix ix_list (pv 0) pe_int (fun _ _ => rfl)) (fun _ _ => rfl)) pa_nil))) (pss_cons (ps_asg (pe_op op_add (pe_ix ix_list (pv 0) pe_int (fun _ _ => rfl)) pe_int) (pg_sub (pv 0) pe_int set_list)) (pss_cons (ps_if (pt_cmpR op_ge (pv 3) (pe_op op_pow pe_int pe_int) (nomark _)) (pss_cons (ps_asg (pe_op op_fdiv (pv 3) (pv 1)) (pg_sub (pv 0) pe_int set_list)) (pss_one (ps_ret (pe_op op_mod (pe_callTy call_int1 (by rfl) z_int boot_int (pa_cons (pv 3) pa_nil)) (pv 1))))) pss_nil) (pss_one (ps_asg (pe_op op_mod (pe_callTy call_int1 (by rfl) z_int boot_int (pa_cons (pe_op op_add (pe_op op_add (pe_op op_mul (pe_ix ix_list (pv 0) pe_int (fun _ _ => rfl)) pe_int) (pv 3)) pe_int) pa_nil)) pe_int) (pg_sub (pv 0) pe_int set_list)))))) (pss_one (ps_asg (pe_op op_mod (pe_callTy call_int1 (by rfl) z_int boot_int (pa_cons (pe_op op_add (pe_op op_mul (pe_ix ix_list (pv 0) pe_int (fun _ _ => rfl)) pe_int) pe_int) pa_nil)) pe_int) (pg_sub (pv 0) pe_int set_list)))) (pss_one (ps_ret (pe_op op_mod (pe_op op_fdiv (pe_callTy call_int1 (by rfl) z_int boot_int (pa_cons (pe_op op_mod (pe_op op_mul (pe_ix ix_list (pv 0) pe_int (fun _ _ => rfl)) pe_int) pe_int) pa_nil)) pe_int) (pv 1)))))), ?_⟩
  have fin : ∀ (H0 H1 : Hp) (i' big' st' : Int) (j : Nat), Up d H H0 → H0 sc = some (.lst (ns.map V.int)) → i' = j → 0 ≤ big' → 0 ≤ st' → st' < 2147483647 → H1 = upd H0 d (.lst [.ref sc, .int i', .int big', .int st']) → Dr sc H1 d ∧ Up d H H1 := by
    intro H0 H1 i' big' st' j u0 e0 ei e1 e2 e3 e4
    subst ei e4
    exact ⟨⟨ns, j, big', st', upd_same, by rw [upd_ne hne]; exact e0, hne, e1, e2, e3⟩, u0.trans Up.at⟩
  have em : ∀ a b : Int, 0 < b → 0 ≤ a % b ∧ a % b < b := fun a b hb => ⟨Int.emod_nonneg a (by omega), Int.emod_lt_of_pos a hb⟩
  -- if draw[2] > 0
  refine ⟨_, rfl, d, _, _, _, rfl, rfl, .of hd, rfl, _, _, rfl, rfl, _, rfl, ite2 (fun e => ?_) (fun e => ?_)⟩
  · refine ⟨_, rfl, d, _, _, _, rfl, rfl, .of hd, rfl, .inl ⟨_, rfl, ?_⟩⟩
    refine ⟨_, rfl, _, _, rfl, rfl, (by show (0:Int) < m; omega), ?_⟩
    refine ⟨_, rfl, d, _, _, _, rfl, rfl, .of hd, rfl, _, rfl, _, _, rfl, rfl, ⟨by omega, by omega⟩, _, rfl, d, _, _, 2, rfl, rfl, hd, rfl, _, rfl, ?_⟩
    obtain ⟨r1, r2⟩ := fin H _ i (big / m) st i Up.refl hs rfl (Int.ediv_nonneg hb (by omega)) hst0 hst1 rfl
    exact q _ _ (em big m (by omega)).1 (em big m (by omega)).2 r1 r2
  have last : ∀ (H1 : Hp) (i' big' st' : Int) (j : Nat), Up d H H1 → H1 sc = some (.lst (ns.map V.int)) → i' = j → 0 ≤ big' → 0 ≤ st' → st' < 2147483647 → H1 d = some (.lst [.ref sc, .int i', .int big', .int st']) → ∀ x : Int, Q (.int (x % m)) H1 := by
    intro H1 i' big' st' j u0 e0 ei e1 e2 e3 e4 x
    subst ei
    exact q _ _ (em x m (by omega)).1 (em x m (by omega)).2 ⟨ns, j, big', st', e4, e0, hne, e1, e2, e3⟩ u0
  -- if draw[1] < len(draw[0])
  refine ⟨_, rfl, d, _, _, _, rfl, rfl, .of hd, rfl, _, rfl, d, _, _, _, rfl, rfl, .of hd, rfl, sc, _, rfl, .inl (.of hs), _, _, rfl, rfl, _, rfl, ite2 (fun e => ?_) (fun e => ?_)⟩
  · have hi : i < ns.length := by
      have e' := of_decide_eq_true e
      rw [List.length_map] at e'
      omega
    -- cell = abs(draw[0][draw[1]])
    refine ⟨_, rfl, d, _, _, _, rfl, rfl, .of hd, rfl, _, rfl, d, _, _, _, rfl, rfl, .of hd, rfl, sc, _, _, _, rfl, rfl, .of hs, atI_nat (j := i) (v := .int ns[i]) (by rw [List.getElem?_map, List.getElem?_eq_getElem hi]; rfl), _, rfl, ?_⟩
    -- draw[1] = draw[1] + 1
    refine ⟨_, rfl, d, _, _, _, rfl, rfl, .of hd, rfl, _, _, rfl, rfl, _, rfl, d, _, _, 1, rfl, rfl, hd, rfl, ?_⟩
    have hs1 : ∀ o, upd H d o sc = some (.lst (ns.map V.int)) := fun o => by rw [upd_ne hne]; exact hs
    have c0 : (0 : Int) ≤ (if ns[i] < 0 then -ns[i] else ns[i]) := by split <;> omega
    generalize (if ns[i] < 0 then -ns[i] else ns[i]) = c at c0
    -- if cell >= 10 ** 18
    refine ⟨_, rfl, _, _, rfl, rfl, ⟨by decide, by decide, by decide⟩, _, _, rfl, rfl, _, rfl, ite2 (fun e => ?_) (fun e => ?_)⟩
    · refine ⟨_, rfl, _, rfl, _, _, rfl, rfl, ⟨by omega, by omega⟩, _, rfl, d, _, _, 2, rfl, rfl, upd_same, rfl, ?_⟩
      refine ⟨_, rfl, .inl ⟨_, rfl, _, rfl, _, _, rfl, rfl, (by show (0:Int) < m; omega), ?_⟩⟩
      refine last _ ((i : Int) + 1) (c / m) st (i + 1) (Up.at.trans Up.at) (by rw [upd_ne hne]; exact hs1 _) (by omega) (Int.ediv_nonneg c0 (by omega)) hst0 hst1 upd_same _
    · refine ⟨_, rfl, d, _, _, _, rfl, rfl, .of upd_same, rfl, _, _, rfl, rfl, .inr ⟨by decide, by decide⟩, _, rfl, _, _, rfl, rfl, _, _, rfl, rfl, .inl ⟨_, rfl, _, _, rfl, rfl, (by show (0:Int) < _; decide), _, rfl, d, _, _, 3, rfl, rfl, upd_same, rfl, ?_⟩⟩
      refine ⟨_, rfl, d, _, _, _, rfl, rfl, .of upd_same, rfl, _, _, rfl, rfl, .inr ⟨by decide, by decide⟩, _, _, rfl, rfl, (by show (0:Int) < _; decide), .inl ⟨_, rfl, _, _, rfl, rfl, ⟨by decide, by decide⟩, _, rfl, _, _, rfl, rfl, (by show (0:Int) < m; omega), ?_⟩⟩
      have e3 := em (st * 48271 + c + 11) 2147483647 (by decide)
      exact last _ ((i : Int) + 1) big _ (i + 1) (Up.at.trans Up.at) (by rw [upd_ne hne]; exact hs1 _) (by omega) hb e3.1 e3.2 upd_same _
  · refine ⟨_, rfl, d, _, _, _, rfl, rfl, .of hd, rfl, _, _, rfl, rfl, .inr ⟨by decide, by decide⟩, _, _, rfl, rfl, .inl ⟨_, rfl, _, _, rfl, rfl, (by show (0:Int) < _; decide), _, rfl, d, _, _, 3, rfl, rfl, hd, rfl, ?_⟩⟩
    refine ⟨_, rfl, d, _, _, _, rfl, rfl, .of upd_same, rfl, _, _, rfl, rfl, .inr ⟨by decide, by decide⟩, _, _, rfl, rfl, (by show (0:Int) < _; decide), .inl ⟨_, rfl, _, _, rfl, rfl, ⟨by decide, by decide⟩, _, rfl, _, _, rfl, rfl, (by show (0:Int) < m; omega), ?_⟩⟩
    have e3 := em (st * 48271 + 12345) 2147483647 (by decide)
    exact last _ (i : Int) big _ i Up.at (by rw [upd_ne hne]; exact hs) rfl hb e3.1 e3.2 upd_same _
theorem same0 {f : Addr} {fd : FuncData} : FnOk P w K mg base CX0 0 f fd ["actual", "due"] (spS 0) := by
  have no : ∀ vs H Q E, ¬ spS 0 vs H Q E := fun vs H Q E h => by
    obtain ⟨n, x, y, e, _⟩ := h
    omega
  exact ⟨fun vs H Q E h => absurd h (no vs H Q E), fun A outer s H args us vs Q E _ _ _ _ h => absurd h (no vs H Q E)⟩
theorem ok_same1 {f : Addr} {fd : FuncData} {k : Nat} (D_same : DefAt K mg "_law_same" s_same ["actual", "due"] f fd) (G_same : FnOk P w K mg base CX0 k f fd ["actual", "due"] (spS k))
    (z_isinstance : mg "isinstance" = none) (z_list : mg "list" = none) (z_tuple : mg "tuple" = none) (z_bool : mg "bool" = none) (z_str : mg "str" = none) (z_int : mg "int" = none) (z_len : mg "len" = none) (z_all : mg "all" = none) (z_range : mg "range" = none) :
    FnOk P w K mg base CX0 (k + 1) f fd ["actual", "due"] (spS (k + 1)) := by
  refine D_same.F.ok sc_same (fun vs H Q E h => ?_) (fun cdv A outer s H vs Q E hr h => ?_)
  · obtain ⟨n, x, y, _, rfl, _⟩ := h
    rfl
  obtain ⟨n, x, y, hk, rfl, he, q⟩ := h
  obtain rfl : k = n := by omega
  refine ⟨_, (pss_cons (ps_if (pt_val (pe_callB call_isiT (by rfl) z_isinstance boot_isinstance (pa_cons (pv 1) (pa_cons (pe_tup (pa_cons (pe_bltn (v := .ty "list") (by rfl) z_list boot_list rfl) (pa_cons (pe_bltn (v := .ty "tuple") (by rfl) z_tuple boot_tuple rfl) pa_nil))) pa_nil)))) (pss_cons (ps_if (PW.pt (pw_or (pt_cmpR op_ne (pe_callB call_isi (by rfl) z_isinstance boot_isinstance (pa_cons (pv 1) (pa_cons (pe_bltn (v := .ty "list") (by rfl) z_list boot_list rfl) pa_nil))) (pe_callB call_isi (by rfl) z_isinstance boot_isinstance (pa_cons (pv 0) (pa_cons (pe_bltn (v := .ty "list") (by rfl) z_list boot_list rfl) pa_nil))) (nomark _)) (pw_or1 (pt_cmpR op_ne (pe_callB call_isi (by rfl) z_isinstance boot_isinstance (pa_cons (pv 1) (pa_cons (pe_bltn (v := .ty "tuple") (by rfl) z_tuple boot_tuple rfl) pa_nil))) (pe_callB call_isi (by rfl) z_isinstance boot_isinstance (pa_cons (pv 0) (pa_cons (pe_bltn (v := .ty "tuple") (by rfl) z_tuple boot_tuple rfl) pa_nil))) (nomark _))))) (pss_one (ps_ret pe_bl)) pss_nil) (pss_cons (ps_if (pt_cmpR op_ne (pe_callB call_len_seq (by rfl) z_len boot_len (pa_cons (pv 0) pa_nil)) (pe_callB call_len_seq (by rfl) z_len boot_len (pa_cons (pv 1) pa_nil)) (nomark _)) (pss_one (ps_ret pe_bl)) pss_nil) (pss_one (ps_ret (pe_callB (cr_all rfl) (by rfl) z_all boot_all (pa_cons (pe_lc (own := [("k", 2)]) (g := gName 2) (tt := tYes) (by rfl) sc_same.nd (pi_range1 (by rfl) z_range (pa_cons (pe_callB call_len_seq (by rfl) z_len boot_len (pa_cons (pv 1) pa_nil)) pa_nil)) (blkOk_by (own := [("k", 2)]) (N := n_same) (sc := defScope s_same) (by decide +kernel)) (fun _ _ _ _ _ => (pg_name (i := 2) sc_same.nd rfl (by first | exact Or.inl rfl | exact Or.inr rfl))) (fun _ _ _ _ _ => pts_nil) (fun _ _ _ _ _ => (pe_call G_same (hr.mono (by omega)) (by rfl) D_same.m D_same.F.kp D_same.b .nil pass0 (pa_cons (pe_ix (r := rIx K) ix_seq (pv 0) (pv 2) (fun _ _ => rfl)) (pa_cons (pe_ix (r := rIx K) ix_seq (pv 1) (pv 2) (fun _ _ => rfl)) pa_nil))))) pa_nil)))))) pss_nil) (pss_cons (ps_if (pt_cmpR op_isN (pv 1) pe_non (nomark _)) (pss_one (ps_ret (pe_cmpR op_isN (pv 0) pe_non (nomark _)))) pss_nil) (pss_cons (ps_if (pt_cmpR op_ne (pe_callB call_isi (by rfl) z_isinstance boot_isinstance (pa_cons (pv 1) (pa_cons (pe_bltn (v := .ty "bool") (by rfl) z_bool boot_bool rfl) pa_nil))) (pe_callB call_isi (by rfl) z_isinstance boot_isinstance (pa_cons (pv 0) (pa_cons (pe_bltn (v := .ty "bool") (by rfl) z_bool boot_bool rfl) pa_nil))) (nomark _)) (pss_one (ps_ret pe_bl)) pss_nil) (pss_cons (ps_if (pt_val (pe_callB call_isi (by rfl) z_isinstance boot_isinstance (pa_cons (pv 1) (pa_cons (pe_bltn (v := .ty "str") (by rfl) z_str boot_str rfl) pa_nil)))) (pss_one (ps_ret (pe_and (pe_callB call_isi (by rfl) z_isinstance boot_isinstance (pa_cons (pv 0) (pa_cons (pe_bltn (v := .ty "str") (by rfl) z_str boot_str rfl) pa_nil))) (pe_one (pe_cmpR op_eq (pv 0) (pv 1) (nomark _)))))) pss_nil) (pss_one (ps_ret (pe_and (pe_callB call_isi (by rfl) z_isinstance boot_isinstance (pa_cons (pv 0) (pa_cons (pe_bltn (v := .ty "int") (by rfl) z_int boot_int rfl) pa_nil))) (pe_one (pe_cmpR op_eq (pv 0) (pv 1) (nomark _)))))))))), ?_⟩
  have two : (2 : Nat) ≤ sizeLine := by decide
  have cls2 : Paired ClsV [V.ty "list", V.ty "tuple"] [Value.type "list", Value.type "tuple"] := .cons (.ty "list") (.cons (.ty "tuple") .nil)
  have he' : Eq0 x y ∨ ∃ (k' : Nat) (t : Bool) (a b : Addr) (xs ys : List V), k = k' + 1 ∧ x = .ref a ∧ y = .ref b ∧ SeqH H t a xs ∧ SeqH H t b ys ∧ xs.length = ys.length ∧ ys.length ≤ 1000 ∧ ∀ (i : Nat) u v, xs[i]? = some u → ys[i]? = some v → Eq2 H k' u v := by
    cases k with
    | zero => exact .inl he
    | succ k =>
      rcases he with h | ⟨t, a, b, xs, ys, h⟩
      · exact .inl h
      · exact .inr ⟨k, t, a, b, xs, ys, rfl, h⟩
  rcases he' with (⟨i, rfl, rfl⟩ | ⟨z, rfl, rfl⟩ | ⟨rfl, rfl⟩) | ⟨k', t, a, b, xs, ys, rfl, rfl, rfl, h1, h2, h3, h4, h5⟩
  · refine ⟨_, rfl, two, fun tp np => ⟨_, tp, _, _, _, false, rfl, upd_same, cls2, .base (.int i), kit_no K "int" (by decide +kernel) (by decide +kernel), _, rfl, iteF ?_⟩⟩
    refine ⟨_, rfl, rfl, _, rfl, ite2 (fun e => nomatch of_decide_eq_true e) (fun _ => ?_)⟩
    refine ⟨_, rfl, _, _, _, _, false, rfl, .ty "bool", .base (.int i), kit_ty (by decide +kernel), _, rfl, _, _, _, _, false, rfl, .ty "bool", .base (.int i), kit_ty (by decide +kernel), rfl, _, rfl, iteNS rfl ?_⟩
    refine ⟨_, rfl, _, _, _, _, false, rfl, .ty "str", .base (.int i), kit_ty (by decide +kernel), _, rfl, iteF ?_⟩
    refine ⟨_, rfl, _, _, _, _, true, rfl, .ty "int", .base (.int i), kit_ty (by decide +kernel), _, rfl, iteT ⟨_, rfl, _, rfl, rfl, ?_⟩⟩
    rw [decide_eq_true rfl]
    exact q _ (same_new np _)
  · refine ⟨_, rfl, two, fun tp np => ⟨_, tp, _, _, _, false, rfl, upd_same, cls2, .base (.str z), kit_no K "str" (by decide +kernel) (by decide +kernel), _, rfl, iteF ?_⟩⟩
    refine ⟨_, rfl, rfl, _, rfl, ite2 (fun e => nomatch of_decide_eq_true e) (fun _ => ?_)⟩
    refine ⟨_, rfl, _, _, _, _, false, rfl, .ty "bool", .base (.str z), kit_ty (by decide +kernel), _, rfl, _, _, _, _, false, rfl, .ty "bool", .base (.str z), kit_ty (by decide +kernel), rfl, _, rfl, iteNS rfl ?_⟩
    refine ⟨_, rfl, _, _, _, _, true, rfl, .ty "str", .base (.str z), kit_ty (by decide +kernel), _, rfl, iteT ?_⟩
    refine ⟨_, rfl, _, _, _, _, true, rfl, .ty "str", .base (.str z), kit_ty (by decide +kernel), _, rfl, iteT ⟨_, rfl, _, rfl, rfl, ?_⟩⟩
    rw [decide_eq_true rfl]
    exact q _ (same_new np _)
  · refine ⟨_, rfl, two, fun tp np => ⟨_, tp, _, _, _, false, rfl, upd_same, cls2, .base .non, kit_no K "NoneType" (by decide +kernel) (by decide +kernel), _, rfl, iteF ?_⟩⟩
    refine ⟨_, rfl, rfl, _, rfl, ite2 (fun e => ?_) (fun e => absurd (decide_eq_true rfl) e)⟩
    refine ⟨_, rfl, rfl, ?_⟩
    rw [decide_eq_true rfl]
    exact q _ (same_new np _)
  · refine ⟨_, rfl, two, fun tp np => ?_⟩
    have s1 := same_new np (.tup [V.ty "list", V.ty "tuple"])
    have h1' : SeqH _ t a xs := s1 _ _ h1
    have h2' : SeqH _ t b ys := s1 _ _ h2
    refine ⟨_, tp, _, _, _, true, rfl, upd_same, cls2, seq_ty h2', kit_seq K t, _, rfl, iteT ?_⟩
    refine ⟨_, rfl, _, _, _, _, _, rfl, .ty "list", seq_ty h2', kit_l K t, _, rfl, _, _, _, _, _, rfl, .ty "list", seq_ty h1', kit_l K t, rfl, _, rfl, iteNS rfl ?_⟩
    refine ⟨_, rfl, _, _, _, _, _, rfl, .ty "tuple", seq_ty h2', kit_t K t, _, rfl, _, _, _, _, _, rfl, .ty "tuple", seq_ty h1', kit_t K t, rfl, _, rfl, iteNS rfl ?_⟩
    refine ⟨_, rfl, a, _, rfl, seq_or h1', _, rfl, b, _, rfl, seq_or h2', rfl, _, rfl, iteNS (congrArg (fun n : Nat => V.int (n : Int)) h3) ?_⟩
    refine ⟨_, rfl, b, _, rfl, seq_or h2', _, rfl, by omega, by omega, fun Dl nD => ?_⟩
    refine lc_range (lo := 0) (n := ys.length) (fun i H' => H' Dl = some (.lst ((List.replicate i true).map V.bl)) ∧ Same (upd H tp (.tup [V.ty "list", V.ty "tuple"])) H') ⟨upd_same, same_new nD _⟩ (fun i H' hi hP => ?_) (fun H' hP => ?_)
    · obtain ⟨p1, p2⟩ := hP
      obtain ⟨u, hu⟩ : ∃ u, xs[i]? = some u := ⟨_, List.getElem?_eq_getElem (by omega)⟩
      obtain ⟨v, hv⟩ : ∃ v, ys[i]? = some v := ⟨_, List.getElem?_eq_getElem hi⟩
      refine ⟨rfl, ?_⟩
      refine ⟨_, rfl, _, rfl, rix_of (p2 _ _ h1') (Int.zero_add _) hu ⟨_, rfl, _, rfl, rix_of (p2 _ _ h2') (Int.zero_add _) hv ?_⟩⟩
      refine ⟨k', u, v, rfl, rfl, ((h5 i u v hu hv).mono s1).mono p2, fun H4 s4 => ?_⟩
      refine ⟨_, s4 _ _ p1, small1000 (by rw [List.length_map, List.length_replicate]; omega), ?_, fun b o eb => ?_⟩
      · rw [upd_same, List.replicate_succ', List.map_append]
        rfl
      · rw [upd_ne (ne_of_none eb nD)]
        exact s4 _ _ (p2 _ _ eb)
    · obtain ⟨p1, p2⟩ := hP
      refine ⟨Dl, List.replicate ys.length true, rfl, .of p1, ?_⟩
      have e : (List.replicate ys.length true).all id = true := by simp
      rw [e]
      exact q _ (fun b o eb => p2 _ _ (s1 _ _ eb))
theorem ok_same {f : Addr} {fd : FuncData} (D_same : DefAt K mg "_law_same" s_same ["actual", "due"] f fd)
    (z_isinstance : mg "isinstance" = none) (z_list : mg "list" = none) (z_tuple : mg "tuple" = none) (z_bool : mg "bool" = none) (z_str : mg "str" = none) (z_int : mg "int" = none) (z_len : mg "len" = none) (z_all : mg "all" = none) (z_range : mg "range" = none) :
    ∀ k : Nat, FnOk P w K mg base CX0 k f fd ["actual", "due"] (spS k)
  | 0 => same0
  | k + 1 => ok_same1 D_same (ok_same D_same z_isinstance z_list z_tuple z_bool z_str z_int z_len z_all z_range k) z_isinstance z_list z_tuple z_bool z_str z_int z_len z_all z_range
theorem ok_draw {f : Addr} {fd : FuncData} (D : DefAt K mg "_law_draw" s_draw ["script"] f fd) (z_list : mg "list" = none) : FnOk P w K mg base CX0 1 f fd ["script"] (spDraw K) := by
  refine D.F.ok sc_draw (fun vs H Q E h => ?_) (fun cdv A outer s H vs Q E hr h => ?_)
  · obtain ⟨a, ns, rfl, _⟩ := h
    rfl
  obtain ⟨a, ns, rfl, hS, h63, q⟩ := h
  refine ⟨_, (pss_one (ps_ret (pe_lst (pa_cons (pe_callTy call_list_of (by rfl) z_list boot_list (pa_cons (pv 0) pa_nil)) (pa_cons pe_int (pa_cons pe_int (pa_cons pe_int pa_nil))))))), ?_⟩
  refine ⟨_, rfl, a, _, rfl, .inl hS, fun l nl => ⟨(by show 4 ≤ sizeLine; decide), fun d nd => ?_⟩⟩
  have nld : l ≠ d := fun e => by rw [e] at nd; rw [upd_same] at nd; cases nd
  refine q d l _ ?_ ⟨ns, 0, 0, 17, upd_same, by rw [upd_ne nld]; exact upd_same, nld, by decide, by decide, by decide⟩ fun b o eb => ?_
  · cases e : H d with
    | none => rfl
    | some o =>
      rw [upd_ne nld.symm, e] at nd
      cases nd
  · have h1 : b ≠ l := ne_of_none eb nl
    rw [upd_ne (ne_of_none (by rw [upd_ne h1]; exact eb) nd), upd_ne h1]
    exact eb
end
end Tf
set_option maxHeartbeats 8000000
namespace Tf
open PySem PySem.Spec PyProof.Rows L2 TL
def inClass (s : Stmt) (i : Nat) : Stmt := match s with
  | .ClassDef _ _ _ body _ _ _ _ _ _ _ => body.getD i (.Pass ⟨0, 0, 0, 0⟩)
  | _ => .Pass ⟨0, 0, 0, 0⟩
abbrev s_Reader_kind : Stmt := (inClass (topS 23) 16)
abbrev n_Reader_kind : List Str := ["self"]
theorem sc_Reader_kind : FnScope n_Reader_kind ["self"] (defScope s_Reader_kind) := ⟨rfl, rfl, rfl, by decide +kernel, rfl, by decide +kernel, by decide +kernel⟩
abbrev s_Reader_first_place : Stmt := (inClass (topS 23) 15)
abbrev n_Reader_first_place : List Str := ["self"]
theorem sc_Reader_first_place : FnScope n_Reader_first_place ["self"] (defScope s_Reader_first_place) := ⟨rfl, rfl, rfl, by decide +kernel, rfl, by decide +kernel, by decide +kernel⟩
abbrev s_Reader_takes : Stmt := (inClass (topS 23) 13)
abbrev n_Reader_takes : List Str := ["self", "sign"]
theorem sc_Reader_takes : FnScope n_Reader_takes ["self", "sign"] (defScope s_Reader_takes) := ⟨rfl, rfl, rfl, by decide +kernel, rfl, by decide +kernel, by decide +kernel⟩
abbrev s_Reader_read_value : Stmt := (inClass (topS 23) 14)
abbrev n_Reader_read_value : List Str := ["self", "value"]
theorem sc_Reader_read_value : FnScope n_Reader_read_value ["self"] (defScope s_Reader_read_value) := ⟨rfl, rfl, rfl, by decide +kernel, rfl, by decide +kernel, by decide +kernel⟩
abbrev s_Reader_has_name : Stmt := (inClass (topS 23) 17)
abbrev n_Reader_has_name : List Str := ["self", "kind", "value", "_"]
theorem sc_Reader_has_name : FnScope n_Reader_has_name ["self"] (defScope s_Reader_has_name) := ⟨rfl, rfl, rfl, by decide +kernel, rfl, by decide +kernel, by decide +kernel⟩
abbrev s_Reader_read_choice : Stmt := (inClass (topS 23) 11)
abbrev n_Reader_read_choice : List Str := ["self", "choices"]
theorem sc_Reader_read_choice : FnScope n_Reader_read_choice ["self", "choices"] (defScope s_Reader_read_choice) := ⟨rfl, rfl, rfl, by decide +kernel, rfl, by decide +kernel, by decide +kernel⟩
abbrev s_Reader_expect : Stmt := (inClass (topS 23) 12)
abbrev n_Reader_expect : List Str := ["self", "sign"]
theorem sc_Reader_expect : FnScope n_Reader_expect ["self", "sign"] (defScope s_Reader_expect) := ⟨rfl, rfl, rfl, by decide +kernel, rfl, by decide +kernel, by decide +kernel⟩
abbrev s_Reader_read_name : Stmt := (inClass (topS 23) 9)
abbrev n_Reader_read_name : List Str := ["self"]
theorem sc_Reader_read_name : FnScope n_Reader_read_name ["self"] (defScope s_Reader_read_name) := ⟨rfl, rfl, rfl, by decide +kernel, rfl, by decide +kernel, by decide +kernel⟩
abbrev s_Reader_read_number : Stmt := (inClass (topS 23) 10)
abbrev n_Reader_read_number : List Str := ["self", "part", "place", "value"]
theorem sc_Reader_read_number : FnScope n_Reader_read_number ["self", "part"] (defScope s_Reader_read_number) := ⟨rfl, rfl, rfl, by decide +kernel, rfl, by decide +kernel, by decide +kernel⟩
abbrev s_is_of_grammar : Stmt := (topS 24)
abbrev n_is_of_grammar : List Str := ["word"]
theorem sc_is_of_grammar : FnScope n_is_of_grammar ["word"] (defScope s_is_of_grammar) := ⟨rfl, rfl, rfl, by decide +kernel, rfl, by decide +kernel, by decide +kernel⟩
section
variable {P : Program} {w : World} {K : PySem.W.Frag} {mg : Str → Option Value} {base : Heap} {A : Ad}
theorem scal_of {v : V} {z : Str} (h : FlatV v) : scal v (.str z) = true := by
  rcases h with ⟨n, rfl⟩ | ⟨s, rfl⟩ <;> rfl
theorem in_strs (s : Str) (xs : List Str) : inV (.str s) (xs.map V.str) = decide (s ∈ xs) := by
  unfold inV
  rw [Bool.eq_iff_iff, List.any_eq_true, decide_eq_true_iff]
  constructor
  · rintro ⟨y, hy, e⟩
    obtain ⟨z, hz, rfl⟩ := List.mem_map.mp hy
    have : (z == s) = true := e
    rw [beq_iff_eq] at this
    rw [← this]; exact hz
  · intro h
    exact ⟨.str s, List.mem_map_of_mem h, (show (s == s) = true from beq_self_eq_true s)⟩
theorem in_dec (s : Str) (xs : List Str) : V.bl (if false = true then !inV (.str s) (xs.map V.str) else inV (.str s) (xs.map V.str)) = .bl (decide (s ∈ xs)) := by
  rw [if_neg Bool.false_ne_true, in_strs]
theorem notin_dec (s : Str) (xs : List Str) : V.bl (if true = true then !inV (.str s) (xs.map V.str) else inV (.str s) (xs.map V.str)) = .bl (!decide (s ∈ xs)) := by
  rw [if_pos rfl, in_strs]
theorem flat_strs (xs : List Str) : (xs.map V.str).all flatV = true := by
  rw [List.all_eq_true]
  intro v hv
  obtain ⟨s, _, rfl⟩ := List.mem_map.mp hv
  rfl
theorem ok_kind {f : Addr} {fd : FuncData} (T : RdT K A.C) (M : MethAt K A.C "kind" "Reader.kind" s_Reader_kind ["self"] f fd) : FnOk P w K mg base CX0 1 f fd ["self"] (spKind A) := by
  refine M.F.ok sc_Reader_kind (fun vs H Q E h => ?_) (fun cdv Ar outer s H vs Q E hr h => ?_)
  · obtain ⟨t, rem, S, N, rfl, _⟩ := h
    rfl
  obtain ⟨t, rem, S, N, rfl, R, q⟩ := h
  obtain ⟨i, xs, p, h1, h0, hx, hp, hk, fin⟩ := R.tok
  refine ⟨_, (pss_one (ps_ret (pe_ix ix_tup (pe_ix ix_list (pe_fld (pv 0) rfl) (pe_fld (pv 0) rfl) (fun _ _ => rfl)) pe_int (fun _ _ => rfl)))), ?_⟩
  exact ⟨_, rfl, A.r, A.C, A.dx, _, _, rfl, h1, T.cl, T.nF, flds_found A i, _, rfl, A.r, A.C, A.dx, _, _, rfl, h1, T.cl, T.nA, flds_at A i, A.fa, xs, i, _, rfl, rfl, .of h0, atI_nat hx, p, _, 0, _, rfl, rfl, .of hp, rfl, q⟩
theorem ok_takes {f : Addr} {fd : FuncData} (T : RdT K A.C) (M : MethAt K A.C "takes" "Reader.takes" s_Reader_takes ["self", "sign"] f fd) : FnOk P w K mg base CX0 1 f fd ["self", "sign"] (spTakes A) := by
  refine M.F.ok sc_Reader_takes (fun vs H Q E h => ?_) (fun cdv Ar outer s H vs Q E hr h => ?_)
  · obtain ⟨z, t, rem, S, N, rfl, _⟩ := h
    rfl
  obtain ⟨z, t, rem, S, N, rfl, R, q1, q2⟩ := h
  obtain ⟨i, xs, p, h1, h0, hx, hp, hk, fin⟩ := R.tok
  refine ⟨_, (pss_cons (ps_if (pt_cmpR op_ne (pe_ix ix_tup (pe_ix ix_list (pe_fld (pv 0) rfl) (pe_fld (pv 0) rfl) (fun _ _ => rfl)) pe_int (fun _ _ => rfl)) (pv 1) (nomark _)) (pss_one (ps_ret pe_bl)) pss_nil) (pss_cons (ps_fldaug (pv 0) pe_int in_add) (pss_one (ps_ret pe_bl)))), ?_⟩
  refine ⟨_, rfl, A.r, A.C, A.dx, _, _, rfl, h1, T.cl, T.nF, flds_found A i, _, rfl, A.r, A.C, A.dx, _, _, rfl, h1, T.cl, T.nA, flds_at A i, A.fa, xs, i, _, rfl, rfl, .of h0, atI_nat hx, p, _, 1, _, rfl, rfl, .of hp, rfl, _, rfl, scal_of hk.1, _, rfl, ite2 (fun e => ?_) (fun e => ?_)⟩
  · refine q1 fun z => ?_
    rw [z, dec_self] at e
    cases e
  · have ev : t.2.1 = V.str z := by
      apply Classical.byContradiction
      intro n
      exact e (by rw [decide_eq_false n]; rfl)
    obtain ⟨R2, k2⟩ := R.stepped h1
    refine ⟨_, rfl, A.r, A.C, A.dx, _, _, rfl, h1, T.cl, T.nA, flds_at A i, _, _, rfl, rfl, A.dx, _, h1, by rw [flds_eq]; show 4 < 1000; decide, ?_⟩
    have e2 : putF "at" (.int ((i : Int) + 1)) (flds A i) = flds A (i + 1) := flds_put A i (i + 1)
    rw [e2]
    exact q2 ev _ R2 k2
theorem ok_read_value {f : Addr} {fd : FuncData} (T : RdT K A.C) (M : MethAt K A.C "read_value" "Reader.read_value" s_Reader_read_value ["self"] f fd) : FnOk P w K mg base CX0 1 f fd ["self"] (spValue A) := by
  refine M.F.ok sc_Reader_read_value (fun vs H Q E h => ?_) (fun cdv Ar outer s H vs Q E hr h => ?_)
  · obtain ⟨t, rem, S, N, rfl, _⟩ := h
    rfl
  obtain ⟨t, rem, S, N, rfl, R, q⟩ := h
  obtain ⟨i, xs, p, h1, h0, hx, hp, hk, fin⟩ := R.tok
  refine ⟨_, (pss_cons (ps_set (i := 1) sc_Reader_read_value.nd rfl (by first | exact Or.inl rfl | exact Or.inr rfl) (pe_ix ix_tup (pe_ix ix_list (pe_fld (pv 0) rfl) (pe_fld (pv 0) rfl) (fun _ _ => rfl)) pe_int (fun _ _ => rfl))) (pss_cons (ps_fldaug (pv 0) pe_int in_add) (pss_one (ps_ret (pv 1))))), ?_⟩
  refine ⟨_, rfl, A.r, A.C, A.dx, _, _, rfl, h1, T.cl, T.nF, flds_found A i, _, rfl, A.r, A.C, A.dx, _, _, rfl, h1, T.cl, T.nA, flds_at A i, A.fa, xs, i, _, rfl, rfl, .of h0, atI_nat hx, p, _, 1, _, rfl, rfl, .of hp, rfl, ?_⟩
  obtain ⟨R2, k2⟩ := R.stepped h1
  refine ⟨_, rfl, A.r, A.C, A.dx, _, _, rfl, h1, T.cl, T.nA, flds_at A i, _, _, rfl, rfl, A.dx, _, h1, by rw [flds_eq]; show 4 < 1000; decide, ?_⟩
  have e2 : putF "at" (.int ((i : Int) + 1)) (flds A i) = flds A (i + 1) := flds_put A i (i + 1)
  rw [e2]
  exact ⟨_, rfl, q _ R2 k2⟩
theorem ok_first_place {f : Addr} {fd : FuncData} (T : RdT K A.C) (M : MethAt K A.C "first_place" "Reader.first_place" s_Reader_first_place ["self"] f fd) : FnOk P w K mg base CX0 1 f fd ["self"] (spFirst A) := by
  refine M.F.ok sc_Reader_first_place (fun vs H Q E h => ?_) (fun cdv Ar outer s H vs Q E hr h => ?_)
  · obtain ⟨t, r, rem, S, N, rfl, _⟩ := h
    rfl
  obtain ⟨t, r, rem, S, N, rfl, R, et, q⟩ := h
  obtain ⟨i, h1, _⟩ := R.ob
  obtain ⟨xs, h0, hx⟩ := R.fl
  obtain ⟨p, hp1, hp2⟩ := hx.get (i := 0) (t := t) (by rw [et]; rfl)
  refine ⟨_, (pss_one (ps_ret (pe_ix ix_tup (pe_ix ix_list (pe_fld (pv 0) rfl) pe_int (fun _ _ => rfl)) pe_int (fun _ _ => rfl)))), ?_⟩
  exact ⟨_, rfl, A.r, A.C, A.dx, _, _, rfl, h1, T.cl, T.nF, flds_found A i, A.fa, xs, 0, _, rfl, rfl, .of h0, atI_nat (j := 0) hp1, p, _, 2, _, rfl, rfl, .of hp2, rfl, q⟩
theorem ok_is_of_grammar {f aP aA aC : Addr} {fd : FuncData} {es : Array DictEntry} {n : Nat} (D : DefAt K mg "is_of_grammar" s_is_of_grammar ["word"] f fd) (g_PARTS : mg "PARTS" = some (.ref aP)) (g_AGGREGATES : mg "AGGREGATES" = some (.ref aA)) (g_COMBINATIONS : mg "COMBINATIONS" = some (.ref aC))
    (KD_PARTS : KDict K w aP es n) (hP : ∀ z : Str, ∃ r, PySem.W.nsIn K aP z = some r ∧ r.isSome = decide (z ∈ partsOf.map (·.1))) (hA : ∀ H, SqT K H aA (aggS.map V.str)) (hC : ∀ H, SqT K H aC (combS.map V.str)) :
    FnOk P w K mg base CX0 1 f fd ["word"] spGram := by
  refine D.F.ok sc_is_of_grammar (fun vs H Q E h => ?_) (fun cdv Ar outer s H vs Q E hr h => ?_)
  · obtain ⟨z, rfl, _⟩ := h
    rfl
  obtain ⟨z, rfl, q⟩ := h
  obtain ⟨r, h1, h2⟩ := hP z
  refine ⟨_, (pss_one (ps_ret (pe_or (pe_cmpR (op_in_kd KD_PARTS) (pv 0) (gl_ref (by rfl) g_PARTS) rfl) (pe_or (pe_cmpR op_in_seq (pv 0) (gl_ref (by rfl) g_AGGREGATES) rfl) (pe_one (pe_cmpR op_in_seq (pv 0) (gl_ref (by rfl) g_COMBINATIONS) rfl)))))), ?_⟩
  have eg : decide (z ∈ gramS) = (decide (z ∈ partsOf.map (·.1)) || (decide (z ∈ aggS) || decide (z ∈ combS))) := by
    unfold gramS
    rw [Bool.eq_iff_iff]
    simp only [decide_eq_true_eq, Bool.or_eq_true, List.mem_append]
  rw [eg] at q
  refine ⟨_, rfl, z, r, rfl, rfl, h1, _, rfl, ite2 (fun e => ?_) (fun e => ?_)⟩
  · rw [← h2, e] at q
    exact q
  · rw [← h2, Bool.eq_false_iff.mpr e] at q
    refine ⟨_, rfl, _, _, rfl, .inr (hA _), rfl, rfl, _, in_dec z aggS, ite2 (fun e2 => ?_) (fun e2 => ?_)⟩
    · rw [e2] at q
      exact q
    · rw [Bool.eq_false_iff.mpr e2] at q
      refine ⟨_, rfl, _, _, rfl, .inr (hC _), rfl, rfl, ?_⟩
      rw [show (if false = true then !inV (.str z) (combS.map V.str) else inV (.str z) (combS.map V.str)) = decide (z ∈ combS) from V.bl.inj (in_dec z combS)]
      exact q
theorem ok_has_name {f fg : Addr} {fd fgd : FuncData} (T : RdT K A.C) (M : MethAt K A.C "has_name" "Reader.has_name" s_Reader_has_name ["self"] f fd) {tL : Tok} (g_LONGEST_NAME : mg "LONGEST_NAME" = some (.int 8 tL)) (z_len : mg "len" = none)
    (D_is_of_grammar : DefAt K mg "is_of_grammar" s_is_of_grammar ["word"] fg fgd) (G_is_of_grammar : FnOk P w K mg base CX0 1 fg fgd ["word"] spGram) : FnOk P w K mg base CX0 2 f fd ["self"] (spHas A) := by
  refine M.F.ok sc_Reader_has_name (fun vs H Q E h => ?_) (fun cdv Ar outer s H vs Q E hr h => ?_)
  · obtain ⟨t, rem, S, N, rfl, _⟩ := h
    rfl
  obtain ⟨t, rem, S, N, rfl, R, q1, q2⟩ := h
  obtain ⟨i, xs, p, h1, h0, hx, hp, hk, fin⟩ := R.tok
  refine ⟨_, (pss_cons (ps_asg (pe_ix ix_list (pe_fld (pv 0) rfl) (pe_fld (pv 0) rfl) (fun _ _ => rfl)) (pg_tup (by rfl) (pgs_cons (pg_name (i := 1) sc_Reader_has_name.nd rfl (by first | exact Or.inl rfl | exact Or.inr rfl)) (pgs_cons (pg_name (i := 2) sc_Reader_has_name.nd rfl (by first | exact Or.inl rfl | exact Or.inr rfl)) (pgs_cons (pg_name (i := 3) sc_Reader_has_name.nd rfl (by first | exact Or.inl rfl | exact Or.inr rfl)) pgs_nil))))) (pss_one (ps_ret (pe_and (pe_cmpR op_eq (pv 1) pe_str (nomark _)) (pe_and (pe_cmpR op_le (pe_callB call_len_str (by rfl) z_len boot_len (pa_cons (pv 2) pa_nil)) (gl_int (by rfl) g_LONGEST_NAME) (nomark _)) (pe_one (pe_not (pe_call G_is_of_grammar (hr.mono (by omega)) (by rfl) D_is_of_grammar.m D_is_of_grammar.F.kp D_is_of_grammar.b .nil pass0 (pa_cons (pv 2) pa_nil))))))))), ?_⟩
  refine ⟨_, rfl, A.r, A.C, A.dx, _, _, rfl, h1, T.cl, T.nF, flds_found A i, _, rfl, A.r, A.C, A.dx, _, _, rfl, h1, T.cl, T.nA, flds_at A i, A.fa, xs, i, _, rfl, rfl, .of h0, atI_nat hx, p, _, rfl, .of hp, rfl, _, _, rfl, _, _, rfl, _, _, rfl, rfl, ?_⟩
  refine ⟨_, rfl, rfl, _, rfl, ite2 (fun e => ?_) (fun e => ?_)⟩
  · have e1 : t.1 = ("word" : Str) := V.str.inj (of_decide_eq_true e)
    obtain ⟨z, ez, hz⟩ := hk.2 e1
    rw [ez]
    refine ⟨_, rfl, z, rfl, hz, _, _, rfl, rfl, _, rfl, ite2 (fun e2 => ?_) (fun e2 => ?_)⟩
    · have e3 : z.length ≤ 8 := by have := of_decide_eq_true e2; omega
      refine ⟨_, rfl, z, rfl, _, rfl, ?_⟩
      by_cases g : z ∈ gramS
      · rw [decide_eq_true g]
        refine q2 fun n hn => ?_
        obtain ⟨_, n2, _, n4⟩ := hn
        rw [ez] at n2
        exact n4 (V.str.inj n2 ▸ g)
      · rw [decide_eq_false g]
        exact q1 ⟨z, e1, ez, e3, g⟩
    · refine q2 fun n hn => ?_
      obtain ⟨_, n2, n3, _⟩ := hn
      rw [ez] at n2
      rw [← V.str.inj n2] at n3
      exact e2 (decide_eq_true (by omega))
  · refine q2 fun n hn => ?_
    exact e (decide_eq_true (congrArg V.str hn.1))
end
end Tf
set_option maxHeartbeats 8000000
namespace Tf
open PySem PySem.Spec PyProof.Rows L2 TL
abbrev s_Reader_read_names : Stmt := (inClass (topS 23) 8)
abbrev n_Reader_read_names : List Str := ["self", "names"]
theorem sc_Reader_read_names : FnScope n_Reader_read_names ["self"] (defScope s_Reader_read_names) := ⟨rfl, rfl, rfl, by decide +kernel, rfl, by decide +kernel, by decide +kernel⟩
abbrev s_Reader_read_part : Stmt := (inClass (topS 23) 7)
abbrev n_Reader_read_part : List Str := ["self", "part"]
theorem sc_Reader_read_part : FnScope n_Reader_read_part ["self", "part"] (defScope s_Reader_read_part) := ⟨rfl, rfl, rfl, by decide +kernel, rfl, by decide +kernel, by decide +kernel⟩
abbrev s_Reader_read_parts : Stmt := (inClass (topS 23) 6)
abbrev n_Reader_read_parts : List Str := ["self", "word", "values", "part"]
theorem sc_Reader_read_parts : FnScope n_Reader_read_parts ["self", "word"] (defScope s_Reader_read_parts) := ⟨rfl, rfl, rfl, by decide +kernel, rfl, by decide +kernel, by decide +kernel⟩
section
variable {P : Program} {w : World} {K : PySem.W.Frag} {mg : Str → Option Value} {base : Heap} {A : Ad}
theorem ok_read_choice {f fv : Addr} {fd fvd : FuncData} (T : RdT K A.C) (M : MethAt K A.C "read_choice" "Reader.read_choice" s_Reader_read_choice ["self", "choices"] f fd)
    (M_read_value : MethAt K A.C "read_value" "Reader.read_value" s_Reader_read_value ["self"] fv fvd) (G_read_value : FnOk P w K mg base CX0 1 fv fvd ["self"] (spValue A)) : FnOk P w K mg base CX0 2 f fd ["self", "choices"] (spChoice K A) := by
  refine M.F.ok sc_Reader_read_choice (fun vs H Q E h => ?_) (fun cdv Ar outer s H vs Q E hr h => ?_)
  · obtain ⟨c, cs, z, t, rem, S, N, rfl, _⟩ := h
    rfl
  obtain ⟨c, cs, z, t, rem, S, N, rfl, hc, R, ht, hz, q⟩ := h
  obtain ⟨i, xs, p, h1, h0, hx, hp, hk, fin⟩ := R.tok
  refine ⟨_, (pss_cons (ps_if (pt_cmpR op_notIn_seq (pe_ix ix_tup (pe_ix ix_list (pe_fld (pv 0) rfl) (pe_fld (pv 0) rfl) (fun _ _ => rfl)) pe_int (fun _ _ => rfl)) (pv 1) rfl) (pss_one ps_never) pss_nil) (pss_one (ps_ret (pe_meth0 (pv 0) T.cl M_read_value.m G_read_value (hr.mono (by omega)) M_read_value.b .nil pass0)))), ?_⟩
  refine ⟨_, rfl, A.r, A.C, A.dx, _, _, rfl, h1, T.cl, T.nF, flds_found A i, _, rfl, A.r, A.C, A.dx, _, _, rfl, h1, T.cl, T.nA, flds_at A i, A.fa, xs, i, _, rfl, rfl, .of h0, atI_nat hx, p, _, 1, _, rfl, rfl, .of hp, rfl, _, rfl, c, _, rfl, .inr hc, by rw [ht]; rfl, flat_strs cs, ?_⟩
  rw [ht]
  refine ⟨_, notin_dec z cs, ?_⟩
  rw [decide_eq_true hz]
  refine iteF ?_
  refine ⟨_, rfl, A.r, A.dx, _, rfl, h1, flds_no A i (by decide +kernel) (by decide +kernel) (by decide +kernel) (by decide +kernel), t, rem, S, N, rfl, R, fun H' R' k' => ?_⟩
  rw [ht]
  exact q H' R' k'
theorem ok_expect {f fv : Addr} {fd fvd : FuncData} (T : RdT K A.C) (M : MethAt K A.C "expect" "Reader.expect" s_Reader_expect ["self", "sign"] f fd)
    (M_takes : MethAt K A.C "takes" "Reader.takes" s_Reader_takes ["self", "sign"] fv fvd) (G_takes : FnOk P w K mg base CX0 1 fv fvd ["self", "sign"] (spTakes A)) : FnOk P w K mg base CX0 2 f fd ["self", "sign"] (spExpect A) := by
  refine M.F.ok sc_Reader_expect (fun vs H Q E h => ?_) (fun cdv Ar outer s H vs Q E hr h => ?_)
  · obtain ⟨z, t, rem, S, N, rfl, _⟩ := h
    rfl
  obtain ⟨z, t, rem, S, N, rfl, R, ht, q⟩ := h
  obtain ⟨i, h1, _⟩ := R.ob
  refine ⟨_, (pss_one (ps_if (pt_not (pt_val (pe_meth (pv 0) T.cl M_takes.m G_takes (hr.mono (by omega)) M_takes.b .nil pass0 (pa_cons (pv 1) pa_nil)))) (pss_one ps_never) pss_nil)), ?_⟩
  refine ⟨_, rfl, A.r, A.dx, _, rfl, h1, flds_no A i (by decide +kernel) (by decide +kernel) (by decide +kernel) (by decide +kernel), _, rfl, z, t, rem, S, N, rfl, R, fun n => absurd ht n, fun _ H' R' k' => ⟨_, rfl, ?_⟩⟩
  exact iteF (q H' R' k')
theorem ok_read_name {f fh fv : Addr} {fd fhd fvd : FuncData} (T : RdT K A.C) (M : MethAt K A.C "read_name" "Reader.read_name" s_Reader_read_name ["self"] f fd) (M_has_name : MethAt K A.C "has_name" "Reader.has_name" s_Reader_has_name ["self"] fh fhd) (G_has_name : FnOk P w K mg base CX0 2 fh fhd ["self"] (spHas A))
    (M_read_value : MethAt K A.C "read_value" "Reader.read_value" s_Reader_read_value ["self"] fv fvd) (G_read_value : FnOk P w K mg base CX0 1 fv fvd ["self"] (spValue A)) : FnOk P w K mg base CX0 3 f fd ["self"] (spName A) := by
  refine M.F.ok sc_Reader_read_name (fun vs H Q E h => ?_) (fun cdv Ar outer s H vs Q E hr h => ?_)
  · obtain ⟨n, t, rem, S, N, rfl, _⟩ := h
    rfl
  obtain ⟨n, t, rem, S, N, rfl, R, hn, q⟩ := h
  obtain ⟨i, h1, _⟩ := R.ob
  refine ⟨_, (pss_cons (ps_if (pt_not (pt_val (pe_meth0 (pv 0) T.cl M_has_name.m G_has_name (hr.mono (by omega)) M_has_name.b .nil pass0))) (pss_one ps_never) pss_nil) (pss_one (ps_ret (pe_meth0 (pv 0) T.cl M_read_value.m G_read_value (hr.mono (by omega)) M_read_value.b .nil pass0)))), ?_⟩
  refine ⟨_, rfl, A.r, A.dx, _, rfl, h1, flds_no A i (by decide +kernel) (by decide +kernel) (by decide +kernel) (by decide +kernel), t, rem, S, N, rfl, R, fun _ => ⟨_, rfl, iteF ?_⟩, fun no => absurd hn (no n)⟩
  refine ⟨_, rfl, A.r, A.dx, _, rfl, h1, flds_no A i (by decide +kernel) (by decide +kernel) (by decide +kernel) (by decide +kernel), t, rem, S, N, rfl, R, fun H' R' k' => ?_⟩
  rw [hn.2.1]
  exact q H' R' k'
theorem ok_read_number {f fh fv : Addr} {fd fhd fvd : FuncData} (T : RdT K A.C) (M : MethAt K A.C "read_number" "Reader.read_number" s_Reader_read_number ["self", "part"] f fd) (M_kind : MethAt K A.C "kind" "Reader.kind" s_Reader_kind ["self"] fh fhd) (G_kind : FnOk P w K mg base CX0 1 fh fhd ["self"] (spKind A))
    (M_read_value : MethAt K A.C "read_value" "Reader.read_value" s_Reader_read_value ["self"] fv fvd) (G_read_value : FnOk P w K mg base CX0 1 fv fvd ["self"] (spValue A)) : FnOk P w K mg base CX0 2 f fd ["self", "part"] (spNumber A) := by
  refine M.F.ok sc_Reader_read_number (fun vs H Q E h => ?_) (fun cdv Ar outer s H vs Q E hr h => ?_)
  · obtain ⟨part, j, t, rem, S, N, rfl, _⟩ := h
    rfl
  obtain ⟨part, j, t, rem, S, N, rfl, R, hk, hv, hN, q⟩ := h
  obtain ⟨i, xs, p, h1, h0, hx, hp, _, _⟩ := R.tok
  refine ⟨_, (pss_cons (ps_if (pt_cmpR op_ne (pe_meth0 (pv 0) T.cl M_kind.m G_kind (hr.mono (by omega)) M_kind.b .nil pass0) pe_str (nomark _)) (pss_one ps_never) pss_nil) (pss_cons (ps_set (i := 2) sc_Reader_read_number.nd rfl (by first | exact Or.inl rfl | exact Or.inr rfl) (pe_ix ix_tup (pe_ix ix_list (pe_fld (pv 0) rfl) (pe_fld (pv 0) rfl) (fun _ _ => rfl)) pe_int (fun _ _ => rfl))) (pss_cons (ps_set (i := 3) sc_Reader_read_number.nd rfl (by first | exact Or.inl rfl | exact Or.inr rfl) (pe_meth0 (pv 0) T.cl M_read_value.m G_read_value (hr.mono (by omega)) M_read_value.b .nil pass0)) (pss_cons (ps_expr (pe_bm PySem.F.plainAttrs_list PySem.F.slot_list_append PySem.F.type_list_append mt_append (pe_fld (pv 0) rfl) (pa_cons (pe_tup (pa_cons (pv 1) (pa_cons (pv 3) (pa_cons (pv 2) pa_nil)))) pa_nil))) (pss_one (ps_ret (pv 3))))))), ?_⟩
  refine ⟨_, rfl, A.r, A.dx, _, rfl, h1, flds_no A i (by decide +kernel) (by decide +kernel) (by decide +kernel) (by decide +kernel), t, rem, S, N, rfl, R, rfl, ?_⟩
  rw [hk]
  refine ⟨_, congrArg V.bl (dec_self _), iteF ?_⟩
  refine ⟨_, rfl, A.r, A.C, A.dx, _, _, rfl, h1, T.cl, T.nF, flds_found A i, _, rfl, A.r, A.C, A.dx, _, _, rfl, h1, T.cl, T.nA, flds_at A i, A.fa, xs, i, _, rfl, rfl, .of h0, atI_nat hx, p, _, 2, _, rfl, rfl, .of hp, rfl, ?_⟩
  refine ⟨_, rfl, A.r, A.dx, _, rfl, h1, flds_no A i (by decide +kernel) (by decide +kernel) (by decide +kernel) (by decide +kernel), t, rem, S, N, rfl, R, fun H' R' k' => ?_⟩
  obtain ⟨i2, g1, _⟩ := R'.ob
  obtain ⟨ns, n1, n2⟩ := R'.nl
  have nl := n2.len
  -- self.numbers.append((part, value, place))
  refine ⟨_, rfl, A.r, A.C, A.dx, _, _, rfl, g1, T.cl, T.nN, flds_num A i2, .inl ⟨rfl, _, .of n1⟩, _, rfl, _, rfl, _, rfl, (by show 3 ≤ sizeLine; decide), fun tp ntp => ?_⟩
  have R2 := R'.mono (same_new ntp (.tup [.str part, t.2.1, .int (t.2.2 : Int)]))
  have n3 : A.na ≠ tp := ne_of_none n1 ntp
  have n4 : (upd H' tp (.tup [.str part, t.2.1, .int (t.2.2 : Int)])) A.na = some (.lst ns) := by rw [upd_ne n3]; exact n1
  rw [hv] at R2 n4 ⊢
  obtain ⟨R3, k3⟩ := R2.num (n := (part, j, t.2.2)) (t := tp) n4 upd_same
  refine ⟨A.na, ns, _, rfl, rfl, n4, small1000 (by omega), _, rfl, ?_⟩
  exact q _ R3 ((k'.trans (Kp.same (same_new ntp _))).trans k3)
end
end Tf
set_option maxHeartbeats 8000000
namespace Tf
open PySem PySem.Spec PyProof.Rows L2 TL
section
variable {P : Program} {w : World} {K : PySem.W.Frag} {mg : Str → Option Value} {base : Heap} {A : Ad}
theorem ok_read_names {f fh fv fn : Addr} {fd fhd fvd fnd : FuncData} (T : RdT K A.C) (M : MethAt K A.C "read_names" "Reader.read_names" s_Reader_read_names ["self"] f fd) (M_has_name : MethAt K A.C "has_name" "Reader.has_name" s_Reader_has_name ["self"] fh fhd) (G_has_name : FnOk P w K mg base CX0 2 fh fhd ["self"] (spHas A))
    (M_read_value : MethAt K A.C "read_value" "Reader.read_value" s_Reader_read_value ["self"] fv fvd) (G_read_value : FnOk P w K mg base CX0 1 fv fvd ["self"] (spValue A))
    (M_read_name : MethAt K A.C "read_name" "Reader.read_name" s_Reader_read_name ["self"] fn fnd) (G_read_name : FnOk P w K mg base CX0 3 fn fnd ["self"] (spName A))
    (z_tuple : mg "tuple" = none) (z_sorted : mg "sorted" = none) (z_set : mg "set" = none) : FnOk P w K mg base CX0 4 f fd ["self"] (spNames A) := by
  refine M.F.ok sc_Reader_read_names (fun vs H Q E h => ?_) (fun cdv Ar outer s H vs Q E hr h => ?_)
  · obtain ⟨t, ts, r, n, ns, ks, S, N, rfl, _⟩ := h
    rfl
  obtain ⟨t, ts, r, n, ns, ks, S, N, rfl, R, hn, hns, hl, hu, huq, q⟩ := h
  obtain ⟨i, h1, _⟩ := R.ob
  refine ⟨_, (pss_cons (ps_set (i := 1) sc_Reader_read_names.nd rfl (by first | exact Or.inl rfl | exact Or.inr rfl) (pe_lst (pa_cons (pe_meth0 (pv 0) T.cl M_read_name.m G_read_name (hr.mono (by omega)) M_read_name.b .nil pass0) pa_nil))) (pss_cons (ps_while PassesOwn.never (pt_val (pe_meth0 (pv 0) T.cl M_has_name.m G_has_name (hr.mono (by omega)) M_has_name.b .nil pass0)) (pss_one (ps_expr (pe_bm PySem.F.plainAttrs_list PySem.F.slot_list_append PySem.F.type_list_append mt_append (pv 1) (pa_cons (pe_meth0 (pv 0) T.cl M_read_value.m G_read_value (hr.mono (by omega)) M_read_value.b .nil pass0) pa_nil))))) (pss_one (ps_ret (pe_callTy call_tuple_of (by rfl) z_tuple boot_tuple (pa_cons (pe_callB (cr_sortT rfl) (by rfl) z_sorted boot_sorted (pa_cons (pe_callTy (cr_setL rfl) (by rfl) z_set boot_set (pa_cons (pv 1) pa_nil)) pa_nil)) pa_nil)))))), ?_⟩
  refine ⟨_, rfl, A.r, A.dx, _, rfl, h1, flds_no A i (by decide +kernel) (by decide +kernel) (by decide +kernel) (by decide +kernel), n, t, ts ++ r, S, N, rfl, R, hn, fun H1 R1 k1 => ⟨(by show 1 ≤ sizeLine; decide), fun L nL => ?_⟩⟩
  have no := R1.not nL
  have nLH := k1.free R1 nL
  refine ⟨fun m σ H' => ∃ (ts' : List Tk) (ns' dn : List Str), σ = [some (.ref A.r), some (.ref L)] ∧ H' L = some (.lst (dn.map V.str)) ∧ NamesR ts' ns' ∧ dn ++ ns' = n :: ns ∧ RS A H' (ts' ++ r) S N ∧ Kp A H H' ∧ m = ts'.length,
    ⟨_, ts, ns, [n], rfl, upd_same, hns, rfl, R1.mono (same_new nL _), k1.trans (Kp.same (same_new nL _)), rfl⟩, fun m σ H' hW => ?_⟩
  obtain ⟨ts', ns', dn, rfl, b1, b2, b3, b4, b5, rfl⟩ := hW
  obtain ⟨i', g1, _⟩ := b4.ob
  have hd : dn.length ≤ 51 := by
    have e := congrArg List.length b3
    rw [List.length_append, List.length_cons] at e
    omega
  cases ts' with
  | nil =>
    cases ns' with
    | cons a l => exact b2.elim
    | nil =>
      obtain ⟨u, r', rfl, hno⟩ := hu
      rw [List.append_nil] at b3
      subst b3
      refine ⟨_, rfl, A.r, A.dx, _, rfl, g1, flds_no A i' (by decide +kernel) (by decide +kernel) (by decide +kernel) (by decide +kernel), u, r', S, N, rfl, b4, fun ⟨z, hz⟩ => absurd hz (hno z), fun _ => ⟨_, rfl, iteF ?_⟩⟩
      refine ⟨_, rfl, L, n :: ns, rfl, .of b1, by omega, fun p T' c c64 hT np => ⟨p, T', c, rfl, upd_same, c64, fun ys a y1 y2 y3 na => ⟨a, _, rfl, .inl ⟨.of upd_same, fun l nl => ?_⟩⟩⟩⟩
      have ey : ys = ks := huq ys y1 y2 fun z => (y3 z).trans (hT z)
      subst ey
      have sm := ((same_new np (SetT P w p T' c)).trans (same_new na (.lst (ys.map V.str)))).trans (same_new nl (.tup (ys.map V.str)))
      exact q _ _ (b4.mono sm) (b5.trans (Kp.same sm)) ⟨l, rfl, upd_same⟩
  | cons u ts' =>
    cases ns' with
    | nil => exact b2.elim
    | cons a l =>
      obtain ⟨c1, c2⟩ := b2
      refine ⟨_, rfl, A.r, A.dx, _, rfl, g1, flds_no A i' (by decide +kernel) (by decide +kernel) (by decide +kernel) (by decide +kernel), u, ts' ++ r, S, N, rfl, b4, fun _ => ⟨_, rfl, iteT ?_⟩, fun no => absurd c1 (no a)⟩
      refine ⟨fun σ' H2 => ∃ (ts2 : List Tk) (ns2 dn2 : List Str), ts2.length < (u :: ts').length ∧ σ' = [some (.ref A.r), some (.ref L)] ∧ H2 L = some (.lst (dn2.map V.str)) ∧ NamesR ts2 ns2 ∧ dn2 ++ ns2 = n :: ns ∧ RS A H2 (ts2 ++ r) S N ∧ Kp A H H2, fun σ' H2 hN => ?_, ?_⟩
      · obtain ⟨ts2, ns2, dn2, x0, x1, x2, x3, x4, x5, x6⟩ := hN
        exact ⟨_, x0, ts2, ns2, dn2, x1, x2, x3, x4, x5, x6, rfl⟩
      refine ⟨_, rfl, .inl ⟨rfl, _, .of b1⟩, _, rfl, A.r, A.dx, _, rfl, g1, flds_no A i' (by decide +kernel) (by decide +kernel) (by decide +kernel) (by decide +kernel), u, ts' ++ r, S, N, rfl, b4, fun H2 R2 k2 => ?_⟩
      rw [c1.2.1]
      have bL := k2.at no b1
      refine ⟨L, _, _, rfl, rfl, bL, small1000 (by rw [List.length_map]; omega), ts', l, dn ++ [a], Nat.lt_succ_self _, rfl, ?_, c2, ?_, R2.mut bL no, (b5.trans k2).mut nLH⟩
      · rw [upd_same, List.map_append] <;> rfl
      · rw [List.append_assoc]; exact b3
theorem ok_read_part {f fc fn fs fu aM aA aB : Addr} {fd fcd fnd fsd fud : FuncData} (T : RdT K A.C) (M : MethAt K A.C "read_part" "Reader.read_part" s_Reader_read_part ["self", "part"] f fd)
    (M_read_choice : MethAt K A.C "read_choice" "Reader.read_choice" s_Reader_read_choice ["self", "choices"] fc fcd) (G_read_choice : FnOk P w K mg base CX0 2 fc fcd ["self", "choices"] (spChoice K A))
    (M_read_name : MethAt K A.C "read_name" "Reader.read_name" s_Reader_read_name ["self"] fn fnd) (G_read_name : FnOk P w K mg base CX0 3 fn fnd ["self"] (spName A))
    (M_read_names : MethAt K A.C "read_names" "Reader.read_names" s_Reader_read_names ["self"] fs fsd) (G_read_names : FnOk P w K mg base CX0 4 fs fsd ["self"] (spNames A))
    (M_read_number : MethAt K A.C "read_number" "Reader.read_number" s_Reader_read_number ["self", "part"] fu fud) (G_read_number : FnOk P w K mg base CX0 2 fu fud ["self", "part"] (spNumber A))
    (g_COMPARISONS : mg "COMPARISONS" = some (.ref aM)) (g_AGGREGATES : mg "AGGREGATES" = some (.ref aA)) (g_COMBINATIONS : mg "COMBINATIONS" = some (.ref aB))
    (hM : ∀ H, SqT K H aM (compS.map V.str)) (hA : ∀ H, SqT K H aA (aggS.map V.str)) (hB : ∀ H, SqT K H aB (combS.map V.str)) : FnOk P w K mg base CX0 5 f fd ["self", "part"] (spPart A) := by
  refine M.F.ok sc_Reader_read_part (fun vs H Q E h => ?_) (fun cdv Ar outer s H vs Q E hr h => ?_)
  · obtain ⟨part, a, b, pz, n, S, N, rfl, _⟩ := h
    rfl
  obtain ⟨part, a, b, pz, n, S, N, rfl, R, hp, hN, q⟩ := h
  obtain ⟨i, h1, _⟩ := R.ob
  refine ⟨_, (pss_cons (ps_if (pt_cmpR op_eq (pv 1) pe_str (nomark _)) (pss_one (ps_ret (pe_meth (pv 0) T.cl M_read_choice.m G_read_choice (hr.mono (by omega)) M_read_choice.b .nil pass0 (pa_cons (gl_ref (by rfl) g_COMPARISONS) pa_nil)))) pss_nil) (pss_cons (ps_if (pt_cmpR op_eq (pv 1) pe_str (nomark _)) (pss_one (ps_ret (pe_meth (pv 0) T.cl M_read_choice.m G_read_choice (hr.mono (by omega)) M_read_choice.b .nil pass0 (pa_cons (gl_ref (by rfl) g_AGGREGATES) pa_nil)))) pss_nil) (pss_cons (ps_if (pt_cmpR op_eq (pv 1) pe_str (nomark _)) (pss_one (ps_ret (pe_meth (pv 0) T.cl M_read_choice.m G_read_choice (hr.mono (by omega)) M_read_choice.b .nil pass0 (pa_cons (gl_ref (by rfl) g_COMBINATIONS) pa_nil)))) pss_nil) (pss_cons (ps_if (pt_cmpR op_eq (pv 1) pe_str (nomark _)) (pss_one (ps_ret (pe_meth0 (pv 0) T.cl M_read_name.m G_read_name (hr.mono (by omega)) M_read_name.b .nil pass0))) pss_nil) (pss_cons (ps_if (pt_cmpR op_eq (pv 1) pe_str (nomark _)) (pss_one (ps_ret (pe_meth0 (pv 0) T.cl M_read_names.m G_read_names (hr.mono (by omega)) M_read_names.b .nil pass0))) pss_nil) (pss_one (ps_ret (pe_meth (pv 0) T.cl M_read_number.m G_read_number (hr.mono (by omega)) M_read_number.b .nil pass0 (pa_cons (pv 1) pa_nil))))))))), ?_⟩
  have hm : ∀ {m : Str}, (¬ m = "found" ∧ ¬ m = "at" ∧ ¬ m = "numbers" ∧ ¬ m = "unclosed") → (flds A i).lookup m = none := fun h => flds_no A i h.1 h.2.1 h.2.2.1 h.2.2.2
  cases hp with
  | cmp e h m =>
    subst e
    refine ⟨_, rfl, rfl, _, sdec rfl, iteT ?_⟩
    refine ⟨_, rfl, A.r, A.dx, _, rfl, h1, hm (by decide +kernel), aM, compS, _, _, _, S, N, rfl, hM _, R, h, m, fun H' R' k' => q _ _ (by rw [List.append_nil]; exact R') k' rfl⟩
  | agg e h m =>
    subst e
    refine ⟨_, rfl, rfl, _, sdecF (by decide +kernel), iteF ⟨_, rfl, rfl, _, sdec rfl, iteT ?_⟩⟩
    refine ⟨_, rfl, A.r, A.dx, _, rfl, h1, hm (by decide +kernel), aA, aggS, _, _, _, S, N, rfl, hA _, R, h, m, fun H' R' k' => q _ _ (by rw [List.append_nil]; exact R') k' rfl⟩
  | comb e h m =>
    subst e
    refine ⟨_, rfl, rfl, _, sdecF (by decide +kernel), iteF ⟨_, rfl, rfl, _, sdecF (by decide +kernel), iteF ⟨_, rfl, rfl, _, sdec rfl, iteT ?_⟩⟩⟩
    refine ⟨_, rfl, A.r, A.dx, _, rfl, h1, hm (by decide +kernel), aB, combS, _, _, _, S, N, rfl, hB _, R, h, m, fun H' R' k' => q _ _ (by rw [List.append_nil]; exact R') k' rfl⟩
  | name e h =>
    subst e
    refine ⟨_, rfl, rfl, _, sdecF (by decide +kernel), iteF ⟨_, rfl, rfl, _, sdecF (by decide +kernel), iteF ⟨_, rfl, rfl, _, sdecF (by decide +kernel), iteF ⟨_, rfl, rfl, _, sdec rfl, iteT ?_⟩⟩⟩⟩
    refine ⟨_, rfl, A.r, A.dx, _, rfl, h1, hm (by decide +kernel), _, _, _, S, N, rfl, R, h, fun H' R' k' => q _ _ (by rw [List.append_nil]; exact R') k' rfl⟩
  | names e h0 h hl hu huq =>
    subst e
    refine ⟨_, rfl, rfl, _, sdecF (by decide +kernel), iteF ⟨_, rfl, rfl, _, sdecF (by decide +kernel), iteF ⟨_, rfl, rfl, _, sdecF (by decide +kernel), iteF ⟨_, rfl, rfl, _, sdecF (by decide +kernel), iteF ⟨_, rfl, rfl, _, sdec rfl, iteT ?_⟩⟩⟩⟩⟩
    refine ⟨_, rfl, A.r, A.dx, _, rfl, h1, hm (by decide +kernel), _, _, _, _, _, _, S, N, rfl, R, h0, h, hl, hu, huq, fun v H' R' k' hv => q _ _ (by rw [List.append_nil]; exact R') k' hv⟩
  | num m hk h =>
    obtain ⟨x1, x2, x3, x4, x5⟩ := num_not m
    refine ⟨_, rfl, rfl, _, sdecF x1, iteF ⟨_, rfl, rfl, _, sdecF x2, iteF ⟨_, rfl, rfl, _, sdecF x3, iteF ⟨_, rfl, rfl, _, sdecF x4, iteF ⟨_, rfl, rfl, _, sdecF x5, iteF ?_⟩⟩⟩⟩⟩
    refine ⟨_, rfl, A.r, A.dx, _, rfl, h1, hm (by decide +kernel), _, rfl, part, _, _, _, S, N, rfl, R, hk, h, hN, fun H' R' k' => q _ _ R' k' rfl⟩
end
end Tf
set_option maxHeartbeats 8000000
namespace Tf
open PySem PySem.Spec PyProof.Rows L2 TL
abbrev s_Reader_enter_pair : Stmt := (inClass (topS 23) 3)
abbrev n_Reader_enter_pair : List Str := ["self", "word", "begun"]
theorem sc_Reader_enter_pair : FnScope n_Reader_enter_pair ["self"] (defScope s_Reader_enter_pair) := ⟨rfl, rfl, rfl, by decide +kernel, rfl, by decide +kernel, by decide +kernel⟩
abbrev s_Reader_read_stage : Stmt := (inClass (topS 23) 5)
abbrev n_Reader_read_stage : List Str := ["self", "plan", "word", "stage"]
theorem sc_Reader_read_stage : FnScope n_Reader_read_stage ["self", "plan"] (defScope s_Reader_read_stage) := ⟨rfl, rfl, rfl, by decide +kernel, rfl, by decide +kernel, by decide +kernel⟩
theorem parts_few : ∀ e ∈ partsOf, e.2.length ≤ 3 := by decide +kernel
theorem PartsR.len {ps : List Str} {a b : List Tk} {v : List Pv} {n : List Num} (h : PartsR ps a b v n) : v.length = ps.length ∧ n.length ≤ ps.length := by
  induction h with
  | nil => exact ⟨rfl, Nat.le_refl _⟩
  | cons h k ih =>
    have e : ∀ {p : Str} {a b : List Tk} {v : Pv} {n : List Num}, PartR p a b v n → n.length ≤ 1 := fun h => by cases h <;> first | exact Nat.zero_le _ | exact Nat.le_refl _
    have := e h
    rw [List.length_cons, List.length_cons, List.length_append]
    omega
section
variable {P : Program} {w : World} {K : PySem.W.Frag} {mg : Str → Option Value} {base : Heap} {A : Ad}
theorem ok_read_parts {f fp aP : Addr} {fd fpd : FuncData} (T : RdT K A.C) (M : MethAt K A.C "read_parts" "Reader.read_parts" s_Reader_read_parts ["self", "word"] f fd)
    (M_read_part : MethAt K A.C "read_part" "Reader.read_part" s_Reader_read_part ["self", "part"] fp fpd) (G_read_part : FnOk P w K mg base CX0 5 fp fpd ["self", "part"] (spPart A))
    (g_PARTS : mg "PARTS" = some (.ref aP)) (hP : ∀ e ∈ partsOf, ∃ t, KDct K w aP e.1 (.ref t) ∧ ∀ H, SqT K H t (e.2.map V.str)) (z_tuple : mg "tuple" = none) : FnOk P w K mg base CX0 6 f fd ["self", "word"] (spParts A) := by
  refine M.F.ok sc_Reader_read_parts (fun vs H Q E h => ?_) (fun cdv Ar outer s H vs Q E hr h => ?_)
  · obtain ⟨wo, ps, a, b, pvs, n, S, N, rfl, _⟩ := h
    rfl
  obtain ⟨wo, ps, a, b, pvs, n, S, N, rfl, hw, R, hp, hN, q⟩ := h
  obtain ⟨t, hd, ht⟩ := hP _ hw
  have few : ps.length ≤ 3 := parts_few _ hw
  have hlen := hp.len
  refine ⟨_, (pss_cons (ps_set (i := 2) sc_Reader_read_parts.nd rfl (by first | exact Or.inl rfl | exact Or.inr rfl) (pe_lst pa_nil)) (pss_cons (ps_for PassesOwn.never rfl (pi_tup (pe_ix ix_kdict (gl_ref (by rfl) g_PARTS) (pv 1) (fun _ _ => rfl))) (pg_name (i := 3) sc_Reader_read_parts.nd rfl (by first | exact Or.inl rfl | exact Or.inr rfl)) (pss_one (ps_expr (pe_bm PySem.F.plainAttrs_list PySem.F.slot_list_append PySem.F.type_list_append mt_append (pv 2) (pa_cons (pe_meth (pv 0) T.cl M_read_part.m G_read_part (hr.mono (by omega)) M_read_part.b .nil pass0 (pa_cons (pv 3) pa_nil)) pa_nil))))) (pss_one (ps_ret (pe_callTy call_tuple_of (by rfl) z_tuple boot_tuple (pa_cons (pv 2) pa_nil)))))), ?_⟩
  refine ⟨Nat.zero_le _, fun L nL => ?_⟩
  have no := R.not nL
  refine ⟨_, rfl, aP, wo, .ref t, rfl, rfl, hd, t, rfl, ⟨_, ht _⟩, for_tup (xs := ps.map V.str) (fun i σ H' => ∃ (a' : List Tk) (vd vr : List Pv) (nd nr : List Num) (us : List V) (y : Option V), σ = [some (.ref A.r), some (.str wo), some (.ref L), y] ∧ H' L = some (.lst us) ∧ ArgsAt H' vd us ∧
      PartsR (ps.drop i) a' b vr nr ∧ vd ++ vr = pvs ∧ nd ++ nr = n ∧ RS A H' a' S (N ++ nd) ∧ Kp A H H') ?_ (fun i σ H' _ hI => ht _) (fun i x σ H' hx hI => ?_) (fun σ H' hI => ?_)⟩
  · exact ⟨a, [], pvs, [], n, [], _, rfl, upd_same, trivial, hp, rfl, rfl, by rw [List.append_nil]; exact R.mono (same_new nL _), Kp.same (same_new nL _)⟩
  · obtain ⟨a', vd, vr, nd, nr, us, y, rfl, b1, b2, b3, b4, b5, b6, b7⟩ := hI
    obtain ⟨i', g1, _⟩ := b6.ob
    obtain ⟨part, hpi, rfl⟩ : ∃ part, ps[i]? = some part ∧ x = .str part := by
      rw [List.getElem?_map] at hx
      cases z : ps[i]? with
      | none => rw [z] at hx; cases hx
      | some p => rw [z] at hx; exact ⟨p, rfl, (Option.some.inj hx).symm⟩
    have hlt := (List.getElem?_eq_some_iff.mp hpi).1
    have hdr : ps.drop i = part :: ps.drop (i + 1) := by
      rw [List.drop_eq_getElem_cons hlt, (List.getElem?_eq_some_iff.mp hpi).2]
    rw [hdr] at b3
    cases b3 with
    | @cons _ _ _ a2 _ v vs2 n1 ns2 c1 c2 =>
    have nl : nd.length + n1.length ≤ n.length := by rw [← b5, List.length_append, List.length_append]; omega
    refine ⟨_, rfl, .inl ⟨rfl, _, .of b1⟩, _, rfl, A.r, A.dx, _, rfl, g1, flds_no A i' (by decide +kernel) (by decide +kernel) (by decide +kernel) (by decide +kernel), _, rfl, part, a', a2, v, n1, S, N ++ nd, rfl, b6, c1, by rw [List.length_append]; omega, fun vv H2 R2 k2 hv => ?_⟩
    have bL := k2.at no b1
    have kt : TupUp H2 (upd H2 L (.lst (us ++ [vv]))) := TupUp.lst bL
    have b2' := b2.len
    have vl := congrArg List.length b4
    rw [List.length_append, List.length_cons] at vl
    refine ⟨L, us, vv, rfl, rfl, bL, small1000 (by omega), ?_⟩
    exact ⟨a2, vd ++ [v], vs2, nd ++ n1, ns2, us ++ [vv], _, rfl, upd_same, ((b2.mono (b6.tup k2)).snoc hv).mono kt, c2, by rw [List.append_assoc]; exact b4, by rw [List.append_assoc]; exact b5, by rw [← List.append_assoc]; exact R2.mut bL no, (b7.trans k2).mut nL⟩
  · obtain ⟨a', vd, vr, nd, nr, us, y, rfl, b1, b2, b3, b4, b5, b6, b7⟩ := hI
    rw [List.length_map, List.drop_length] at b3
    cases b3
    rw [List.append_nil] at b4 b5
    subst b4 b5
    refine ⟨_, rfl, L, us, rfl, .inl ⟨.of b1, fun l nl => ?_⟩⟩
    have sm := same_new nl (.tup us)
    exact q l us _ (b6.mono sm) (b7.trans (Kp.same sm)) upd_same (b2.mono (.same sm)) (by rw [b2.len, hlen.1]; exact few)
theorem ok_enter_pair {f fc fp fe aQ : Addr} {fd fcd fpd fed : FuncData} (T : RdT K A.C) (M : MethAt K A.C "enter_pair" "Reader.enter_pair" s_Reader_enter_pair ["self"] f fd)
    (M_read_choice : MethAt K A.C "read_choice" "Reader.read_choice" s_Reader_read_choice ["self", "choices"] fc fcd) (G_read_choice : FnOk P w K mg base CX0 2 fc fcd ["self", "choices"] (spChoice K A))
    (M_read_parts : MethAt K A.C "read_parts" "Reader.read_parts" s_Reader_read_parts ["self", "word"] fp fpd) (G_read_parts : FnOk P w K mg base CX0 6 fp fpd ["self", "word"] (spParts A))
    (M_expect : MethAt K A.C "expect" "Reader.expect" s_Reader_expect ["self", "sign"] fe fed) (G_expect : FnOk P w K mg base CX0 2 fe fed ["self", "sign"] (spExpect A))
    (g_PAIRS : mg "PAIRS" = some (.ref aQ)) (hQ : ∀ H, SqT K H aQ (pairS.map V.str)) : FnOk P w K mg base CX0 7 f fd ["self"] (spEnter A) := by
  refine M.F.ok sc_Reader_enter_pair (fun vs H Q E h => ?_) (fun cdv Ar outer s H vs Q E hr h => ?_)
  · obtain ⟨t, t2, r1, r, wo, pvs, n, ps, S, N, rfl, _⟩ := h
    rfl
  obtain ⟨t, t2, r1, r, wo, pvs, n, ps, S, N, rfl, R, ht, hm, hw, hp, ht2, hN, hS, q⟩ := h
  obtain ⟨i, h1, _⟩ := R.ob
  refine ⟨_, (pss_cons (ps_set (i := 1) sc_Reader_enter_pair.nd rfl (by first | exact Or.inl rfl | exact Or.inr rfl) (pe_meth (pv 0) T.cl M_read_choice.m G_read_choice (hr.mono (by omega)) M_read_choice.b .nil pass0 (pa_cons (gl_ref (by rfl) g_PAIRS) pa_nil))) (pss_cons (ps_set (i := 2) sc_Reader_enter_pair.nd rfl (by first | exact Or.inl rfl | exact Or.inr rfl) (pe_op op_catT (pe_tup (pa_cons (pv 1) pa_nil)) (pe_meth (pv 0) T.cl M_read_parts.m G_read_parts (hr.mono (by omega)) M_read_parts.b .nil pass0 (pa_cons (pv 1) pa_nil)))) (pss_cons (ps_expr (pe_meth (pv 0) T.cl M_expect.m G_expect (hr.mono (by omega)) M_expect.b .nil pass0 (pa_cons pe_str pa_nil))) (pss_one (ps_expr (pe_bm PySem.F.plainAttrs_list PySem.F.slot_list_append PySem.F.type_list_append mt_append (pe_fld (pv 0) rfl) (pa_cons (pe_tup (pa_cons pe_str (pa_cons (pv 2) pa_nil))) pa_nil))))))), ?_⟩
  refine ⟨_, rfl, A.r, A.dx, _, rfl, h1, flds_no A i (by decide +kernel) (by decide +kernel) (by decide +kernel) (by decide +kernel), aQ, pairS, wo, t, r1, S, N, rfl, hQ _, R, ht, hm, fun H1 R1 k1 => ?_⟩
  -- begun = (word,) + self.read_parts(word)
  refine ⟨_, rfl, (by show 1 ≤ sizeLine; decide), fun tw ntw => ?_⟩
  have s1 := same_new ntw (.tup [.str wo])
  have R1' := R1.mono s1
  obtain ⟨i1, g1, _⟩ := R1'.ob
  refine ⟨_, rfl, A.r, A.dx, _, rfl, g1, flds_no A i1 (by decide +kernel) (by decide +kernel) (by decide +kernel) (by decide +kernel), _, rfl, wo, ps, r1, t2 :: r, pvs, n, S, N, rfl, hw, R1', hp, hN, fun tu us H2 R2 k2 hu hus hul => ?_⟩
  have htw : H2 tw = some (.tup [.str wo]) := (R1'.tup k2) _ _ upd_same
  refine catT1 htw hu (List.cons_ne_nil _ _) (by show 1 + us.length ≤ 1000; omega) fun tb H3 s3 hb => ?_
  have R3 := R2.mono s3
  obtain ⟨i3, g3, _⟩ := R3.ob
  -- self.expect("(")
  refine ⟨_, rfl, A.r, A.dx, _, rfl, g3, flds_no A i3 (by decide +kernel) (by decide +kernel) (by decide +kernel) (by decide +kernel), "(", t2, r, S, N ++ n, rfl, R3, ht2, fun H4 R4 k4 => ?_⟩
  obtain ⟨i4, g4, _⟩ := R4.ob
  obtain ⟨un, u1, u2⟩ := R4.ul
  have ul := u2.len
  rw [List.length_reverse] at ul
  -- self.unclosed.append((",", begun))
  refine ⟨_, rfl, A.r, A.C, A.dx, _, _, rfl, g4, T.cl, T.nU, flds_un A i4, .inl ⟨rfl, _, .of u1⟩, _, rfl, (by show 2 ≤ sizeLine; decide), fun tp ntp => ?_⟩
  have s4 := same_new ntp (.tup [.str ",", .ref tb])
  have R5 := R4.mono s4
  have u3 : (upd H4 tp (.tup [.str ",", .ref tb])) A.ua = some (.lst un) := s4 _ _ u1
  have hb5 : (upd H4 tp (.tup [.str ",", .ref tb])) tb = some (.tup (.str wo :: us)) := s4 _ _ ((R3.tup k4) _ _ hb)
  have ha5 : ArgsAt (upd H4 tp (.tup [.str ",", .ref tb])) pvs us := (((hus.mono (.same s3)).mono (R3.tup k4)).mono (.same s4))
  obtain ⟨R6, k6⟩ := R5.push (f := .comma wo pvs) (v := .ref tp) u3 ⟨tp, tb, us, rfl, upd_same, hb5, ha5, hul⟩
  refine ⟨A.ua, un, _, rfl, rfl, u3, small1000 (by omega), ?_⟩
  exact q _ R6 ((((((k1.trans (Kp.same s1)).trans k2).trans (Kp.same s3)).trans k4).trans (Kp.same s4)).trans k6)
theorem ApR.args {H : Hp} {wo : Str} {pvs : List Pv} {p p' : Pl} {us : List V} {tb tp : Addr} {v : V} (a : ApR wo pvs p p') (hus : ArgsAt H pvs us) (hb : H tb = some (.tup (.str wo :: us))) (hp : PlAt H p v) :
    (wo ∈ singleS → H tp = some (.tup ((.str wo :: us) ++ [v])) → PlAt H p' (.ref tp)) ∧ (wo ∉ singleS → H tp = some (.tup [.str "stage", .ref tb, v]) → PlAt H p' (.ref tp)) := by
  have n1 : ∀ s ∈ stageS, s ∉ singleS := by decide +kernel
  have n2 : ("once" : Str) ∈ singleS ∧ ("windows" : Str) ∈ singleS ∧ ("sittings" : Str) ∈ singleS := by decide +kernel
  have n3 : ("sift" : Str) ∈ stageS ∧ ("only" : Str) ∈ stageS ∧ ("rekey" : Str) ∈ stageS ∧ ("scale" : Str) ∈ stageS ∧ ("later" : Str) ∈ stageS := by decide +kernel
  cases a with
  | sift e =>
    subst e
    match us, hus with
    | [_, _], ⟨h1, h2, _⟩ =>
      cases h1; cases h2
      exact ⟨fun h => absurd h (n1 _ n3.1), fun _ g => ⟨tp, _, _, rfl, g, ⟨tb, rfl, hb⟩, hp⟩⟩
  | only e =>
    subst e
    match us, hus with
    | [_], ⟨⟨k, h1, h2⟩, _⟩ =>
      cases h1
      exact ⟨fun h => absurd h (n1 _ n3.2.1), fun _ g => ⟨tp, _, _, rfl, g, ⟨tb, k, rfl, hb, h2⟩, hp⟩⟩
  | rekey e =>
    subst e
    match us, hus with
    | [_], ⟨h1, _⟩ =>
      cases h1
      exact ⟨fun h => absurd h (n1 _ n3.2.2.1), fun _ g => ⟨tp, _, _, rfl, g, ⟨tb, rfl, hb⟩, hp⟩⟩
  | scale e =>
    subst e
    match us, hus with
    | [_], ⟨h1, _⟩ =>
      cases h1
      exact ⟨fun h => absurd h (n1 _ n3.2.2.2.1), fun _ g => ⟨tp, _, _, rfl, g, ⟨tb, rfl, hb⟩, hp⟩⟩
  | later e =>
    subst e
    match us, hus with
    | [_], ⟨h1, _⟩ =>
      cases h1
      exact ⟨fun h => absurd h (n1 _ n3.2.2.2.2), fun _ g => ⟨tp, _, _, rfl, g, ⟨tb, rfl, hb⟩, hp⟩⟩
  | once e =>
    subst e
    match us, hus with
    | [], _ => exact ⟨fun _ g => ⟨tp, _, rfl, g, hp⟩, fun h => absurd n2.1 h⟩
  | windows e =>
    subst e
    match us, hus with
    | [_, _, _], ⟨h1, h2, h3, _⟩ =>
      cases h1; cases h2; cases h3
      exact ⟨fun _ g => ⟨tp, _, rfl, g, hp⟩, fun h => absurd n2.2.1 h⟩
  | sittings e =>
    subst e
    match us, hus with
    | [_, _], ⟨h1, h2, _⟩ =>
      cases h1; cases h2
      exact ⟨fun _ g => ⟨tp, _, rfl, g, hp⟩, fun h => absurd n2.2.2 h⟩
theorem ok_read_stage {f fc fp aS aG : Addr} {fd fcd fpd : FuncData} (T : RdT K A.C) (M : MethAt K A.C "read_stage" "Reader.read_stage" s_Reader_read_stage ["self", "plan"] f fd)
    (M_read_choice : MethAt K A.C "read_choice" "Reader.read_choice" s_Reader_read_choice ["self", "choices"] fc fcd) (G_read_choice : FnOk P w K mg base CX0 2 fc fcd ["self", "choices"] (spChoice K A))
    (M_read_parts : MethAt K A.C "read_parts" "Reader.read_parts" s_Reader_read_parts ["self", "word"] fp fpd) (G_read_parts : FnOk P w K mg base CX0 6 fp fpd ["self", "word"] (spParts A))
    (g_STAGES : mg "STAGES" = some (.ref aS)) (g_SINGLES : mg "SINGLES" = some (.ref aG)) (hS : ∀ H, SqT K H aS (stageS.map V.str)) (hG : ∀ H, SqT K H aG (singleS.map V.str)) : FnOk P w K mg base CX0 7 f fd ["self", "plan"] (spStg A) := by
  refine M.F.ok sc_Reader_read_stage (fun vs H Q E h => ?_) (fun cdv Ar outer s H vs Q E hr h => ?_)
  · obtain ⟨v, p, p', t1, r1, r, wo, pvs, n, ps, S, N, rfl, _⟩ := h
    rfl
  obtain ⟨v, p, p', t1, r1, r, wo, pvs, n, ps, S, N, rfl, R, hpl, ht, hm, hw, hp, ha, hN, q⟩ := h
  obtain ⟨i, h1, _⟩ := R.ob
  refine ⟨_, (pss_cons (ps_set (i := 2) sc_Reader_read_stage.nd rfl (by first | exact Or.inl rfl | exact Or.inr rfl) (pe_meth (pv 0) T.cl M_read_choice.m G_read_choice (hr.mono (by omega)) M_read_choice.b .nil pass0 (pa_cons (pe_op op_catT (gl_ref (by rfl) g_STAGES) (gl_ref (by rfl) g_SINGLES)) pa_nil))) (pss_cons (ps_set (i := 3) sc_Reader_read_stage.nd rfl (by first | exact Or.inl rfl | exact Or.inr rfl) (pe_op op_catT (pe_tup (pa_cons (pv 2) pa_nil)) (pe_meth (pv 0) T.cl M_read_parts.m G_read_parts (hr.mono (by omega)) M_read_parts.b .nil pass0 (pa_cons (pv 2) pa_nil)))) (pss_cons (ps_if (pt_cmpR op_in_seq (pv 2) (gl_ref (by rfl) g_SINGLES) rfl) (pss_one (ps_ret (pe_op op_catT (pv 3) (pe_tup (pa_cons (pv 1) pa_nil))))) pss_nil) (pss_one (ps_ret (pe_tup (pa_cons pe_str (pa_cons (pv 3) (pa_cons (pv 1) pa_nil))))))))), ?_⟩
  refine ⟨_, rfl, A.r, A.dx, _, rfl, h1, flds_no A i (by decide +kernel) (by decide +kernel) (by decide +kernel) (by decide +kernel), aS, aG, _, _, rfl, rfl, hS _, hG _, (by show stageS.map V.str ≠ []; exact List.cons_ne_nil _ _), (by show 5 + 3 ≤ sizeLine; decide), fun e => absurd e (List.cons_ne_nil _ _), fun _ tc ntc => ?_⟩
  have s0 := same_new ntc (.tup (stageS.map V.str ++ singleS.map V.str))
  have R0 := R.mono s0
  refine ⟨tc, stageS ++ singleS, wo, t1, r1, S, N, rfl, .of (by rw [List.map_append]; exact upd_same), R0, ht, hm, fun H1 R1 k1 => ?_⟩
  refine ⟨_, rfl, (by show 1 ≤ sizeLine; decide), fun tw ntw => ?_⟩
  have s1 := same_new ntw (.tup [.str wo])
  have R1' := R1.mono s1
  obtain ⟨i1, g1, _⟩ := R1'.ob
  refine ⟨_, rfl, A.r, A.dx, _, rfl, g1, flds_no A i1 (by decide +kernel) (by decide +kernel) (by decide +kernel) (by decide +kernel), _, rfl, wo, ps, r1, r, pvs, n, S, N, rfl, hw, R1', hp, hN, fun tu us H2 R2 k2 hu hus hul => ?_⟩
  have htw : H2 tw = some (.tup [.str wo]) := (R1'.tup k2) _ _ upd_same
  refine catT1 htw hu (List.cons_ne_nil _ _) (by show 1 + us.length ≤ 1000; omega) fun tb H3 s3 hb => ?_
  have R3 := R2.mono s3
  have k3 : Kp A H H3 := ((((Kp.same s0).trans k1).trans (Kp.same s1)).trans k2).trans (Kp.same s3)
  have hp3 : PlAt H3 p v := hpl.mono (R.tup k3)
  have hus3 := hus.mono (.same s3)
  -- if word in SINGLES
  refine ⟨_, rfl, aG, _, rfl, .inr (hG _), rfl, rfl, _, in_dec wo singleS, ite2 (fun e => ?_) (fun e => ?_)⟩
  · refine ⟨_, rfl, _, rfl, (by show 1 ≤ sizeLine; decide), fun t2 nt2 => ?_⟩
    have s4 := same_new nt2 (.tup [v])
    refine catT1 (s4 _ _ hb) upd_same (List.cons_ne_nil _ _) (by show us.length + 1 + 1 ≤ 1000; omega) fun tp H4 s5 htp => ?_
    have k5 := s4.trans s5
    exact q _ _ (R3.mono k5) (k3.trans (Kp.same k5)) ((ha.args (hus3.mono (.same k5)) (k5 _ _ hb) (hp3.mono (.same k5))).1 (of_decide_eq_true e) htp)
  · refine ⟨_, rfl, _, rfl, (by show 3 ≤ sizeLine; decide), fun tp ntp => ?_⟩
    have s4 := same_new ntp (.tup [.str "stage", .ref tb, v])
    exact q _ _ (R3.mono s4) (k3.trans (Kp.same s4)) ((ha.args (hus3.mono (.same s4)) (s4 _ _ hb) (hp3.mono (.same s4))).2 (fun z => e (decide_eq_true z)) upd_same)
end
end Tf
set_option maxHeartbeats 8000000
namespace Tf
open PySem PySem.Spec PyProof.Rows L2 TL
abbrev s_Reader_read_start : Stmt := (inClass (topS 23) 2)
abbrev n_Reader_read_start : List Str := ["self"]
theorem sc_Reader_read_start : FnScope n_Reader_read_start ["self"] (defScope s_Reader_read_start) := ⟨rfl, rfl, rfl, by decide +kernel, rfl, by decide +kernel, by decide +kernel⟩
abbrev s_Reader_leave : Stmt := (inClass (topS 23) 4)
abbrev n_Reader_leave : List Str := ["self", "plan", "sign", "begun"]
theorem sc_Reader_leave : FnScope n_Reader_leave ["self", "plan"] (defScope s_Reader_leave) := ⟨rfl, rfl, rfl, by decide +kernel, rfl, by decide +kernel, by decide +kernel⟩
abbrev s_Reader_read_plan : Stmt := (inClass (topS 23) 1)
abbrev n_Reader_read_plan : List Str := ["self", "plan"]
theorem sc_Reader_read_plan : FnScope n_Reader_read_plan ["self"] (defScope s_Reader_read_plan) := ⟨rfl, rfl, rfl, by decide +kernel, rfl, by decide +kernel, by decide +kernel⟩
theorem Rd.after {P p : Pl} {M : List Num} {e : Tk} {r : List Tk} {S : List Fm} {N : List Num} (h : Rd P M e (some p) r S N) : (∃ t r2 f S2, r = t :: r2 ∧ S = f :: S2 ∧ t.2.1 ≠ V.str "|") ∨
    (∃ (t t1 : Tk) (r1 r2 : List Tk) (w : Str) (vs : List Pv) (n : List Num) (ps : List Str) (p' : Pl), r = t :: t1 :: r1 ∧ t.1 = ("sign" : Str) ∧ t.2.1 = V.str "|" ∧ t1.2.1 = V.str w ∧ w ∈ stageS ++ singleS ∧ (w, ps) ∈ partsOf ∧ PartsR ps r1 r2 vs n ∧ ApR w vs p p' ∧ Rd P M e (some p') r2 S (N ++ n)) ∨
    (r = [e] ∧ S = [] ∧ N = M ∧ p = P ∧ e.1 = ("end" : Str)) := by
  have n1 : V.str (")" : Str) ≠ V.str "|" := fun z => absurd (V.str.inj z) (by decide +kernel)
  have n2 : V.str ("," : Str) ≠ V.str "|" := fun z => absurd (V.str.inj z) (by decide +kernel)
  cases h with
  | bar hk h h1 m hp hr a k => exact .inr (.inl ⟨_, _, _, _, _, _, _, _, _, rfl, hk, h, h1, m, hp, hr, a, k⟩)
  | close h k => exact .inl ⟨_, _, _, _, rfl, rfl, by rw [h]; exact n1⟩
  | comma h k => exact .inl ⟨_, _, _, _, rfl, rfl, by rw [h]; exact n2⟩
  | second h a k => exact .inl ⟨_, _, _, _, rfl, rfl, by rw [h]; exact n1⟩
  | done h => exact .inr (.inr ⟨rfl, rfl, rfl, rfl, h⟩)
theorem if_or {c : Prop} [Decidable c] {tt : TT} {σ : L2.St} {H : Hp} {Q : Bool → Hp → Prop} (b : Bool) (hx : c → b = true) (hy : ¬ c → ∀ Q' : Bool → Hp → Prop, Q' b H → tt σ H Q') (h : Q b H) : if c then Q true H else tt σ H Q := by
  by_cases k : c
  · rw [if_pos k, ← hx k]; exact h
  · rw [if_neg k]; exact hy k Q h
section
variable {P : Program} {w : World} {K : PySem.W.Frag} {mg : Str → Option Value} {base : Heap} {A : Ad}
theorem ok_read_start {f fh ft fe fv : Addr} {fd fhd ftd fed fvd : FuncData} (T : RdT K A.C) (M : MethAt K A.C "read_start" "Reader.read_start" s_Reader_read_start ["self"] f fd)
    (M_has_name : MethAt K A.C "has_name" "Reader.has_name" s_Reader_has_name ["self"] fh fhd) (G_has_name : FnOk P w K mg base CX0 2 fh fhd ["self"] (spHas A))
    (M_takes : MethAt K A.C "takes" "Reader.takes" s_Reader_takes ["self", "sign"] ft ftd) (G_takes : FnOk P w K mg base CX0 1 ft ftd ["self", "sign"] (spTakes A))
    (M_enter_pair : MethAt K A.C "enter_pair" "Reader.enter_pair" s_Reader_enter_pair ["self"] fe fed) (G_enter_pair : FnOk P w K mg base CX0 7 fe fed ["self"] (spEnter A))
    (M_read_value : MethAt K A.C "read_value" "Reader.read_value" s_Reader_read_value ["self"] fv fvd) (G_read_value : FnOk P w K mg base CX0 1 fv fvd ["self"] (spValue A)) : FnOk P w K mg base CX0 8 f fd ["self"] (spStart A) := by
  refine M.F.ok sc_Reader_read_start (fun vs H Q E h => ?_) (fun cdv Ar outer s H vs Q E hr h => ?_)
  · obtain ⟨PP, MM, e, rem, S, N, rfl, _⟩ := h
    rfl
  obtain ⟨PP, MM, e, rem, S, N, rfl, R, hR, hM, q⟩ := h
  have np : ∀ z ∈ pairS, z ∈ gramS ∧ z ≠ ("(" : Str) := by decide +kernel
  refine ⟨_, (pss_cons (ps_while PassesOwn.never (pt_not (pt_val (pe_meth0 (pv 0) T.cl M_has_name.m G_has_name (hr.mono (by omega)) M_has_name.b .nil pass0))) (pss_one (ps_if (pt_val (pe_meth (pv 0) T.cl M_takes.m G_takes (hr.mono (by omega)) M_takes.b .nil pass0 (pa_cons pe_str pa_nil))) (pss_one (ps_expr (pe_bm PySem.F.plainAttrs_list PySem.F.slot_list_append PySem.F.type_list_append mt_append (pe_fld (pv 0) rfl) (pa_cons (pe_tup (pa_cons pe_str (pa_cons (pe_tup pa_nil) pa_nil))) pa_nil)))) (pss_one (ps_expr (pe_meth0 (pv 0) T.cl M_enter_pair.m G_enter_pair (hr.mono (by omega)) M_enter_pair.b .nil pass0)))))) (pss_one (ps_ret (pe_tup (pa_cons pe_str (pa_cons (pe_meth0 (pv 0) T.cl M_read_value.m G_read_value (hr.mono (by omega)) M_read_value.b .nil pass0) pa_nil)))))), ?_⟩
  refine ⟨fun m σ H' => ∃ (rem' : List Tk) (S' : List Fm) (N' : List Num), σ = [some (.ref A.r)] ∧ RS A H' rem' S' N' ∧ Rd PP MM e none rem' S' N' ∧ Kp A H H' ∧ rem'.length ≤ rem.length ∧ m = rem'.length, ⟨_, rem, S, N, rfl, R, hR, Kp.refl, Nat.le_refl _, rfl⟩, fun m σ H' hW => ?_⟩
  obtain ⟨rem', S', N', rfl, b1, b2, b3, b4, rfl⟩ := hW
  obtain ⟨i, g1, _⟩ := b1.ob
  have hnm := b2.nums
  have hdp := b2.deep
  have hsh := b1.short
  cases b2 with
  | @par t r _ _ hk ht k =>
    refine ⟨_, rfl, A.r, A.dx, _, rfl, g1, flds_no A i (by decide +kernel) (by decide +kernel) (by decide +kernel) (by decide +kernel), t, r, S', N', rfl, b1, fun ⟨z, hz⟩ => absurd hz (no_sign hk z), fun _ => ⟨_, rfl, iteT ?_⟩⟩
    refine ⟨fun σ' H2 => ∃ (rem2 : List Tk) (S2 : List Fm) (N2 : List Num), σ' = [some (.ref A.r)] ∧ RS A H2 rem2 S2 N2 ∧ Rd PP MM e none rem2 S2 N2 ∧ Kp A H H2 ∧ rem2.length < (t :: r).length, fun σ' H2 ⟨rem2, S2, N2, x1, x2, x3, x4, x5⟩ => ⟨_, x5, rem2, S2, N2, x1, x2, x3, x4, by omega, rfl⟩, ?_⟩
    refine ⟨_, rfl, A.r, A.dx, _, rfl, g1, flds_no A i (by decide +kernel) (by decide +kernel) (by decide +kernel) (by decide +kernel), "(", t, r, S', N', rfl, b1, fun n => absurd ht n, fun _ H2 R2 k2 => ⟨_, rfl, iteT ?_⟩⟩
    obtain ⟨i2, g2, _⟩ := R2.ob
    obtain ⟨un, u1, u2⟩ := R2.ul
    have ul := u2.len
    rw [List.length_reverse] at ul
    refine ⟨_, rfl, A.r, A.C, A.dx, _, _, rfl, g2, T.cl, T.nU, flds_un A i2, .inl ⟨rfl, _, .of u1⟩, Nat.zero_le _, fun te nte => ⟨(by show 2 ≤ sizeLine; decide), fun tp ntp => ?_⟩⟩
    have s1 := same_new nte (.tup [])
    have s2 := s1.trans (same_new ntp (.tup [.str ")", .ref te]))
    have n1 : te ≠ tp := ne_of_none upd_same ntp
    have u3 := s2 _ _ u1
    obtain ⟨R3, k3⟩ := (R2.mono s2).push (f := .par) (v := .ref tp) u3 ⟨tp, te, rfl, upd_same, by rw [upd_ne n1]; exact upd_same⟩
    refine ⟨A.ua, un, _, rfl, rfl, u3, small1000 (by omega), r, _, N', rfl, R3, k, ((b3.trans k2).trans (Kp.same s2)).trans k3, Nat.lt_succ_self _⟩
  | @pair t r1 t2 r wo pvs n ps _ _ ht hm hw hp ht2 k =>
    have k1 := k.nums
    have k2 := k.deep
    have sh := hp.shrink
    rw [List.length_append] at k1
    refine ⟨_, rfl, A.r, A.dx, _, rfl, g1, flds_no A i (by decide +kernel) (by decide +kernel) (by decide +kernel) (by decide +kernel), t, r1, S', N', rfl, b1, fun ⟨z, hz⟩ => absurd hz (no_pair ht (np _ hm).1 z), fun _ => ⟨_, rfl, iteT ?_⟩⟩
    refine ⟨fun σ' H2 => ∃ (rem2 : List Tk) (S2 : List Fm) (N2 : List Num), σ' = [some (.ref A.r)] ∧ RS A H2 rem2 S2 N2 ∧ Rd PP MM e none rem2 S2 N2 ∧ Kp A H H2 ∧ rem2.length < (t :: r1).length, fun σ' H2 ⟨rem2, S2, N2, x1, x2, x3, x4, x5⟩ => ⟨_, x5, rem2, S2, N2, x1, x2, x3, x4, by omega, rfl⟩, ?_⟩
    refine ⟨_, rfl, A.r, A.dx, _, rfl, g1, flds_no A i (by decide +kernel) (by decide +kernel) (by decide +kernel) (by decide +kernel), "(", t, r1, S', N', rfl, b1, fun _ => ⟨_, rfl, iteF ?_⟩, fun z => absurd (V.str.inj (ht.symm.trans z)) (np _ hm).2⟩
    refine ⟨_, rfl, A.r, A.dx, _, rfl, g1, flds_no A i (by decide +kernel) (by decide +kernel) (by decide +kernel) (by decide +kernel), t, t2, r1, r, wo, pvs, n, ps, S', N', rfl, b1, ht, hm, hw, hp, ht2, by omega, by omega, fun H2 R2 k2 => ?_⟩
    exact ⟨r, _, _, rfl, R2, k, b3.trans k2, by simp only [List.length_cons] at sh ⊢; omega⟩
  | @name t r n _ _ hn k =>
    refine ⟨_, rfl, A.r, A.dx, _, rfl, g1, flds_no A i (by decide +kernel) (by decide +kernel) (by decide +kernel) (by decide +kernel), t, r, S', N', rfl, b1, fun _ => ⟨_, rfl, iteF ?_⟩, fun z => absurd hn (z n)⟩
    refine ⟨_, rfl, A.r, A.dx, _, rfl, g1, flds_no A i (by decide +kernel) (by decide +kernel) (by decide +kernel) (by decide +kernel), t, r, S', N', rfl, b1, fun H2 R2 k2 => ⟨(by show 2 ≤ sizeLine; decide), fun tp ntp => ?_⟩⟩
    rw [hn.2.1]
    have s2 := same_new ntp (.tup [.str "source", .str n])
    exact q _ (.src n) _ r _ _ (R2.mono s2) k ⟨tp, rfl, upd_same⟩ (by simp only [List.length_cons] at b4; omega) ((b3.trans k2).trans (Kp.same s2))
theorem PrR.args {H : Hp} {wo : Str} {pvs : List Pv} {l r q : Pl} {us : List V} {tp : Addr} {x y : V} (a : PrR wo pvs l r q) (hus : ArgsAt H pvs us) (hl : PlAt H l x) (hr : PlAt H r y) (h : H tp = some (.tup ((.str wo :: (us ++ [x])) ++ [y]))) : PlAt H q (.ref tp) := by
  cases a with
  | two hw =>
    match us, hus with
    | [], _ => exact ⟨tp, x, y, rfl, h, hw, hl, hr⟩
  | near e =>
    subst e
    match us, hus with
    | [_, _, _], ⟨h1, h2, h3, _⟩ =>
      cases h1; cases h2; cases h3
      exact ⟨tp, x, y, rfl, h, hl, hr⟩
theorem ok_leave {f fe fs : Addr} {fd fed fsd : FuncData} (T : RdT K A.C) (M : MethAt K A.C "leave" "Reader.leave" s_Reader_leave ["self", "plan"] f fd)
    (M_expect : MethAt K A.C "expect" "Reader.expect" s_Reader_expect ["self", "sign"] fe fed) (G_expect : FnOk P w K mg base CX0 2 fe fed ["self", "sign"] (spExpect A))
    (M_read_start : MethAt K A.C "read_start" "Reader.read_start" s_Reader_read_start ["self"] fs fsd) (G_read_start : FnOk P w K mg base CX0 8 fs fsd ["self"] (spStart A)) : FnOk P w K mg base CX0 9 f fd ["self", "plan"] (spLeave A) := by
  refine M.F.ok sc_Reader_leave (fun vs H Q E h => ?_) (fun cdv Ar outer s H vs Q E hr h => ?_)
  · obtain ⟨PP, MM, e, v0, p0, t, rem, fm, S, N, rfl, _⟩ := h
    rfl
  obtain ⟨PP, MM, e, v0, p0, t, rem, fm, S, N, rfl, hp0, R, hbar, hR, hM, q⟩ := h
  obtain ⟨i, h1, _⟩ := R.ob
  obtain ⟨us, v, u1, u2, hfm, R1, k1⟩ := R.pop
  have kt1 := R.tup k1
  have hp1 := hp0.mono kt1
  have hf1 := hfm.mono kt1
  have hsh := R1.short
  have hdp := hR.deep
  obtain ⟨i1, g1, _⟩ := R1.ob
  refine ⟨_, (pss_cons (ps_asg (pe_bm0 PySem.F.plainAttrs_list PySem.F.slot_list_pop PySem.F.type_list_pop mt_pop (pe_fld (pv 0) rfl)) (pg_tup (by rfl) (pgs_cons (pg_name (i := 2) sc_Reader_leave.nd rfl (by first | exact Or.inl rfl | exact Or.inr rfl)) (pgs_cons (pg_name (i := 3) sc_Reader_leave.nd rfl (by first | exact Or.inl rfl | exact Or.inr rfl)) pgs_nil)))) (pss_cons (ps_expr (pe_meth (pv 0) T.cl M_expect.m G_expect (hr.mono (by omega)) M_expect.b .nil pass0 (pa_cons (pv 2) pa_nil))) (pss_cons (ps_if (pt_cmpR (op_eqE (Nat.lt_of_le_of_lt (Nat.le_add_right _ 64) hr.units)) (pv 3) (pe_tup pa_nil) (nomark _)) (pss_one (ps_ret (pv 1))) pss_nil) (pss_cons (ps_if (pt_cmpR op_eq (pv 2) pe_str (nomark _)) (pss_one (ps_ret (pe_op op_catT (pv 3) (pe_tup (pa_cons (pv 1) pa_nil))))) pss_nil) (pss_cons (ps_expr (pe_bm PySem.F.plainAttrs_list PySem.F.slot_list_append PySem.F.type_list_append mt_append (pe_fld (pv 0) rfl) (pa_cons (pe_tup (pa_cons pe_str (pa_cons (pe_op op_catT (pv 3) (pe_tup (pa_cons (pv 1) pa_nil))) pa_nil))) pa_nil))) (pss_one (ps_ret (pe_meth0 (pv 0) T.cl M_read_start.m G_read_start (hr.mono (by omega)) M_read_start.b .nil pass0)))))))), ?_⟩
  cases hR with
  | bar hk ht => exact absurd ht hbar
  | close ht k =>
    obtain ⟨tf, tb, rfl, hf, hb⟩ := hf1
    refine ⟨_, rfl, A.r, A.C, A.dx, _, _, rfl, h1, T.cl, T.nU, flds_un A i, .inl ⟨rfl, _, .of u1⟩, A.ua, us, _, rfl, rfl, u1, u2, tf, _, rfl, .of hf, rfl, _, _, rfl, _, _, rfl, rfl, ?_⟩
    refine ⟨_, rfl, A.r, A.dx, _, rfl, g1, flds_no A i1 (by decide +kernel) (by decide +kernel) (by decide +kernel) (by decide +kernel), _, rfl, ")", t, rem, S, N, rfl, R1, ht, fun H2 R2 k2 => ?_⟩
    have kt2 := R1.tup k2
    refine ⟨_, rfl, Nat.zero_le _, fun te nte => ⟨tb, te, [], rfl, rfl, .of ((same_new nte _) _ _ (kt2 _ _ hb)), .of upd_same, _, rfl, iteT ?_⟩⟩
    have s3 := same_new nte (.tup [])
    exact ⟨_, rfl, q _ _ _ rem S N (R2.mono s3) k ((hp1.mono kt2).mono (.same s3)) (Nat.lt_succ_self _) ((k1.trans k2).trans (Kp.same s3))⟩
  | @comma _ _ _ wo pvs _ _ ht k =>
    obtain ⟨tf, tb, us2, rfl, hf, hb, ha, hal⟩ := hf1
    refine ⟨_, rfl, A.r, A.C, A.dx, _, _, rfl, h1, T.cl, T.nU, flds_un A i, .inl ⟨rfl, _, .of u1⟩, A.ua, us, _, rfl, rfl, u1, u2, tf, _, rfl, .of hf, rfl, _, _, rfl, _, _, rfl, rfl, ?_⟩
    refine ⟨_, rfl, A.r, A.dx, _, rfl, g1, flds_no A i1 (by decide +kernel) (by decide +kernel) (by decide +kernel) (by decide +kernel), _, rfl, ",", t, rem, S, N, rfl, R1, ht, fun H2 R2 k2 => ?_⟩
    have kt2 := R1.tup k2
    refine ⟨_, rfl, Nat.zero_le _, fun te nte => ⟨tb, te, _, rfl, rfl, .of ((same_new nte _) _ _ (kt2 _ _ hb)), .of upd_same, _, rfl, iteF ?_⟩⟩
    have s3 := same_new nte (.tup [])
    have R3 := R2.mono s3
    have hb3 := s3 _ _ (kt2 _ _ hb)
    have hp3 := (hp1.mono kt2).mono (.same s3)
    have ha3 := (ha.mono kt2).mono (.same s3)
    obtain ⟨i3, g3, _⟩ := R3.ob
    obtain ⟨un, w1, w2⟩ := R3.ul
    have ul := w2.len
    rw [List.length_reverse] at ul
    refine ⟨_, rfl, rfl, _, rfl, iteF ?_⟩
    refine ⟨_, rfl, A.r, A.C, A.dx, _, _, rfl, g3, T.cl, T.nU, flds_un A i3, .inl ⟨rfl, _, .of w1⟩, _, rfl, _, rfl, (by show 1 ≤ sizeLine; decide), fun t2 nt2 => ?_⟩
    have s4 := same_new nt2 (.tup [v0])
    refine catT1 (s4 _ _ hb3) upd_same (List.cons_ne_nil _ _) (by show us2.length + 1 + 1 ≤ 1000; omega) fun tn H4 s5 htn => ⟨(by show 2 ≤ sizeLine; decide), fun tp ntp => ?_⟩
    have s6 := (s4.trans s5).trans (same_new ntp (.tup [.str ")", .ref tn]))
    have s7 := same_new ntp (.tup [.str ")", .ref tn])
    have w3 := s6 _ _ w1
    obtain ⟨R5, k5⟩ := (R3.mono s6).push (f := .second wo pvs p0) (v := .ref tp) w3 ⟨tp, tn, us2, v0, rfl, upd_same, s7 _ _ htn, ha3.mono (.same s6), hp3.mono (.same s6)⟩
    refine ⟨A.ua, un, _, rfl, rfl, w3, small1000 (by simp only [List.length_cons] at hdp hsh; omega), ?_⟩
    obtain ⟨i5, g5, _⟩ := R5.ob
    have kk := (((k1.trans k2).trans (Kp.same s3)).trans (Kp.same s6)).trans k5
    refine ⟨_, rfl, A.r, A.dx, _, rfl, g5, flds_no A i5 (by decide +kernel) (by decide +kernel) (by decide +kernel) (by decide +kernel), PP, MM, e, rem, _, N, rfl, R5, k, hM, fun v' p' H6 rem' S' N' R6 r6 hp6 hl6 k6 => ?_⟩
    exact q v' p' H6 rem' S' N' R6 r6 hp6 (Nat.lt_succ_of_lt hl6) (kk.trans k6)
  | @second _ _ _ q' wo pvs l _ _ ht a k =>
    obtain ⟨tf, tb, us2, x, rfl, hf, hb, ha, hl⟩ := hf1
    refine ⟨_, rfl, A.r, A.C, A.dx, _, _, rfl, h1, T.cl, T.nU, flds_un A i, .inl ⟨rfl, _, .of u1⟩, A.ua, us, _, rfl, rfl, u1, u2, tf, _, rfl, .of hf, rfl, _, _, rfl, _, _, rfl, rfl, ?_⟩
    refine ⟨_, rfl, A.r, A.dx, _, rfl, g1, flds_no A i1 (by decide +kernel) (by decide +kernel) (by decide +kernel) (by decide +kernel), _, rfl, ")", t, rem, S, N, rfl, R1, ht, fun H2 R2 k2 => ?_⟩
    have kt2 := R1.tup k2
    refine ⟨_, rfl, Nat.zero_le _, fun te nte => ⟨tb, te, _, rfl, rfl, .of ((same_new nte _) _ _ (kt2 _ _ hb)), .of upd_same, _, rfl, iteF ?_⟩⟩
    have s3 := same_new nte (.tup [])
    have R3 := R2.mono s3
    have hb3 := s3 _ _ (kt2 _ _ hb)
    refine ⟨_, rfl, rfl, _, rfl, iteT ?_⟩
    refine ⟨_, rfl, _, rfl, (by show 1 ≤ sizeLine; decide), fun t2 nt2 => ?_⟩
    have s4 := same_new nt2 (.tup [v0])
    have al := ha.len
    have pl : pvs.length ≤ 3 := by cases a <;> first | exact Nat.zero_le _ | exact Nat.le_refl _
    refine catT1 (s4 _ _ hb3) upd_same (List.cons_ne_nil _ _) (by show (us2 ++ [x]).length + 1 + 1 ≤ 1000; rw [List.length_append]; show us2.length + 1 + 1 + 1 ≤ 1000; omega) fun tp H4 s5 htp => ?_
    have s6 : TupUp _ H4 := TupUp.trans kt2 (.same ((s3.trans s4).trans s5))
    exact q _ _ _ rem S N (R3.mono (s4.trans s5)) k (a.args (ha.mono s6) (hl.mono s6) (hp1.mono s6) htp) (Nat.lt_succ_self _) ((k1.trans k2).trans (Kp.same ((s3.trans s4).trans s5)))
theorem ok_read_plan {f fs ft fg fl fk : Addr} {fd fsd ftd fgd fld fkd : FuncData} (T : RdT K A.C) (M : MethAt K A.C "read_plan" "Reader.read_plan" s_Reader_read_plan ["self"] f fd)
    (M_read_start : MethAt K A.C "read_start" "Reader.read_start" s_Reader_read_start ["self"] fs fsd) (G_read_start : FnOk P w K mg base CX0 8 fs fsd ["self"] (spStart A))
    (M_takes : MethAt K A.C "takes" "Reader.takes" s_Reader_takes ["self", "sign"] ft ftd) (G_takes : FnOk P w K mg base CX0 1 ft ftd ["self", "sign"] (spTakes A))
    (M_read_stage : MethAt K A.C "read_stage" "Reader.read_stage" s_Reader_read_stage ["self", "plan"] fg fgd) (G_read_stage : FnOk P w K mg base CX0 7 fg fgd ["self", "plan"] (spStg A))
    (M_leave : MethAt K A.C "leave" "Reader.leave" s_Reader_leave ["self", "plan"] fl fld) (G_leave : FnOk P w K mg base CX0 9 fl fld ["self", "plan"] (spLeave A))
    (M_kind : MethAt K A.C "kind" "Reader.kind" s_Reader_kind ["self"] fk fkd) (G_kind : FnOk P w K mg base CX0 1 fk fkd ["self"] (spKind A)) : FnOk P w K mg base CX0 10 f fd ["self"] (spPlan A) := by
  refine M.F.ok sc_Reader_read_plan (fun vs H Q E h => ?_) (fun cdv Ar outer s H vs Q E hr h => ?_)
  · obtain ⟨PP, MM, e, rem, rfl, _⟩ := h
    rfl
  obtain ⟨PP, MM, e, rem, rfl, R, hR, hM, q⟩ := h
  obtain ⟨i, h1, _⟩ := R.ob
  have ns : ("sign" : Str) ≠ "end" := by decide +kernel
  refine ⟨_, (pss_cons (ps_set (i := 1) sc_Reader_read_plan.nd rfl (by first | exact Or.inl rfl | exact Or.inr rfl) (pe_meth0 (pv 0) T.cl M_read_start.m G_read_start (hr.mono (by omega)) M_read_start.b .nil pass0)) (pss_cons (ps_while PassesOwn.never (PW.pt (pw_or (pt_truth (pe_fld (pv 0) rfl) (by intro _; rfl)) (pw_or1 (pt_cmpR op_ne (pe_meth0 (pv 0) T.cl M_kind.m G_kind (hr.mono (by omega)) M_kind.b .nil pass0) pe_str (nomark _))))) (pss_one (ps_if (pt_val (pe_meth (pv 0) T.cl M_takes.m G_takes (hr.mono (by omega)) M_takes.b .nil pass0 (pa_cons pe_str pa_nil))) (pss_one (ps_set (i := 1) sc_Reader_read_plan.nd rfl (by first | exact Or.inl rfl | exact Or.inr rfl) (pe_meth (pv 0) T.cl M_read_stage.m G_read_stage (hr.mono (by omega)) M_read_stage.b .nil pass0 (pa_cons (pv 1) pa_nil)))) (pss_one (ps_if (pt_truth (pe_fld (pv 0) rfl) (by intro _; rfl)) (pss_one (ps_set (i := 1) sc_Reader_read_plan.nd rfl (by first | exact Or.inl rfl | exact Or.inr rfl) (pe_meth (pv 0) T.cl M_leave.m G_leave (hr.mono (by omega)) M_leave.b .nil pass0 (pa_cons (pv 1) pa_nil)))) (pss_one ps_never)))))) (pss_one (ps_ret (pv 1))))), ?_⟩
  refine ⟨_, rfl, A.r, A.dx, _, rfl, h1, flds_no A i (by decide +kernel) (by decide +kernel) (by decide +kernel) (by decide +kernel), PP, MM, e, rem, [], [], rfl, R, hR, hM, fun v p H1 rem1 S1 N1 R1 r1 hp1 hl1 k1 => ?_⟩
  refine ⟨fun m σ H' => ∃ (v : V) (p : Pl) (rem' : List Tk) (S' : List Fm) (N' : List Num), σ = [some (.ref A.r), some v] ∧ RS A H' rem' S' N' ∧ Rd PP MM e (some p) rem' S' N' ∧ PlAt H' p v ∧ Kp A H H' ∧ m = rem'.length, ⟨_, v, p, rem1, S1, N1, rfl, R1, r1, hp1, k1, rfl⟩, fun m σ H' hW => ?_⟩
  obtain ⟨v, p, rem', S', N', rfl, b1, b2, b3, b4, rfl⟩ := hW
  obtain ⟨i', g1, _⟩ := b1.ob
  obtain ⟨un, u1, u2⟩ := b1.ul
  have ul := u2.len
  rw [List.length_reverse] at ul
  have hnm := b2.nums
  refine ⟨_, rfl, A.r, A.C, A.dx, _, _, rfl, g1, T.cl, T.nU, flds_un A i', _, .inl ⟨un, .of u1, rfl⟩, ?_⟩
  have some_un : 0 < S'.length → (!un.isEmpty) = true := fun h => by
    cases un with
    | nil => rw [List.length_nil] at ul; omega
    | cons a l => rfl
  have lS : S'.length = 0 ∨ 0 < S'.length := Nat.eq_zero_or_pos _
  rcases b2.after with ⟨t, r, f', S2, rfl, rfl, hb⟩ | ⟨t, t1, r1, r, wo, pvs, n, ps, p', rfl, hk, ht, ht1, hm, hw, hp, ha, k⟩ | ⟨rfl, rfl, rfl, rfl, he⟩
  · -- a parenthesis or a comma
    rw [some_un (Nat.succ_pos _)]
    refine iteT (iteT ?_)
    refine ⟨fun σ' H2 => ∃ (v : V) (p : Pl) (rem2 : List Tk) (S2 : List Fm) (N2 : List Num), rem2.length < (t :: r).length ∧ σ' = [some (.ref A.r), some v] ∧ RS A H2 rem2 S2 N2 ∧ Rd PP MM e (some p) rem2 S2 N2 ∧ PlAt H2 p v ∧ Kp A H H2, fun σ' H2 ⟨v, p, rem2, S2, N2, x0, x1, x2, x3, x4, x5⟩ => ⟨_, x0, v, p, rem2, S2, N2, x1, x2, x3, x4, x5, rfl⟩, ?_⟩
    refine ⟨_, rfl, A.r, A.dx, _, rfl, g1, flds_no A i' (by decide +kernel) (by decide +kernel) (by decide +kernel) (by decide +kernel), "|", t, r, _, N', rfl, b1, fun _ => ⟨_, rfl, iteF ?_⟩, fun z => absurd z hb⟩
    refine ⟨_, rfl, A.r, A.C, A.dx, _, _, rfl, g1, T.cl, T.nU, flds_un A i', _, .inl ⟨un, .of u1, rfl⟩, ?_⟩
    rw [some_un (Nat.succ_pos _)]
    refine iteT ?_
    refine ⟨_, rfl, A.r, A.dx, _, rfl, g1, flds_no A i' (by decide +kernel) (by decide +kernel) (by decide +kernel) (by decide +kernel), _, rfl, PP, MM, e, v, p, t, r, f', S2, N', rfl, b3, b1, hb, b2, hM, fun v2 p2 H2 rem2 S3 N2 R2 r2 hp2 hl2 k2 => ?_⟩
    exact ⟨v2, p2, rem2, S3, N2, hl2, rfl, R2, r2, hp2, b4.trans k2⟩
  · -- a bar
    have k1 := k.nums
    rw [List.length_append] at k1
    have sh := hp.shrink
    refine if_or true (fun _ => rfl) (fun _ Q' q' => ?_) ?_
    · refine ⟨_, rfl, A.r, A.dx, _, rfl, g1, flds_no A i' (by decide +kernel) (by decide +kernel) (by decide +kernel) (by decide +kernel), t, t1 :: r1, S', N', rfl, b1, rfl, _, ?_, q'⟩
      rw [hk, decide_eq_false (fun z => ns (V.str.inj z))] <;> rfl
    refine iteT ?_
    refine ⟨fun σ' H2 => ∃ (v : V) (p : Pl) (rem2 : List Tk) (S2 : List Fm) (N2 : List Num), rem2.length < (t :: t1 :: r1).length ∧ σ' = [some (.ref A.r), some v] ∧ RS A H2 rem2 S2 N2 ∧ Rd PP MM e (some p) rem2 S2 N2 ∧ PlAt H2 p v ∧ Kp A H H2, fun σ' H2 ⟨v, p, rem2, S2, N2, x0, x1, x2, x3, x4, x5⟩ => ⟨_, x0, v, p, rem2, S2, N2, x1, x2, x3, x4, x5, rfl⟩, ?_⟩
    refine ⟨_, rfl, A.r, A.dx, _, rfl, g1, flds_no A i' (by decide +kernel) (by decide +kernel) (by decide +kernel) (by decide +kernel), "|", t, t1 :: r1, S', N', rfl, b1, fun z => absurd ht z, fun _ H2 R2 k2 => ⟨_, rfl, iteT ?_⟩⟩
    obtain ⟨i2, g2, _⟩ := R2.ob
    refine ⟨_, rfl, A.r, A.dx, _, rfl, g2, flds_no A i2 (by decide +kernel) (by decide +kernel) (by decide +kernel) (by decide +kernel), _, rfl, v, p, p', t1, r1, r, wo, pvs, n, ps, S', N', rfl, R2, b3.mono (b1.tup k2), ht1, hm, hw, hp, ha, by omega, fun v3 H3 R3 k3 hp3 => ?_⟩
    exact ⟨v3, p', r, S', _, by simp only [List.length_cons]; omega, rfl, R3, k, hp3, (b4.trans k2).trans k3⟩
  · -- the end
    have hu : un = [] := List.length_eq_zero_iff.mp ul
    subst hu
    refine iteF ?_
    refine ⟨_, rfl, A.r, A.dx, _, rfl, g1, flds_no A i' (by decide +kernel) (by decide +kernel) (by decide +kernel) (by decide +kernel), e, [], [], N', rfl, b1, rfl, _, ?_, iteF ⟨_, rfl, q v H' b1 b3 b4⟩⟩
    rw [he]
    exact congrArg V.bl (dec_self _)
end
end Tf
set_option maxHeartbeats 8000000
namespace Tf
open PySem PySem.Spec PyProof.Rows L2 TL
abbrev s_end_of_stretch : Stmt := (topS 16)
abbrev n_end_of_stretch : List Str := ["text", "place", "characters"]
theorem sc_end_of_stretch : FnScope n_end_of_stretch ["text", "place", "characters"] (defScope s_end_of_stretch) := ⟨rfl, rfl, rfl, by decide +kernel, rfl, by decide +kernel, by decide +kernel⟩
abbrev s_token_at : Stmt := (topS 15)
abbrev n_token_at : List Str := ["text", "place", "end", "digits", "sign"]
theorem sc_token_at : FnScope n_token_at ["text", "place"] (defScope s_token_at) := ⟨rfl, rfl, rfl, by decide +kernel, rfl, by decide +kernel, by decide +kernel⟩
abbrev s_tokens : Stmt := (topS 14)
abbrev n_tokens : List Str := ["text", "found", "place", "written", "value", "kind", "end"]
theorem sc_tokens : FnScope n_tokens ["text"] (defScope s_tokens) := ⟨rfl, rfl, rfl, by decide +kernel, rfl, by decide +kernel, by decide +kernel⟩
section
variable {P : Program} {w : World} {K : PySem.W.Frag} {mg : Str → Option Value} {base : Heap}
theorem ok_end_of_stretch {f : Addr} {fd : FuncData} (D : DefAt K mg "end_of_stretch" s_end_of_stretch ["text", "place", "characters"] f fd) (z_len : mg "len" = none) :
    FnOk P w K mg base CX0 1 f fd ["text", "place", "characters"] spEos := by
  refine D.F.ok sc_end_of_stretch (fun vs H Q E h => ?_) (fun cdv A outer s H vs Q E hr h => ?_)
  · obtain ⟨z, cs, p, rfl, _⟩ := h
    rfl
  obtain ⟨z, cs, p, rfl, hp, hz, q⟩ := h
  have hzl := len_tl z
  refine ⟨_, (pss_cons (ps_while PassesOwn.never (PW.pt (pw_and (pt_cmpR op_lt (pv 1) (pe_callB call_len_str (by rfl) z_len boot_len (pa_cons (pv 0) pa_nil)) (nomark _)) (pw_and1 (pt_cmpR op_in_sign (pe_ix ix_str (pv 0) (pv 1) (fun _ _ => rfl)) (pv 2) rfl)))) (pss_one (ps_aug (i := 1) sc_end_of_stretch.nd rfl (by first | exact Or.inl rfl | exact Or.inr rfl) pe_int ip_add))) (pss_one (ps_ret (pv 1)))), ?_⟩
  refine ⟨fun m σ H' => ∃ j : Nat, σ = [some (.str z), some (.int (j : Int)), some (.str cs)] ∧ H' = H ∧ p ≤ j ∧ j ≤ (tl z).length ∧ m = (tl z).length - j ∧ ∀ i c, p ≤ i → i < j → (tl z)[i]? = some c → c ∈ tl cs, ⟨_, p, rfl, rfl, Nat.le_refl _, hp, rfl, fun i c h1 h2 => by omega⟩, fun m σ H' hW => ?_⟩
  obtain ⟨j, rfl, rfl, h1, h2, rfl, h3⟩ := hW
  refine ⟨_, rfl, _, rfl, _, rfl, hz, _, _, rfl, rfl, _, rfl, ite2 (fun e => ?_) (fun e => ?_)⟩
  · have hj : j < (tl z).length := by
      have := of_decide_eq_true e
      omega
    obtain ⟨c, hc⟩ : ∃ c, (tl z)[j]? = some c := ⟨_, List.getElem?_eq_getElem hj⟩
    refine ⟨_, rfl, _, rfl, _, _, c, rfl, rfl, hz, atI_nat hc, _, rfl, c, cs, rfl, rfl, _, rfl, ite2 (fun e2 => ?_) (fun e2 => ?_)⟩
    · refine ⟨fun σ' H1 => σ' = [some (.str z), some (.int ((j : Int) + 1)), some (.str cs)] ∧ H1 = H', fun σ' H1 hN => ?_, _, rfl, _, _, rfl, rfl, rfl, rfl⟩
      obtain ⟨rfl, rfl⟩ := hN
      refine ⟨_, ?_, j + 1, rfl, rfl, by omega, by omega, rfl, fun i c' a b g => ?_⟩
      · omega
      · rcases Nat.lt_or_eq_of_le (Nat.le_of_lt_succ b) with b' | b'
        · exact h3 i c' a b' g
        · subst b'
          rw [hc] at g
          have g' : c = c' := Option.some.inj g
          subst g'
          exact of_decide_eq_true e2
    · refine ⟨_, rfl, ?_⟩
      refine q j h1 h2 h3 fun c' g => ?_
      rw [hc] at g
      have g' : c = c' := Option.some.inj g
      subst g'
      exact fun z => e2 (decide_eq_true z)
  · have hj : j = (tl z).length := by
      have : ¬ (j : Int) < (z.length : Int) := fun z => e (decide_eq_true z)
      omega
    refine ⟨_, rfl, ?_⟩
    refine q j h1 h2 h3 fun c' g => ?_
    rw [List.getElem?_eq_none (by omega)] at g
    cases g
theorem ok_token_at {f fe aS : Addr} {fd fed : FuncData} (D : DefAt K mg "token_at" s_token_at ["text", "place"] f fd)
    (D_end_of_stretch : DefAt K mg "end_of_stretch" s_end_of_stretch ["text", "place", "characters"] fe fed) (G_end_of_stretch : FnOk P w K mg base CX0 1 fe fed ["text", "place", "characters"] spEos)
    (z_len : mg "len" = none) {t1 t2 : Tok} (g_LETTERS : mg "LETTERS" = some (.str ("abcdefghijklmnopqrstuvwxyz" : Str) t1)) (g_DIGITS : mg "DIGITS" = some (.str ("0123456789" : Str) t2)) (g_SIGNS : mg "SIGNS" = some (.ref aS)) (hS : ∀ H, SqT K H aS (sgS.map V.str)) :
    FnOk P w K mg base CX0 2 f fd ["text", "place"] spTokAt := by
  refine D.F.ok sc_token_at (fun vs H Q E h => ?_) (fun cdv A outer s H vs Q E hr h => ?_)
  · obtain ⟨z, p, _, _, _, rfl, _⟩ := h
    rfl
  obtain ⟨z, p, wd, r, kind, rfl, hd, ht, hz, q⟩ := h
  have hzl := len_tl z
  have hlen := drop_len hd ht.ne
  have hpos : 0 < wd.length := List.length_pos_iff.mpr ht.ne
  obtain ⟨c0, hc0⟩ : ∃ c, wd.head? = some c := by
    cases wd with
    | nil => exact absurd rfl ht.ne
    | cons c r => exact ⟨c, rfl⟩
  have hg : (tl z)[p]? = some c0 := by
    have k := drop_get (i := 0) hd
    rw [Nat.add_zero, List.getElem?_append_left hpos, ← List.head?_eq_getElem?, hc0] at k
    exact k
  have zero : ∀ S : Nat → Prop, ¬ S c0 → ∀ e : Nat, p ≤ e → e ≤ (tl z).length → (∀ i c, p ≤ i → i < e → (tl z)[i]? = some c → S c) → e = p := fun S hn e h1 h2 h3 => by
    rcases Nat.eq_or_lt_of_le h1 with h | h
    · exact h.symm
    · exact absurd (h3 p c0 (Nat.le_refl _) h hg) hn
  refine ⟨_, (pss_cons (ps_set (i := 2) sc_token_at.nd rfl (by first | exact Or.inl rfl | exact Or.inr rfl) (pe_call G_end_of_stretch (hr.mono (by omega)) (by rfl) D_end_of_stretch.m D_end_of_stretch.F.kp D_end_of_stretch.b .nil pass0 (pa_cons (pv 0) (pa_cons (pv 1) (pa_cons (gl_str (by rfl) g_LETTERS) pa_nil))))) (pss_cons (ps_if (pt_cmpR op_gt (pv 2) (pv 1) (nomark _)) (pss_one (ps_ret (pe_tup (pa_cons pe_str (pa_cons (pv 2) pa_nil))))) pss_nil) (pss_cons (ps_set (i := 3) sc_token_at.nd rfl (by first | exact Or.inl rfl | exact Or.inr rfl) (pe_ifExp (pt_cmpR op_eq (pe_ix ix_str (pv 0) (pv 1) (fun _ _ => rfl)) pe_str (nomark _)) (pe_op op_add (pv 1) pe_int) (pv 1))) (pss_cons (ps_set (i := 2) sc_token_at.nd rfl (by first | exact Or.inl rfl | exact Or.inr rfl) (pe_call G_end_of_stretch (hr.mono (by omega)) (by rfl) D_end_of_stretch.m D_end_of_stretch.F.kp D_end_of_stretch.b .nil pass0 (pa_cons (pv 0) (pa_cons (pv 3) (pa_cons (gl_str (by rfl) g_DIGITS) pa_nil))))) (pss_cons (ps_if (pt_cmpR op_gt (pv 2) (pv 3) (nomark _)) (pss_one (ps_ret (pe_tup (pa_cons pe_str (pa_cons (pv 2) pa_nil))))) pss_nil) (pss_cons (ps_for PassesOwn.never rfl (pi_tup (gl_ref (by rfl) g_SIGNS)) (pg_name (i := 4) sc_token_at.nd rfl (by first | exact Or.inl rfl | exact Or.inr rfl)) (pss_one (ps_if (pt_val (pe_bm PySem.F.plainAttrs_str PySem.F.slot_str_startswith PySem.F.type_str_startswith mt_startswith3 (pv 0) (pa_cons (pv 4) (pa_cons (pv 1) pa_nil)))) (pss_one (ps_ret (pe_tup (pa_cons pe_str (pa_cons (pe_op op_add (pv 1) (pe_callB call_len_str (by rfl) z_len boot_len (pa_cons (pv 4) pa_nil))) pa_nil))))) pss_nil))) (pss_one ps_never))))))), ?_⟩
  -- end = end_of_stretch(text, place, LETTERS)
  refine ⟨_, rfl, _, rfl, z, _, p, rfl, by omega, hz, fun e h1 h2 h3 h4 => ?_⟩
  have h3' : ∀ i c, p ≤ i → i < e → (tl z)[i]? = some c → Lt c := fun i c a b g => (mem_letters c).mp (h3 i c a b g)
  have h4' : ∀ c, (tl z)[e]? = some c → ¬ Lt c := fun c g n => h4 c g ((mem_letters c).mpr n)
  refine ⟨_, rfl, _, rfl, _, _, rfl, rfl, _, rfl, ite2 (fun g => ?_) (fun g => ?_)⟩
  · have hgt : p < e := by have := of_decide_eq_true g; omega
    have hlt : Lt c0 := h3' p c0 (Nat.le_refl _) hgt hg
    cases ht with
    | word h hw hr' =>
      have ee : e = p + wd.length := eos_uniq hd hw hr' h1 h2 (by omega) h3' h4'
      subst ee
      refine ⟨_, rfl, (by show 2 ≤ sizeLine; decide), fun t nt => ?_⟩
      exact q t nt
    | num h hdg hr' hw =>
      exfalso
      rcases hw with e1 | e1
      · exact (show ¬ Lt c0 from fun n => by have := hdg c0 (by rw [← e1]; exact List.mem_of_head? hc0); unfold Lt Dg at *; omega) hlt
      · rw [e1] at hc0
        have : (45 : Nat) = c0 := Option.some.inj hc0
        subst this
        exact absurd hlt (by decide)
    | sign h hr' => exact absurd hlt (sg_head wd h c0 hc0).1
  · have hle : e = p := by
      rcases Nat.lt_or_ge p e with l | l
      · exact absurd (decide_eq_true (by omega)) g
      · omega
    have hnl : ¬ Lt c0 := fun n => h4' c0 (by rw [hle]; exact hg) n
    subst hle
    -- digits = place + 1 if text[place] == "-" else place
    refine ⟨_, rfl, _, rfl, _, _, c0, rfl, rfl, hz, atI_nat hg, rfl, _, rfl, ?_⟩
    have dash : decide (V.str ⟨#[c0]⟩ = V.str ("-" : Str)) = decide (c0 = 45) := by
      rw [Bool.eq_iff_iff, decide_eq_true_iff, decide_eq_true_iff, ← one_sign]
      exact ⟨fun h => V.str.inj h, fun h => congrArg V.str h⟩
    rw [dash]
    refine if_te (fun v => ∃ dg : Nat, v = .int (dg : Int) ∧ ((dg = e + 1 ∧ c0 = 45) ∨ (dg = e ∧ c0 ≠ 45))) (fun g Q' q' => ?_) (fun g Q' q' => ?_) (fun v hv => ?_)
    · refine ⟨_, rfl, _, _, rfl, rfl, ?_⟩
      exact q' _ ⟨e + 1, rfl, .inl ⟨rfl, of_decide_eq_true g⟩⟩
    · refine ⟨_, rfl, ?_⟩
      exact q' _ ⟨e, rfl, .inr ⟨rfl, fun z => g (decide_eq_true z)⟩⟩
    obtain ⟨dg, rfl, hdg0⟩ := hv
    -- end = end_of_stretch(text, digits, DIGITS)
    refine ⟨_, rfl, _, rfl, z, _, dg, rfl, by omega, hz, fun e2 k1 k2 k3 k4 => ?_⟩
    have k3' : ∀ i c, dg ≤ i → i < e2 → (tl z)[i]? = some c → Dg c := fun i c a b g => (mem_digits c).mp (k3 i c a b g)
    have k4' : ∀ c, (tl z)[e2]? = some c → ¬ Dg c := fun c g n => k4 c g ((mem_digits c).mpr n)
    have two : (dg < e2 → kind = "number" ∧ e2 = e + wd.length) ∧ (¬ dg < e2 → wd ∈ sgL ∧ (wd = [60] ∨ wd = [62] → ∀ c, r.head? = some c → c ≠ 61) ∧ kind = "sign") := by
      cases ht with
      | word h hw hr' => exact absurd (hw c0 (List.mem_of_head? hc0)) hnl
      | @num ds h hdg hr' hw =>
        have key : ∀ k : Nat, dg = e + k → (tl z).drop (e + k) = ds ++ r → wd.length = k + ds.length → e2 = e + wd.length := fun k a1 a2 a3 => by
          have := eos_uniq (S := Dg) (e := e2) a2 hdg hr' (by omega) k2 (by omega) (fun i c x y => k3' i c (by omega) y) k4'
          omega
        have hdp : 0 < ds.length := List.length_pos_iff.mpr h
        have ee : e2 = e + wd.length ∧ dg < e + wd.length := by
          rcases hdg0 with ⟨a1, a2⟩ | ⟨a1, a2⟩
          · rcases hw with e1 | e1
            · have := hdg c0 (by rw [← e1]; exact List.mem_of_head? hc0)
              unfold Dg at this
              omega
            · refine ⟨key 1 a1 ?_ (by rw [e1, List.length_cons]; omega), by rw [e1, List.length_cons]; omega⟩
              have hd1 : (tl z).drop e = [45] ++ (ds ++ r) := by rw [hd, e1]; rfl
              exact drop_add hd1
          · rcases hw with e1 | e1
            · exact ⟨key 0 a1 (by rw [Nat.add_zero, hd, e1]) (by rw [e1, Nat.zero_add]), by rw [e1]; omega⟩
            · rw [e1] at hc0
              exact absurd (Option.some.inj hc0).symm a2
        exact ⟨fun _ => ⟨rfl, ee.1⟩, fun n => by omega⟩
      | sign h hr' =>
        have hs := sg_head wd h c0 hc0
        have a1 : dg = e := by
          rcases hdg0 with ⟨_, a2⟩ | ⟨a1, _⟩
          · exact absurd a2 hs.2.2.1
          · exact a1
        have : e2 = e := zero Dg hs.2.1 e2 (by omega) k2 (fun i c x y => k3' i c (by omega) y)
        exact ⟨fun n => by omega, fun _ => ⟨h, hr', rfl⟩⟩
    -- if end > digits
    refine ⟨_, rfl, _, rfl, _, _, rfl, rfl, _, rfl, ite2 (fun g2 => ?_) (fun g2 => ?_)⟩
    · obtain ⟨rfl, rfl⟩ := two.1 (by have := of_decide_eq_true g2; omega)
      refine ⟨_, rfl, (by show 2 ≤ sizeLine; decide), fun t nt => ?_⟩
      exact q t nt
    · obtain ⟨hsg, hfol, rfl⟩ := two.2 (fun n => g2 (decide_eq_true (by omega)))
      obtain ⟨k, hk⟩ := List.mem_iff_getElem?.mp hsg
      have tlS : ∀ (i : Nat) (s : Str), sgS[i]? = some s → sgL[i]? = some (tl s) := fun i s hs => by rw [← sg_tl, List.getElem?_map, hs]; rfl
      -- for sign in SIGNS
      refine ⟨aS, rfl, ⟨_, hS _⟩, for_tup (xs := sgS.map V.str) (fun i σ H' => H' = H ∧ (∃ y, σ = [some (.str z), some (.int (e : Int)), some (.int (e2 : Int)), some (.int (dg : Int)), y]) ∧ ∀ j < i, ∀ s, sgS[j]? = some s → Txt.startswith3 z s (e : Int) = false)
        ⟨rfl, ⟨_, rfl⟩, fun j hj => absurd hj (Nat.not_lt_zero _)⟩ (fun i σ H' _ _ => hS _) (fun i x σ H' hx hP => ?_) (fun σ H' hP => ?_)⟩
      · obtain ⟨rfl, ⟨y, rfl⟩, hno⟩ := hP
        obtain ⟨s, hs, rfl⟩ : ∃ s, sgS[i]? = some s ∧ x = .str s := by
          rw [List.getElem?_map] at hx
          cases hq : sgS[i]? with
          | none => rw [hq] at hx; cases hx
          | some s => rw [hq] at hx; exact ⟨s, rfl, (Option.some.inj hx).symm⟩
        have hi10 : i < 10 := (List.getElem?_eq_some_iff.mp hs).1
        -- text.startswith(sign, place)
        refine ⟨_, rfl, rfl, _, rfl, _, rfl, _, _, _, rfl, rfl, _, rfl, ite2 (fun g3 => ?_) (fun g3 => ?_)⟩
        · obtain ⟨r', hr'⟩ := (sw_iff (by omega)).mp g3
          have hik : i ≤ k := by
            rcases Nat.lt_or_ge k i with l | l
            · exfalso
              have hk10 : k < 10 := (List.getElem?_eq_some_iff.mp hk).1
              obtain ⟨sk, hsk⟩ : ∃ s, sgS[k]? = some s := ⟨_, List.getElem?_eq_getElem (show k < sgS.length from hk10)⟩
              have e1 : tl sk = wd := Option.some.inj ((tlS k sk hsk).symm.trans hk)
              have := hno k l sk hsk
              rw [(sw_iff (by omega)).mpr ⟨r, by rw [e1]; exact hd⟩] at this
              cases this
            · exact l
          have ew : tl s = wd := by
            rcases sg_pref hik (tlS i s hs) hk (hr'.symm.trans hd) with h | ⟨h1, h2⟩
            · exact h
            · exact absurd rfl (hfol h1 61 h2)
          have el : (s.length : Int) = (wd.length : Int) := by rw [len_tl, ew]
          refine ⟨_, rfl, _, rfl, s, rfl, ?_, _, _, rfl, rfl, (by show 2 ≤ sizeLine; decide), fun t nt => ?_⟩
          · have := len_tl s
            rw [ew] at this
            omega
          · rw [el]
            exact q t nt
        · refine ⟨rfl, ⟨_, rfl⟩, fun j hj s' hs' => ?_⟩
          rcases Nat.lt_or_eq_of_le (Nat.le_of_lt_succ hj) with l | l
          · exact hno j l s' hs'
          · subst l
            rw [hs] at hs'
            cases hs'
            exact Bool.eq_false_iff.mpr g3
      · exfalso
        obtain ⟨rfl, _, hno⟩ := hP
        have hk10 : k < 10 := (List.getElem?_eq_some_iff.mp hk).1
        obtain ⟨sk, hsk⟩ : ∃ s, sgS[k]? = some s := ⟨_, List.getElem?_eq_getElem (show k < sgS.length from hk10)⟩
        have e1 : tl sk = wd := Option.some.inj ((tlS k sk hsk).symm.trans hk)
        have := hno k (by rw [List.length_map]; exact hk10) sk hsk
        rw [(sw_iff (by omega)).mpr ⟨r, by rw [e1]; exact hd⟩] at this
        cases this
end
end Tf
set_option maxHeartbeats 8000000
namespace Tf
open PySem PySem.Spec PyProof.Rows L2 TL
section
variable {P : Program} {w : World} {K : PySem.W.Frag} {mg : Str → Option Value} {base : Heap}
theorem ok_tokens {f fe : Addr} {fd fed : FuncData} (D : DefAt K mg "tokens" s_tokens ["text"] f fd)
    (D_token_at : DefAt K mg "token_at" s_token_at ["text", "place"] fe fed) (G_token_at : FnOk P w K mg base CX0 2 fe fed ["text", "place"] spTokAt)
    (z_len : mg "len" = none) (z_int : mg "int" = none) {t1 : Tok} (g_BLANKS : mg "BLANKS" = some (.str (" \n" : Str) t1)) :
    FnOk P w K mg base CX0 3 f fd ["text"] spTokens := by
  refine D.F.ok sc_tokens (fun vs H Q E h => ?_) (fun cdv A outer s H vs Q E hr h => ?_)
  · obtain ⟨z, due, rfl, _⟩ := h
    rfl
  obtain ⟨z, due, rfl, hx, hz, q⟩ := h
  have hzl := len_tl z
  have hzs : z.length ≤ sizeLine := Nat.le_of_lt (small1000 hz)
  refine ⟨_, (pss_cons (ps_set (i := 1) sc_tokens.nd rfl (by first | exact Or.inl rfl | exact Or.inr rfl) (pe_lst pa_nil)) (pss_cons (ps_set (i := 2) sc_tokens.nd rfl (by first | exact Or.inl rfl | exact Or.inr rfl) pe_int) (pss_cons (ps_while PassesOwn.never (pt_cmpR op_lt (pv 2) (pe_callB call_len_str (by rfl) z_len boot_len (pa_cons (pv 0) pa_nil)) (nomark _)) (pss_one (ps_if (pt_cmpR op_in_sign (pe_ix ix_str (pv 0) (pv 2) (fun _ _ => rfl)) (gl_str (by rfl) g_BLANKS) rfl) (pss_one (ps_aug (i := 2) sc_tokens.nd rfl (by first | exact Or.inl rfl | exact Or.inr rfl) pe_int ip_add)) (pss_cons (ps_asg (pe_call G_token_at (hr.mono (by omega)) (by rfl) D_token_at.m D_token_at.F.kp D_token_at.b .nil pass0 (pa_cons (pv 0) (pa_cons (pv 2) pa_nil))) (pg_tup (by rfl) (pgs_cons (pg_name (i := 5) sc_tokens.nd rfl (by first | exact Or.inl rfl | exact Or.inr rfl)) (pgs_cons (pg_name (i := 6) sc_tokens.nd rfl (by first | exact Or.inl rfl | exact Or.inr rfl)) pgs_nil)))) (pss_cons (ps_set (i := 3) sc_tokens.nd rfl (by first | exact Or.inl rfl | exact Or.inr rfl) (pe_slice sl_str (pv 0) (po_some (pv 2)) (po_some (pv 6)))) (pss_cons (ps_set (i := 4) sc_tokens.nd rfl (by first | exact Or.inl rfl | exact Or.inr rfl) (pe_ifExp (pt_cmpR op_eq (pv 5) pe_str (nomark _)) (pe_callTy call_int_str (by rfl) z_int boot_int (pa_cons (pv 3) pa_nil)) (pv 3))) (pss_cons (ps_expr (pe_bm PySem.F.plainAttrs_list PySem.F.slot_list_append PySem.F.type_list_append mt_append (pv 1) (pa_cons (pe_tup (pa_cons (pv 5) (pa_cons (pv 4) (pa_cons (pv 2) pa_nil)))) pa_nil))) (pss_one (ps_set (i := 2) sc_tokens.nd rfl (by first | exact Or.inl rfl | exact Or.inr rfl) (pv 6)))))))))) (pss_one (ps_ret (pv 1)))))), ?_⟩
  refine ⟨Nat.zero_le _, fun a na => ?_⟩
  refine ⟨fun m σ H' => ∃ (p : Nat) (dn rest : List Tk) (xs : List V) (y1 y2 y3 y4 : Option V), σ = [some (.str z), some (.ref a), some (.int (p : Int)), y1, y2, y3, y4] ∧ p ≤ (tl z).length ∧ Lex p ((tl z).drop p) rest ∧ dn ++ rest = due ∧ m = (tl z).length - p ∧
    H' a = some (.lst xs) ∧ TkL H' xs dn ∧ xs.length ≤ p ∧ Same H H', ⟨_, 0, [], due, [], none, none, none, none, rfl, Nat.zero_le _, hx, rfl, rfl, upd_same, trivial, Nat.zero_le _, same_new na _⟩, fun m σ H' hW => ?_⟩
  obtain ⟨p, dn, rest, xs, y1, y2, y3, y4, rfl, hp, hl, hdue, rfl, ha, hT, hxl, hsm⟩ := hW
  -- place < len(text)
  refine ⟨_, rfl, _, rfl, _, rfl, hzs, _, _, rfl, rfl, _, rfl, ite2 (fun g => ?_) (fun g => ?_)⟩
  · have hlt : p < (tl z).length := by have := of_decide_eq_true g; omega
    have hg := List.getElem?_eq_getElem hlt
    have hne : (tl z).drop p ≠ [] := fun e => by
      have := congrArg List.length e
      rw [List.length_drop, List.length_nil] at this
      omega
    refine ⟨fun σ' H1 => ∃ (p' : Nat) (dn rest : List Tk) (xs : List V) (y1 y2 y3 y4 : Option V), p < p' ∧ σ' = [some (.str z), some (.ref a), some (.int (p' : Int)), y1, y2, y3, y4] ∧ p' ≤ (tl z).length ∧ Lex p' ((tl z).drop p') rest ∧ dn ++ rest = due ∧
      H1 a = some (.lst xs) ∧ TkL H1 xs dn ∧ xs.length ≤ p' ∧ Same H H1, fun σ' H1 hN => ?_, ?_⟩
    · obtain ⟨p', dn', rest', xs', z1, z2, z3, z4, hpp, rfl, b1, b2, b3, b4, b5, b6, b7⟩ := hN
      exact ⟨_, by omega, p', dn', rest', xs', z1, z2, z3, z4, rfl, b1, b2, b3, rfl, b4, b5, b6, b7⟩
    -- text[place] in BLANKS
    refine ⟨_, rfl, _, rfl, _, _, (tl z)[p], rfl, rfl, hzs, atI_nat hg, _, _, rfl, rfl, _, rfl, ?_⟩
    rcases lex_inv hl hne with ⟨c, r, e, hb, hk⟩ | ⟨wd, r, kind, v, d', e, ht, hv, hk, hd'⟩
    · have ec : (tl z)[p] = c := by
        have k := drop_get (l := tl z) (p := p) (i := 0) (w := [c]) (r := r) e
        rw [Nat.add_zero, hg] at k
        exact Option.some.inj k
      rw [ec, decide_eq_true ((mem_blanks c).mpr hb)]
      refine iteT ?_
      refine ⟨_, rfl, _, _, rfl, rfl, ?_⟩
      have ed : (tl z).drop (p + 1) = r := drop_add (w := [c]) e
      exact ⟨p + 1, dn, rest, xs, y1, y2, y3, y4, Nat.lt_succ_self _, rfl, hlt, by rw [ed]; exact hk, hdue, ha, hT, by omega, hsm⟩
    · have hw0 := ht.ne
      have hpos : 0 < wd.length := List.length_pos_iff.mpr hw0
      have hlen := drop_len e hw0
      have ec : wd.head? = some (tl z)[p] := by
        have k := drop_get (l := tl z) (p := p) (i := 0) e
        rw [Nat.add_zero, hg, List.getElem?_append_left hpos, ← List.head?_eq_getElem?] at k
        exact k.symm
      rw [decide_eq_false fun n => ht.head ec ((mem_blanks _).mp n)]
      refine iteF ?_
      -- kind, end = token_at(text, place)
      refine ⟨_, rfl, _, rfl, z, p, wd, r, kind, rfl, e, ht, hzs, fun t nt => ?_⟩
      have nta : a ≠ t := ne_of_none ha nt
      refine ⟨t, _, rfl, .inl (.inl upd_same), rfl, _, _, rfl, _, _, rfl, rfl, ?_⟩
      -- written = text[place:end]
      refine ⟨_, rfl, _, rfl, _, rfl, _, rfl, _, rfl, z, rfl, hzs, ?_⟩
      rw [cut_at e hw0]
      -- value = int(written) if kind == "number" else written
      refine ⟨_, rfl, rfl, _, rfl, ?_⟩
      refine if_te (fun v' => v' = v) (fun g Q' q' => ?_) (fun g Q' q' => ?_) (fun v' hv' => ?_)
      · have gk : kind = "number" := V.str.inj (of_decide_eq_true g)
        rcases hv with ⟨_, l640, n, h1, h2⟩ | ⟨h1, _⟩
        · refine ⟨_, rfl, _, n, rfl, h1, (by rw [len_tl, tl_mk]; exact l640), ?_⟩
          exact q' _ h2.symm
        · exact absurd gk h1
      · rcases hv with ⟨h1, _⟩ | ⟨h1, h2⟩
        · exact absurd (decide_eq_true (congrArg V.str h1)) g
        · refine ⟨_, rfl, ?_⟩
          exact q' _ h2.symm
      subst hv'
      -- found.append((kind, value, place))
      have ha1 : ∀ o, (upd H' t o) a = some (.lst xs) := fun o => by rw [upd_ne nta]; exact ha
      refine ⟨_, rfl, .inl ⟨rfl, _, .of (ha1 _)⟩, _, rfl, _, rfl, _, rfl, (by show 3 ≤ sizeLine; decide), fun u nu => ?_⟩
      have nua : a ≠ u := ne_of_none (ha1 _) nu
      have ha2 : ∀ o o', (upd (upd H' t o) u o') a = some (.lst xs) := fun o o' => by rw [upd_ne nua]; exact ha1 o
      refine ⟨a, xs, _, rfl, rfl, ha2 _ _, small1000 (by omega), ?_⟩
      -- place = end
      refine ⟨_, rfl, ?_⟩
      refine ⟨p + wd.length, dn ++ [(kind, v', p)], d', xs ++ [.ref u], _, _, _, _, by omega, rfl, by omega, by rw [drop_add e]; exact hk, by rw [List.append_assoc, ← hdue, hd']; rfl, upd_same, ?_, by rw [List.length_append]; show xs.length + 1 ≤ _; omega, ?_⟩
      · have k1 : ∀ q ys, H' q = some (.tup ys) → (upd H' t (.tup [.str kind, .int ((p + wd.length : Nat) : Int)])) q = some (.tup ys) := fun q ys eq => by rw [upd_ne (ne_of_none eq nt)]; exact eq
        have k2 : ∀ q ys, (upd H' t (.tup [.str kind, .int ((p + wd.length : Nat) : Int)])) q = some (.tup ys) → (upd (upd H' t (.tup [.str kind, .int ((p + wd.length : Nat) : Int)])) u (.tup [.str kind, v', .int (p : Int)])) q = some (.tup ys) := fun q ys eq => by rw [upd_ne (ne_of_none eq nu)]; exact eq
        refine TkL.mono (tup_upd (fun ys eq => ?_)) (TkL.snoc (t := (kind, v', p)) upd_same ((hT.mono k1).mono k2))
        rw [ha2 _ _] at eq
        cases eq
      · intro b o eb
        have nb : b ≠ a := ne_of_none eb na
        have nbt : b ≠ t := ne_of_none (hsm _ _ eb) nt
        have nbu : b ≠ u := ne_of_none (by rw [upd_ne nbt]; exact hsm _ _ eb) nu
        rw [upd_ne nb, upd_ne nbu, upd_ne nbt]
        exact hsm _ _ eb
  · have hpe : p = (tl z).length := by
      rcases Nat.lt_or_ge p (tl z).length with l | l
      · exact absurd (decide_eq_true (by omega)) g
      · omega
    rw [hpe, List.drop_length] at hl
    have hr0 := lex_end hl
    rw [hr0, List.append_nil] at hdue
    subst hdue
    refine ⟨_, rfl, ?_⟩
    exact q a xs H' na hsm ha hT
end
end Tf
set_option maxHeartbeats 8000000
namespace Tf
open PySem PySem.Spec PyProof.Rows L2 TL
abbrev s_inputs_of : Stmt := (topS 7)
abbrev n_inputs_of : List Str := ["plan"]
theorem sc_inputs_of : FnScope n_inputs_of ["plan"] (defScope s_inputs_of) := ⟨rfl, rfl, rfl, by decide +kernel, rfl, by decide +kernel, by decide +kernel⟩
abbrev s_with_levels : Stmt := (topS 8)
abbrev n_with_levels : List Str := ["plan", "found", "waiting", "below", "inner", "level"]
theorem sc_with_levels : FnScope n_with_levels ["plan"] (defScope s_with_levels) := ⟨rfl, rfl, rfl, by decide +kernel, rfl, by decide +kernel, by decide +kernel⟩
section
variable {P : Program} {w : World} {K : PySem.W.Frag} {mg : Str → Option Value} {base : Heap}
theorem cut_tail {h : V} {mid vs : List V} {n : Nat} (hn : vs.length = n) (hp : 0 < n) : cutV (h :: (mid ++ vs)) (some (-(n : Int))) none = vs ∧ ¬ (HT.sIx (h :: (mid ++ vs)).length 0 (some (-(n : Int))) = 0 ∧ HT.sIx (h :: (mid ++ vs)).length (h :: (mid ++ vs)).length none = (h :: (mid ++ vs)).length) := by
  have el : (h :: (mid ++ vs)).length = mid.length + 1 + n := by rw [List.length_cons, List.length_append, hn]; omega
  have e1 : HT.sIx (h :: (mid ++ vs)).length 0 (some (-(n : Int))) = mid.length + 1 := by
    show (if (-(n : Int)) < 0 then ((-(n : Int)) + ((h :: (mid ++ vs)).length : Int)).toNat else _) = _
    rw [if_pos (by omega), el]
    omega
  refine ⟨?_, fun z => by rw [e1] at z; omega⟩
  unfold cutV
  rw [e1, HT.sIx_none, el]
  show List.take (mid.length + 1 + n - (mid.length + 1)) (List.drop mid.length (mid ++ vs)) = vs
  rw [List.drop_left, show mid.length + 1 + n - (mid.length + 1) = n by omega, ← hn, List.take_length]
theorem ok_inputs_of {f aP : Addr} {fd : FuncData} (D : DefAt K mg "inputs_of" s_inputs_of ["plan"] f fd) (g_PAIRS : mg "PAIRS" = some (.ref aP)) (hP : ∀ H, SqT K H aP (pairS.map V.str)) : FnOk P w K mg base CX0 1 f fd ["plan"] spInputs := by
  refine D.F.ok sc_inputs_of (fun vs H Q E h => ?_) (fun cdv A outer s H vs Q E hr h => ?_)
  · obtain ⟨v, p, rfl, _⟩ := h
    rfl
  obtain ⟨v, p, rfl, hp, q⟩ := h
  obtain ⟨a, mid, vs, rfl, ha, hi, hm, h0, h1, h2, h3⟩ := hp.view
  have hl := hi.len
  refine ⟨_, (pss_cons (ps_if (pt_cmpR op_eq (pe_ix ix_tup (pv 0) pe_int (fun _ _ => rfl)) pe_str (nomark _)) (pss_one (ps_ret (pe_tup pa_nil))) pss_nil) (pss_cons (ps_if (pt_cmpR op_in_seq (pe_ix ix_tup (pv 0) pe_int (fun _ _ => rfl)) (gl_ref (by rfl) g_PAIRS) rfl) (pss_one (ps_ret (pe_slice sl_tup (pv 0) (po_some (pe_un un_neg pe_int)) po_none))) pss_nil) (pss_one (ps_ret (pe_slice sl_tup (pv 0) (po_some (pe_un un_neg pe_int)) po_none))))), ?_⟩
  -- plan[0] == 'source'
  refine ⟨_, rfl, a, _, _, _, rfl, rfl, .of ha, atI_nat (j := 0) rfl, rfl, _, rfl, ite2 (fun e => ?_) (fun e => ?_)⟩
  · have e' : p.head = "source" := V.str.inj (of_decide_eq_true e)
    have hn : p.ins = [] := by
      cases z : p.ins with
      | nil => rfl
      | cons x r => exact absurd e' (h1 (by rw [z]; exact List.cons_ne_nil _ _))
    rw [hn] at hi
    refine ⟨Nat.zero_le _, fun t nt => q t [] nt (by rw [hn]; trivial)⟩
  · have hn : p.ins ≠ [] := fun z => by
      obtain ⟨n, _, _, hh⟩ := h0 z
      exact e (decide_eq_true (congrArg V.str hh))
    -- plan[0] in PAIRS
    refine ⟨_, rfl, a, _, _, _, rfl, rfl, .of ha, atI_nat (j := 0) rfl, aP, _, rfl, .inr (hP _), rfl, rfl, _, rfl, ?_⟩
    have ein : (if false = true then !inV (.str p.head) (pairS.map V.str) else inV (.str p.head) (pairS.map V.str)) = decide (p.head ∈ pairS) := by
      rw [if_neg Bool.false_ne_true, in_strs]
    rw [ein]
    refine ite2 (fun e2 => ?_) (fun e2 => ?_)
    · have l2 : vs.length = 2 := by rw [← hl]; exact h2.mpr (of_decide_eq_true e2)
      obtain ⟨c1, c2⟩ := cut_tail (h := .str p.head) (mid := mid) l2 (by decide)
      refine ⟨_, rfl, _, rfl, _, rfl, a, _, rfl, .of ha, c2, fun t nt => ?_⟩
      have c1' : cutV (V.str p.head :: (mid ++ vs)) (some (-2)) none = vs := c1
      rw [c1']
      exact q t vs nt hi
    · have l1 : vs.length = 1 := by
        have z0 : p.ins.length ≠ 0 := fun z => hn (List.length_eq_zero_iff.mp z)
        have z2 : p.ins.length ≠ 2 := fun z => e2 (decide_eq_true (h2.mp z))
        omega
      obtain ⟨c1, c2⟩ := cut_tail (h := .str p.head) (mid := mid) l1 (by decide)
      refine ⟨_, rfl, _, rfl, _, rfl, a, _, rfl, .of ha, c2, fun t nt => ?_⟩
      have c1' : cutV (V.str p.head :: (mid ++ vs)) (some (-1)) none = vs := c1
      rw [c1']
      exact q t vs nt hi
end
end Tf
set_option maxHeartbeats 8000000
namespace Tf
open PySem PySem.Spec PyProof.Rows L2 TL
theorem same_mut {H H1 : Hp} {p : Addr} {o : HO} (k : Same H H1) (n : H p = none) : Same H (upd H1 p o) := fun b u e => by
  rw [upd_ne (ne_of_none e n)]
  exact k b u e
theorem stack_len : ∀ ws : List (Pl × Nat), ws.length ≤ (stackL ws).length
  | [] => Nat.le_refl _
  | q :: ws => by
    have e : stackL (q :: ws) = stackL [q] ++ stackL ws := stackL_app [q] ws
    rw [e, stackL_one, List.length_append, List.length_cons, List.length_cons]
    have := stack_len ws
    omega
section
variable {P : Program} {w : World} {K : PySem.W.Frag} {mg : Str → Option Value} {base : Heap}
theorem ok_with_levels {f fi : Addr} {fd fid : FuncData} (D : DefAt K mg "with_levels" s_with_levels ["plan"] f fd) (D_inputs_of : DefAt K mg "inputs_of" s_inputs_of ["plan"] fi fid) (G_inputs_of : FnOk P w K mg base CX0 1 fi fid ["plan"] spInputs) :
    FnOk P w K mg base CX0 2 f fd ["plan"] spLevels := by
  refine D.F.ok sc_with_levels (fun vs H Q E h => ?_) (fun cdv A outer s H vs Q E hr h => ?_)
  · obtain ⟨v, p, rfl, _⟩ := h
    rfl
  obtain ⟨v, p, rfl, hp, hsz, q⟩ := h
  have two : (2 : Nat) ≤ sizeLine := by decide
  have one : (1 : Nat) ≤ sizeLine := by decide
  refine ⟨_, (pss_cons (ps_set (i := 1) sc_with_levels.nd rfl (by first | exact Or.inl rfl | exact Or.inr rfl) (pe_lst pa_nil)) (pss_cons (ps_set (i := 2) sc_with_levels.nd rfl (by first | exact Or.inl rfl | exact Or.inr rfl) (pe_lst (pa_cons (pe_tup (pa_cons (pv 0) (pa_cons pe_int pa_nil))) pa_nil))) (pss_cons (ps_while PassesOwn.never (pt_truth (pv 2) (by intro _; rfl)) (pss_cons (ps_asg (pe_bm0 PySem.F.plainAttrs_list PySem.F.slot_list_pop PySem.F.type_list_pop mt_pop (pv 2)) (pg_tup (by rfl) (pgs_cons (pg_name (i := 4) sc_with_levels.nd rfl (by first | exact Or.inl rfl | exact Or.inr rfl)) (pgs_cons (pg_name (i := 5) sc_with_levels.nd rfl (by first | exact Or.inl rfl | exact Or.inr rfl)) pgs_nil)))) (pss_cons (ps_expr (pe_bm PySem.F.plainAttrs_list PySem.F.slot_list_append PySem.F.type_list_append mt_append (pv 1) (pa_cons (pe_tup (pa_cons (pv 4) (pa_cons (pv 5) pa_nil))) pa_nil))) (pss_one (ps_for PassesOwn.never rfl (pi_tup (pe_call G_inputs_of (hr.mono (by omega)) (by rfl) D_inputs_of.m D_inputs_of.F.kp D_inputs_of.b .nil pass0 (pa_cons (pv 4) pa_nil))) (pg_name (i := 3) sc_with_levels.nd rfl (by first | exact Or.inl rfl | exact Or.inr rfl)) (pss_one (ps_expr (pe_bm PySem.F.plainAttrs_list PySem.F.slot_list_append PySem.F.type_list_append mt_append (pv 2) (pa_cons (pe_tup (pa_cons (pv 3) (pa_cons (pe_op op_add (pv 5) pe_int) pa_nil))) pa_nil))))))))) (pss_one (ps_ret (pv 1)))))), ?_⟩
  refine ⟨Nat.zero_le _, fun F nF => ?_⟩
  refine ⟨_, rfl, two, fun t nt => ⟨one, fun W nW => ?_⟩⟩
  have tF : F ≠ t := ne_of_none upd_same nt
  have WF : F ≠ W := ne_of_none (show (upd (upd H F (.lst [])) t (.tup [v, .int 1])) F = some (.lst []) by rw [upd_ne tF]; exact upd_same) nW
  have tW : t ≠ W := ne_of_none upd_same nW
  have sF := same_new nF (.lst [])
  have st := sF.trans (same_new nt (.tup [v, .int 1]))
  have sW := st.trans (same_new nW (.lst [.ref t]))
  refine ⟨fun m σ H' => ∃ (ps ws : List (Pl × Nat)) (xs us : List V) (y3 y4 y5 : Option V), σ = [some v, some (.ref F), some (.ref W), y3, y4, y5] ∧ H' F = some (.lst xs) ∧ FL H' xs ps ∧ H' W = some (.lst us) ∧ FL H' us ws ∧
    (ps ++ stackL ws).Perm (subs 1 p) ∧ m = (stackL ws).length ∧ Same H H', ⟨_, [], [(p, 1)], [], [.ref t], none, none, none, rfl, ?_, trivial, upd_same, ⟨⟨t, v, rfl, ?_, hp.mono (.same sW)⟩, trivial⟩, ?_, rfl, sW⟩, fun m σ H' hW => ?_⟩
  · rw [upd_ne WF, upd_ne tF]
    exact upd_same
  · rw [upd_ne tW]
    exact upd_same
  · rw [stackL_one, List.nil_append, subs_eq]
    unfold stackL
    rw [List.map_map]
    exact List.Perm.refl _
  obtain ⟨ps, ws, xs, us, y3, y4, y5, rfl, hF, hps, hWu, hws, hperm, rfl, hs⟩ := hW
  have htot : ps.length + (stackL ws).length = p.size := by
    have e := hperm.length_eq
    rw [List.length_append, subs_len] at e
    exact e
  have hwl := stack_len ws
  have ul := hws.len
  have xl := hps.len
  -- while waiting
  refine ⟨_, rfl, _, .inl ⟨us, .of hWu, rfl⟩, ?_⟩
  by_cases hw0 : ws = []
  · subst hw0
    have hu : us = [] := List.length_eq_zero_iff.mp ul
    subst hu
    refine iteF ?_
    refine ⟨_, rfl, ?_⟩
    refine q F xs ps H' hs nF hF hps ?_
    have : stackL [] = [] := rfl
    rw [this, List.append_nil] at hperm
    exact hperm
  obtain ⟨q0, t0, v0, e1, e2, e3, e4, e5⟩ := hws.last hw0
  have hne : (!us.isEmpty) = true := by
    cases us with
    | nil => rw [List.length_nil] at ul; exact absurd (List.length_eq_zero_iff.mp ul.symm) hw0
    | cons a r => rfl
  rw [hne]
  refine iteT ?_
  refine ⟨fun σ' H2 => ∃ (ps' ws' : List (Pl × Nat)) (xs us : List V) (y3 y4 y5 : Option V), (stackL ws').length < (stackL ws).length ∧ σ' = [some v, some (.ref F), some (.ref W), y3, y4, y5] ∧ H2 F = some (.lst xs) ∧ FL H2 xs ps' ∧ H2 W = some (.lst us) ∧ FL H2 us ws' ∧
    (ps' ++ stackL ws').Perm (subs 1 p) ∧ Same H H2, fun σ' H2 hN => ?_, ?_⟩
  · obtain ⟨ps', ws', xs', us', z3, z4, z5, b0, rfl, b1, b2, b3, b4, b5, b6⟩ := hN
    exact ⟨_, b0, ps', ws', xs', us', z3, z4, z5, rfl, b1, b2, b3, b4, b5, rfl, b6⟩
  have nW0 : H W = none := by
    cases z : H W with
    | none => rfl
    | some o => rw [st W o z] at nW; cases nW
  -- inner, level = waiting.pop()
  have kp : TupUp H' (upd H' W (.lst us.dropLast)) := TupUp.lst hWu
  refine ⟨_, rfl, .inl ⟨rfl, _, .of hWu⟩, W, us, _, rfl, rfl, hWu, e2, t0, _, rfl, .of (kp _ _ e3), rfl, _, _, rfl, _, _, rfl, rfl, ?_⟩
  have hF1 : (upd H' W (.lst us.dropLast)) F = some (.lst xs) := by rw [upd_ne WF]; exact hF
  -- found.append((inner, level))
  refine ⟨_, rfl, .inl ⟨rfl, _, .of hF1⟩, _, rfl, _, rfl, two, fun t1 nt1 => ?_⟩
  have n1F : F ≠ t1 := ne_of_none hF1 nt1
  have n1W : W ≠ t1 := ne_of_none upd_same nt1
  refine ⟨F, xs, _, rfl, rfl, by rw [upd_ne n1F]; exact hF1, small1000 (by omega), ?_⟩
  have h2 : ∀ {H2 : Hp}, upd (upd H' W (.lst us.dropLast)) t1 (.tup [v0, .int (q0.2 : Int)]) = H2 → TupUp H' H2 := fun e => e ▸ kp.trans (TupUp.new nt1)
  have k3 : TupUp H' (upd (upd (upd H' W (.lst us.dropLast)) t1 (.tup [v0, .int (q0.2 : Int)])) F (.lst (xs ++ [.ref t1]))) := (h2 rfl).trans (TupUp.lst (xs := xs) (by rw [upd_ne n1F]; exact hF1))
  have s3 : Same H (upd (upd (upd H' W (.lst us.dropLast)) t1 (.tup [v0, .int (q0.2 : Int)])) F (.lst (xs ++ [.ref t1]))) := same_mut ((same_mut hs nW0).trans (same_new nt1 _)) nF
  have f3 : (upd (upd (upd H' W (.lst us.dropLast)) t1 (.tup [v0, .int (q0.2 : Int)])) F (.lst (xs ++ [.ref t1]))) W = some (.lst us.dropLast) := by
    rw [upd_ne WF.symm, upd_ne n1W]
    exact upd_same
  have g3 : (upd (upd (upd H' W (.lst us.dropLast)) t1 (.tup [v0, .int (q0.2 : Int)])) F (.lst (xs ++ [.ref t1]))) t1 = some (.tup [v0, .int (q0.2 : Int)]) := by
    rw [upd_ne n1F.symm]
    exact upd_same
  have f4 : (upd (upd (upd H' W (.lst us.dropLast)) t1 (.tup [v0, .int (q0.2 : Int)])) F (.lst (xs ++ [.ref t1]))) F = some (.lst (xs ++ [.ref t1])) := upd_same
  generalize upd (upd (upd H' W (.lst us.dropLast)) t1 (.tup [v0, .int (q0.2 : Int)])) F (.lst (xs ++ [.ref t1])) = H3 at k3 s3 f3 f4 g3
  -- for below in inputs_of(inner)
  refine ⟨_, rfl, v0, q0.1, rfl, e4.mono k3, fun ti is nti hins => ?_⟩
  have niF : F ≠ ti := ne_of_none f4 nti
  have niW : W ≠ ti := ne_of_none f3 nti
  have k4 : TupUp H3 (upd H3 ti (.tup is)) := TupUp.new nti
  refine ⟨ti, rfl, ⟨_, .of upd_same⟩, for_tup (xs := is) (fun i σ H4 => ∃ (us' : List V) (y : Option V), σ = [some v, some (.ref F), some (.ref W), y, some v0, some (.int (q0.2 : Int))] ∧ H4 ti = some (.tup is) ∧ H4 F = some (.lst (xs ++ [.ref t1])) ∧ FL H4 (xs ++ [.ref t1]) (ps ++ [q0]) ∧
    H4 W = some (.lst us') ∧ FL H4 us' (ws.dropLast ++ (q0.1.ins.take i).map fun x => (x, q0.2 + 1)) ∧ InsAt H4 q0.1.ins is ∧ Same H H4) ?_ (fun i σ H4 _ hP => ?_) (fun i x σ H4 hx hP => ?_) (fun σ H4 hP => ?_)⟩
  · refine ⟨us.dropLast, _, rfl, upd_same, by rw [upd_ne niF]; exact f4, ?_, by rw [upd_ne niW]; exact f3, ?_, hins.mono k4, s3.trans (same_new nti _)⟩
    · exact FL.snoc (k4 _ _ g3) ((e4.mono k3).mono k4) ((hps.mono k3).mono k4)
    · rw [List.take_zero, List.map_nil, List.append_nil]
      exact (e5.mono k3).mono k4
  · obtain ⟨us', y, _, h, _⟩ := hP
    exact .of h
  · obtain ⟨us', y, rfl, b1, b2, b3, b4, b5, b6, b7⟩ := hP
    obtain ⟨px, hpx, hpl⟩ := b6.get hx
    have hil := b6.len
    have hi : i < q0.1.ins.length := (List.getElem?_eq_some_iff.mp hpx).1
    have ul' := b5.len
    have hi2 : q0.1.ins.length ≤ 2 := by
      obtain ⟨_, _, _, _, _, _, _, _, _, _, z⟩ := e4.view
      exact z
    have wl : ws.dropLast.length + 1 = ws.length := by
      rw [List.length_dropLast]
      have : 0 < ws.length := List.length_pos_iff.mpr hw0
      omega
    refine ⟨_, rfl, .inl ⟨rfl, _, .of b4⟩, _, rfl, _, rfl, _, _, rfl, rfl, two, fun t2 nt2 => ?_⟩
    have m1 : W ≠ t2 := ne_of_none b4 nt2
    have m2 : F ≠ t2 := ne_of_none b2 nt2
    have m3 : ti ≠ t2 := ne_of_none b1 nt2
    have mW : ti ≠ W := niW.symm
    refine ⟨W, us', _, rfl, rfl, by rw [upd_ne m1]; exact b4, small1000 ?_, ?_⟩
    · rw [ul', List.length_append, List.length_map, List.length_take]
      omega
    have k5 : TupUp H4 (upd (upd H4 t2 (.tup [x, .int ((q0.2 : Int) + 1)])) W (.lst (us' ++ [.ref t2]))) := (TupUp.new nt2).trans (TupUp.lst (xs := us') (by rw [upd_ne m1]; exact b4))
    refine ⟨us' ++ [.ref t2], _, rfl, k5 _ _ b1, by rw [upd_ne WF, upd_ne m2]; exact b2, b3.mono k5, upd_same, ?_, b6.mono k5, same_mut (b7.trans (same_new nt2 _)) nW0⟩
    have et : (q0.1.ins.take (i + 1)).map (fun x => (x, q0.2 + 1)) = (q0.1.ins.take i).map (fun x => (x, q0.2 + 1)) ++ [(px, q0.2 + 1)] := by
      rw [List.take_add_one, hpx, List.map_append]
      rfl
    rw [et, ← List.append_assoc]
    refine FL.snoc (v := x) ?_ (hpl.mono k5) (b5.mono k5)
    rw [upd_ne m1.symm]
    exact upd_same
  · obtain ⟨us', y, rfl, b1, b2, b3, b4, b5, b6, b7⟩ := hP
    have hil := b6.len
    rw [← hil, List.take_length] at b5
    have est : stackL ws = stackL ws.dropLast ++ (q0 :: stackL (q0.1.ins.map fun x => (x, q0.2 + 1))) := by
      rw [← stackL_one, ← stackL_app, ← e1]
    refine ⟨ps ++ [q0], ws.dropLast ++ q0.1.ins.map (fun x => (x, q0.2 + 1)), xs ++ [.ref t1], us', _, _, _, ?_, rfl, b2, b3, b4, b5, ?_, b7⟩
    · rw [est, stackL_app, List.length_append, List.length_append, List.length_cons]
      omega
    · rw [stackL_app]
      refine List.Perm.trans ?_ hperm
      rw [est, List.append_assoc]
      refine List.Perm.append_left ps ?_
      show (q0 :: (stackL ws.dropLast ++ stackL (q0.1.ins.map fun x => (x, q0.2 + 1)))).Perm _
      exact List.perm_middle.symm
end
end Tf
set_option maxHeartbeats 8000000
namespace Tf
open PySem PySem.Spec PyProof.Rows L2 TL
abbrev s_Reader_init : Stmt := (inClass (topS 23) 0)
abbrev n_Reader_init : List Str := ["self", "text"]
theorem sc_Reader_init : FnScope n_Reader_init ["self", "text"] (defScope s_Reader_init) := ⟨rfl, rfl, rfl, by decide +kernel, rfl, by decide +kernel, by decide +kernel⟩
abbrev s_in_range : Stmt := (topS 32)
abbrev n_in_range : List Str := ["part", "value", "low", "high"]
theorem sc_in_range : FnScope n_in_range ["part", "value"] (defScope s_in_range) := ⟨rfl, rfl, rfl, by decide +kernel, rfl, by decide +kernel, by decide +kernel⟩
abbrev s_is_too_wide : Stmt := (topS 33)
abbrev n_is_too_wide : List Str := ["size", "slide"]
theorem sc_is_too_wide : FnScope n_is_too_wide ["size", "slide"] (defScope s_is_too_wide) := ⟨rfl, rfl, rfl, by decide +kernel, rfl, by decide +kernel, by decide +kernel⟩
abbrev s_check_numbers : Stmt := (topS 31)
abbrev n_check_numbers : List Str := ["numbers", "at", "wrong", "part", "value", "place"]
theorem sc_check_numbers : FnScope n_check_numbers ["numbers"] (defScope s_check_numbers) := ⟨rfl, rfl, rfl, by decide +kernel, rfl, by decide +kernel, by decide +kernel⟩
abbrev s_check_extent : Stmt := (topS 34)
abbrev n_check_extent : List Str := ["plan", "place", "levels", "_", "level"]
theorem sc_check_extent : FnScope n_check_extent ["plan", "place"] (defScope s_check_extent) := ⟨rfl, rfl, rfl, by decide +kernel, rfl, by decide +kernel, by decide +kernel⟩
abbrev s_parse_plan : Stmt := (topS 30)
abbrev n_parse_plan : List Str := ["text", "reader", "plan"]
theorem sc_parse_plan : FnScope n_parse_plan ["text"] (defScope s_parse_plan) := ⟨rfl, rfl, rfl, by decide +kernel, rfl, by decide +kernel, by decide +kernel⟩
section
variable {P : Program} {w : World} {K : PySem.W.Frag} {mg : Str → Option Value} {base : Heap}
theorem ok_init {C f ft : Addr} {fd ftd : FuncData} (T : RdT K C) (M : MethAt K C "__init__" "Reader.__init__" s_Reader_init ["self", "text"] f fd) (D_tokens : DefAt K mg "tokens" s_tokens ["text"] ft ftd) (G_tokens : FnOk P w K mg base CX0 3 ft ftd ["text"] spTokens) (z_len : mg "len" = none) :
    FnOk P w K mg base CX0 4 f fd ["self", "text"] (spInit C) := by
  refine M.F.ok sc_Reader_init (fun vs H Q E h => ?_) (fun cdv Ar outer s H vs Q E hr h => ?_)
  · obtain ⟨x, dx, z, due, rfl, _⟩ := h
    rfl
  obtain ⟨x, dx, z, due, rfl, hx, hlx, hz, q⟩ := h
  have dl := lex_len hlx
  have tlz := len_tl z
  have dk := lex_ok hlx (by omega)
  have zs : z.length ≤ sizeLine := Nat.le_of_lt (small1000 (by omega))
  refine ⟨_, (pss_cons (ps_fld (pv 0) (pe_op op_cat (pe_call G_tokens (hr.mono (by omega)) (by rfl) D_tokens.m D_tokens.F.kp D_tokens.b .nil pass0 (pa_cons (pv 1) pa_nil)) (pe_lst (pa_cons (pe_tup (pa_cons pe_str (pa_cons pe_str (pa_cons (pe_callB call_len_str (by rfl) z_len boot_len (pa_cons (pv 1) pa_nil)) pa_nil)))) pa_nil))) rfl) (pss_cons (ps_fld (pv 0) pe_int rfl) (pss_cons (ps_fld (pv 0) (pe_lst pa_nil) rfl) (pss_one (ps_fld (pv 0) (pe_lst pa_nil) rfl))))), ?_⟩
  refine ⟨_, rfl, z, due, rfl, hlx, by omega, fun fa xs H1 nfa s1 hfa hts => ?_⟩
  have xl := hts.len
  refine ⟨_, rfl, z, rfl, zs, (by show 3 ≤ sizeLine; decide), fun tt ntt => ⟨(by show 1 ≤ sizeLine; decide), fun tlq ntl => ?_⟩⟩
  have s2 := same_new ntt (.tup [.str "end", .str "", .int (z.length : Int)])
  have s3 := same_new ntl (.lst [.ref tt])
  have s13 := (s1.trans s2).trans s3
  have hfa3 := s3 _ _ (s2 _ _ hfa)
  refine ⟨fa, tlq, xs, _, rfl, rfl, hfa3, upd_same, (by show xs.length + 1 ≤ sizeLine; rw [sizeLine_eq]; omega), fun fl nfl => ?_⟩
  have s4 := same_new nfl (.lst (xs ++ [.ref tt]))
  have s14 := s13.trans s4
  have htt := s4 _ _ (s3 _ _ (upd_same (H := H1) (o := .tup [.str "end", .str "", .int (z.length : Int)]) (a := tt)))
  have hts4 : TkL _ (xs ++ [.ref tt]) (due ++ [endTk z.length]) := TkL.snoc (t := endTk z.length) htt (hts.mono (fun p ys e => s4 _ _ (s3 _ _ (s2 _ _ e))))
  have hfl := upd_same (H := upd (upd H1 tt (.tup [.str "end", .str "", .int (z.length : Int)])) tlq (.lst [.ref tt])) (o := .lst (xs ++ [.ref tt])) (a := fl)
  have hx4 := s14 _ _ hx
  have flH : H fl = none := by
    cases e : H fl with
    | none => rfl
    | some o => rw [s13 _ _ e] at nfl; cases nfl
  generalize upd (upd (upd H1 tt (.tup [.str "end", .str "", .int (z.length : Int)])) tlq (.lst [.ref tt])) fl (.lst (xs ++ [.ref tt])) = H4 at *
  -- the fields
  refine ⟨_, rfl, x, C, dx, _, rfl, hx4, T.cl, T.nF, (by show 0 < 1000; decide), ?_⟩
  refine ⟨_, rfl, x, C, dx, _, rfl, upd_same, T.cl, T.nA, (by show 1 < 1000; decide), Nat.zero_le _, fun na nna => ?_⟩
  have xna : x ≠ na := ne_of_none upd_same nna
  refine ⟨_, rfl, x, C, dx, _, rfl, by rw [upd_ne xna]; exact upd_same, T.cl, T.nN, (by show 2 < 1000; decide), Nat.zero_le _, fun ua nua => ?_⟩
  have xua : x ≠ ua := ne_of_none upd_same nua
  refine ⟨_, rfl, x, C, dx, _, rfl, by rw [upd_ne xua]; exact upd_same, T.cl, T.nU, (by show 3 < 1000; decide), ?_⟩
  have flx : fl ≠ x := ne_of hfl hx4 (by intro z; cases z)
  have naF : H4 na = none := by
    rw [upd_ne xna.symm, upd_ne xna.symm] at nna
    exact nna
  have nauA : na ≠ ua := ne_of_none (show _ = some (HO.lst []) by rw [upd_ne xna.symm]; exact upd_same) nua
  have uaF : H4 ua = none := by
    rw [upd_ne xua.symm, upd_ne nauA.symm, upd_ne xua.symm, upd_ne xua.symm] at nua
    exact nua
  have flna : fl ≠ na := ne_of_none hfl naF
  have flua : fl ≠ ua := ne_of_none hfl uaF
  have nH : ∀ {b : Addr}, H4 b = none → H b = none := fun {b} n => by
    cases e : H b with
    | none => rfl
    | some o => rw [s14 _ _ e] at n; cases n
  refine q ⟨C, dx, fl, na, ua, x, due ++ [endTk z.length]⟩ _ rfl rfl rfl ?_ (fun b o hb e => ?_) (nH naF) (nH uaF)
  · have kt : TupUp H4 (upd (upd (upd (upd (upd (upd H4 x (.ins C dx (putF "found" (.ref fl) []))) x (.ins C dx (putF "at" (.int 0) (putF "found" (.ref fl) [])))) na (.lst [])) x (.ins C dx (putF "numbers" (.ref na) (putF "at" (.int 0) (putF "found" (.ref fl) []))))) ua (.lst [])) x (.ins C dx (putF "unclosed" (.ref ua) (putF "numbers" (.ref na) (putF "at" (.int 0) (putF "found" (.ref fl) [])))))) := fun p ys e => by
      have p1 : p ≠ x := fun z => by rw [z, hx4] at e; cases e
      have p2 : p ≠ na := ne_of_none e naF
      have p3 : p ≠ ua := ne_of_none e uaF
      rw [upd_ne p1, upd_ne p3, upd_ne p1, upd_ne p2, upd_ne p1, upd_ne p1]
      exact e
    refine ⟨⟨0, upd_same, rfl, Nat.zero_le _⟩, ⟨_, ?_, hts4.mono kt⟩, ⟨[], ?_, trivial⟩, ⟨[], ?_, trivial⟩, flna, flua, nauA, fun t ht => ?_, ?_⟩
    · rw [upd_ne flx, upd_ne flua, upd_ne flx, upd_ne flna, upd_ne flx, upd_ne flx]
      exact hfl
    · rw [upd_ne xna.symm, upd_ne nauA, upd_ne xna.symm]
      exact upd_same
    · rw [upd_ne xua.symm]
      exact upd_same
    · rcases List.mem_append.mp ht with h | h
      · exact dk t h
      · rw [List.mem_singleton.mp h]
        exact ⟨.inr ⟨_, rfl⟩, fun _ => ⟨_, rfl, by decide⟩⟩
    · show (due ++ [endTk z.length]).length ≤ 400
      rw [List.length_append]
      show due.length + 1 ≤ 400
      omega
  · have e4 := s14 _ _ e
    have b2 : b ≠ na := ne_of_none e4 naF
    have b3 : b ≠ ua := ne_of_none e4 uaF
    rw [upd_ne hb, upd_ne b3, upd_ne hb, upd_ne b2, upd_ne hb, upd_ne hb]
    exact e4
theorem ok_in_range {f aR : Addr} {fd : FuncData} (D : DefAt K mg "in_range" s_in_range ["part", "value"] f fd) (g_RANGES : mg "RANGES" = some (.ref aR)) (hR : ∀ e ∈ rngs, ∃ t, KDct K w aR e.1 (.ref t) ∧ ∀ H, SqT K H t [.int e.2.1, .int e.2.2]) :
    FnOk P w K mg base CX0 1 f fd ["part", "value"] spRange := by
  refine D.F.ok sc_in_range (fun vs H Q E h => ?_) (fun cdv Ar outer s H vs Q E hr h => ?_)
  · obtain ⟨e, v, _, rfl, _⟩ := h
    rfl
  obtain ⟨e, v, he, rfl, q⟩ := h
  obtain ⟨t, hd, ht⟩ := hR e he
  refine ⟨_, (pss_cons (ps_asg (pe_ix ix_kdict (gl_ref (by rfl) g_RANGES) (pv 0) (fun _ _ => rfl)) (pg_tup (by rfl) (pgs_cons (pg_name (i := 2) sc_in_range.nd rfl (by first | exact Or.inl rfl | exact Or.inr rfl)) (pgs_cons (pg_name (i := 3) sc_in_range.nd rfl (by first | exact Or.inl rfl | exact Or.inr rfl)) pgs_nil)))) (pss_one (ps_ret (pe_and (pe_cmpR op_le (pv 2) (pv 1) (nomark _)) (pe_one (pe_cmpR op_le (pv 1) (pv 3) (nomark _))))))), ?_⟩
  refine ⟨_, rfl, aR, e.1, .ref t, rfl, rfl, hd, t, _, rfl, ht _, rfl, _, _, rfl, _, _, rfl, rfl, ?_⟩
  refine ⟨_, rfl, _, rfl, _, _, rfl, rfl, _, rfl, ite2 (fun g => ?_) (fun g => ?_)⟩
  · rw [g] at q
    exact ⟨_, rfl, _, rfl, _, _, rfl, rfl, q⟩
  · rw [Bool.eq_false_iff.mpr g] at q
    exact q
theorem ok_is_too_wide {f fr : Addr} {fd frd : FuncData} (D : DefAt K mg "is_too_wide" s_is_too_wide ["size", "slide"] f fd) (D_in_range : DefAt K mg "in_range" s_in_range ["part", "value"] fr frd) (G_in_range : FnOk P w K mg base CX0 1 fr frd ["part", "value"] spRange)
    {t0 : Tok} (g_SLIDES_IN_A_SIZE : mg "SLIDES_IN_A_SIZE" = some (.int 10 t0)) : FnOk P w K mg base CX0 2 f fd ["size", "slide"] spWide := by
  refine D.F.ok sc_is_too_wide (fun vs H Q E h => ?_) (fun cdv Ar outer s H vs Q E hr h => ?_)
  · obtain ⟨a, b, rfl, _⟩ := h
    rfl
  obtain ⟨a, b, rfl, h1, h2, h3, q⟩ := h
  refine ⟨_, (pss_one (ps_ret (pe_and (pe_call G_in_range (hr.mono (by omega)) (by rfl) D_in_range.m D_in_range.F.kp D_in_range.b .nil pass0 (pa_cons pe_str (pa_cons (pv 1) pa_nil))) (pe_one (pe_cmpR op_gt (pv 0) (pe_op op_mul (gl_int (by rfl) g_SLIDES_IN_A_SIZE) (pv 1)) (nomark _)))))), ?_⟩
  refine ⟨_, rfl, ("slide", 1, 1000), b, by unfold rngs; simp, rfl, ?_⟩
  have e : (decide ((1 : Int) ≤ b) && decide (b ≤ (1000 : Int))) = true := by rw [decide_eq_true h1, decide_eq_true h2]; rfl
  refine ⟨_, congrArg V.bl e, iteT ⟨_, rfl, _, rfl, _, _, rfl, rfl, .inl ⟨by decide, by decide⟩, _, _, rfl, rfl, ?_⟩⟩
  have e2 : V.bl (decide (10 * b < a)) = .bl false := by rw [decide_eq_false (by omega)]
  show Q (V.bl (decide (10 * b < a))) H
  rw [e2]
  exact q
theorem ok_check_numbers {f fr fw : Addr} {fd frd fwd : FuncData} (D : DefAt K mg "check_numbers" s_check_numbers ["numbers"] f fd) (D_in_range : DefAt K mg "in_range" s_in_range ["part", "value"] fr frd) (G_in_range : FnOk P w K mg base CX0 1 fr frd ["part", "value"] spRange)
    (D_is_too_wide : DefAt K mg "is_too_wide" s_is_too_wide ["size", "slide"] fw fwd) (G_is_too_wide : FnOk P w K mg base CX0 2 fw fwd ["size", "slide"] spWide) (z_enumerate : mg "enumerate" = none) : FnOk P w K mg base CX0 3 f fd ["numbers"] spNums := by
  refine D.F.ok sc_check_numbers (fun vs H Q E h => ?_) (fun cdv Ar outer s H vs Q E hr h => ?_)
  · obtain ⟨a, xs, M, rfl, _⟩ := h
    rfl
  obtain ⟨a, xs, M, rfl, ha, hn, hok, q⟩ := h
  refine ⟨_, (pss_one (ps_for PassesOwn.never rfl (pi_enum (by rfl) z_enumerate (pa_cons (pv 0) pa_nil)) (pg_tup (by rfl) (pgs_cons (pg_name (i := 1) sc_check_numbers.nd rfl (by first | exact Or.inl rfl | exact Or.inr rfl)) (pgs_cons (pg_tup (by rfl) (pgs_cons (pg_name (i := 3) sc_check_numbers.nd rfl (by first | exact Or.inl rfl | exact Or.inr rfl)) (pgs_cons (pg_name (i := 4) sc_check_numbers.nd rfl (by first | exact Or.inl rfl | exact Or.inr rfl)) (pgs_cons (pg_name (i := 5) sc_check_numbers.nd rfl (by first | exact Or.inl rfl | exact Or.inr rfl)) pgs_nil)))) pgs_nil))) (pss_cons (ps_set (i := 2) sc_check_numbers.nd rfl (by first | exact Or.inl rfl | exact Or.inr rfl) (pe_not (pe_call G_in_range (hr.mono (by omega)) (by rfl) D_in_range.m D_in_range.F.kp D_in_range.b .nil pass0 (pa_cons (pv 3) (pa_cons (pv 4) pa_nil))))) (pss_cons (ps_if (PW.pt (pw_and (pt_cmpR op_eq (pv 3) pe_str (nomark _)) (pw_and1 (pt_not (pt_val (pv 2)))))) (pss_one (ps_set (i := 2) sc_check_numbers.nd rfl (by first | exact Or.inl rfl | exact Or.inr rfl) (pe_call G_is_too_wide (hr.mono (by omega)) (by rfl) D_is_too_wide.m D_is_too_wide.F.kp D_is_too_wide.b .nil pass0 (pa_cons (pv 4) (pa_cons (pe_ix ix_tup (pe_ix ix_list (pv 0) (pe_op op_add (pv 1) pe_int) (fun _ _ => rfl)) pe_int (fun _ _ => rfl)) pa_nil))))) pss_nil) (pss_one (ps_if (pt_val (pv 2)) (pss_one ps_never) pss_nil)))))), ?_⟩
  refine ⟨_, rfl, a, xs, rfl, .of ha, ?_⟩
  refine for_it (walk_enum (xs := xs)) (fun i σ H' => ∃ (y1 y2 y3 y4 y5 : Option V), σ = [some (.ref a), y1, y2, y3, y4, y5] ∧ Same H H') ⟨_, _, _, _, _, rfl, fun _ _ h => h⟩ (fun i σ H' _ ⟨_, _, _, _, _, _, k⟩ => .of (k _ _ ha)) (fun i x σ H1 H2 hi hI hY => ?_) (fun σ H' ⟨_, _, _, _, _, _, k⟩ => q H' k)
  obtain ⟨y1, y2, y3, y4, y5, rfl, k⟩ := hI
  obtain ⟨t, u, v, rfl, nt, rfl, e1, e2⟩ := hY
  have e1' := Option.some.inj e1
  subst e1'
  obtain ⟨n, tn, m1, rfl, m2⟩ := hn.get e2
  have s2 := k.trans (same_new nt (.tup [.int (i : Int), .ref tn]))
  obtain ⟨⟨e, he, g1, g2, g3⟩, hsz⟩ := hok i n m1
  refine ⟨t, _, rfl, .of upd_same, rfl, _, _, rfl, _, _, rfl, tn, _, rfl, .of (s2 _ _ m2), rfl, _, _, rfl, _, _, rfl, _, _, rfl, rfl, rfl, ?_⟩
  have ev : ([V.str n.1, V.int n.2.1] : List V) = [V.str e.1, .int n.2.1] := by rw [g1]
  have eT : (decide (e.2.1 ≤ n.2.1) && decide (n.2.1 ≤ e.2.2)) = true := by rw [decide_eq_true g2, decide_eq_true g3]; rfl
  -- wrong = not in_range(part, value)
  refine ⟨_, rfl, _, rfl, e, n.2.1, he, ev, _, congrArg V.bl eT, ?_⟩
  by_cases hs : n.1 = ("size" : Str)
  · obtain ⟨m, hm, h1, h2, h3⟩ := hsz hs
    obtain ⟨t', x1, x2⟩ := hn.at hm
    refine ⟨_, rfl, rfl, _, sdec hs, iteT ⟨_, rfl, _, rfl, iteT ?_⟩⟩
    refine ⟨_, rfl, _, rfl, _, rfl, _, _, rfl, rfl, a, xs, _, _, rfl, rfl, .of (s2 _ _ ha), atI_of (j := i + 1) (by omega) x1, t', _, 1, _, rfl, rfl, .of (s2 _ _ x2), rfl, n.2.1, m.2.1, rfl, h1, h2, h3, ?_⟩
    exact ⟨_, rfl, _, rfl, iteF ⟨_, _, _, _, _, rfl, s2⟩⟩
  · refine ⟨_, rfl, rfl, _, sdecF hs, iteF (iteF ?_)⟩
    exact ⟨_, rfl, _, rfl, iteF ⟨_, _, _, _, _, rfl, s2⟩⟩
theorem ok_check_extent {f fw : Addr} {fd fwd : FuncData} (D : DefAt K mg "check_extent" s_check_extent ["plan", "place"] f fd) (D_with_levels : DefAt K mg "with_levels" s_with_levels ["plan"] fw fwd) (G_with_levels : FnOk P w K mg base CX0 2 fw fwd ["plan"] spLevels)
    {t1 t2 : Tok} (g_MOST_OPERATORS : mg "MOST_OPERATORS" = some (.int 20 t1)) (g_MOST_LEVELS : mg "MOST_LEVELS" = some (.int 10 t2)) (z_len : mg "len" = none) (z_max : mg "max" = none) : FnOk P w K mg base CX0 3 f fd ["plan", "place"] spExtent := by
  refine D.F.ok sc_check_extent (fun vs H Q E h => ?_) (fun cdv Ar outer s H vs Q E hr h => ?_)
  · obtain ⟨v, p, i, rfl, _⟩ := h
    rfl
  obtain ⟨v, p, i, rfl, hp, hz, q⟩ := h
  refine ⟨_, (pss_cons (ps_setLc (i := 2) (own := [("_", 3), ("level", 4)]) (g := gTup K 2 (gCons (gName 3) (gCons (gName 4) gNil))) (tt := tYes) (by rfl) sc_check_extent.nd rfl rfl (sw_true rfl rfl rfl (by decide +kernel)) (pi_list (pe_call G_with_levels (hr.mono (by omega)) (by rfl) D_with_levels.m D_with_levels.F.kp D_with_levels.b .nil pass0 (pa_cons (pv 0) pa_nil))) (blkOk_by (own := [("_", 3), ("level", 4)]) (N := n_check_extent) (sc := defScope s_check_extent) (by decide +kernel)) (fun _ _ _ _ _ => (pg_tup (by rfl) (pgs_cons (pg_name (i := 3) sc_check_extent.nd rfl (by first | exact Or.inl rfl | exact Or.inr rfl)) (pgs_cons (pg_name (i := 4) sc_check_extent.nd rfl (by first | exact Or.inl rfl | exact Or.inr rfl)) pgs_nil)))) (fun _ _ _ _ _ => pts_nil) (fun _ _ _ _ _ => (pv 4))) (pss_cons (ps_if (pt_cmpR op_gt (pe_callB call_len_seq (by rfl) z_len boot_len (pa_cons (pv 2) pa_nil)) (gl_int (by rfl) g_MOST_OPERATORS) (nomark _)) (pss_one ps_never) pss_nil) (pss_one (ps_if (pt_cmpR op_gt (pe_callB (cr_max rfl) (by rfl) z_max boot_max (pa_cons (pv 2) pa_nil)) (gl_int (by rfl) g_MOST_LEVELS) (nomark _)) (pss_one ps_never) pss_nil)))), ?_⟩
  refine ⟨_, rfl, v, p, rfl, hp, by omega, fun f1 xs ps H1 s1 nf hf hfl hperm => ?_⟩
  have hlen : ps.length ≤ 10 := by rw [hperm.length_eq, subs_len]; exact hz
  have hpos : 0 < ps.length := by
    rw [hperm.length_eq, subs_eq]
    exact Nat.succ_pos _
  have hlv : ∀ q ∈ ps, q.2 ≤ 10 := fun q hq => by
    have := subs_lv p 1 q (hperm.mem_iff.mp hq)
    omega
  refine ⟨f1, rfl, ⟨_, .of hf⟩, fun D nD => ?_⟩
  refine lc_list (xs := xs) (fun i H2 => H2 D = some (.lst (((ps.take i).map fun q => ((q.2 : Nat) : Int)).map V.int)) ∧ Same H1 H2) ⟨upd_same, same_new nD _⟩ (fun i H2 _ hP => hP.2.seq (.of hf)) (fun i x H2 hx hP => ?_) (fun H2 hP => ?_)
  · obtain ⟨b1, b2⟩ := hP
    obtain ⟨q0, t, u, hq, rfl, ht, hpl⟩ := hfl.get hx
    have htk : ps.take (i + 1) = ps.take i ++ [q0] := by rw [List.take_add_one, hq]; rfl
    refine ⟨t, _, rfl, .of (b2 _ _ ht), rfl, _, _, rfl, _, _, rfl, rfl, rfl, ?_⟩
    refine ⟨_, rfl, _, b1, small1000 (by rw [List.length_map, List.length_map, List.length_take]; omega), ?_, same_mut b2 nD⟩
    rw [upd_same, htk, List.map_append, List.map_append] <;> rfl
  · obtain ⟨b1, b2⟩ := hP
    have e : ps.take xs.length = ps := List.take_of_length_le (by rw [hfl.len]; exact Nat.le_refl _)
    rw [e] at b1
    have ll : ((ps.map fun q => ((q.2 : Nat) : Int)).map V.int).length = ps.length := by rw [List.length_map, List.length_map]
    refine ⟨_, rfl, D, _, rfl, .inl (.of b1), _, _, rfl, rfl, _, congrArg V.bl (decide_eq_false (by rw [ll]; omega)), iteF ?_⟩
    refine ⟨_, rfl, D, _, rfl, .of b1, by rw [List.length_map]; exact hpos, fun m hm _ => ?_⟩
    obtain ⟨q0, hq0, rfl⟩ := List.mem_map.mp hm
    have := hlv q0 hq0
    exact ⟨_, _, rfl, rfl, _, congrArg V.bl (decide_eq_false (by omega)), iteF (q H2 (s1.trans b2))⟩
end
end Tf
set_option maxHeartbeats 8000000
namespace Tf
open PySem PySem.Spec PyProof.Rows L2 TL
def spEx (C : Addr) (sp : Ad → Sp) : Sp := fun vs H Q E => ∃ A : Ad, A.C = C ∧ sp A vs H Q E
section
variable {P : Program} {w : World} {K : PySem.W.Frag} {mg : Str → Option Value} {base : Heap}
theorem ok_ex {C f : Addr} {fd : FuncData} {k : Nat} {ps : List Str} {sp : Ad → Sp} (F : ∀ A : Ad, A.C = C → FnOk P w K mg base CX0 k f fd ps (sp A)) : FnOk P w K mg base CX0 k f fd ps (spEx C sp) :=
  ⟨fun vs H Q E h => by
    obtain ⟨A, e, h⟩ := h
    exact (F A e).1 vs H Q E h, fun Ar outer s H args us vs Q E a b c d h => by
    obtain ⟨A, e, h⟩ := h
    exact (F A e).2 Ar outer s H args us vs Q E a b c d h⟩
theorem ok_parse_plan {C f fi fp fn fx ff : Addr} {fd fid fpd fnd fxd ffd : FuncData} (T0 : RdT K C) (mk : Mk K C fi) (D : DefAt K mg "parse_plan" s_parse_plan ["text"] f fd) (g_Reader : mg "Reader" = some (.ref C))
    (G_init : FnOk P w K mg base CX0 4 fi fid ["self", "text"] (spInit C)) (B_init : Binds K fid ["self", "text"] [])
    (M_read_plan : MethAt K C "read_plan" "Reader.read_plan" s_Reader_read_plan ["self"] fp fpd) (G_read_plan : FnOk P w K mg base CX0 10 fp fpd ["self"] (spEx C spPlan))
    (M_first_place : MethAt K C "first_place" "Reader.first_place" s_Reader_first_place ["self"] ff ffd) (G_first_place : FnOk P w K mg base CX0 1 ff ffd ["self"] (spEx C spFirst))
    (D_check_numbers : DefAt K mg "check_numbers" s_check_numbers ["numbers"] fn fnd) (G_check_numbers : FnOk P w K mg base CX0 3 fn fnd ["numbers"] spNums)
    (D_check_extent : DefAt K mg "check_extent" s_check_extent ["plan", "place"] fx fxd) (G_check_extent : FnOk P w K mg base CX0 3 fx fxd ["plan", "place"] spExtent) : FnOk P w K mg base CX0 11 f fd ["text"] spParse := by
  refine D.F.ok sc_parse_plan (fun vs H Q E h => ?_) (fun cdv Ar outer s H vs Q E hr h => ?_)
  · obtain ⟨z, due, PP, MM, rfl, _⟩ := h
    rfl
  obtain ⟨z, due, PP, MM, rfl, hlx, hz, hR, hM, hsz, hml, q⟩ := h
  have T : RdTM K C fi := ⟨T0, mk⟩
  refine ⟨_, (pss_cons (ps_set (i := 1) sc_parse_plan.nd rfl (by first | exact Or.inl rfl | exact Or.inr rfl) (pe_make T.mk G_init (hr.mono (by omega)) (by rfl) g_Reader B_init .nil pass0 (pa_cons (pv 0) pa_nil))) (pss_cons (ps_set (i := 2) sc_parse_plan.nd rfl (by first | exact Or.inl rfl | exact Or.inr rfl) (pe_meth0 (pv 1) T.cl M_read_plan.m G_read_plan (hr.mono (by omega)) M_read_plan.b .nil pass0)) (pss_cons (ps_expr (pe_call G_check_numbers (hr.mono (by omega)) (by rfl) D_check_numbers.m D_check_numbers.F.kp D_check_numbers.b .nil pass0 (pa_cons (pe_fld (pv 1) rfl) pa_nil))) (pss_cons (ps_expr (pe_call G_check_extent (hr.mono (by omega)) (by rfl) D_check_extent.m D_check_extent.F.kp D_check_extent.b .nil pass0 (pa_cons (pv 2) (pa_cons (pe_meth0 (pv 1) T.cl M_first_place.m G_first_place (hr.mono (by omega)) M_first_place.b .nil pass0) pa_nil)))) (pss_one (ps_ret (pv 2))))))), ?_⟩
  refine ⟨_, rfl, fun x dx nx ndx nex => ⟨x, dx, z, due, rfl, upd_same, hlx, hz, fun A H1 eC er et R k nna nua => ⟨rfl, ?_⟩⟩⟩
  have kH : ∀ b o, H b = some o → b ≠ x ∧ (upd (upd H dx (.own x)) x (.ins C dx [])) b = some o := fun b o e => by
    have b1 := ne_of_none e nx
    have b2 := ne_of_none e ndx
    exact ⟨b1, by rw [upd_ne b1, upd_ne b2]; exact e⟩
  have s1 : Same H H1 := fun b o e => k b o (kH b o e).1 (kH b o e).2
  have nn : ∀ b o, H b = some o → b ≠ A.r ∧ b ≠ A.na ∧ b ≠ A.ua := fun b o e => ⟨by rw [er]; exact (kH b o e).1, ne_of_none (kH b o e).2 nna, ne_of_none (kH b o e).2 nua⟩
  subst eC
  obtain ⟨i1, g1, _⟩ := R.ob
  rw [← er]
  have R0 : RS A H1 (due ++ [endTk z.length]) [] [] := by rw [← et]; exact R
  refine ⟨_, rfl, A.r, A.dx, _, rfl, g1, flds_no A i1 (by decide +kernel) (by decide +kernel) (by decide +kernel) (by decide +kernel), A, rfl, PP, MM, _, _, rfl, R0, hR, hml, fun v H2 R2 hp k2 => ?_⟩
  obtain ⟨i2, g2, _⟩ := R2.ob
  obtain ⟨ns, n1, n2⟩ := R2.nl
  have s2 : Same H H2 := fun b o e => k2 b o (nn b o e).1 (nn b o e).2.1 (nn b o e).2.2 (s1 b o e)
  refine ⟨_, rfl, A.r, A.C, A.dx, _, _, rfl, g2, T.cl, T.nN, flds_num A i2, A.na, ns, MM, rfl, n1, n2, hM, fun H3 s3 => ?_⟩
  have R3 := R2.mono s3
  obtain ⟨i3, g3, _⟩ := R3.ob
  obtain ⟨t, r, htr⟩ : ∃ t r, A.toks = t :: r := by
    rw [et]
    cases due with
    | nil => exact ⟨_, _, rfl⟩
    | cons a l => exact ⟨_, _, rfl⟩
  refine ⟨_, rfl, _, rfl, A.r, A.dx, _, rfl, g3, flds_no A i3 (by decide +kernel) (by decide +kernel) (by decide +kernel) (by decide +kernel), A, rfl, t, r, _, _, _, rfl, R3, htr, v, PP, _, rfl, hp.mono (.same s3), hsz, fun H4 s4 => ?_⟩
  exact ⟨_, rfl, q v H4 ((hp.mono (.same s3)).mono (.same s4)) ((s2.trans s3).trans s4)⟩
end
end Tf
set_option maxHeartbeats 4000000
namespace Tf
open PySem PySem.Spec PyProof.Rows L2 TL
/-! ### the canonical text of a plan -/
def wtxt : V → Str
  | .str z => z
  | .int i => Str.ofString (toString i)
  | _ => ""
/-- the numbers that stand in the plans that are drawn -/
def NumB (i : Int) : Prop := -6 ≤ i ∧ i ≤ 90
def chkN (i : Int) : Bool :=
  let w := tl (Str.ofString (toString i))
  let ds := if w.head? = some 45 then w.tail else w
  decide (PySem.intText? ⟨w.toArray⟩ = some i) && decide (w.length ≤ 3) && decide (ds ≠ []) && ds.all (fun c => decide (Dg c)) && decide (w = ds ∨ w = 45 :: ds)
theorem chk_all : (List.range 97).all (fun k => chkN ((k : Int) - 6)) = true := by decide +kernel
theorem num_ok {i : Int} (h : NumB i) : Wf (tl (wtxt (.int i))) "number" ∧ TokVal "number" (tl (wtxt (.int i))) (.int i) ∧ (tl (wtxt (.int i))).length ≤ 3 := by
  have h1 := List.all_eq_true.mp chk_all (i + 6).toNat (List.mem_range.mpr (by have := h.1; have := h.2; omega))
  have e : (((i + 6).toNat : Nat) : Int) - 6 = i := by have := h.1; omega
  rw [e] at h1
  unfold chkN at h1
  simp only [Bool.and_eq_true, decide_eq_true_eq] at h1
  obtain ⟨⟨⟨⟨a, b⟩, c⟩, d⟩, f⟩ := h1
  refine ⟨Wf.num c (fun x hx => of_decide_eq_true (List.all_eq_true.mp d x hx)) f, .inl ⟨rfl, by show (tl (Str.ofString (toString i))).length ≤ 640; omega, i, a, rfl⟩, b⟩
def WOk (v : V) : Prop := (∃ z : Str, v = .str z ∧ z.length ≤ 10) ∨ ∃ i, v = .int i ∧ NumB i
theorem WOk.len {v : V} (h : WOk v) : (wtxt v).length ≤ 10 := by
  rcases h with ⟨z, rfl, h⟩ | ⟨i, rfl, h⟩
  · exact h
  · have := (num_ok h).2.2
    rw [len_tl]
    omega
theorem WOk.log {i : Int} (h : NumB i) : i.natAbs.log2 < 1920 := by
  have h0 : i.natAbs < 128 := by have := h.1; have := h.2; omega
  rcases Nat.eq_zero_or_pos i.natAbs with e | e
  · rw [e]; decide
  · have : i.natAbs.log2 < 7 := (Nat.log2_lt (by omega)).mpr (by omega)
    omega
def Stg.words : Stg → List V
  | .sift c b => [.str "sift", .str c, .int b]
  | .only ks => .str "only" :: ks.map V.str
  | .rekey k => [.str "rekey", .str k]
  | .scale f => [.str "scale", .int f]
  | .later d => [.str "later", .int d]
/-- the words of a plan's outermost operator -/
def Pl.words : Pl → List V
  | .src n => [.str n]
  | .stage s _ => s.words
  | .once _ => [.str "once"]
  | .windows a b g _ => [.str "windows", .int a, .int b, .str g]
  | .sittings a g _ => [.str "sittings", .int a, .str g]
  | .two w _ _ => [.str w]
  | .near a b c _ _ => [.str "near", .int a, .int b, .str c]
def spacedT (us : List V) : Str := Txt.join (" " : Str) (us.map wtxt)
def barL : List Nat := [32, 124, 32]
def canonL : Pl → List Nat
  | .src n => tl n
  | .stage s p => canonL p ++ (barL ++ tl (spacedT s.words))
  | .once p => canonL p ++ (barL ++ tl (spacedT [.str "once"]))
  | .windows a b g p => canonL p ++ (barL ++ tl (spacedT [.str "windows", .int a, .int b, .str g]))
  | .sittings a g p => canonL p ++ (barL ++ tl (spacedT [.str "sittings", .int a, .str g]))
  | .two w l r => tl (spacedT [.str w]) ++ (40 :: (canonL l ++ (44 :: 32 :: (canonL r ++ [41]))))
  | .near a b c l r => tl (spacedT [.str "near", .int a, .int b, .str c]) ++ (40 :: (canonL l ++ (44 :: 32 :: (canonL r ++ [41]))))
theorem canon_one {p q : Pl} (h : p.ins = [q]) : canonL p = canonL q ++ (barL ++ tl (spacedT p.words)) := by
  cases p <;> first | (cases h; rfl) | cases h
theorem canon_two {p l r : Pl} (h : p.ins = [l, r]) : canonL p = tl (spacedT p.words) ++ (40 :: (canonL l ++ (44 :: 32 :: (canonL r ++ [41])))) := by
  cases p <;> first | (cases h; rfl) | cases h
theorem size_one {p q : Pl} (h : p.ins = [q]) : p.size = q.size + 1 := by rw [size_eq, h]; simp
theorem size_two {p l r : Pl} (h : p.ins = [l, r]) : p.size = l.size + r.size + 1 := by rw [size_eq, h]; simp
theorem size_pos (p : Pl) : 1 ≤ p.size := by rw [size_eq]; omega
theorem ok_one {ns : List Str} {p q : Pl} (h : p.ins = [q]) (k : PlOk ns p) : PlOk ns q := by
  cases p <;> first | (cases h; first | exact k.2 | exact k) | cases h
theorem ok_two {ns : List Str} {p l r : Pl} (h : p.ins = [l, r]) (k : PlOk ns p) : PlOk ns l ∧ PlOk ns r := by
  cases p <;> first | (cases h; exact k.2) | cases h
theorem ins_cases (p : Pl) : (∃ n, p = .src n) ∨ (∃ q, p.ins = [q]) ∨ ∃ l r, p.ins = [l, r] := by
  cases p with
  | src n => exact .inl ⟨n, rfl⟩
  | stage s p => exact .inr (.inl ⟨p, rfl⟩)
  | once p => exact .inr (.inl ⟨p, rfl⟩)
  | windows a b g p => exact .inr (.inl ⟨p, rfl⟩)
  | sittings a g p => exact .inr (.inl ⟨p, rfl⟩)
  | two w l r => exact .inr (.inr ⟨l, r, rfl⟩)
  | near a b c l r => exact .inr (.inr ⟨l, r, rfl⟩)
/-- the tuple of an operator -/
theorem PlAt.op1 {H : Hp} {p q : Pl} {v : V} (h : PlAt H p v) (e : p.ins = [q]) : ∃ (a : Addr) (mid : List V) (y : V), v = .ref a ∧ H a = some (.tup (.str p.head :: (mid ++ [y]))) ∧ PlAt H q y ∧ mid.length ≤ 3 ∧ p.head ≠ "source" ∧ p.head ∉ pairS ∧
    ((p.head ≠ "stage" ∧ p.head ≠ "only" ∧ p.words = .str p.head :: mid) ∨ ∃ s x, p = .stage s q ∧ mid = [x] ∧ StAt H s x) := by
  have n1 : ∀ s ∈ (["stage", "once", "windows", "sittings"] : List Str), s ∉ pairS ∧ s ≠ ("source" : Str) := by decide +kernel
  have n2 : ∀ s ∈ (["once", "windows", "sittings"] : List Str), s ≠ ("stage" : Str) ∧ s ≠ ("only" : Str) := by decide +kernel
  cases p with
  | src n => cases e
  | stage s p =>
    cases e
    obtain ⟨a, x, y, e, h, g, k⟩ := h
    obtain ⟨z1, z2⟩ := n1 "stage" (by simp)
    exact ⟨a, [x], y, e, h, k, by show 1 ≤ 3; decide, z2, z1, .inr ⟨s, x, rfl, rfl, g⟩⟩
  | once p =>
    cases e
    obtain ⟨a, y, e, h, k⟩ := h
    obtain ⟨z1, z2⟩ := n1 "once" (by simp)
    obtain ⟨z3, z4⟩ := n2 "once" (by simp)
    exact ⟨a, [], y, e, h, k, by decide, z2, z1, .inl ⟨z3, z4, rfl⟩⟩
  | windows i j g p =>
    cases e
    obtain ⟨a, y, e, h, k⟩ := h
    obtain ⟨z1, z2⟩ := n1 "windows" (by simp)
    obtain ⟨z3, z4⟩ := n2 "windows" (by simp)
    exact ⟨a, [.int i, .int j, .str _], y, e, h, k, by show 3 ≤ 3; decide, z2, z1, .inl ⟨z3, z4, rfl⟩⟩
  | sittings i g p =>
    cases e
    obtain ⟨a, y, e, h, k⟩ := h
    obtain ⟨z1, z2⟩ := n1 "sittings" (by simp)
    obtain ⟨z3, z4⟩ := n2 "sittings" (by simp)
    exact ⟨a, [.int i, .str _], y, e, h, k, by show 2 ≤ 3; decide, z2, z1, .inl ⟨z3, z4, rfl⟩⟩
  | two w l r => cases e
  | near i j c l r => cases e
theorem PlAt.op2 {H : Hp} {p l r : Pl} {v : V} (h : PlAt H p v) (e : p.ins = [l, r]) : ∃ (a : Addr) (mid : List V) (x y : V), v = .ref a ∧ H a = some (.tup (.str p.head :: (mid ++ [x, y]))) ∧ PlAt H l x ∧ PlAt H r y ∧ mid.length ≤ 3 ∧ p.head ≠ "source" ∧ p.head ∈ pairS ∧ p.words = .str p.head :: mid := by
  have n3 : ∀ s ∈ pairS, s ≠ ("source" : Str) := by decide +kernel
  have n4 : ∀ s ∈ twoS, s ∈ pairS := by decide +kernel
  cases p with
  | two w l r =>
    cases e
    obtain ⟨a, x, y, e, h, hw, g1, g2⟩ := h
    exact ⟨a, [], x, y, e, h, g1, g2, by decide, n3 _ (n4 _ hw), n4 _ hw, rfl⟩
  | near i j c l r =>
    cases e
    obtain ⟨a, x, y, e, h, g1, g2⟩ := h
    have z : ("near" : Str) ∈ pairS := by decide +kernel
    exact ⟨a, [.int i, .int j, .str c], x, y, e, h, g1, g2, by show 3 ≤ 3; decide, n3 _ z, z, rfl⟩
  | src n => cases e
  | stage s p => cases e
  | once p => cases e
  | windows i j g p => cases e
  | sittings i g p => cases e
theorem PlAt.op0 {H : Hp} {n : Str} {v : V} (h : PlAt H (.src n) v) : ∃ a, v = .ref a ∧ H a = some (.tup [.str "source", .str n]) := h
/-- the words of the plans that are drawn -/
def short (ns : List Str) : Prop := ∀ z ∈ ns, z.length ≤ 10
theorem short_all : short compS ∧ short keyS ∧ short aggS ∧ short combS ∧ short ["a", "b", "z"] ∧ short twoS ∧ short ["sift", "only", "rekey", "scale", "later", "once", "windows", "sittings", "near"] := by
  unfold short
  decide +kernel
theorem stg_words {s : Stg} (h : StOk s) : (∀ u ∈ s.words, WOk u) ∧ s.words.length ≤ 5 := by
  obtain ⟨c1, c2, c3, c4, c5, c6, c7⟩ := short_all
  cases s with
  | sift c b =>
    refine ⟨fun u hu => ?_, by show 3 ≤ 5; decide⟩
    simp only [Stg.words, List.mem_cons, List.not_mem_nil, or_false] at hu
    rcases hu with rfl | rfl | rfl
    · exact .inl ⟨_, rfl, c7 _ (by simp)⟩
    · exact .inl ⟨_, rfl, c1 _ h.1⟩
    · exact .inr ⟨_, rfl, h.2.1, by have := h.2.2; omega⟩
  | only ks =>
    refine ⟨fun u hu => ?_, ?_⟩
    · rcases List.mem_cons.mp hu with rfl | hu
      · exact .inl ⟨_, rfl, c7 _ (by simp)⟩
      · obtain ⟨z, hz, rfl⟩ := List.mem_map.mp hu
        exact .inl ⟨z, rfl, c2 _ (h.2.subset hz)⟩
    · show (V.str "only" :: ks.map V.str).length ≤ 5
      have := h.2.length_le
      have e : keyS.length = 4 := rfl
      rw [List.length_cons, List.length_map]
      omega
  | rekey k =>
    refine ⟨fun u hu => ?_, by show 2 ≤ 5; decide⟩
    simp only [Stg.words, List.mem_cons, List.not_mem_nil, or_false] at hu
    rcases hu with rfl | rfl
    · exact .inl ⟨_, rfl, c7 _ (by simp)⟩
    · exact .inl ⟨_, rfl, c5 _ h⟩
  | scale f =>
    refine ⟨fun u hu => ?_, by show 2 ≤ 5; decide⟩
    simp only [Stg.words, List.mem_cons, List.not_mem_nil, or_false] at hu
    rcases hu with rfl | rfl
    · exact .inl ⟨_, rfl, c7 _ (by simp)⟩
    · exact .inr ⟨_, rfl, by have := h.1; omega, by have := h.2; omega⟩
  | later f =>
    refine ⟨fun u hu => ?_, by show 2 ≤ 5; decide⟩
    simp only [Stg.words, List.mem_cons, List.not_mem_nil, or_false] at hu
    rcases hu with rfl | rfl
    · exact .inl ⟨_, rfl, c7 _ (by simp)⟩
    · exact .inr ⟨_, rfl, by have := h.1; omega, by have := h.2; omega⟩
theorem pl_words {ns : List Str} {p : Pl} (hn : short ns) (h : PlOk ns p) : (∀ u ∈ p.words, WOk u) ∧ p.words.length ≤ 5 := by
  obtain ⟨c1, c2, c3, c4, c5, c6, c7⟩ := short_all
  cases p with
  | src n =>
    refine ⟨fun u hu => ?_, by show 1 ≤ 5; decide⟩
    rw [List.mem_singleton.mp hu]
    exact .inl ⟨_, rfl, hn _ h⟩
  | stage s p => exact stg_words h.1
  | once p =>
    refine ⟨fun u hu => ?_, by show 1 ≤ 5; decide⟩
    rw [List.mem_singleton.mp hu]
    exact .inl ⟨_, rfl, c7 _ (by simp)⟩
  | windows a b g p =>
    obtain ⟨⟨b1, b2, a1, a2, hg⟩, _⟩ := h
    refine ⟨fun u hu => ?_, by show 4 ≤ 5; decide⟩
    simp only [Pl.words, List.mem_cons, List.not_mem_nil, or_false] at hu
    rcases hu with rfl | rfl | rfl | rfl
    · exact .inl ⟨_, rfl, c7 _ (by simp)⟩
    · exact .inr ⟨_, rfl, by omega, by omega⟩
    · exact .inr ⟨_, rfl, by omega, by omega⟩
    · exact .inl ⟨_, rfl, c3 _ hg⟩
  | sittings a g p =>
    obtain ⟨⟨a1, a2, hg⟩, _⟩ := h
    refine ⟨fun u hu => ?_, by show 3 ≤ 5; decide⟩
    simp only [Pl.words, List.mem_cons, List.not_mem_nil, or_false] at hu
    rcases hu with rfl | rfl | rfl
    · exact .inl ⟨_, rfl, c7 _ (by simp)⟩
    · exact .inr ⟨_, rfl, by omega, by omega⟩
    · exact .inl ⟨_, rfl, c3 _ hg⟩
  | two w l r =>
    refine ⟨fun u hu => ?_, by show 1 ≤ 5; decide⟩
    rw [List.mem_singleton.mp hu]
    exact .inl ⟨_, rfl, c6 _ h.1⟩
  | near a b c l r =>
    obtain ⟨⟨a1, a2, b1, b2, hc⟩, _⟩ := h
    refine ⟨fun u hu => ?_, by show 4 ≤ 5; decide⟩
    simp only [Pl.words, List.mem_cons, List.not_mem_nil, or_false] at hu
    rcases hu with rfl | rfl | rfl | rfl
    · exact .inl ⟨_, rfl, c7 _ (by simp)⟩
    · exact .inr ⟨_, rfl, by omega, by omega⟩
    · exact .inr ⟨_, rfl, by omega, by omega⟩
    · exact .inl ⟨_, rfl, c4 _ hc⟩
/-! ### lengths -/
theorem joinL_len (S : List Nat) : ∀ ls : List (List Nat), (joinL S ls).length ≤ (ls.map List.length).sum + ls.length * S.length
  | [] => by simp [joinL]
  | [x] => by simp [joinL]
  | x :: y :: r => by
    have ih := joinL_len S (y :: r)
    simp only [joinL, List.length_append, List.map_cons, List.sum_cons, List.length_cons] at ih ⊢
    rw [show (r.length + 1 + 1) * S.length = (r.length + 1) * S.length + S.length by rw [Nat.succ_mul]]
    omega
theorem sum_le {us : List V} (h : ∀ u ∈ us, WOk u) : ((us.map wtxt).map (·.length)).sum ≤ 10 * us.length := by
  induction us with
  | nil => exact Nat.le_refl _
  | cons u us ih =>
    have h1 := (h u (List.mem_cons_self ..)).len
    have h2 := ih fun x hx => h x (List.mem_cons_of_mem _ hx)
    simp only [List.map_cons, List.sum_cons, List.length_cons] at h2 ⊢
    omega
theorem spaced_tl (us : List V) : tl (spacedT us) = joinL [32] (us.map fun u => tl (wtxt u)) := by
  have e : tl (" " : Str) = [32] := by decide +kernel
  unfold spacedT
  rw [join_eq, tl_join, e, List.map_map]
  rfl
theorem spaced_len {us : List V} (h : ∀ u ∈ us, WOk u) : (tl (spacedT us)).length ≤ 11 * us.length := by
  rw [spaced_tl]
  have h1 := joinL_len [32] (us.map fun u => tl (wtxt u))
  have h2 := sum_le h
  have e : ((us.map fun u => tl (wtxt u)).map List.length) = (us.map wtxt).map (·.length) := by
    rw [List.map_map, List.map_map]
    refine List.map_congr_left fun u _ => ?_
    show (tl (wtxt u)).length = (wtxt u).length
    rw [len_tl]
  rw [e, List.length_map] at h1
  simp only [List.length_cons, List.length_nil] at h1
  omega
theorem canon_len {ns : List Str} (hn : short ns) : ∀ (m : Nat) (p : Pl), p.size ≤ m → PlOk ns p → (canonL p).length ≤ p.size * 100
  | 0, p, hm, _ => by have := size_pos p; omega
  | m + 1, p, hm, h => by
    obtain ⟨hw, hl⟩ := pl_words hn h
    have hs := spaced_len hw
    rcases ins_cases p with ⟨n, rfl⟩ | ⟨q, e⟩ | ⟨l, r, e⟩
    · have h1 : n.length ≤ 10 := hn n h
      show (tl n).length ≤ 1 * 100
      rw [← len_tl]
      omega
    · have z := size_one e
      have ih := canon_len hn m q (by omega) (ok_one e h)
      rw [canon_one e, List.length_append, List.length_append, z]
      have : barL.length = 3 := rfl
      omega
    · have z := size_two e
      obtain ⟨k1, k2⟩ := ok_two e h
      have i1 := canon_len hn m l (by omega) k1
      have i2 := canon_len hn m r (by omega) k2
      rw [canon_two e, z]
      simp only [List.length_append, List.length_cons, List.length_nil]
      omega
/-! ### str(..) of a text or a number -/
theorem cr_strSI {X : Cx} : CallR X (Value.type "str") fun xs H Q => ∃ v, xs = [v] ∧ WOk v ∧ Q (.str (wtxt v)) H := by
  intro pins s σ H xs us Q hI hv ⟨v, e, hw, q⟩
  rcases hw with ⟨z, rfl, _⟩ | ⟨i, rfl, hi⟩
  · exact SkE.call_str_str pins s σ H xs us Q hI hv ⟨z, e, q⟩
  · exact call_str_int pins s σ H xs us Q hI hv ⟨i, e, WOk.log hi, q⟩
/-! ### promises of the printing -/
def spSpaced (K : PySem.W.Frag) : Sp := fun vs H Q _ => ∃ (a : Addr) (us : List V), vs = [.ref a] ∧ SqT K H a us ∧ (∀ u ∈ us, WOk u) ∧ us.length ≤ 8 ∧ ∀ H', Same H H' → Q (.str (spacedT us)) H'
def spStext : Sp := fun vs H Q _ => ∃ (v : V) (p q : Pl), vs = [v] ∧ PlAt H p v ∧ p.ins = [q] ∧ (∀ u ∈ p.words, WOk u) ∧ p.words.length ≤ 5 ∧ ∀ H', Same H H' → Q (.str (spacedT p.words)) H'
def spPrint (ns : List Str) (n : Nat) : Sp := fun vs H Q _ => ∃ (v : V) (p : Pl), vs = [v] ∧ PlAt H p v ∧ PlOk ns p ∧ p.size ≤ n ∧ p.size ≤ 20 ∧ ∀ (z : Str) H', tl z = canonL p → Same H H' → Q (.str z) H'
def spStartT (ns : List Str) (n : Nat) : Sp := fun vs H Q _ => ∃ (v : V) (p : Pl), vs = [v] ∧ PlAt H p v ∧ PlOk ns p ∧ p.ins.length ≠ 1 ∧ p.size ≤ n ∧ p.size ≤ 20 ∧ ∀ (z : Str) H', tl z = canonL p → Same H H' → Q (.str z) H'
theorem cut_front {h : V} {mid vs : List V} {n : Nat} (hn : vs.length = n) (hp : 0 < n) : cutV (h :: (mid ++ vs)) none (some (-(n : Int))) = h :: mid ∧ ¬ (HT.sIx (h :: (mid ++ vs)).length 0 none = 0 ∧ HT.sIx (h :: (mid ++ vs)).length (h :: (mid ++ vs)).length (some (-(n : Int))) = (h :: (mid ++ vs)).length) := by
  have el : (h :: (mid ++ vs)).length = mid.length + 1 + n := by rw [List.length_cons, List.length_append, hn]; omega
  have e1 : HT.sIx (h :: (mid ++ vs)).length (h :: (mid ++ vs)).length (some (-(n : Int))) = mid.length + 1 := by
    show (if (-(n : Int)) < 0 then ((-(n : Int)) + ((h :: (mid ++ vs)).length : Int)).toNat else _) = _
    rw [if_pos (by omega), el]
    omega
  refine ⟨?_, fun z => by rw [e1] at z; omega⟩
  unfold cutV
  rw [e1, HT.sIx_none, Nat.sub_zero, List.drop_zero, ← List.cons_append]
  exact List.take_left' (by rw [List.length_cons])
end Tf
set_option maxHeartbeats 4000000
namespace Tf
open PySem PySem.Spec PyProof.Rows L2 TL
/-! ### texts in order, each once -/
theorem uniqK {α : Type} (r : α → Nat) : ∀ {l m : List α}, l.Pairwise (fun a b => r a < r b) → m.Pairwise (fun a b => r a < r b) → (∀ z, z ∈ l ↔ z ∈ m) → l = m
  | [], [], _, _, _ => rfl
  | [], b :: m, _, _, h => absurd ((h b).mpr (List.mem_cons_self ..)) (List.not_mem_nil)
  | a :: l, [], _, _, h => absurd ((h a).mp (List.mem_cons_self ..)) (List.not_mem_nil)
  | a :: l, b :: m, pl, pm, h => by
    obtain ⟨l1, l2⟩ := List.pairwise_cons.mp pl
    obtain ⟨m1, m2⟩ := List.pairwise_cons.mp pm
    have e : a = b := by
      rcases List.mem_cons.mp ((h a).mp (List.mem_cons_self ..)) with e | e
      · exact e
      · rcases List.mem_cons.mp ((h b).mpr (List.mem_cons_self ..)) with e' | e'
        · exact e'.symm
        · have := m1 a e
          have := l1 b e'
          omega
    subst e
    rw [uniqK r l2 m2 fun z => ⟨fun hz => ?_, fun hz => ?_⟩]
    · rcases List.mem_cons.mp ((h z).mp (List.mem_cons_of_mem _ hz)) with e | e
      · have := l1 z hz
        rw [e] at this
        omega
      · exact e
    · rcases List.mem_cons.mp ((h z).mpr (List.mem_cons_of_mem _ hz)) with e | e
      · have := m1 z hz
        rw [e] at this
        omega
      · exact e
def rankK (z : Str) : Nat := keyS.findIdx (· == z)
theorem rankK_lt : ∀ a ∈ keyS, ∀ b ∈ keyS, ltCps a.cps.toList b.cps.toList = decide (rankK a < rankK b) := by decide +kernel
theorem rankK_inj : ∀ a ∈ keyS, ∀ b ∈ keyS, rankK a = rankK b → a = b := by decide +kernel
theorem rankK_pw : keyS.Pairwise fun a b => rankK a < rankK b := by decide +kernel
theorem risingK {ys : List Str} {p : Str} (h : risingS p ys = true) (hp : p ∈ keyS) (hm : ∀ z ∈ ys, z ∈ keyS) : (p :: ys).Pairwise fun a b => rankK a ≤ rankK b := by
  induction ys generalizing p with
  | nil => exact List.pairwise_singleton _ _
  | cons x r ih =>
    have h' : (!ltCps x.cps.toList p.cps.toList && risingS x r) = true := h
    rw [Bool.and_eq_true, Bool.not_eq_true'] at h'
    have hx := hm x (List.mem_cons_self ..)
    have le : rankK p ≤ rankK x := by
      have := h'.1
      rw [rankK_lt x hx p hp, decide_eq_false_iff_not] at this
      omega
    have ih := ih h'.2 hx fun z hz => hm z (List.mem_cons_of_mem _ hz)
    refine List.pairwise_cons.mpr ⟨fun z hz => ?_, ih⟩
    rcases List.mem_cons.mp hz with e | e
    · rw [e]; exact le
    · exact Nat.le_trans le ((List.pairwise_cons.mp ih).1 z e)
theorem only_uniq {ks : List Str} (h : ks.Sublist keyS) {ys : List Str} (h1 : sortedS ys = true) (h2 : ys.Nodup) (h3 : ∀ z, z ∈ ys ↔ z ∈ ks) : ys = ks := by
  have hm : ∀ z ∈ ys, z ∈ keyS := fun z hz => h.subset ((h3 z).mp hz)
  have pw : ys.Pairwise fun a b => rankK a ≤ rankK b := by
    cases ys with
    | nil => exact List.Pairwise.nil
    | cons x r => exact risingK h1 (hm x (List.mem_cons_self ..)) fun z hz => hm z (List.mem_cons_of_mem _ hz)
  have pl : ys.Pairwise fun a b => rankK a < rankK b := by
    refine List.Pairwise.imp_of_mem (fun {a b} ha hb z => ?_) (pw.and h2)
    rcases Nat.lt_or_eq_of_le z.1 with l | l
    · exact l
    · exact absurd (rankK_inj a (hm a ha) b (hm b hb) l) z.2
  exact uniqK rankK pl (rankK_pw.sublist h) h3
/-! ### how plans are written: kinds and values of the tokens -/
abbrev Kv := Str × V
def wd (z : Str) : Kv := ("word", .str z)
def sg (z : Str) : Kv := ("sign", .str z)
def nm (i : Int) : Kv := ("number", .int i)
def Mt : List Tk → List Kv → Prop
  | [], [] => True
  | t :: ts, k :: ks => (t.1 = k.1 ∧ t.2.1 = k.2) ∧ Mt ts ks
  | _, _ => False
theorem Mt.len : ∀ {ts : List Tk} {ks : List Kv}, Mt ts ks → ts.length = ks.length
  | [], [], _ => rfl
  | t :: ts, k :: ks, ⟨_, h⟩ => by rw [List.length_cons, List.length_cons, h.len]
theorem Mt.split : ∀ {a : List Kv} {b : List Kv} {ts : List Tk}, Mt ts (a ++ b) → ∃ t1 t2, ts = t1 ++ t2 ∧ Mt t1 a ∧ Mt t2 b
  | [], b, ts, h => ⟨[], ts, rfl, trivial, h⟩
  | k :: a, b, [], h => h.elim
  | k :: a, b, t :: ts, ⟨h, r⟩ => by
    obtain ⟨t1, t2, e, h1, h2⟩ := r.split
    exact ⟨t :: t1, t2, by rw [e]; rfl, ⟨h, h1⟩, h2⟩
theorem Mt.app : ∀ {a b : List Kv} {ts us : List Tk}, Mt ts a → Mt us b → Mt (ts ++ us) (a ++ b)
  | [], b, [], us, _, h => h
  | k :: a, b, t :: ts, us, ⟨h, r⟩, g => ⟨h, r.app g⟩
def NameS (n : Str) : Prop := n.length ≤ 8 ∧ n ∉ gramS
/-- a stage's words -/
inductive StW : Stg → List Kv → Prop
  | sift {c b} : StW (.sift c b) [wd "sift", sg c, nm b]
  | only {ks} {ns : List Str} (h0 : ns ≠ []) (hn : ∀ z ∈ ns, NameS z) (hm : ∀ z, z ∈ ns ↔ z ∈ ks) (hl : ns.length ≤ 50) : StW (.only ks) (wd "only" :: ns.map wd)
  | rekey {k} (h : NameS k) : StW (.rekey k) [wd "rekey", wd k]
  | scale {f} : StW (.scale f) [wd "scale", nm f]
  | later {d} : StW (.later d) [wd "later", nm d]
inductive Wp : Pl → List Kv → Prop
  | src {n} (h : NameS n) : Wp (.src n) [wd n]
  | par {p ws} (h : Wp p ws) : Wp p (sg "(" :: (ws ++ [sg ")"]))
  | stage {s p ws ss} (h : Wp p ws) (hs : StW s ss) : Wp (.stage s p) (ws ++ (sg "|" :: ss))
  | once {p ws} (h : Wp p ws) : Wp (.once p) (ws ++ [sg "|", wd "once"])
  | windows {a b g p ws} (h : Wp p ws) : Wp (.windows a b g p) (ws ++ [sg "|", wd "windows", nm a, nm b, wd g])
  | sittings {a g p ws} (h : Wp p ws) : Wp (.sittings a g p) (ws ++ [sg "|", wd "sittings", nm a, wd g])
  | two {w l r ls rs} (h1 : Wp l ls) (h2 : Wp r rs) : Wp (.two w l r) (wd w :: sg "(" :: (ls ++ (sg "," :: (rs ++ [sg ")"]))))
  | near {a b c l r ls rs} (h1 : Wp l ls) (h2 : Wp r rs) : Wp (.near a b c l r) (wd "near" :: nm a :: nm b :: wd c :: sg "(" :: (ls ++ (sg "," :: (rs ++ [sg ")"]))))
/-! ### numbers -/
theorem numsOk_nil : NumsOk [] := fun i n h => by simp at h
theorem numsOk_cons {n : Num} {M : List Num} (h : NumOk n M[0]?) (k : NumsOk M) : NumsOk (n :: M) := fun i m e => by
  cases i with
  | zero =>
    have e' : n = m := Option.some.inj e
    rw [← e']; exact h
  | succ i => exact k i m e
theorem numOk_any {n : Num} {o : Option Num} (h : NumOk n none) : NumOk n o := ⟨h.1, fun e => by
  obtain ⟨m, h, _⟩ := h.2 e
  cases h⟩
theorem numsOk_app {M : List Num} : ∀ {N : List Num}, NumsOk N → NumsOk M → NumsOk (N ++ M)
  | [], _, k => k
  | n :: N, h, k => by
    have h0 := h 0 n rfl
    refine numsOk_cons ?_ (numsOk_app (fun i m e => h (i + 1) m e) k)
    cases N with
    | nil => exact numOk_any h0
    | cons x r => exact h0
theorem rng_ok {e : Str × Int × Int} (h : e ∈ rngs) (hs : e.1 ≠ ("size" : Str)) {v : Int} {p : Nat} (h1 : e.2.1 ≤ v) (h2 : v ≤ e.2.2) : NumOk (e.1, v, p) none :=
  ⟨⟨e, h, rfl, h1, h2⟩, fun z => absurd z hs⟩
theorem nb_bound {v : Int} {p : Nat} (h1 : -1000000000 ≤ v) (h2 : v ≤ 1000000000) : NumOk ("bound", v, p) none := rng_ok (e := ("bound", -1000000000, 1000000000)) (by unfold rngs; simp) (by decide +kernel) h1 h2
theorem nb_factor {v : Int} {p : Nat} (h1 : -1000 ≤ v) (h2 : v ≤ 1000) : NumOk ("factor", v, p) none := rng_ok (e := ("factor", -1000, 1000)) (by unfold rngs; simp) (by decide +kernel) h1 h2
theorem nb_delay {v : Int} {p : Nat} (h1 : 0 ≤ v) (h2 : v ≤ 1000) : NumOk ("delay", v, p) none := rng_ok (e := ("delay", 0, 1000)) (by unfold rngs; simp) (by decide +kernel) h1 h2
theorem nb_slide {v : Int} {p : Nat} (h1 : 1 ≤ v) (h2 : v ≤ 1000) : NumOk ("slide", v, p) none := rng_ok (e := ("slide", 1, 1000)) (by unfold rngs; simp) (by decide +kernel) h1 h2
theorem nb_gap {v : Int} {p : Nat} (h1 : 0 ≤ v) (h2 : v ≤ 1000) : NumOk ("gap", v, p) none := rng_ok (e := ("gap", 0, 1000)) (by unfold rngs; simp) (by decide +kernel) h1 h2
theorem nb_before {v : Int} {p : Nat} (h1 : 0 ≤ v) (h2 : v ≤ 1000) : NumOk ("before", v, p) none := rng_ok (e := ("before", 0, 1000)) (by unfold rngs; simp) (by decide +kernel) h1 h2
theorem nb_after {v : Int} {p : Nat} (h1 : 0 ≤ v) (h2 : v ≤ 1000) : NumOk ("after", v, p) none := rng_ok (e := ("after", 0, 1000)) (by unfold rngs; simp) (by decide +kernel) h1 h2
theorem nb_size {v s : Int} {p q : Nat} (h1 : 1 ≤ v) (h2 : v ≤ 1000) (h3 : 1 ≤ s) (h4 : s ≤ 1000) (h5 : v ≤ 10 * s) : NumOk ("size", v, p) (some ("slide", s, q)) :=
  ⟨⟨("size", 1, 1000), by unfold rngs; simp, rfl, h1, h2⟩, fun _ => ⟨_, rfl, h3, h4, h5⟩⟩
/-! ### what is written is read -/
/-- a word with its parts, read ahead of any token that is no name -/
def Reads (w : Str) (r1 : List Tk) (ps : List Str) (vs : List Pv) (ns : List Num) : Prop := (w, ps) ∈ partsOf ∧ ∀ u rest, NoName u → PartsR ps (r1 ++ (u :: rest)) (u :: rest) vs ns
theorem isName {t : Tk} {n : Str} (h : t.1 = (wd n).1 ∧ t.2.1 = (wd n).2) (hn : NameS n) : IsName t n := ⟨h.1, h.2, hn.1, hn.2⟩
theorem namesR : ∀ {ns : List Str} {ts : List Tk}, Mt ts (ns.map wd) → (∀ z ∈ ns, NameS z) → NamesR ts ns
  | [], [], _, _ => trivial
  | n :: ns, t :: ts, ⟨h, r⟩, hn => ⟨isName h (hn n (List.mem_cons_self ..)), namesR r fun z hz => hn z (List.mem_cons_of_mem _ hz)⟩
theorem reads_stage {s : Stg} {ss : List Kv} (h : StW s ss) (hs : StOk s) : ∀ ts, Mt ts ss → ∃ t1 r1 w ps vs ns, ts = t1 :: r1 ∧ t1.2.1 = V.str w ∧ w ∈ stageS ++ singleS ∧ Reads w r1 ps vs ns ∧ NumsOk ns ∧ ns.length ≤ 3 ∧ ∀ p, ApR w vs p (.stage s p) := by
  have n3 : ("sift" : Str) ∈ stageS ++ singleS ∧ ("only" : Str) ∈ stageS ++ singleS ∧ ("rekey" : Str) ∈ stageS ++ singleS ∧ ("scale" : Str) ∈ stageS ++ singleS ∧ ("later" : Str) ∈ stageS ++ singleS := by decide +kernel
  have m3 : ("bound" : Str) ∈ numS ∧ ("factor" : Str) ∈ numS ∧ ("delay" : Str) ∈ numS := by decide +kernel
  have pm : ∀ e : Str × List Str, e ∈ ([("sift", ["comparison", "bound"]), ("only", ["names"]), ("rekey", ["name"]), ("scale", ["factor"]), ("later", ["delay"])] : List (Str × List Str)) → e ∈ partsOf := by
    unfold partsOf
    decide +kernel
  intro ts hm
  cases h with
  | @sift c b =>
    obtain ⟨hc, hb1, hb2⟩ := hs
    match ts, hm with
    | [t1, t2, t3], ⟨⟨a1, b1⟩, ⟨a2, b2⟩, ⟨a3, b3⟩, _⟩ =>
      refine ⟨t1, [t2, t3], "sift", _, _, _, rfl, b1, n3.1, ⟨pm ("sift", ["comparison", "bound"]) (by simp), fun u rest hu => .cons (.cmp rfl b2 hc) (.cons (.num m3.1 a3 b3) .nil)⟩, numsOk_cons (nb_bound (by omega) (by omega)) numsOk_nil, by show 1 ≤ 3; decide, fun p => .sift rfl⟩
  | @only ks ns h0 hn hmm hl =>
    cases ns with
    | nil => exact absurd rfl h0
    | cons n ns =>
    match ts, hm with
    | t1 :: t2 :: ts, ⟨⟨a1, b1⟩, h2, h3⟩ =>
      refine ⟨t1, t2 :: ts, "only", _, _, _, rfl, b1, n3.2.1, ⟨pm ("only", ["names"]) (by simp), fun u rest hu => .cons (.names rfl (isName h2 (hn n (List.mem_cons_self ..))) (namesR h3 fun z hz => hn z (List.mem_cons_of_mem _ hz)) (by rw [List.length_cons] at hl; omega) ⟨u, rest, rfl, hu⟩ fun ys y1 y2 y3 => only_uniq hs.2 y1 y2 fun z => (y3 z).trans (hmm z)) .nil⟩, numsOk_nil, by decide, fun p => .only rfl⟩
  | @rekey k hk =>
    match ts, hm with
    | [t1, t2], ⟨⟨a1, b1⟩, h2, _⟩ =>
      exact ⟨t1, [t2], "rekey", _, _, _, rfl, b1, n3.2.2.1, ⟨pm ("rekey", ["name"]) (by simp), fun u rest hu => .cons (.name rfl (isName h2 hk)) .nil⟩, numsOk_nil, by decide, fun p => .rekey rfl⟩
  | @scale f =>
    obtain ⟨hb1, hb2⟩ := hs
    match ts, hm with
    | [t1, t2], ⟨⟨a1, b1⟩, ⟨a2, b2⟩, _⟩ =>
      exact ⟨t1, [t2], "scale", _, _, _, rfl, b1, n3.2.2.2.1, ⟨pm ("scale", ["factor"]) (by simp), fun u rest hu => .cons (.num m3.2.1 a2 b2) .nil⟩, numsOk_cons (nb_factor (by omega) (by omega)) numsOk_nil, by show 1 ≤ 3; decide, fun p => .scale rfl⟩
  | @later f =>
    obtain ⟨hb1, hb2⟩ := hs
    match ts, hm with
    | [t1, t2], ⟨⟨a1, b1⟩, ⟨a2, b2⟩, _⟩ =>
      exact ⟨t1, [t2], "later", _, _, _, rfl, b1, n3.2.2.2.2, ⟨pm ("later", ["delay"]) (by simp), fun u rest hu => .cons (.num m3.2.2 a2 b2) .nil⟩, numsOk_cons (nb_delay (by omega) (by omega)) numsOk_nil, by show 1 ≤ 3; decide, fun p => .later rfl⟩
theorem sg_no {t : Tk} {z : Str} (h : t.1 = (sg z).1 ∧ t.2.1 = (sg z).2) : NoName t := no_sign h.1
/-- a bar and what stands behind it -/
theorem rd_bar {P p p' : Pl} {M : List Num} {e tb t1 u : Tk} {r1 rest : List Tk} {w : Str} {ps : List Str} {vs : List Pv} {ns N : List Num} {S : List Fm} (hb : tb.1 = (sg "|").1 ∧ tb.2.1 = (sg "|").2) (h1 : t1.2.1 = V.str w) (hw : w ∈ stageS ++ singleS) (hr : Reads w r1 ps vs ns) (ha : ApR w vs p p') (hu : NoName u)
    (k : Rd P M e (some p') (u :: rest) S (N ++ ns)) : Rd P M e (some p) (tb :: t1 :: (r1 ++ (u :: rest))) S N := .bar hb.1 hb.2 h1 hw hr.1 (hr.2 u rest hu) ha k
def RdOk (p : Pl) (ts : List Tk) : Prop := ∃ ns, NumsOk ns ∧ ns.length ≤ 3 * p.size ∧ ∀ P M e u rest S N, NoName u → Rd P M e (some p) (u :: rest) S (N ++ ns) → Rd P M e none (ts ++ (u :: rest)) S N
theorem rd_after {p p' : Pl} {ts : List Tk} {tb t1 : Tk} {r1 : List Tk} {w : Str} {ps : List Str} {vs : List Pv} {ns : List Num} (ih : RdOk p ts) (hb : tb.1 = (sg "|").1 ∧ tb.2.1 = (sg "|").2) (h1 : t1.2.1 = V.str w) (hw : w ∈ stageS ++ singleS) (hr : Reads w r1 ps vs ns) (ha : ApR w vs p p')
    (hz : p'.size = p.size + 1) (h2 : NumsOk ns) (h3 : ns.length ≤ 3) : RdOk p' (ts ++ (tb :: t1 :: r1)) := by
  obtain ⟨n0, k1, k2, k3⟩ := ih
  refine ⟨n0 ++ ns, numsOk_app k1 h2, by rw [List.length_append, hz]; omega, fun P M e u rest S N hu k => ?_⟩
  rw [List.append_assoc]
  exact k3 P M e tb _ S N (sg_no hb) (rd_bar hb h1 hw hr ha hu (by rw [List.append_assoc]; exact k))
theorem rd_pair {q l r : Pl} {t0 t2 tc te : Tk} {r1 ls rs : List Tk} {w : Str} {ps : List Str} {vs : List Pv} {ns : List Num} (i1 : RdOk l ls) (i2 : RdOk r rs) (h0 : t0.2.1 = V.str w) (hw : w ∈ pairS) (hr : Reads w r1 ps vs ns) (ha : PrR w vs l r q)
    (h2 : t2.1 = (sg "(").1 ∧ t2.2.1 = (sg "(").2) (hc : tc.1 = (sg ",").1 ∧ tc.2.1 = (sg ",").2) (he : te.1 = (sg ")").1 ∧ te.2.1 = (sg ")").2)
    (hz : q.size = l.size + r.size + 1) (k2 : NumsOk ns) (k3 : ns.length ≤ 3) : RdOk q (t0 :: (r1 ++ (t2 :: (ls ++ (tc :: (rs ++ [te])))))) := by
  obtain ⟨nl, a1, a2, a3⟩ := i1
  obtain ⟨nr, b1, b2, b3⟩ := i2
  refine ⟨ns ++ nl ++ nr, numsOk_app (numsOk_app k2 a1) b1, by rw [List.length_append, List.length_append, hz]; omega, fun P M e u rest S N hu k => ?_⟩
  have e1 : (t0 :: (r1 ++ (t2 :: (ls ++ (tc :: (rs ++ [te])))))) ++ (u :: rest) = t0 :: (r1 ++ (t2 :: (ls ++ (tc :: (rs ++ (te :: u :: rest)))))) := by simp only [List.cons_append, List.append_assoc, List.nil_append]
  rw [e1]
  refine Rd.pair h0 hw hr.1 (hr.2 t2 _ (sg_no h2)) h2.2 ?_
  refine a3 P M e tc _ _ _ (sg_no hc) (.comma hc.2 ?_)
  refine b3 P M e te _ _ _ (sg_no he) (.second he.2 ha ?_)
  rw [List.append_assoc, List.append_assoc, ← List.append_assoc ns]
  exact k
theorem rd_of {ns : List Str} : ∀ {p : Pl} {ws : List Kv}, Wp p ws → PlOk ns p → ∀ ts, Mt ts ws → RdOk p ts := by
  have n3 : ("once" : Str) ∈ stageS ++ singleS ∧ ("windows" : Str) ∈ stageS ++ singleS ∧ ("sittings" : Str) ∈ stageS ++ singleS := by decide +kernel
  have n4 : ∀ w ∈ twoS, w ∈ pairS ∧ (w, ([] : List Str)) ∈ partsOf := by unfold partsOf; decide +kernel
  have n5 : ("near" : Str) ∈ pairS := by decide +kernel
  have m3 : ("size" : Str) ∈ numS ∧ ("slide" : Str) ∈ numS ∧ ("gap" : Str) ∈ numS ∧ ("before" : Str) ∈ numS ∧ ("after" : Str) ∈ numS := by decide +kernel
  have pm : ∀ e : Str × List Str, e ∈ ([("once", []), ("windows", ["size", "slide", "aggregate"]), ("sittings", ["gap", "aggregate"]), ("near", ["before", "after", "combination"])] : List (Str × List Str)) → e ∈ partsOf := by
    unfold partsOf
    decide +kernel
  intro p ws h
  induction h with
  | @src n hn =>
    intro hok ts hm
    match ts, hm with
    | [t], ⟨h, _⟩ => exact ⟨[], numsOk_nil, Nat.zero_le _, fun P M e u rest S N hu k => .name (isName h hn) (by rw [List.append_nil] at k; exact k)⟩
  | @par p ws h ih =>
    intro hok ts hm
    match ts, hm with
    | t :: ts, ⟨h1, h2⟩ =>
      obtain ⟨ta, tb, rfl, ha, hb⟩ := h2.split
      match tb, hb with
      | [te], ⟨h3, _⟩ =>
        obtain ⟨nn, k1, k2, k3⟩ := ih hok ta ha
        refine ⟨nn, k1, k2, fun P M e u rest S N hu k => ?_⟩
        rw [List.cons_append, List.append_assoc]
        exact .par h1.1 h1.2 (k3 P M e te (u :: rest) (.par :: S) N (sg_no h3) (.close h3.2 k))
  | @stage s p ws ss h hs ih =>
    intro hok ts hm
    obtain ⟨ta, tb, rfl, ha, hb⟩ := hm.split
    match tb, hb with
    | t :: tb, ⟨h1, h2⟩ =>
      obtain ⟨t1, r1, w, ps, vs, nn, rfl, e1, e2, e3, e4, e5, e6⟩ := reads_stage hs hok.1 tb h2
      exact rd_after (ih hok.2 ta ha) h1 e1 e2 e3 (e6 p) rfl e4 e5
  | @once p ws h ih =>
    intro hok ts hm
    obtain ⟨ta, tb, rfl, ha, hb⟩ := hm.split
    match tb, hb with
    | [t, t1], ⟨h1, h2, _⟩ => exact rd_after (ih hok ta ha) h1 h2.2 n3.1 ⟨pm ("once", []) (by simp), fun u rest hu => .nil⟩ (.once rfl) rfl numsOk_nil (by decide)
  | @windows a b g p ws h ih =>
    intro hok ts hm
    obtain ⟨⟨b1, b2, a1, a2, hg⟩, hok⟩ := hok
    obtain ⟨ta, tb, rfl, ha, hb⟩ := hm.split
    match tb, hb with
    | [t, t1, t2, t3, t4], ⟨h1, h2, h3, h4, h5, _⟩ =>
      exact rd_after (ih hok ta ha) h1 h2.2 n3.2.1 ⟨pm ("windows", ["size", "slide", "aggregate"]) (by simp), fun u rest hu => .cons (.num m3.1 h3.1 h3.2) (.cons (.num m3.2.1 h4.1 h4.2) (.cons (.agg rfl h5.2 hg) .nil))⟩ (.windows rfl) rfl (numsOk_cons (nb_size a1 (by omega) b1 (by omega) a2) (numsOk_cons (nb_slide b1 (by omega)) numsOk_nil)) (by show 2 ≤ 3; decide)
  | @sittings a g p ws h ih =>
    intro hok ts hm
    obtain ⟨⟨a1, a2, hg⟩, hok⟩ := hok
    obtain ⟨ta, tb, rfl, ha, hb⟩ := hm.split
    match tb, hb with
    | [t, t1, t2, t3], ⟨h1, h2, h3, h4, _⟩ =>
      exact rd_after (ih hok ta ha) h1 h2.2 n3.2.2 ⟨pm ("sittings", ["gap", "aggregate"]) (by simp), fun u rest hu => .cons (.num m3.2.2.1 h3.1 h3.2) (.cons (.agg rfl h4.2 hg) .nil)⟩ (.sittings rfl) rfl (numsOk_cons (nb_gap a1 (by omega)) numsOk_nil) (by show 1 ≤ 3; decide)
  | @two w l r ls rs hl hr i1 i2 =>
    intro hok ts hm
    obtain ⟨hw, ok1, ok2⟩ := hok
    match ts, hm with
    | t0 :: t2 :: ts, ⟨h0, h2, h3⟩ =>
      obtain ⟨ta, tb, rfl, ha, hb⟩ := h3.split
      match tb, hb with
      | tc :: tb, ⟨hc, hb⟩ =>
        obtain ⟨td, te, rfl, hd, he⟩ := hb.split
        match te, he with
        | [te], ⟨he, _⟩ =>
          exact rd_pair (r1 := []) (i1 ok1 ta ha) (i2 ok2 td hd) h0.2 (n4 _ hw).1 ⟨(n4 _ hw).2, fun u rest hu => .nil⟩ (.two hw) h2 hc he rfl numsOk_nil (by decide)
  | @near a b c l r ls rs hl hr i1 i2 =>
    intro hok ts hm
    obtain ⟨⟨a1, a2, b1, b2, hg⟩, ok1, ok2⟩ := hok
    match ts, hm with
    | t0 :: u1 :: u2 :: u3 :: t2 :: ts, ⟨h0, g1, g2, g3, h2, h3⟩ =>
      obtain ⟨ta, tb, rfl, ha, hb⟩ := h3.split
      match tb, hb with
      | tc :: tb, ⟨hc, hb⟩ =>
        obtain ⟨td, te, rfl, hd, he⟩ := hb.split
        match te, he with
        | [te], ⟨he, _⟩ =>
          exact rd_pair (r1 := [u1, u2, u3]) (i1 ok1 ta ha) (i2 ok2 td hd) h0.2 n5 ⟨pm ("near", ["before", "after", "combination"]) (by simp), fun u rest hu => .cons (.num m3.2.2.2.1 g1.1 g1.2) (.cons (.num m3.2.2.2.2 g2.1 g2.2) (.cons (.comb rfl g3.2 hg) .nil))⟩ (.near rfl) h2 hc he rfl (numsOk_cons (numOk_any (nb_before a1 (by omega))) (numsOk_cons (nb_after b1 (by omega)) numsOk_nil)) (by show 2 ≤ 3; decide)
/-- the whole text: a plan, then the end -/
theorem rd_whole {ns : List Str} {p : Pl} {ws : List Kv} (h : Wp p ws) (hok : PlOk ns p) {ts : List Tk} (hm : Mt ts ws) (q : Nat) : ∃ M, NumsOk M ∧ M.length ≤ 3 * p.size ∧ Rd p M (endTk q) none (ts ++ [endTk q]) [] [] := by
  obtain ⟨nn, k1, k2, k3⟩ := rd_of h hok ts hm
  refine ⟨nn, k1, k2, k3 p nn (endTk q) (endTk q) [] [] [] (fun n hn => ?_) (.done rfl)⟩
  exact absurd hn.1 (by show ¬ (("end" : Str) = "word"); decide +kernel)
end Tf
set_option maxHeartbeats 4000000
namespace Tf
open PySem PySem.Spec PyProof.Rows L2 TL
def srcS : List Str := ["a", "b", "c", "rows"]
/-! ### the same plan twice -/
theorem Eq2.up {H : Hp} : ∀ {n : Nat} {x y : V}, Eq2 H n x y → Eq2 H (n + 1) x y
  | 0, _, _, h => .inl h
  | n + 1, _, _, .inl h => .inl h
  | n + 1, _, _, .inr ⟨t, a, b, xs, ys, e1, e2, h1, h2, h3, h4, h5⟩ => .inr ⟨t, a, b, xs, ys, e1, e2, h1, h2, h3, h4, fun i u v hu hv => (h5 i u v hu hv).up⟩
theorem Eq2.le {H : Hp} {n m : Nat} {x y : V} (h : Eq2 H n x y) (k : n ≤ m) : Eq2 H m x y := by
  induction k with
  | refl => exact h
  | step _ ih => exact ih.up
/-- two rows of values, one beside the other -/
def EqL (H : Hp) (n : Nat) : List V → List V → Prop
  | [], [] => True
  | x :: xs, y :: ys => Eq2 H n x y ∧ EqL H n xs ys
  | _, _ => False
theorem EqL.len {H : Hp} {n : Nat} : ∀ {xs ys : List V}, EqL H n xs ys → xs.length = ys.length
  | [], [], _ => rfl
  | x :: xs, y :: ys, ⟨_, h⟩ => by rw [List.length_cons, List.length_cons, h.len]
theorem EqL.get {H : Hp} {n : Nat} : ∀ {xs ys : List V}, EqL H n xs ys → ∀ (i : Nat) u v, xs[i]? = some u → ys[i]? = some v → Eq2 H n u v
  | [], [], _, i, u, v, h, _ => by simp at h
  | x :: xs, y :: ys, ⟨h, _⟩, 0, u, v, hu, hv => by
    rw [← Option.some.inj hu, ← Option.some.inj hv]; exact h
  | x :: xs, y :: ys, ⟨_, r⟩, i + 1, u, v, hu, hv => r.get i u v hu hv
theorem eq_tup {H : Hp} {n : Nat} {a b : Addr} {xs ys : List V} (ha : H a = some (.tup xs)) (hb : H b = some (.tup ys)) (h : EqL H n xs ys) (hl : ys.length ≤ 1000) : Eq2 H (n + 1) (.ref a) (.ref b) :=
  .inr ⟨true, a, b, xs, ys, rfl, rfl, ha, hb, h.len, hl, h.get⟩
theorem eq_lst {H : Hp} {n : Nat} {a b : Addr} {xs ys : List V} (ha : H a = some (.lst xs)) (hb : H b = some (.lst ys)) (h : EqL H n xs ys) (hl : ys.length ≤ 1000) : Eq2 H (n + 1) (.ref a) (.ref b) :=
  .inr ⟨false, a, b, xs, ys, rfl, rfl, ha, hb, h.len, hl, h.get⟩
theorem eqS {H : Hp} {n : Nat} {z : Str} : Eq2 H n (.str z) (.str z) := .base (.inr (.inl ⟨z, rfl, rfl⟩))
theorem eqI {H : Hp} {n : Nat} {z : Int} : Eq2 H n (.int z) (.int z) := .base (.inl ⟨z, rfl, rfl⟩)
theorem eqStrs {H : Hp} {n : Nat} : ∀ ks : List Str, EqL H n (ks.map V.str) (ks.map V.str)
  | [] => trivial
  | k :: ks => ⟨eqS, eqStrs ks⟩
theorem StAt.eq {H : Hp} {s : Stg} {x y : V} (h : StAt H s x) (g : StAt H s y) (hl : ∀ ks, s = .only ks → ks.length ≤ 1000) : Eq2 H 2 x y := by
  cases s with
  | sift c b => obtain ⟨a, rfl, h⟩ := h; obtain ⟨b, rfl, g⟩ := g; exact eq_tup h g ⟨eqS, eqS, eqI, trivial⟩ (by show 3 ≤ 1000; decide)
  | only ks =>
    obtain ⟨a, k, rfl, h, h2⟩ := h
    obtain ⟨b, l, rfl, g, g2⟩ := g
    exact eq_tup h g ⟨eqS, eq_tup (n := 0) h2 g2 (eqStrs ks) (by rw [List.length_map]; exact hl ks rfl), trivial⟩ (by show 2 ≤ 1000; decide)
  | rekey c => obtain ⟨a, rfl, h⟩ := h; obtain ⟨b, rfl, g⟩ := g; exact eq_tup h g ⟨eqS, eqS, trivial⟩ (by show 2 ≤ 1000; decide)
  | scale c => obtain ⟨a, rfl, h⟩ := h; obtain ⟨b, rfl, g⟩ := g; exact eq_tup h g ⟨eqS, eqI, trivial⟩ (by show 2 ≤ 1000; decide)
  | later c => obtain ⟨a, rfl, h⟩ := h; obtain ⟨b, rfl, g⟩ := g; exact eq_tup h g ⟨eqS, eqI, trivial⟩ (by show 2 ≤ 1000; decide)
theorem StOk.few {s : Stg} (h : StOk s) : ∀ ks, s = .only ks → ks.length ≤ 1000 := by
  rintro ks rfl
  have := h.2.length_le
  have e : keyS.length = 4 := rfl
  omega
theorem PlAt.eq {H : Hp} {ns : List Str} : ∀ {p : Pl} {x y : V}, PlAt H p x → PlAt H p y → PlOk ns p → Eq2 H (p.size + 2) x y
  | .src n, _, _, ⟨a, e, h⟩, ⟨b, f, g⟩, _ => by subst e f; exact eq_tup h g ⟨eqS, eqS, trivial⟩ (by show 2 ≤ 1000; decide)
  | .stage s p, _, _, ⟨a, x, y, e, h, hs, hp⟩, ⟨b, u, v, f, g, gs, gp⟩, ⟨k1, k2⟩ => by
    subst e f
    exact eq_tup (n := p.size + 2) h g ⟨eqS, (hs.eq gs k1.few).le (by omega), hp.eq gp k2, trivial⟩ (by show 3 ≤ 1000; decide)
  | .once p, _, _, ⟨a, y, e, h, hp⟩, ⟨b, v, f, g, gp⟩, k => by subst e f; exact eq_tup (n := p.size + 2) h g ⟨eqS, hp.eq gp k, trivial⟩ (by show 2 ≤ 1000; decide)
  | .windows _ _ _ p, _, _, ⟨a, y, e, h, hp⟩, ⟨b, v, f, g, gp⟩, k => by subst e f; exact eq_tup (n := p.size + 2) h g ⟨eqS, eqI, eqI, eqS, hp.eq gp k.2, trivial⟩ (by show 5 ≤ 1000; decide)
  | .sittings _ _ p, _, _, ⟨a, y, e, h, hp⟩, ⟨b, v, f, g, gp⟩, k => by subst e f; exact eq_tup (n := p.size + 2) h g ⟨eqS, eqI, eqS, hp.eq gp k.2, trivial⟩ (by show 4 ≤ 1000; decide)
  | .two w l r, _, _, ⟨a, x, y, e, h, _, h1, h2⟩, ⟨b, u, v, f, g, _, g1, g2⟩, k => by
    subst e f
    exact eq_tup (n := l.size + r.size + 2) h g ⟨eqS, (h1.eq g1 k.2.1).le (by omega), (h2.eq g2 k.2.2).le (by omega), trivial⟩ (by show 3 ≤ 1000; decide)
  | .near _ _ _ l r, _, _, ⟨a, x, y, e, h, h1, h2⟩, ⟨b, u, v, f, g, g1, g2⟩, k => by
    subst e f
    exact eq_tup (n := l.size + r.size + 2) h g ⟨eqS, eqI, eqI, eqS, (h1.eq g1 k.2.1).le (by omega), (h2.eq g2 k.2.2).le (by omega), trivial⟩ (by show 6 ≤ 1000; decide)
/-! ### items: what is written, with the gaps ahead -/
def kv : V → Kv
  | .int i => nm i
  | .str z => if z ∈ sgS then sg z else wd z
  | _ => wd ""
def itV (g : List Nat) (v : V) : Itm := ⟨g, tl (wtxt v), (kv v).1, v⟩
def kvI (x : Itm) : Kv := (x.kind, x.v)
def wsI : List Nat → List V → List Itm
  | _, [] => []
  | g, u :: us => itV g u :: wsI [32] us
theorem render_app (a b : List Itm) : render (a ++ b) = render a ++ render b := by
  induction a with
  | nil => rfl
  | cons x r ih => show x.g ++ (x.w ++ render (r ++ b)) = (x.g ++ (x.w ++ render r)) ++ render b; rw [ih]; simp only [List.append_assoc]
theorem places_mt : ∀ (l : List Itm) (p : Nat), Mt (places p l) (l.map kvI)
  | [], _ => trivial
  | x :: r, p => ⟨⟨rfl, rfl⟩, places_mt r _⟩
theorem lastw_app : ∀ (a b : List Itm) (p : List Nat), lastw p (a ++ b) = lastw (lastw p a) b
  | [], _, _ => rfl
  | x :: r, b, p => lastw_app r b x.w
theorem chain_app : ∀ {a b : List Itm} {p : List Nat}, Chain p a → Chain (lastw p a) b → Chain p (a ++ b)
  | [], _, _, _, h => h
  | x :: r, b, p, ⟨h1, h2⟩, h => ⟨h1, chain_app h2 h⟩
theorem render_ws : ∀ (us : List V) (g : List Nat), us ≠ [] → render (wsI g us) = g ++ tl (spacedT us) := by
  intro us
  have key : ∀ (us : List V) (u : V) (g : List Nat), render (wsI g (u :: us)) = g ++ joinL [32] ((u :: us).map fun x => tl (wtxt x)) := by
    intro us
    induction us with
    | nil => intro u g; show g ++ (tl (wtxt u) ++ []) = g ++ tl (wtxt u); rw [List.append_nil]
    | cons x r ih =>
      intro u g
      show g ++ (tl (wtxt u) ++ render (wsI [32] (x :: r))) = _
      rw [ih x [32]]
      rfl
  intro g h
  rw [spaced_tl]
  cases us with
  | nil => exact absurd rfl h
  | cons u us => exact key us u g
/-- a word that stands for itself -/
def WV (v : V) : Prop := Wf (tl (wtxt v)) (kv v).1 ∧ TokVal (kv v).1 (tl (wtxt v)) v
theorem wv_sign {z : Str} (h : z ∈ sgS) : kv (.str z) = sg z ∧ WV (.str z) := by
  have e : kv (.str z) = sg z := if_pos h
  refine ⟨e, ?_⟩
  unfold WV
  rw [e]
  refine ⟨.sign ?_, .inr ⟨by show ("sign" : Str) ≠ "number"; decide +kernel, ?_⟩⟩
  · rw [← sg_tl]; exact List.mem_map_of_mem h
  · exact congrArg V.str (ext_tl rfl)
def letS (z : Str) : Bool := !(tl z).isEmpty && (tl z).all fun c => decide (Lt c)
theorem wv_word {z : Str} (h : letS z = true) : kv (.str z) = wd z ∧ WV (.str z) := by
  unfold letS at h
  simp only [Bool.and_eq_true, Bool.not_eq_true', List.all_eq_true, decide_eq_true_eq] at h
  obtain ⟨h1, h2⟩ := h
  have h1' : tl z ≠ [] := fun e => by rw [e] at h1; cases h1
  have no : z ∉ sgS := fun hz => by
    have hm : tl z ∈ sgL := by rw [← sg_tl]; exact List.mem_map_of_mem hz
    obtain ⟨c, hc⟩ : ∃ c, (tl z).head? = some c := by
      cases e : tl z with
      | nil => exact absurd e h1'
      | cons a r => exact ⟨a, rfl⟩
    exact (sg_head _ hm c hc).1 (h2 c (List.mem_of_head? hc))
  have e : kv (.str z) = wd z := if_neg no
  refine ⟨e, ?_⟩
  unfold WV
  rw [e]
  refine ⟨.word h1' h2, .inr ⟨by show ("word" : Str) ≠ "number"; decide +kernel, ?_⟩⟩
  exact congrArg V.str (ext_tl rfl)
theorem wv_num {i : Int} (h : NumB i) : kv (.int i) = nm i ∧ WV (.int i) := ⟨rfl, (num_ok h).1, (num_ok h).2.1⟩
theorem let_all : (∀ z ∈ srcS, letS z = true ∧ NameS z) ∧ (∀ z ∈ keyS, letS z = true ∧ NameS z) ∧ (∀ z ∈ (["a", "b", "z"] : List Str), letS z = true ∧ NameS z) ∧ (∀ z ∈ aggS, letS z = true) ∧ (∀ z ∈ combS, letS z = true) ∧ (∀ z ∈ twoS, letS z = true) ∧
    (∀ z ∈ (["sift", "only", "rekey", "scale", "later", "once", "windows", "sittings", "near"] : List Str), letS z = true) ∧ (∀ z ∈ compS, z ∈ sgS) ∧ (∀ z ∈ (["(", ")", ",", "|"] : List Str), z ∈ sgS) := by
  unfold NameS gramS partsOf
  decide +kernel
theorem map_congr' {α β : Type} {f g : α → β} {l : List α} (h : ∀ x ∈ l, f x = g x) : l.map f = l.map g := List.map_congr_left h
theorem stg_kv {s : Stg} (h : StOk s) : (∀ u ∈ s.words, WV u) ∧ StW s (s.words.map kv) := by
  obtain ⟨l1, l2, l3, l4, l5, l6, l7, l8, l9⟩ := let_all
  cases s with
  | sift c b =>
    obtain ⟨e1, w1⟩ := wv_word (z := "sift") (l7 _ (by simp))
    obtain ⟨e2, w2⟩ := wv_sign (l8 _ h.1)
    obtain ⟨e3, w3⟩ := wv_num (i := b) ⟨h.2.1, by have := h.2.2; omega⟩
    refine ⟨fun u hu => ?_, ?_⟩
    · simp only [Stg.words, List.mem_cons, List.not_mem_nil, or_false] at hu
      rcases hu with rfl | rfl | rfl <;> assumption
    · show StW _ [kv (.str "sift"), kv (.str c), kv (.int b)]
      rw [e1, e2, e3]
      exact .sift
  | only ks =>
    obtain ⟨e1, w1⟩ := wv_word (z := "only") (l7 _ (by simp))
    have hk : ∀ z ∈ ks, letS z = true ∧ NameS z := fun z hz => l2 z (h.2.subset hz)
    refine ⟨fun u hu => ?_, ?_⟩
    · rcases List.mem_cons.mp hu with rfl | hu
      · exact w1
      · obtain ⟨z, hz, rfl⟩ := List.mem_map.mp hu
        exact (wv_word (hk z hz).1).2
    · show StW _ (kv (.str "only") :: (ks.map V.str).map kv)
      rw [e1, List.map_map, map_congr' (f := kv ∘ V.str) (g := wd) fun z hz => (wv_word (hk z hz).1).1]
      refine .only h.1 (fun z hz => (hk z hz).2) (fun z => Iff.rfl) ?_
      have := h.2.length_le
      have e : keyS.length = 4 := rfl
      omega
  | rekey k =>
    obtain ⟨e1, w1⟩ := wv_word (z := "rekey") (l7 _ (by simp))
    obtain ⟨e2, w2⟩ := wv_word (l3 k h).1
    refine ⟨fun u hu => ?_, ?_⟩
    · simp only [Stg.words, List.mem_cons, List.not_mem_nil, or_false] at hu
      rcases hu with rfl | rfl <;> assumption
    · show StW _ [kv (.str "rekey"), kv (.str k)]
      rw [e1, e2]
      exact .rekey (l3 k h).2
  | scale f =>
    obtain ⟨e1, w1⟩ := wv_word (z := "scale") (l7 _ (by simp))
    obtain ⟨e2, w2⟩ := wv_num (i := f) ⟨by have := h.1; omega, by have := h.2; omega⟩
    refine ⟨fun u hu => ?_, ?_⟩
    · simp only [Stg.words, List.mem_cons, List.not_mem_nil, or_false] at hu
      rcases hu with rfl | rfl <;> assumption
    · show StW _ [kv (.str "scale"), kv (.int f)]
      rw [e1, e2]
      exact .scale
  | later f =>
    obtain ⟨e1, w1⟩ := wv_word (z := "later") (l7 _ (by simp))
    obtain ⟨e2, w2⟩ := wv_num (i := f) ⟨by have := h.1; omega, by have := h.2; omega⟩
    refine ⟨fun u hu => ?_, ?_⟩
    · simp only [Stg.words, List.mem_cons, List.not_mem_nil, or_false] at hu
      rcases hu with rfl | rfl <;> assumption
    · show StW _ [kv (.str "later"), kv (.int f)]
      rw [e1, e2]
      exact .later
def barI : Itm := itV [32] (.str "|")
def opI : Itm := itV [] (.str "(")
def clI : Itm := itV [] (.str ")")
def coI : Itm := itV [] (.str ",")
def canI : List Nat → Pl → List Itm
  | g, .src n => [itV g (.str n)]
  | g, .stage s p => canI g p ++ (barI :: wsI [32] s.words)
  | g, .once p => canI g p ++ (barI :: wsI [32] [.str "once"])
  | g, .windows a b c p => canI g p ++ (barI :: wsI [32] [.str "windows", .int a, .int b, .str c])
  | g, .sittings a c p => canI g p ++ (barI :: wsI [32] [.str "sittings", .int a, .str c])
  | g, .two w l r => wsI g [.str w] ++ (opI :: (canI [] l ++ (coI :: (canI [32] r ++ [clI]))))
  | g, .near a b c l r => wsI g [.str "near", .int a, .int b, .str c] ++ (opI :: (canI [] l ++ (coI :: (canI [32] r ++ [clI]))))
theorem sign_tl : tl (wtxt (.str ("(" : Str))) = [40] ∧ tl (wtxt (.str (")" : Str))) = [41] ∧ tl (wtxt (.str ("," : Str))) = [44] ∧ tl (wtxt (.str ("|" : Str))) = [124] := by
  unfold wtxt
  decide +kernel
theorem render_one {us : List V} {l : List Itm} (h : us ≠ []) : render (l ++ (barI :: wsI [32] us)) = render l ++ (barL ++ tl (spacedT us)) := by
  rw [render_app]
  show render l ++ ([32] ++ (tl (wtxt (.str ("|" : Str))) ++ render (wsI [32] us))) = _
  rw [sign_tl.2.2.2, render_ws us [32] h]
  rfl
theorem render_two {us : List V} {l r : List Itm} {g a b : List Nat} (h : us ≠ []) (hl : render l = a) (hr : render r = 32 :: b) : render (wsI g us ++ (opI :: (l ++ (coI :: (r ++ [clI]))))) = g ++ (tl (spacedT us) ++ (40 :: (a ++ (44 :: 32 :: (b ++ [41]))))) := by
  rw [render_app, render_ws us g h]
  show _ ++ ([] ++ (tl (wtxt (.str ("(" : Str))) ++ render (l ++ (coI :: (r ++ [clI]))))) = _
  rw [sign_tl.1, render_app, hl]
  show _ ++ ([] ++ ([40] ++ (a ++ ([] ++ (tl (wtxt (.str ("," : Str))) ++ render (r ++ [clI])))))) = _
  rw [sign_tl.2.2.1, render_app, hr]
  show _ ++ ([] ++ ([40] ++ (a ++ ([] ++ ([44] ++ ((32 :: b) ++ ([] ++ (tl (wtxt (.str (")" : Str))) ++ []))))))) ) = _
  rw [sign_tl.2.1]
  simp only [List.append_assoc, List.nil_append, List.cons_append, List.append_nil]
theorem render_can : ∀ (p : Pl) (g : List Nat), render (canI g p) = g ++ canonL p
  | .src n, g => by show g ++ (tl n ++ []) = _; rw [List.append_nil]; rfl
  | .stage s p, g => by
    have hne : s.words ≠ [] := by cases s <;> exact List.cons_ne_nil _ _
    show render (canI g p ++ (barI :: wsI [32] s.words)) = g ++ (canonL p ++ (barL ++ tl (spacedT s.words)))
    rw [render_one hne, render_can p g, List.append_assoc]
  | .once p, g => by
    show render (canI g p ++ (barI :: wsI [32] [.str "once"])) = g ++ (canonL p ++ _)
    rw [render_one (List.cons_ne_nil _ _), render_can p g, List.append_assoc]
  | .windows a b c p, g => by
    show render (canI g p ++ (barI :: wsI [32] [.str "windows", .int a, .int b, .str c])) = g ++ (canonL p ++ _)
    rw [render_one (List.cons_ne_nil _ _), render_can p g, List.append_assoc]
  | .sittings a c p, g => by
    show render (canI g p ++ (barI :: wsI [32] [.str "sittings", .int a, .str c])) = g ++ (canonL p ++ _)
    rw [render_one (List.cons_ne_nil _ _), render_can p g, List.append_assoc]
  | .two w l r, g => render_two (List.cons_ne_nil _ _) (render_can l []) (render_can r [32])
  | .near a b c l r, g => render_two (List.cons_ne_nil _ _) (render_can l []) (render_can r [32])
/-! ### the items stand apart -/
theorem bl32 : ∀ c ∈ ([32] : List Nat), Bl c := fun c h => by rw [List.mem_singleton.mp h]; exact .inl rfl
theorem blNil : ∀ c ∈ ([] : List Nat), Bl c := fun c h => absurd h List.not_mem_nil
def Safe (p : List Nat) : Prop := ∀ w, Apart p w
theorem safe_nil : Safe [] := fun w a b h => by cases h
theorem safe_par : Safe [40] := fun w a b h _ => by
  have e : (40 : Nat) = a := Option.some.inj h
  subst e
  exact ⟨fun z => absurd z.1 (by decide), fun z => absurd z.1 (by decide), fun z => by rcases z with z | z <;> cases z⟩
theorem apart_sign {p : List Nat} {c : Nat} (h : c = 40 ∨ c = 41 ∨ c = 44) : Apart p [c] := fun a b _ hb => by
  have e : c = b := Option.some.inj hb
  subst e
  refine ⟨fun z => ?_, fun z => ?_, fun _ => by omega⟩
  · have := z.2; unfold Lt at this; omega
  · have := z.2; unfold Dg at this; omega
theorem itm_ok {g p : List Nat} {v : V} (hg : ∀ c ∈ g, Bl c) (hv : WV v) (h : g = [] → Apart p (tl (wtxt v))) : ItmOk p (itV g v) := ⟨hg, hv.1, hv.2, h⟩
theorem ne32 {p w : List Nat} : ([32] : List Nat) = [] → Apart p w := fun h => by cases h
theorem ws_chain : ∀ {us : List V} {g p : List Nat}, (∀ c ∈ g, Bl c) → (g = [] → Safe p) → (∀ u ∈ us, WV u) → Chain p (wsI g us)
  | [], _, _, _, _, _ => trivial
  | u :: us, g, p, hg, hs, hw => ⟨itm_ok hg (hw u (List.mem_cons_self ..)) fun e => hs e _, ws_chain bl32 (fun e => by cases e) fun x hx => hw x (List.mem_cons_of_mem _ hx)⟩
theorem sign_wv : WV (.str ("(" : Str)) ∧ WV (.str (")" : Str)) ∧ WV (.str ("," : Str)) ∧ WV (.str ("|" : Str)) := by
  obtain ⟨_, _, _, _, _, _, _, _, l9⟩ := let_all
  exact ⟨(wv_sign (l9 _ (by simp))).2, (wv_sign (l9 _ (by simp))).2, (wv_sign (l9 _ (by simp))).2, (wv_sign (l9 _ (by simp))).2⟩
theorem op_ok (p : List Nat) : ItmOk p opI := itm_ok blNil sign_wv.1 fun _ => by rw [sign_tl.1]; exact apart_sign (.inl rfl)
theorem cl_ok (p : List Nat) : ItmOk p clI := itm_ok blNil sign_wv.2.1 fun _ => by rw [sign_tl.2.1]; exact apart_sign (.inr (.inl rfl))
theorem co_ok (p : List Nat) : ItmOk p coI := itm_ok blNil sign_wv.2.2.1 fun _ => by rw [sign_tl.2.2.1]; exact apart_sign (.inr (.inr rfl))
theorem bar_ok (p : List Nat) : ItmOk p barI := itm_ok bl32 sign_wv.2.2.2 ne32
theorem pair_chain {us : List V} {l r : List Itm} {g p : List Nat} (hg : ∀ c ∈ g, Bl c) (hs : g = [] → Safe p) (hw : ∀ u ∈ us, WV u) (hl : Chain [40] l) (hr : ∀ q, Chain q r) : Chain p (wsI g us ++ (opI :: (l ++ (coI :: (r ++ [clI]))))) := by
  refine chain_app (ws_chain hg hs hw) ⟨op_ok _, ?_⟩
  rw [show opI.w = [40] from sign_tl.1]
  exact chain_app hl ⟨co_ok _, chain_app (hr _) ⟨cl_ok _, trivial⟩⟩
theorem two_wv {w : Str} (h : w ∈ twoS) : kv (.str w) = wd w ∧ WV (.str w) := wv_word (let_all.2.2.2.2.2.1 w h)
theorem can_chain : ∀ {p : Pl} {g q : List Nat}, PlOk srcS p → (∀ c ∈ g, Bl c) → (g = [] → Safe q) → Chain q (canI g p) := by
  obtain ⟨l1, l2, l3, l4, l5, l6, l7, l8, l9⟩ := let_all
  intro p
  induction p with
  | src n => intro g q hok hg hs; exact ⟨itm_ok hg (wv_word (l1 n hok).1).2 fun e => hs e _, trivial⟩
  | stage s p ih => intro g q hok hg hs; exact chain_app (ih hok.2 hg hs) ⟨bar_ok _, ws_chain bl32 (fun e => by cases e) (stg_kv hok.1).1⟩
  | once p ih =>
    intro g q hok hg hs
    refine chain_app (ih hok hg hs) ⟨bar_ok _, ws_chain bl32 (fun e => by cases e) fun u hu => ?_⟩
    rw [List.mem_singleton.mp hu]
    exact (wv_word (l7 _ (by simp))).2
  | windows a b c p ih =>
    intro g q hok hg hs
    obtain ⟨⟨b1, b2, a1, a2, hc⟩, hok⟩ := hok
    refine chain_app (ih hok hg hs) ⟨bar_ok _, ws_chain bl32 (fun e => by cases e) fun u hu => ?_⟩
    simp only [List.mem_cons, List.not_mem_nil, or_false] at hu
    rcases hu with rfl | rfl | rfl | rfl
    · exact (wv_word (l7 _ (by simp))).2
    · exact (wv_num ⟨by omega, by omega⟩).2
    · exact (wv_num ⟨by omega, by omega⟩).2
    · exact (wv_word (l4 _ hc)).2
  | sittings a c p ih =>
    intro g q hok hg hs
    obtain ⟨⟨a1, a2, hc⟩, hok⟩ := hok
    refine chain_app (ih hok hg hs) ⟨bar_ok _, ws_chain bl32 (fun e => by cases e) fun u hu => ?_⟩
    simp only [List.mem_cons, List.not_mem_nil, or_false] at hu
    rcases hu with rfl | rfl | rfl
    · exact (wv_word (l7 _ (by simp))).2
    · exact (wv_num ⟨by omega, by omega⟩).2
    · exact (wv_word (l4 _ hc)).2
  | two w l r il ir =>
    intro g q hok hg hs
    refine pair_chain hg hs (fun u hu => ?_) (il hok.2.1 blNil fun _ => safe_par) fun q => ir hok.2.2 bl32 fun e => by cases e
    rw [List.mem_singleton.mp hu]
    exact (two_wv hok.1).2
  | near a b c l r il ir =>
    intro g q hok hg hs
    obtain ⟨⟨a1, a2, b1, b2, hc⟩, k1, k2⟩ := hok
    refine pair_chain hg hs (fun u hu => ?_) (il k1 blNil fun _ => safe_par) fun q => ir k2 bl32 fun e => by cases e
    simp only [List.mem_cons, List.not_mem_nil, or_false] at hu
    rcases hu with rfl | rfl | rfl | rfl
    · exact (wv_word (l7 _ (by simp))).2
    · exact (wv_num ⟨by omega, by omega⟩).2
    · exact (wv_num ⟨by omega, by omega⟩).2
    · exact (wv_word (l5 _ hc)).2
theorem ws_kv : ∀ (us : List V) (g : List Nat), (wsI g us).map kvI = us.map fun u => ((kv u).1, u)
  | [], _ => rfl
  | u :: us, g => by show kvI (itV g u) :: (wsI [32] us).map kvI = _; rw [ws_kv us [32]]; rfl
theorem kv_snd {u : V} (h : WV u) : ((kv u).1, u) = kv u := by
  rcases h with ⟨h1, h2⟩
  cases u with
  | str z =>
    by_cases g : z ∈ sgS
    · rw [show kv (.str z) = sg z from if_pos g] <;> rfl
    · rw [show kv (.str z) = wd z from if_neg g] <;> rfl
  | int i => rfl
  | _ => rcases h2 with ⟨_, _, _, _, e⟩ | ⟨_, e⟩ <;> cases e
theorem ws_kv' {us : List V} {g : List Nat} (h : ∀ u ∈ us, WV u) : (wsI g us).map kvI = us.map kv := by
  rw [ws_kv]
  exact List.map_congr_left fun u hu => kv_snd (h u hu)
theorem sign_kv : kvI opI = sg "(" ∧ kvI clI = sg ")" ∧ kvI coI = sg "," ∧ kvI barI = sg "|" := by
  obtain ⟨_, _, _, _, _, _, _, _, l9⟩ := let_all
  have e : ∀ {z : Str} {g : List Nat}, z ∈ sgS → kvI (itV g (.str z)) = sg z := fun {z g} h => by
    show ((kv (.str z)).1, V.str z) = sg z
    rw [(wv_sign h).1]; rfl
  exact ⟨e (l9 _ (by simp)), e (l9 _ (by simp)), e (l9 _ (by simp)), e (l9 _ (by simp))⟩
theorem can_wp : ∀ {p : Pl} {g : List Nat}, PlOk srcS p → Wp p ((canI g p).map kvI) := by
  obtain ⟨l1, l2, l3, l4, l5, l6, l7, l8, l9⟩ := let_all
  obtain ⟨s1, s2, s3, s4⟩ := sign_kv
  have one : ∀ {z : Str} {g : List Nat}, letS z = true → kvI (itV g (.str z)) = wd z := fun {z g} h => by
    show ((kv (.str z)).1, V.str z) = wd z
    rw [(wv_word h).1]; rfl
  have num : ∀ {i : Int} {g : List Nat}, kvI (itV g (.int i)) = nm i := rfl
  intro p
  induction p with
  | src n =>
    intro g hok
    show Wp _ [kvI (itV g (.str n))]
    rw [one (l1 n hok).1]
    exact .src (l1 n hok).2
  | stage s p ih =>
    intro g hok
    obtain ⟨k1, k2⟩ := stg_kv hok.1
    show Wp _ ((canI g p ++ (barI :: wsI [32] s.words)).map kvI)
    rw [List.map_append, List.map_cons, s4, ws_kv' k1]
    exact .stage (ih hok.2) k2
  | once p ih =>
    intro g hok
    show Wp _ ((canI g p ++ [barI, itV [32] (.str "once")]).map kvI)
    rw [List.map_append]
    show Wp _ (_ ++ [kvI barI, kvI (itV [32] (.str "once"))])
    rw [s4, one (l7 _ (by simp))]
    exact .once (ih hok)
  | windows a b c p ih =>
    intro g hok
    show Wp _ ((canI g p ++ [barI, itV [32] (.str "windows"), itV [32] (.int a), itV [32] (.int b), itV [32] (.str c)]).map kvI)
    rw [List.map_append]
    show Wp _ (_ ++ [kvI barI, kvI (itV [32] (.str "windows")), kvI (itV [32] (.int a)), kvI (itV [32] (.int b)), kvI (itV [32] (.str c))])
    rw [s4, one (l7 _ (by simp)), one (l4 _ hok.1.2.2.2.2), num, num]
    exact .windows (ih hok.2)
  | sittings a c p ih =>
    intro g hok
    show Wp _ ((canI g p ++ [barI, itV [32] (.str "sittings"), itV [32] (.int a), itV [32] (.str c)]).map kvI)
    rw [List.map_append]
    show Wp _ (_ ++ [kvI barI, kvI (itV [32] (.str "sittings")), kvI (itV [32] (.int a)), kvI (itV [32] (.str c))])
    rw [s4, one (l7 _ (by simp)), one (l4 _ hok.1.2.2), num]
    exact .sittings (ih hok.2)
  | two w l r il ir =>
    intro g hok
    have := Wp.two (w := w) (il (g := []) hok.2.1) (ir (g := [32]) hok.2.2)
    show Wp _ (kvI (itV g (.str w)) :: kvI opI :: (canI [] l ++ (coI :: (canI [32] r ++ [clI]))).map kvI)
    rw [one (l6 _ hok.1), s1, List.map_append, List.map_cons, s3, List.map_append, List.map_singleton, s2]
    exact this
  | near a b c l r il ir =>
    intro g hok
    have := Wp.near (a := a) (b := b) (c := c) (il (g := []) hok.2.1) (ir (g := [32]) hok.2.2)
    show Wp _ (kvI (itV g (.str "near")) :: kvI (itV [32] (.int a)) :: kvI (itV [32] (.int b)) :: kvI (itV [32] (.str c)) :: kvI opI :: (canI [] l ++ (coI :: (canI [32] r ++ [clI]))).map kvI)
    rw [one (l7 _ (by simp)), one (l5 _ hok.1.2.2.2.2), num, num, s1, List.map_append, List.map_cons, s3, List.map_append, List.map_singleton, s2]
    exact this
/-- the canonical text of a plan, read -/
theorem canon_read {p : Pl} {z : Str} (hok : PlOk srcS p) (hz : tl z = canonL p) : ∃ due M, Lex 0 (tl z) due ∧ NumsOk M ∧ M.length ≤ 3 * p.size ∧ Rd p M (endTk z.length) none (due ++ [endTk z.length]) [] [] := by
  have h1 := lex_of (p := 0) (can_chain (p := p) (g := []) (q := []) hok blNil fun _ => safe_nil) blNil
  rw [List.append_nil, render_can, List.nil_append, ← hz] at h1
  obtain ⟨M, k1, k2, k3⟩ := rd_whole (can_wp (g := []) hok) hok (places_mt (canI [] p) 0) z.length
  exact ⟨_, M, h1, k1, k2, k3⟩
end Tf
set_option maxHeartbeats 4000000
namespace Tf
open PySem PySem.Spec PyProof.Rows L2 TL
/-! ### tokens written as texts -/
def KvS (k : Kv) (z : Str) : Prop := Wf (tl z) k.1 ∧ TokVal k.1 (tl z) k.2 ∧ z.length ≤ 30
def KvL : List Kv → List Str → Prop
  | [], [] => True
  | k :: ks, z :: zs => KvS k z ∧ KvL ks zs
  | _, _ => False
theorem KvL.len : ∀ {ks : List Kv} {zs : List Str}, KvL ks zs → ks.length = zs.length
  | [], [], _ => rfl
  | k :: ks, z :: zs, ⟨_, h⟩ => by rw [List.length_cons, List.length_cons, h.len]
theorem KvL.app : ∀ {a b : List Kv} {x y : List Str}, KvL a x → KvL b y → KvL (a ++ b) (x ++ y)
  | [], b, [], y, _, h => h
  | k :: a, b, z :: x, y, ⟨h, r⟩, g => ⟨h, r.app g⟩
theorem KvL.get : ∀ {ks : List Kv} {zs : List Str} {i : Nat} {z : Str}, KvL ks zs → zs[i]? = some z → ∃ k, ks[i]? = some k ∧ KvS k z
  | [], [], _, _, _, e => by simp at e
  | k :: ks, x :: zs, 0, z, ⟨h, _⟩, e => ⟨k, rfl, by rw [← Option.some.inj e]; exact h⟩
  | k :: ks, x :: zs, i + 1, z, ⟨_, r⟩, e => r.get (i := i) e
theorem kvS_word {z : Str} (h : letS z = true) (hl : z.length ≤ 30) : KvS (wd z) z := by
  obtain ⟨e, h1, h2⟩ := wv_word h
  rw [e] at h1 h2
  exact ⟨h1, h2, hl⟩
theorem kvS_sign {z : Str} (h : z ∈ sgS) : KvS (sg z) z := by
  obtain ⟨e, h1, h2⟩ := wv_sign h
  rw [e] at h1 h2
  have f : ∀ z ∈ sgS, z.length ≤ 30 := by decide +kernel
  exact ⟨h1, h2, f z h⟩
/-! ### < and > stand ahead of numbers only -/
def isLt (k : Kv) : Prop := k = sg "<" ∨ k = sg ">"
def LtOk : List Kv → Prop
  | [] => True
  | [k] => ¬ isLt k
  | k :: k2 :: r => (isLt k → k2.1 = ("number" : Str)) ∧ LtOk (k2 :: r)
theorem LtOk.app : ∀ {a b : List Kv}, LtOk a → LtOk b → LtOk (a ++ b)
  | [], _, _, h => h
  | [k], [], h, _ => h
  | [k], k2 :: r, h, g => ⟨fun z => absurd z h, g⟩
  | k :: k2 :: r, b, ⟨h1, h2⟩, g => ⟨h1, LtOk.app (a := k2 :: r) h2 g⟩
theorem not_lt_word (z : Str) : ¬ isLt (wd z) := fun h => by
  have e : ("word" : Str) ≠ "sign" := by decide +kernel
  rcases h with h | h <;> exact e (congrArg Prod.fst h)
theorem not_lt_num (i : Int) : ¬ isLt (nm i) := fun h => by
  have e : ("number" : Str) ≠ "sign" := by decide +kernel
  rcases h with h | h <;> exact e (congrArg Prod.fst h)
theorem not_lt_sign {z : Str} (h : z ∈ (["(", ")", ",", "|"] : List Str)) : ¬ isLt (sg z) := fun g => by
  have e : ∀ z ∈ (["(", ")", ",", "|"] : List Str), z ≠ "<" ∧ z ≠ ">" := by decide +kernel
  rcases g with g | g
  · exact (e z h).1 (V.str.inj (congrArg Prod.snd g))
  · exact (e z h).2 (V.str.inj (congrArg Prod.snd g))
theorem LtOk.all : ∀ {l : List Kv}, (∀ k ∈ l, ¬ isLt k) → LtOk l
  | [], _ => trivial
  | [k], h => h k (List.mem_cons_self ..)
  | k :: k2 :: r, h => ⟨fun z => absurd z (h k (List.mem_cons_self ..)), LtOk.all (l := k2 :: r) fun x hx => h x (List.mem_cons_of_mem _ hx)⟩
theorem stw_lt {s : Stg} {ss : List Kv} (h : StW s ss) : LtOk ss := by
  cases h with
  | sift => exact ⟨fun z => absurd z (not_lt_word _), fun _ => rfl, not_lt_num _⟩
  | only h0 hn hm hl =>
    refine LtOk.all fun k hk => ?_
    rcases List.mem_cons.mp hk with e | hk
    · rw [e]; exact not_lt_word _
    · obtain ⟨z, _, rfl⟩ := List.mem_map.mp hk
      exact not_lt_word _
  | rekey h => exact ⟨fun z => absurd z (not_lt_word _), not_lt_word _⟩
  | scale => exact ⟨fun z => absurd z (not_lt_word _), not_lt_num _⟩
  | later => exact ⟨fun z => absurd z (not_lt_word _), not_lt_num _⟩
theorem wp_lt {p : Pl} {ws : List Kv} (h : Wp p ws) : LtOk ws := by
  have e1 : ¬ isLt (sg "(") := not_lt_sign (by simp)
  have e2 : ¬ isLt (sg ")") := not_lt_sign (by simp)
  have e3 : ¬ isLt (sg ",") := not_lt_sign (by simp)
  have e4 : ¬ isLt (sg "|") := not_lt_sign (by simp)
  have o1 : ∀ {k : Kv} {l : List Kv}, ¬ isLt k → LtOk l → LtOk (k :: l) := fun {k l} h g => LtOk.app (a := [k]) h g
  induction h with
  | src h => exact not_lt_word _
  | par h ih => exact o1 e1 (ih.app (b := [_]) e2)
  | stage h hs ih => exact ih.app (o1 e4 (stw_lt hs))
  | once h ih => exact ih.app (o1 e4 (l := [_]) (not_lt_word _))
  | windows h ih => exact ih.app (o1 e4 (o1 (not_lt_word _) (o1 (not_lt_num _) (o1 (not_lt_num _) (l := [_]) (not_lt_word _)))))
  | sittings h ih => exact ih.app (o1 e4 (o1 (not_lt_word _) (o1 (not_lt_num _) (l := [_]) (not_lt_word _))))
  | two h1 h2 i1 i2 => exact o1 (not_lt_word _) (o1 e1 (i1.app (o1 e3 (i2.app (b := [_]) e2))))
  | near h1 h2 i1 i2 => exact o1 (not_lt_word _) (o1 (not_lt_num _) (o1 (not_lt_num _) (o1 (not_lt_word _) (o1 e1 (i1.app (o1 e3 (i2.app (b := [_]) e2)))))))
theorem LtOk.at : ∀ {l : List Kv} {i : Nat} {k k2 : Kv}, LtOk l → l[i]? = some k → l[i + 1]? = some k2 → isLt k → k2.1 = ("number" : Str)
  | [], _, _, _, _, e, _, _ => by simp at e
  | [k], 0, _, _, _, _, e, _ => by simp at e
  | [k], i + 1, _, _, _, e, _, _ => by simp at e
  | a :: b :: r, 0, k, k2, ⟨h, _⟩, e, e2, z => by
    have x := Option.some.inj e
    have y := Option.some.inj e2
    rw [← y]
    exact h (by rw [x]; exact z)
  | a :: b :: r, i + 1, k, k2, ⟨_, h⟩, e, e2, z => h.at (i := i) e e2 z
theorem num_head {w : List Nat} (h : Wf w "number") : w.head? ≠ some 61 := fun e => by
  have n1 : ("number" : Str) ≠ "word" := by decide +kernel
  have n2 : ("number" : Str) ≠ "sign" := by decide +kernel
  generalize hk : ("number" : Str) = kind at h
  cases h with
  | word _ _ => exact absurd hk n1
  | sign _ => exact absurd hk n2
  | num h hd hw =>
    rcases hw with z | z
    · rw [z] at e
      exact absurd (hd 61 (List.mem_of_head? e)) (by decide)
    · rw [z] at e
      exact absurd (Option.some.inj e) (by decide)
/-- a token of a chain, told apart from the one ahead -/
theorem apart_of {a b : Kv} {x y : Str} (hx : KvS a x) (hy : KvS b y) (hg : NoGlue (tl x) (tl y)) (hl : isLt a → b.1 = ("number" : Str)) : Apart (tl x) (tl y) := fun c d hc hd => by
  refine ⟨(hg c d hc hd).1, (hg c d hc hd).2, fun h e => ?_⟩
  have hs : isLt a := by
    obtain ⟨h1, h2, _⟩ := hx
    have hk : a.1 = ("sign" : Str) := by
      generalize tl x = w at h h1
      generalize a.1 = kind at h1 ⊢
      cases h1 with
      | word hn hw => rcases h with h | h <;> exact absurd (hw _ (by rw [h]; exact List.mem_singleton.mpr rfl)) (by decide)
      | num hn hd hw =>
        rename_i ds
        exfalso
        cases ds with
        | nil => exact hn rfl
        | cons f r =>
          have hf := hd f (List.mem_cons_self ..)
          unfold Dg at hf
          rcases hw with hw | hw <;> rcases h with h | h <;> rw [hw] at h <;> cases h <;> first | omega | skip
      | sign hm => rfl
    have hv : a.2 = V.str x := by
      rcases h2 with ⟨q, _⟩ | ⟨_, q⟩
      · rw [hk] at q
        exact absurd q (by decide +kernel)
      · rw [q]
    have t1 : tl ("<" : Str) = [60] := by decide +kernel
    have t2 : tl (">" : Str) = [62] := by decide +kernel
    rcases h with h | h
    · exact .inl (Prod.ext hk (hv.trans (congrArg V.str (ext_tl (h.trans t1.symm)))))
    · exact .inr (Prod.ext hk (hv.trans (congrArg V.str (ext_tl (h.trans t2.symm)))))
  have hb := hl hs
  have hw := hy.1
  rw [hb] at hw
  rw [e] at hd
  exact num_head hw hd
theorem Dr.ne_strs {sc : Addr} {H : Hp} {d l : Addr} {zs : List Str} (h : Dr sc H d) (hl : H l = some (.lst (zs.map V.str))) : l ≠ d := fun e => by
  obtain ⟨ns, i, big, st, h1, _⟩ := h
  rw [e, h1] at hl
  have z := HO.lst.inj (Option.some.inj hl)
  cases zs with
  | nil => cases z
  | cons x r => cases (List.cons.inj z).1
/-! ### promises of k03's helpers -/
def srcS3 : List Str := ["a", "b", "c", "rows", "letter", "material"]
def TxV (u : V) (z : Str) : Prop := KvS (kv u) z
def spDigits : Sp := fun vs H Q _ => ∃ (d sc : Addr) (i : Int), vs = [.ref d, .int i] ∧ NumB i ∧ Dr sc H d ∧ ∀ z H', KvS (nm i) z → Dr sc H' d → Up d H H' → Q (.str z) H'
def spWords (K : PySem.W.Frag) : Sp := fun vs H Q _ => ∃ (d sc a : Addr) (us : List V), vs = [.ref d, .ref a] ∧ H a = some (.tup us) ∧ (∀ u ∈ us, WOk u ∧ WV u) ∧ us.length ≤ 8 ∧ Dr sc H d ∧
  ∀ l (zs : List Str) H', H l = none → H' l = some (.lst (zs.map V.str)) → KvL (us.map kv) zs → Dr sc H' d → Up d H H' → Q (.ref l) H'
def spNamesL : Sp := fun vs H Q _ => ∃ (d sc a : Addr) (ks : List Str), vs = [.ref d, .ref a] ∧ H a = some (.tup (ks.map V.str)) ∧ ks ≠ [] ∧ ks.length ≤ 4 ∧ Dr sc H d ∧
  ∀ l (zs : List Str) H', H l = none → H' l = some (.lst (zs.map V.str)) → (∀ z, z ∈ zs ↔ z ∈ ks) → zs.length ≤ 6 → Dr sc H' d → Up d H H' → Q (.ref l) H'
def spBare (ns : List Str) (n : Nat) : Sp := fun vs H Q _ => ∃ (d sc : Addr) (v : V) (p : Pl), vs = [.ref d, v] ∧ PlAt H p v ∧ PlOk ns p ∧ p.size ≤ n ∧ p.size ≤ 20 ∧ Dr sc H d ∧
  ∀ l (zs : List Str) kvs H', H l = none → H' l = some (.lst (zs.map V.str)) → KvL kvs zs → Wp p kvs → zs.length + 2 ≤ 14 * p.size → Dr sc H' d → Up d H H' → Q (.ref l) H'
def spToks (ns : List Str) (n : Nat) : Sp := fun vs H Q _ => ∃ (d sc : Addr) (v : V) (p : Pl), vs = [.ref d, v] ∧ PlAt H p v ∧ PlOk ns p ∧ p.size ≤ n ∧ p.size ≤ 20 ∧ Dr sc H d ∧
  ∀ l (zs : List Str) kvs H', H l = none → H' l = some (.lst (zs.map V.str)) → KvL kvs zs → Wp p kvs → zs.length ≤ 14 * p.size → Dr sc H' d → Up d H H' → Q (.ref l) H'
def spText : Sp := fun vs H Q _ => ∃ (d sc l : Addr) (zs : List Str) (ks : List Kv), vs = [.ref d, .ref l] ∧ H l = some (.lst (zs.map V.str)) ∧ KvL ks zs ∧ LtOk ks ∧ zs.length ≤ 300 ∧ Dr sc H d ∧
  ∀ z due H', Lex 0 (tl z) due → Mt due ks → z.length ≤ 20000 → Dr sc H' d → Up d H H' → Q (.str z) H'
theorem let_all3 : (∀ z ∈ srcS3, letS z = true ∧ NameS z ∧ z.length ≤ 30) ∧ (∀ z ∈ keyS, z.length ≤ 30) ∧ (∀ z ∈ (["both", "less", "without", "near", "only"] : List Str), z.length ≤ 30 ∧ letS z = true) := by
  unfold NameS gramS partsOf
  decide +kernel
end Tf
set_option maxHeartbeats 8000000
namespace Tf
open PySem PySem.Spec PyProof.Rows L2 TL
abbrev s_stage : Stmt := (topS 39)
abbrev n_stage : List Str := ["draw", "form", "comparison", "names", "name"]
theorem sc_stage : FnScope n_stage ["draw"] (defScope s_stage) := ⟨rfl, rfl, rfl, by decide +kernel, rfl, by decide +kernel, by decide +kernel⟩
abbrev s_aggregate : Stmt := (topS 41)
abbrev n_aggregate : List Str := ["draw"]
theorem sc_aggregate : FnScope n_aggregate ["draw"] (defScope s_aggregate) := ⟨rfl, rfl, rfl, by decide +kernel, rfl, by decide +kernel, by decide +kernel⟩
abbrev s_span : Stmt := (topS 42)
abbrev n_span : List Str := ["draw", "slide"]
theorem sc_span : FnScope n_span ["draw"] (defScope s_span) := ⟨rfl, rfl, rfl, by decide +kernel, rfl, by decide +kernel, by decide +kernel⟩
abbrev s_tree : Stmt := (topS 43)
abbrev n_tree : List Str := ["draw", "size", "form", "half", "left", "right", "combination", "size_of", "slide"]
theorem sc_tree : FnScope n_tree ["draw", "size"] (defScope s_tree) := ⟨rfl, rfl, rfl, by decide +kernel, rfl, by decide +kernel, by decide +kernel⟩
section
variable {P : Program} {w : World} {K : PySem.W.Frag} {mg : Str → Option Value} {base : Heap}
theorem ok_aggregate {f fn : Addr} {fd fnd : FuncData} (D : DefAt K mg "_law_aggregate" s_aggregate ["draw"] f fd) (D_next : DefAt K mg "_law_next" s_next ["draw", "many"] fn fnd) (G_next : FnOk P w K mg base CX0 1 fn fnd ["draw", "many"] spNext) :
    FnOk P w K mg base CX0 2 f fd ["draw"] spAgg := by
  refine D.F.ok sc_aggregate (fun vs H Q E h => ?_) (fun cdv A outer s H vs Q E hr h => ?_)
  · obtain ⟨d, sc, rfl, _⟩ := h
    rfl
  obtain ⟨d, sc, rfl, hD, q⟩ := h
  refine ⟨_, (pss_one (ps_ret (pe_ix ix_list (pe_lst (pa_cons pe_str (pa_cons pe_str (pa_cons pe_str (pa_cons pe_str pa_nil))))) (pe_call G_next (hr.mono (by omega)) (by rfl) D_next.m D_next.F.kp D_next.b .nil pass0 (pa_cons (pv 0) (pa_cons pe_int pa_nil))) (fun _ _ => rfl)))), ?_⟩
  refine ⟨(by show 4 ≤ sizeLine; decide), fun l nl => ?_⟩
  refine ⟨_, rfl, d, sc, 4, rfl, by decide, by decide, hD.new nl, fun i H1 i0 i1 hD1 hU1 => ?_⟩
  obtain ⟨g, hg, e⟩ := pickS (xs := aggS) i0 (by exact i1)
  refine ⟨l, _, i, _, rfl, rfl, .of (hU1 _ _ (hD.ne nl) upd_same), e, ?_⟩
  exact q g H1 hg hD1 ((Up.new nl).trans hU1)
theorem ok_span {f fn : Addr} {fd fnd : FuncData} (D : DefAt K mg "_law_span" s_span ["draw"] f fd) (D_next : DefAt K mg "_law_next" s_next ["draw", "many"] fn fnd) (G_next : FnOk P w K mg base CX0 1 fn fnd ["draw", "many"] spNext) :
    FnOk P w K mg base CX0 2 f fd ["draw"] spSpan := by
  refine D.F.ok sc_span (fun vs H Q E h => ?_) (fun cdv A outer s H vs Q E hr h => ?_)
  · obtain ⟨d, sc, rfl, _⟩ := h
    rfl
  obtain ⟨d, sc, rfl, hD, q⟩ := h
  refine ⟨_, (pss_cons (ps_set (i := 1) sc_span.nd rfl (by first | exact Or.inl rfl | exact Or.inr rfl) (pe_op op_add pe_int (pe_call G_next (hr.mono (by omega)) (by rfl) D_next.m D_next.F.kp D_next.b .nil pass0 (pa_cons (pv 0) (pa_cons pe_int pa_nil))))) (pss_one (ps_ret (pe_tup (pa_cons (pe_op op_add pe_int (pe_call G_next (hr.mono (by omega)) (by rfl) D_next.m D_next.F.kp D_next.b .nil pass0 (pa_cons (pv 0) (pa_cons (pe_op op_mul pe_int (pv 1)) pa_nil)))) (pa_cons (pv 1) pa_nil)))))), ?_⟩
  refine ⟨_, rfl, d, sc, 9, rfl, by decide, by decide, hD, fun i H1 i0 i1 hD1 hU1 => ⟨_, _, rfl, rfl, ?_⟩⟩
  refine ⟨_, rfl, _, rfl, _, _, rfl, rfl, .inl ⟨by decide, by decide⟩, d, sc, _, rfl, by omega, by omega, hD1, fun j H2 j0 j1 hD2 hU2 => ⟨_, _, rfl, rfl, _, rfl, (by show 2 ≤ sizeLine; decide), fun t nt => ?_⟩⟩
  exact q t _ _ _ upd_same (by omega) (by omega) (by omega) (by omega) (hD2.new nt) ((hU1.trans hU2).trans (Up.new nt))
theorem ok_stage {f fn : Addr} {fd fnd : FuncData} (D : DefAt K mg "_law_stage" s_stage ["draw"] f fd) (D_next : DefAt K mg "_law_next" s_next ["draw", "many"] fn fnd) (G_next : FnOk P w K mg base CX0 1 fn fnd ["draw", "many"] spNext)
    (z_tuple : mg "tuple" = none) : FnOk P w K mg base CX0 2 f fd ["draw"] spStage := by
  refine D.F.ok sc_stage (fun vs H Q E h => ?_) (fun cdv A outer s H vs Q E hr h => ?_)
  · obtain ⟨d, sc, rfl, _⟩ := h
    rfl
  obtain ⟨d, sc, rfl, hD, q⟩ := h
  refine ⟨_, (pss_cons (ps_set (i := 1) sc_stage.nd rfl (by first | exact Or.inl rfl | exact Or.inr rfl) (pe_call G_next (hr.mono (by omega)) (by rfl) D_next.m D_next.F.kp D_next.b .nil pass0 (pa_cons (pv 0) (pa_cons pe_int pa_nil)))) (pss_cons (ps_if (pt_cmpR op_lt (pv 1) pe_int (nomark _)) (pss_cons (ps_set (i := 2) sc_stage.nd rfl (by first | exact Or.inl rfl | exact Or.inr rfl) (pe_ix ix_list (pe_lst (pa_cons pe_str (pa_cons pe_str (pa_cons pe_str (pa_cons pe_str (pa_cons pe_str (pa_cons pe_str (pa_cons pe_str pa_nil)))))))) (pe_call G_next (hr.mono (by omega)) (by rfl) D_next.m D_next.F.kp D_next.b .nil pass0 (pa_cons (pv 0) (pa_cons pe_int pa_nil))) (fun _ _ => rfl))) (pss_one (ps_ret (pe_tup (pa_cons pe_str (pa_cons (pv 2) (pa_cons (pe_op op_sub (pe_call G_next (hr.mono (by omega)) (by rfl) D_next.m D_next.F.kp D_next.b .nil pass0 (pa_cons (pv 0) (pa_cons pe_int pa_nil))) pe_int) pa_nil))))))) pss_nil) (pss_cons (ps_if (pt_cmpR op_eq (pv 1) pe_int (nomark _)) (pss_cons (ps_set (i := 3) sc_stage.nd rfl (by first | exact Or.inl rfl | exact Or.inr rfl) (pe_lst pa_nil)) (pss_cons (ps_for PassesOwn.never rfl (pi_list (pe_lst (pa_cons pe_str (pa_cons pe_str (pa_cons pe_str (pa_cons pe_str pa_nil)))))) (pg_name (i := 4) sc_stage.nd rfl (by first | exact Or.inl rfl | exact Or.inr rfl)) (pss_one (ps_if (pt_cmpR op_gt (pe_call G_next (hr.mono (by omega)) (by rfl) D_next.m D_next.F.kp D_next.b .nil pass0 (pa_cons (pv 0) (pa_cons pe_int pa_nil))) pe_int (nomark _)) (pss_one (ps_expr (pe_bm PySem.F.plainAttrs_list PySem.F.slot_list_append PySem.F.type_list_append mt_append (pv 3) (pa_cons (pv 4) pa_nil)))) pss_nil))) (pss_one (ps_ret (pe_ifExp (pt_truth (pv 3) (by intro _; rfl)) (pe_tup (pa_cons pe_str (pa_cons (pe_callTy call_tuple_of (by rfl) z_tuple boot_tuple (pa_cons (pv 3) pa_nil)) pa_nil))) (pe_tup (pa_cons pe_str (pa_cons (pe_tup (pa_cons pe_str pa_nil)) pa_nil)))))))) pss_nil) (pss_cons (ps_if (pt_cmpR op_eq (pv 1) pe_int (nomark _)) (pss_one (ps_ret (pe_tup (pa_cons pe_str (pa_cons (pe_ix ix_list (pe_lst (pa_cons (pe_un un_neg pe_int) (pa_cons (pe_un un_neg pe_int) (pa_cons (pe_un un_neg pe_int) (pa_cons pe_int (pa_cons pe_int (pa_cons pe_int (pa_cons pe_int pa_nil)))))))) (pe_call G_next (hr.mono (by omega)) (by rfl) D_next.m D_next.F.kp D_next.b .nil pass0 (pa_cons (pv 0) (pa_cons pe_int pa_nil))) (fun _ _ => rfl)) pa_nil))))) pss_nil) (pss_cons (ps_if (pt_cmpR op_eq (pe_call G_next (hr.mono (by omega)) (by rfl) D_next.m D_next.F.kp D_next.b .nil pass0 (pa_cons (pv 0) (pa_cons pe_int pa_nil))) pe_int (nomark _)) (pss_one (ps_ret (pe_tup (pa_cons pe_str (pa_cons (pe_ix ix_list (pe_lst (pa_cons pe_str (pa_cons pe_str (pa_cons pe_str pa_nil)))) (pe_call G_next (hr.mono (by omega)) (by rfl) D_next.m D_next.F.kp D_next.b .nil pass0 (pa_cons (pv 0) (pa_cons pe_int pa_nil))) (fun _ _ => rfl)) pa_nil))))) pss_nil) (pss_one (ps_ret (pe_tup (pa_cons pe_str (pa_cons (pe_call G_next (hr.mono (by omega)) (by rfl) D_next.m D_next.F.kp D_next.b .nil pass0 (pa_cons (pv 0) (pa_cons pe_int pa_nil))) pa_nil)))))))))), ?_⟩
  refine ⟨_, rfl, d, sc, 7, rfl, by decide, by decide, hD, fun fo H1 f0 f1 hD1 hU1 => ?_⟩
  refine ⟨_, rfl, _, _, rfl, rfl, _, rfl, ite2 (fun _ => ?_) (fun _ => ?_)⟩
  · -- sift
    refine ⟨(by show 7 ≤ sizeLine; decide), fun l nl => ?_⟩
    refine ⟨_, rfl, d, sc, 7, rfl, by decide, by decide, hD1.new nl, fun i H2 i0 i1 hD2 hU2 => ?_⟩
    obtain ⟨g, hg, e⟩ := pickS (xs := ["<", "<=", "=", "!=", ">=", ">", "!="]) i0 (by exact i1)
    refine ⟨l, _, i, _, rfl, rfl, .of (hU2 _ _ (hD1.ne nl) upd_same), e, ?_⟩
    refine ⟨_, rfl, _, rfl, d, sc, 13, rfl, by decide, by decide, hD2, fun j H3 j0 j1 hD3 hU3 => ⟨_, _, rfl, rfl, (by show 3 ≤ sizeLine; decide), fun t nt => ?_⟩⟩
    have hg' : g ∈ compS := by
      have : ∀ g ∈ (["<", "<=", "=", "!=", ">=", ">", "!="] : List Str), g ∈ compS := by decide +kernel
      exact this g hg
    exact q _ (.sift g (j - 6)) _ ⟨t, rfl, upd_same⟩ ⟨hg', by omega, by omega⟩ (hD3.new nt) ((((hU1.trans (Up.new nl)).trans hU2).trans hU3).trans (Up.new nt))
  refine ⟨_, rfl, rfl, _, rfl, ite2 (fun _ => ?_) (fun _ => ?_)⟩
  · -- only
    refine ⟨Nat.zero_le _, fun N nN => ?_⟩
    have nNd := hD1.ne nN
    have nNs := hD1.nes nN
    refine ⟨(by show 4 ≤ sizeLine; decide), fun l nl => ?_⟩
    have nlN : N ≠ l := ne_of_none upd_same nl
    have hD2 : Dr sc (upd (upd H1 N (.lst [])) l (.lst [.str "a", .str "ab", .str "b", .str "c"])) d := (hD1.new nN).new nl
    have lsc := (hD1.new (o := .lst []) nN).nes nl
    refine ⟨l, rfl, ⟨_, .of upd_same⟩, for_list (xs := keyS.map V.str) (fun i σ H2 => ∃ (ks : List Str) (y2 y4 : Option V), σ = [some (.ref d), some (.int fo), y2, some (.ref N), y4] ∧ H2 N = some (.lst (ks.map V.str)) ∧ ks.Sublist (keyS.take i) ∧ H2 l = some (.lst (keyS.map V.str)) ∧ Dr sc H2 d ∧ Up d H1 H2)
      ⟨[], _, _, rfl, ?_, List.nil_sublist _, upd_same, hD2, (Up.new nN).trans (Up.new nl)⟩ (fun i σ H2 _ hP => ?_) (fun i x σ H2 hx hP => ?_) (fun σ H2 hP => ?_)⟩
    · rw [upd_ne nlN]; exact upd_same
    · obtain ⟨ks, y2, y4, _, _, _, h, _⟩ := hP
      exact .of h
    · obtain ⟨ks, y2, y4, rfl, b1, b2, b3, b4, b5⟩ := hP
      obtain ⟨z, hz, rfl⟩ : ∃ z, keyS[i]? = some z ∧ x = .str z := by
        rw [List.getElem?_map] at hx
        cases hq : keyS[i]? with
        | none => rw [hq] at hx; cases hx
        | some s => rw [hq] at hx; exact ⟨s, rfl, (Option.some.inj hx).symm⟩
      have ht : keyS.take (i + 1) = keyS.take i ++ [z] := by rw [List.take_add_one, hz]; rfl
      refine ⟨_, rfl, d, sc, 4, rfl, by decide, by decide, b4, fun j H3 j0 j1 hD3 hU3 => ⟨_, _, rfl, rfl, _, rfl, ite2 (fun _ => ?_) (fun _ => ?_)⟩⟩
      · have c1 := hU3 _ _ nNd b1
        have c2 := hU3 _ _ (show l ≠ d from (hD1.new (o := .lst []) nN).ne nl) b3
        have kl := b2.length_le
        rw [List.length_take] at kl
        refine ⟨_, rfl, .inl ⟨rfl, _, .of c1⟩, _, rfl, N, _, _, rfl, rfl, c1, small1000 (by rw [List.length_map]; have : keyS.length = 4 := rfl; omega), ?_⟩
        refine ⟨ks ++ [z], _, _, rfl, by rw [upd_same, List.map_append]; rfl, by rw [ht]; exact b2.append (List.Sublist.refl _), by rw [upd_ne nlN.symm]; exact c2, hD3.mut nNd nNs, (b5.trans hU3).mut nN⟩
      · have c1 := hU3 _ _ nNd b1
        have c2 := hU3 _ _ (show l ≠ d from (hD1.new (o := .lst []) nN).ne nl) b3
        exact ⟨ks, _, _, rfl, c1, by rw [ht]; exact b2.trans (List.sublist_append_left _ _), c2, hD3, b5.trans hU3⟩
    · obtain ⟨ks, y2, y4, rfl, b1, b2, b3, b4, b5⟩ := hP
      have b2' : ks.Sublist keyS := by
        have e : keyS.take (keyS.map V.str).length = keyS := List.take_of_length_le (by rw [List.length_map]; exact Nat.le_refl _)
        rw [e] at b2; exact b2
      refine ⟨_, rfl, _, .inl ⟨_, .of b1, rfl⟩, ?_⟩
      refine ite2 (fun e => ?_) (fun e => ?_)
      · refine ⟨_, rfl, N, _, rfl, .inl ⟨.of b1, fun k nk => ⟨(by show 2 ≤ sizeLine; decide), fun t nt => ?_⟩⟩⟩
        refine q _ (.only ks) _ ⟨t, k, rfl, upd_same, by rw [upd_ne (ne_of_none upd_same nt)]; exact upd_same⟩ ⟨fun z => ?_, b2'⟩ ((b4.new nk).new nt) (((hU1.trans b5).trans (Up.new nk)).trans (Up.new nt))
        rw [z] at e
        cases e
      · refine ⟨(by show 1 ≤ sizeLine; decide), fun k nk => ⟨(by show 2 ≤ sizeLine; decide), fun t nt => ?_⟩⟩
        exact q _ (.only ["b"]) _ ⟨t, k, rfl, upd_same, by rw [upd_ne (ne_of_none upd_same nt)]; exact upd_same⟩ ⟨List.cons_ne_nil _ _, .cons ("a" : Str) (.cons ("ab" : Str) (.cons₂ ("b" : Str) (.cons ("c" : Str) .slnil)))⟩ ((b4.new nk).new nt) (((hU1.trans b5).trans (Up.new nk)).trans (Up.new nt))
  refine ⟨_, rfl, rfl, _, rfl, ite2 (fun _ => ?_) (fun _ => ?_)⟩
  · -- scale
    refine ⟨_, rfl, _, rfl, _, rfl, (by show 7 ≤ sizeLine; decide), fun l nl => ?_⟩
    refine ⟨_, rfl, d, sc, 7, rfl, by decide, by decide, hD1.new nl, fun i H2 i0 i1 hD2 hU2 => ?_⟩
    obtain ⟨g, hg, e⟩ := pickI (xs := [-3, -2, -1, 0, 1, 2, 0]) i0 (by exact i1)
    refine ⟨l, _, i, _, rfl, rfl, .of (hU2 _ _ (hD1.ne nl) upd_same), e, (by show 2 ≤ sizeLine; decide), fun t nt => ?_⟩
    have : ∀ g ∈ ([-3, -2, -1, 0, 1, 2, 0] : List Int), -3 ≤ g ∧ g ≤ 2 := by decide
    exact q _ (.scale g) _ ⟨t, rfl, upd_same⟩ (this g hg) (hD2.new nt) (((hU1.trans (Up.new nl)).trans hU2).trans (Up.new nt))
  refine ⟨_, rfl, d, sc, 2, rfl, by decide, by decide, hD1, fun i H2 i0 i1 hD2 hU2 => ⟨rfl, _, rfl, ite2 (fun _ => ?_) (fun _ => ?_)⟩⟩
  · -- rekey
    refine ⟨(by show 3 ≤ sizeLine; decide), fun l nl => ?_⟩
    refine ⟨_, rfl, d, sc, 3, rfl, by decide, by decide, hD2.new nl, fun i H3 i0 i1 hD3 hU3 => ?_⟩
    obtain ⟨g, hg, e⟩ := pickS (xs := ["a", "b", "z"]) i0 (by exact i1)
    refine ⟨l, _, i, _, rfl, rfl, .of (hU3 _ _ (hD2.ne nl) upd_same), e, (by show 2 ≤ sizeLine; decide), fun t nt => ?_⟩
    exact q _ (.rekey g) _ ⟨t, rfl, upd_same⟩ hg (hD3.new nt) ((((hU1.trans hU2).trans (Up.new nl)).trans hU3).trans (Up.new nt))
  · -- later
    refine ⟨_, rfl, d, sc, 5, rfl, by decide, by decide, hD2, fun i H3 i0 i1 hD3 hU3 => ⟨(by show 2 ≤ sizeLine; decide), fun t nt => ?_⟩⟩
    exact q _ (.later i) _ ⟨t, rfl, upd_same⟩ ⟨i0, by omega⟩ (hD3.new nt) (((hU1.trans hU2).trans hU3).trans (Up.new nt))
theorem tree0 {f : Addr} {fd : FuncData} {ns : List Str} {k : Nat} : FnOk P w K mg base CX0 k f fd ["draw", "size"] (spTree ns 0) := by
  have no : ∀ vs H Q E, ¬ spTree ns 0 vs H Q E := fun vs H Q E h => by
    obtain ⟨d, sc, size, _, h1, h2, _⟩ := h
    have : size ≤ 0 := h2
    omega
  exact ⟨fun vs H Q E h => absurd h (no vs H Q E), fun A outer s H args us vs Q E _ _ _ _ h => absurd h (no vs H Q E)⟩
theorem ok_tree1 {f fn fs fp fa : Addr} {fd fnd fsd fpd fad : FuncData} {n : Nat} (D_tree : DefAt K mg "_law_tree" s_tree ["draw", "size"] f fd) (G_tree : FnOk P w K mg base CX0 (n + 2) f fd ["draw", "size"] (spTree srcS3 n))
    (D_next : DefAt K mg "_law_next" s_next ["draw", "many"] fn fnd) (G_next : FnOk P w K mg base CX0 1 fn fnd ["draw", "many"] spNext)
    (D_stage : DefAt K mg "_law_stage" s_stage ["draw"] fs fsd) (G_stage : FnOk P w K mg base CX0 2 fs fsd ["draw"] spStage)
    (D_span : DefAt K mg "_law_span" s_span ["draw"] fp fpd) (G_span : FnOk P w K mg base CX0 2 fp fpd ["draw"] spSpan)
    (D_aggregate : DefAt K mg "_law_aggregate" s_aggregate ["draw"] fa fad) (G_aggregate : FnOk P w K mg base CX0 2 fa fad ["draw"] spAgg) :
    FnOk P w K mg base CX0 (n + 3) f fd ["draw", "size"] (spTree srcS3 (n + 1)) := by
  refine D_tree.F.ok sc_tree (fun vs H Q E h => ?_) (fun cdv A outer s H vs Q E hr h => ?_)
  · obtain ⟨d, sc, size, rfl, _⟩ := h
    rfl
  obtain ⟨d, sc, size, rfl, hs1, hs2, hD, q⟩ := h
  have hs3 : size ≤ (n : Int) + 1 := by have : size ≤ ((n + 1 : Nat) : Int) := hs2; omega
  refine ⟨_, (pss_cons (ps_set (i := 2) sc_tree.nd rfl (by first | exact Or.inl rfl | exact Or.inr rfl) (pe_call G_next (hr.mono (by omega)) (by rfl) D_next.m D_next.F.kp D_next.b .nil pass0 (pa_cons (pv 0) (pa_cons pe_int pa_nil)))) (pss_cons (ps_if (PW.pt (pw_or (pt_cmpR op_lt (pv 1) pe_int (nomark _)) (pw_or1 (pt_cmpR op_eq (pv 2) pe_int (nomark _))))) (pss_one (ps_ret (pe_tup (pa_cons pe_str (pa_cons (pe_ix ix_list (pe_lst (pa_cons pe_str (pa_cons pe_str (pa_cons pe_str (pa_cons pe_str (pa_cons pe_str (pa_cons pe_str pa_nil))))))) (pe_call G_next (hr.mono (by omega)) (by rfl) D_next.m D_next.F.kp D_next.b .nil pass0 (pa_cons (pv 0) (pa_cons pe_int pa_nil))) (fun _ _ => rfl)) pa_nil))))) pss_nil) (pss_cons (ps_if (pt_cmpR op_lt (pv 2) pe_int (nomark _)) (pss_one (ps_ret (pe_tup (pa_cons pe_str (pa_cons (pe_call G_stage (hr.mono (by omega)) (by rfl) D_stage.m D_stage.F.kp D_stage.b .nil pass0 (pa_cons (pv 0) pa_nil)) (pa_cons (pe_call G_tree (hr.mono (by omega)) (by rfl) D_tree.m D_tree.F.kp D_tree.b .nil pass0 (pa_cons (pv 0) (pa_cons (pe_op op_sub (pv 1) pe_int) pa_nil))) pa_nil)))))) pss_nil) (pss_cons (ps_if (pt_cmpR op_eq (pv 2) pe_int (nomark _)) (pss_one (ps_ret (pe_tup (pa_cons pe_str (pa_cons (pe_call G_tree (hr.mono (by omega)) (by rfl) D_tree.m D_tree.F.kp D_tree.b .nil pass0 (pa_cons (pv 0) (pa_cons (pe_op op_sub (pv 1) pe_int) pa_nil))) pa_nil))))) pss_nil) (pss_cons (ps_if (pt_cmpR op_eq (pv 2) pe_int (nomark _)) (pss_cons (ps_asg (pe_call G_span (hr.mono (by omega)) (by rfl) D_span.m D_span.F.kp D_span.b .nil pass0 (pa_cons (pv 0) pa_nil)) (pg_tup (by rfl) (pgs_cons (pg_name (i := 7) sc_tree.nd rfl (by first | exact Or.inl rfl | exact Or.inr rfl)) (pgs_cons (pg_name (i := 8) sc_tree.nd rfl (by first | exact Or.inl rfl | exact Or.inr rfl)) pgs_nil)))) (pss_one (ps_ret (pe_tup (pa_cons pe_str (pa_cons (pv 7) (pa_cons (pv 8) (pa_cons (pe_call G_aggregate (hr.mono (by omega)) (by rfl) D_aggregate.m D_aggregate.F.kp D_aggregate.b .nil pass0 (pa_cons (pv 0) pa_nil)) (pa_cons (pe_call G_tree (hr.mono (by omega)) (by rfl) D_tree.m D_tree.F.kp D_tree.b .nil pass0 (pa_cons (pv 0) (pa_cons (pe_op op_sub (pv 1) pe_int) pa_nil))) pa_nil))))))))) pss_nil) (pss_cons (ps_if (pt_cmpR op_eq (pv 2) pe_int (nomark _)) (pss_one (ps_ret (pe_tup (pa_cons pe_str (pa_cons (pe_call G_next (hr.mono (by omega)) (by rfl) D_next.m D_next.F.kp D_next.b .nil pass0 (pa_cons (pv 0) (pa_cons pe_int pa_nil))) (pa_cons (pe_call G_aggregate (hr.mono (by omega)) (by rfl) D_aggregate.m D_aggregate.F.kp D_aggregate.b .nil pass0 (pa_cons (pv 0) pa_nil)) (pa_cons (pe_call G_tree (hr.mono (by omega)) (by rfl) D_tree.m D_tree.F.kp D_tree.b .nil pass0 (pa_cons (pv 0) (pa_cons (pe_op op_sub (pv 1) pe_int) pa_nil))) pa_nil))))))) pss_nil) (pss_cons (ps_set (i := 3) sc_tree.nd rfl (by first | exact Or.inl rfl | exact Or.inr rfl) (pe_op op_fdiv (pe_op op_sub (pv 1) pe_int) pe_int)) (pss_cons (ps_if (pt_cmpR op_lt (pv 1) pe_int (nomark _)) (pss_one (ps_ret (pe_tup (pa_cons pe_str (pa_cons pe_str pa_nil))))) pss_nil) (pss_cons (ps_set (i := 4) sc_tree.nd rfl (by first | exact Or.inl rfl | exact Or.inr rfl) (pe_call G_tree (hr.mono (by omega)) (by rfl) D_tree.m D_tree.F.kp D_tree.b .nil pass0 (pa_cons (pv 0) (pa_cons (pv 3) pa_nil)))) (pss_cons (ps_set (i := 5) sc_tree.nd rfl (by first | exact Or.inl rfl | exact Or.inr rfl) (pe_call G_tree (hr.mono (by omega)) (by rfl) D_tree.m D_tree.F.kp D_tree.b .nil pass0 (pa_cons (pv 0) (pa_cons (pv 3) pa_nil)))) (pss_cons (ps_if (pt_cmpR op_eq (pv 2) pe_int (nomark _)) (pss_cons (ps_set (i := 6) sc_tree.nd rfl (by first | exact Or.inl rfl | exact Or.inr rfl) (pe_ix ix_list (pe_lst (pa_cons pe_str (pa_cons pe_str (pa_cons pe_str (pa_cons pe_str pa_nil))))) (pe_call G_next (hr.mono (by omega)) (by rfl) D_next.m D_next.F.kp D_next.b .nil pass0 (pa_cons (pv 0) (pa_cons pe_int pa_nil))) (fun _ _ => rfl))) (pss_one (ps_ret (pe_tup (pa_cons pe_str (pa_cons (pe_call G_next (hr.mono (by omega)) (by rfl) D_next.m D_next.F.kp D_next.b .nil pass0 (pa_cons (pv 0) (pa_cons pe_int pa_nil))) (pa_cons (pe_call G_next (hr.mono (by omega)) (by rfl) D_next.m D_next.F.kp D_next.b .nil pass0 (pa_cons (pv 0) (pa_cons pe_int pa_nil))) (pa_cons (pv 6) (pa_cons (pv 4) (pa_cons (pv 5) pa_nil)))))))))) pss_nil) (pss_one (ps_ret (pe_tup (pa_cons (pe_ix ix_list (pe_lst (pa_cons pe_str (pa_cons pe_str (pa_cons pe_str pa_nil)))) (pe_call G_next (hr.mono (by omega)) (by rfl) D_next.m D_next.F.kp D_next.b .nil pass0 (pa_cons (pv 0) (pa_cons pe_int pa_nil))) (fun _ _ => rfl)) (pa_cons (pv 4) (pa_cons (pv 5) pa_nil))))))))))))))))), ?_⟩
  refine ⟨_, rfl, d, sc, 12, rfl, by decide, by decide, hD, fun fo H1 f0 f1 hD1 hU1 => ?_⟩
  have two : (2 : Nat) ≤ sizeLine := by decide
  -- a source
  have src : ∀ (Q1 : V → Hp → Prop), (∀ v p H', PlAt H' p v → PlOk srcS3 p → (p.size : Int) ≤ size → Dr sc H' d → Up d H H' → Q1 v H') → ∀ l, H1 l = none → ∀ (i : Int) (H2 : Hp), 0 ≤ i → i < 6 → Dr sc H2 d → Up d (upd H1 l (.lst (srcS3.map V.str))) H2 → ∃ g, g ∈ srcS3 ∧ H2 l = some (.lst (srcS3.map V.str)) ∧ atI (srcS3.map V.str) i = some (.str g) ∧ ∀ t, H2 t = none → Q1 (.ref t) (upd H2 t (.tup [.str "source", .str g])) := by
    intro Q1 q1 l nl i H2 i0 i1 hD2 hU2
    obtain ⟨g, hg, e⟩ := pickS (xs := srcS3) i0 (by exact i1)
    exact ⟨g, hg, hU2 _ _ (hD1.ne nl) upd_same, e, fun t nt => q1 _ (.src g) _ ⟨t, rfl, upd_same⟩ hg (by show ((1 : Nat) : Int) ≤ size; omega) (hD2.new nt) (((hU1.trans (Up.new nl)).trans hU2).trans (Up.new nt))⟩
  refine ⟨_, rfl, _, _, rfl, rfl, _, rfl, ite2 (fun _ => iteT ?_) (fun hs => ⟨_, rfl, rfl, _, rfl, ite2 (fun _ => ?_) (fun _ => ?_)⟩)⟩
  · refine ⟨(by show 6 ≤ sizeLine; decide), fun l nl => ⟨_, rfl, d, sc, 6, rfl, by decide, by decide, hD1.new nl, fun i H2 i0 i1 hD2 hU2 => ?_⟩⟩
    obtain ⟨g, hg, h2, e, fin⟩ := src Q q l nl i H2 i0 i1 hD2 hU2
    exact ⟨l, _, i, _, rfl, rfl, .of h2, e, two, fin⟩
  · refine ⟨(by show 6 ≤ sizeLine; decide), fun l nl => ⟨_, rfl, d, sc, 6, rfl, by decide, by decide, hD1.new nl, fun i H2 i0 i1 hD2 hU2 => ?_⟩⟩
    obtain ⟨g, hg, h2, e, fin⟩ := src Q q l nl i H2 i0 i1 hD2 hU2
    exact ⟨l, _, i, _, rfl, rfl, .of h2, e, two, fin⟩
  have hs4 : 2 ≤ size := by
    rcases Int.lt_or_le size 2 with h | h
    · exact absurd (decide_eq_true h) hs
    · exact h
  refine ⟨_, rfl, _, _, rfl, rfl, _, rfl, ite2 (fun _ => ?_) (fun _ => ?_)⟩
  · -- a stage
    refine ⟨_, rfl, d, sc, rfl, hD1, fun sv st H2 hst hok hD2 hU2 => ?_⟩
    refine ⟨_, rfl, _, rfl, _, _, rfl, rfl, d, sc, size - 1, rfl, by omega, by omega, hD2, fun v p H3 hp hpo hps hD3 hU3 => ⟨(by show 3 ≤ sizeLine; decide), fun t nt => ?_⟩⟩
    have k3 := hU3.tupUp hD2
    exact q _ (.stage st p) _ ⟨t, sv, v, rfl, upd_same, (hst.mono k3).mono (TupUp.new nt), hp.mono (TupUp.new nt)⟩ ⟨hok, hpo⟩ (by show ((p.size + 1 : Nat) : Int) ≤ size; omega) (hD3.new nt) (((hU1.trans hU2).trans hU3).trans (Up.new nt))
  refine ⟨_, rfl, rfl, _, rfl, ite2 (fun _ => ?_) (fun _ => ?_)⟩
  · -- once
    refine ⟨_, rfl, _, rfl, _, _, rfl, rfl, d, sc, size - 1, rfl, by omega, by omega, hD1, fun v p H3 hp hpo hps hD3 hU3 => ⟨two, fun t nt => ?_⟩⟩
    exact q _ (.once p) _ ⟨t, v, rfl, upd_same, hp.mono (TupUp.new nt)⟩ hpo (by show ((p.size + 1 : Nat) : Int) ≤ size; omega) (hD3.new nt) ((hU1.trans hU3).trans (Up.new nt))
  refine ⟨_, rfl, rfl, _, rfl, ite2 (fun _ => ?_) (fun _ => ?_)⟩
  · -- windows
    refine ⟨_, rfl, d, sc, rfl, hD1, fun tt a b H2 htt b1 b2 a1 a2 hD2 hU2 => ⟨tt, _, rfl, .of htt, rfl, _, _, rfl, _, _, rfl, rfl, ?_⟩⟩
    refine ⟨_, rfl, _, rfl, _, rfl, d, sc, rfl, hD2, fun g H3 hg hD3 hU3 => ?_⟩
    refine ⟨_, rfl, _, rfl, _, _, rfl, rfl, d, sc, size - 1, rfl, by omega, by omega, hD3, fun v p H4 hp hpo hps hD4 hU4 => ⟨(by show 5 ≤ sizeLine; decide), fun t nt => ?_⟩⟩
    exact q _ (.windows a b g p) _ ⟨t, v, rfl, upd_same, hp.mono (TupUp.new nt)⟩ ⟨⟨b1, b2, a1, a2, hg⟩, hpo⟩ (by show ((p.size + 1 : Nat) : Int) ≤ size; omega) (hD4.new nt) ((((hU1.trans hU2).trans hU3).trans hU4).trans (Up.new nt))
  refine ⟨_, rfl, rfl, _, rfl, ite2 (fun _ => ?_) (fun _ => ?_)⟩
  · -- sittings
    refine ⟨_, rfl, d, sc, 40, rfl, by decide, by decide, hD1, fun a H2 a0 a1 hD2 hU2 => ?_⟩
    refine ⟨_, rfl, d, sc, rfl, hD2, fun g H3 hg hD3 hU3 => ?_⟩
    refine ⟨_, rfl, _, rfl, _, _, rfl, rfl, d, sc, size - 1, rfl, by omega, by omega, hD3, fun v p H4 hp hpo hps hD4 hU4 => ⟨(by show 4 ≤ sizeLine; decide), fun t nt => ?_⟩⟩
    exact q _ (.sittings a g p) _ ⟨t, v, rfl, upd_same, hp.mono (TupUp.new nt)⟩ ⟨⟨a0, a1, hg⟩, hpo⟩ (by show ((p.size + 1 : Nat) : Int) ≤ size; omega) (hD4.new nt) ((((hU1.trans hU2).trans hU3).trans hU4).trans (Up.new nt))
  -- half = (size - 1) // 2
  refine ⟨_, rfl, _, _, rfl, rfl, _, _, rfl, rfl, ⟨by decide, by decide⟩, ?_⟩
  refine ⟨_, rfl, _, _, rfl, rfl, _, rfl, ite2 (fun _ => ?_) (fun h3 => ?_)⟩
  · refine ⟨two, fun t nt => ?_⟩
    exact q _ (.src "b") _ ⟨t, rfl, upd_same⟩ (by show ("b" : Str) ∈ srcS3; decide +kernel) (by show ((1 : Nat) : Int) ≤ size; omega) (hD1.new nt) (hU1.trans (Up.new nt))
  have hs5 : 3 ≤ size := by
    rcases Int.lt_or_le size 3 with h | h
    · exact absurd (decide_eq_true h) h3
    · exact h
  have hh : 1 ≤ (size - 1) / 2 ∧ (size - 1) / 2 ≤ n ∧ 2 * ((size - 1) / 2) + 1 ≤ size := by omega
  refine ⟨_, rfl, _, rfl, d, sc, _, rfl, hh.1, hh.2.1, hD1, fun vl pl H2 hpl hlo hls hD2 hU2 => ?_⟩
  refine ⟨_, rfl, _, rfl, d, sc, _, rfl, hh.1, hh.2.1, hD2, fun vr pr H3 hpr hro hrs hD3 hU3 => ?_⟩
  have hpl3 := hpl.mono (hU3.tupUp hD2)
  refine ⟨_, rfl, rfl, _, rfl, ite2 (fun _ => ?_) (fun _ => ?_)⟩
  · -- near
    refine ⟨(by show 4 ≤ sizeLine; decide), fun l nl => ⟨_, rfl, d, sc, 4, rfl, by decide, by decide, hD3.new nl, fun i H4 i0 i1 hD4 hU4 => ?_⟩⟩
    obtain ⟨g, hg, e⟩ := pickS (xs := combS) i0 (by exact i1)
    refine ⟨l, _, i, _, rfl, rfl, .of (hU4 _ _ (hD3.ne nl) upd_same), e, ?_⟩
    refine ⟨_, rfl, d, sc, 9, rfl, by decide, by decide, hD4, fun a H5 a0 a1 hD5 hU5 => ?_⟩
    refine ⟨_, rfl, d, sc, 9, rfl, by decide, by decide, hD5, fun b H6 b0 b1 hD6 hU6 => ⟨_, rfl, _, rfl, _, rfl, (by show 6 ≤ sizeLine; decide), fun t nt => ?_⟩⟩
    have k : TupUp H3 (upd H6 t (.tup [.str "near", .int a, .int b, .str g, vl, vr])) := ((((TupUp.new nl).trans (hU4.tupUp (hD3.new nl))).trans (hU5.tupUp hD4)).trans (hU6.tupUp hD5)).trans (TupUp.new nt)
    exact q _ (.near a b g pl pr) _ ⟨t, vl, vr, rfl, upd_same, hpl3.mono k, hpr.mono k⟩ ⟨⟨a0, a1, b0, b1, hg⟩, hlo, hro⟩ (by show ((pl.size + pr.size + 1 : Nat) : Int) ≤ size; omega) (hD6.new nt) (((((((hU1.trans hU2).trans hU3).trans (Up.new nl)).trans hU4).trans hU5).trans hU6).trans (Up.new nt))
  · refine ⟨(by show 3 ≤ sizeLine; decide), fun l nl => ⟨_, rfl, d, sc, 3, rfl, by decide, by decide, hD3.new nl, fun i H4 i0 i1 hD4 hU4 => ?_⟩⟩
    obtain ⟨g, hg, e⟩ := pickS (xs := twoS) i0 (by exact i1)
    refine ⟨l, _, i, _, rfl, rfl, .of (hU4 _ _ (hD3.ne nl) upd_same), e, _, rfl, _, rfl, (by show 3 ≤ sizeLine; decide), fun t nt => ?_⟩
    have k : TupUp H3 (upd H4 t (.tup [.str g, vl, vr])) := ((TupUp.new nl).trans (hU4.tupUp (hD3.new nl))).trans (TupUp.new nt)
    exact q _ (.two g pl pr) _ ⟨t, vl, vr, rfl, upd_same, hg, hpl3.mono k, hpr.mono k⟩ ⟨hg, hlo, hro⟩ (by show ((pl.size + pr.size + 1 : Nat) : Int) ≤ size; omega) (hD4.new nt) (((((hU1.trans hU2).trans hU3).trans (Up.new nl)).trans hU4).trans (Up.new nt))
theorem ok_tree {f fn fs fp fa : Addr} {fd fnd fsd fpd fad : FuncData} (D_tree : DefAt K mg "_law_tree" s_tree ["draw", "size"] f fd)
    (D_next : DefAt K mg "_law_next" s_next ["draw", "many"] fn fnd) (G_next : FnOk P w K mg base CX0 1 fn fnd ["draw", "many"] spNext)
    (D_stage : DefAt K mg "_law_stage" s_stage ["draw"] fs fsd) (G_stage : FnOk P w K mg base CX0 2 fs fsd ["draw"] spStage)
    (D_span : DefAt K mg "_law_span" s_span ["draw"] fp fpd) (G_span : FnOk P w K mg base CX0 2 fp fpd ["draw"] spSpan)
    (D_aggregate : DefAt K mg "_law_aggregate" s_aggregate ["draw"] fa fad) (G_aggregate : FnOk P w K mg base CX0 2 fa fad ["draw"] spAgg) :
    ∀ n : Nat, FnOk P w K mg base CX0 (n + 2) f fd ["draw", "size"] (spTree srcS3 n)
  | 0 => tree0
  | n + 1 => ok_tree1 D_tree (ok_tree D_tree D_next G_next D_stage G_stage D_span G_span D_aggregate G_aggregate n) D_next G_next D_stage G_stage D_span G_span D_aggregate G_aggregate
end
end Tf
set_option maxHeartbeats 4000000
namespace Tf
open PySem PySem.Spec PyProof.Rows L2 TL
theorem pl_wv {ns : List Str} {p : Pl} (h : PlOk ns p) (hi : p.ins ≠ []) : ∀ u ∈ p.words, WV u := by
  obtain ⟨l1, l2, l3, l4, l5, l6, l7, l8, l9⟩ := let_all
  cases p with
  | src n => exact absurd rfl hi
  | stage s p => exact (stg_kv h.1).1
  | once p =>
    intro u hu
    rw [List.mem_singleton.mp hu]
    exact (wv_word (l7 _ (by simp))).2
  | windows a b c p =>
    obtain ⟨⟨b1, b2, a1, a2, hc⟩, _⟩ := h
    intro u hu
    simp only [Pl.words, List.mem_cons, List.not_mem_nil, or_false] at hu
    rcases hu with rfl | rfl | rfl | rfl
    · exact (wv_word (l7 _ (by simp))).2
    · exact (wv_num ⟨by omega, by omega⟩).2
    · exact (wv_num ⟨by omega, by omega⟩).2
    · exact (wv_word (l4 _ hc)).2
  | sittings a c p =>
    obtain ⟨⟨a1, a2, hc⟩, _⟩ := h
    intro u hu
    simp only [Pl.words, List.mem_cons, List.not_mem_nil, or_false] at hu
    rcases hu with rfl | rfl | rfl
    · exact (wv_word (l7 _ (by simp))).2
    · exact (wv_num ⟨by omega, by omega⟩).2
    · exact (wv_word (l4 _ hc)).2
  | two w l r =>
    intro u hu
    rw [List.mem_singleton.mp hu]
    exact (two_wv h.1).2
  | near a b c l r =>
    obtain ⟨⟨a1, a2, b1, b2, hc⟩, _⟩ := h
    intro u hu
    simp only [Pl.words, List.mem_cons, List.not_mem_nil, or_false] at hu
    rcases hu with rfl | rfl | rfl | rfl
    · exact (wv_word (l7 _ (by simp))).2
    · exact (wv_num ⟨by omega, by omega⟩).2
    · exact (wv_num ⟨by omega, by omega⟩).2
    · exact (wv_word (l5 _ hc)).2
theorem wp_one {ns : List Str} {p q : Pl} {ws : List Kv} (hp : PlOk ns p) (hi : p.ins = [q]) (h : Wp q ws) : Wp p (ws ++ (sg "|" :: p.words.map kv)) := by
  obtain ⟨l1, l2, l3, l4, l5, l6, l7, l8, l9⟩ := let_all
  cases p with
  | src n => cases hi
  | two w l r => cases hi
  | near a b c l r => cases hi
  | stage s p =>
    cases hi
    exact .stage h (stg_kv hp.1).2
  | once p =>
    cases hi
    show Wp _ (ws ++ [sg "|", kv (.str "once")])
    rw [(wv_word (l7 "once" (by simp))).1]
    exact .once h
  | windows a b c p =>
    cases hi
    show Wp _ (ws ++ [sg "|", kv (.str "windows"), nm a, nm b, kv (.str c)])
    rw [(wv_word (l7 "windows" (by simp))).1, (wv_word (l4 _ hp.1.2.2.2.2)).1]
    exact .windows h
  | sittings a c p =>
    cases hi
    show Wp _ (ws ++ [sg "|", kv (.str "sittings"), nm a, kv (.str c)])
    rw [(wv_word (l7 "sittings" (by simp))).1, (wv_word (l4 _ hp.1.2.2)).1]
    exact .sittings h
theorem wp_two {ns : List Str} {p l r : Pl} {ls rs : List Kv} (hp : PlOk ns p) (hi : p.ins = [l, r]) (h1 : Wp l ls) (h2 : Wp r rs) : Wp p (p.words.map kv ++ (sg "(" :: (ls ++ (sg "," :: (rs ++ [sg ")"]))))) := by
  obtain ⟨l1, l2, l3, l4, l5, l6, l7, l8, l9⟩ := let_all
  cases p with
  | two w l r =>
    cases hi
    show Wp _ (kv (.str w) :: _)
    rw [(two_wv hp.1).1]
    exact .two h1 h2
  | near a b c l r =>
    cases hi
    show Wp _ (kv (.str "near") :: nm a :: nm b :: kv (.str c) :: _)
    rw [(wv_word (l7 "near" (by simp))).1, (wv_word (l5 _ hp.1.2.2.2.2)).1]
    exact .near h1 h2
  | src n => cases hi
  | stage s p => cases hi
  | once p => cases hi
  | windows a b c p => cases hi
  | sittings a c p => cases hi
theorem kvl_one {k : Kv} {z : Str} (h : KvS k z) : KvL [k] [z] := ⟨h, trivial⟩
theorem sg_kvs : KvS (sg "(") "(" ∧ KvS (sg ")") ")" ∧ KvS (sg ",") "," ∧ KvS (sg "|") "|" := by
  obtain ⟨_, _, _, _, _, _, _, _, l9⟩ := let_all
  exact ⟨kvS_sign (l9 _ (by simp)), kvS_sign (l9 _ (by simp)), kvS_sign (l9 _ (by simp)), kvS_sign (l9 _ (by simp))⟩
theorem kvl_words {zs : List Str} (h : ∀ z ∈ zs, letS z = true ∧ z.length ≤ 30) : KvL (zs.map wd) zs := by
  induction zs with
  | nil => trivial
  | cons z r ih => exact ⟨kvS_word (h z (List.mem_cons_self ..)).1 (h z (List.mem_cons_self ..)).2, ih fun x hx => h x (List.mem_cons_of_mem _ hx)⟩
end Tf
set_option maxHeartbeats 8000000
namespace Tf
open PySem PySem.Spec PyProof.Rows L2 TL
abbrev s_digits : Stmt := (topS 47)
abbrev n_digits : List Str := ["draw", "number", "zeros"]
theorem sc_digits : FnScope n_digits ["draw", "number"] (defScope s_digits) := ⟨rfl, rfl, rfl, by decide +kernel, rfl, by decide +kernel, by decide +kernel⟩
abbrev s_words : Stmt := (topS 48)
abbrev n_words : List Str := ["draw", "parts", "words", "part"]
theorem sc_words : FnScope n_words ["draw", "parts"] (defScope s_words) := ⟨rfl, rfl, rfl, by decide +kernel, rfl, by decide +kernel, by decide +kernel⟩
abbrev s_lnames : Stmt := (topS 49)
abbrev n_lnames : List Str := ["draw", "names", "found", "k"]
theorem sc_lnames : FnScope n_lnames ["draw", "names"] (defScope s_lnames) := ⟨rfl, rfl, rfl, by decide +kernel, rfl, by decide +kernel, by decide +kernel⟩
def zerS : List Str := ["", "", "0", "00"]
theorem zer_ok : ∀ z ∈ zerS, (∀ c ∈ tl z, c = 48) ∧ (tl z).length ≤ 2 := by decide +kernel
theorem numB_len {n : Nat} (h : n ≤ 90) : (numL n).length ≤ 2 := numL_len (by decide) (by omega)
theorem log_small {i : Int} (h : -90 ≤ i ∧ i ≤ 90) : i.natAbs.log2 < 1920 := by
  have h0 : i.natAbs < 128 := by omega
  rcases Nat.eq_zero_or_pos i.natAbs with e | e
  · rw [e]; decide
  · have : i.natAbs.log2 < 7 := (Nat.log2_lt (by omega)).mpr (by omega)
    omega
theorem dig_pos {z : Str} {n : Nat} (hz : ∀ c ∈ tl z, c = 48) (hl : (tl z).length ≤ 2) (hn : n ≤ 90) : KvS (nm (n : Int)) (z ++ Str.ofString (toString ((n : Nat) : Int))) := by
  have e : tl (z ++ Str.ofString (toString ((n : Nat) : Int))) = tl z ++ numL n := by rw [tl_append, tl_strI]
  have l := numB_len hn
  refine ⟨?_, ?_, ?_⟩
  · rw [e]
    exact Wf.num (fun q => numL_ne n (List.append_eq_nil_iff.mp q).2) (zeros_dg hz) (.inl rfl)
  · rw [e]
    exact .inl ⟨rfl, by rw [List.length_append]; omega, n, num_text hz (by omega), rfl⟩
  · rw [len_tl, e, List.length_append]; omega
theorem dig_neg {z : Str} {n : Nat} (hz : ∀ c ∈ tl z, c = 48) (hl : (tl z).length ≤ 2) (hn : n ≤ 90) : KvS (nm (-(n : Int))) ((("-" : Str) ++ z) ++ Str.ofString (toString ((n : Nat) : Int))) := by
  have em : tl ("-" : Str) = [45] := by decide +kernel
  have e : tl ((("-" : Str) ++ z) ++ Str.ofString (toString ((n : Nat) : Int))) = 45 :: (tl z ++ numL n) := by rw [tl_append, tl_append, tl_strI, em]; rfl
  have l := numB_len hn
  refine ⟨?_, ?_, ?_⟩
  · rw [e]
    exact Wf.num (fun q => numL_ne n (List.append_eq_nil_iff.mp q).2) (zeros_dg hz) (.inr rfl)
  · rw [e]
    exact .inl ⟨rfl, by rw [List.length_cons, List.length_append]; omega, -(n : Int), num_text_neg hz (by omega), rfl⟩
  · rw [len_tl, e, List.length_cons, List.length_append]; omega
section
variable {P : Program} {w : World} {K : PySem.W.Frag} {mg : Str → Option Value} {base : Heap}
theorem ok_digits {f fn : Addr} {fd fnd : FuncData} (D : DefAt K mg "_law_digits" s_digits ["draw", "number"] f fd) (D_next : DefAt K mg "_law_next" s_next ["draw", "many"] fn fnd) (G_next : FnOk P w K mg base CX0 1 fn fnd ["draw", "many"] spNext) (z_str : mg "str" = none) :
    FnOk P w K mg base CX0 2 f fd ["draw", "number"] spDigits := by
  refine D.F.ok sc_digits (fun vs H Q E h => ?_) (fun cdv A outer s H vs Q E hr h => ?_)
  · obtain ⟨d, sc, i, rfl, _⟩ := h
    rfl
  obtain ⟨d, sc, i, rfl, hi, hD, q⟩ := h
  have hi1 := hi.1
  have hi2 := hi.2
  refine ⟨_, (pss_cons (ps_set (i := 2) sc_digits.nd rfl (by first | exact Or.inl rfl | exact Or.inr rfl) (pe_ix ix_list (pe_lst (pa_cons pe_str (pa_cons pe_str (pa_cons pe_str (pa_cons pe_str pa_nil))))) (pe_call G_next (hr.mono (by omega)) (by rfl) D_next.m D_next.F.kp D_next.b .nil pass0 (pa_cons (pv 0) (pa_cons pe_int pa_nil))) (fun _ _ => rfl))) (pss_cons (ps_if (PW.pt (pw_or (pt_cmpR op_lt (pv 1) pe_int (nomark _)) (pw_or1 (PW.pt (pw_and (pt_cmpR op_eq (pv 1) pe_int (nomark _)) (pw_and1 (pt_cmpR op_eq (pe_call G_next (hr.mono (by omega)) (by rfl) D_next.m D_next.F.kp D_next.b .nil pass0 (pa_cons (pv 0) (pa_cons pe_int pa_nil))) pe_int (nomark _)))))))) (pss_one (ps_ret (pe_op op_add_str (pe_op op_add_str pe_str (pv 2)) (pe_callTy call_str_int (by rfl) z_str boot_str (pa_cons (pe_un un_neg (pv 1)) pa_nil))))) pss_nil) (pss_one (ps_ret (pe_op op_add_str (pv 2) (pe_callTy call_str_int (by rfl) z_str boot_str (pa_cons (pv 1) pa_nil))))))), ?_⟩
  refine ⟨(by show 4 ≤ sizeLine; decide), fun l nl => ?_⟩
  refine ⟨_, rfl, d, sc, 4, rfl, by decide, by decide, hD.new nl, fun j H1 j0 j1 hD1 hU1 => ?_⟩
  obtain ⟨z, hz, ez⟩ := pickS (xs := zerS) j0 (by exact j1)
  obtain ⟨z48, zl⟩ := zer_ok z hz
  refine ⟨l, _, j, _, rfl, rfl, .of (hU1 _ _ (hD.ne nl) upd_same), ez, ?_⟩
  have hU := (Up.new (o := .lst (zerS.map V.str)) nl).trans hU1
  have lz := len_tl z
  have lm : (Str.length ("-" : Str)) = 1 := by decide +kernel
  have sl : (40 : Nat) ≤ sizeLine := by decide
  -- the two ends
  have neg : i ≤ 0 → ∀ H2, Dr sc H2 d → Up d H H2 → Q (.str ((("-" : Str) ++ z) ++ Str.ofString (toString (-i)))) H2 := fun h H2 hD2 hU2 => by
    have e : -i = ((i.natAbs : Nat) : Int) := by omega
    refine q _ H2 ?_ hD2 hU2
    rw [e]
    have k := dig_neg (n := i.natAbs) z48 zl (by omega)
    have e2 : -((i.natAbs : Nat) : Int) = i := by omega
    rw [e2] at k
    exact k
  have negl : i ≤ 0 → (Str.ofString (toString (-i))).length ≤ 2 := fun h => by
    have e : -i = ((i.natAbs : Nat) : Int) := by omega
    rw [e, len_tl, tl_strI]
    exact numB_len (by omega)
  have l1 : (("-" : Str) ++ z).length ≤ 3 := by rw [len_tl, tl_append, List.length_append, ← len_tl, lm]; omega
  have pos : 0 ≤ i → ∀ H2, Dr sc H2 d → Up d H H2 → Q (.str (z ++ Str.ofString (toString i))) H2 := fun h H2 hD2 hU2 => by
    have e : i = ((i.natAbs : Nat) : Int) := by omega
    refine q _ H2 ?_ hD2 hU2
    rw [e]
    exact dig_pos z48 zl (by omega)
  have posl : 0 ≤ i → (Str.ofString (toString i)).length ≤ 2 := fun h => by
    have e : i = ((i.natAbs : Nat) : Int) := by omega
    rw [e, len_tl, tl_strI]
    exact numB_len (by omega)
  refine ⟨_, rfl, _, _, rfl, rfl, _, rfl, ?_⟩
  by_cases h0 : i < 0
  · rw [decide_eq_true h0]
    refine iteT (iteT ?_)
    exact ⟨_, rfl, _, _, rfl, rfl, by omega, _, rfl, _, rfl, _, rfl, log_small (by omega), _, _, rfl, rfl, by have := negl (by omega); omega, neg (by omega) H1 hD1 hU⟩
  · rw [decide_eq_false h0]
    refine iteF ⟨_, rfl, rfl, _, rfl, ?_⟩
    by_cases h1 : i = 0
    · have e1 : decide (V.int i = V.int 0) = true := decide_eq_true (congrArg V.int h1)
      show if decide (V.int i = V.int 0) = true then _ else _
      rw [e1]
      refine iteT ⟨_, rfl, d, sc, 3, rfl, by decide, by decide, hD1, fun k H2 k0 k1 hD2 hU2 => ⟨rfl, _, rfl, ite2 (fun _ => ?_) (fun _ => ?_)⟩⟩
      · exact ⟨_, rfl, _, _, rfl, rfl, by omega, _, rfl, _, rfl, _, rfl, log_small (by omega), _, _, rfl, rfl, by have := negl (by omega); omega, neg (by omega) H2 hD2 (hU.trans hU2)⟩
      · exact ⟨_, rfl, _, rfl, _, rfl, log_small (by omega), _, _, rfl, rfl, by have := posl (by omega); omega, pos (by omega) H2 hD2 (hU.trans hU2)⟩
    · have e1 : decide (V.int i = V.int 0) = false := decide_eq_false fun z => h1 (V.int.inj z)
      show if decide (V.int i = V.int 0) = true then _ else _
      rw [e1]
      refine iteF (iteF ?_)
      exact ⟨_, rfl, _, rfl, _, rfl, log_small (by omega), _, _, rfl, rfl, by have := posl (by omega); omega, pos (by omega) H1 hD1 hU⟩
theorem ok_words {f fg : Addr} {fd fgd : FuncData} (D : DefAt K mg "_law_words" s_words ["draw", "parts"] f fd) (D_digits : DefAt K mg "_law_digits" s_digits ["draw", "number"] fg fgd) (G_digits : FnOk P w K mg base CX0 2 fg fgd ["draw", "number"] spDigits)
    (z_isinstance : mg "isinstance" = none) (z_str : mg "str" = none) : FnOk P w K mg base CX0 3 f fd ["draw", "parts"] (spWords K) := by
  refine D.F.ok sc_words (fun vs H Q E h => ?_) (fun cdv A outer s H vs Q E hr h => ?_)
  · obtain ⟨d, sc, a, us, rfl, _⟩ := h
    rfl
  obtain ⟨d, sc, a, us, rfl, ha, hw, hl, hD, q⟩ := h
  refine ⟨_, (pss_cons (ps_set (i := 2) sc_words.nd rfl (by first | exact Or.inl rfl | exact Or.inr rfl) (pe_lst pa_nil)) (pss_cons (ps_for PassesOwn.never rfl (pi_tup (pv 1)) (pg_name (i := 3) sc_words.nd rfl (by first | exact Or.inl rfl | exact Or.inr rfl)) (pss_one (ps_expr (pe_bm PySem.F.plainAttrs_list PySem.F.slot_list_append PySem.F.type_list_append mt_append (pv 2) (pa_cons (pe_ifExp (pt_val (pe_callB call_isi (by rfl) z_isinstance boot_isinstance (pa_cons (pv 3) (pa_cons (pe_bltn (v := .ty "str") (by rfl) z_str boot_str rfl) pa_nil)))) (pv 3) (pe_call G_digits (hr.mono (by omega)) (by rfl) D_digits.m D_digits.F.kp D_digits.b .nil pass0 (pa_cons (pv 0) (pa_cons (pv 3) pa_nil)))) pa_nil))))) (pss_one (ps_ret (pv 2))))), ?_⟩
  refine ⟨Nat.zero_le _, fun L nL => ?_⟩
  have Ld := hD.ne nL
  have Ls := hD.nes nL
  refine ⟨_, rfl, a, rfl, ⟨_, .of (same_new nL _ _ _ ha)⟩, for_tup (xs := us) (fun i σ H' => ∃ (zs : List Str) (y : Option V), σ = [some (.ref d), some (.ref a), some (.ref L), y] ∧ H' L = some (.lst (zs.map V.str)) ∧ KvL ((us.take i).map kv) zs ∧ H' a = some (.tup us) ∧ Dr sc H' d ∧ Up d H H')
    ⟨[], _, rfl, upd_same, trivial, same_new nL _ _ _ ha, hD.new nL, Up.new nL⟩ (fun i σ H' _ hP => ?_) (fun i x σ H' hx hP => ?_) (fun σ H' hP => ?_)⟩
  · obtain ⟨zs, y, _, _, _, h, _⟩ := hP
    exact .of h
  · obtain ⟨zs, y, rfl, b1, b2, b3, b4, b5⟩ := hP
    have htk : us.take (i + 1) = us.take i ++ [x] := by rw [List.take_add_one, hx]; rfl
    obtain ⟨hx1, hx2⟩ := hw x (List.mem_of_getElem? hx)
    have zl := b2.len
    rw [List.length_map, List.length_take] at zl
    -- one more word
    have fin : ∀ (z : Str) (H2 : Hp), KvS (kv x) z → H2 L = some (.lst (zs.map V.str)) → H2 a = some (.tup us) → Dr sc H2 d → Up d H H2 → ∃ (zs' : List Str) (y : Option V), [some (V.ref d), some (.ref a), some (.ref L), some x] = [some (.ref d), some (.ref a), some (.ref L), y] ∧ (upd H2 L (.lst (zs.map V.str ++ [.str z]))) L = some (.lst (zs'.map V.str)) ∧ KvL ((us.take (i + 1)).map kv) zs' ∧ (upd H2 L (.lst (zs.map V.str ++ [.str z]))) a = some (.tup us) ∧ Dr sc (upd H2 L (.lst (zs.map V.str ++ [.str z]))) d ∧ Up d H (upd H2 L (.lst (zs.map V.str ++ [.str z]))) := by
      intro z H2 hk c1 c2 c3 c4
      have La : a ≠ L := ne_of_none ha nL
      refine ⟨zs ++ [z], _, rfl, by rw [upd_same, List.map_append] <;> rfl, ?_, by rw [upd_ne La]; exact c2, c3.mut Ld Ls, c4.mut nL⟩
      rw [htk, List.map_append]
      exact b2.app (b := [kv x]) (y := [z]) ⟨hk, trivial⟩
    rcases hx1 with ⟨z, rfl, hz⟩ | ⟨i0, rfl, hi⟩
    · refine ⟨_, rfl, .inl ⟨rfl, _, .of b1⟩, _, rfl, _, _, _, _, true, rfl, .ty "str", .base (.str z), kit_ty (by decide +kernel), _, rfl, iteT ⟨_, rfl, L, _, _, rfl, rfl, b1, small1000 (by rw [List.length_map]; omega), ?_⟩⟩
      refine fin z H' ?_ b1 b3 b4 b5
      obtain ⟨k1, k2⟩ := hx2
      refine ⟨k1, ?_, by omega⟩
      rw [show (kv (.str z)).2 = V.str z by rw [← kv_snd ⟨k1, k2⟩]]
      exact k2
    · refine ⟨_, rfl, .inl ⟨rfl, _, .of b1⟩, _, rfl, _, _, _, _, false, rfl, .ty "str", .base (.int i0), kit_ty (by decide +kernel), _, rfl, iteF ⟨_, rfl, _, rfl, d, sc, i0, rfl, hi, b4, fun z H2 hk hD2 hU2 => ?_⟩⟩
      have c1 := hU2 _ _ Ld b1
      have ad : a ≠ d := fun e => by
        obtain ⟨xs, h⟩ := b4.lst
        rw [e, h] at b3
        cases b3
      exact ⟨L, _, _, rfl, rfl, c1, small1000 (by rw [List.length_map]; omega), fin z H2 hk c1 (hU2 _ _ ad b3) hD2 (b5.trans hU2)⟩
  · obtain ⟨zs, y, rfl, b1, b2, b3, b4, b5⟩ := hP
    rw [List.take_length] at b2
    exact ⟨_, rfl, q L zs H' nL b1 b2 b4 b5⟩
theorem ok_names {f fn : Addr} {fd fnd : FuncData} (D : DefAt K mg "_law_names" s_lnames ["draw", "names"] f fd) (D_next : DefAt K mg "_law_next" s_next ["draw", "many"] fn fnd) (G_next : FnOk P w K mg base CX0 1 fn fnd ["draw", "many"] spNext)
    (z_list : mg "list" = none) (z_range : mg "range" = none) (z_len : mg "len" = none) : FnOk P w K mg base CX0 2 f fd ["draw", "names"] spNamesL := by
  refine D.F.ok sc_lnames (fun vs H Q E h => ?_) (fun cdv A outer s H vs Q E hr h => ?_)
  · obtain ⟨d, sc, a, ks, rfl, _⟩ := h
    rfl
  obtain ⟨d, sc, a, ks, rfl, ha, hk0, hk4, hD, q⟩ := h
  have ad : a ≠ d := fun e => by
    obtain ⟨xs, h⟩ := hD.lst
    rw [e, h] at ha
    cases ha
  refine ⟨_, (pss_cons (ps_set (i := 2) sc_lnames.nd rfl (by first | exact Or.inl rfl | exact Or.inr rfl) (pe_callTy call_list_of (by rfl) z_list boot_list (pa_cons (pv 1) pa_nil))) (pss_cons (ps_for PassesOwn.never rfl (pi_range1 (by rfl) z_range (pa_cons (pe_call G_next (hr.mono (by omega)) (by rfl) D_next.m D_next.F.kp D_next.b .nil pass0 (pa_cons (pv 0) (pa_cons pe_int pa_nil))) pa_nil)) (pg_name (i := 3) sc_lnames.nd rfl (by first | exact Or.inl rfl | exact Or.inr rfl)) (pss_one (ps_set (i := 2) sc_lnames.nd rfl (by first | exact Or.inl rfl | exact Or.inr rfl) (pe_op op_cat (pe_lst (pa_cons (pe_ix ix_tup (pv 1) (pe_call G_next (hr.mono (by omega)) (by rfl) D_next.m D_next.F.kp D_next.b .nil pass0 (pa_cons (pv 0) (pa_cons (pe_callB call_len_seq (by rfl) z_len boot_len (pa_cons (pv 1) pa_nil)) pa_nil))) (fun _ _ => rfl)) pa_nil)) (pv 2))))) (pss_one (ps_ret (pe_ifExp (pt_cmpR op_eq (pe_call G_next (hr.mono (by omega)) (by rfl) D_next.m D_next.F.kp D_next.b .nil pass0 (pa_cons (pv 0) (pa_cons pe_int pa_nil))) pe_int (nomark _)) (pe_revL (pv 2)) (pv 2)))))), ?_⟩
  refine ⟨_, rfl, a, _, rfl, .inr (.of ha), fun L0 nL0 => ?_⟩
  have hD0 := hD.new (o := .lst (ks.map V.str)) nL0
  refine ⟨_, rfl, d, sc, 3, rfl, by decide, by decide, hD0, fun n H1 n0 n1 hD1 hU1 => ?_⟩
  refine ⟨_, rfl, by omega, by omega, for_range (lo := 0) (n := n.toNat) (fun i σ H' => ∃ (L : Addr) (zs : List Str) (y : Option V), σ = [some (.ref d), some (.ref a), some (.ref L), y] ∧ H L = none ∧ H' L = some (.lst (zs.map V.str)) ∧ (∀ z, z ∈ zs ↔ z ∈ ks) ∧ zs.length ≤ ks.length + i ∧ H' a = some (.tup (ks.map V.str)) ∧ Dr sc H' d ∧ Up d H H')
    ⟨L0, ks, _, rfl, nL0, hU1 _ _ (hD.ne nL0) upd_same, fun z => Iff.rfl, Nat.le_refl _, hU1 _ _ ad (same_new nL0 _ _ _ ha), hD1, (Up.new nL0).trans hU1⟩ (fun i σ H' hi hP => ?_) (fun σ H' hP => ?_)⟩
  · obtain ⟨L, zs, y, rfl, nL, b1, b2, b3, b4, b5, b6⟩ := hP
    have kpos : 0 < ks.length := List.length_pos_iff.mpr hk0
    refine ⟨_, rfl, _, rfl, _, rfl, a, _, rfl, .inr (.of b4), d, sc, _, rfl, by rw [List.length_map]; omega, by rw [List.length_map]; omega, b5, fun j H2 j0 j1 hD2 hU2 => ?_⟩
    obtain ⟨g, hg, e⟩ := pickS (xs := ks) j0 (by rw [List.length_map] at j1; exact j1)
    have b4' := hU2 _ _ ad b4
    have Ld : L ≠ d := b5.ne_strs b1
    have b1' := hU2 _ _ Ld b1
    refine ⟨a, _, j, _, rfl, rfl, .of b4', e, (by show 1 ≤ sizeLine; decide), fun l nl => ⟨_, rfl, l, L, _, _, rfl, rfl, upd_same, same_new nl _ _ _ b1', ?_, fun p np => ?_⟩⟩
    · show 1 + (zs.map V.str).length ≤ sizeLine
      rw [List.length_map, sizeLine_eq]
      omega
    · have hD3 := (hD2.new (o := .lst [.str g]) nl).new (o := .lst ([V.str g] ++ zs.map V.str)) np
      have hU3 : Up d H _ := ((b6.trans hU2).trans (Up.new (o := .lst [.str g]) nl)).trans (Up.new (o := .lst ([V.str g] ++ zs.map V.str)) np)
      refine ⟨p, g :: zs, _, rfl, ((b6.trans hU2).trans (Up.new (o := .lst [.str g]) nl)).free (hD2.new nl) np, upd_same, fun z => ?_, by rw [List.length_cons]; omega, same_new np _ _ _ (same_new nl _ _ _ b4'), hD3, hU3⟩
      rw [List.mem_cons, b2 z]
      exact ⟨fun h => h.elim (fun e => by rw [e]; exact hg) id, .inr⟩
  · obtain ⟨L, zs, y, rfl, nL, b1, b2, b3, b4, b5, b6⟩ := hP
    have hn : n.toNat ≤ 2 := by omega
    refine ⟨_, rfl, d, sc, 2, rfl, by decide, by decide, b5, fun j H2 j0 j1 hD2 hU2 => ⟨rfl, _, rfl, ite2 (fun _ => ?_) (fun _ => ?_)⟩⟩
    · have b1' := hU2 _ _ (b5.ne_strs b1) b1
      refine ⟨_, rfl, L, _, rfl, .of b1', fun p np => ?_⟩
      refine q p zs.reverse _ ((b6.trans hU2).free hD2 np) (by rw [upd_same, List.map_reverse]) (fun z => ?_) (by rw [List.length_reverse]; omega) (hD2.new np) ((b6.trans hU2).trans (Up.new np))
      rw [List.mem_reverse, b2 z]
    · exact ⟨_, rfl, q L zs H2 nL (hU2 _ _ (b5.ne_strs b1) b1) b2 (by omega) hD2 (b6.trans hU2)⟩
end
end Tf
set_option maxHeartbeats 8000000
namespace Tf
open PySem PySem.Spec PyProof.Rows L2 TL
abbrev s_bare : Stmt := (topS 50)
abbrev n_bare : List Str := ["draw", "plan", "below", "head"]
theorem sc_bare : FnScope n_bare ["draw", "plan"] (defScope s_bare) := ⟨rfl, rfl, rfl, by decide +kernel, rfl, by decide +kernel, by decide +kernel⟩
abbrev s_ltokens : Stmt := (topS 51)
abbrev n_ltokens : List Str := ["draw", "plan"]
theorem sc_ltokens : FnScope n_ltokens ["draw", "plan"] (defScope s_ltokens) := ⟨rfl, rfl, rfl, by decide +kernel, rfl, by decide +kernel, by decide +kernel⟩
theorem short3 : short srcS3 := by unfold short; decide +kernel
theorem at_back2 {h x y : V} {mid : List V} : atI (h :: (mid ++ [x, y])) (-2) = some x ∧ atI (h :: (mid ++ [x, y])) (-1) = some y := by
  have el : (h :: (mid ++ [x, y])).length = mid.length + 3 := by rw [List.length_cons, List.length_append]; rfl
  have e2 : ixN (h :: (mid ++ [x, y])).length (-2) = some (mid.length + 1) := by
    unfold ixN
    rw [if_neg (by decide), if_pos (by omega), el]
    exact congrArg some (by omega)
  have e1 : ixN (h :: (mid ++ [x, y])).length (-1) = some (mid.length + 2) := by
    unfold ixN
    rw [if_neg (by decide), if_pos (by omega), el]
    exact congrArg some (by omega)
  constructor
  · unfold atI
    rw [e2]
    show (mid ++ [x, y])[mid.length]? = some x
    rw [List.getElem?_append_right (Nat.le_refl _), Nat.sub_self] <;> rfl
  · unfold atI
    rw [e1]
    show (mid ++ [x, y])[mid.length + 1]? = some y
    rw [List.getElem?_append_right (by omega), show mid.length + 1 - mid.length = 1 by omega] <;> rfl
theorem at_back1 {h y : V} {mid : List V} : atI (h :: (mid ++ [y])) (-1) = some y := atI_last (h :: mid) y
/-- one list behind another -/
theorem cat_strs {l b : Addr} {xs ys : List Str} {H : Hp} {Q : VK} (hl : H l = some (.lst (xs.map V.str))) (hb : H b = some (.lst (ys.map V.str))) (h : xs.length + ys.length ≤ 1000) (q : ∀ p H', H p = none → Same H H' → H' p = some (.lst ((xs ++ ys).map V.str)) → Q (.ref p) H') : rCat (.ref l) (.ref b) H Q :=
  ⟨l, b, _, _, rfl, rfl, hl, hb, by rw [List.length_map, List.length_map, sizeLine_eq]; omega, fun p np => q p _ np (same_new np _) (by rw [upd_same, List.map_append])⟩
section
variable {P : Program} {w : World} {K : PySem.W.Frag} {mg : Str → Option Value} {base : Heap}
theorem bare0 {f : Addr} {fd : FuncData} {k : Nat} : FnOk P w K mg base CX0 k f fd ["draw", "plan"] (spToks srcS3 0) := by
  have no : ∀ vs H Q E, ¬ spToks srcS3 0 vs H Q E := fun vs H Q E h => by
    obtain ⟨d, sc, v, p, _, _, _, h1, _⟩ := h
    rw [size_eq] at h1
    omega
  exact ⟨fun vs H Q E h => absurd h (no vs H Q E), fun A outer s H args us vs Q E _ _ _ _ h => absurd h (no vs H Q E)⟩
theorem ok_ltokens1 {f fn fb : Addr} {fd fnd fbd : FuncData} {n k : Nat} (D : DefAt K mg "_law_tokens" s_ltokens ["draw", "plan"] f fd) (D_next : DefAt K mg "_law_next" s_next ["draw", "many"] fn fnd) (G_next : FnOk P w K mg base CX0 1 fn fnd ["draw", "many"] spNext)
    (D_bare : DefAt K mg "_law_bare" s_bare ["draw", "plan"] fb fbd) (G_bare : FnOk P w K mg base CX0 (k + 1) fb fbd ["draw", "plan"] (spBare srcS3 n)) : FnOk P w K mg base CX0 (k + 2) f fd ["draw", "plan"] (spToks srcS3 n) := by
  refine D.F.ok sc_ltokens (fun vs H Q E h => ?_) (fun cdv A outer s H vs Q E hr h => ?_)
  · obtain ⟨d, sc, v, p, rfl, _⟩ := h
    rfl
  obtain ⟨d, sc, v, p, rfl, hp, hok, hz, hz2, hD, q⟩ := h
  obtain ⟨g1, g2, g3, g4⟩ := sg_kvs
  refine ⟨_, (pss_cons (ps_if (pt_cmpR op_eq (pe_call G_next (hr.mono (by omega)) (by rfl) D_next.m D_next.F.kp D_next.b .nil pass0 (pa_cons (pv 0) (pa_cons pe_int pa_nil))) pe_int (nomark _)) (pss_one (ps_ret (pe_op op_cat (pe_op op_cat (pe_lst (pa_cons pe_str pa_nil)) (pe_call G_bare (hr.mono (by omega)) (by rfl) D_bare.m D_bare.F.kp D_bare.b .nil pass0 (pa_cons (pv 0) (pa_cons (pv 1) pa_nil)))) (pe_lst (pa_cons pe_str pa_nil))))) pss_nil) (pss_one (ps_ret (pe_call G_bare (hr.mono (by omega)) (by rfl) D_bare.m D_bare.F.kp D_bare.b .nil pass0 (pa_cons (pv 0) (pa_cons (pv 1) pa_nil)))))), ?_⟩
  refine ⟨_, rfl, d, sc, 7, rfl, by decide, by decide, hD, fun j H1 j0 j1 hD1 hU1 => ⟨rfl, _, rfl, ite2 (fun _ => ?_) (fun _ => ?_)⟩⟩
  · refine ⟨(by show 1 ≤ sizeLine; decide), fun l nl => ?_⟩
    have hD2 := hD1.new (o := .lst [V.str "("]) nl
    have u2 := hU1.trans (Up.new (o := .lst [V.str "("]) nl)
    refine ⟨_, rfl, _, rfl, d, sc, v, p, rfl, hp.mono (u2.tupUp hD), hok, hz, hz2, hD2, fun L zs kvs H3 nL hL hk hw hlen hD3 hU3 => ?_⟩
    have hl3 := hU3 _ _ (hD1.ne nl) upd_same
    refine cat_strs (xs := [("(" : Str)]) (ys := zs) hl3 hL (by show 1 + zs.length ≤ 1000; omega) fun p1 H4 np1 s4 hp1 => ⟨(by show 1 ≤ sizeLine; decide), fun l2 nl2 => ?_⟩
    have s5 := same_new nl2 (.lst [V.str ")"])
    refine cat_strs (xs := [("(" : Str)] ++ zs) (ys := [")"]) (s5 _ _ hp1) upd_same (by show zs.length + 1 + 1 ≤ 1000; omega) fun p2 H6 np2 s6 hp2 => ?_
    have s46 := (s4.trans s5).trans s6
    have uu := (u2.trans hU3).trans (Up.same s46)
    refine q p2 _ (sg "(" :: (kvs ++ [sg ")"])) H6 ((((u2.trans hU3).trans (Up.same (s4.trans s5)))).free (hD3.up (s4.trans s5)) np2) hp2 ?_ (.par hw) ?_ (hD3.up s46) uu
    · exact ⟨g1, hk.app (kvl_one g2)⟩
    · show (zs ++ [(")" : Str)]).length + 1 ≤ 14 * p.size
      rw [List.length_append]
      show zs.length + 1 + 1 ≤ 14 * p.size
      omega
  · refine ⟨_, rfl, _, rfl, d, sc, v, p, rfl, hp.mono (hU1.tupUp hD), hok, hz, hz2, hD1, fun L zs kvs H3 nL hL hk hw hlen hD3 hU3 => ?_⟩
    exact q L zs kvs H3 (hU1.free hD1 nL) hL hk hw (by omega) hD3 (hU1.trans hU3)
theorem ok_bare1 {f fw fm ft : Addr} {fd fwd fmd ftd : FuncData} {n k : Nat} (D : DefAt K mg "_law_bare" s_bare ["draw", "plan"] f fd) (D_words : DefAt K mg "_law_words" s_words ["draw", "parts"] fw fwd) (G_words : FnOk P w K mg base CX0 3 fw fwd ["draw", "parts"] (spWords K))
    (D_lnames : DefAt K mg "_law_names" s_lnames ["draw", "names"] fm fmd) (G_lnames : FnOk P w K mg base CX0 2 fm fmd ["draw", "names"] spNamesL)
    (D_ltokens : DefAt K mg "_law_tokens" s_ltokens ["draw", "plan"] ft ftd) (G_ltokens : FnOk P w K mg base CX0 (k + 3) ft ftd ["draw", "plan"] (spToks srcS3 n)) : FnOk P w K mg base CX0 (k + 4) f fd ["draw", "plan"] (spBare srcS3 (n + 1)) := by
  refine D.F.ok sc_bare (fun vs H Q E h => ?_) (fun cdv A outer s H vs Q E hr h => ?_)
  · obtain ⟨d, sc, v, p, rfl, _⟩ := h
    rfl
  obtain ⟨d, sc, v, p, rfl, hp, hok, hz, hz2, hD, q⟩ := h
  obtain ⟨g1, g2, g3, g4⟩ := sg_kvs
  refine ⟨_, (pss_cons (ps_if (pt_cmpR op_eq (pe_ix ix_tup (pv 1) pe_int (fun _ _ => rfl)) pe_str (nomark _)) (pss_one (ps_ret (pe_lst (pa_cons (pe_ix ix_tup (pv 1) pe_int (fun _ _ => rfl)) pa_nil)))) pss_nil) (pss_cons (ps_if (pt_cmpR op_in_seq (pe_ix ix_tup (pv 1) pe_int (fun _ _ => rfl)) (pe_tup (pa_cons pe_str (pa_cons pe_str (pa_cons pe_str (pa_cons pe_str pa_nil))))) rfl) (pss_cons (ps_set (i := 3) sc_bare.nd rfl (by first | exact Or.inl rfl | exact Or.inr rfl) (pe_call G_words (hr.mono (by omega)) (by rfl) D_words.m D_words.F.kp D_words.b .nil pass0 (pa_cons (pv 0) (pa_cons (pe_slice sl_tup (pv 1) po_none (po_some (pe_un un_neg pe_int))) pa_nil)))) (pss_one (ps_ret (pe_op op_cat (pe_op op_cat (pe_op op_cat (pe_op op_cat (pe_op op_cat (pv 3) (pe_lst (pa_cons pe_str pa_nil))) (pe_call G_ltokens (hr.mono (by omega)) (by rfl) D_ltokens.m D_ltokens.F.kp D_ltokens.b .nil pass0 (pa_cons (pv 0) (pa_cons (pe_ix ix_tup (pv 1) (pe_un un_neg pe_int) (fun _ _ => rfl)) pa_nil)))) (pe_lst (pa_cons pe_str pa_nil))) (pe_call G_ltokens (hr.mono (by omega)) (by rfl) D_ltokens.m D_ltokens.F.kp D_ltokens.b .nil pass0 (pa_cons (pv 0) (pa_cons (pe_ix ix_tup (pv 1) (pe_un un_neg pe_int) (fun _ _ => rfl)) pa_nil)))) (pe_lst (pa_cons pe_str pa_nil)))))) pss_nil) (pss_cons (ps_set (i := 2) sc_bare.nd rfl (by first | exact Or.inl rfl | exact Or.inr rfl) (pe_op op_cat (pe_call G_ltokens (hr.mono (by omega)) (by rfl) D_ltokens.m D_ltokens.F.kp D_ltokens.b .nil pass0 (pa_cons (pv 0) (pa_cons (pe_ix ix_tup (pv 1) (pe_un un_neg pe_int) (fun _ _ => rfl)) pa_nil))) (pe_lst (pa_cons pe_str pa_nil)))) (pss_cons (ps_if (pt_cmpR op_ne (pe_ix ix_tup (pv 1) pe_int (fun _ _ => rfl)) pe_str (nomark _)) (pss_one (ps_ret (pe_op op_cat (pv 2) (pe_call G_words (hr.mono (by omega)) (by rfl) D_words.m D_words.F.kp D_words.b .nil pass0 (pa_cons (pv 0) (pa_cons (pe_slice sl_tup (pv 1) po_none (po_some (pe_un un_neg pe_int))) pa_nil)))))) pss_nil) (pss_cons (ps_if (pt_cmpR op_eq (pe_ix ix_seq (pe_ix ix_tup (pv 1) pe_int (fun _ _ => rfl)) pe_int (fun _ _ => rfl)) pe_str (nomark _)) (pss_one (ps_ret (pe_op op_cat (pe_op op_cat (pv 2) (pe_lst (pa_cons pe_str pa_nil))) (pe_call G_lnames (hr.mono (by omega)) (by rfl) D_lnames.m D_lnames.F.kp D_lnames.b .nil pass0 (pa_cons (pv 0) (pa_cons (pe_ix ix_seq (pe_ix ix_tup (pv 1) pe_int (fun _ _ => rfl)) pe_int (fun _ _ => rfl)) pa_nil)))))) pss_nil) (pss_one (ps_ret (pe_op op_cat (pv 2) (pe_call G_words (hr.mono (by omega)) (by rfl) D_words.m D_words.F.kp D_words.b .nil pass0 (pa_cons (pv 0) (pa_cons (pe_ix ix_tup (pv 1) pe_int (fun _ _ => rfl)) pa_nil))))))))))), ?_⟩
  rcases ins_cases p with ⟨m, rfl⟩ | ⟨q0, e⟩ | ⟨l, r, e⟩
  · obtain ⟨a, rfl, ha⟩ := hp.op0
    refine ⟨_, rfl, a, _, _, _, rfl, rfl, .of ha, atI_nat (j := 0) rfl, rfl, _, sdec rfl, iteT ?_⟩
    refine ⟨_, rfl, a, _, _, _, rfl, rfl, .of ha, atI_nat (j := 1) rfl, (by show 1 ≤ sizeLine; decide), fun t nt => ?_⟩
    obtain ⟨x1, x2, x3⟩ := let_all3.1 m hok
    exact q t [m] [wd m] _ nt upd_same (kvl_one (kvS_word x1 x3)) (.src x2) (by show 1 + 2 ≤ 14 * 1; decide) (hD.new nt) (Up.new nt)
  · obtain ⟨a, mid, y, rfl, ha, hy, hm, hns, hnp, hc⟩ := hp.op1 e
    have hs := size_one e
    have hw := pl_words short3 hok
    have hwv := pl_wv hok (by rw [e]; exact List.cons_ne_nil _ _)
    refine ⟨_, rfl, a, _, _, _, rfl, rfl, .of ha, atI_nat (j := 0) rfl, rfl, _, sdecF hns, iteF ?_⟩
    refine ⟨_, rfl, a, _, _, _, rfl, rfl, .of ha, atI_nat (j := 0) rfl, (by show 4 ≤ sizeLine; decide), fun tp ntp => ⟨tp, _, rfl, .inr (.of upd_same), rfl, rfl, _, in_dec p.head pairS, ?_⟩⟩
    rw [decide_eq_false hnp]
    refine iteF ?_
    have s1 := same_new ntp (.tup [V.str "both", V.str "less", V.str "without", V.str "near"])
    -- below = _law_tokens(draw, plan[-1]) + ['|']
    refine ⟨_, rfl, _, rfl, 1, rfl, a, _, _, _, rfl, rfl, .of (s1 _ _ ha), at_back1, d, sc, y, q0, rfl, hy.mono (.same s1), ok_one e hok, by omega, by omega, hD.up s1, fun L zs kvs H2 nL hL hk hwp hlen hD2 hU2 => ⟨(by show 1 ≤ sizeLine; decide), fun l1 nl1 => ?_⟩⟩
    have s3 := same_new nl1 (.lst [V.str "|"])
    refine cat_strs (xs := zs) (ys := ["|"]) (s3 _ _ hL) upd_same (by show zs.length + 1 ≤ 1000; omega) fun B H4 nB s4 hB => ?_
    have u2 : Up d H H2 := (Up.same s1).trans hU2
    have s34 := s3.trans s4
    have hD4 := hD2.up s34
    have u4 : Up d H H4 := u2.trans (Up.same s34)
    have k4 := u4.tupUp hD
    have ha4 := k4 _ _ ha
    have hkB : KvL (kvs ++ [sg "|"]) (zs ++ [("|" : Str)]) := hk.app (kvl_one g4)
    have zB : (zs ++ [("|" : Str)]).length = zs.length + 1 := by rw [List.length_append]; rfl
    -- the words behind: at W, of a heap that knows the rest
    have fin : ∀ (W : Addr) (ys : List Str) (ks : List Kv) (H5 : Hp) (Q' : VK), H5 W = some (.lst (ys.map V.str)) → KvL ks ys → Wp p (kvs ++ (sg "|" :: ks)) → ys.length ≤ 7 → Dr sc H5 d → Up d H4 H5 → (∀ l (zs : List Str) kvs H', H l = none → H' l = some (.lst (zs.map V.str)) → KvL kvs zs → Wp p kvs → zs.length + 2 ≤ 14 * p.size → Dr sc H' d → Up d H H' → Q' (.ref l) H') → rCat (.ref B) (.ref W) H5 Q' := by
      intro W ys ks H5 Q' hW hks hwp2 hyl hD5 hU5 q'
      have hB5 := hU5 _ _ (hD4.ne_strs hB) hB
      refine cat_strs hB5 hW (by rw [zB]; omega) fun p2 H6 np2 s6 hp2 => ?_
      refine q' p2 _ (kvs ++ [sg "|"] ++ ks) H6 ((u4.trans hU5).free hD5 np2) hp2 (hkB.app hks) (by rw [List.append_assoc]; exact hwp2) (by rw [List.length_append, zB]; omega) (hD5.up s6) ((u4.trans hU5).trans (Up.same s6))
    refine ⟨_, rfl, a, _, _, _, rfl, rfl, .of ha4, atI_nat (j := 0) rfl, rfl, _, rfl, ?_⟩
    rcases hc with ⟨h1, h2, h3⟩ | ⟨st, x, rfl, rfl, hst⟩
    · rw [decide_eq_false (fun z => h1 (V.str.inj z))]
      refine iteT ?_
      obtain ⟨f1, f2⟩ := cut_front (h := .str p.head) (mid := mid) (vs := [y]) (n := 1) rfl (by decide)
      refine ⟨_, rfl, _, rfl, _, rfl, _, rfl, _, rfl, a, _, rfl, .of ha4, f2, fun tw ntw => ?_⟩
      have f1' : cutV (V.str p.head :: (mid ++ [y])) none (some (-1)) = p.words := f1.trans h3.symm
      rw [f1']
      have s5 := same_new ntw (.tup p.words)
      refine ⟨d, sc, tw, p.words, rfl, upd_same, fun u hu => ⟨hw.1 u hu, hwv u hu⟩, by have := hw.2; omega, hD4.up s5, fun W ys H5 nW hW hkw hD5 hU5 => ?_⟩
      exact fin W ys _ H5 Q hW hkw (wp_one hok e hwp) (by rw [← hkw.len, List.length_map]; have := hw.2; omega) hD5 ((Up.same s5).trans hU5) q
    · have est : (!decide (V.str (Pl.stage st q0).head = V.str "stage")) = false := by
        show (!decide (V.str ("stage" : Str) = V.str "stage")) = false
        exact dec_self _
      rw [est]
      refine iteF ?_
      have hst4 := hst.mono k4
      have hx : ∃ t us, x = .ref t ∧ H4 t = some (.tup us) ∧ ((∃ ks k, st = .only ks ∧ us = [.str "only", .ref k] ∧ H4 k = some (.tup (ks.map V.str))) ∨ (us = st.words ∧ ∃ z, us.head? = some (.str z) ∧ z ≠ ("only" : Str))) := by
        have nn : ∀ z ∈ (["sift", "rekey", "scale", "later"] : List Str), z ≠ ("only" : Str) := by decide +kernel
        cases st with
        | sift c b => obtain ⟨t, e, h⟩ := hst4; exact ⟨t, _, e, h, .inr ⟨rfl, _, rfl, nn _ (by simp)⟩⟩
        | only ks => obtain ⟨t, k, e, h, g⟩ := hst4; exact ⟨t, _, e, h, .inl ⟨ks, k, rfl, rfl, g⟩⟩
        | rekey c => obtain ⟨t, e, h⟩ := hst4; exact ⟨t, _, e, h, .inr ⟨rfl, _, rfl, nn _ (by simp)⟩⟩
        | scale c => obtain ⟨t, e, h⟩ := hst4; exact ⟨t, _, e, h, .inr ⟨rfl, _, rfl, nn _ (by simp)⟩⟩
        | later c => obtain ⟨t, e, h⟩ := hst4; exact ⟨t, _, e, h, .inr ⟨rfl, _, rfl, nn _ (by simp)⟩⟩
      obtain ⟨t, us, rfl, ht, hu⟩ := hx
      refine ⟨_, rfl, a, _, _, _, rfl, rfl, .of ha4, atI_nat (j := 1) rfl, ?_⟩
      rcases hu with ⟨ks, k, rfl, rfl, hk2⟩ | ⟨rfl, z, hz0, hno⟩
      · refine .inr (.inl ⟨t, _, _, _, rfl, rfl, .of ht, atI_nat (j := 0) rfl, rfl, _, sdec rfl, iteT ?_⟩)
        -- below + ['only'] + _law_names(..)
        refine ⟨_, rfl, (by show 1 ≤ sizeLine; decide), fun l2 nl2 => ?_⟩
        have s5 := same_new nl2 (.lst [V.str "only"])
        refine cat_strs (xs := zs ++ [("|" : Str)]) (ys := ["only"]) (s5 _ _ hB) upd_same (by rw [zB]; show _ + 1 ≤ 1000; omega) fun B2 H6 nB2 s6 hB2 => ?_
        have s56 := s5.trans s6
        have hko : ks ≠ [] ∧ ks.Sublist keyS := hok.1
        have k4l : ks.length ≤ 4 := hko.2.length_le
        refine ⟨_, rfl, _, rfl, a, _, _, _, rfl, rfl, .of (s56 _ _ ha4), atI_nat (j := 1) rfl, .inr (.inl ⟨t, _, _, _, rfl, rfl, .of (s56 _ _ ht), atI_nat (j := 1) rfl, d, sc, k, ks, rfl, s56 _ _ hk2, hko.1, k4l, hD4.up s56, fun W ys H7 nW hW hmem hyl hD7 hU7 => ?_⟩)⟩
        have hB7 := hU7 _ _ ((hD4.up s56).ne_strs hB2) hB2
        have zB2 : (zs ++ [("|" : Str)] ++ [("only" : Str)]).length = zs.length + 2 := by rw [List.length_append, zB]; rfl
        refine cat_strs hB7 hW (by rw [zB2]; omega) fun p2 H8 np2 s8 hp2 => ?_
        have yk : ∀ z ∈ ys, letS z = true ∧ z.length ≤ 30 := fun z hz => by
          have hz' := hko.2.subset ((hmem z).mp hz)
          exact ⟨(let_all.2.1 z hz').1, let_all3.2.1 z hz'⟩
        have yn : ∀ z ∈ ys, NameS z := fun z hz => (let_all.2.1 z (hko.2.subset ((hmem z).mp hz))).2
        have y0 : ys ≠ [] := fun e0 => by
          obtain ⟨c, hc⟩ := List.exists_mem_of_ne_nil _ hko.1
          have := (hmem c).mpr hc
          rw [e0] at this
          exact absurd this List.not_mem_nil
        have u7 : Up d H H7 := (u4.trans (Up.same s56)).trans hU7
        have on := let_all3.2.2 "only" (by simp)
        refine q p2 _ (kvs ++ [sg "|"] ++ [wd "only"] ++ ys.map wd) H8 (u7.free hD7 np2) hp2 ((hkB.app (kvl_one (kvS_word on.2 on.1))).app (kvl_words yk)) ?_ (by rw [List.length_append, zB2]; omega) (hD7.up s8) (u7.trans (Up.same s8))
        rw [List.append_assoc, List.append_assoc]
        exact .stage hwp (.only y0 yn hmem (by omega))
      · have hz1 : st.words[0]? = some (.str z) := by rw [← List.head?_eq_getElem?]; exact hz0
        refine .inr (.inl ⟨t, _, _, _, rfl, rfl, .of ht, atI_nat (j := 0) hz1, rfl, _, sdecF hno, iteF ?_⟩)
        refine ⟨_, rfl, _, rfl, _, rfl, a, _, _, _, rfl, rfl, .of ha4, atI_nat (j := 1) rfl, d, sc, t, st.words, rfl, ht, fun u hu => ⟨hw.1 u hu, hwv u hu⟩, by have := hw.2; show st.words.length ≤ 8; exact Nat.le_trans this (by decide), hD4, fun W ys H5 nW hW hkw hD5 hU5 => ?_⟩
        exact fin W ys _ H5 Q hW hkw (wp_one hok e hwp) (by rw [← hkw.len, List.length_map]; exact Nat.le_trans hw.2 (by decide)) hD5 hU5 q
  · obtain ⟨a, mid, x, y, rfl, ha, hx, hy, hm, hns, hnp, hc⟩ := hp.op2 e
    obtain ⟨k1, k2⟩ := ok_two e hok
    have hs := size_two e
    have hw := pl_words short3 hok
    have hwv := pl_wv hok (by rw [e]; exact List.cons_ne_nil _ _)
    refine ⟨_, rfl, a, _, _, _, rfl, rfl, .of ha, atI_nat (j := 0) rfl, rfl, _, sdecF hns, iteF ?_⟩
    refine ⟨_, rfl, a, _, _, _, rfl, rfl, .of ha, atI_nat (j := 0) rfl, (by show 4 ≤ sizeLine; decide), fun tp ntp => ⟨tp, _, rfl, .inr (.of upd_same), rfl, rfl, _, in_dec p.head pairS, ?_⟩⟩
    rw [decide_eq_true hnp]
    refine iteT ?_
    have s1 := same_new ntp (.tup [V.str "both", V.str "less", V.str "without", V.str "near"])
    -- head = _law_words(draw, plan[:-2])
    obtain ⟨f1, f2⟩ := cut_front (h := .str p.head) (mid := mid) (vs := [x, y]) (n := 2) rfl (by decide)
    refine ⟨_, rfl, _, rfl, _, rfl, _, rfl, a, _, rfl, .of (s1 _ _ ha), f2, fun tw ntw => ?_⟩
    have f1' : cutV (V.str p.head :: (mid ++ [x, y])) none (some (-2)) = p.words := f1.trans hc.symm
    rw [f1']
    have s2 := s1.trans (same_new ntw (.tup p.words))
    refine ⟨d, sc, tw, p.words, rfl, upd_same, fun u hu => ⟨hw.1 u hu, hwv u hu⟩, by have := hw.2; omega, hD.up s2, fun W zw H3 nW hW hkw hD3 hU3 => ?_⟩
    have u3 : Up d H H3 := (Up.same s2).trans hU3
    have lw : zw.length ≤ 5 := by rw [← hkw.len, List.length_map]; exact hw.2
    -- head + ['(']
    refine ⟨_, rfl, (by show 1 ≤ sizeLine; decide), fun l1 nl1 => ?_⟩
    have s4 := same_new nl1 (.lst [V.str "("])
    refine cat_strs (xs := zw) (ys := ["("]) (s4 _ _ hW) upd_same (by show zw.length + 1 ≤ 1000; omega) fun B H5 nB s5 hB => ?_
    have s45 := s4.trans s5
    have hD5 := hD3.up s45
    have u5 := u3.trans (Up.same s45)
    have t5 := u5.tupUp hD
    have zB : (zw ++ [("(" : Str)]).length = zw.length + 1 := by rw [List.length_append]; rfl
    -- + _law_tokens(draw, plan[-2])
    refine ⟨_, rfl, _, rfl, 2, rfl, a, _, _, _, rfl, rfl, .of (t5 _ _ ha), at_back2.1, d, sc, x, l, rfl, hx.mono t5, k1, by omega, by omega, hD5, fun L zl kl H6 nL hL hkl hwl hll hD6 hU6 => ?_⟩
    have hB6 := hU6 _ _ (hD5.ne_strs hB) hB
    refine cat_strs hB6 hL (by rw [zB]; omega) fun B2 H7 nB2 s7 hB2 => ⟨(by show 1 ≤ sizeLine; decide), fun l2 nl2 => ?_⟩
    have s8 := same_new nl2 (.lst [V.str ","])
    have zB2 : (zw ++ [("(" : Str)] ++ zl).length = zw.length + 1 + zl.length := by rw [List.length_append, zB]
    -- + [',']
    refine cat_strs (ys := [","]) (s8 _ _ hB2) upd_same (by rw [zB2]; show _ + 1 ≤ 1000; omega) fun B3 H9 nB3 s9 hB3 => ?_
    have s79 := (s7.trans s8).trans s9
    have hD9 := hD6.up s79
    have u9 := (u5.trans hU6).trans (Up.same s79)
    have t9 := u9.tupUp hD
    have zB3 : (zw ++ [("(" : Str)] ++ zl ++ [("," : Str)]).length = zw.length + 1 + zl.length + 1 := by rw [List.length_append, zB2]; rfl
    -- + _law_tokens(draw, plan[-1])
    refine ⟨_, rfl, _, rfl, 1, rfl, a, _, _, _, rfl, rfl, .of (t9 _ _ ha), at_back2.2, d, sc, y, r, rfl, hy.mono t9, k2, by omega, by omega, hD9, fun R zr kr H10 nR hR hkr hwr hlr hD10 hU10 => ?_⟩
    have hB10 := hU10 _ _ (hD9.ne_strs hB3) hB3
    refine cat_strs hB10 hR (by rw [zB3]; omega) fun B4 H11 nB4 s11 hB4 => ⟨(by show 1 ≤ sizeLine; decide), fun l3 nl3 => ?_⟩
    have s12 := same_new nl3 (.lst [V.str ")"])
    have zB4 : (zw ++ [("(" : Str)] ++ zl ++ [("," : Str)] ++ zr).length = zw.length + 1 + zl.length + 1 + zr.length := by rw [List.length_append, zB3]
    -- + [')']
    refine cat_strs (ys := [")"]) (s12 _ _ hB4) upd_same (by rw [zB4]; show _ + 1 ≤ 1000; omega) fun B5 H13 nB5 s13 hB5 => ?_
    have s11b := s11.trans s12
    have u12 := (u9.trans hU10).trans (Up.same s11b)
    refine q B5 _ (p.words.map kv ++ [sg "("] ++ kl ++ [sg ","] ++ kr ++ [sg ")"]) H13 (u12.free (hD10.up s11b) nB5) hB5 (((((hkw.app (kvl_one g1)).app hkl).app (kvl_one g3)).app hkr).app (kvl_one g2)) ?_ ?_ (hD10.up (s11b.trans s13)) (u12.trans (Up.same s13))
    · have := wp_two hok e hwl hwr
      simp only [List.append_assoc, List.cons_append, List.nil_append] at this ⊢
      exact this
    · rw [List.length_append, zB4]
      show zw.length + 1 + zl.length + 1 + zr.length + 1 + 2 ≤ 14 * p.size
      omega
theorem ok_ltokens {f fn fb fw fm : Addr} {fd fnd fbd fwd fmd : FuncData} (D_ltokens : DefAt K mg "_law_tokens" s_ltokens ["draw", "plan"] f fd) (D_next : DefAt K mg "_law_next" s_next ["draw", "many"] fn fnd) (G_next : FnOk P w K mg base CX0 1 fn fnd ["draw", "many"] spNext)
    (D_bare : DefAt K mg "_law_bare" s_bare ["draw", "plan"] fb fbd) (D_words : DefAt K mg "_law_words" s_words ["draw", "parts"] fw fwd) (G_words : FnOk P w K mg base CX0 3 fw fwd ["draw", "parts"] (spWords K))
    (D_lnames : DefAt K mg "_law_names" s_lnames ["draw", "names"] fm fmd) (G_lnames : FnOk P w K mg base CX0 2 fm fmd ["draw", "names"] spNamesL) : ∀ n : Nat, FnOk P w K mg base CX0 (2 * n + 3) f fd ["draw", "plan"] (spToks srcS3 n)
  | 0 => bare0
  | n + 1 => ok_ltokens1 (k := 2 * n + 3) D_ltokens D_next G_next D_bare (ok_bare1 (k := 2 * n) D_bare D_words G_words D_lnames G_lnames D_ltokens (ok_ltokens D_ltokens D_next G_next D_bare D_words G_words D_lnames G_lnames n))
end
end Tf
set_option maxHeartbeats 8000000
namespace Tf
open PySem PySem.Spec PyProof.Rows L2 TL
abbrev s_gap : Stmt := (topS 45)
abbrev n_gap : List Str := ["draw"]
theorem sc_gap : FnScope n_gap ["draw"] (defScope s_gap) := ⟨rfl, rfl, rfl, by decide +kernel, rfl, by decide +kernel, by decide +kernel⟩
abbrev s_joint : Stmt := (topS 46)
abbrev n_joint : List Str := ["draw", "last", "word", "gap"]
theorem sc_joint : FnScope n_joint ["draw", "last", "word"] (defScope s_joint) := ⟨rfl, rfl, rfl, by decide +kernel, rfl, by decide +kernel, by decide +kernel⟩
abbrev s_text : Stmt := (topS 52)
abbrev n_text : List Str := ["draw", "words", "text", "last", "word"]
theorem sc_text : FnScope n_text ["draw", "words"] (defScope s_text) := ⟨rfl, rfl, rfl, by decide +kernel, rfl, by decide +kernel, by decide +kernel⟩
section
variable {P : Program} {w : World} {K : PySem.W.Frag} {mg : Str → Option Value} {base : Heap}
theorem ok_gap {f fn : Addr} {fd fnd : FuncData} (D : DefAt K mg "_law_gap" s_gap ["draw"] f fd) (D_next : DefAt K mg "_law_next" s_next ["draw", "many"] fn fnd) (G_next : FnOk P w K mg base CX0 1 fn fnd ["draw", "many"] spNext) :
    FnOk P w K mg base CX0 2 f fd ["draw"] spGap := by
  refine D.F.ok sc_gap (fun vs H Q E h => ?_) (fun cdv A outer s H vs Q E hr h => ?_)
  · obtain ⟨a, sc, rfl, _⟩ := h
    rfl
  obtain ⟨d, sc, rfl, hD, q⟩ := h
  refine ⟨_, (pss_one (ps_ret (pe_ix ix_list (pe_lst (pa_cons pe_str (pa_cons pe_str (pa_cons pe_str (pa_cons pe_str (pa_cons pe_str pa_nil)))))) (pe_call G_next (hr.mono (by omega)) (by rfl) D_next.m D_next.F.kp D_next.b .nil pass0 (pa_cons (pv 0) (pa_cons pe_int pa_nil))) (fun _ _ => rfl)))), ?_⟩
  refine ⟨(by show 5 ≤ sizeLine; decide), fun l nl => ?_⟩
  refine ⟨_, rfl, d, sc, 5, rfl, by decide, by decide, hD.new nl, fun i H' i0 i1 hD' hU => ?_⟩
  obtain ⟨g, hg, e⟩ := pickS (xs := gapS) i0 (by exact i1)
  refine ⟨l, _, i, _, rfl, rfl, .of (hU _ _ (hD.ne nl) upd_same), e, ?_⟩
  exact q g H' hg hD' ((Up.new nl).trans hU)
theorem ok_joint {f fg : Addr} {fd fgd : FuncData} (D : DefAt K mg "_law_joint" s_joint ["draw", "last", "word"] f fd) (D_gap : DefAt K mg "_law_gap" s_gap ["draw"] fg fgd) (G_gap : FnOk P w K mg base CX0 2 fg fgd ["draw"] spGap) :
    FnOk P w K mg base CX0 3 f fd ["draw", "last", "word"] spJoint := by
  refine D.F.ok sc_joint (fun vs H Q E h => ?_) (fun cdv A outer s H vs Q E hr h => ?_)
  · obtain ⟨d, sc, l, wd, rfl, _⟩ := h
    rfl
  obtain ⟨d, sc, last, word, rfl, hD, hne, hw, hl, q⟩ := h
  have lineW : word.length ≤ sizeLine := Nat.le_of_lt (small1000 hw)
  have lineL : last.length ≤ sizeLine := Nat.le_of_lt (small1000 hl)
  obtain ⟨b, hb⟩ : ∃ b, (tl word).head? = some b := by
    cases e : tl word with
    | nil => exact absurd e hne
    | cons c r => exact ⟨c, rfl⟩
  have hb0 : (tl word)[0]? = some b := by rw [← List.head?_eq_getElem?]; exact hb
  refine ⟨_, (pss_cons (ps_set (i := 3) sc_joint.nd rfl (by first | exact Or.inl rfl | exact Or.inr rfl) (pe_call G_gap (hr.mono (by omega)) (by rfl) D_gap.m D_gap.F.kp D_gap.b .nil pass0 (pa_cons (pv 0) pa_nil))) (pss_cons (ps_if (PW.pt (pw_and (pt_cmpR op_eq (pv 3) pe_str (nomark _)) (pw_and (pt_cmpR op_ne (pv 1) pe_str (nomark _)) (pw_and (pt_cmpR op_in_sign (pe_ix ix_str (pv 1) (pe_un un_neg pe_int) (fun _ _ => rfl)) pe_str rfl) (pw_and1 (pt_cmpR op_in_sign (pe_ix ix_str (pv 2) pe_int (fun _ _ => rfl)) pe_str rfl)))))) (pss_one (ps_ret pe_str)) pss_nil) (pss_cons (ps_if (PW.pt (pw_and (pt_cmpR op_eq (pv 3) pe_str (nomark _)) (pw_and (pt_cmpR op_ne (pv 1) pe_str (nomark _)) (pw_and (pt_cmpR op_in_sign (pe_ix ix_str (pv 1) (pe_un un_neg pe_int) (fun _ _ => rfl)) pe_str rfl) (pw_and1 (pt_cmpR op_in_sign (pe_ix ix_str (pv 2) pe_int (fun _ _ => rfl)) pe_str rfl)))))) (pss_one (ps_ret pe_str)) pss_nil) (pss_one (ps_ret (pv 3)))))), ?_⟩
  refine ⟨_, rfl, d, sc, rfl, hD, fun g H' hg hD' hU => ?_⟩
  have sp : (" " : Str) ∈ gapS := by decide +kernel
  have spn : tl (" " : Str) ≠ [] := by decide +kernel
  by_cases hg0 : g = ("" : Str)
  · by_cases hl0 : last = ("" : Str)
    · -- last == ''
      refine ⟨_, rfl, rfl, _, rfl, ite2 (fun _ => ?_) (fun e => absurd (decide_eq_true (congrArg V.str hg0)) e)⟩
      refine ⟨_, rfl, rfl, _, rfl, ?_⟩
      rw [decide_eq_true (congrArg V.str hl0)]
      refine iteF ?_
      refine ⟨_, rfl, rfl, _, rfl, ite2 (fun _ => ?_) (fun e => absurd (decide_eq_true (congrArg V.str hg0)) e)⟩
      refine ⟨_, rfl, rfl, _, rfl, ?_⟩
      rw [decide_eq_true (congrArg V.str hl0)]
      refine iteF ?_
      refine ⟨_, rfl, ?_⟩
      refine q g H' hg (fun _ a b' ha => ?_) hD' hU
      rw [hl0] at ha
      have : tl ("" : Str) = [] := by decide +kernel
      rw [this] at ha
      cases ha
    · have hln : tl last ≠ [] := fun e => hl0 (ext_tl (by rw [e]; decide +kernel))
      obtain ⟨a, ha⟩ := last_of hln
      have hat : atI (tl last) (-1) = some a := by
        have e := List.dropLast_concat_getLast hln
        have e2 : (tl last).getLast hln = a := Option.some.inj ((List.getLast?_eq_some_getLast hln).symm.trans ha)
        rw [← e, e2]
        exact atI_last _ _
      refine ⟨_, rfl, rfl, _, rfl, ite2 (fun _ => ?_) (fun e => absurd (decide_eq_true (congrArg V.str hg0)) e)⟩
      refine ⟨_, rfl, rfl, _, rfl, ?_⟩
      rw [decide_eq_false (fun e => hl0 (V.str.inj e))]
      refine iteT ?_
      -- last[-1] in letters
      refine ⟨_, rfl, 1, rfl, last, -1, a, rfl, rfl, lineL, hat, a, _, rfl, rfl, _, rfl, ?_⟩
      have bothL : ∀ c : Nat, decide (c ∈ tl ("abcdefghijklmnopqrstuvwxyz" : Str)) = decide (Lt c) := fun c => by
        rw [Bool.eq_iff_iff, decide_eq_true_iff, decide_eq_true_iff]; exact mem_letters c
      have bothD : ∀ c : Nat, decide (c ∈ tl ("0123456789" : Str)) = decide (Dg c) := fun c => by
        rw [Bool.eq_iff_iff, decide_eq_true_iff, decide_eq_true_iff]; exact mem_digits c
      refine if_tt (decide (Lt a ∧ Lt b)) (fun e1 Q' q' => ?_) (fun e1 => ?_) ?_
      · refine ⟨_, rfl, _, 0, b, rfl, rfl, lineW, atI_nat hb0, b, _, rfl, rfl, _, rfl, ?_⟩
        have h1 : Lt a := (mem_letters a).mp (of_decide_eq_true e1)
        rw [show decide (b ∈ tl ("abcdefghijklmnopqrstuvwxyz" : Str)) = decide (Lt a ∧ Lt b) by rw [bothL, Bool.eq_iff_iff, decide_eq_true_iff, decide_eq_true_iff]; exact ⟨fun h => ⟨h1, h⟩, fun h => h.2⟩]
        exact q'
      · exact decide_eq_false fun h => e1 (decide_eq_true ((mem_letters a).mpr h.1))
      refine ite2 (fun e1 => ?_) (fun e1 => ?_)
      · refine q _ H' sp (fun e => absurd e spn) hD' hU
      refine ⟨_, rfl, rfl, _, rfl, ite2 (fun _ => ?_) (fun e => absurd (decide_eq_true (congrArg V.str hg0)) e)⟩
      refine ⟨_, rfl, rfl, _, rfl, ?_⟩
      rw [decide_eq_false (fun e => hl0 (V.str.inj e))]
      refine iteT ?_
      refine ⟨_, rfl, 1, rfl, last, -1, a, rfl, rfl, lineL, hat, a, _, rfl, rfl, _, rfl, ?_⟩
      refine if_tt (decide (Dg a ∧ Dg b)) (fun e1 Q' q' => ?_) (fun e1 => ?_) ?_
      · refine ⟨_, rfl, _, 0, b, rfl, rfl, lineW, atI_nat hb0, b, _, rfl, rfl, _, rfl, ?_⟩
        have h1 : Dg a := (mem_digits a).mp (of_decide_eq_true e1)
        rw [show decide (b ∈ tl ("0123456789" : Str)) = decide (Dg a ∧ Dg b) by rw [bothD, Bool.eq_iff_iff, decide_eq_true_iff, decide_eq_true_iff]; exact ⟨fun h => ⟨h1, h⟩, fun h => h.2⟩]
        exact q'
      · exact decide_eq_false fun h => e1 (decide_eq_true ((mem_digits a).mpr h.1))
      refine ite2 (fun e2 => ?_) (fun e2 => ?_)
      · refine q _ H' sp (fun e => absurd e spn) hD' hU
      refine ⟨_, rfl, ?_⟩
      refine q g H' hg (fun _ a' b' ha' hb' => ?_) hD' hU
      rw [ha] at ha'
      rw [hb] at hb'
      cases ha'
      cases hb'
      exact ⟨fun h => e1 (decide_eq_true h), fun h => e2 (decide_eq_true h)⟩
  · refine ⟨_, rfl, rfl, _, rfl, ite2 (fun e => absurd (V.str.inj (of_decide_eq_true e)) hg0) (fun _ => iteF ?_)⟩
    refine ⟨_, rfl, rfl, _, rfl, ite2 (fun e => absurd (V.str.inj (of_decide_eq_true e)) hg0) (fun _ => iteF ?_)⟩
    refine ⟨_, rfl, ?_⟩
    refine q g H' hg (fun e => absurd (ext_tl (by rw [e]; decide +kernel)) hg0) hD' hU
theorem ok_text {f fg fj : Addr} {fd fgd fjd : FuncData} (D : DefAt K mg "_law_text" s_text ["draw", "words"] f fd) (D_gap : DefAt K mg "_law_gap" s_gap ["draw"] fg fgd) (G_gap : FnOk P w K mg base CX0 2 fg fgd ["draw"] spGap)
    (D_joint : DefAt K mg "_law_joint" s_joint ["draw", "last", "word"] fj fjd) (G_joint : FnOk P w K mg base CX0 3 fj fjd ["draw", "last", "word"] spJoint) : FnOk P w K mg base CX0 4 f fd ["draw", "words"] spText := by
  refine D.F.ok sc_text (fun vs H Q E h => ?_) (fun cdv A outer s H vs Q E hr h => ?_)
  · obtain ⟨d, sc, l, zs, ks, rfl, _⟩ := h
    rfl
  obtain ⟨d, sc, L, zs, ks, rfl, hL, hk, hlt, hlen, hD, q⟩ := h
  have Ld := hD.ne_strs hL
  refine ⟨_, (pss_cons (ps_set (i := 2) sc_text.nd rfl (by first | exact Or.inl rfl | exact Or.inr rfl) (pe_call G_gap (hr.mono (by omega)) (by rfl) D_gap.m D_gap.F.kp D_gap.b .nil pass0 (pa_cons (pv 0) pa_nil))) (pss_cons (ps_set (i := 3) sc_text.nd rfl (by first | exact Or.inl rfl | exact Or.inr rfl) pe_str) (pss_cons (ps_for PassesOwn.never rfl (pi_list (pv 1)) (pg_name (i := 4) sc_text.nd rfl (by first | exact Or.inl rfl | exact Or.inr rfl)) (pss_cons (ps_set (i := 2) sc_text.nd rfl (by first | exact Or.inl rfl | exact Or.inr rfl) (pe_op op_add_str (pe_op op_add_str (pv 2) (pe_call G_joint (hr.mono (by omega)) (by rfl) D_joint.m D_joint.F.kp D_joint.b .nil pass0 (pa_cons (pv 0) (pa_cons (pv 3) (pa_cons (pv 4) pa_nil))))) (pv 4))) (pss_one (ps_set (i := 3) sc_text.nd rfl (by first | exact Or.inl rfl | exact Or.inr rfl) (pv 4))))) (pss_one (ps_ret (pe_op op_add_str (pv 2) (pe_call G_gap (hr.mono (by omega)) (by rfl) D_gap.m D_gap.F.kp D_gap.b .nil pass0 (pa_cons (pv 0) pa_nil)))))))), ?_⟩
  refine ⟨_, rfl, d, sc, rfl, hD, fun g0 H1 hg0 hD1 hU1 => ?_⟩
  obtain ⟨bg0, lg0⟩ := gap_ok g0 hg0
  have lg := len_tl g0
  refine ⟨_, rfl, L, rfl, ⟨_, .of (hU1 _ _ Ld hL)⟩, for_list (xs := zs.map V.str) (fun i σ H' => ∃ (txt last : Str) (its : List Itm) (y : Option V), σ = [some (.ref d), some (.ref L), some (.str txt), some (.str last), y] ∧ H' L = some (.lst (zs.map V.str)) ∧ tl txt = tl g0 ++ render its ∧ Chain [] its ∧ tl last = lastw [] its ∧ its.map kvI = ks.take i ∧
      (i = 0 → last = "") ∧ (∀ j, i = j + 1 → zs[j]? = some last) ∧ (tl txt).length ≤ 3 + 33 * i ∧ Dr sc H' d ∧ Up d H H')
    ⟨g0, "", [], _, rfl, hU1 _ _ Ld hL, by simp [render], trivial, by decide +kernel, rfl, fun _ => rfl, fun j h => by omega, by omega, hD1, hU1⟩ (fun i σ H' _ hP => ?_) (fun i x σ H' hx hP => ?_) (fun σ H' hP => ?_)⟩
  · obtain ⟨txt, last, its, y, _, h, _⟩ := hP
    exact .of h
  · obtain ⟨txt, last, its, y, rfl, b1, b2, b3, b4, b5, b6, b7, b8, b9, b10⟩ := hP
    obtain ⟨z, hz, rfl⟩ : ∃ z, zs[i]? = some z ∧ x = .str z := by
      rw [List.getElem?_map] at hx
      cases e : zs[i]? with
      | none => rw [e] at hx; cases hx
      | some s => rw [e] at hx; exact ⟨s, rfl, (Option.some.inj hx).symm⟩
    obtain ⟨k, hki, hks⟩ := hk.get hz
    have hi : i < zs.length := (List.getElem?_eq_some_iff.mp hz).1
    have lz := hks.2.2
    have lt := len_tl txt
    have lzz := len_tl z
    -- the word ahead
    have ahead : last.length ≤ 1000 ∧ (NoGlue (tl last) (tl z) → Apart (tl last) (tl z)) := by
      cases i with
      | zero =>
        rw [b6 rfl]
        refine ⟨by decide +kernel, fun _ => ?_⟩
        have e : tl ("" : Str) = [] := by decide +kernel
        rw [e]
        exact safe_nil _
      | succ j =>
        have hl := b7 j rfl
        obtain ⟨k0, hk0, hs0⟩ := hk.get hl
        refine ⟨by have := hs0.2.2; omega, fun hg => apart_of hs0 hks hg (hlt.at hk0 hki)⟩
    have line : (20000 : Nat) ≤ sizeLine := by decide
    refine ⟨_, rfl, _, rfl, _, rfl, _, rfl, d, sc, last, z, rfl, b9, hks.1.ne, by omega, ahead.1, fun gp H2 hgp hng hD2 hU2 => ?_⟩
    obtain ⟨bgp, lgp⟩ := gap_ok gp hgp
    have lgl := len_tl gp
    have l1 : Str.length (txt ++ gp) = (tl txt).length + (tl gp).length := by rw [len_tl, tl_append, List.length_append]
    refine ⟨_, _, rfl, rfl, by omega, _, rfl, _, _, rfl, rfl, by omega, ?_⟩
    refine ⟨_, rfl, ?_⟩
    have htk : ks.take (i + 1) = ks.take i ++ [k] := by rw [List.take_add_one, hki]; rfl
    have etxt : tl ((txt ++ gp) ++ z) = tl g0 ++ render (its ++ [⟨tl gp, tl z, k.1, k.2⟩]) := by
      rw [tl_append, tl_append, b2, render_snoc]
      simp only [List.append_assoc]
    refine ⟨_, z, its ++ [⟨tl gp, tl z, k.1, k.2⟩], _, rfl, hU2 _ _ Ld b1, etxt, chain_snoc b3 ⟨bgp, hks.1, hks.2.1, fun e => by rw [← b4]; exact ahead.2 (hng e)⟩, by rw [lastw_snoc], ?_, fun h => by omega, fun j h => ?_, ?_, hD2, b10.trans hU2⟩
    · rw [List.map_append, b5, htk]; rfl
    · obtain rfl : i = j := by omega
      exact hz
    · rw [tl_append, tl_append, List.length_append, List.length_append]
      omega
  · obtain ⟨txt, last, its, y, rfl, b1, b2, b3, b4, b5, b6, b7, b8, b9, b10⟩ := hP
    rw [List.length_map] at b5 b8
    rw [List.take_of_length_le (by rw [hk.len]; exact Nat.le_refl _)] at b5
    have lt := len_tl txt
    have line : (20000 : Nat) ≤ sizeLine := by decide
    refine ⟨_, rfl, _, rfl, d, sc, rfl, b9, fun ge H8 hge hD8 hU8 => ?_⟩
    obtain ⟨bge, lge⟩ := gap_ok ge hge
    have lgl := len_tl ge
    have l1 : Str.length (txt ++ ge) = (tl txt).length + (tl ge).length := by rw [len_tl, tl_append, List.length_append]
    refine ⟨_, _, rfl, rfl, by omega, ?_⟩
    refine q _ (places (tl g0).length its) H8 ?_ (by rw [← b5]; exact places_mt its _) (by omega) hD8 (b10.trans hU8)
    rw [tl_append, b2, List.append_assoc]
    have k := lex_of (p := (tl g0).length) b3 bge
    exact Lex.blanks bg0 (by rw [Nat.zero_add]; exact k)
end
end Tf
set_option maxHeartbeats 8000000
namespace Tf
open PySem PySem.Spec PyProof.Rows L2 TL
abbrev s_law : Stmt := (topS 53)
abbrev n_law : List Str := ["script", "draw", "plan", "text"]
theorem sc_law : FnScope n_law ["script"] (defScope s_law) := ⟨rfl, rfl, rfl, by decide +kernel, rfl, by decide +kernel, by decide +kernel⟩
section
variable {P : Program} {w : World} {K : PySem.W.Frag} {mg : Str → Option Value} {base : Heap}
theorem ok_law {f f1 f2 f3 f4 f5 f6 f7 : Addr} {fd fd1 fd2 fd3 fd4 fd5 fd6 fd7 : FuncData} (D : DefAt K mg "law" s_law ["script"] f fd)
    (D_draw : DefAt K mg "_law_draw" s_draw ["script"] f1 fd1) (G_draw : FnOk P w K mg base CX0 1 f1 fd1 ["script"] (spDraw K))
    (D_next : DefAt K mg "_law_next" s_next ["draw", "many"] f2 fd2) (G_next : FnOk P w K mg base CX0 1 f2 fd2 ["draw", "many"] spNext)
    (D_tree : DefAt K mg "_law_tree" s_tree ["draw", "size"] f3 fd3) (G_tree : FnOk P w K mg base CX0 11 f3 fd3 ["draw", "size"] (spTree srcS3 9))
    (D_ltokens : DefAt K mg "_law_tokens" s_ltokens ["draw", "plan"] f4 fd4) (G_ltokens : FnOk P w K mg base CX0 21 f4 fd4 ["draw", "plan"] (spToks srcS3 9))
    (D_same : DefAt K mg "_law_same" s_same ["actual", "due"] f5 fd5) (G_same : FnOk P w K mg base CX0 13 f5 fd5 ["actual", "due"] (spS 13))
    (D_text : DefAt K mg "_law_text" s_text ["draw", "words"] f6 fd6) (G_text : FnOk P w K mg base CX0 4 f6 fd6 ["draw", "words"] spText)
    (D_parse_plan : DefAt K mg "parse_plan" s_parse_plan ["text"] f7 fd7) (G_parse_plan : FnOk P w K mg base CX0 11 f7 fd7 ["text"] spParse) (z_len : mg "len" = none) : FnOk P w K mg base CX0 22 f fd ["script"] (spLaw K) := by
  refine D.F.ok sc_law (fun vs H Q E h => ?_) (fun cdv A outer s H vs Q E hr h => ?_)
  · obtain ⟨a, ns, rfl, _⟩ := h
    rfl
  obtain ⟨a, ns, rfl, hS, h63, q⟩ := h
  refine ⟨_, (pss_cons (ps_set (i := 1) sc_law.nd rfl (by first | exact Or.inl rfl | exact Or.inr rfl) (pe_call G_draw (hr.mono (by omega)) (by rfl) D_draw.m D_draw.F.kp D_draw.b .nil pass0 (pa_cons (pv 0) pa_nil))) (pss_cons (ps_set (i := 2) sc_law.nd rfl (by first | exact Or.inl rfl | exact Or.inr rfl) (pe_call G_tree (hr.mono (by omega)) (by rfl) D_tree.m D_tree.F.kp D_tree.b .nil pass0 (pa_cons (pv 1) (pa_cons (pe_op op_add pe_int (pe_call G_next (hr.mono (by omega)) (by rfl) D_next.m D_next.F.kp D_next.b .nil pass0 (pa_cons (pv 1) (pa_cons pe_int pa_nil)))) pa_nil)))) (pss_cons (ps_set (i := 3) sc_law.nd rfl (by first | exact Or.inl rfl | exact Or.inr rfl) (pe_call G_text (hr.mono (by omega)) (by rfl) D_text.m D_text.F.kp D_text.b .nil pass0 (pa_cons (pv 1) (pa_cons (pe_call G_ltokens (hr.mono (by omega)) (by rfl) D_ltokens.m D_ltokens.F.kp D_ltokens.b .nil pass0 (pa_cons (pv 1) (pa_cons (pv 2) pa_nil))) pa_nil)))) (pss_cons (ps_if (pt_cmpR op_gt (pe_callB call_len_str (by rfl) z_len boot_len (pa_cons (pv 3) pa_nil)) pe_int (nomark _)) (pss_one (ps_ret pe_bl)) pss_nil) (pss_one (ps_ret (pe_call G_same (hr.mono (by omega)) (by rfl) D_same.m D_same.F.kp D_same.b .nil pass0 (pa_cons (pe_call G_parse_plan (hr.mono (by omega)) (by rfl) D_parse_plan.m D_parse_plan.F.kp D_parse_plan.b .nil pass0 (pa_cons (pv 3) pa_nil)) (pa_cons (pv 2) pa_nil))))))))), ?_⟩
  refine ⟨_, rfl, a, ns, rfl, hS, h63, fun d sc H1 nd hD1 s1 => ?_⟩
  refine ⟨_, rfl, _, rfl, d, sc, 9, rfl, by decide, by decide, hD1, fun i H2 i0 i1 hD2 hU2 => ⟨_, _, rfl, rfl, d, sc, _, rfl, by omega, by omega, hD2, fun v p H3 hp hpo hps hD3 hU3 => ?_⟩⟩
  have hsz : p.size ≤ 9 := by omega
  -- text = _law_text(draw, _law_tokens(draw, plan))
  refine ⟨_, rfl, _, rfl, _, rfl, d, sc, v, p, rfl, hp, hpo, hsz, by omega, hD3, fun l zs kvs H4 nl hl hk hwp hlen hD4 hU4 => ?_⟩
  refine ⟨d, sc, l, zs, kvs, rfl, hl, hk, wp_lt hwp, by omega, hD4, fun z due H5 hlx hmt hz hD5 hU5 => ?_⟩
  refine ⟨_, rfl, z, rfl, by rw [sizeLine_eq]; omega, _, _, rfl, rfl, _, rfl, ite2 (fun _ => q _) (fun e => ?_)⟩
  have hz300 : z.length ≤ 300 := by
    rcases Nat.lt_or_ge 300 z.length with h | h
    · exact absurd (decide_eq_true (by omega)) e
    · exact h
  obtain ⟨M, k1, k2, k3⟩ := rd_whole hwp hpo hmt z.length
  refine ⟨_, rfl, z, due, p, M, rfl, hlx, by omega, k3, k1, by omega, by omega, fun v2 H7 hp2 s7 => ?_⟩
  have hp7 := ((hp.mono (hU4.tupUp hD3)).mono (hU5.tupUp hD4)).mono (.same s7)
  exact ⟨_, rfl, 12, _, _, rfl, rfl, (hp2.eq hp7 hpo).le (by omega), fun H8 s8 => q H8⟩
end
end Tf
set_option maxHeartbeats 4000000
namespace Tf
open PySem PySem.Spec PyProof.Rows L2 TL
/-! ### dicts of the top, with text keys -/
inductive DEnts (P : Params) : List DictEntry → List (Str × V) → Prop
  | nil : DEnts P [] []
  | cons {x : Str} {t : Tok} {e : DictEntry} {v : V} {r : List DictEntry} {l : List (Str × V)} (hk : e.key = .str x t) (hh : e.hash = PyData.keyHash P x) (hv : RelV v e.val) (k : DEnts P r l) : DEnts P (e :: r) ((x, v) :: l)
theorem DEnts.lit {P : Params} {es : List DictEntry} {l : List (Str × V)} (h : DEnts P es l) : PySem.W.KeysLit P es := by
  induction h with
  | nil => trivial
  | cons hk hh hv k ih => exact ⟨⟨_, _, hk, hh⟩, ih⟩
theorem isStr_str (x z : Str) (t : Tok) : (Value.str x t).isStr z = decide (x = z) := by
  show (x == z) = _
  by_cases h : x = z
  · rw [h, decide_eq_true rfl, beq_self_eq_true]
  · rw [decide_eq_false h]
    exact beq_false_of_ne h
theorem DEnts.find {P : Params} {es : List DictEntry} {l : List (Str × V)} (h : DEnts P es l) (z : Str) : (z ∉ l.map (·.1) ∧ es.find? (·.key.isStr z) = none ∧ es.any (·.refKey) = false) ∨ (∃ e v, es.find? (·.key.isStr z) = some e ∧ (z, v) ∈ l ∧ RelV v e.val) := by
  induction h with
  | nil => exact .inl ⟨List.not_mem_nil, rfl, rfl⟩
  | @cons x t e v r l hk hh hv k ih =>
    have e1 : e.key.isStr z = decide (x = z) := by rw [hk]; exact isStr_str x z t
    by_cases hz : x = z
    · subst hz
      refine .inr ⟨e, v, ?_, List.mem_cons_self .., hv⟩
      rw [List.find?_cons, e1, decide_eq_true rfl]
    · rcases ih with ⟨i1, i2, i3⟩ | ⟨e', v', i1, i2, i3⟩
      · refine .inl ⟨fun h => ?_, ?_, ?_⟩
        · rw [List.map_cons] at h
          rcases List.mem_cons.mp h with h | h
          · exact hz h.symm
          · exact i1 h
        · rw [List.find?_cons, e1, decide_eq_false hz]; exact i2
        · rw [List.any_cons, i3, Bool.or_false]
          show (match e.key with | .ref _ => true | _ => false) = false
          rw [hk]
      · refine .inr ⟨e', v', ?_, List.mem_cons_of_mem _ i2, i3⟩
        rw [List.find?_cons, e1, decide_eq_false hz]; exact i1
section
variable {K : PySem.W.Frag} {w : World} {a : Addr} {es : Array DictEntry} {n : Nat} {l : List (Str × V)}
theorem dict_any (h : K.lookup a = some ⟨.type "dict", none, .dict es n, #[]⟩) (d : DEnts w.params es.toList l) (z : Str) : ∃ r, PySem.W.nsIn K a z = some r ∧ r.isSome = decide (z ∈ l.map (·.1)) := by
  have e1 : PySem.W.nsIn K a z = (match es.toList.find? (·.key.isStr z) with | some e => some (some e.val) | none => if es.toList.any (·.refKey) then none else some none) := by
    unfold PySem.W.nsIn
    rw [h] <;> rfl
  rcases d.find z with ⟨i1, i2, i3⟩ | ⟨e, v, i1, i2, i3⟩
  · rw [i2, i3] at e1
    exact ⟨none, e1, by rw [decide_eq_false i1]; rfl⟩
  · rw [i1] at e1
    exact ⟨some e.val, e1, by rw [decide_eq_true (List.mem_map_of_mem (f := (·.1)) i2)]; rfl⟩
theorem key_one {x : Str} {v u : V} (hn : (l.map (·.1)).Nodup) (h1 : (x, v) ∈ l) (h2 : (x, u) ∈ l) : v = u := by
  induction l with
  | nil => exact absurd h1 List.not_mem_nil
  | cons p r ih =>
    rw [List.map_cons, List.nodup_cons] at hn
    rcases List.mem_cons.mp h1 with e1 | h1
    · rcases List.mem_cons.mp h2 with e2 | h2
      · exact (Prod.mk.inj (e1.trans e2.symm)).2
      · exact absurd (List.mem_map_of_mem (f := (·.1)) h2) (by rw [← e1] at hn; exact hn.1)
    · rcases List.mem_cons.mp h2 with e2 | h2
      · exact absurd (List.mem_map_of_mem (f := (·.1)) h1) (by rw [← e2] at hn; exact hn.1)
      · exact ih hn.2 h1 h2
theorem dict_at (h : K.lookup a = some ⟨.type "dict", none, .dict es n, #[]⟩) (d : DEnts w.params es.toList l) (hn : (l.map (·.1)).Nodup) {x : Str} {v : V} (hx : (x, v) ∈ l) : KDct K w a x v := by
  have e1 : PySem.W.nsIn K a x = (match es.toList.find? (·.key.isStr x) with | some e => some (some e.val) | none => if es.toList.any (·.refKey) then none else some none) := by
    unfold PySem.W.nsIn
    rw [h] <;> rfl
  rcases d.find x with ⟨i1, i2, i3⟩ | ⟨e, u, i1, i2, i3⟩
  · exact absurd (List.mem_map_of_mem (f := (·.1)) hx) i1
  · rw [i1] at e1
    rw [key_one hn hx i2]
    exact ⟨es, n, e.val, h, d.lit, e1, i3⟩
theorem dict_kd (h : K.lookup a = some ⟨.type "dict", none, .dict es n, #[]⟩) (d : DEnts w.params es.toList l) (s : (a == sysModules) = false) : KDict K w a es n := ⟨h, d.lit, s⟩
end
end Tf
set_option maxHeartbeats 8000000
namespace Tf
open PySem PySem.Spec PyProof.Rows L2 TL
theorem all_mk {l : PySem.W.OpenLaw} {w : World} {K : PySem.W.Frag} {h : Heap} {mg : Str → Option Value} {fa : Addr} (X : K.In h) (G : h.Ns mainGlobals mg) (hfa : mg "law" = some (.ref fa))
    {f0 : Addr} {od0 an0 : Option Addr} {sl0 : Array (Option Value)} {oc0 kV0 dc0 pm0 cd0 ct0 : Value}
    (a0 : PySem.W.nsIn K mainGlobals "end_of_stretch" = some (some (.ref f0)))
    (l0 : K.lookup f0 = some ⟨oc0, od0, .func (PySem.W.fnOf "end_of_stretch" "end_of_stretch" (defArgs s_end_of_stretch) (defBody s_end_of_stretch) (defScope s_end_of_stretch) .none kV0 dc0 pm0 an0 cd0 ct0), sl0⟩) (c0 : PySem.W.codeIn K cd0 "end_of_stretch" = true) (k0 : PySem.W.keepIn K (.ref f0) = true)
    {f1 : Addr} {od1 an1 : Option Addr} {sl1 : Array (Option Value)} {oc1 kV1 dc1 pm1 cd1 ct1 : Value}
    (a1 : PySem.W.nsIn K mainGlobals "token_at" = some (some (.ref f1)))
    (l1 : K.lookup f1 = some ⟨oc1, od1, .func (PySem.W.fnOf "token_at" "token_at" (defArgs s_token_at) (defBody s_token_at) (defScope s_token_at) .none kV1 dc1 pm1 an1 cd1 ct1), sl1⟩) (c1 : PySem.W.codeIn K cd1 "token_at" = true) (k1 : PySem.W.keepIn K (.ref f1) = true)
    {f2 : Addr} {od2 an2 : Option Addr} {sl2 : Array (Option Value)} {oc2 kV2 dc2 pm2 cd2 ct2 : Value}
    (a2 : PySem.W.nsIn K mainGlobals "tokens" = some (some (.ref f2)))
    (l2 : K.lookup f2 = some ⟨oc2, od2, .func (PySem.W.fnOf "tokens" "tokens" (defArgs s_tokens) (defBody s_tokens) (defScope s_tokens) .none kV2 dc2 pm2 an2 cd2 ct2), sl2⟩) (c2 : PySem.W.codeIn K cd2 "tokens" = true) (k2 : PySem.W.keepIn K (.ref f2) = true)
    {f3 : Addr} {od3 an3 : Option Addr} {sl3 : Array (Option Value)} {oc3 kV3 dc3 pm3 cd3 ct3 : Value}
    (a3 : PySem.W.nsIn K mainGlobals "is_of_grammar" = some (some (.ref f3)))
    (l3 : K.lookup f3 = some ⟨oc3, od3, .func (PySem.W.fnOf "is_of_grammar" "is_of_grammar" (defArgs s_is_of_grammar) (defBody s_is_of_grammar) (defScope s_is_of_grammar) .none kV3 dc3 pm3 an3 cd3 ct3), sl3⟩) (c3 : PySem.W.codeIn K cd3 "is_of_grammar" = true) (k3 : PySem.W.keepIn K (.ref f3) = true)
    {f4 : Addr} {od4 an4 : Option Addr} {sl4 : Array (Option Value)} {oc4 kV4 dc4 pm4 cd4 ct4 : Value}
    (a4 : PySem.W.nsIn K mainGlobals "inputs_of" = some (some (.ref f4)))
    (l4 : K.lookup f4 = some ⟨oc4, od4, .func (PySem.W.fnOf "inputs_of" "inputs_of" (defArgs s_inputs_of) (defBody s_inputs_of) (defScope s_inputs_of) .none kV4 dc4 pm4 an4 cd4 ct4), sl4⟩) (c4 : PySem.W.codeIn K cd4 "inputs_of" = true) (k4 : PySem.W.keepIn K (.ref f4) = true)
    {f5 : Addr} {od5 an5 : Option Addr} {sl5 : Array (Option Value)} {oc5 kV5 dc5 pm5 cd5 ct5 : Value}
    (a5 : PySem.W.nsIn K mainGlobals "with_levels" = some (some (.ref f5)))
    (l5 : K.lookup f5 = some ⟨oc5, od5, .func (PySem.W.fnOf "with_levels" "with_levels" (defArgs s_with_levels) (defBody s_with_levels) (defScope s_with_levels) .none kV5 dc5 pm5 an5 cd5 ct5), sl5⟩) (c5 : PySem.W.codeIn K cd5 "with_levels" = true) (k5 : PySem.W.keepIn K (.ref f5) = true)
    {f6 : Addr} {od6 an6 : Option Addr} {sl6 : Array (Option Value)} {oc6 kV6 dc6 pm6 cd6 ct6 : Value}
    (a6 : PySem.W.nsIn K mainGlobals "in_range" = some (some (.ref f6)))
    (l6 : K.lookup f6 = some ⟨oc6, od6, .func (PySem.W.fnOf "in_range" "in_range" (defArgs s_in_range) (defBody s_in_range) (defScope s_in_range) .none kV6 dc6 pm6 an6 cd6 ct6), sl6⟩) (c6 : PySem.W.codeIn K cd6 "in_range" = true) (k6 : PySem.W.keepIn K (.ref f6) = true)
    {f7 : Addr} {od7 an7 : Option Addr} {sl7 : Array (Option Value)} {oc7 kV7 dc7 pm7 cd7 ct7 : Value}
    (a7 : PySem.W.nsIn K mainGlobals "is_too_wide" = some (some (.ref f7)))
    (l7 : K.lookup f7 = some ⟨oc7, od7, .func (PySem.W.fnOf "is_too_wide" "is_too_wide" (defArgs s_is_too_wide) (defBody s_is_too_wide) (defScope s_is_too_wide) .none kV7 dc7 pm7 an7 cd7 ct7), sl7⟩) (c7 : PySem.W.codeIn K cd7 "is_too_wide" = true) (k7 : PySem.W.keepIn K (.ref f7) = true)
    {f8 : Addr} {od8 an8 : Option Addr} {sl8 : Array (Option Value)} {oc8 kV8 dc8 pm8 cd8 ct8 : Value}
    (a8 : PySem.W.nsIn K mainGlobals "check_numbers" = some (some (.ref f8)))
    (l8 : K.lookup f8 = some ⟨oc8, od8, .func (PySem.W.fnOf "check_numbers" "check_numbers" (defArgs s_check_numbers) (defBody s_check_numbers) (defScope s_check_numbers) .none kV8 dc8 pm8 an8 cd8 ct8), sl8⟩) (c8 : PySem.W.codeIn K cd8 "check_numbers" = true) (k8 : PySem.W.keepIn K (.ref f8) = true)
    {f9 : Addr} {od9 an9 : Option Addr} {sl9 : Array (Option Value)} {oc9 kV9 dc9 pm9 cd9 ct9 : Value}
    (a9 : PySem.W.nsIn K mainGlobals "check_extent" = some (some (.ref f9)))
    (l9 : K.lookup f9 = some ⟨oc9, od9, .func (PySem.W.fnOf "check_extent" "check_extent" (defArgs s_check_extent) (defBody s_check_extent) (defScope s_check_extent) .none kV9 dc9 pm9 an9 cd9 ct9), sl9⟩) (c9 : PySem.W.codeIn K cd9 "check_extent" = true) (k9 : PySem.W.keepIn K (.ref f9) = true)
    {f10 : Addr} {od10 an10 : Option Addr} {sl10 : Array (Option Value)} {oc10 kV10 dc10 pm10 cd10 ct10 : Value}
    (a10 : PySem.W.nsIn K mainGlobals "parse_plan" = some (some (.ref f10)))
    (l10 : K.lookup f10 = some ⟨oc10, od10, .func (PySem.W.fnOf "parse_plan" "parse_plan" (defArgs s_parse_plan) (defBody s_parse_plan) (defScope s_parse_plan) .none kV10 dc10 pm10 an10 cd10 ct10), sl10⟩) (c10 : PySem.W.codeIn K cd10 "parse_plan" = true) (k10 : PySem.W.keepIn K (.ref f10) = true)
    {f11 : Addr} {od11 an11 : Option Addr} {sl11 : Array (Option Value)} {oc11 kV11 dc11 pm11 cd11 ct11 : Value}
    (a11 : PySem.W.nsIn K mainGlobals "_law_draw" = some (some (.ref f11)))
    (l11 : K.lookup f11 = some ⟨oc11, od11, .func (PySem.W.fnOf "_law_draw" "_law_draw" (defArgs s_draw) (defBody s_draw) (defScope s_draw) .none kV11 dc11 pm11 an11 cd11 ct11), sl11⟩) (c11 : PySem.W.codeIn K cd11 "_law_draw" = true) (k11 : PySem.W.keepIn K (.ref f11) = true)
    {f12 : Addr} {od12 an12 : Option Addr} {sl12 : Array (Option Value)} {oc12 kV12 dc12 pm12 cd12 ct12 : Value}
    (a12 : PySem.W.nsIn K mainGlobals "_law_next" = some (some (.ref f12)))
    (l12 : K.lookup f12 = some ⟨oc12, od12, .func (PySem.W.fnOf "_law_next" "_law_next" (defArgs s_next) (defBody s_next) (defScope s_next) .none kV12 dc12 pm12 an12 cd12 ct12), sl12⟩) (c12 : PySem.W.codeIn K cd12 "_law_next" = true) (k12 : PySem.W.keepIn K (.ref f12) = true)
    {f13 : Addr} {od13 an13 : Option Addr} {sl13 : Array (Option Value)} {oc13 kV13 dc13 pm13 cd13 ct13 : Value}
    (a13 : PySem.W.nsIn K mainGlobals "_law_same" = some (some (.ref f13)))
    (l13 : K.lookup f13 = some ⟨oc13, od13, .func (PySem.W.fnOf "_law_same" "_law_same" (defArgs s_same) (defBody s_same) (defScope s_same) .none kV13 dc13 pm13 an13 cd13 ct13), sl13⟩) (c13 : PySem.W.codeIn K cd13 "_law_same" = true) (k13 : PySem.W.keepIn K (.ref f13) = true)
    {f14 : Addr} {od14 an14 : Option Addr} {sl14 : Array (Option Value)} {oc14 kV14 dc14 pm14 cd14 ct14 : Value}
    (a14 : PySem.W.nsIn K mainGlobals "_law_stage" = some (some (.ref f14)))
    (l14 : K.lookup f14 = some ⟨oc14, od14, .func (PySem.W.fnOf "_law_stage" "_law_stage" (defArgs s_stage) (defBody s_stage) (defScope s_stage) .none kV14 dc14 pm14 an14 cd14 ct14), sl14⟩) (c14 : PySem.W.codeIn K cd14 "_law_stage" = true) (k14 : PySem.W.keepIn K (.ref f14) = true)
    {f15 : Addr} {od15 an15 : Option Addr} {sl15 : Array (Option Value)} {oc15 kV15 dc15 pm15 cd15 ct15 : Value}
    (a15 : PySem.W.nsIn K mainGlobals "_law_aggregate" = some (some (.ref f15)))
    (l15 : K.lookup f15 = some ⟨oc15, od15, .func (PySem.W.fnOf "_law_aggregate" "_law_aggregate" (defArgs s_aggregate) (defBody s_aggregate) (defScope s_aggregate) .none kV15 dc15 pm15 an15 cd15 ct15), sl15⟩) (c15 : PySem.W.codeIn K cd15 "_law_aggregate" = true) (k15 : PySem.W.keepIn K (.ref f15) = true)
    {f16 : Addr} {od16 an16 : Option Addr} {sl16 : Array (Option Value)} {oc16 kV16 dc16 pm16 cd16 ct16 : Value}
    (a16 : PySem.W.nsIn K mainGlobals "_law_span" = some (some (.ref f16)))
    (l16 : K.lookup f16 = some ⟨oc16, od16, .func (PySem.W.fnOf "_law_span" "_law_span" (defArgs s_span) (defBody s_span) (defScope s_span) .none kV16 dc16 pm16 an16 cd16 ct16), sl16⟩) (c16 : PySem.W.codeIn K cd16 "_law_span" = true) (k16 : PySem.W.keepIn K (.ref f16) = true)
    {f17 : Addr} {od17 an17 : Option Addr} {sl17 : Array (Option Value)} {oc17 kV17 dc17 pm17 cd17 ct17 : Value}
    (a17 : PySem.W.nsIn K mainGlobals "_law_tree" = some (some (.ref f17)))
    (l17 : K.lookup f17 = some ⟨oc17, od17, .func (PySem.W.fnOf "_law_tree" "_law_tree" (defArgs s_tree) (defBody s_tree) (defScope s_tree) .none kV17 dc17 pm17 an17 cd17 ct17), sl17⟩) (c17 : PySem.W.codeIn K cd17 "_law_tree" = true) (k17 : PySem.W.keepIn K (.ref f17) = true)
    {f18 : Addr} {od18 an18 : Option Addr} {sl18 : Array (Option Value)} {oc18 kV18 dc18 pm18 cd18 ct18 : Value}
    (a18 : PySem.W.nsIn K mainGlobals "_law_gap" = some (some (.ref f18)))
    (l18 : K.lookup f18 = some ⟨oc18, od18, .func (PySem.W.fnOf "_law_gap" "_law_gap" (defArgs s_gap) (defBody s_gap) (defScope s_gap) .none kV18 dc18 pm18 an18 cd18 ct18), sl18⟩) (c18 : PySem.W.codeIn K cd18 "_law_gap" = true) (k18 : PySem.W.keepIn K (.ref f18) = true)
    {f19 : Addr} {od19 an19 : Option Addr} {sl19 : Array (Option Value)} {oc19 kV19 dc19 pm19 cd19 ct19 : Value}
    (a19 : PySem.W.nsIn K mainGlobals "_law_joint" = some (some (.ref f19)))
    (l19 : K.lookup f19 = some ⟨oc19, od19, .func (PySem.W.fnOf "_law_joint" "_law_joint" (defArgs s_joint) (defBody s_joint) (defScope s_joint) .none kV19 dc19 pm19 an19 cd19 ct19), sl19⟩) (c19 : PySem.W.codeIn K cd19 "_law_joint" = true) (k19 : PySem.W.keepIn K (.ref f19) = true)
    {f20 : Addr} {od20 an20 : Option Addr} {sl20 : Array (Option Value)} {oc20 kV20 dc20 pm20 cd20 ct20 : Value}
    (a20 : PySem.W.nsIn K mainGlobals "_law_digits" = some (some (.ref f20)))
    (l20 : K.lookup f20 = some ⟨oc20, od20, .func (PySem.W.fnOf "_law_digits" "_law_digits" (defArgs s_digits) (defBody s_digits) (defScope s_digits) .none kV20 dc20 pm20 an20 cd20 ct20), sl20⟩) (c20 : PySem.W.codeIn K cd20 "_law_digits" = true) (k20 : PySem.W.keepIn K (.ref f20) = true)
    {f21 : Addr} {od21 an21 : Option Addr} {sl21 : Array (Option Value)} {oc21 kV21 dc21 pm21 cd21 ct21 : Value}
    (a21 : PySem.W.nsIn K mainGlobals "_law_words" = some (some (.ref f21)))
    (l21 : K.lookup f21 = some ⟨oc21, od21, .func (PySem.W.fnOf "_law_words" "_law_words" (defArgs s_words) (defBody s_words) (defScope s_words) .none kV21 dc21 pm21 an21 cd21 ct21), sl21⟩) (c21 : PySem.W.codeIn K cd21 "_law_words" = true) (k21 : PySem.W.keepIn K (.ref f21) = true)
    {f22 : Addr} {od22 an22 : Option Addr} {sl22 : Array (Option Value)} {oc22 kV22 dc22 pm22 cd22 ct22 : Value}
    (a22 : PySem.W.nsIn K mainGlobals "_law_names" = some (some (.ref f22)))
    (l22 : K.lookup f22 = some ⟨oc22, od22, .func (PySem.W.fnOf "_law_names" "_law_names" (defArgs s_lnames) (defBody s_lnames) (defScope s_lnames) .none kV22 dc22 pm22 an22 cd22 ct22), sl22⟩) (c22 : PySem.W.codeIn K cd22 "_law_names" = true) (k22 : PySem.W.keepIn K (.ref f22) = true)
    {f23 : Addr} {od23 an23 : Option Addr} {sl23 : Array (Option Value)} {oc23 kV23 dc23 pm23 cd23 ct23 : Value}
    (a23 : PySem.W.nsIn K mainGlobals "_law_bare" = some (some (.ref f23)))
    (l23 : K.lookup f23 = some ⟨oc23, od23, .func (PySem.W.fnOf "_law_bare" "_law_bare" (defArgs s_bare) (defBody s_bare) (defScope s_bare) .none kV23 dc23 pm23 an23 cd23 ct23), sl23⟩) (c23 : PySem.W.codeIn K cd23 "_law_bare" = true) (k23 : PySem.W.keepIn K (.ref f23) = true)
    {f24 : Addr} {od24 an24 : Option Addr} {sl24 : Array (Option Value)} {oc24 kV24 dc24 pm24 cd24 ct24 : Value}
    (a24 : PySem.W.nsIn K mainGlobals "_law_tokens" = some (some (.ref f24)))
    (l24 : K.lookup f24 = some ⟨oc24, od24, .func (PySem.W.fnOf "_law_tokens" "_law_tokens" (defArgs s_ltokens) (defBody s_ltokens) (defScope s_ltokens) .none kV24 dc24 pm24 an24 cd24 ct24), sl24⟩) (c24 : PySem.W.codeIn K cd24 "_law_tokens" = true) (k24 : PySem.W.keepIn K (.ref f24) = true)
    {f25 : Addr} {od25 an25 : Option Addr} {sl25 : Array (Option Value)} {oc25 kV25 dc25 pm25 cd25 ct25 : Value}
    (a25 : PySem.W.nsIn K mainGlobals "_law_text" = some (some (.ref f25)))
    (l25 : K.lookup f25 = some ⟨oc25, od25, .func (PySem.W.fnOf "_law_text" "_law_text" (defArgs s_text) (defBody s_text) (defScope s_text) .none kV25 dc25 pm25 an25 cd25 ct25), sl25⟩) (c25 : PySem.W.codeIn K cd25 "_law_text" = true) (k25 : PySem.W.keepIn K (.ref f25) = true)
    {f26 : Addr} {od26 an26 : Option Addr} {sl26 : Array (Option Value)} {oc26 kV26 dc26 pm26 cd26 ct26 : Value}
    (a26 : PySem.W.nsIn K mainGlobals "law" = some (some (.ref f26)))
    (l26 : K.lookup f26 = some ⟨oc26, od26, .func (PySem.W.fnOf "law" "law" (defArgs s_law) (defBody s_law) (defScope s_law) .none kV26 dc26 pm26 an26 cd26 ct26), sl26⟩) (c26 : PySem.W.codeIn K cd26 "law" = true) (k26 : PySem.W.keepIn K (.ref f26) = true)
    {C_Reader : Addr} (aC_Reader : PySem.W.nsIn K mainGlobals "Reader" = some (some (.ref C_Reader)))
    {fReader_init : Addr} {odReader_init anReader_init : Option Addr} {slReader_init : Array (Option Value)} {ocReader_init kVReader_init dcReader_init pmReader_init cdReader_init ctReader_init : Value}
    (aReader_init : PySem.W.findIn K (.ref C_Reader) "__init__" = some (some (.ref fReader_init))) (iReader_init : PySem.W.isFn K (.ref fReader_init) = true)
    (lReader_init : K.lookup fReader_init = some ⟨ocReader_init, odReader_init, .func (PySem.W.fnOf "__init__" "Reader.__init__" (defArgs s_Reader_init) (defBody s_Reader_init) (defScope s_Reader_init) .none kVReader_init dcReader_init pmReader_init anReader_init cdReader_init ctReader_init), slReader_init⟩) (cReader_init : PySem.W.codeIn K cdReader_init "Reader.__init__" = true) (kReader_init : PySem.W.keepIn K (.ref fReader_init) = true)
    {fReader_kind : Addr} {odReader_kind anReader_kind : Option Addr} {slReader_kind : Array (Option Value)} {ocReader_kind kVReader_kind dcReader_kind pmReader_kind cdReader_kind ctReader_kind : Value}
    (aReader_kind : PySem.W.findIn K (.ref C_Reader) "kind" = some (some (.ref fReader_kind))) (iReader_kind : PySem.W.isFn K (.ref fReader_kind) = true)
    (lReader_kind : K.lookup fReader_kind = some ⟨ocReader_kind, odReader_kind, .func (PySem.W.fnOf "kind" "Reader.kind" (defArgs s_Reader_kind) (defBody s_Reader_kind) (defScope s_Reader_kind) .none kVReader_kind dcReader_kind pmReader_kind anReader_kind cdReader_kind ctReader_kind), slReader_kind⟩) (cReader_kind : PySem.W.codeIn K cdReader_kind "Reader.kind" = true) (kReader_kind : PySem.W.keepIn K (.ref fReader_kind) = true)
    {fReader_takes : Addr} {odReader_takes anReader_takes : Option Addr} {slReader_takes : Array (Option Value)} {ocReader_takes kVReader_takes dcReader_takes pmReader_takes cdReader_takes ctReader_takes : Value}
    (aReader_takes : PySem.W.findIn K (.ref C_Reader) "takes" = some (some (.ref fReader_takes))) (iReader_takes : PySem.W.isFn K (.ref fReader_takes) = true)
    (lReader_takes : K.lookup fReader_takes = some ⟨ocReader_takes, odReader_takes, .func (PySem.W.fnOf "takes" "Reader.takes" (defArgs s_Reader_takes) (defBody s_Reader_takes) (defScope s_Reader_takes) .none kVReader_takes dcReader_takes pmReader_takes anReader_takes cdReader_takes ctReader_takes), slReader_takes⟩) (cReader_takes : PySem.W.codeIn K cdReader_takes "Reader.takes" = true) (kReader_takes : PySem.W.keepIn K (.ref fReader_takes) = true)
    {fReader_read_value : Addr} {odReader_read_value anReader_read_value : Option Addr} {slReader_read_value : Array (Option Value)} {ocReader_read_value kVReader_read_value dcReader_read_value pmReader_read_value cdReader_read_value ctReader_read_value : Value}
    (aReader_read_value : PySem.W.findIn K (.ref C_Reader) "read_value" = some (some (.ref fReader_read_value))) (iReader_read_value : PySem.W.isFn K (.ref fReader_read_value) = true)
    (lReader_read_value : K.lookup fReader_read_value = some ⟨ocReader_read_value, odReader_read_value, .func (PySem.W.fnOf "read_value" "Reader.read_value" (defArgs s_Reader_read_value) (defBody s_Reader_read_value) (defScope s_Reader_read_value) .none kVReader_read_value dcReader_read_value pmReader_read_value anReader_read_value cdReader_read_value ctReader_read_value), slReader_read_value⟩) (cReader_read_value : PySem.W.codeIn K cdReader_read_value "Reader.read_value" = true) (kReader_read_value : PySem.W.keepIn K (.ref fReader_read_value) = true)
    {fReader_first_place : Addr} {odReader_first_place anReader_first_place : Option Addr} {slReader_first_place : Array (Option Value)} {ocReader_first_place kVReader_first_place dcReader_first_place pmReader_first_place cdReader_first_place ctReader_first_place : Value}
    (aReader_first_place : PySem.W.findIn K (.ref C_Reader) "first_place" = some (some (.ref fReader_first_place))) (iReader_first_place : PySem.W.isFn K (.ref fReader_first_place) = true)
    (lReader_first_place : K.lookup fReader_first_place = some ⟨ocReader_first_place, odReader_first_place, .func (PySem.W.fnOf "first_place" "Reader.first_place" (defArgs s_Reader_first_place) (defBody s_Reader_first_place) (defScope s_Reader_first_place) .none kVReader_first_place dcReader_first_place pmReader_first_place anReader_first_place cdReader_first_place ctReader_first_place), slReader_first_place⟩) (cReader_first_place : PySem.W.codeIn K cdReader_first_place "Reader.first_place" = true) (kReader_first_place : PySem.W.keepIn K (.ref fReader_first_place) = true)
    {fReader_has_name : Addr} {odReader_has_name anReader_has_name : Option Addr} {slReader_has_name : Array (Option Value)} {ocReader_has_name kVReader_has_name dcReader_has_name pmReader_has_name cdReader_has_name ctReader_has_name : Value}
    (aReader_has_name : PySem.W.findIn K (.ref C_Reader) "has_name" = some (some (.ref fReader_has_name))) (iReader_has_name : PySem.W.isFn K (.ref fReader_has_name) = true)
    (lReader_has_name : K.lookup fReader_has_name = some ⟨ocReader_has_name, odReader_has_name, .func (PySem.W.fnOf "has_name" "Reader.has_name" (defArgs s_Reader_has_name) (defBody s_Reader_has_name) (defScope s_Reader_has_name) .none kVReader_has_name dcReader_has_name pmReader_has_name anReader_has_name cdReader_has_name ctReader_has_name), slReader_has_name⟩) (cReader_has_name : PySem.W.codeIn K cdReader_has_name "Reader.has_name" = true) (kReader_has_name : PySem.W.keepIn K (.ref fReader_has_name) = true)
    {fReader_read_choice : Addr} {odReader_read_choice anReader_read_choice : Option Addr} {slReader_read_choice : Array (Option Value)} {ocReader_read_choice kVReader_read_choice dcReader_read_choice pmReader_read_choice cdReader_read_choice ctReader_read_choice : Value}
    (aReader_read_choice : PySem.W.findIn K (.ref C_Reader) "read_choice" = some (some (.ref fReader_read_choice))) (iReader_read_choice : PySem.W.isFn K (.ref fReader_read_choice) = true)
    (lReader_read_choice : K.lookup fReader_read_choice = some ⟨ocReader_read_choice, odReader_read_choice, .func (PySem.W.fnOf "read_choice" "Reader.read_choice" (defArgs s_Reader_read_choice) (defBody s_Reader_read_choice) (defScope s_Reader_read_choice) .none kVReader_read_choice dcReader_read_choice pmReader_read_choice anReader_read_choice cdReader_read_choice ctReader_read_choice), slReader_read_choice⟩) (cReader_read_choice : PySem.W.codeIn K cdReader_read_choice "Reader.read_choice" = true) (kReader_read_choice : PySem.W.keepIn K (.ref fReader_read_choice) = true)
    {fReader_expect : Addr} {odReader_expect anReader_expect : Option Addr} {slReader_expect : Array (Option Value)} {ocReader_expect kVReader_expect dcReader_expect pmReader_expect cdReader_expect ctReader_expect : Value}
    (aReader_expect : PySem.W.findIn K (.ref C_Reader) "expect" = some (some (.ref fReader_expect))) (iReader_expect : PySem.W.isFn K (.ref fReader_expect) = true)
    (lReader_expect : K.lookup fReader_expect = some ⟨ocReader_expect, odReader_expect, .func (PySem.W.fnOf "expect" "Reader.expect" (defArgs s_Reader_expect) (defBody s_Reader_expect) (defScope s_Reader_expect) .none kVReader_expect dcReader_expect pmReader_expect anReader_expect cdReader_expect ctReader_expect), slReader_expect⟩) (cReader_expect : PySem.W.codeIn K cdReader_expect "Reader.expect" = true) (kReader_expect : PySem.W.keepIn K (.ref fReader_expect) = true)
    {fReader_read_name : Addr} {odReader_read_name anReader_read_name : Option Addr} {slReader_read_name : Array (Option Value)} {ocReader_read_name kVReader_read_name dcReader_read_name pmReader_read_name cdReader_read_name ctReader_read_name : Value}
    (aReader_read_name : PySem.W.findIn K (.ref C_Reader) "read_name" = some (some (.ref fReader_read_name))) (iReader_read_name : PySem.W.isFn K (.ref fReader_read_name) = true)
    (lReader_read_name : K.lookup fReader_read_name = some ⟨ocReader_read_name, odReader_read_name, .func (PySem.W.fnOf "read_name" "Reader.read_name" (defArgs s_Reader_read_name) (defBody s_Reader_read_name) (defScope s_Reader_read_name) .none kVReader_read_name dcReader_read_name pmReader_read_name anReader_read_name cdReader_read_name ctReader_read_name), slReader_read_name⟩) (cReader_read_name : PySem.W.codeIn K cdReader_read_name "Reader.read_name" = true) (kReader_read_name : PySem.W.keepIn K (.ref fReader_read_name) = true)
    {fReader_read_number : Addr} {odReader_read_number anReader_read_number : Option Addr} {slReader_read_number : Array (Option Value)} {ocReader_read_number kVReader_read_number dcReader_read_number pmReader_read_number cdReader_read_number ctReader_read_number : Value}
    (aReader_read_number : PySem.W.findIn K (.ref C_Reader) "read_number" = some (some (.ref fReader_read_number))) (iReader_read_number : PySem.W.isFn K (.ref fReader_read_number) = true)
    (lReader_read_number : K.lookup fReader_read_number = some ⟨ocReader_read_number, odReader_read_number, .func (PySem.W.fnOf "read_number" "Reader.read_number" (defArgs s_Reader_read_number) (defBody s_Reader_read_number) (defScope s_Reader_read_number) .none kVReader_read_number dcReader_read_number pmReader_read_number anReader_read_number cdReader_read_number ctReader_read_number), slReader_read_number⟩) (cReader_read_number : PySem.W.codeIn K cdReader_read_number "Reader.read_number" = true) (kReader_read_number : PySem.W.keepIn K (.ref fReader_read_number) = true)
    {fReader_read_names : Addr} {odReader_read_names anReader_read_names : Option Addr} {slReader_read_names : Array (Option Value)} {ocReader_read_names kVReader_read_names dcReader_read_names pmReader_read_names cdReader_read_names ctReader_read_names : Value}
    (aReader_read_names : PySem.W.findIn K (.ref C_Reader) "read_names" = some (some (.ref fReader_read_names))) (iReader_read_names : PySem.W.isFn K (.ref fReader_read_names) = true)
    (lReader_read_names : K.lookup fReader_read_names = some ⟨ocReader_read_names, odReader_read_names, .func (PySem.W.fnOf "read_names" "Reader.read_names" (defArgs s_Reader_read_names) (defBody s_Reader_read_names) (defScope s_Reader_read_names) .none kVReader_read_names dcReader_read_names pmReader_read_names anReader_read_names cdReader_read_names ctReader_read_names), slReader_read_names⟩) (cReader_read_names : PySem.W.codeIn K cdReader_read_names "Reader.read_names" = true) (kReader_read_names : PySem.W.keepIn K (.ref fReader_read_names) = true)
    {fReader_read_part : Addr} {odReader_read_part anReader_read_part : Option Addr} {slReader_read_part : Array (Option Value)} {ocReader_read_part kVReader_read_part dcReader_read_part pmReader_read_part cdReader_read_part ctReader_read_part : Value}
    (aReader_read_part : PySem.W.findIn K (.ref C_Reader) "read_part" = some (some (.ref fReader_read_part))) (iReader_read_part : PySem.W.isFn K (.ref fReader_read_part) = true)
    (lReader_read_part : K.lookup fReader_read_part = some ⟨ocReader_read_part, odReader_read_part, .func (PySem.W.fnOf "read_part" "Reader.read_part" (defArgs s_Reader_read_part) (defBody s_Reader_read_part) (defScope s_Reader_read_part) .none kVReader_read_part dcReader_read_part pmReader_read_part anReader_read_part cdReader_read_part ctReader_read_part), slReader_read_part⟩) (cReader_read_part : PySem.W.codeIn K cdReader_read_part "Reader.read_part" = true) (kReader_read_part : PySem.W.keepIn K (.ref fReader_read_part) = true)
    {fReader_read_parts : Addr} {odReader_read_parts anReader_read_parts : Option Addr} {slReader_read_parts : Array (Option Value)} {ocReader_read_parts kVReader_read_parts dcReader_read_parts pmReader_read_parts cdReader_read_parts ctReader_read_parts : Value}
    (aReader_read_parts : PySem.W.findIn K (.ref C_Reader) "read_parts" = some (some (.ref fReader_read_parts))) (iReader_read_parts : PySem.W.isFn K (.ref fReader_read_parts) = true)
    (lReader_read_parts : K.lookup fReader_read_parts = some ⟨ocReader_read_parts, odReader_read_parts, .func (PySem.W.fnOf "read_parts" "Reader.read_parts" (defArgs s_Reader_read_parts) (defBody s_Reader_read_parts) (defScope s_Reader_read_parts) .none kVReader_read_parts dcReader_read_parts pmReader_read_parts anReader_read_parts cdReader_read_parts ctReader_read_parts), slReader_read_parts⟩) (cReader_read_parts : PySem.W.codeIn K cdReader_read_parts "Reader.read_parts" = true) (kReader_read_parts : PySem.W.keepIn K (.ref fReader_read_parts) = true)
    {fReader_enter_pair : Addr} {odReader_enter_pair anReader_enter_pair : Option Addr} {slReader_enter_pair : Array (Option Value)} {ocReader_enter_pair kVReader_enter_pair dcReader_enter_pair pmReader_enter_pair cdReader_enter_pair ctReader_enter_pair : Value}
    (aReader_enter_pair : PySem.W.findIn K (.ref C_Reader) "enter_pair" = some (some (.ref fReader_enter_pair))) (iReader_enter_pair : PySem.W.isFn K (.ref fReader_enter_pair) = true)
    (lReader_enter_pair : K.lookup fReader_enter_pair = some ⟨ocReader_enter_pair, odReader_enter_pair, .func (PySem.W.fnOf "enter_pair" "Reader.enter_pair" (defArgs s_Reader_enter_pair) (defBody s_Reader_enter_pair) (defScope s_Reader_enter_pair) .none kVReader_enter_pair dcReader_enter_pair pmReader_enter_pair anReader_enter_pair cdReader_enter_pair ctReader_enter_pair), slReader_enter_pair⟩) (cReader_enter_pair : PySem.W.codeIn K cdReader_enter_pair "Reader.enter_pair" = true) (kReader_enter_pair : PySem.W.keepIn K (.ref fReader_enter_pair) = true)
    {fReader_read_stage : Addr} {odReader_read_stage anReader_read_stage : Option Addr} {slReader_read_stage : Array (Option Value)} {ocReader_read_stage kVReader_read_stage dcReader_read_stage pmReader_read_stage cdReader_read_stage ctReader_read_stage : Value}
    (aReader_read_stage : PySem.W.findIn K (.ref C_Reader) "read_stage" = some (some (.ref fReader_read_stage))) (iReader_read_stage : PySem.W.isFn K (.ref fReader_read_stage) = true)
    (lReader_read_stage : K.lookup fReader_read_stage = some ⟨ocReader_read_stage, odReader_read_stage, .func (PySem.W.fnOf "read_stage" "Reader.read_stage" (defArgs s_Reader_read_stage) (defBody s_Reader_read_stage) (defScope s_Reader_read_stage) .none kVReader_read_stage dcReader_read_stage pmReader_read_stage anReader_read_stage cdReader_read_stage ctReader_read_stage), slReader_read_stage⟩) (cReader_read_stage : PySem.W.codeIn K cdReader_read_stage "Reader.read_stage" = true) (kReader_read_stage : PySem.W.keepIn K (.ref fReader_read_stage) = true)
    {fReader_read_start : Addr} {odReader_read_start anReader_read_start : Option Addr} {slReader_read_start : Array (Option Value)} {ocReader_read_start kVReader_read_start dcReader_read_start pmReader_read_start cdReader_read_start ctReader_read_start : Value}
    (aReader_read_start : PySem.W.findIn K (.ref C_Reader) "read_start" = some (some (.ref fReader_read_start))) (iReader_read_start : PySem.W.isFn K (.ref fReader_read_start) = true)
    (lReader_read_start : K.lookup fReader_read_start = some ⟨ocReader_read_start, odReader_read_start, .func (PySem.W.fnOf "read_start" "Reader.read_start" (defArgs s_Reader_read_start) (defBody s_Reader_read_start) (defScope s_Reader_read_start) .none kVReader_read_start dcReader_read_start pmReader_read_start anReader_read_start cdReader_read_start ctReader_read_start), slReader_read_start⟩) (cReader_read_start : PySem.W.codeIn K cdReader_read_start "Reader.read_start" = true) (kReader_read_start : PySem.W.keepIn K (.ref fReader_read_start) = true)
    {fReader_leave : Addr} {odReader_leave anReader_leave : Option Addr} {slReader_leave : Array (Option Value)} {ocReader_leave kVReader_leave dcReader_leave pmReader_leave cdReader_leave ctReader_leave : Value}
    (aReader_leave : PySem.W.findIn K (.ref C_Reader) "leave" = some (some (.ref fReader_leave))) (iReader_leave : PySem.W.isFn K (.ref fReader_leave) = true)
    (lReader_leave : K.lookup fReader_leave = some ⟨ocReader_leave, odReader_leave, .func (PySem.W.fnOf "leave" "Reader.leave" (defArgs s_Reader_leave) (defBody s_Reader_leave) (defScope s_Reader_leave) .none kVReader_leave dcReader_leave pmReader_leave anReader_leave cdReader_leave ctReader_leave), slReader_leave⟩) (cReader_leave : PySem.W.codeIn K cdReader_leave "Reader.leave" = true) (kReader_leave : PySem.W.keepIn K (.ref fReader_leave) = true)
    {fReader_read_plan : Addr} {odReader_read_plan anReader_read_plan : Option Addr} {slReader_read_plan : Array (Option Value)} {ocReader_read_plan kVReader_read_plan dcReader_read_plan pmReader_read_plan cdReader_read_plan ctReader_read_plan : Value}
    (aReader_read_plan : PySem.W.findIn K (.ref C_Reader) "read_plan" = some (some (.ref fReader_read_plan))) (iReader_read_plan : PySem.W.isFn K (.ref fReader_read_plan) = true)
    (lReader_read_plan : K.lookup fReader_read_plan = some ⟨ocReader_read_plan, odReader_read_plan, .func (PySem.W.fnOf "read_plan" "Reader.read_plan" (defArgs s_Reader_read_plan) (defBody s_Reader_read_plan) (defScope s_Reader_read_plan) .none kVReader_read_plan dcReader_read_plan pmReader_read_plan anReader_read_plan cdReader_read_plan ctReader_read_plan), slReader_read_plan⟩) (cReader_read_plan : PySem.W.codeIn K cdReader_read_plan "Reader.read_plan" = true) (kReader_read_plan : PySem.W.keepIn K (.ref fReader_read_plan) = true)
    (pg_Reader : PySem.W.plainGet K C_Reader Str.empty = true) (hd_Reader : PySem.W.hasDictIn K C_Reader = true) (po_Reader : PySem.W.plainOver K C_Reader = true) (sa_Reader : PySem.W.findIn K (.ref C_Reader) "__setattr__" = some (some (.builtin "object.__setattr__"))) (mk_Reader : PySem.W.makesIn K C_Reader = true) (kc_Reader : PySem.W.keepIn K (.ref C_Reader) = true)
    (n_Reader_found : PySem.W.findIn K (.ref C_Reader) "found" = some none)
    (n_Reader_at : PySem.W.findIn K (.ref C_Reader) "at" = some none)
    (n_Reader_numbers : PySem.W.findIn K (.ref C_Reader) "numbers" = some none)
    (n_Reader_unclosed : PySem.W.findIn K (.ref C_Reader) "unclosed" = some none)
    (b_int : PySem.W.nsIn K mainGlobals "int" = some none)
    (b_len : PySem.W.nsIn K mainGlobals "len" = some none)
    (b_abs : PySem.W.nsIn K mainGlobals "abs" = some none)
    (b_isinstance : PySem.W.nsIn K mainGlobals "isinstance" = some none)
    (b_list : PySem.W.nsIn K mainGlobals "list" = some none)
    (b_tuple : PySem.W.nsIn K mainGlobals "tuple" = some none)
    (b_bool : PySem.W.nsIn K mainGlobals "bool" = some none)
    (b_str : PySem.W.nsIn K mainGlobals "str" = some none)
    (b_all : PySem.W.nsIn K mainGlobals "all" = some none)
    (b_range : PySem.W.nsIn K mainGlobals "range" = some none)
    (b_sorted : PySem.W.nsIn K mainGlobals "sorted" = some none)
    (b_set : PySem.W.nsIn K mainGlobals "set" = some none)
    (b_max : PySem.W.nsIn K mainGlobals "max" = some none)
    (b_enumerate : PySem.W.nsIn K mainGlobals "enumerate" = some none)
    {t_LETTERS : Tok} (v_LETTERS : PySem.W.nsIn K mainGlobals "LETTERS" = some (some (.str ("abcdefghijklmnopqrstuvwxyz" : Str) t_LETTERS)))
    {t_DIGITS : Tok} (v_DIGITS : PySem.W.nsIn K mainGlobals "DIGITS" = some (some (.str ("0123456789" : Str) t_DIGITS)))
    {t_BLANKS : Tok} (v_BLANKS : PySem.W.nsIn K mainGlobals "BLANKS" = some (some (.str (" \n" : Str) t_BLANKS)))
    {a_SIGNS : Addr} (v_SIGNS : PySem.W.nsIn K mainGlobals "SIGNS" = some (some (.ref a_SIGNS)))
    {o_SIGNS : Obj} {i_SIGNS : Array Value} {n_SIGNS : Nat} (w_SIGNS : K.lookup a_SIGNS = some o_SIGNS) (x_SIGNS : o_SIGNS.cls = .type "tuple") (y_SIGNS : o_SIGNS.data = .seq i_SIGNS n_SIGNS) (z_SIGNS : i_SIGNS.size ≤ sizeLine) (r_SIGNS : Vals (sgS.map V.str) i_SIGNS.toList)
    {a_PAIRS : Addr} (v_PAIRS : PySem.W.nsIn K mainGlobals "PAIRS" = some (some (.ref a_PAIRS)))
    {o_PAIRS : Obj} {i_PAIRS : Array Value} {n_PAIRS : Nat} (w_PAIRS : K.lookup a_PAIRS = some o_PAIRS) (x_PAIRS : o_PAIRS.cls = .type "tuple") (y_PAIRS : o_PAIRS.data = .seq i_PAIRS n_PAIRS) (z_PAIRS : i_PAIRS.size ≤ sizeLine) (r_PAIRS : Vals (pairS.map V.str) i_PAIRS.toList)
    {a_STAGES : Addr} (v_STAGES : PySem.W.nsIn K mainGlobals "STAGES" = some (some (.ref a_STAGES)))
    {o_STAGES : Obj} {i_STAGES : Array Value} {n_STAGES : Nat} (w_STAGES : K.lookup a_STAGES = some o_STAGES) (x_STAGES : o_STAGES.cls = .type "tuple") (y_STAGES : o_STAGES.data = .seq i_STAGES n_STAGES) (z_STAGES : i_STAGES.size ≤ sizeLine) (r_STAGES : Vals (stageS.map V.str) i_STAGES.toList)
    {a_SINGLES : Addr} (v_SINGLES : PySem.W.nsIn K mainGlobals "SINGLES" = some (some (.ref a_SINGLES)))
    {o_SINGLES : Obj} {i_SINGLES : Array Value} {n_SINGLES : Nat} (w_SINGLES : K.lookup a_SINGLES = some o_SINGLES) (x_SINGLES : o_SINGLES.cls = .type "tuple") (y_SINGLES : o_SINGLES.data = .seq i_SINGLES n_SINGLES) (z_SINGLES : i_SINGLES.size ≤ sizeLine) (r_SINGLES : Vals (singleS.map V.str) i_SINGLES.toList)
    {a_AGGREGATES : Addr} (v_AGGREGATES : PySem.W.nsIn K mainGlobals "AGGREGATES" = some (some (.ref a_AGGREGATES)))
    {o_AGGREGATES : Obj} {i_AGGREGATES : Array Value} {n_AGGREGATES : Nat} (w_AGGREGATES : K.lookup a_AGGREGATES = some o_AGGREGATES) (x_AGGREGATES : o_AGGREGATES.cls = .type "tuple") (y_AGGREGATES : o_AGGREGATES.data = .seq i_AGGREGATES n_AGGREGATES) (z_AGGREGATES : i_AGGREGATES.size ≤ sizeLine) (r_AGGREGATES : Vals (aggS.map V.str) i_AGGREGATES.toList)
    {a_COMBINATIONS : Addr} (v_COMBINATIONS : PySem.W.nsIn K mainGlobals "COMBINATIONS" = some (some (.ref a_COMBINATIONS)))
    {o_COMBINATIONS : Obj} {i_COMBINATIONS : Array Value} {n_COMBINATIONS : Nat} (w_COMBINATIONS : K.lookup a_COMBINATIONS = some o_COMBINATIONS) (x_COMBINATIONS : o_COMBINATIONS.cls = .type "tuple") (y_COMBINATIONS : o_COMBINATIONS.data = .seq i_COMBINATIONS n_COMBINATIONS) (z_COMBINATIONS : i_COMBINATIONS.size ≤ sizeLine) (r_COMBINATIONS : Vals (combS.map V.str) i_COMBINATIONS.toList)
    {a_COMPARISONS : Addr} (v_COMPARISONS : PySem.W.nsIn K mainGlobals "COMPARISONS" = some (some (.ref a_COMPARISONS)))
    {o_COMPARISONS : Obj} {i_COMPARISONS : Array Value} {n_COMPARISONS : Nat} (w_COMPARISONS : K.lookup a_COMPARISONS = some o_COMPARISONS) (x_COMPARISONS : o_COMPARISONS.cls = .type "tuple") (y_COMPARISONS : o_COMPARISONS.data = .seq i_COMPARISONS n_COMPARISONS) (z_COMPARISONS : i_COMPARISONS.size ≤ sizeLine) (r_COMPARISONS : Vals (compS.map V.str) i_COMPARISONS.toList)
    {t_LONGEST_NAME : Tok} (v_LONGEST_NAME : PySem.W.nsIn K mainGlobals "LONGEST_NAME" = some (some (.int (8) t_LONGEST_NAME)))
    {t_MOST_OPERATORS : Tok} (v_MOST_OPERATORS : PySem.W.nsIn K mainGlobals "MOST_OPERATORS" = some (some (.int (20) t_MOST_OPERATORS)))
    {t_MOST_LEVELS : Tok} (v_MOST_LEVELS : PySem.W.nsIn K mainGlobals "MOST_LEVELS" = some (some (.int (10) t_MOST_LEVELS)))
    {t_SLIDES_IN_A_SIZE : Tok} (v_SLIDES_IN_A_SIZE : PySem.W.nsIn K mainGlobals "SLIDES_IN_A_SIZE" = some (some (.int (10) t_SLIDES_IN_A_SIZE)))
    {a_PARTS0 a_PARTS1 a_PARTS2 a_PARTS3 a_PARTS4 a_PARTS5 a_PARTS6 a_PARTS7 a_PARTS8 a_PARTS9 a_PARTS10 a_PARTS11 : Addr}
    {a_PARTS : Addr} {e_PARTS : Array DictEntry} {n_PARTS : Nat} (v_PARTS : PySem.W.nsIn K mainGlobals "PARTS" = some (some (.ref a_PARTS))) (w_PARTS : K.lookup a_PARTS = some ⟨.type "dict", none, .dict e_PARTS n_PARTS, #[]⟩) (d_PARTS : DEnts w.params e_PARTS.toList [("sift", .ref a_PARTS0), ("only", .ref a_PARTS1), ("rekey", .ref a_PARTS2), ("scale", .ref a_PARTS3), ("later", .ref a_PARTS4), ("once", .ref a_PARTS5), ("windows", .ref a_PARTS6), ("sittings", .ref a_PARTS7), ("both", .ref a_PARTS8), ("less", .ref a_PARTS9), ("without", .ref a_PARTS10), ("near", .ref a_PARTS11)]) (s_PARTS : (a_PARTS == sysModules) = false)
    {o_PARTS0 : Obj} {i_PARTS0 : Array Value} {n_PARTS0 : Nat} (w_PARTS0 : K.lookup a_PARTS0 = some o_PARTS0) (x_PARTS0 : o_PARTS0.cls = .type "tuple") (y_PARTS0 : o_PARTS0.data = .seq i_PARTS0 n_PARTS0) (z_PARTS0 : i_PARTS0.size ≤ sizeLine) (r_PARTS0 : Vals ((["comparison", "bound"] : List Str).map V.str) i_PARTS0.toList)
    {o_PARTS1 : Obj} {i_PARTS1 : Array Value} {n_PARTS1 : Nat} (w_PARTS1 : K.lookup a_PARTS1 = some o_PARTS1) (x_PARTS1 : o_PARTS1.cls = .type "tuple") (y_PARTS1 : o_PARTS1.data = .seq i_PARTS1 n_PARTS1) (z_PARTS1 : i_PARTS1.size ≤ sizeLine) (r_PARTS1 : Vals ((["names"] : List Str).map V.str) i_PARTS1.toList)
    {o_PARTS2 : Obj} {i_PARTS2 : Array Value} {n_PARTS2 : Nat} (w_PARTS2 : K.lookup a_PARTS2 = some o_PARTS2) (x_PARTS2 : o_PARTS2.cls = .type "tuple") (y_PARTS2 : o_PARTS2.data = .seq i_PARTS2 n_PARTS2) (z_PARTS2 : i_PARTS2.size ≤ sizeLine) (r_PARTS2 : Vals ((["name"] : List Str).map V.str) i_PARTS2.toList)
    {o_PARTS3 : Obj} {i_PARTS3 : Array Value} {n_PARTS3 : Nat} (w_PARTS3 : K.lookup a_PARTS3 = some o_PARTS3) (x_PARTS3 : o_PARTS3.cls = .type "tuple") (y_PARTS3 : o_PARTS3.data = .seq i_PARTS3 n_PARTS3) (z_PARTS3 : i_PARTS3.size ≤ sizeLine) (r_PARTS3 : Vals ((["factor"] : List Str).map V.str) i_PARTS3.toList)
    {o_PARTS4 : Obj} {i_PARTS4 : Array Value} {n_PARTS4 : Nat} (w_PARTS4 : K.lookup a_PARTS4 = some o_PARTS4) (x_PARTS4 : o_PARTS4.cls = .type "tuple") (y_PARTS4 : o_PARTS4.data = .seq i_PARTS4 n_PARTS4) (z_PARTS4 : i_PARTS4.size ≤ sizeLine) (r_PARTS4 : Vals ((["delay"] : List Str).map V.str) i_PARTS4.toList)
    {o_PARTS5 : Obj} {i_PARTS5 : Array Value} {n_PARTS5 : Nat} (w_PARTS5 : K.lookup a_PARTS5 = some o_PARTS5) (x_PARTS5 : o_PARTS5.cls = .type "tuple") (y_PARTS5 : o_PARTS5.data = .seq i_PARTS5 n_PARTS5) (z_PARTS5 : i_PARTS5.size ≤ sizeLine) (r_PARTS5 : Vals (([] : List Str).map V.str) i_PARTS5.toList)
    {o_PARTS6 : Obj} {i_PARTS6 : Array Value} {n_PARTS6 : Nat} (w_PARTS6 : K.lookup a_PARTS6 = some o_PARTS6) (x_PARTS6 : o_PARTS6.cls = .type "tuple") (y_PARTS6 : o_PARTS6.data = .seq i_PARTS6 n_PARTS6) (z_PARTS6 : i_PARTS6.size ≤ sizeLine) (r_PARTS6 : Vals ((["size", "slide", "aggregate"] : List Str).map V.str) i_PARTS6.toList)
    {o_PARTS7 : Obj} {i_PARTS7 : Array Value} {n_PARTS7 : Nat} (w_PARTS7 : K.lookup a_PARTS7 = some o_PARTS7) (x_PARTS7 : o_PARTS7.cls = .type "tuple") (y_PARTS7 : o_PARTS7.data = .seq i_PARTS7 n_PARTS7) (z_PARTS7 : i_PARTS7.size ≤ sizeLine) (r_PARTS7 : Vals ((["gap", "aggregate"] : List Str).map V.str) i_PARTS7.toList)
    {o_PARTS8 : Obj} {i_PARTS8 : Array Value} {n_PARTS8 : Nat} (w_PARTS8 : K.lookup a_PARTS8 = some o_PARTS8) (x_PARTS8 : o_PARTS8.cls = .type "tuple") (y_PARTS8 : o_PARTS8.data = .seq i_PARTS8 n_PARTS8) (z_PARTS8 : i_PARTS8.size ≤ sizeLine) (r_PARTS8 : Vals (([] : List Str).map V.str) i_PARTS8.toList)
    {o_PARTS9 : Obj} {i_PARTS9 : Array Value} {n_PARTS9 : Nat} (w_PARTS9 : K.lookup a_PARTS9 = some o_PARTS9) (x_PARTS9 : o_PARTS9.cls = .type "tuple") (y_PARTS9 : o_PARTS9.data = .seq i_PARTS9 n_PARTS9) (z_PARTS9 : i_PARTS9.size ≤ sizeLine) (r_PARTS9 : Vals (([] : List Str).map V.str) i_PARTS9.toList)
    {o_PARTS10 : Obj} {i_PARTS10 : Array Value} {n_PARTS10 : Nat} (w_PARTS10 : K.lookup a_PARTS10 = some o_PARTS10) (x_PARTS10 : o_PARTS10.cls = .type "tuple") (y_PARTS10 : o_PARTS10.data = .seq i_PARTS10 n_PARTS10) (z_PARTS10 : i_PARTS10.size ≤ sizeLine) (r_PARTS10 : Vals (([] : List Str).map V.str) i_PARTS10.toList)
    {o_PARTS11 : Obj} {i_PARTS11 : Array Value} {n_PARTS11 : Nat} (w_PARTS11 : K.lookup a_PARTS11 = some o_PARTS11) (x_PARTS11 : o_PARTS11.cls = .type "tuple") (y_PARTS11 : o_PARTS11.data = .seq i_PARTS11 n_PARTS11) (z_PARTS11 : i_PARTS11.size ≤ sizeLine) (r_PARTS11 : Vals ((["before", "after", "combination"] : List Str).map V.str) i_PARTS11.toList)
    {a_RANGES0 a_RANGES1 a_RANGES2 a_RANGES3 a_RANGES4 a_RANGES5 a_RANGES6 a_RANGES7 : Addr}
    {a_RANGES : Addr} {e_RANGES : Array DictEntry} {n_RANGES : Nat} (v_RANGES : PySem.W.nsIn K mainGlobals "RANGES" = some (some (.ref a_RANGES))) (w_RANGES : K.lookup a_RANGES = some ⟨.type "dict", none, .dict e_RANGES n_RANGES, #[]⟩) (d_RANGES : DEnts w.params e_RANGES.toList [("bound", .ref a_RANGES0), ("factor", .ref a_RANGES1), ("delay", .ref a_RANGES2), ("size", .ref a_RANGES3), ("slide", .ref a_RANGES4), ("gap", .ref a_RANGES5), ("before", .ref a_RANGES6), ("after", .ref a_RANGES7)]) (s_RANGES : (a_RANGES == sysModules) = false)
    {o_RANGES0 : Obj} {i_RANGES0 : Array Value} {n_RANGES0 : Nat} (w_RANGES0 : K.lookup a_RANGES0 = some o_RANGES0) (x_RANGES0 : o_RANGES0.cls = .type "tuple") (y_RANGES0 : o_RANGES0.data = .seq i_RANGES0 n_RANGES0) (z_RANGES0 : i_RANGES0.size ≤ sizeLine) (r_RANGES0 : Vals ([V.int (-1000000000), V.int (1000000000)]) i_RANGES0.toList)
    {o_RANGES1 : Obj} {i_RANGES1 : Array Value} {n_RANGES1 : Nat} (w_RANGES1 : K.lookup a_RANGES1 = some o_RANGES1) (x_RANGES1 : o_RANGES1.cls = .type "tuple") (y_RANGES1 : o_RANGES1.data = .seq i_RANGES1 n_RANGES1) (z_RANGES1 : i_RANGES1.size ≤ sizeLine) (r_RANGES1 : Vals ([V.int (-1000), V.int (1000)]) i_RANGES1.toList)
    {o_RANGES2 : Obj} {i_RANGES2 : Array Value} {n_RANGES2 : Nat} (w_RANGES2 : K.lookup a_RANGES2 = some o_RANGES2) (x_RANGES2 : o_RANGES2.cls = .type "tuple") (y_RANGES2 : o_RANGES2.data = .seq i_RANGES2 n_RANGES2) (z_RANGES2 : i_RANGES2.size ≤ sizeLine) (r_RANGES2 : Vals ([V.int (0), V.int (1000)]) i_RANGES2.toList)
    {o_RANGES3 : Obj} {i_RANGES3 : Array Value} {n_RANGES3 : Nat} (w_RANGES3 : K.lookup a_RANGES3 = some o_RANGES3) (x_RANGES3 : o_RANGES3.cls = .type "tuple") (y_RANGES3 : o_RANGES3.data = .seq i_RANGES3 n_RANGES3) (z_RANGES3 : i_RANGES3.size ≤ sizeLine) (r_RANGES3 : Vals ([V.int (1), V.int (1000)]) i_RANGES3.toList)
    {o_RANGES4 : Obj} {i_RANGES4 : Array Value} {n_RANGES4 : Nat} (w_RANGES4 : K.lookup a_RANGES4 = some o_RANGES4) (x_RANGES4 : o_RANGES4.cls = .type "tuple") (y_RANGES4 : o_RANGES4.data = .seq i_RANGES4 n_RANGES4) (z_RANGES4 : i_RANGES4.size ≤ sizeLine) (r_RANGES4 : Vals ([V.int (1), V.int (1000)]) i_RANGES4.toList)
    {o_RANGES5 : Obj} {i_RANGES5 : Array Value} {n_RANGES5 : Nat} (w_RANGES5 : K.lookup a_RANGES5 = some o_RANGES5) (x_RANGES5 : o_RANGES5.cls = .type "tuple") (y_RANGES5 : o_RANGES5.data = .seq i_RANGES5 n_RANGES5) (z_RANGES5 : i_RANGES5.size ≤ sizeLine) (r_RANGES5 : Vals ([V.int (0), V.int (1000)]) i_RANGES5.toList)
    {o_RANGES6 : Obj} {i_RANGES6 : Array Value} {n_RANGES6 : Nat} (w_RANGES6 : K.lookup a_RANGES6 = some o_RANGES6) (x_RANGES6 : o_RANGES6.cls = .type "tuple") (y_RANGES6 : o_RANGES6.data = .seq i_RANGES6 n_RANGES6) (z_RANGES6 : i_RANGES6.size ≤ sizeLine) (r_RANGES6 : Vals ([V.int (0), V.int (1000)]) i_RANGES6.toList)
    {o_RANGES7 : Obj} {i_RANGES7 : Array Value} {n_RANGES7 : Nat} (w_RANGES7 : K.lookup a_RANGES7 = some o_RANGES7) (x_RANGES7 : o_RANGES7.cls = .type "tuple") (y_RANGES7 : o_RANGES7.data = .seq i_RANGES7 n_RANGES7) (z_RANGES7 : i_RANGES7.size ≤ sizeLine) (r_RANGES7 : Vals ([V.int (0), V.int (1000)]) i_RANGES7.toList) :
    ∃ fd : FuncData, (∀ (s : Shared) (v : Value), BindsTo s fd ⟨[v], []⟩ [("script", v)]) ∧ ∀ base : Heap, K.In base → base.Ns mainGlobals mg → FnOk l.prog w K mg base CX0 22 fa fd ["script"] (spLaw K) := by
  have e := (PySem.W.mg_of X G a26).symm.trans hfa
  cases e
  have F0 := fun_mk (st := s_end_of_stretch) l0 c0 k0
  have D_end_of_stretch : DefAt K mg "end_of_stretch" s_end_of_stretch ["text", "place", "characters"] f0 _ := ⟨F0, PySem.W.mg_of X G a0, F0.binds (ps := ["text", "place", "characters"]) fun _ _ _ _ _ _ us hl => match us, hl with | [_, _, _], _ => rfl⟩
  have F1 := fun_mk (st := s_token_at) l1 c1 k1
  have D_token_at : DefAt K mg "token_at" s_token_at ["text", "place"] f1 _ := ⟨F1, PySem.W.mg_of X G a1, F1.binds (ps := ["text", "place"]) fun _ _ _ _ _ _ us hl => match us, hl with | [_, _], _ => rfl⟩
  have F2 := fun_mk (st := s_tokens) l2 c2 k2
  have D_tokens : DefAt K mg "tokens" s_tokens ["text"] f2 _ := ⟨F2, PySem.W.mg_of X G a2, F2.binds (ps := ["text"]) fun _ _ _ _ _ _ us hl => match us, hl with | [_], _ => rfl⟩
  have F3 := fun_mk (st := s_is_of_grammar) l3 c3 k3
  have D_is_of_grammar : DefAt K mg "is_of_grammar" s_is_of_grammar ["word"] f3 _ := ⟨F3, PySem.W.mg_of X G a3, F3.binds (ps := ["word"]) fun _ _ _ _ _ _ us hl => match us, hl with | [_], _ => rfl⟩
  have F4 := fun_mk (st := s_inputs_of) l4 c4 k4
  have D_inputs_of : DefAt K mg "inputs_of" s_inputs_of ["plan"] f4 _ := ⟨F4, PySem.W.mg_of X G a4, F4.binds (ps := ["plan"]) fun _ _ _ _ _ _ us hl => match us, hl with | [_], _ => rfl⟩
  have F5 := fun_mk (st := s_with_levels) l5 c5 k5
  have D_with_levels : DefAt K mg "with_levels" s_with_levels ["plan"] f5 _ := ⟨F5, PySem.W.mg_of X G a5, F5.binds (ps := ["plan"]) fun _ _ _ _ _ _ us hl => match us, hl with | [_], _ => rfl⟩
  have F6 := fun_mk (st := s_in_range) l6 c6 k6
  have D_in_range : DefAt K mg "in_range" s_in_range ["part", "value"] f6 _ := ⟨F6, PySem.W.mg_of X G a6, F6.binds (ps := ["part", "value"]) fun _ _ _ _ _ _ us hl => match us, hl with | [_, _], _ => rfl⟩
  have F7 := fun_mk (st := s_is_too_wide) l7 c7 k7
  have D_is_too_wide : DefAt K mg "is_too_wide" s_is_too_wide ["size", "slide"] f7 _ := ⟨F7, PySem.W.mg_of X G a7, F7.binds (ps := ["size", "slide"]) fun _ _ _ _ _ _ us hl => match us, hl with | [_, _], _ => rfl⟩
  have F8 := fun_mk (st := s_check_numbers) l8 c8 k8
  have D_check_numbers : DefAt K mg "check_numbers" s_check_numbers ["numbers"] f8 _ := ⟨F8, PySem.W.mg_of X G a8, F8.binds (ps := ["numbers"]) fun _ _ _ _ _ _ us hl => match us, hl with | [_], _ => rfl⟩
  have F9 := fun_mk (st := s_check_extent) l9 c9 k9
  have D_check_extent : DefAt K mg "check_extent" s_check_extent ["plan", "place"] f9 _ := ⟨F9, PySem.W.mg_of X G a9, F9.binds (ps := ["plan", "place"]) fun _ _ _ _ _ _ us hl => match us, hl with | [_, _], _ => rfl⟩
  have F10 := fun_mk (st := s_parse_plan) l10 c10 k10
  have D_parse_plan : DefAt K mg "parse_plan" s_parse_plan ["text"] f10 _ := ⟨F10, PySem.W.mg_of X G a10, F10.binds (ps := ["text"]) fun _ _ _ _ _ _ us hl => match us, hl with | [_], _ => rfl⟩
  have F11 := fun_mk (st := s_draw) l11 c11 k11
  have D_draw : DefAt K mg "_law_draw" s_draw ["script"] f11 _ := ⟨F11, PySem.W.mg_of X G a11, F11.binds (ps := ["script"]) fun _ _ _ _ _ _ us hl => match us, hl with | [_], _ => rfl⟩
  have F12 := fun_mk (st := s_next) l12 c12 k12
  have D_next : DefAt K mg "_law_next" s_next ["draw", "many"] f12 _ := ⟨F12, PySem.W.mg_of X G a12, F12.binds (ps := ["draw", "many"]) fun _ _ _ _ _ _ us hl => match us, hl with | [_, _], _ => rfl⟩
  have F13 := fun_mk (st := s_same) l13 c13 k13
  have D_same : DefAt K mg "_law_same" s_same ["actual", "due"] f13 _ := ⟨F13, PySem.W.mg_of X G a13, F13.binds (ps := ["actual", "due"]) fun _ _ _ _ _ _ us hl => match us, hl with | [_, _], _ => rfl⟩
  have F14 := fun_mk (st := s_stage) l14 c14 k14
  have D_stage : DefAt K mg "_law_stage" s_stage ["draw"] f14 _ := ⟨F14, PySem.W.mg_of X G a14, F14.binds (ps := ["draw"]) fun _ _ _ _ _ _ us hl => match us, hl with | [_], _ => rfl⟩
  have F15 := fun_mk (st := s_aggregate) l15 c15 k15
  have D_aggregate : DefAt K mg "_law_aggregate" s_aggregate ["draw"] f15 _ := ⟨F15, PySem.W.mg_of X G a15, F15.binds (ps := ["draw"]) fun _ _ _ _ _ _ us hl => match us, hl with | [_], _ => rfl⟩
  have F16 := fun_mk (st := s_span) l16 c16 k16
  have D_span : DefAt K mg "_law_span" s_span ["draw"] f16 _ := ⟨F16, PySem.W.mg_of X G a16, F16.binds (ps := ["draw"]) fun _ _ _ _ _ _ us hl => match us, hl with | [_], _ => rfl⟩
  have F17 := fun_mk (st := s_tree) l17 c17 k17
  have D_tree : DefAt K mg "_law_tree" s_tree ["draw", "size"] f17 _ := ⟨F17, PySem.W.mg_of X G a17, F17.binds (ps := ["draw", "size"]) fun _ _ _ _ _ _ us hl => match us, hl with | [_, _], _ => rfl⟩
  have F18 := fun_mk (st := s_gap) l18 c18 k18
  have D_gap : DefAt K mg "_law_gap" s_gap ["draw"] f18 _ := ⟨F18, PySem.W.mg_of X G a18, F18.binds (ps := ["draw"]) fun _ _ _ _ _ _ us hl => match us, hl with | [_], _ => rfl⟩
  have F19 := fun_mk (st := s_joint) l19 c19 k19
  have D_joint : DefAt K mg "_law_joint" s_joint ["draw", "last", "word"] f19 _ := ⟨F19, PySem.W.mg_of X G a19, F19.binds (ps := ["draw", "last", "word"]) fun _ _ _ _ _ _ us hl => match us, hl with | [_, _, _], _ => rfl⟩
  have F20 := fun_mk (st := s_digits) l20 c20 k20
  have D_digits : DefAt K mg "_law_digits" s_digits ["draw", "number"] f20 _ := ⟨F20, PySem.W.mg_of X G a20, F20.binds (ps := ["draw", "number"]) fun _ _ _ _ _ _ us hl => match us, hl with | [_, _], _ => rfl⟩
  have F21 := fun_mk (st := s_words) l21 c21 k21
  have D_words : DefAt K mg "_law_words" s_words ["draw", "parts"] f21 _ := ⟨F21, PySem.W.mg_of X G a21, F21.binds (ps := ["draw", "parts"]) fun _ _ _ _ _ _ us hl => match us, hl with | [_, _], _ => rfl⟩
  have F22 := fun_mk (st := s_lnames) l22 c22 k22
  have D_lnames : DefAt K mg "_law_names" s_lnames ["draw", "names"] f22 _ := ⟨F22, PySem.W.mg_of X G a22, F22.binds (ps := ["draw", "names"]) fun _ _ _ _ _ _ us hl => match us, hl with | [_, _], _ => rfl⟩
  have F23 := fun_mk (st := s_bare) l23 c23 k23
  have D_bare : DefAt K mg "_law_bare" s_bare ["draw", "plan"] f23 _ := ⟨F23, PySem.W.mg_of X G a23, F23.binds (ps := ["draw", "plan"]) fun _ _ _ _ _ _ us hl => match us, hl with | [_, _], _ => rfl⟩
  have F24 := fun_mk (st := s_ltokens) l24 c24 k24
  have D_ltokens : DefAt K mg "_law_tokens" s_ltokens ["draw", "plan"] f24 _ := ⟨F24, PySem.W.mg_of X G a24, F24.binds (ps := ["draw", "plan"]) fun _ _ _ _ _ _ us hl => match us, hl with | [_, _], _ => rfl⟩
  have F25 := fun_mk (st := s_text) l25 c25 k25
  have D_text : DefAt K mg "_law_text" s_text ["draw", "words"] f25 _ := ⟨F25, PySem.W.mg_of X G a25, F25.binds (ps := ["draw", "words"]) fun _ _ _ _ _ _ us hl => match us, hl with | [_, _], _ => rfl⟩
  have F26 := fun_mk (st := s_law) l26 c26 k26
  have D_law : DefAt K mg "law" s_law ["script"] fa _ := ⟨F26, PySem.W.mg_of X G a26, F26.binds (ps := ["script"]) fun _ _ _ _ _ _ us hl => match us, hl with | [_], _ => rfl⟩
  have g_Reader := PySem.W.mg_of X G aC_Reader
  have FReader_init := fun_mk (st := s_Reader_init) lReader_init cReader_init kReader_init
  have M_init : MethAt K C_Reader "__init__" "Reader.__init__" s_Reader_init ["self", "text"] fReader_init _ := ⟨FReader_init, ⟨aReader_init, iReader_init, kReader_init⟩, FReader_init.binds (ps := ["self", "text"]) fun _ _ _ _ _ _ us hl => match us, hl with | [_, _], _ => rfl⟩
  have FReader_kind := fun_mk (st := s_Reader_kind) lReader_kind cReader_kind kReader_kind
  have M_kind : MethAt K C_Reader "kind" "Reader.kind" s_Reader_kind ["self"] fReader_kind _ := ⟨FReader_kind, ⟨aReader_kind, iReader_kind, kReader_kind⟩, FReader_kind.binds (ps := ["self"]) fun _ _ _ _ _ _ us hl => match us, hl with | [_], _ => rfl⟩
  have FReader_takes := fun_mk (st := s_Reader_takes) lReader_takes cReader_takes kReader_takes
  have M_takes : MethAt K C_Reader "takes" "Reader.takes" s_Reader_takes ["self", "sign"] fReader_takes _ := ⟨FReader_takes, ⟨aReader_takes, iReader_takes, kReader_takes⟩, FReader_takes.binds (ps := ["self", "sign"]) fun _ _ _ _ _ _ us hl => match us, hl with | [_, _], _ => rfl⟩
  have FReader_read_value := fun_mk (st := s_Reader_read_value) lReader_read_value cReader_read_value kReader_read_value
  have M_read_value : MethAt K C_Reader "read_value" "Reader.read_value" s_Reader_read_value ["self"] fReader_read_value _ := ⟨FReader_read_value, ⟨aReader_read_value, iReader_read_value, kReader_read_value⟩, FReader_read_value.binds (ps := ["self"]) fun _ _ _ _ _ _ us hl => match us, hl with | [_], _ => rfl⟩
  have FReader_first_place := fun_mk (st := s_Reader_first_place) lReader_first_place cReader_first_place kReader_first_place
  have M_first_place : MethAt K C_Reader "first_place" "Reader.first_place" s_Reader_first_place ["self"] fReader_first_place _ := ⟨FReader_first_place, ⟨aReader_first_place, iReader_first_place, kReader_first_place⟩, FReader_first_place.binds (ps := ["self"]) fun _ _ _ _ _ _ us hl => match us, hl with | [_], _ => rfl⟩
  have FReader_has_name := fun_mk (st := s_Reader_has_name) lReader_has_name cReader_has_name kReader_has_name
  have M_has_name : MethAt K C_Reader "has_name" "Reader.has_name" s_Reader_has_name ["self"] fReader_has_name _ := ⟨FReader_has_name, ⟨aReader_has_name, iReader_has_name, kReader_has_name⟩, FReader_has_name.binds (ps := ["self"]) fun _ _ _ _ _ _ us hl => match us, hl with | [_], _ => rfl⟩
  have FReader_read_choice := fun_mk (st := s_Reader_read_choice) lReader_read_choice cReader_read_choice kReader_read_choice
  have M_read_choice : MethAt K C_Reader "read_choice" "Reader.read_choice" s_Reader_read_choice ["self", "choices"] fReader_read_choice _ := ⟨FReader_read_choice, ⟨aReader_read_choice, iReader_read_choice, kReader_read_choice⟩, FReader_read_choice.binds (ps := ["self", "choices"]) fun _ _ _ _ _ _ us hl => match us, hl with | [_, _], _ => rfl⟩
  have FReader_expect := fun_mk (st := s_Reader_expect) lReader_expect cReader_expect kReader_expect
  have M_expect : MethAt K C_Reader "expect" "Reader.expect" s_Reader_expect ["self", "sign"] fReader_expect _ := ⟨FReader_expect, ⟨aReader_expect, iReader_expect, kReader_expect⟩, FReader_expect.binds (ps := ["self", "sign"]) fun _ _ _ _ _ _ us hl => match us, hl with | [_, _], _ => rfl⟩
  have FReader_read_name := fun_mk (st := s_Reader_read_name) lReader_read_name cReader_read_name kReader_read_name
  have M_read_name : MethAt K C_Reader "read_name" "Reader.read_name" s_Reader_read_name ["self"] fReader_read_name _ := ⟨FReader_read_name, ⟨aReader_read_name, iReader_read_name, kReader_read_name⟩, FReader_read_name.binds (ps := ["self"]) fun _ _ _ _ _ _ us hl => match us, hl with | [_], _ => rfl⟩
  have FReader_read_number := fun_mk (st := s_Reader_read_number) lReader_read_number cReader_read_number kReader_read_number
  have M_read_number : MethAt K C_Reader "read_number" "Reader.read_number" s_Reader_read_number ["self", "part"] fReader_read_number _ := ⟨FReader_read_number, ⟨aReader_read_number, iReader_read_number, kReader_read_number⟩, FReader_read_number.binds (ps := ["self", "part"]) fun _ _ _ _ _ _ us hl => match us, hl with | [_, _], _ => rfl⟩
  have FReader_read_names := fun_mk (st := s_Reader_read_names) lReader_read_names cReader_read_names kReader_read_names
  have M_read_names : MethAt K C_Reader "read_names" "Reader.read_names" s_Reader_read_names ["self"] fReader_read_names _ := ⟨FReader_read_names, ⟨aReader_read_names, iReader_read_names, kReader_read_names⟩, FReader_read_names.binds (ps := ["self"]) fun _ _ _ _ _ _ us hl => match us, hl with | [_], _ => rfl⟩
  have FReader_read_part := fun_mk (st := s_Reader_read_part) lReader_read_part cReader_read_part kReader_read_part
  have M_read_part : MethAt K C_Reader "read_part" "Reader.read_part" s_Reader_read_part ["self", "part"] fReader_read_part _ := ⟨FReader_read_part, ⟨aReader_read_part, iReader_read_part, kReader_read_part⟩, FReader_read_part.binds (ps := ["self", "part"]) fun _ _ _ _ _ _ us hl => match us, hl with | [_, _], _ => rfl⟩
  have FReader_read_parts := fun_mk (st := s_Reader_read_parts) lReader_read_parts cReader_read_parts kReader_read_parts
  have M_read_parts : MethAt K C_Reader "read_parts" "Reader.read_parts" s_Reader_read_parts ["self", "word"] fReader_read_parts _ := ⟨FReader_read_parts, ⟨aReader_read_parts, iReader_read_parts, kReader_read_parts⟩, FReader_read_parts.binds (ps := ["self", "word"]) fun _ _ _ _ _ _ us hl => match us, hl with | [_, _], _ => rfl⟩
  have FReader_enter_pair := fun_mk (st := s_Reader_enter_pair) lReader_enter_pair cReader_enter_pair kReader_enter_pair
  have M_enter_pair : MethAt K C_Reader "enter_pair" "Reader.enter_pair" s_Reader_enter_pair ["self"] fReader_enter_pair _ := ⟨FReader_enter_pair, ⟨aReader_enter_pair, iReader_enter_pair, kReader_enter_pair⟩, FReader_enter_pair.binds (ps := ["self"]) fun _ _ _ _ _ _ us hl => match us, hl with | [_], _ => rfl⟩
  have FReader_read_stage := fun_mk (st := s_Reader_read_stage) lReader_read_stage cReader_read_stage kReader_read_stage
  have M_read_stage : MethAt K C_Reader "read_stage" "Reader.read_stage" s_Reader_read_stage ["self", "plan"] fReader_read_stage _ := ⟨FReader_read_stage, ⟨aReader_read_stage, iReader_read_stage, kReader_read_stage⟩, FReader_read_stage.binds (ps := ["self", "plan"]) fun _ _ _ _ _ _ us hl => match us, hl with | [_, _], _ => rfl⟩
  have FReader_read_start := fun_mk (st := s_Reader_read_start) lReader_read_start cReader_read_start kReader_read_start
  have M_read_start : MethAt K C_Reader "read_start" "Reader.read_start" s_Reader_read_start ["self"] fReader_read_start _ := ⟨FReader_read_start, ⟨aReader_read_start, iReader_read_start, kReader_read_start⟩, FReader_read_start.binds (ps := ["self"]) fun _ _ _ _ _ _ us hl => match us, hl with | [_], _ => rfl⟩
  have FReader_leave := fun_mk (st := s_Reader_leave) lReader_leave cReader_leave kReader_leave
  have M_leave : MethAt K C_Reader "leave" "Reader.leave" s_Reader_leave ["self", "plan"] fReader_leave _ := ⟨FReader_leave, ⟨aReader_leave, iReader_leave, kReader_leave⟩, FReader_leave.binds (ps := ["self", "plan"]) fun _ _ _ _ _ _ us hl => match us, hl with | [_, _], _ => rfl⟩
  have FReader_read_plan := fun_mk (st := s_Reader_read_plan) lReader_read_plan cReader_read_plan kReader_read_plan
  have M_read_plan : MethAt K C_Reader "read_plan" "Reader.read_plan" s_Reader_read_plan ["self"] fReader_read_plan _ := ⟨FReader_read_plan, ⟨aReader_read_plan, iReader_read_plan, kReader_read_plan⟩, FReader_read_plan.binds (ps := ["self"]) fun _ _ _ _ _ _ us hl => match us, hl with | [_], _ => rfl⟩
  have T_Reader : RdT K C_Reader := ⟨⟨pg_Reader, hd_Reader, po_Reader, sa_Reader⟩, n_Reader_found, n_Reader_at, n_Reader_numbers, n_Reader_unclosed⟩
  have mk0_Reader : Mk K C_Reader fReader_init := ⟨mk_Reader, aReader_init, iReader_init, kc_Reader⟩
  have z_int := PySem.W.mg_none_of X G b_int
  have z_len := PySem.W.mg_none_of X G b_len
  have z_abs := PySem.W.mg_none_of X G b_abs
  have z_isinstance := PySem.W.mg_none_of X G b_isinstance
  have z_list := PySem.W.mg_none_of X G b_list
  have z_tuple := PySem.W.mg_none_of X G b_tuple
  have z_bool := PySem.W.mg_none_of X G b_bool
  have z_str := PySem.W.mg_none_of X G b_str
  have z_all := PySem.W.mg_none_of X G b_all
  have z_range := PySem.W.mg_none_of X G b_range
  have z_sorted := PySem.W.mg_none_of X G b_sorted
  have z_set := PySem.W.mg_none_of X G b_set
  have z_max := PySem.W.mg_none_of X G b_max
  have z_enumerate := PySem.W.mg_none_of X G b_enumerate
  have g_LETTERS := PySem.W.mg_of X G v_LETTERS
  have g_DIGITS := PySem.W.mg_of X G v_DIGITS
  have g_BLANKS := PySem.W.mg_of X G v_BLANKS
  have g_SIGNS := PySem.W.mg_of X G v_SIGNS
  have h_SIGNS : ∀ H, SqT K H a_SIGNS (sgS.map V.str) := fun H => .inr ⟨o_SIGNS, i_SIGNS, n_SIGNS, w_SIGNS, x_SIGNS, y_SIGNS, z_SIGNS, r_SIGNS⟩
  have g_PAIRS := PySem.W.mg_of X G v_PAIRS
  have h_PAIRS : ∀ H, SqT K H a_PAIRS (pairS.map V.str) := fun H => .inr ⟨o_PAIRS, i_PAIRS, n_PAIRS, w_PAIRS, x_PAIRS, y_PAIRS, z_PAIRS, r_PAIRS⟩
  have g_STAGES := PySem.W.mg_of X G v_STAGES
  have h_STAGES : ∀ H, SqT K H a_STAGES (stageS.map V.str) := fun H => .inr ⟨o_STAGES, i_STAGES, n_STAGES, w_STAGES, x_STAGES, y_STAGES, z_STAGES, r_STAGES⟩
  have g_SINGLES := PySem.W.mg_of X G v_SINGLES
  have h_SINGLES : ∀ H, SqT K H a_SINGLES (singleS.map V.str) := fun H => .inr ⟨o_SINGLES, i_SINGLES, n_SINGLES, w_SINGLES, x_SINGLES, y_SINGLES, z_SINGLES, r_SINGLES⟩
  have g_AGGREGATES := PySem.W.mg_of X G v_AGGREGATES
  have h_AGGREGATES : ∀ H, SqT K H a_AGGREGATES (aggS.map V.str) := fun H => .inr ⟨o_AGGREGATES, i_AGGREGATES, n_AGGREGATES, w_AGGREGATES, x_AGGREGATES, y_AGGREGATES, z_AGGREGATES, r_AGGREGATES⟩
  have g_COMBINATIONS := PySem.W.mg_of X G v_COMBINATIONS
  have h_COMBINATIONS : ∀ H, SqT K H a_COMBINATIONS (combS.map V.str) := fun H => .inr ⟨o_COMBINATIONS, i_COMBINATIONS, n_COMBINATIONS, w_COMBINATIONS, x_COMBINATIONS, y_COMBINATIONS, z_COMBINATIONS, r_COMBINATIONS⟩
  have g_COMPARISONS := PySem.W.mg_of X G v_COMPARISONS
  have h_COMPARISONS : ∀ H, SqT K H a_COMPARISONS (compS.map V.str) := fun H => .inr ⟨o_COMPARISONS, i_COMPARISONS, n_COMPARISONS, w_COMPARISONS, x_COMPARISONS, y_COMPARISONS, z_COMPARISONS, r_COMPARISONS⟩
  have g_LONGEST_NAME := PySem.W.mg_of X G v_LONGEST_NAME
  have g_MOST_OPERATORS := PySem.W.mg_of X G v_MOST_OPERATORS
  have g_MOST_LEVELS := PySem.W.mg_of X G v_MOST_LEVELS
  have g_SLIDES_IN_A_SIZE := PySem.W.mg_of X G v_SLIDES_IN_A_SIZE
  have g_PARTS := PySem.W.mg_of X G v_PARTS
  have h_PARTS0 : ∀ H, SqT K H a_PARTS0 ((["comparison", "bound"] : List Str).map V.str) := fun H => .inr ⟨o_PARTS0, i_PARTS0, n_PARTS0, w_PARTS0, x_PARTS0, y_PARTS0, z_PARTS0, r_PARTS0⟩
  have h_PARTS1 : ∀ H, SqT K H a_PARTS1 ((["names"] : List Str).map V.str) := fun H => .inr ⟨o_PARTS1, i_PARTS1, n_PARTS1, w_PARTS1, x_PARTS1, y_PARTS1, z_PARTS1, r_PARTS1⟩
  have h_PARTS2 : ∀ H, SqT K H a_PARTS2 ((["name"] : List Str).map V.str) := fun H => .inr ⟨o_PARTS2, i_PARTS2, n_PARTS2, w_PARTS2, x_PARTS2, y_PARTS2, z_PARTS2, r_PARTS2⟩
  have h_PARTS3 : ∀ H, SqT K H a_PARTS3 ((["factor"] : List Str).map V.str) := fun H => .inr ⟨o_PARTS3, i_PARTS3, n_PARTS3, w_PARTS3, x_PARTS3, y_PARTS3, z_PARTS3, r_PARTS3⟩
  have h_PARTS4 : ∀ H, SqT K H a_PARTS4 ((["delay"] : List Str).map V.str) := fun H => .inr ⟨o_PARTS4, i_PARTS4, n_PARTS4, w_PARTS4, x_PARTS4, y_PARTS4, z_PARTS4, r_PARTS4⟩
  have h_PARTS5 : ∀ H, SqT K H a_PARTS5 (([] : List Str).map V.str) := fun H => .inr ⟨o_PARTS5, i_PARTS5, n_PARTS5, w_PARTS5, x_PARTS5, y_PARTS5, z_PARTS5, r_PARTS5⟩
  have h_PARTS6 : ∀ H, SqT K H a_PARTS6 ((["size", "slide", "aggregate"] : List Str).map V.str) := fun H => .inr ⟨o_PARTS6, i_PARTS6, n_PARTS6, w_PARTS6, x_PARTS6, y_PARTS6, z_PARTS6, r_PARTS6⟩
  have h_PARTS7 : ∀ H, SqT K H a_PARTS7 ((["gap", "aggregate"] : List Str).map V.str) := fun H => .inr ⟨o_PARTS7, i_PARTS7, n_PARTS7, w_PARTS7, x_PARTS7, y_PARTS7, z_PARTS7, r_PARTS7⟩
  have h_PARTS8 : ∀ H, SqT K H a_PARTS8 (([] : List Str).map V.str) := fun H => .inr ⟨o_PARTS8, i_PARTS8, n_PARTS8, w_PARTS8, x_PARTS8, y_PARTS8, z_PARTS8, r_PARTS8⟩
  have h_PARTS9 : ∀ H, SqT K H a_PARTS9 (([] : List Str).map V.str) := fun H => .inr ⟨o_PARTS9, i_PARTS9, n_PARTS9, w_PARTS9, x_PARTS9, y_PARTS9, z_PARTS9, r_PARTS9⟩
  have h_PARTS10 : ∀ H, SqT K H a_PARTS10 (([] : List Str).map V.str) := fun H => .inr ⟨o_PARTS10, i_PARTS10, n_PARTS10, w_PARTS10, x_PARTS10, y_PARTS10, z_PARTS10, r_PARTS10⟩
  have h_PARTS11 : ∀ H, SqT K H a_PARTS11 ((["before", "after", "combination"] : List Str).map V.str) := fun H => .inr ⟨o_PARTS11, i_PARTS11, n_PARTS11, w_PARTS11, x_PARTS11, y_PARTS11, z_PARTS11, r_PARTS11⟩
  have KD_PARTS := dict_kd w_PARTS d_PARTS s_PARTS
  have nd_PARTS : (([("sift", .ref a_PARTS0), ("only", .ref a_PARTS1), ("rekey", .ref a_PARTS2), ("scale", .ref a_PARTS3), ("later", .ref a_PARTS4), ("once", .ref a_PARTS5), ("windows", .ref a_PARTS6), ("sittings", .ref a_PARTS7), ("both", .ref a_PARTS8), ("less", .ref a_PARTS9), ("without", .ref a_PARTS10), ("near", .ref a_PARTS11)] : List (Str × V)).map (·.1)).Nodup := by show ([("sift" : Str), ("only" : Str), ("rekey" : Str), ("scale" : Str), ("later" : Str), ("once" : Str), ("windows" : Str), ("sittings" : Str), ("both" : Str), ("less" : Str), ("without" : Str), ("near" : Str)] : List Str).Nodup; decide +kernel
  have g_RANGES := PySem.W.mg_of X G v_RANGES
  have h_RANGES0 : ∀ H, SqT K H a_RANGES0 ([V.int (-1000000000), V.int (1000000000)]) := fun H => .inr ⟨o_RANGES0, i_RANGES0, n_RANGES0, w_RANGES0, x_RANGES0, y_RANGES0, z_RANGES0, r_RANGES0⟩
  have h_RANGES1 : ∀ H, SqT K H a_RANGES1 ([V.int (-1000), V.int (1000)]) := fun H => .inr ⟨o_RANGES1, i_RANGES1, n_RANGES1, w_RANGES1, x_RANGES1, y_RANGES1, z_RANGES1, r_RANGES1⟩
  have h_RANGES2 : ∀ H, SqT K H a_RANGES2 ([V.int (0), V.int (1000)]) := fun H => .inr ⟨o_RANGES2, i_RANGES2, n_RANGES2, w_RANGES2, x_RANGES2, y_RANGES2, z_RANGES2, r_RANGES2⟩
  have h_RANGES3 : ∀ H, SqT K H a_RANGES3 ([V.int (1), V.int (1000)]) := fun H => .inr ⟨o_RANGES3, i_RANGES3, n_RANGES3, w_RANGES3, x_RANGES3, y_RANGES3, z_RANGES3, r_RANGES3⟩
  have h_RANGES4 : ∀ H, SqT K H a_RANGES4 ([V.int (1), V.int (1000)]) := fun H => .inr ⟨o_RANGES4, i_RANGES4, n_RANGES4, w_RANGES4, x_RANGES4, y_RANGES4, z_RANGES4, r_RANGES4⟩
  have h_RANGES5 : ∀ H, SqT K H a_RANGES5 ([V.int (0), V.int (1000)]) := fun H => .inr ⟨o_RANGES5, i_RANGES5, n_RANGES5, w_RANGES5, x_RANGES5, y_RANGES5, z_RANGES5, r_RANGES5⟩
  have h_RANGES6 : ∀ H, SqT K H a_RANGES6 ([V.int (0), V.int (1000)]) := fun H => .inr ⟨o_RANGES6, i_RANGES6, n_RANGES6, w_RANGES6, x_RANGES6, y_RANGES6, z_RANGES6, r_RANGES6⟩
  have h_RANGES7 : ∀ H, SqT K H a_RANGES7 ([V.int (0), V.int (1000)]) := fun H => .inr ⟨o_RANGES7, i_RANGES7, n_RANGES7, w_RANGES7, x_RANGES7, y_RANGES7, z_RANGES7, r_RANGES7⟩
  have KD_RANGES := dict_kd w_RANGES d_RANGES s_RANGES
  have nd_RANGES : (([("bound", .ref a_RANGES0), ("factor", .ref a_RANGES1), ("delay", .ref a_RANGES2), ("size", .ref a_RANGES3), ("slide", .ref a_RANGES4), ("gap", .ref a_RANGES5), ("before", .ref a_RANGES6), ("after", .ref a_RANGES7)] : List (Str × V)).map (·.1)).Nodup := by show ([("bound" : Str), ("factor" : Str), ("delay" : Str), ("size" : Str), ("slide" : Str), ("gap" : Str), ("before" : Str), ("after" : Str)] : List Str).Nodup; decide +kernel
  refine ⟨PySem.W.fnOf "law" "law" (defArgs s_law) (defBody s_law) (defScope s_law) .none kV26 dc26 pm26 an26 cd26 ct26, fun s v => .of_eq rfl, fun base _ _ => ?_⟩
  have G_eos := ok_end_of_stretch (P := l.prog) (w := w) (mg := mg) (base := base) D_end_of_stretch z_len
  have G_ta := ok_token_at (P := l.prog) (w := w) (mg := mg) (base := base) D_token_at D_end_of_stretch G_eos z_len g_LETTERS g_DIGITS g_SIGNS h_SIGNS
  have G_tk := ok_tokens (P := l.prog) (w := w) (mg := mg) (base := base) D_tokens D_token_at G_ta z_len z_int g_BLANKS
  have G_io := ok_inputs_of (P := l.prog) (w := w) (mg := mg) (base := base) D_inputs_of g_PAIRS h_PAIRS
  have G_wl := ok_with_levels (P := l.prog) (w := w) (mg := mg) (base := base) D_with_levels D_inputs_of G_io
  have hPARTS : ∀ e ∈ partsOf, ∃ t, KDct K w a_PARTS e.1 (.ref t) ∧ ∀ H, SqT K H t (e.2.map V.str) := by
    unfold partsOf
    intro e he
    simp only [List.mem_cons, List.not_mem_nil, or_false] at he
    rcases he with rfl | rfl | rfl | rfl | rfl | rfl | rfl | rfl | rfl | rfl | rfl | rfl
    · exact ⟨a_PARTS0, dict_at w_PARTS d_PARTS nd_PARTS (by simp), h_PARTS0⟩
    · exact ⟨a_PARTS1, dict_at w_PARTS d_PARTS nd_PARTS (by simp), h_PARTS1⟩
    · exact ⟨a_PARTS2, dict_at w_PARTS d_PARTS nd_PARTS (by simp), h_PARTS2⟩
    · exact ⟨a_PARTS3, dict_at w_PARTS d_PARTS nd_PARTS (by simp), h_PARTS3⟩
    · exact ⟨a_PARTS4, dict_at w_PARTS d_PARTS nd_PARTS (by simp), h_PARTS4⟩
    · exact ⟨a_PARTS5, dict_at w_PARTS d_PARTS nd_PARTS (by simp), h_PARTS5⟩
    · exact ⟨a_PARTS6, dict_at w_PARTS d_PARTS nd_PARTS (by simp), h_PARTS6⟩
    · exact ⟨a_PARTS7, dict_at w_PARTS d_PARTS nd_PARTS (by simp), h_PARTS7⟩
    · exact ⟨a_PARTS8, dict_at w_PARTS d_PARTS nd_PARTS (by simp), h_PARTS8⟩
    · exact ⟨a_PARTS9, dict_at w_PARTS d_PARTS nd_PARTS (by simp), h_PARTS9⟩
    · exact ⟨a_PARTS10, dict_at w_PARTS d_PARTS nd_PARTS (by simp), h_PARTS10⟩
    · exact ⟨a_PARTS11, dict_at w_PARTS d_PARTS nd_PARTS (by simp), h_PARTS11⟩
  have hRANGES : ∀ e ∈ rngs, ∃ t, KDct K w a_RANGES e.1 (.ref t) ∧ ∀ H, SqT K H t [.int e.2.1, .int e.2.2] := by
    unfold rngs
    intro e he
    simp only [List.mem_cons, List.not_mem_nil, or_false] at he
    rcases he with rfl | rfl | rfl | rfl | rfl | rfl | rfl | rfl
    · exact ⟨a_RANGES0, dict_at w_RANGES d_RANGES nd_RANGES (by simp), h_RANGES0⟩
    · exact ⟨a_RANGES1, dict_at w_RANGES d_RANGES nd_RANGES (by simp), h_RANGES1⟩
    · exact ⟨a_RANGES2, dict_at w_RANGES d_RANGES nd_RANGES (by simp), h_RANGES2⟩
    · exact ⟨a_RANGES3, dict_at w_RANGES d_RANGES nd_RANGES (by simp), h_RANGES3⟩
    · exact ⟨a_RANGES4, dict_at w_RANGES d_RANGES nd_RANGES (by simp), h_RANGES4⟩
    · exact ⟨a_RANGES5, dict_at w_RANGES d_RANGES nd_RANGES (by simp), h_RANGES5⟩
    · exact ⟨a_RANGES6, dict_at w_RANGES d_RANGES nd_RANGES (by simp), h_RANGES6⟩
    · exact ⟨a_RANGES7, dict_at w_RANGES d_RANGES nd_RANGES (by simp), h_RANGES7⟩
  have G_gr := ok_is_of_grammar (P := l.prog) (w := w) (mg := mg) (base := base) D_is_of_grammar g_PARTS g_AGGREGATES g_COMBINATIONS KD_PARTS (fun z => by
    obtain ⟨r, r1, r2⟩ := dict_any w_PARTS d_PARTS z
    exact ⟨r, r1, r2⟩) h_AGGREGATES h_COMBINATIONS
  have G_first : ∀ A : Ad, A.C = C_Reader → FnOk l.prog w K mg base CX0 1 fReader_first_place (PySem.W.fnOf "first_place" "Reader.first_place" (defArgs s_Reader_first_place) (defBody s_Reader_first_place) (defScope s_Reader_first_place) .none kVReader_first_place dcReader_first_place pmReader_first_place anReader_first_place cdReader_first_place ctReader_first_place) ["self"] (spFirst A) := fun A e => by
    subst e
    exact ok_first_place (P := l.prog) (w := w) (mg := mg) (base := base) (A := A) T_Reader M_first_place
  have G_plan : ∀ A : Ad, A.C = C_Reader → FnOk l.prog w K mg base CX0 10 fReader_read_plan (PySem.W.fnOf "read_plan" "Reader.read_plan" (defArgs s_Reader_read_plan) (defBody s_Reader_read_plan) (defScope s_Reader_read_plan) .none kVReader_read_plan dcReader_read_plan pmReader_read_plan anReader_read_plan cdReader_read_plan ctReader_read_plan) ["self"] (spPlan A) := fun A e => by
    subst e
    have G_kind := ok_kind (P := l.prog) (w := w) (mg := mg) (base := base) (A := A) T_Reader M_kind
    have G_takes := ok_takes (P := l.prog) (w := w) (mg := mg) (base := base) (A := A) T_Reader M_takes
    have G_rv := ok_read_value (P := l.prog) (w := w) (mg := mg) (base := base) (A := A) T_Reader M_read_value
    have G_has := ok_has_name (P := l.prog) (w := w) (mg := mg) (base := base) (A := A) T_Reader M_has_name g_LONGEST_NAME z_len D_is_of_grammar G_gr
    have G_rc := ok_read_choice (P := l.prog) (w := w) (mg := mg) (base := base) (A := A) T_Reader M_read_choice M_read_value G_rv
    have G_ex := ok_expect (P := l.prog) (w := w) (mg := mg) (base := base) (A := A) T_Reader M_expect M_takes G_takes
    have G_rn := ok_read_name (P := l.prog) (w := w) (mg := mg) (base := base) (A := A) T_Reader M_read_name M_has_name G_has M_read_value G_rv
    have G_nu := ok_read_number (P := l.prog) (w := w) (mg := mg) (base := base) (A := A) T_Reader M_read_number M_kind G_kind M_read_value G_rv
    have G_ns := ok_read_names (P := l.prog) (w := w) (mg := mg) (base := base) (A := A) T_Reader M_read_names M_has_name G_has M_read_value G_rv M_read_name G_rn z_tuple z_sorted z_set
    have G_rp := ok_read_part (P := l.prog) (w := w) (mg := mg) (base := base) (A := A) T_Reader M_read_part M_read_choice G_rc M_read_name G_rn M_read_names G_ns M_read_number G_nu g_COMPARISONS g_AGGREGATES g_COMBINATIONS h_COMPARISONS h_AGGREGATES h_COMBINATIONS
    have G_ps := ok_read_parts (P := l.prog) (w := w) (mg := mg) (base := base) (A := A) T_Reader M_read_parts M_read_part G_rp g_PARTS hPARTS z_tuple
    have G_ep := ok_enter_pair (P := l.prog) (w := w) (mg := mg) (base := base) (A := A) T_Reader M_enter_pair M_read_choice G_rc M_read_parts G_ps M_expect G_ex g_PAIRS h_PAIRS
    have G_st := ok_read_stage (P := l.prog) (w := w) (mg := mg) (base := base) (A := A) T_Reader M_read_stage M_read_choice G_rc M_read_parts G_ps g_STAGES g_SINGLES h_STAGES h_SINGLES
    have G_rs := ok_read_start (P := l.prog) (w := w) (mg := mg) (base := base) (A := A) T_Reader M_read_start M_has_name G_has M_takes G_takes M_enter_pair G_ep M_read_value G_rv
    have G_lv := ok_leave (P := l.prog) (w := w) (mg := mg) (base := base) (A := A) T_Reader M_leave M_expect G_ex M_read_start G_rs
    exact ok_read_plan (P := l.prog) (w := w) (mg := mg) (base := base) (A := A) T_Reader M_read_plan M_read_start G_rs M_takes G_takes M_read_stage G_st M_leave G_lv M_kind G_kind
  have G_in := ok_init (P := l.prog) (w := w) (mg := mg) (base := base) T_Reader M_init D_tokens G_tk z_len
  have G_ir := ok_in_range (P := l.prog) (w := w) (mg := mg) (base := base) D_in_range g_RANGES hRANGES
  have G_tw := ok_is_too_wide (P := l.prog) (w := w) (mg := mg) (base := base) D_is_too_wide D_in_range G_ir g_SLIDES_IN_A_SIZE
  have G_cn := ok_check_numbers (P := l.prog) (w := w) (mg := mg) (base := base) D_check_numbers D_in_range G_ir D_is_too_wide G_tw z_enumerate
  have G_ce := ok_check_extent (P := l.prog) (w := w) (mg := mg) (base := base) D_check_extent D_with_levels G_wl g_MOST_OPERATORS g_MOST_LEVELS z_len z_max
  have G_pp := ok_parse_plan (P := l.prog) (w := w) (mg := mg) (base := base) T_Reader mk0_Reader D_parse_plan g_Reader G_in M_init.b M_read_plan (ok_ex G_plan) M_first_place (ok_ex G_first) D_check_numbers G_cn D_check_extent G_ce
  have G_next := ok_next (P := l.prog) (w := w) (mg := mg) (base := base) D_next z_int z_len z_abs
  have G_same := ok_same (P := l.prog) (w := w) (mg := mg) (base := base) D_same z_isinstance z_list z_tuple z_bool z_str z_int z_len z_all z_range 13
  have G_stage := ok_stage (P := l.prog) (w := w) (mg := mg) (base := base) D_stage D_next G_next z_tuple
  have G_agg := ok_aggregate (P := l.prog) (w := w) (mg := mg) (base := base) D_aggregate D_next G_next
  have G_span := ok_span (P := l.prog) (w := w) (mg := mg) (base := base) D_span D_next G_next
  have G_tree := ok_tree (P := l.prog) (w := w) (mg := mg) (base := base) D_tree D_next G_next D_stage G_stage D_span G_span D_aggregate G_agg 9
  have G_gap := ok_gap (P := l.prog) (w := w) (mg := mg) (base := base) D_gap D_next G_next
  have G_jo := ok_joint (P := l.prog) (w := w) (mg := mg) (base := base) D_joint D_gap G_gap
  have G_dg := ok_digits (P := l.prog) (w := w) (mg := mg) (base := base) D_digits D_next G_next z_str
  have G_wo := ok_words (P := l.prog) (w := w) (mg := mg) (base := base) D_words D_digits G_dg z_isinstance z_str
  have G_nm := ok_names (P := l.prog) (w := w) (mg := mg) (base := base) D_lnames D_next G_next z_list z_range z_len
  have G_lt := ok_ltokens (P := l.prog) (w := w) (mg := mg) (base := base) D_ltokens D_next G_next D_bare D_words G_wo D_lnames G_nm 9
  have G_tx := ok_text (P := l.prog) (w := w) (mg := mg) (base := base) D_text D_gap G_gap D_joint G_jo
  exact ok_law D_law D_draw (ok_draw D_draw z_list) D_next G_next D_tree G_tree D_ltokens G_lt D_same G_same D_text G_tx D_parse_plan G_pp z_len
end Tf
set_option maxHeartbeats 8000000
open PySem PySem.W PyProof.Rows
set_option maxRecDepth 100000 in
set_option maxHeartbeats 0 in
theorem PySem.Challenge.cw_tidefold_k03_plans_are_read_holds : PySem.Challenge.rw_tidefold_k03_plans_are_read.Holds := by
  w_on; o_law; k_head; (case hw => w_witness2)
  k_fill
  refine L2.walk_of (l := PySem.Challenge.rw_tidefold_k03_plans_are_read) (n := 63) (k := 22) (x := "script") (CX := fun _ => L2.CX0) (sp := fun w => Tf.spLaw _) rfl (by decide) rfl ⟨rfl, by decide, by decide⟩ (fun w h Y => PySem.W.kIn_of Y) ?F (fun _ _ a ns hl _ hS => ⟨a, ns, rfl, hS, hl, fun _ => rfl⟩) (fun _ _ _ _ _ h => h)
  case F =>
    intro w mg fa h KX G hmg
    refine' Tf.all_mk KX G hmg ?a0 ?l0 ?c0 ?k0 ?a1 ?l1 ?c1 ?k1 ?a2 ?l2 ?c2 ?k2 ?a3 ?l3 ?c3 ?k3 ?a4 ?l4 ?c4 ?k4 ?a5 ?l5 ?c5 ?k5 ?a6 ?l6 ?c6 ?k6 ?a7 ?l7 ?c7 ?k7 ?a8 ?l8 ?c8 ?k8 ?a9 ?l9 ?c9 ?k9 ?a10 ?l10 ?c10 ?k10 ?a11 ?l11 ?c11 ?k11 ?a12 ?l12 ?c12 ?k12 ?a13 ?l13 ?c13 ?k13 ?a14 ?l14 ?c14 ?k14 ?a15 ?l15 ?c15 ?k15 ?a16 ?l16 ?c16 ?k16 ?a17 ?l17 ?c17 ?k17 ?a18 ?l18 ?c18 ?k18 ?a19 ?l19 ?c19 ?k19 ?a20 ?l20 ?c20 ?k20 ?a21 ?l21 ?c21 ?k21 ?a22 ?l22 ?c22 ?k22 ?a23 ?l23 ?c23 ?k23 ?a24 ?l24 ?c24 ?k24 ?a25 ?l25 ?c25 ?k25 ?a26 ?l26 ?c26 ?k26 ?aC_Reader ?aReader_init ?iReader_init ?lReader_init ?cReader_init ?kReader_init ?aReader_kind ?iReader_kind ?lReader_kind ?cReader_kind ?kReader_kind ?aReader_takes ?iReader_takes ?lReader_takes ?cReader_takes ?kReader_takes ?aReader_read_value ?iReader_read_value ?lReader_read_value ?cReader_read_value ?kReader_read_value ?aReader_first_place ?iReader_first_place ?lReader_first_place ?cReader_first_place ?kReader_first_place ?aReader_has_name ?iReader_has_name ?lReader_has_name ?cReader_has_name ?kReader_has_name ?aReader_read_choice ?iReader_read_choice ?lReader_read_choice ?cReader_read_choice ?kReader_read_choice ?aReader_expect ?iReader_expect ?lReader_expect ?cReader_expect ?kReader_expect ?aReader_read_name ?iReader_read_name ?lReader_read_name ?cReader_read_name ?kReader_read_name ?aReader_read_number ?iReader_read_number ?lReader_read_number ?cReader_read_number ?kReader_read_number ?aReader_read_names ?iReader_read_names ?lReader_read_names ?cReader_read_names ?kReader_read_names ?aReader_read_part ?iReader_read_part ?lReader_read_part ?cReader_read_part ?kReader_read_part ?aReader_read_parts ?iReader_read_parts ?lReader_read_parts ?cReader_read_parts ?kReader_read_parts ?aReader_enter_pair ?iReader_enter_pair ?lReader_enter_pair ?cReader_enter_pair ?kReader_enter_pair ?aReader_read_stage ?iReader_read_stage ?lReader_read_stage ?cReader_read_stage ?kReader_read_stage ?aReader_read_start ?iReader_read_start ?lReader_read_start ?cReader_read_start ?kReader_read_start ?aReader_leave ?iReader_leave ?lReader_leave ?cReader_leave ?kReader_leave ?aReader_read_plan ?iReader_read_plan ?lReader_read_plan ?cReader_read_plan ?kReader_read_plan ?pg_Reader ?hd_Reader ?po_Reader ?sa_Reader ?mk_Reader ?kc_Reader ?n_Reader_found ?n_Reader_at ?n_Reader_numbers ?n_Reader_unclosed ?b_int ?b_len ?b_abs ?b_isinstance ?b_list ?b_tuple ?b_bool ?b_str ?b_all ?b_range ?b_sorted ?b_set ?b_max ?b_enumerate ?v_LETTERS ?v_DIGITS ?v_BLANKS ?v_SIGNS ?w_SIGNS ?x_SIGNS ?y_SIGNS ?z_SIGNS ?r_SIGNS ?v_PAIRS ?w_PAIRS ?x_PAIRS ?y_PAIRS ?z_PAIRS ?r_PAIRS ?v_STAGES ?w_STAGES ?x_STAGES ?y_STAGES ?z_STAGES ?r_STAGES ?v_SINGLES ?w_SINGLES ?x_SINGLES ?y_SINGLES ?z_SINGLES ?r_SINGLES ?v_AGGREGATES ?w_AGGREGATES ?x_AGGREGATES ?y_AGGREGATES ?z_AGGREGATES ?r_AGGREGATES ?v_COMBINATIONS ?w_COMBINATIONS ?x_COMBINATIONS ?y_COMBINATIONS ?z_COMBINATIONS ?r_COMBINATIONS ?v_COMPARISONS ?w_COMPARISONS ?x_COMPARISONS ?y_COMPARISONS ?z_COMPARISONS ?r_COMPARISONS ?v_LONGEST_NAME ?v_MOST_OPERATORS ?v_MOST_LEVELS ?v_SLIDES_IN_A_SIZE ?v_PARTS ?w_PARTS ?d_PARTS ?s_PARTS ?w_PARTS0 ?x_PARTS0 ?y_PARTS0 ?z_PARTS0 ?r_PARTS0 ?w_PARTS1 ?x_PARTS1 ?y_PARTS1 ?z_PARTS1 ?r_PARTS1 ?w_PARTS2 ?x_PARTS2 ?y_PARTS2 ?z_PARTS2 ?r_PARTS2 ?w_PARTS3 ?x_PARTS3 ?y_PARTS3 ?z_PARTS3 ?r_PARTS3 ?w_PARTS4 ?x_PARTS4 ?y_PARTS4 ?z_PARTS4 ?r_PARTS4 ?w_PARTS5 ?x_PARTS5 ?y_PARTS5 ?z_PARTS5 ?r_PARTS5 ?w_PARTS6 ?x_PARTS6 ?y_PARTS6 ?z_PARTS6 ?r_PARTS6 ?w_PARTS7 ?x_PARTS7 ?y_PARTS7 ?z_PARTS7 ?r_PARTS7 ?w_PARTS8 ?x_PARTS8 ?y_PARTS8 ?z_PARTS8 ?r_PARTS8 ?w_PARTS9 ?x_PARTS9 ?y_PARTS9 ?z_PARTS9 ?r_PARTS9 ?w_PARTS10 ?x_PARTS10 ?y_PARTS10 ?z_PARTS10 ?r_PARTS10 ?w_PARTS11 ?x_PARTS11 ?y_PARTS11 ?z_PARTS11 ?r_PARTS11 ?v_RANGES ?w_RANGES ?d_RANGES ?s_RANGES ?w_RANGES0 ?x_RANGES0 ?y_RANGES0 ?z_RANGES0 ?r_RANGES0 ?w_RANGES1 ?x_RANGES1 ?y_RANGES1 ?z_RANGES1 ?r_RANGES1 ?w_RANGES2 ?x_RANGES2 ?y_RANGES2 ?z_RANGES2 ?r_RANGES2 ?w_RANGES3 ?x_RANGES3 ?y_RANGES3 ?z_RANGES3 ?r_RANGES3 ?w_RANGES4 ?x_RANGES4 ?y_RANGES4 ?z_RANGES4 ?r_RANGES4 ?w_RANGES5 ?x_RANGES5 ?y_RANGES5 ?z_RANGES5 ?r_RANGES5 ?w_RANGES6 ?x_RANGES6 ?y_RANGES6 ?z_RANGES6 ?r_RANGES6 ?w_RANGES7 ?x_RANGES7 ?y_RANGES7 ?z_RANGES7 ?r_RANGES7
    (case a0 => k_is)
    (case l0 => k_is)
    (case c0 => k_is)
    (case k0 => k_is)
    (case a1 => k_is)
    (case l1 => k_is)
    (case c1 => k_is)
    (case k1 => k_is)
    (case a2 => k_is)
    (case l2 => k_is)
    (case c2 => k_is)
    (case k2 => k_is)
    (case a3 => k_is)
    (case l3 => k_is)
    (case c3 => k_is)
    (case k3 => k_is)
    (case a4 => k_is)
    (case l4 => k_is)
    (case c4 => k_is)
    (case k4 => k_is)
    (case a5 => k_is)
    (case l5 => k_is)
    (case c5 => k_is)
    (case k5 => k_is)
    (case a6 => k_is)
    (case l6 => k_is)
    (case c6 => k_is)
    (case k6 => k_is)
    (case a7 => k_is)
    (case l7 => k_is)
    (case c7 => k_is)
    (case k7 => k_is)
    (case a8 => k_is)
    (case l8 => k_is)
    (case c8 => k_is)
    (case k8 => k_is)
    (case a9 => k_is)
    (case l9 => k_is)
    (case c9 => k_is)
    (case k9 => k_is)
    (case a10 => k_is)
    (case l10 => k_is)
    (case c10 => k_is)
    (case k10 => k_is)
    (case a11 => k_is)
    (case l11 => k_is)
    (case c11 => k_is)
    (case k11 => k_is)
    (case a12 => k_is)
    (case l12 => k_is)
    (case c12 => k_is)
    (case k12 => k_is)
    (case a13 => k_is)
    (case l13 => k_is)
    (case c13 => k_is)
    (case k13 => k_is)
    (case a14 => k_is)
    (case l14 => k_is)
    (case c14 => k_is)
    (case k14 => k_is)
    (case a15 => k_is)
    (case l15 => k_is)
    (case c15 => k_is)
    (case k15 => k_is)
    (case a16 => k_is)
    (case l16 => k_is)
    (case c16 => k_is)
    (case k16 => k_is)
    (case a17 => k_is)
    (case l17 => k_is)
    (case c17 => k_is)
    (case k17 => k_is)
    (case a18 => k_is)
    (case l18 => k_is)
    (case c18 => k_is)
    (case k18 => k_is)
    (case a19 => k_is)
    (case l19 => k_is)
    (case c19 => k_is)
    (case k19 => k_is)
    (case a20 => k_is)
    (case l20 => k_is)
    (case c20 => k_is)
    (case k20 => k_is)
    (case a21 => k_is)
    (case l21 => k_is)
    (case c21 => k_is)
    (case k21 => k_is)
    (case a22 => k_is)
    (case l22 => k_is)
    (case c22 => k_is)
    (case k22 => k_is)
    (case a23 => k_is)
    (case l23 => k_is)
    (case c23 => k_is)
    (case k23 => k_is)
    (case a24 => k_is)
    (case l24 => k_is)
    (case c24 => k_is)
    (case k24 => k_is)
    (case a25 => k_is)
    (case l25 => k_is)
    (case c25 => k_is)
    (case k25 => k_is)
    (case a26 => k_is)
    (case l26 => k_is)
    (case c26 => k_is)
    (case k26 => k_is)
    (case aC_Reader => k_is)
    (case aReader_init => k_is)
    (case iReader_init => k_is)
    (case lReader_init => k_is)
    (case cReader_init => k_is)
    (case kReader_init => k_is)
    (case aReader_kind => k_is)
    (case iReader_kind => k_is)
    (case lReader_kind => k_is)
    (case cReader_kind => k_is)
    (case kReader_kind => k_is)
    (case aReader_takes => k_is)
    (case iReader_takes => k_is)
    (case lReader_takes => k_is)
    (case cReader_takes => k_is)
    (case kReader_takes => k_is)
    (case aReader_read_value => k_is)
    (case iReader_read_value => k_is)
    (case lReader_read_value => k_is)
    (case cReader_read_value => k_is)
    (case kReader_read_value => k_is)
    (case aReader_first_place => k_is)
    (case iReader_first_place => k_is)
    (case lReader_first_place => k_is)
    (case cReader_first_place => k_is)
    (case kReader_first_place => k_is)
    (case aReader_has_name => k_is)
    (case iReader_has_name => k_is)
    (case lReader_has_name => k_is)
    (case cReader_has_name => k_is)
    (case kReader_has_name => k_is)
    (case aReader_read_choice => k_is)
    (case iReader_read_choice => k_is)
    (case lReader_read_choice => k_is)
    (case cReader_read_choice => k_is)
    (case kReader_read_choice => k_is)
    (case aReader_expect => k_is)
    (case iReader_expect => k_is)
    (case lReader_expect => k_is)
    (case cReader_expect => k_is)
    (case kReader_expect => k_is)
    (case aReader_read_name => k_is)
    (case iReader_read_name => k_is)
    (case lReader_read_name => k_is)
    (case cReader_read_name => k_is)
    (case kReader_read_name => k_is)
    (case aReader_read_number => k_is)
    (case iReader_read_number => k_is)
    (case lReader_read_number => k_is)
    (case cReader_read_number => k_is)
    (case kReader_read_number => k_is)
    (case aReader_read_names => k_is)
    (case iReader_read_names => k_is)
    (case lReader_read_names => k_is)
    (case cReader_read_names => k_is)
    (case kReader_read_names => k_is)
    (case aReader_read_part => k_is)
    (case iReader_read_part => k_is)
    (case lReader_read_part => k_is)
    (case cReader_read_part => k_is)
    (case kReader_read_part => k_is)
    (case aReader_read_parts => k_is)
    (case iReader_read_parts => k_is)
    (case lReader_read_parts => k_is)
    (case cReader_read_parts => k_is)
    (case kReader_read_parts => k_is)
    (case aReader_enter_pair => k_is)
    (case iReader_enter_pair => k_is)
    (case lReader_enter_pair => k_is)
    (case cReader_enter_pair => k_is)
    (case kReader_enter_pair => k_is)
    (case aReader_read_stage => k_is)
    (case iReader_read_stage => k_is)
    (case lReader_read_stage => k_is)
    (case cReader_read_stage => k_is)
    (case kReader_read_stage => k_is)
    (case aReader_read_start => k_is)
    (case iReader_read_start => k_is)
    (case lReader_read_start => k_is)
    (case cReader_read_start => k_is)
    (case kReader_read_start => k_is)
    (case aReader_leave => k_is)
    (case iReader_leave => k_is)
    (case lReader_leave => k_is)
    (case cReader_leave => k_is)
    (case kReader_leave => k_is)
    (case aReader_read_plan => k_is)
    (case iReader_read_plan => k_is)
    (case lReader_read_plan => k_is)
    (case cReader_read_plan => k_is)
    (case kReader_read_plan => k_is)
    (case pg_Reader => k_is)
    (case hd_Reader => k_is)
    (case po_Reader => k_is)
    (case sa_Reader => k_is)
    (case mk_Reader => k_is)
    (case kc_Reader => k_is)
    (case n_Reader_found => k_is)
    (case n_Reader_at => k_is)
    (case n_Reader_numbers => k_is)
    (case n_Reader_unclosed => k_is)
    (case b_int => k_is)
    (case b_len => k_is)
    (case b_abs => k_is)
    (case b_isinstance => k_is)
    (case b_list => k_is)
    (case b_tuple => k_is)
    (case b_bool => k_is)
    (case b_str => k_is)
    (case b_all => k_is)
    (case b_range => k_is)
    (case b_sorted => k_is)
    (case b_set => k_is)
    (case b_max => k_is)
    (case b_enumerate => k_is)
    (case v_LETTERS => k_is)
    (case v_DIGITS => k_is)
    (case v_BLANKS => k_is)
    (case v_SIGNS => k_is)
    (case w_SIGNS => k_is)
    (case x_SIGNS => exact rfl)
    (case y_SIGNS => exact rfl)
    (case z_SIGNS => decide)
    (case r_SIGNS => repeat (first | exact Paired.nil | refine Paired.cons ⟨_, rfl⟩ ?_))
    (case v_PAIRS => k_is)
    (case w_PAIRS => k_is)
    (case x_PAIRS => exact rfl)
    (case y_PAIRS => exact rfl)
    (case z_PAIRS => decide)
    (case r_PAIRS => repeat (first | exact Paired.nil | refine Paired.cons ⟨_, rfl⟩ ?_))
    (case v_STAGES => k_is)
    (case w_STAGES => k_is)
    (case x_STAGES => exact rfl)
    (case y_STAGES => exact rfl)
    (case z_STAGES => decide)
    (case r_STAGES => repeat (first | exact Paired.nil | refine Paired.cons ⟨_, rfl⟩ ?_))
    (case v_SINGLES => k_is)
    (case w_SINGLES => k_is)
    (case x_SINGLES => exact rfl)
    (case y_SINGLES => exact rfl)
    (case z_SINGLES => decide)
    (case r_SINGLES => repeat (first | exact Paired.nil | refine Paired.cons ⟨_, rfl⟩ ?_))
    (case v_AGGREGATES => k_is)
    (case w_AGGREGATES => k_is)
    (case x_AGGREGATES => exact rfl)
    (case y_AGGREGATES => exact rfl)
    (case z_AGGREGATES => decide)
    (case r_AGGREGATES => repeat (first | exact Paired.nil | refine Paired.cons ⟨_, rfl⟩ ?_))
    (case v_COMBINATIONS => k_is)
    (case w_COMBINATIONS => k_is)
    (case x_COMBINATIONS => exact rfl)
    (case y_COMBINATIONS => exact rfl)
    (case z_COMBINATIONS => decide)
    (case r_COMBINATIONS => repeat (first | exact Paired.nil | refine Paired.cons ⟨_, rfl⟩ ?_))
    (case v_COMPARISONS => k_is)
    (case w_COMPARISONS => k_is)
    (case x_COMPARISONS => exact rfl)
    (case y_COMPARISONS => exact rfl)
    (case z_COMPARISONS => decide)
    (case r_COMPARISONS => repeat (first | exact Paired.nil | refine Paired.cons ⟨_, rfl⟩ ?_))
    (case v_LONGEST_NAME => k_is)
    (case v_MOST_OPERATORS => k_is)
    (case v_MOST_LEVELS => k_is)
    (case v_SLIDES_IN_A_SIZE => k_is)
    (case v_PARTS => k_is)
    (case w_PARTS => k_is)
    (case d_PARTS => repeat (first | exact Tf.DEnts.nil | refine Tf.DEnts.cons rfl rfl rfl ?_))
    (case s_PARTS => decide)
    (case w_PARTS0 => k_is)
    (case x_PARTS0 => exact rfl)
    (case y_PARTS0 => exact rfl)
    (case z_PARTS0 => decide)
    (case r_PARTS0 => repeat (first | exact Paired.nil | refine Paired.cons ⟨_, rfl⟩ ?_))
    (case w_PARTS1 => k_is)
    (case x_PARTS1 => exact rfl)
    (case y_PARTS1 => exact rfl)
    (case z_PARTS1 => decide)
    (case r_PARTS1 => repeat (first | exact Paired.nil | refine Paired.cons ⟨_, rfl⟩ ?_))
    (case w_PARTS2 => k_is)
    (case x_PARTS2 => exact rfl)
    (case y_PARTS2 => exact rfl)
    (case z_PARTS2 => decide)
    (case r_PARTS2 => repeat (first | exact Paired.nil | refine Paired.cons ⟨_, rfl⟩ ?_))
    (case w_PARTS3 => k_is)
    (case x_PARTS3 => exact rfl)
    (case y_PARTS3 => exact rfl)
    (case z_PARTS3 => decide)
    (case r_PARTS3 => repeat (first | exact Paired.nil | refine Paired.cons ⟨_, rfl⟩ ?_))
    (case w_PARTS4 => k_is)
    (case x_PARTS4 => exact rfl)
    (case y_PARTS4 => exact rfl)
    (case z_PARTS4 => decide)
    (case r_PARTS4 => repeat (first | exact Paired.nil | refine Paired.cons ⟨_, rfl⟩ ?_))
    (case w_PARTS5 => k_is)
    (case x_PARTS5 => exact rfl)
    (case y_PARTS5 => exact rfl)
    (case z_PARTS5 => decide)
    (case r_PARTS5 => repeat (first | exact Paired.nil | refine Paired.cons ⟨_, rfl⟩ ?_))
    (case w_PARTS6 => k_is)
    (case x_PARTS6 => exact rfl)
    (case y_PARTS6 => exact rfl)
    (case z_PARTS6 => decide)
    (case r_PARTS6 => repeat (first | exact Paired.nil | refine Paired.cons ⟨_, rfl⟩ ?_))
    (case w_PARTS7 => k_is)
    (case x_PARTS7 => exact rfl)
    (case y_PARTS7 => exact rfl)
    (case z_PARTS7 => decide)
    (case r_PARTS7 => repeat (first | exact Paired.nil | refine Paired.cons ⟨_, rfl⟩ ?_))
    (case w_PARTS8 => k_is)
    (case x_PARTS8 => exact rfl)
    (case y_PARTS8 => exact rfl)
    (case z_PARTS8 => decide)
    (case r_PARTS8 => repeat (first | exact Paired.nil | refine Paired.cons ⟨_, rfl⟩ ?_))
    (case w_PARTS9 => k_is)
    (case x_PARTS9 => exact rfl)
    (case y_PARTS9 => exact rfl)
    (case z_PARTS9 => decide)
    (case r_PARTS9 => repeat (first | exact Paired.nil | refine Paired.cons ⟨_, rfl⟩ ?_))
    (case w_PARTS10 => k_is)
    (case x_PARTS10 => exact rfl)
    (case y_PARTS10 => exact rfl)
    (case z_PARTS10 => decide)
    (case r_PARTS10 => repeat (first | exact Paired.nil | refine Paired.cons ⟨_, rfl⟩ ?_))
    (case w_PARTS11 => k_is)
    (case x_PARTS11 => exact rfl)
    (case y_PARTS11 => exact rfl)
    (case z_PARTS11 => decide)
    (case r_PARTS11 => repeat (first | exact Paired.nil | refine Paired.cons ⟨_, rfl⟩ ?_))
    (case v_RANGES => k_is)
    (case w_RANGES => k_is)
    (case d_RANGES => repeat (first | exact Tf.DEnts.nil | refine Tf.DEnts.cons rfl rfl rfl ?_))
    (case s_RANGES => decide)
    (case w_RANGES0 => k_is)
    (case x_RANGES0 => exact rfl)
    (case y_RANGES0 => exact rfl)
    (case z_RANGES0 => decide)
    (case r_RANGES0 => repeat (first | exact Paired.nil | refine Paired.cons ⟨_, rfl⟩ ?_))
    (case w_RANGES1 => k_is)
    (case x_RANGES1 => exact rfl)
    (case y_RANGES1 => exact rfl)
    (case z_RANGES1 => decide)
    (case r_RANGES1 => repeat (first | exact Paired.nil | refine Paired.cons ⟨_, rfl⟩ ?_))
    (case w_RANGES2 => k_is)
    (case x_RANGES2 => exact rfl)
    (case y_RANGES2 => exact rfl)
    (case z_RANGES2 => decide)
    (case r_RANGES2 => repeat (first | exact Paired.nil | refine Paired.cons ⟨_, rfl⟩ ?_))
    (case w_RANGES3 => k_is)
    (case x_RANGES3 => exact rfl)
    (case y_RANGES3 => exact rfl)
    (case z_RANGES3 => decide)
    (case r_RANGES3 => repeat (first | exact Paired.nil | refine Paired.cons ⟨_, rfl⟩ ?_))
    (case w_RANGES4 => k_is)
    (case x_RANGES4 => exact rfl)
    (case y_RANGES4 => exact rfl)
    (case z_RANGES4 => decide)
    (case r_RANGES4 => repeat (first | exact Paired.nil | refine Paired.cons ⟨_, rfl⟩ ?_))
    (case w_RANGES5 => k_is)
    (case x_RANGES5 => exact rfl)
    (case y_RANGES5 => exact rfl)
    (case z_RANGES5 => decide)
    (case r_RANGES5 => repeat (first | exact Paired.nil | refine Paired.cons ⟨_, rfl⟩ ?_))
    (case w_RANGES6 => k_is)
    (case x_RANGES6 => exact rfl)
    (case y_RANGES6 => exact rfl)
    (case z_RANGES6 => decide)
    (case r_RANGES6 => repeat (first | exact Paired.nil | refine Paired.cons ⟨_, rfl⟩ ?_))
    (case w_RANGES7 => k_is)
    (case x_RANGES7 => exact rfl)
    (case y_RANGES7 => exact rfl)
    (case z_RANGES7 => decide)
    (case r_RANGES7 => repeat (first | exact Paired.nil | refine Paired.cons ⟨_, rfl⟩ ?_))
