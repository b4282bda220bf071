import PyProof.Rows.All
import Wide.All
import OpenK.AllK
import Wide.FinOn
import HandS.Base
import HandS.Call
import HandS.List
import HandS.Comp
import HandS.Ends
import HandS.Iter
import HandS.Text
import HandS.Words
import HandS.WordsList
import HandS.WideBits
import HandS.IsInst
import HandS.Codes
import HandS.HeadHook2
import HandS.Dict
import HandS.Conv
import KE.KSortedM
import HandS.Head0
import HandS.Head1
import HandS.Head2
import HandS.HeadEnd
import HandS.HeadHook1
import PySem.Challenge.RW_heldover_k10_words_and_forms
set_option Elab.async false
set_option linter.all false
set_option maxRecDepth 100000
set_option maxHeartbeats 0
namespace Hk
open PySem PySem.Spec PyProof.Rows L2

/-! ### the pot: a list of two ints that a draw changes; all else grows only -/
def Pot (H : Hp) (a : Addr) : Prop := ∃ x y : Int, H a = some (.lst [.int x, .int y]) ∧ 0 ≤ x ∧ 0 ≤ y ∧ y < 2147483648
/-- what may change: the pot; objects that are being filled, with what they hold now -/
structure Vo where
  pot : Option Addr
  ex : List (Addr × HO)
def Vo.non : Vo := ⟨none, []⟩
def Vo.of (a : Addr) : Vo := ⟨some a, []⟩
def Vo.and (p : Vo) (D : Addr) (o : HO) : Vo := ⟨p.pot, (D, o) :: p.ex⟩
def Nv (p : Vo) (a : Addr) : Prop := p.pot ≠ some a ∧ ∀ x ∈ p.ex, x.1 ≠ a
structure Iv (p : Vo) (H : Hp) : Prop where
  pot : ∀ a, p.pot = some a → Pot H a ∧ ∀ x ∈ p.ex, x.1 ≠ a
  ex : ∀ x ∈ p.ex, H x.1 = some x.2
def Gr (p : Vo) (H H' : Hp) : Prop := ∀ a o, Nv p a → H a = some o → H' a = some o
variable {p : Vo} {H H' H1 H2 H3 : Hp}
theorem Gr.refl (H : Hp) : Gr p H H := fun _ _ _ h => h
theorem Gr.trans (a : Gr p H H1) (b : Gr p H1 H2) : Gr p H H2 := fun x o n h => b x o n (a x o n h)
theorem Gr.new {q : Addr} {o : HO} (h : H q = none) : Gr p H (upd H q o) := fun a u _ e => by
  rw [upd_ne (ne_of_none e h)]
  exact e
theorem Gr.mut {q : Addr} {o : HO} (e : Gr p H H') (h : H q = none) : Gr p H (upd H' q o) := fun a u n ha => by
  rw [upd_ne (ne_of_none ha h)]
  exact e a u n ha
theorem nv_non (a : Addr) : Nv Vo.non a := ⟨fun z => (nomatch z), fun x hx => (nomatch hx)⟩
theorem nv_of {a b : Addr} (h : a ≠ b) : Nv (Vo.of a) b := ⟨fun z => h (Option.some.inj z), fun x hx => (nomatch hx)⟩
theorem Nv.and {a D : Addr} {o : HO} (h : Nv p a) (d : D ≠ a) : Nv (p.and D o) a := ⟨h.1, fun x hx => by
  rcases List.mem_cons.mp hx with e | e
  · rw [e]; exact d
  · exact h.2 x e⟩
theorem Nv.back {a D : Addr} {o : HO} (h : Nv (p.and D o) a) : Nv p a := ⟨h.1, fun x hx => h.2 x (List.mem_cons_of_mem _ hx)⟩
theorem Nv.ne {a D : Addr} {o : HO} (h : Nv (p.and D o) a) : D ≠ a := h.2 (D, o) List.mem_cons_self
theorem Gr.pure (e : Gr Vo.non H H') : Gr p H H' := fun a o _ h => e a o (nv_non a) h
theorem Gr.free {q : Addr} (e : Gr p H H') (hq : Nv p q) (h : H' q = none) : H q = none := by
  cases h1 : H q with
  | none => rfl
  | some o =>
    rw [e q o hq h1] at h
    cases h
theorem Iv.non (H : Hp) : Iv Vo.non H := ⟨fun a e => (nomatch e), fun x hx => (nomatch hx)⟩
theorem Iv.grow (i : Iv p H) (e : Gr Vo.non H H') : Iv p H' := ⟨fun a ha => by
  obtain ⟨⟨x, y, h, r⟩, n⟩ := i.pot a ha
  exact ⟨⟨x, y, e a _ (nv_non a) h, r⟩, n⟩, fun x hx => e _ _ (nv_non _) (i.ex x hx)⟩
theorem Iv.ne {q : Addr} (i : Iv p H) (h : H q = Option.none) : Nv p q := by
  refine ⟨fun e => ?_, fun x hx e => ?_⟩
  · obtain ⟨⟨x, y, h', _⟩, _⟩ := i.pot q e
    rw [h'] at h
    cases h
  · have h' := i.ex x hx
    rw [e, h] at h'
    cases h'
theorem Iv.new {q : Addr} {o : HO} (i : Iv p H) (h : H q = Option.none) : Iv p (upd H q o) := i.grow (Gr.new h)
theorem Iv.upd {q : Addr} {o : HO} (i : Iv p H) (h : Nv p q) : Iv p (upd H q o) := by
  refine ⟨fun a ha => ?_, fun x hx => ?_⟩
  · obtain ⟨⟨x, y, h', r⟩, n⟩ := i.pot a ha
    refine ⟨⟨x, y, ?_, r⟩, n⟩
    rw [upd_ne (fun e => h.1 (by rw [← e]; exact ha))]
    exact h'
  · rw [upd_ne (h.2 x hx)]
    exact i.ex x hx
/-- one more object that is being filled -/
theorem Iv.and {D : Addr} {o : HO} (i : Iv p H) (h : H D = some o) (n : Nv p D) : Iv (p.and D o) H := by
  refine ⟨fun a ha => ?_, fun x hx => ?_⟩
  · obtain ⟨w, m⟩ := i.pot a ha
    refine ⟨w, fun x hx => ?_⟩
    rcases List.mem_cons.mp hx with e | e
    · rw [e]
      exact fun z => n.1 (by rw [show D = a from z]; exact ha)
    · exact m x e
  · rcases List.mem_cons.mp hx with e | e
    · rw [e]
      exact h
    · exact i.ex x e
theorem Iv.back {D : Addr} {o : HO} (i : Iv (p.and D o) H) : Iv p H := ⟨fun a ha => ⟨(i.pot a ha).1, fun x hx => (i.pot a ha).2 x (List.mem_cons_of_mem _ hx)⟩, fun x hx => i.ex x (List.mem_cons_of_mem _ hx)⟩
/-- behind a call that draws from the pot alone -/
theorem Iv.drawn {a : Addr} (i : Iv p H) (ha : p.pot = some a) (po : Pot H' a) (g : Gr (Vo.of a) H H') : Iv p H' := by
  refine ⟨fun b hb => ?_, fun x hx => g _ _ (nv_of fun e => (i.pot a ha).2 x hx e.symm) (i.ex x hx)⟩
  have e : b = a := Option.some.inj (hb.symm.trans ha)
  rw [e]
  exact ⟨po, (i.pot a ha).2⟩
theorem Gr.drawn {a : Addr} (ha : p.pot = some a) (g : Gr (Vo.of a) H H') : Gr p H H' := fun b o n h => g b o (nv_of fun e => n.1 (by rw [← e]; exact ha)) h
theorem Gr.of {a : Addr} (ha : p.pot = some a) (hx : p.ex = []) (g : Gr p H H') : Gr (Vo.of a) H H' := fun b o n h => g b o ⟨by rw [ha]; exact n.1, fun x m => by rw [hx] at m; exact (nomatch m)⟩ h

/-! ### what is said of a value, and stays -/
structure Sy (p : Vo) where
  P : V → Hp → Prop
  st : ∀ v H H', Gr p H H' → P v H → P v H'
def sx (v : V) : Sy p := ⟨fun x _ => x = v, fun _ _ _ _ h => h⟩
def si (C : Int → Prop) : Sy p := ⟨fun x _ => ∃ i, x = .int i ∧ C i, fun _ _ _ _ h => h⟩
def sb (B : Bool → Prop) : Sy p := ⟨fun x _ => ∃ b, x = .bl b ∧ B b, fun _ _ _ _ h => h⟩
def ss (C : Str → Prop) : Sy p := ⟨fun x _ => ∃ z, x = .str z ∧ C z, fun _ _ _ _ h => h⟩
def sl (C : List V → Hp → Prop) (hC : ∀ vs H H', Gr p H H' → C vs H → C vs H') : Sy p :=
  ⟨fun x H => ∃ a vs, x = .ref a ∧ Nv p a ∧ H a = some (.lst vs) ∧ C vs H, fun _ H H' e ⟨a, vs, h1, h2, h3, h4⟩ => ⟨a, vs, h1, h2, e a _ h2 h3, hC vs H H' e h4⟩⟩
def st (C : List V → Hp → Prop) (hC : ∀ vs H H', Gr p H H' → C vs H → C vs H') : Sy p :=
  ⟨fun x H => ∃ a vs, x = .ref a ∧ Nv p a ∧ H a = some (.tup vs) ∧ C vs H, fun _ H H' e ⟨a, vs, h1, h2, h3, h4⟩ => ⟨a, vs, h1, h2, e a _ h2 h3, hC vs H H' e h4⟩⟩
/-- a list, a tuple of just these -/
def slx (vs : List V) : Sy p := sl (fun x _ => x = vs) fun _ _ _ _ h => h
def stx (vs : List V) : Sy p := st (fun x _ => x = vs) fun _ _ _ _ h => h
/-- a list whose items all are so -/
def sla (A : Sy p) (n : Nat) : Sy p := sl (fun vs H => vs.length ≤ n ∧ ∀ v ∈ vs, A.P v H) fun _ H H' e h => ⟨h.1, fun v hv => A.st v H H' e (h.2 v hv)⟩
def slL (A : Sy p) (C : Nat → Prop) : Sy p := sl (fun vs H => C vs.length ∧ ∀ v ∈ vs, A.P v H) fun _ H H' e h => ⟨h.1, fun v hv => A.st v H H' e (h.2 v hv)⟩

def Ev (p : Vo) (te : TE) (σ : L2.St) (H : Hp) (A : Sy p) : Prop := ∀ H1, Iv p H1 → Gr p H H1 → ∀ Q : VK, (∀ v H2, Iv p H2 → Gr p H1 H2 → A.P v H2 → Q v H2) → te σ H1 Q
def EvT (p : Vo) (t : TT) (σ : L2.St) (H : Hp) (B : Bool → Prop) : Prop := ∀ H1, Iv p H1 → Gr p H H1 → ∀ Q : Bool → Hp → Prop, (∀ b H2, Iv p H2 → Gr p H1 H2 → B b → Q b H2) → t σ H1 Q
def Oks : List (Sy p) → List V → Hp → Prop
  | [], vs, _ => vs = []
  | A :: As, vs, H => ∃ v ws, vs = v :: ws ∧ A.P v H ∧ Oks As ws H
theorem Oks.st : ∀ {As : List (Sy p)} {vs : List V}, Gr p H H' → Oks As vs H → Oks As vs H'
  | [], _, _, h => h
  | A :: As, _, e, ⟨v, ws, h1, h2, h3⟩ => ⟨v, ws, h1, A.st v _ _ e h2, Oks.st e h3⟩
def EvA (p : Vo) (ta : TA) (σ : L2.St) (H : Hp) (As : List (Sy p)) : Prop := ∀ H1, Iv p H1 → Gr p H H1 → ∀ Q : List V → Hp → Prop, (∀ vs H2, Iv p H2 → Gr p H1 H2 → Oks As vs H2 → Q vs H2) → ta σ H1 Q
/-- an operation, a call upon values -/
def Rv (p : Vo) (r : Hp → VK → Prop) (H : Hp) (A : Sy p) : Prop := ∀ Q : VK, (∀ v H2, Iv p H2 → Gr p H H2 → A.P v H2 → Q v H2) → r H Q

section
variable {σ : L2.St} {ta tb te tx : TE} {t u : TT} {tr : TA} {A B C : Sy p} {As : List (Sy p)} {v x y z : V} {K : PySem.W.Frag}
theorem Ev.mono (h : Ev p te σ H A) (e : Gr p H H') : Ev p te σ H' A := fun H1 i g Q q => h H1 i (e.trans g) Q q
theorem Ev.imp (h : Ev p te σ H A) (e : ∀ v H, A.P v H → B.P v H) : Ev p te σ H B := fun H1 i g Q q => h H1 i g Q fun v H2 i2 g2 a => q v H2 i2 g2 (e v H2 a)
theorem EvT.imp {B B' : Bool → Prop} (h : EvT p t σ H B) (e : ∀ b, B b → B' b) : EvT p t σ H B' := fun H1 i g Q q => h H1 i g Q fun v H2 i2 g2 a => q v H2 i2 g2 (e v a)
theorem e_var {i : Nat} (h : σ[i]? = some (some v)) (a : A.P v H) : Ev p (tVar i) σ H A := fun H1 i1 g Q q => ⟨v, h, q v H1 i1 (Gr.refl H1) (A.st v H H1 g a)⟩
theorem e_vx {i : Nat} (h : σ[i]? = some (some v)) : Ev p (tVar i) σ H (sx v) := e_var h rfl
theorem e_c (a : A.P v H) : Ev p (tC v) σ H A := fun H1 i1 g Q q => q v H1 i1 (Gr.refl H1) (A.st v H H1 g a)
theorem e_cx : Ev p (tC v) σ H (sx v) := e_c rfl
theorem e_op {r : R2} (ha : Ev p ta σ H A) (hb : Ev p tb σ H B) (hr : ∀ x y H1, Iv p H1 → Gr p H H1 → A.P x H1 → B.P y H1 → Rv p (r x y) H1 C) : Ev p (tOp r ta tb) σ H C := fun H1 i g Q q =>
  ha H1 i g _ fun x H2 i2 g2 ax => hb H2 i2 (g.trans g2) _ fun y H3 i3 g3 by_ => hr x y H3 i3 ((g.trans g2).trans g3) (A.st x _ _ g3 ax) by_ Q fun w H4 i4 g4 c => q w H4 i4 ((g2.trans g3).trans g4) c
theorem e_un {r : V → Hp → VK → Prop} (ha : Ev p ta σ H A) (hr : ∀ x H1, Iv p H1 → Gr p H H1 → A.P x H1 → Rv p (r x) H1 C) : Ev p (tUn r ta) σ H C := fun H1 i g Q q =>
  ha H1 i g _ fun x H2 i2 g2 ax => hr x H2 i2 (g.trans g2) ax Q fun w H4 i4 g4 c => q w H4 i4 (g2.trans g4) c
theorem a_nil : EvA p tNil σ H [] := fun H1 i _ _ q => q [] H1 i (Gr.refl H1) rfl
theorem a_cons (h : Ev p te σ H A) (hr : EvA p tr σ H As) : EvA p (tCons te tr) σ H (A :: As) := fun H1 i g Q q =>
  h H1 i g _ fun x H2 i2 g2 ax => hr H2 i2 (g.trans g2) _ fun vs H3 i3 g3 os => q (x :: vs) H3 i3 (g2.trans g3) ⟨x, vs, rfl, A.st x _ _ g3 ax, os⟩
theorem e_cb {r : List V → Hp → VK → Prop} (h : EvA p tr σ H As) (hr : ∀ vs H1, Iv p H1 → Gr p H H1 → Oks As vs H1 → Rv p (r vs) H1 C) : Ev p (tCB r tr) σ H C := fun H1 i g Q q =>
  h H1 i g _ fun vs H2 i2 g2 os => hr vs H2 i2 (g.trans g2) os Q fun w H3 i3 g3 c => q w H3 i3 (g2.trans g3) c
theorem e_call {sp : Sp} {E : XK} (h : EvA p tr σ H As) (hr : ∀ vs H1, Iv p H1 → Gr p H H1 → Oks As vs H1 → Rv p (fun H Q => sp vs H Q E) H1 C) : Ev p (tCall sp [] E tr) σ H C := fun H1 i g Q q =>
  h H1 i g _ fun vs H2 i2 g2 os => by
    show sp (vs ++ []) H2 Q E
    rw [List.append_nil]
    exact hr vs H2 i2 (g.trans g2) os Q fun w H3 i3 g3 c => q w H3 i3 (g2.trans g3) c
theorem Oks.len : ∀ {As : List (Sy p)} {vs : List V} {H : Hp}, Oks As vs H → vs.length = As.length
  | [], _, _, h => by rw [h]; rfl
  | _ :: _, _, _, ⟨v, ws, h1, _, h3⟩ => by rw [h1, List.length_cons, Oks.len h3, List.length_cons]
theorem e_tup (h : EvA p tr σ H As) (hn : As.length ≤ sizeLine) (hr : ∀ vs a H1, Iv p H1 → Gr p H H1 → Oks As vs H1 → Nv p a → H1 a = some (.tup vs) → C.P (.ref a) H1) : Ev p (tTup tr) σ H C := fun H1 i g Q q =>
  h H1 i g _ fun vs H2 i2 g2 os => ⟨by rw [os.len]; exact hn, fun a ha => q _ _ (i2.new ha) (g2.trans (Gr.new ha)) (hr vs a _ (i2.new ha) ((g.trans g2).trans (Gr.new ha)) (os.st (Gr.new ha)) (i2.ne ha) upd_same)⟩
theorem e_lst (h : EvA p tr σ H As) (hn : As.length ≤ sizeLine) (hr : ∀ vs a H1, Iv p H1 → Gr p H H1 → Oks As vs H1 → Nv p a → H1 a = some (.lst vs) → C.P (.ref a) H1) : Ev p (tLst tr) σ H C := fun H1 i g Q q =>
  h H1 i g _ fun vs H2 i2 g2 os => ⟨by rw [os.len]; exact hn, fun a ha => q _ _ (i2.new ha) (g2.trans (Gr.new ha)) (hr vs a _ (i2.new ha) ((g.trans g2).trans (Gr.new ha)) (os.st (Gr.new ha)) (i2.ne ha) upd_same)⟩

/-! ### tests -/
theorem t_test {B : Bool → Prop} (h : Ev p te σ H (sb B)) : EvT p (tTest te) σ H B := fun H1 i g Q q => h H1 i g _ fun v H2 i2 g2 ⟨b, e, hb⟩ => ⟨b, e, q b H2 i2 g2 hb⟩
theorem t_b {B : Bool → Prop} (h : Ev p te σ H (sb B)) : EvT p (tB te) σ H B := fun H1 i g Q q => h H1 i g _ fun v H2 i2 g2 ⟨b, e, hb⟩ => ⟨b, e, q b H2 i2 g2 hb⟩
theorem EvT.mono {B : Bool → Prop} (h : EvT p t σ H B) (e : Gr p H H') : EvT p t σ H' B := fun H1 i g Q q => h H1 i (e.trans g) Q q
theorem t_and {B D E : Bool → Prop} (h : EvT p t σ H B) (h1 : B true → EvT p u σ H D) (e0 : B false → E false) (e1 : ∀ b, B true → D b → E b) : EvT p (tAnd t u) σ H E := fun H1 i g Q q => h H1 i g _ fun b H2 i2 g2 hb => by
  cases b with
  | true =>
    show u σ H2 Q
    exact h1 hb H2 i2 (g.trans g2) Q fun c H3 i3 g3 hc => q c H3 i3 (g2.trans g3) (e1 c hb hc)
  | false =>
    show Q false H2
    exact q false H2 i2 g2 (e0 hb)
theorem t_or {B D E : Bool → Prop} (h : EvT p t σ H B) (h1 : B false → EvT p u σ H D) (e0 : B true → E true) (e1 : ∀ b, B false → D b → E b) : EvT p (tOr t u) σ H E := fun H1 i g Q q => h H1 i g _ fun b H2 i2 g2 hb => by
  cases b with
  | false =>
    show u σ H2 Q
    exact h1 hb H2 i2 (g.trans g2) Q fun c H3 i3 g3 hc => q c H3 i3 (g2.trans g3) (e1 c hb hc)
  | true =>
    show Q true H2
    exact q true H2 i2 g2 (e0 hb)
theorem t_not {B : Bool → Prop} (h : EvT p t σ H B) : EvT p (tNot t) σ H (fun b => B (!b)) := fun H1 i g Q q => h H1 i g _ fun b H2 i2 g2 hb => q (!b) H2 i2 g2 (by show B (!(!b)); rw [Bool.not_not]; exact hb)
/-- known answers -/
abbrev Tis (p : Vo) (t : TT) (σ : L2.St) (H : Hp) (b : Bool) : Prop := EvT p t σ H (fun c => c = b)
theorem k_and {a b : Bool} (h : Tis p t σ H a) (h1 : a = true → Tis p u σ H b) : Tis p (tAnd t u) σ H (a && b) := t_and h (fun e => h1 e.symm) (fun e => by rw [← e]; rfl) fun c e d => by rw [← e, d]; rfl
theorem k_or {a b : Bool} (h : Tis p t σ H a) (h1 : a = false → Tis p u σ H b) : Tis p (tOr t u) σ H (a || b) := t_or h (fun e => h1 e.symm) (fun e => by rw [← e]; rfl) fun c e d => by rw [← e, d]; rfl
theorem k_not {a : Bool} (h : Tis p t σ H a) : Tis p (tNot t) σ H (!a) := (t_not h).imp fun b e => by rw [← e, Bool.not_not]
theorem k_to {a b : Bool} (h : Tis p t σ H a) (e : a = b) : Tis p t σ H b := by rw [← e]; exact h
theorem k_test {b : Bool} (h : Ev p te σ H (sx (.bl b))) : Tis p (tTest te) σ H b := t_test (h.imp fun v _ e => ⟨b, e, rfl⟩)
theorem k_b {b : Bool} (h : Ev p te σ H (sx (.bl b))) : Tis p (tB te) σ H b := t_b (h.imp fun v _ e => ⟨b, e, rfl⟩)
theorem e_if {B : Bool → Prop} (h : EvT p t σ H B) (h1 : B true → Ev p ta σ H A) (h2 : B false → Ev p tb σ H A) : Ev p (tIf t ta tb) σ H A := fun H1 i g Q q => h H1 i g _ fun b H2 i2 g2 hb => by
  cases b with
  | true =>
    show ta σ H2 Q
    exact h1 hb H2 i2 (g.trans g2) Q fun c H3 i3 g3 hc => q c H3 i3 (g2.trans g3) hc
  | false =>
    show tb σ H2 Q
    exact h2 hb H2 i2 (g.trans g2) Q fun c H3 i3 g3 hc => q c H3 i3 (g2.trans g3) hc
/-- and, or, not as values: exact -/
theorem x_and {a b : Bool} (h1 : Ev p ta σ H (sx (.bl a))) (h2 : a = true → Ev p tb σ H (sx (.bl b))) : Ev p (tAndV ta tb) σ H (sx (.bl (a && b))) := fun H1 i g Q q => h1 H1 i g _ fun v H2 i2 g2 e => ⟨a, e, by
  cases a with
  | true =>
    show tb σ H2 Q
    exact h2 rfl H2 i2 (g.trans g2) Q fun c H3 i3 g3 hc => q c H3 i3 (g2.trans g3) hc
  | false =>
    show Q (.bl false) H2
    exact q _ H2 i2 g2 rfl⟩
theorem x_or {a b : Bool} (h1 : Ev p ta σ H (sx (.bl a))) (h2 : a = false → Ev p tb σ H (sx (.bl b))) : Ev p (tOrV ta tb) σ H (sx (.bl (a || b))) := fun H1 i g Q q => h1 H1 i g _ fun v H2 i2 g2 e => ⟨a, e, by
  cases a with
  | false =>
    show tb σ H2 Q
    exact h2 rfl H2 i2 (g.trans g2) Q fun c H3 i3 g3 hc => q c H3 i3 (g2.trans g3) hc
  | true =>
    show Q (.bl true) H2
    exact q _ H2 i2 g2 rfl⟩
theorem x_not {a : Bool} (h1 : Ev p ta σ H (sx (.bl a))) : Ev p (tNotV ta) σ H (sx (.bl (!a))) := fun H1 i g Q q => h1 H1 i g _ fun v H2 i2 g2 e => ⟨a, e, q _ H2 i2 g2 rfl⟩
theorem x_to {w : V} (h : Ev p te σ H (sx v)) (e : v = w) : Ev p te σ H (sx w) := by rw [← e]; exact h
/-- a < b < c -/
theorem x_chain {r r' : R2} {tc : TE} {a b : Bool} (ha : Ev p ta σ H A) (hb : Ev p tb σ H B) (hc : a = true → Ev p tc σ H C)
    (hr : ∀ x y H1, Iv p H1 → Gr p H H1 → A.P x H1 → B.P y H1 → Rv p (r x y) H1 (sx (.bl a))) (hr' : a = true → ∀ y z H1, Iv p H1 → Gr p H H1 → B.P y H1 → C.P z H1 → Rv p (r' y z) H1 (sx (.bl b))) :
    Ev p (tChain r r' ta tb tc) σ H (sx (.bl (a && b))) := fun H1 i g Q q =>
  ha H1 i g _ fun x H2 i2 g2 ax => hb H2 i2 (g.trans g2) _ fun y H3 i3 g3 by_ => hr x y H3 i3 ((g.trans g2).trans g3) (A.st x _ _ g3 ax) by_ _ fun w H4 i4 g4 e => ⟨a, e, by
    cases a with
    | true =>
      show tc σ H4 fun z H5 => r' y z H5 Q
      exact hc rfl H4 i4 (((g.trans g2).trans g3).trans g4) _ fun z H5 i5 g5 cz => hr' rfl y z H5 i5 ((((g.trans g2).trans g3).trans g4).trans g5) (B.st y _ _ (g4.trans g5) by_) cz Q fun w H6 i6 g6 e => q w H6 i6 ((((g2.trans g3).trans g4).trans g5).trans g6) e
    | false =>
      show Q (.bl false) H4
      exact q _ H4 i4 ((g2.trans g3).trans g4) rfl⟩

/-! ### statements -/
variable {D : Ends} {tu tw : TS}
theorem s_asg {i : Nat} (iv : Iv p H) (h : Ev p te σ H A) (k : ∀ v H1, Iv p H1 → Gr p H H1 → A.P v H1 → D.nx (σ.set i (some v)) H1) : tAsg te (gName i) D σ H := h H iv (Gr.refl H) _ k
theorem s_ret (iv : Iv p H) (h : Ev p te σ H A) (k : ∀ v H1, Iv p H1 → Gr p H H1 → A.P v H1 → D.rt v H1) : tRet te D σ H := h H iv (Gr.refl H) _ k
theorem s_if {B : Bool → Prop} (iv : Iv p H) (h : EvT p t σ H B) (h1 : B true → ∀ H1, Iv p H1 → Gr p H H1 → tu D σ H1) (h2 : B false → ∀ H1, Iv p H1 → Gr p H H1 → tw D σ H1) : tIfS t tu tw D σ H := h H iv (Gr.refl H) _ fun b H1 i e hb => by
  cases b with
  | true =>
    show tu D σ H1
    exact h1 hb H1 i e
  | false =>
    show tw D σ H1
    exact h2 hb H1 i e
/-- with a known answer -/
theorem s_ifx {b : Bool} (iv : Iv p H) (h : Tis p t σ H b) (h1 : b = true → ∀ H1, Iv p H1 → Gr p H H1 → tu D σ H1) (h2 : b = false → ∀ H1, Iv p H1 → Gr p H H1 → tw D σ H1) : tIfS t tu tw D σ H :=
  s_if iv h (fun e => h1 e.symm) fun e => h2 e.symm
end

/-! ### operations -/
section
variable {x y : V} {K : PySem.W.Frag}
theorem rv (iv : Iv p H) {r : Hp → VK → Prop} {A : Sy p} {v : V} (a : A.P v H) (h : ∀ Q : VK, Q v H → r H Q) : Rv p r H A := fun Q q => h Q (q v H iv (Gr.refl H) a)
/-- a new object -/
theorem rv_new (iv : Iv p H) {r : Hp → VK → Prop} {A : Sy p} {o : HO} (a : ∀ q, Nv p q → H q = none → Iv p (upd H q o) → Gr p H (upd H q o) → A.P (.ref q) (upd H q o)) (h : ∀ Q : VK, (∀ q, H q = none → Q (.ref q) (upd H q o)) → r H Q) : Rv p r H A :=
  fun Q q => h Q fun a' ha => q _ _ (iv.new ha) (Gr.new ha) (a a' (iv.ne ha) ha (iv.new ha) (Gr.new ha))
end
end Hk
namespace Hk
open PySem PySem.Spec PyProof.Rows L2

/-! ### rules that take either of several readings -/
section
variable {X : Cx}
theorem OpR.or {f : Value → Value → Sem Value} {r r' : R2} (h : OpR X f r) (h' : OpR X f r') : OpR X f (fun x y H Q => r x y H Q ∨ r' x y H Q) := by
  intro pins s σ H x y v u Q I rx ry q
  rcases q with q | q
  · exact h pins s σ H x y v u Q I rx ry q
  · exact h' pins s σ H x y v u Q I rx ry q
def rAddS : R2 := fun x y H Q => ∃ i j, x = .str i ∧ y = .str j ∧ i.length + j.length ≤ sizeLine ∧ Q (.str (i ++ j)) H
def rAddI : R2 := fun x y H Q => ∃ i j, x = .int i ∧ y = .int j ∧ Q (.int (i + j)) H
def rAddU : R2 := fun x y H Q => rAddI x y H Q ∨ rAddS x y H Q ∨ rCat x y H Q
theorem op_addU : OpR X (binaryOp .Add) rAddU := OpR.or (show OpR X (binaryOp .Add) rAddI from op_add) (OpR.or (show OpR X (binaryOp .Add) rAddS from op_add_str) (show OpR X (binaryOp .Add) rCat from op_cat))
def rMulI : R2 := rI CMul fun i j => .int (i * j)
def rMulS : R2 := fun x y H Q => ∃ z n, x = .str z ∧ y = .int n ∧ MulOk z n ∧ Q (.str (Txt.mul z n)) H
theorem op_mulS : OpR X (binaryOp .Mult) rMulS := by
  intro pins s σ H x y v u Q I rx ry h
  obtain ⟨z, n, rfl, rfl, ok, q⟩ := h
  obtain ⟨t, rfl⟩ := rx
  obtain ⟨t', rfl⟩ := ry
  exact SB.mul ok fun t' k => ⟨.str _, H, I.tok _, ⟨_, rfl⟩, q⟩
def rMulU : R2 := fun x y H Q => rMulI x y H Q ∨ rMulS x y H Q
theorem op_mulU : OpR X (binaryOp .Mult) rMulU := OpR.or (show OpR X (binaryOp .Mult) rMulI from op_mul) op_mulS
def CPw (i j : Int) : Prop := 0 ≤ j ∧ (Builtin.Int.intBits i : Int) * j ≤ 2 ^ 27
def rPow : R2 := rI CPw fun i j => .int (i ^ j.toNat)
theorem op_powW : OpR X (binaryOp .Pow) rPow := opI fun _ _ _ _ _ _ _ hc q => pow_int hc.1 hc.2 q
def rLeI : R2 := fun x y H Q => ∃ i j, x = .int i ∧ y = .int j ∧ Q (.bl (decide (i ≤ j))) H
def rLeS : R2 := fun x y H Q => ∃ i j : Str, x = .str i ∧ y = .str j ∧ Q (.bl (!decide (j.cps.toList < i.cps.toList))) H
def rLeU : R2 := fun x y H Q => rLeI x y H Q ∨ rLeS x y H Q
theorem op_leU : OpR X (compareOp .LtE) rLeU := OpR.or (show OpR X (compareOp .LtE) rLeI from op_le) (show OpR X (compareOp .LtE) rLeS from op_le_str)
def rInS' : R2 := fun x y H Q => ∃ (c : Nat) (z : Str), x = .str ⟨#[c]⟩ ∧ y = .str z ∧ Q (.bl (decide (c ∈ z.cps.toList))) H
def rNinS' : R2 := fun x y H Q => ∃ (c : Nat) (z : Str), x = .str ⟨#[c]⟩ ∧ y = .str z ∧ Q (.bl (!decide (c ∈ z.cps.toList))) H
def rInU (K : PySem.W.Frag) : R2 := fun x y H Q => rInS' x y H Q ∨ rIn K false x y H Q
def rNinU (K : PySem.W.Frag) : R2 := fun x y H Q => rNinS' x y H Q ∨ rIn K true x y H Q
theorem op_inU : OpR X (compareOp .In) (rInU X.K) := OpR.or (show OpR X (compareOp .In) rInS' from op_in_sign) op_in_seq
theorem op_ninU : OpR X (compareOp .NotIn) (rNinU X.K) := OpR.or (show OpR X (compareOp .NotIn) rNinS' from op_notIn_sign) op_notIn_seq
def rSlU (K : PySem.W.Frag) : V → Option Int → Option Int → Hp → VK → Prop := fun x lo hi H Q => rSlT K x lo hi H Q ∨ rSlS x lo hi H Q
theorem sl_U : SlR X (rSlU X.K) := SlR.or sl_tup sl_str
def rDm : List V → Hp → VK → Prop := fun xs H Q => ∃ i j, xs = [.int i, .int j] ∧ (0 < j ∧ j < 1073741824) ∧ ∀ p, H p = none → Q (.ref p) (upd H p (.tup [.int (i / j), .int (i % j)]))
theorem call_divmodS : CallR X (.builtin "divmod") rDm := by
  intro pins s σ H xs us Q I r h
  obtain ⟨i, j, e, ⟨h1, h2⟩, q⟩ := h
  exact call_divmodW pins s σ H xs us Q I r ⟨i, j, e, ⟨h1, PyProof.noPylong_small (by omega)⟩, q⟩

/-! ### repr of a list, a tuple of truths and texts -/
inductive FlatD : V → PyData → Prop where
  | bl (b : Bool) : FlatD (.bl b) (.bool b)
  | str (x : Str) : FlatD (.str x) (.str x)
theorem flat_reads {h : Heap} {v : V} {u : Value} {d : PyData} (f : FlatD v d) (r : RelV v u) : Reads h u d [] := by
  cases f with
  | bl b => cases r; exact .bool b
  | str x => obtain ⟨t, rfl⟩ := r; exact .str x t
theorem flat_readsAll {h : Heap} : ∀ {vs : List V} {us : List Value} {ds : List PyData}, Paired FlatD vs ds → Vals vs us → ReadsAll h us ds []
  | _, _, _, .nil, .nil => .nil
  | _, _, _, .cons f k, .cons r q => .cons (as := []) (bs := []) (flat_reads f r) (flat_readsAll k q)
theorem flat_show {v : V} {d : PyData} (f : FlatD v d) : d.showable = true ∧ d.hasDict = false ∧ d.depth = 0 := by
  cases f <;> refine ⟨by simp only [PyData.showable], by simp only [PyData.hasDict], by simp only [PyData.depth]⟩
theorem flat_showAll : ∀ {vs : List V} {ds : List PyData}, Paired FlatD vs ds → PyData.showableAll ds = true ∧ PyData.hasDictAll ds = false ∧ PyData.depthAll ds = 0
  | _, _, .nil => ⟨by simp only [PyData.showableAll], by simp only [PyData.hasDictAll], by simp only [PyData.depthAll]⟩
  | _, _, .cons f k => by
    obtain ⟨a1, a2, a3⟩ := flat_show f
    obtain ⟨b1, b2, b3⟩ := flat_showAll k
    refine ⟨by simp only [PyData.showableAll, a1, b1, Bool.and_self], by simp only [PyData.hasDictAll, a2, b2, Bool.or_self], by simp only [PyData.depthAll, a3, b3] <;> rfl⟩
def rRepr (K : PySem.W.Frag) : List V → Hp → VK → Prop := fun xs H Q => ∃ (a : Addr) (vs : List V) (ds : List PyData), xs = [.ref a] ∧ Paired FlatD vs ds ∧
  ((SqL K H a vs ∧ (PyData.list ds).shown.length ≤ sizeLine ∧ Q (.str (PyData.list ds).shown) H) ∨ (SqT K H a vs ∧ (PyData.tuple ds).shown.length ≤ sizeLine ∧ Q (.str (PyData.tuple ds).shown) H))

theorem call_reprU (hg : X.A.guards = some []) (hu : X.A.units + 3 < cLine) : CallR X (.builtin "repr") (rRepr X.K) := by
  intro pins s σ H xs us Q I r h
  obtain ⟨a, vs, ds, rfl, f, h⟩ := h
  obtain ⟨u, rfl, rx⟩ := vals1 r
  cases (show u = Value.ref a from rx)
  obtain ⟨w1, w2, w3⟩ := flat_showAll f
  rcases h with ⟨hl, hz, q⟩ | ⟨ht, hz, q⟩
  · obtain ⟨its, rv, ⟨o, n, e1, e2, _, e4⟩, _⟩ := I.list hl
    have rd : Reads s.heap (.ref a) (.list ds) (a :: []) := .list e1 e2 e4 (by simpa using flat_readsAll f rv)
    refine repr_of_reads' rd (by simp only [PyData.showable, w1]) (PyData.noDict_hsm (by simp only [PyData.hasDict, w2])) hg ?_ (fun _ _ e => e) (fun h' t tk hk => ?_) hz
    · have e : (PyData.list ds).depth = 1 := by
        simp only [PyData.depth, w3]
      omega
    · exact ⟨.str _, H, I.kept hk, ⟨_, rfl⟩, q⟩
  · obtain ⟨its, rv, ⟨o, e1, e2, n, e4⟩, _⟩ := I.tuple ht
    have rd : Reads s.heap (.ref a) (.tuple ds) [] := .tuple e1 e2 e4 (by simpa using flat_readsAll f rv)
    refine repr_of_reads' rd (by simp only [PyData.showable, w1]) (PyData.noDict_hsm (by simp only [PyData.hasDict, w2])) hg ?_ (fun _ _ e => e) (fun h' t tk hk => ?_) hz
    · have e : (PyData.tuple ds).depth = 1 := by
        simp only [PyData.depth, w3]
      omega
    · exact ⟨.str _, H, I.kept hk, ⟨_, rfl⟩, q⟩
end

/-! ### a comprehension over a text -/
theorem lc_str {x : Str} {g : TG} {tt : TT} {te : TE} {vs : List Nat} {σ : L2.St} {H1 : Hp} {D : Addr} {Qd : Hp → Prop} (Pv : Nat → Hp → Prop) (h0 : Pv 0 (upd H1 D (.lst [])))
    (hs : ∀ i c H, x.cps.toList[i]? = some c → Pv i H → g (.str ⟨#[c]⟩) (wipe σ vs) H fun σ2 H2 => wipe σ2 vs = wipe σ vs ∧ tt σ2 H2 fun b H3 =>
      if b = true then te σ2 H3 fun y H4 => ∃ acc, H4 D = some (.lst acc) ∧ acc.length < sizeLine ∧ Pv (i + 1) (upd H4 D (.lst (acc ++ [y]))) else Pv (i + 1) H3) (hd : ∀ H, Pv x.cps.size H → Qd H) :
    ∃ W : Nat → Nat → Hp → Prop, (∃ m, W 0 m (upd H1 D (.lst []))) ∧ ∀ i m H, W i m H →
      ((Its x).stop i H ∧ Qd H) ∨ ((Its x).go i H ∧ ∃ Nx : Hp → Prop, (∀ H', Nx H' → ∃ m', m' < m ∧ W (i + 1) m' H') ∧ ∀ v H', (Its x).yld i H v H' → g v (wipe σ vs) H' fun σ2 H2 => wipe σ2 vs = wipe σ vs ∧ tt σ2 H2 fun b H3 =>
        if b = true then te σ2 H3 fun y H4 => ∃ acc, H4 D = some (.lst acc) ∧ acc.length < sizeLine ∧ Nx (upd H4 D (.lst (acc ++ [y]))) else Nx H3) := by
  refine ⟨fun i m H => m = x.cps.size - i ∧ i ≤ x.cps.size ∧ Pv i H, ⟨_, rfl, Nat.zero_le _, h0⟩, fun i m H hw => ?_⟩
  obtain ⟨em, hi, pw⟩ := hw
  by_cases hlt : i < x.cps.size
  · refine .inr ⟨hlt, Pv (i + 1), fun H' n => ⟨x.cps.size - (i + 1), by omega, rfl, hlt, n⟩, fun v H' hy => ?_⟩
    obtain ⟨rfl, c, hc, rfl⟩ := hy
    exact hs i c _ (by rw [Array.getElem?_toList]; exact hc) pw
  · have e : i = x.cps.size := by omega
    subst e
    exact .inl ⟨Nat.le_refl _, hd H pw⟩

/-! ### comprehensions, by what is said of the items made: the list that is made, turn by turn -/
section
variable {p : Vo} {σ : L2.St} {H : Hp} {K : PySem.W.Frag}
/-- C i acc H: the first i turns gave acc; it is not hurt by the list's own growing -/
structure Grows (p : Vo) (C : Nat → List V → Hp → Prop) : Prop where
  st : ∀ i acc H1 H2, Gr p H1 H2 → C i acc H1 → C i acc H2
/-- what stands behind i turns -/
def Cw (p : Vo) (H : Hp) (D : Addr) (C : Nat → List V → Hp → Prop) (i : Nat) (H' : Hp) : Prop :=
  Iv p H' ∧ H D = none ∧ Nv p D ∧ Gr p H H' ∧ ∃ acc, H' D = some (.lst acc) ∧ acc.length = i ∧ C i acc H'
/-- what an item's evaluation gives while the list at D is being made: said over one more object that may change -/
theorem cw_turn {C : Nat → List V → Hp → Prop} {D : Addr} (st : ∀ o i acc H1 H2, Gr (p.and D o) H1 H2 → C i acc H1 → C i acc H2) {i : Nat} {te : TE} {σ2 : L2.St} {A : ∀ q : Vo, Sy q} {H' : Hp} (w : Cw p H D C i H') (hi : i < 16000000)
    (he : ∀ o, Ev (p.and D o) te σ2 H (A (p.and D o)))
    (hc : ∀ acc y H1 o, Gr p H H1 → Iv (p.and D o) H1 → acc.length = i → C i acc H1 → (A (p.and D o)).P y H1 → C (i + 1) (acc ++ [y]) H1) :
    tYes σ2 H' fun b H3 => if b = true then te σ2 H3 fun y H4 => ∃ acc, H4 D = some (.lst acc) ∧ acc.length < sizeLine ∧ Cw p H D C (i + 1) (upd H4 D (.lst (acc ++ [y]))) else Cw p H D C (i + 1) H3 := by
  obtain ⟨iv, hD, nD, g, acc, ha, hl, c⟩ := w
  show te σ2 H' fun y H4 => ∃ acc, H4 D = some (.lst acc) ∧ acc.length < sizeLine ∧ Cw p H D C (i + 1) (upd H4 D (.lst (acc ++ [y])))
  have g1 : Gr (p.and D (.lst acc)) H H' := fun b o n h => g b o n.back h
  refine he (.lst acc) H' (iv.and ha nD) g1 _ fun y H4 i4 g4 ay => ?_
  have aD : H4 D = some (.lst acc) := i4.ex (D, .lst acc) List.mem_cons_self
  have g5 : Gr p H' H4 := fun b o n h => by
    by_cases e : D = b
    · rw [← e] at h ⊢
      rw [ha] at h
      rw [aD, ← h]
    · exact g4 b o (n.and e) h
  have g6 : Gr (p.and D (.lst acc)) H4 (upd H4 D (.lst (acc ++ [y]))) := fun b o n h => by
    rw [upd_ne n.ne.symm]
    exact h
  refine ⟨acc, aD, by rw [sizeLine_eq]; omega, i4.back.upd nD, hD, nD, (g.trans g5).mut hD, acc ++ [y], upd_same, by rw [List.length_append, hl]; rfl, ?_⟩
  exact st (.lst acc) _ _ _ _ g6 (hc acc y H4 (.lst acc) (g.trans g5) i4 hl (st (.lst acc) _ _ _ _ g4 c) ay)
theorem cw0 {C : Nat → List V → Hp → Prop} {D : Addr} (iv : Iv p H) (hD : H D = none) (c : C 0 [] (upd H D (.lst []))) : Cw p H D C 0 (upd H D (.lst [])) :=
  ⟨iv.new hD, hD, iv.ne hD, Gr.new hD, [], upd_same, rfl, c⟩
/-- the result: a new list of what C says -/
def sC (C : Nat → List V → Hp → Prop) (n : Nat) (st : ∀ acc H1 H2, Gr p H1 H2 → C n acc H1 → C n acc H2) : Sy p := sl (fun vs H => vs.length = n ∧ C n vs H) fun vs H1 H2 e h => ⟨h.1, st vs H1 H2 e h.2⟩

variable {te ta tb : TE} {tr : TA} {j : Nat} {vs : List Nat} {A : Nat → ∀ q : Vo, Sy q} {B : Sy p}
/-- over a text -/
theorem lcS {x : Str} (C : Nat → List V → Hp → Prop) (hx : Ev p ta σ H (sx (.str x))) (hz : x.cps.size < 16000000) (st : ∀ D o i acc H1 H2, Gr (p.and D o) H1 H2 → C i acc H1 → C i acc H2) (st' : ∀ acc H1 H2, Gr p H1 H2 → C x.cps.size acc H1 → C x.cps.size acc H2)
    (hw : ∀ x, wipe ((wipe σ vs).set j (some x)) vs = wipe σ vs) (c0 : ∀ H1, C 0 [] H1)
    (he : ∀ (i c : Nat) D o, x.cps.toList[i]? = some c → Ev (p.and D o) te ((wipe σ vs).set j (some (.str ⟨#[c]⟩))) H (A i (p.and D o)))
    (hc : ∀ (i c : Nat) acc y H1 D o, x.cps.toList[i]? = some c → Gr p H H1 → Iv (p.and D o) H1 → acc.length = i → C i acc H1 → (A i (p.and D o)).P y H1 → C (i + 1) (acc ++ [y]) H1) :
    Ev p (tLc (iStr ta) (gName j) tYes te vs) σ H (sC C x.cps.size st') := fun H0 i0 g0 Q q =>
  hx H0 i0 g0 _ fun v H1 i1 g1 e => ⟨x, e, fun D hD => lc_str (x := x) (Cw p H1 D C) (cw0 i1 hD (c0 _)) (fun i c H' hi w =>
    ⟨hw _, cw_turn (A := A i) (st D) w (by have := (List.getElem?_eq_some_iff.mp hi).1; rw [Array.length_toList] at this; omega) (fun o => (he i c D o hi).mono fun b ob n h => (g0.trans g1) b ob n.back h) fun acc y H2 o g2 i2 hl c2 ay => hc i c acc y H2 D o hi ((g0.trans g1).trans g2) i2 hl c2 ay⟩)
    fun H' w => q _ H' w.1 (g1.trans w.2.2.2.1) (by obtain ⟨_, _, nD, _, acc, ha, hl, c⟩ := w; exact ⟨D, acc, rfl, nD, ha, hl, c⟩)⟩
/-- over a tuple -/
theorem lcT {xs : List V} (C : Nat → List V → Hp → Prop) (hx : Ev p ta σ H B) (hB : ∀ v H1, Gr p H H1 → B.P v H1 → ∃ a, v = .ref a ∧ Nv p a ∧ H1 a = some (.tup xs)) (hz : xs.length < 16000000) (st : ∀ D o i acc H1 H2, Gr (p.and D o) H1 H2 → C i acc H1 → C i acc H2) (st' : ∀ acc H1 H2, Gr p H1 H2 → C xs.length acc H1 → C xs.length acc H2)
    (hw : ∀ x, wipe ((wipe σ vs).set j (some x)) vs = wipe σ vs) (c0 : ∀ H1, C 0 [] H1)
    (he : ∀ (i : Nat) (x : V) D o H1, Gr p H H1 → H1 D = none → xs[i]? = some x → Ev (p.and D o) te ((wipe σ vs).set j (some x)) H1 (A i (p.and D o)))
    (hc : ∀ (i : Nat) (x : V) acc y H1 D o, xs[i]? = some x → Gr p H H1 → Iv (p.and D o) H1 → acc.length = i → C i acc H1 → (A i (p.and D o)).P y H1 → C (i + 1) (acc ++ [y]) H1) :
    Ev p (tLc (iTup K ta) (gName j) tYes te vs) σ H (sC C xs.length st') := fun H0 i0 g0 Q q =>
  hx H0 i0 g0 _ fun v H1 i1 g1 bv => by
    obtain ⟨a, rfl, na, ha⟩ := hB v H1 (g0.trans g1) bv
    refine ⟨a, rfl, ⟨xs, SqT.of ha⟩, fun D hD => lc_tup (xs := xs) (Cw p H1 D C) (cw0 i1 hD (c0 _)) (fun i H' _ w => SqT.of (w.2.2.2.1 a _ na ha)) (fun i x H' hi w => ?_) fun H' w => q _ H' w.1 (g1.trans w.2.2.2.1) (by obtain ⟨_, _, nD, _, acc, ha, hl, c⟩ := w; exact ⟨D, acc, rfl, nD, ha, hl, c⟩)⟩
    exact ⟨hw _, cw_turn (A := A i) (st D) w (by have := (List.getElem?_eq_some_iff.mp hi).1; omega) (fun o => he i x D o H1 (g0.trans g1) hD hi) fun acc y H2 o g2 i2 hl c2 ay => hc i x acc y H2 D o hi ((g0.trans g1).trans g2) i2 hl c2 ay⟩
/-- over a list that stands still -/
theorem lcL {xs : List V} (C : Nat → List V → Hp → Prop) (hx : Ev p ta σ H B) (hB : ∀ v H1, Gr p H H1 → B.P v H1 → ∃ a, v = .ref a ∧ Nv p a ∧ H1 a = some (.lst xs)) (hz : xs.length < 16000000) (st : ∀ D o i acc H1 H2, Gr (p.and D o) H1 H2 → C i acc H1 → C i acc H2) (st' : ∀ acc H1 H2, Gr p H1 H2 → C xs.length acc H1 → C xs.length acc H2)
    (hw : ∀ x, wipe ((wipe σ vs).set j (some x)) vs = wipe σ vs) (c0 : ∀ H1, C 0 [] H1)
    (he : ∀ (i : Nat) (x : V) D o H1, Gr p H H1 → H1 D = none → xs[i]? = some x → Ev (p.and D o) te ((wipe σ vs).set j (some x)) H1 (A i (p.and D o)))
    (hc : ∀ (i : Nat) (x : V) acc y H1 D o, xs[i]? = some x → Gr p H H1 → Iv (p.and D o) H1 → acc.length = i → C i acc H1 → (A i (p.and D o)).P y H1 → C (i + 1) (acc ++ [y]) H1) :
    Ev p (tLc (iList K ta) (gName j) tYes te vs) σ H (sC C xs.length st') := fun H0 i0 g0 Q q =>
  hx H0 i0 g0 _ fun v H1 i1 g1 bv => by
    obtain ⟨a, rfl, na, ha⟩ := hB v H1 (g0.trans g1) bv
    refine ⟨a, rfl, ⟨xs, SqL.of ha⟩, fun D hD => lc_list (xs := xs) (Cw p H1 D C) (cw0 i1 hD (c0 _)) (fun i H' _ w => SqL.of (w.2.2.2.1 a _ na ha)) (fun i x H' hi w => ?_) fun H' w => q _ H' w.1 (g1.trans w.2.2.2.1) (by obtain ⟨_, _, nD, _, acc, ha, hl, c⟩ := w; exact ⟨D, acc, rfl, nD, ha, hl, c⟩)⟩
    exact ⟨hw _, cw_turn (A := A i) (st D) w (by have := (List.getElem?_eq_some_iff.mp hi).1; omega) (fun o => he i x D o H1 (g0.trans g1) hD hi) fun acc y H2 o g2 i2 hl c2 ay => hc i x acc y H2 D o hi ((g0.trans g1).trans g2) i2 hl c2 ay⟩
/-- over range(n) -/
theorem lcR {lo : Int} {n : Nat} (C : Nat → List V → Hp → Prop) {D : Addr} (st : ∀ o i acc H1 H2, Gr (p.and D o) H1 H2 → C i acc H1 → C i acc H2) (hz : n < 16000000)
    (hw : ∀ x, wipe ((wipe σ vs).set j (some x)) vs = wipe σ vs) (c0 : ∀ H1, C 0 [] H1) {H1 : Hp} (i1 : Iv p H1) (hD : H1 D = none)
    (he : ∀ i o, i < n → Ev (p.and D o) te ((wipe σ vs).set j (some (.int (lo + (i : Nat))))) H1 (A i (p.and D o)))
    (hc : ∀ i acc y H2 o, i < n → Gr p H1 H2 → Iv (p.and D o) H2 → acc.length = i → C i acc H2 → (A i (p.and D o)).P y H2 → C (i + 1) (acc ++ [y]) H2) {Qd : Hp → Prop} (hd : ∀ H', Cw p H1 D C n H' → Qd H') :
    ∃ W : Nat → Nat → Hp → Prop, (∃ m, W 0 m (upd H1 D (.lst []))) ∧ ∀ i m H, W i m H →
      ((Itr lo n).stop i H ∧ Qd H) ∨ ((Itr lo n).go i H ∧ ∃ Nx : Hp → Prop, (∀ H', Nx H' → ∃ m', m' < m ∧ W (i + 1) m' H') ∧ ∀ x H', (Itr lo n).yld i H x H' → gName j x (wipe σ vs) H' fun σ2 H2 => wipe σ2 vs = wipe σ vs ∧ tYes σ2 H2 fun b H3 =>
        if b = true then te σ2 H3 fun y H4 => ∃ acc, H4 D = some (.lst acc) ∧ acc.length < sizeLine ∧ Nx (upd H4 D (.lst (acc ++ [y]))) else Nx H3) :=
  lc_range (lo := lo) (n := n) (Cw p H1 D C) (cw0 i1 hD (c0 _)) (fun i H' hi w => ⟨hw _, cw_turn (A := A i) st w (by omega) (fun o => he i o hi) fun acc y H2 o g2 i2 hl c2 ay => hc i acc y H2 o hi g2 i2 hl c2 ay⟩) hd
theorem lcR1 {n : Int} (hn0 : 0 ≤ n) (hn : n < 16000000) (C : Nat → List V → Hp → Prop) (hx : Ev p ta σ H (sx (.int n))) (st : ∀ D o i acc H1 H2, Gr (p.and D o) H1 H2 → C i acc H1 → C i acc H2) (st' : ∀ acc H1 H2, Gr p H1 H2 → C n.toNat acc H1 → C n.toNat acc H2)
    (hw : ∀ x, wipe ((wipe σ vs).set j (some x)) vs = wipe σ vs) (c0 : ∀ H1, C 0 [] H1)
    (he : ∀ (i : Nat) D o H1, Gr p H H1 → H1 D = none → i < n.toNat → Ev (p.and D o) te ((wipe σ vs).set j (some (.int (0 + (i : Nat))))) H1 (A i (p.and D o)))
    (hc : ∀ i acc y H2 D o, i < n.toNat → Gr p H H2 → Iv (p.and D o) H2 → acc.length = i → C i acc H2 → (A i (p.and D o)).P y H2 → C (i + 1) (acc ++ [y]) H2) :
    Ev p (tLc (iRng1 (tCons ta tNil)) (gName j) tYes te vs) σ H (sC C n.toNat st') := fun H0 i0 g0 Q q =>
  hx H0 i0 g0 _ fun v H1 i1 g1 e => ⟨n, by rw [show v = .int n from e], by omega, by omega, fun D hD => lcR (lo := 0) (A := A) C (st D) (by omega) hw c0 i1 hD (fun i o hi => he i D o H1 (g0.trans g1) hD hi) (fun i acc y H2 o hi g2 i2 hl c2 ay => hc i acc y H2 D o hi ((g0.trans g1).trans g2) i2 hl c2 ay)
    fun H' w => q _ H' w.1 (g1.trans w.2.2.2.1) (by obtain ⟨_, _, nD, _, acc, ha, hl, c⟩ := w; exact ⟨D, acc, rfl, nD, ha, hl, c⟩)⟩
end

/-! ### defs by their names -/
/-- a def of the module that may be called by its name: it keeps the promise sp, by at most level k -/
structure Ca (P : Program) (w : World) (K : PySem.W.Frag) (mg : Str → Option Value) (base : Heap) (k : Nat) (x : Str) (sp : Sp) : Prop where
  ex : ∃ (f : Addr) (fd : FuncData) (ps : List Str), FnOk P w K mg base CX0 k f fd ps sp ∧ mg x = some (.ref f) ∧ PySem.W.keepIn K (.ref f) = true ∧ Binds K fd ps []
/-- a def as the top leaves it -/
structure Df (K : PySem.W.Frag) (mg : Str → Option Value) (x : Str) (st : Stmt) : Prop where
  ex : ∃ (f : Addr) (fd : FuncData), Fun K x x st f fd ∧ mg x = some (.ref f)
section
variable {X : Cx} {k : Nat} {x : Str} {sp : Sp} {p pos : Pos} {e : Expr} {es : List Expr} {t : TA}
theorem pe_ca (c : Ca X.prog X.w X.K X.mg X.base k x sp) (hr : Room k X.A) (hg : Gl X x) (ha : PA X (e :: es) t)
    (hdb : (x == ("__debug__" : Str)) = false := by decide) (he : starEach (e :: es) X.env = (false, eval e X.env) :: starEach es X.env := by rfl) (hpl : (backTo pos (starEach es X.env)).any (·.1) = false := by rfl) :
    PE X (.Call (.Name x p) (e :: es) [] pos) (tCall sp [] E0 t) := by
  obtain ⟨f, fd, ps, F, hm, kp, b⟩ := c.ex
  exact pe_call F hr hg hm kp b .nil pass0 ha hdb he hpl
theorem pe_ca0 (c : Ca X.prog X.w X.K X.mg X.base k x sp) (hr : Room k X.A) (hg : Gl X x) (hdb : (x == ("__debug__" : Str)) = false := by decide) : PE X (.Call (.Name x p) [] [] pos) (tCall sp [] E0 tNil) := by
  obtain ⟨f, fd, ps, F, hm, kp, b⟩ := c.ex
  exact pe_call0 F hr hg hm kp b .nil pass0 hdb
end
section
variable {P : Program} {w : World} {K : PySem.W.Frag} {mg : Str → Option Value} {base : Heap}
theorem ca_mk {x : Str} {st : Stmt} {N ps : List Str} {k : Nat} {sp : Sp} (F : Df K mg x st) (S : FnScope N ps (defScope st))
    (hb : ∀ (kV doc pm : Value) (an : Option Addr) (cdv ct : Value) (us : List Value), us.length = ps.length → bindArgs (PySem.W.fnOf x x (defArgs st) (defBody st) (defScope st) .none kV doc pm an cdv ct) ⟨us, []⟩ = pure (ps.zip us))
    (len : ∀ vs H Q E, sp vs H Q E → vs.length = ps.length)
    (hbody : ∀ (f : Addr) (cdv : Value) (A : Around) (outer : List Env) (s : Shared) (H : Hp) (vs : List V) (Q : VK) (E : XK), Room k (A.deeper (envOfC x (defScope st) s.heap.objs.size f cdv)) → sp vs H Q E →
      ∃ t, PSs (cxOf CX0 P w K mg base N x (defScope st) f cdv A outer s H E).nox (defBody st) t ∧ t { nx := fun _ H' => Q .non H', rt := Q } (start N vs) H) : Ca P w K mg base (k + 1) x sp := by
  obtain ⟨f, fd, F, hm⟩ := F.ex
  exact ⟨f, fd, ps, F.ok S len (fun cdv A outer s H vs Q E hr h => hbody f cdv A outer s H vs Q E hr h), hm, F.kp, F.binds hb⟩
end
end Hk
namespace Hk
open PySem PySem.Spec PyProof.Rows L2

def rLenK (K : PySem.W.Frag) : List V → Hp → VK → Prop := fun xs H Q => ∃ x n, xs = [x] ∧ LenV K x H n ∧ Q (.int n) H
section
variable {p : Vo} {σ : L2.St} {H : Hp} {K : PySem.W.Frag} {te ta tb tc : TE} {tr : TA} {j : Nat} {vs : List Nat} {B C : Sy p} {v x y : V}
/-! ### comprehensions with known items -/
theorem take_turn {ys acc : List V} {i : Nat} {y : V} (h : acc = ys.take i) (hy : ys[i]? = some y) : acc ++ [y] = ys.take (i + 1) := by
  rw [h, List.take_add_one, hy]
  rfl
theorem slx_of {ys : List V} {n : Nat} (hn : n = ys.length) {st} {v : V} {H1 : Hp} (h : (sC (p := p) (fun i acc _ => acc = ys.take i) n st).P v H1) : (slx (p := p) ys).P v H1 := by
  obtain ⟨a, ws, e1, e2, e3, e4, e5⟩ := h
  refine ⟨a, ws, e1, e2, e3, ?_⟩
  rw [e5, hn, List.take_length]
theorem lcSx {z : Str} (f : Nat → V) (hx : Ev p ta σ H (sx (.str z))) (hz : z.cps.size < 16000000) (hw : ∀ x, wipe ((wipe σ vs).set j (some x)) vs = wipe σ vs)
    (he : ∀ (c : Nat) (q : Vo) H1, c ∈ z.cps.toList → Ev q te ((wipe σ vs).set j (some (.str ⟨#[c]⟩))) H1 (sx (f c))) : Ev p (tLc (iStr ta) (gName j) tYes te vs) σ H (slx (z.cps.toList.map f)) :=
  (lcS (A := fun i q => ⟨fun y _ => (z.cps.toList.map f)[i]? = some y, fun _ _ _ _ h => h⟩) (fun i acc _ => acc = (z.cps.toList.map f).take i) hx hz (fun _ _ _ _ _ _ _ h => h) (fun _ _ _ _ h => h) hw (fun _ => rfl)
    (fun i c D o hi => (he c _ H (List.mem_of_getElem? hi)).imp fun y _ e => by rw [show y = f c from e, List.getElem?_map, hi]; rfl) (fun i c acc y H1 D o hi g iv hl ha hy => take_turn ha hy)).imp fun v H1 h => slx_of (by rw [List.length_map, Array.length_toList]) h
theorem lcTx {xs ys : List V} (hx : Ev p ta σ H B) (hB : ∀ v H1, Gr p H H1 → B.P v H1 → ∃ a, v = .ref a ∧ Nv p a ∧ H1 a = some (.tup xs)) (hz : xs.length < 16000000) (hl : ys.length = xs.length) (hw : ∀ x, wipe ((wipe σ vs).set j (some x)) vs = wipe σ vs)
    (he : ∀ (i : Nat) (x y : V) D o H1, Gr p H H1 → H1 D = none → xs[i]? = some x → ys[i]? = some y → Ev (p.and D o) te ((wipe σ vs).set j (some x)) H1 (sx y)) : Ev p (tLc (iTup K ta) (gName j) tYes te vs) σ H (slx ys) :=
  (lcT (A := fun i q => ⟨fun y _ => ys[i]? = some y, fun _ _ _ _ h => h⟩) (fun i acc _ => acc = ys.take i) hx hB hz (fun _ _ _ _ _ _ _ h => h) (fun _ _ _ _ h => h) hw (fun _ => rfl)
    (fun i x D o H1 g hD hi => by
      have h2 : i < ys.length := by rw [hl]; exact (List.getElem?_eq_some_iff.mp hi).1
      exact (he i x ys[i] D o H1 g hD hi (List.getElem?_eq_getElem h2)).imp fun y _ e => by rw [show y = ys[i] from e]; exact List.getElem?_eq_getElem h2) (fun i c acc y H1 D o hi g iv hl ha hy => take_turn ha hy)).imp fun v H1 h => slx_of hl.symm h
theorem lcLx {xs ys : List V} (hx : Ev p ta σ H B) (hB : ∀ v H1, Gr p H H1 → B.P v H1 → ∃ a, v = .ref a ∧ Nv p a ∧ H1 a = some (.lst xs)) (hz : xs.length < 16000000) (hl : ys.length = xs.length) (hw : ∀ x, wipe ((wipe σ vs).set j (some x)) vs = wipe σ vs)
    (he : ∀ (i : Nat) (x y : V) D o H1, Gr p H H1 → H1 D = none → xs[i]? = some x → ys[i]? = some y → Ev (p.and D o) te ((wipe σ vs).set j (some x)) H1 (sx y)) : Ev p (tLc (iList K ta) (gName j) tYes te vs) σ H (slx ys) :=
  (lcL (A := fun i q => ⟨fun y _ => ys[i]? = some y, fun _ _ _ _ h => h⟩) (fun i acc _ => acc = ys.take i) hx hB hz (fun _ _ _ _ _ _ _ h => h) (fun _ _ _ _ h => h) hw (fun _ => rfl)
    (fun i x D o H1 g hD hi => by
      have h2 : i < ys.length := by rw [hl]; exact (List.getElem?_eq_some_iff.mp hi).1
      exact (he i x ys[i] D o H1 g hD hi (List.getElem?_eq_getElem h2)).imp fun y _ e => by rw [show y = ys[i] from e]; exact List.getElem?_eq_getElem h2) (fun i c acc y H1 D o hi g iv hl ha hy => take_turn ha hy)).imp fun v H1 h => slx_of hl.symm h
theorem x_all {bs : List Bool} (h : Ev p ta σ H (slx (bs.map V.bl))) : Ev p (tCB (rAll K) (tCons ta tNil)) σ H (sx (.bl (bs.all id))) := e_cb (a_cons h a_nil) fun vs H1 iv g os => by
  obtain ⟨v, ws, rfl, ⟨a, zs, rfl, na, ha, rfl⟩, rfl⟩ := os
  exact rv iv rfl fun Q q => ⟨a, bs, rfl, SqL.of ha, q⟩

/-! ### operations on known values -/
theorem x_inS {c : Nat} {z : Str} (ha : Ev p ta σ H (sx (.str ⟨#[c]⟩))) (hb : Ev p tb σ H (sx (.str z))) : Ev p (tOp (rInU K) ta tb) σ H (sx (.bl (decide (c ∈ z.cps.toList)))) :=
  e_op ha hb fun x y H1 iv g ex ey => rv iv rfl fun Q q => .inl ⟨c, z, ex, ey, q⟩
/-- x in, not in a list or a tuple of flat things -/
theorem x_inQ {xs : List V} (ha : Ev p ta σ H (sx v)) (hv : flatV v = true) (hb : Ev p tb σ H B) (hB : ∀ v H1, Gr p H H1 → B.P v H1 → ∃ a, v = .ref a ∧ (SqL K H1 a xs ∨ SqT K H1 a xs)) (hf : xs.all flatV = true) : Ev p (tOp (rInU K) ta tb) σ H (sx (.bl (inV v xs))) :=
  e_op ha hb fun x y H1 iv g ex ey => by
    obtain ⟨a, rfl, h⟩ := hB y H1 g ey
    obtain rfl : x = v := ex
    exact rv iv rfl fun Q q => .inr ⟨a, xs, rfl, h, hv, hf, q⟩
theorem x_ninQ {xs : List V} (ha : Ev p ta σ H (sx v)) (hv : flatV v = true) (hb : Ev p tb σ H B) (hB : ∀ v H1, Gr p H H1 → B.P v H1 → ∃ a, v = .ref a ∧ (SqL K H1 a xs ∨ SqT K H1 a xs)) (hf : xs.all flatV = true) : Ev p (tOp (rNinU K) ta tb) σ H (sx (.bl (!inV v xs))) :=
  e_op ha hb fun x y H1 iv g ex ey => by
    obtain ⟨a, rfl, h⟩ := hB y H1 g ey
    obtain rfl : x = v := ex
    exact rv iv rfl fun Q q => .inr ⟨a, xs, rfl, h, hv, hf, q⟩
theorem x_eq (ha : Ev p ta σ H (sx x)) (hb : Ev p tb σ H (sx y)) (hs : scal x y = true) : Ev p (tOp rEq ta tb) σ H (sx (.bl (decide (x = y)))) :=
  e_op ha hb fun x' y' H1 iv g ex ey => by
    obtain rfl : x' = x := ex
    obtain rfl : y' = y := ey
    exact rv iv rfl fun Q q => ⟨hs, q⟩
theorem x_ne (ha : Ev p ta σ H (sx x)) (hb : Ev p tb σ H (sx y)) (hs : scal x y = true) : Ev p (tOp rNe ta tb) σ H (sx (.bl (!decide (x = y)))) :=
  e_op ha hb fun x' y' H1 iv g ex ey => by
    obtain rfl : x' = x := ex
    obtain rfl : y' = y := ey
    exact rv iv rfl fun Q q => ⟨hs, q⟩
theorem x_ii {g : Int → Int → V} {i j : Int} (ha : Ev p ta σ H (sx (.int i))) (hb : Ev p tb σ H (sx (.int j))) : Ev p (tOp (rI0 g) ta tb) σ H (sx (g i j)) :=
  e_op ha hb fun x' y' H1 iv gg ex ey => rv iv rfl fun Q q => ⟨i, j, ex, ey, q⟩
theorem x_ic {c : Int → Int → Prop} {g : Int → Int → V} {i j : Int} (ha : Ev p ta σ H (sx (.int i))) (hb : Ev p tb σ H (sx (.int j))) (hc : c i j) : Ev p (tOp (rI c g) ta tb) σ H (sx (g i j)) :=
  e_op ha hb fun x' y' H1 iv gg ex ey => rv iv rfl fun Q q => ⟨i, j, ex, ey, hc, q⟩
theorem x_addI {i j : Int} (ha : Ev p ta σ H (sx (.int i))) (hb : Ev p tb σ H (sx (.int j))) : Ev p (tOp rAddU ta tb) σ H (sx (.int (i + j))) :=
  e_op ha hb fun x' y' H1 iv gg ex ey => rv iv rfl fun Q q => .inl ⟨i, j, ex, ey, q⟩
theorem x_addS {i j : Str} (ha : Ev p ta σ H (sx (.str i))) (hb : Ev p tb σ H (sx (.str j))) (hz : i.length + j.length ≤ sizeLine) : Ev p (tOp rAddU ta tb) σ H (sx (.str (i ++ j))) :=
  e_op ha hb fun x' y' H1 iv gg ex ey => rv iv rfl fun Q q => .inr (.inl ⟨i, j, ex, ey, hz, q⟩)
theorem x_neg {i : Int} (ha : Ev p ta σ H (sx (.int i))) : Ev p (tUn (rU fun i => .int (-i)) ta) σ H (sx (.int (-i))) := e_un ha fun x H1 iv g e => rv iv rfl fun Q q => ⟨i, e, q⟩
theorem x_len {s : Str} (ha : Ev p ta σ H (sx (.str s))) (hz : s.length ≤ sizeLine) : Ev p (tCB (rLenK K) (tCons ta tNil)) σ H (sx (.int s.length)) := e_cb (a_cons ha a_nil) fun vs H1 iv g os => by
  obtain ⟨v, ws, rfl, rfl, rfl⟩ := os
  exact rv iv rfl fun Q q => ⟨_, _, rfl, ⟨hz, rfl⟩, q⟩
theorem x_lenQ {xs : List V} (ha : Ev p ta σ H B) (hB : ∀ v H1, Gr p H H1 → B.P v H1 → ∃ a, v = .ref a ∧ (SqL K H1 a xs ∨ SqT K H1 a xs)) : Ev p (tCB (rLenK K) (tCons ta tNil)) σ H (sx (.int xs.length)) := e_cb (a_cons ha a_nil) fun vs H1 iv g os => by
  obtain ⟨v, ws, rfl, hv, rfl⟩ := os
  obtain ⟨a, rfl, h⟩ := hB v H1 g hv
  exact rv iv rfl fun Q q => ⟨_, _, rfl, h.elim (fun h => .inl ⟨xs, h, rfl⟩) fun h => .inr ⟨xs, h, rfl⟩, q⟩
theorem x_isi {a b : String} {r : Bool} (ha : Ev p ta σ H (sx v)) (ht : ∀ H1, Gr p H H1 → TyX K H1 v (.type a)) (hr : kitB a b = some r) : Ev p (tCB (rIsi K) (tCons ta (tCons (tC (.ty b)) tNil))) σ H (sx (.bl r)) :=
  e_cb (a_cons ha (a_cons e_cx a_nil)) fun vs H1 iv g os => by
    obtain ⟨v', ws, rfl, ev, c, ws', rfl, ec, rfl⟩ := os
    obtain rfl : v' = v := ev
    obtain rfl : c = .ty b := ec
    exact rv iv rfl fun Q q => ⟨_, _, _, _, _, rfl, .ty b, ht H1 g, kit_ty hr, q⟩
theorem x_isN (ha : Ev p ta σ H (sx x)) : Ev p (tOp (fun x y H Q => y = .non ∧ Q (.bl (decide (x = .non))) H) ta (tC .non)) σ H (sx (.bl (decide (x = .non)))) :=
  e_op ha e_cx fun x' y' H1 iv g ex ey => by
    obtain rfl : x' = x := ex
    exact rv iv rfl fun Q q => ⟨ey, q⟩
/-- an item of a text, of a list, of a tuple -/
theorem x_ixS {s : Str} {i : Int} {c : Nat} (ha : Ev p ta σ H (sx (.str s))) (hb : Ev p tb σ H (sx (.int i))) (hz : s.length ≤ sizeLine) (hc : atI s.cps.toList i = some c) : Ev p (tOp (rIx K) ta tb) σ H (sx (.str ⟨#[c]⟩)) :=
  e_op ha hb fun x' y' H1 iv g ex ey => rv iv rfl fun Q q => .inr (.inr ⟨s, i, c, ex, ey, hz, hc, q⟩)
theorem x_ixQ {xs : List V} {i : Int} (ha : Ev p ta σ H B) (hB : ∀ v H1, Gr p H H1 → B.P v H1 → ∃ a, v = .ref a ∧ (SqL K H1 a xs ∨ SqT K H1 a xs)) (hb : Ev p tb σ H (sx (.int i))) (hc : atI xs i = some v) : Ev p (tOp (rIx K) ta tb) σ H (sx v) :=
  e_op ha hb fun x' y' H1 iv g ex ey => by
    obtain ⟨a, rfl, h⟩ := hB x' H1 g ex
    exact rv iv rfl fun Q q => h.elim (fun h => .inl ⟨a, xs, i, v, rfl, ey, h, hc, q⟩) fun h => .inr (.inl ⟨a, xs, i, v, rfl, ey, h, hc, q⟩)
/-- a part of a text -/
theorem x_slS {s : Str} {tl th : TO} {lo hi : Option Int} (ha : Ev p ta σ H (sx (.str s))) (hl : ∀ H (Q : Option Int → Hp → Prop), Q lo H → tl σ H Q) (hh : ∀ H (Q : Option Int → Hp → Prop), Q hi H → th σ H Q) (hz : s.length ≤ sizeLine) : Ev p (tSl (rSlU K) ta tl th) σ H (sx (.str (cutS s lo hi))) :=
  fun H1 i g Q q => ha H1 i g _ fun v H2 i2 g2 e => hl H2 _ (hh H2 _ (.inr ⟨s, e, hz, q _ H2 i2 g2 rfl⟩))
/-- a part of a tuple, not the whole of it: a new one -/
theorem x_slT {xs : List V} {tl th : TO} {lo hi : Option Int} (ha : Ev p ta σ H B) (hB : ∀ v H1, Gr p H H1 → B.P v H1 → ∃ a, v = .ref a ∧ SqT K H1 a xs) (hl : ∀ H (Q : Option Int → Hp → Prop), Q lo H → tl σ H Q) (hh : ∀ H (Q : Option Int → Hp → Prop), Q hi H → th σ H Q) (hn : ¬ (HT.sIx xs.length 0 lo = 0 ∧ HT.sIx xs.length xs.length hi = xs.length)) :
    Ev p (tSl (rSlU K) ta tl th) σ H (stx (cutV xs lo hi)) :=
  fun H1 i g Q q => ha H1 i g _ fun v H2 i2 g2 e => by
    obtain ⟨a, rfl, h⟩ := hB v H2 (g.trans g2) e
    exact hl H2 _ (hh H2 _ (.inl ⟨a, xs, rfl, h, hn, fun b hb => q _ _ (i2.new hb) (g2.trans (Gr.new hb)) ⟨b, _, rfl, i2.ne hb, upd_same, rfl⟩⟩))
theorem o_none {H : Hp} {Q : Option Int → Hp → Prop} (q : Q none H) : tNoPart σ H Q := q
theorem o_int {i : Int} {H : Hp} {Q : Option Int → Hp → Prop} (q : Q (some i) H) : tPart (tC (.int i)) σ H Q := ⟨i, rfl, q⟩
theorem o_var {i : Int} {k : Nat} (h : σ[k]? = some (some (.int i))) {H : Hp} {Q : Option Int → Hp → Prop} (q : Q (some i) H) : tPart (tVar k) σ H Q := ⟨.int i, h, i, rfl, q⟩
/-- a display, its items known -/
def xs_ : List V → List (Sy p) := List.map sx
theorem oks_x : ∀ {ws vs : List V} {H : Hp}, Oks (p := p) (ws.map sx) vs H → vs = ws
  | [], _, _, h => h
  | w :: ws, _, _, ⟨v, us, h1, h2, h3⟩ => by rw [h1, oks_x h3, show v = w from h2]
theorem x_lst {ws : List V} (h : EvA p tr σ H (ws.map sx)) (hn : ws.length ≤ sizeLine) : Ev p (tLst tr) σ H (slx ws) := e_lst h (by rw [List.length_map]; exact hn) fun vs a H1 iv g os na ha => ⟨a, vs, rfl, na, ha, oks_x os⟩
theorem x_tup {ws : List V} (h : EvA p tr σ H (ws.map sx)) (hn : ws.length ≤ sizeLine) : Ev p (tTup tr) σ H (stx ws) := e_tup h (by rw [List.length_map]; exact hn) fun vs a H1 iv g os na ha => ⟨a, vs, rfl, na, ha, oks_x os⟩
/-- a call of a def that keeps all: its answer known -/
def Pu (sp : Sp) (vs : List V) (H : Hp) (v : V) : Prop := ∀ (Q : VK) (E : XK), (∀ H', Gr Vo.non H H' → Q v H') → sp vs H Q E
theorem x_call {sp : Sp} {ws : List V} {v : V} (h : EvA p tr σ H (ws.map sx)) (hs : ∀ H1, Gr p H H1 → Pu sp ws H1 v) : Ev p (tCall sp [] E0 tr) σ H (sx v) := e_call h fun vs H1 iv g os => by
  rw [oks_x os]
  exact fun Q q => hs H1 g Q E0 fun H' e => q v H' (iv.grow e) e.pure rfl
theorem sq_l {xs : List V} : ∀ v H1, Gr p H H1 → (slx (p := p) xs).P v H1 → ∃ a, v = .ref a ∧ (SqL K H1 a xs ∨ SqT K H1 a xs) := fun v H1 _ ⟨a, ws, e1, _, e3, e4⟩ => ⟨a, e1, .inl (SqL.of (by rw [e3, e4]))⟩
theorem sq_t {xs : List V} : ∀ v H1, Gr p H H1 → (stx (p := p) xs).P v H1 → ∃ a, v = .ref a ∧ (SqL K H1 a xs ∨ SqT K H1 a xs) := fun v H1 _ ⟨a, ws, e1, _, e3, e4⟩ => ⟨a, e1, .inr (SqT.of (by rw [e3, e4]))⟩
theorem sq_k {xs : List V} {a : Addr} (h : ∀ H, SqT K H a xs) : ∀ v H1, Gr p H H1 → (sx (p := p) (.ref a)).P v H1 → ∃ a, v = .ref a ∧ (SqL K H1 a xs ∨ SqT K H1 a xs) := fun v H1 _ e => ⟨a, e, .inr (h H1)⟩
theorem sq_h {xs : List V} {a : Addr} (n : Nv p a) (h : H a = some (.tup xs)) : ∀ v H1, Gr p H H1 → (sx (p := p) (.ref a)).P v H1 → ∃ a, v = .ref a ∧ (SqL K H1 a xs ∨ SqT K H1 a xs) := fun v H1 g e => ⟨a, e, .inr (SqT.of (g a _ n h))⟩
end

/-! ### data -/
inductive D where
  | non | bl (b : Bool) | int (i : Int) | str (s : Str) | tup (ds : List D) | lst | dct
inductive Dat (p : Vo) (H : Hp) : V → D → Prop
  | non : Dat p H .non .non
  | bl (b : Bool) : Dat p H (.bl b) (.bl b)
  | int (i : Int) : Dat p H (.int i) (.int i)
  | str (s : Str) (hz : s.length ≤ 100000) : Dat p H (.str s) (.str s)
  | tup {a : Addr} {vs : List V} {ds : List D} (n : Nv p a) (h : H a = some (.tup vs)) (l : vs.length = ds.length) (hz : vs.length ≤ 100000) (r : ∀ (i : Nat) (v : V) (d : D), vs[i]? = some v → ds[i]? = some d → Dat p H v d) : Dat p H (.ref a) (.tup ds)
  | lst {a : Addr} {vs : List V} (n : Nv p a) (h : H a = some (.lst vs)) : Dat p H (.ref a) .lst
  | dct {a : Addr} {kvs : List (Key × V)} (n : Nv p a) (h : H a = some (.dK kvs)) : Dat p H (.ref a) .dct
theorem Dat.gr {p : Vo} {H H' : Hp} {v : V} {d : D} (x : Dat p H v d) (g : Gr p H H') : Dat p H' v d := by
  induction x with
  | non => exact .non
  | bl b => exact .bl b
  | int i => exact .int i
  | str s hz => exact .str s hz
  | tup n h l hz r ih => exact .tup n (g _ _ n h) l hz ih
  | lst n h => exact .lst n (g _ _ n h)
  | dct n h => exact .dct n (g _ _ n h)
theorem Dat.of {p q : Vo} {H : Hp} {v : V} {d : D} (x : Dat p H v d) (k : ∀ a, Nv p a → Nv q a) : Dat q H v d := by
  induction x with
  | non => exact .non
  | bl b => exact .bl b
  | int i => exact .int i
  | str s hz => exact .str s hz
  | tup n h l hz r ih => exact .tup (k _ n) h l hz ih
  | lst n h => exact .lst (k _ n) h
  | dct n h => exact .dct (k _ n) h
theorem Dat.non' {p : Vo} {H : Hp} {v : V} {d : D} (x : Dat p H v d) : Dat Vo.non H v d := x.of fun a _ => nv_non a
theorem Dat.and {p : Vo} {H : Hp} {v : V} {d : D} {E : Addr} {o : HO} (x : Dat p H v d) (e : H E = none) : Dat (p.and E o) H v d := by
  induction x with
  | non => exact .non
  | bl b => exact .bl b
  | int i => exact .int i
  | str s hz => exact .str s hz
  | tup n h l hz r ih => exact .tup (n.and (ne_of_none h e).symm) h l hz ih
  | lst n h => exact .lst (n.and (ne_of_none h e).symm) h
  | dct n h => exact .dct (n.and (ne_of_none h e).symm) h
theorem Dat.back {p : Vo} {H : Hp} {v : V} {d : D} {E : Addr} {o : HO} (x : Dat (p.and E o) H v d) : Dat p H v d := x.of fun a n => n.back
def D.ty : D → String
  | .non => "NoneType"
  | .bl _ => "bool"
  | .int _ => "int"
  | .str _ => "str"
  | .tup _ => "tuple"
  | .lst => "list"
  | .dct => "dict"
theorem Dat.tyx {p : Vo} {K : PySem.W.Frag} {H : Hp} {v : V} {d : D} (x : Dat p H v d) : TyX K H v (.type d.ty) := by
  cases x with
  | non => exact .base .non
  | bl b => exact .base (.bl b)
  | int i => exact .base (.int i)
  | str s hz => exact .base (.str s)
  | tup n h l hz r => exact .base (.tup h)
  | lst n h => exact .base (.lst h)
  | dct n h => exact .base (.dK h)
def D.isS : D → Bool
  | .str _ => true
  | _ => false
def D.isT : D → Bool
  | .tup _ => true
  | _ => false
def D.isB : D → Bool
  | .bl _ => true
  | _ => false
def D.isI : D → Bool
  | .int _ => true
  | .bl _ => true
  | _ => false
theorem kit_s (d : D) : kitB d.ty "str" = some d.isS := by cases d <;> (simp only [D.ty, D.isS]; decide +kernel)
theorem kit_t (d : D) : kitB d.ty "tuple" = some d.isT := by cases d <;> (simp only [D.ty, D.isT]; decide +kernel)
theorem kit_b (d : D) : kitB d.ty "bool" = some d.isB := by cases d <;> (simp only [D.ty, D.isB]; decide +kernel)
theorem kit_i (d : D) : kitB d.ty "int" = some d.isI := by cases d <;> (simp only [D.ty, D.isI]; decide +kernel)
/-- some datum | this datum -/
def sd (p : Vo) : Sy p := ⟨fun v H => ∃ d, Dat p H v d, fun v H H' g ⟨d, h⟩ => ⟨d, h.gr g⟩⟩
theorem x_isiD {p : Vo} {σ : L2.St} {H : Hp} {K : PySem.W.Frag} {ta : TE} {v : V} {d : D} {b : String} {r : Bool} (ha : Ev p ta σ H (sx v)) (hd : Dat p H v d) (hr : kitB d.ty b = some r) : Ev p (tCB (rIsi K) (tCons ta (tCons (tC (.ty b)) tNil))) σ H (sx (.bl r)) :=
  x_isi ha (fun H1 g => (hd.gr g).tyx) hr
end Hk
namespace Hk
open PySem PySem.Spec PyProof.Rows L2
section
variable {p : Vo} {σ : L2.St} {H : Hp} {K : PySem.W.Frag} {te ta tb tc : TE} {tr : TA} {j : Nat} {vs : List Nat} {B C : Sy p} {v x y : V}
theorem allS {z : Str} (f : Nat → Bool) (hx : Ev p ta σ H (sx (.str z))) (hz : z.length ≤ 100000) (hw : ∀ x, wipe ((wipe σ vs).set j (some x)) vs = wipe σ vs)
    (he : ∀ (c : Nat) (q : Vo) H1, c ∈ z.cps.toList → Ev q te ((wipe σ vs).set j (some (.str ⟨#[c]⟩))) H1 (sx (.bl (f c)))) : Ev p (tCB (rAll K) (tCons (tLc (iStr ta) (gName j) tYes te vs) tNil)) σ H (sx (.bl (z.cps.toList.all f))) := by
  have h := lcSx (vs := vs) (j := j) (te := te) (fun c => .bl (f c)) hx (by have : z.cps.size ≤ 100000 := hz; omega) hw he
  have e : z.cps.toList.map (fun c => V.bl (f c)) = (z.cps.toList.map f).map V.bl := by rw [List.map_map] <;> rfl
  rw [e] at h
  refine x_to (x_all h) ?_
  rw [List.all_map] <;> rfl
theorem allT {xs : List V} {ds : List D} (f : D → Bool) (hx : Ev p ta σ H B) (hB : ∀ v H1, Gr p H H1 → B.P v H1 → ∃ a, v = .ref a ∧ Nv p a ∧ H1 a = some (.tup xs)) (hz : xs.length ≤ 100000) (hl : xs.length = ds.length) (hw : ∀ x, wipe ((wipe σ vs).set j (some x)) vs = wipe σ vs)
    (he : ∀ (i : Nat) (x : V) (d : D) E o H1, Gr p H H1 → H1 E = none → xs[i]? = some x → ds[i]? = some d → Ev (p.and E o) te ((wipe σ vs).set j (some x)) H1 (sx (.bl (f d)))) : Ev p (tCB (rAll K) (tCons (tLc (iTup K ta) (gName j) tYes te vs) tNil)) σ H (sx (.bl (ds.all f))) := by
  have h := lcTx (K := K) (vs := vs) (j := j) (te := te) (ys := (ds.map f).map V.bl) hx hB (by omega) (by rw [List.length_map, List.length_map, hl]) hw fun i x y E o H1 g hE h1 h2 => by
    rw [List.getElem?_map, List.getElem?_map] at h2
    cases hd : ds[i]? with
    | none => rw [hd] at h2; cases h2
    | some d =>
      rw [hd] at h2
      have e : V.bl (f d) = y := Option.some.inj h2
      rw [← e]
      exact he i x d E o H1 g hE h1 hd
  refine x_to (x_all h) ?_
  rw [List.all_map] <;> rfl
theorem allL {xs : List V} {ds : List D} (f : D → Bool) (hx : Ev p ta σ H B) (hB : ∀ v H1, Gr p H H1 → B.P v H1 → ∃ a, v = .ref a ∧ Nv p a ∧ H1 a = some (.lst xs)) (hz : xs.length ≤ 100000) (hl : xs.length = ds.length) (hw : ∀ x, wipe ((wipe σ vs).set j (some x)) vs = wipe σ vs)
    (he : ∀ (i : Nat) (x : V) (d : D) E o H1, Gr p H H1 → H1 E = none → xs[i]? = some x → ds[i]? = some d → Ev (p.and E o) te ((wipe σ vs).set j (some x)) H1 (sx (.bl (f d)))) : Ev p (tCB (rAll K) (tCons (tLc (iList K ta) (gName j) tYes te vs) tNil)) σ H (sx (.bl (ds.all f))) := by
  have h := lcLx (K := K) (vs := vs) (j := j) (te := te) (ys := (ds.map f).map V.bl) hx hB (by omega) (by rw [List.length_map, List.length_map, hl]) hw fun i x y E o H1 g hE h1 h2 => by
    rw [List.getElem?_map, List.getElem?_map] at h2
    cases hd : ds[i]? with
    | none => rw [hd] at h2; cases h2
    | some d =>
      rw [hd] at h2
      have e : V.bl (f d) = y := Option.some.inj h2
      rw [← e]
      exact he i x d E o H1 g hE h1 hd
  refine x_to (x_all h) ?_
  rw [List.all_map] <;> rfl
theorem big {n : Nat} (h : n ≤ 100000) : n ≤ sizeLine := by rw [sizeLine_eq]; omega
theorem x_leI {i j : Int} (ha : Ev p ta σ H (sx (.int i))) (hb : Ev p tb σ H (sx (.int j))) : Ev p (tOp rLeU ta tb) σ H (sx (.bl (decide (i ≤ j)))) :=
  e_op ha hb fun x' y' H1 iv gg ex ey => rv iv rfl fun Q q => .inl ⟨i, j, ex, ey, q⟩
theorem x_leS {i j : Str} (ha : Ev p ta σ H (sx (.str i))) (hb : Ev p tb σ H (sx (.str j))) : Ev p (tOp rLeU ta tb) σ H (sx (.bl (!decide (j.cps.toList < i.cps.toList)))) :=
  e_op ha hb fun x' y' H1 iv gg ex ey => rv iv rfl fun Q q => .inr ⟨i, j, ex, ey, q⟩
/-- chains over known values -/
theorem x_chainI {r r' : R2} {i j k : Int} {g g' : Int → Int → Bool} (ha : Ev p ta σ H (sx (.int i))) (hb : Ev p tb σ H (sx (.int j))) (hc : Ev p tc σ H (sx (.int k)))
    (hr : ∀ H1, Iv p H1 → Rv p (r (.int i) (.int j)) H1 (sx (.bl (g i j)))) (hr' : ∀ H1, Iv p H1 → Rv p (r' (.int j) (.int k)) H1 (sx (.bl (g' j k)))) : Ev p (tChain r r' ta tb tc) σ H (sx (.bl (g i j && g' j k))) :=
  x_chain ha hb (fun _ => hc) (fun x y H1 iv gg ex ey => by rw [show x = _ from ex, show y = _ from ey]; exact hr H1 iv) fun _ y z H1 iv gg ey ez => by rw [show y = _ from ey, show z = _ from ez]; exact hr' H1 iv
theorem r_leI {i j : Int} {H1 : Hp} (iv : Iv p H1) : Rv p (rLeU (.int i) (.int j)) H1 (sx (.bl (decide (i ≤ j)))) := rv iv rfl fun Q q => .inl ⟨i, j, rfl, rfl, q⟩
theorem r_ltI {i j : Int} {H1 : Hp} (iv : Iv p H1) : Rv p (rI0 (fun i j => .bl (decide (i < j))) (.int i) (.int j)) H1 (sx (.bl (decide (i < j)))) := rv iv rfl fun Q q => ⟨i, j, rfl, rfl, q⟩
theorem r_leS {i j : Str} {H1 : Hp} (iv : Iv p H1) : Rv p (rLeU (.str i) (.str j)) H1 (sx (.bl (!decide (j.cps.toList < i.cps.toList)))) := rv iv rfl fun Q q => .inr ⟨i, j, rfl, rfl, q⟩
theorem x_chainS {r r' : R2} {i j k : Str} {g g' : Str → Str → Bool} (ha : Ev p ta σ H (sx (.str i))) (hb : Ev p tb σ H (sx (.str j))) (hc : Ev p tc σ H (sx (.str k)))
    (hr : ∀ H1, Iv p H1 → Rv p (r (.str i) (.str j)) H1 (sx (.bl (g i j)))) (hr' : ∀ H1, Iv p H1 → Rv p (r' (.str j) (.str k)) H1 (sx (.bl (g' j k)))) : Ev p (tChain r r' ta tb tc) σ H (sx (.bl (g i j && g' j k))) :=
  x_chain ha hb (fun _ => hc) (fun x y H1 iv gg ex ey => by rw [show x = _ from ex, show y = _ from ey]; exact hr H1 iv) fun _ y z H1 iv gg ey ez => by rw [show y = _ from ey, show z = _ from ez]; exact hr' H1 iv
/-- a chain as a test -/
theorem k_chain {r r' : R2} {a b : Bool} (h : Ev p (tChain r r' ta tb tc) σ H (sx (.bl (a && b)))) : Tis p (tTest (tChain r r' ta tb tc)) σ H (a && b) := k_test h
theorem x_ord {c : Nat} (ha : Ev p ta σ H (sx (.str ⟨#[c]⟩))) : Ev p (tCB (fun xs H Q => ∃ x : Str, xs = [.str x] ∧ x.length = 1 ∧ Q (.int (x.cps.getD 0 0 : Nat)) H) (tCons ta tNil)) σ H (sx (.int c)) := e_cb (a_cons ha a_nil) fun vs H1 iv g os => by
  obtain ⟨v, ws, rfl, rfl, rfl⟩ := os
  exact rv iv rfl fun Q q => ⟨⟨#[c]⟩, rfl, rfl, q⟩
/-- the ways of an if that end with a return each -/
theorem s_ifr {D : Ends} {t : TT} {te : TE} {b : Bool} {v : V} (iv : Iv p H) (h : Tis p t σ H b) (h1 : b = true → Ev p te σ H (sx v)) (k1 : b = true → ∀ H1, Iv p H1 → Gr p H H1 → D.rt v H1) (k2 : b = false → ∀ H1, Iv p H1 → Gr p H H1 → D.nx σ H1) : tIfS t (tRet te) tNext D σ H :=
  s_ifx iv h (fun e H1 i g => s_ret i ((h1 e).mono g) fun w H2 i2 g2 ew => by rw [show w = v from ew]; exact k1 e H2 i2 (g.trans g2)) fun e H1 i g => k2 e H1 i g
theorem s_retx {D : Ends} {te : TE} {v : V} (iv : Iv p H) (h : Ev p te σ H (sx v)) (k : ∀ H1, Iv p H1 → Gr p H H1 → D.rt v H1) : tRet te D σ H := s_ret iv h fun w H1 i g e => by rw [show w = v from e]; exact k H1 i g
/-- the same with what follows -/
theorem q_ifr {D : Ends} {t : TT} {te : TE} {u : TS} {b : Bool} {v : V} (iv : Iv p H) (h : Tis p t σ H b) (h1 : b = true → Ev p te σ H (sx v)) (k1 : b = true → ∀ H1, Iv p H1 → Gr p H H1 → D.rt v H1) (k2 : b = false → ∀ H1, Iv p H1 → Gr p H H1 → u D σ H1) : tSeq (tIfS t (tRet te) tNext) u D σ H :=
  s_ifr (D := { D with nx := u D }) iv h h1 k1 k2
theorem q_ifS {D : Ends} {t : TT} {te : TE} {u : TS} {b : Bool} {A : Sy p} (iv : Iv p H) (h : Tis p t σ H b) (h1 : b = true → Ev p te σ H A) (k1 : b = true → ∀ v H1, Iv p H1 → Gr p H H1 → A.P v H1 → D.rt v H1) (k2 : b = false → ∀ H1, Iv p H1 → Gr p H H1 → u D σ H1) : tSeq (tIfS t (tRet te) tNext) u D σ H :=
  s_ifx (D := { D with nx := u D }) iv h (fun e H1 i g => s_ret i ((h1 e).mono g) fun w H2 i2 g2 ew => k1 e w H2 i2 (g.trans g2) ew) fun e H1 i g => k2 e H1 i g
theorem q_asg {D : Ends} {te : TE} {u : TS} {i : Nat} {A : Sy p} (iv : Iv p H) (h : Ev p te σ H A) (k : ∀ v H1, Iv p H1 → Gr p H H1 → A.P v H1 → u D (σ.set i (some v)) H1) : tSeq (tAsg te (gName i)) u D σ H :=
  s_asg (D := { D with nx := u D }) iv h k
theorem q_asgx {D : Ends} {te : TE} {u : TS} {i : Nat} {v : V} (iv : Iv p H) (h : Ev p te σ H (sx v)) (k : ∀ H1, Iv p H1 → Gr p H H1 → u D (σ.set i (some v)) H1) : tSeq (tAsg te (gName i)) u D σ H :=
  q_asg iv h fun w H1 i g e => by rw [show w = v from e]; exact k H1 i g
theorem q_if {D : Ends} {t : TT} {tu tw u : TS} {B : Bool → Prop} (iv : Iv p H) (h : EvT p t σ H B) (h1 : B true → ∀ H1, Iv p H1 → Gr p H H1 → tu { D with nx := u D } σ H1) (h2 : B false → ∀ H1, Iv p H1 → Gr p H H1 → tw { D with nx := u D } σ H1) : tSeq (tIfS t tu tw) u D σ H :=
  s_if (D := { D with nx := u D }) iv h h1 h2
end

/-! ### the rules that read the written part, with it by name -/
section
variable {X : Cx} {K : PySem.W.Frag}
theorem inU (h : X.K = K) : OpR X (compareOp .In) (rInU K) := h ▸ op_inU
theorem ninU (h : X.K = K) : OpR X (compareOp .NotIn) (rNinU K) := h ▸ op_ninU
theorem slU (h : X.K = K) : SlR X (rSlU K) := h ▸ sl_U
theorem ixU (h : X.K = K) : IxR X (rIx K) := h ▸ ix_seq
theorem lenU (h : X.K = K) : CallR X (.builtin "len") (rLenK K) := h ▸ call_len
theorem isiU (h : X.K = K) : CallR X (.builtin "isinstance") (rIsi K) := h ▸ call_isi
theorem allU (hc : X.calm = true) (h : X.K = K) : CallR X (.builtin "all") (rAll K) := h ▸ cr_all hc
theorem sortedU (h : X.K = K) : CallR X (.builtin "sorted") (rSortedS K) := h ▸ cr_sortedS
def rTupK (K : PySem.W.Frag) : List V → Hp → VK → Prop := fun xs H Q => ∃ p ys, xs = [.ref p] ∧ ((SqL K H p ys ∧ ∀ l, H l = none → Q (.ref l) (upd H l (.tup ys))) ∨ (SqT K H p ys ∧ Q (.ref p) H))
theorem tupU (h : X.K = K) : CallR X (.type "tuple") (rTupK K) := h ▸ call_tuple_of
theorem reprK (hg : X.A.guards = some []) (hu : X.A.units + 3 < cLine) (h : X.K = K) : CallR X (.builtin "repr") (rRepr K) := h ▸ call_reprU hg hu
end

/-- a constant of the module, by what it holds -/
theorem pe_gc {X : Cx} {x : Str} {v : V} {pos : Pos} (hg : Gl X x) (h : ∃ u, X.mg x = some u ∧ RelV v u) (hd : (x == ("__debug__" : Str)) = false := by decide) : PE X (.Name x pos) (tC v) := by
  obtain ⟨u, hm, r⟩ := h
  exact pe_glob hg hm r hd
end Hk
namespace Hk
open PySem PySem.Spec PyProof.Rows L2
/-! ### defs that draw from the pot: promised over whatever else may change -/
def spP (Ar : Addr → List V → Vo → Hp → Prop) (A : List V → ∀ p : Vo, Sy p) : Sp := fun vs H Q _ => ∃ p a, p.pot = some a ∧ Iv p H ∧ Ar a vs p H ∧ ∀ v H', Iv p H' → Gr p H H' → (A vs p).P v H' → Q v H'
section
variable {p : Vo} {σ : L2.St} {H : Hp} {K : PySem.W.Frag} {te ta tb tc : TE} {tr : TA} {j : Nat} {vs : List Nat} {A B C : Sy p} {v x y : V} {a : Addr}
theorem e_callP {Ar : Addr → List V → Vo → Hp → Prop} {F : List V → ∀ p : Vo, Sy p} {As : List (Sy p)} (hp : p.pot = some a) (h : EvA p tr σ H As) (ho : ∀ vs H1, Gr p H H1 → Iv p H1 → Oks As vs H1 → Ar a vs p H1 ∧ ∀ v H2, (F vs p).P v H2 → B.P v H2) : Ev p (tCall (spP Ar F) [] E0 tr) σ H B := e_call h fun vs H1 iv g os Q q => by
  obtain ⟨h1, h2⟩ := ho vs H1 g iv os
  exact ⟨p, a, hp, iv, h1, fun v H' i' g' h' => q v H' i' g' (h2 v H' h')⟩
/-- a draw below n -/
def arD : Addr → List V → Vo → Hp → Prop := fun a vs _ _ => ∃ n : Int, vs = [.ref a, .int n] ∧ 0 < n ∧ n < 1073741824
def rsD : List V → ∀ p : Vo, Sy p := fun vs p => si fun r => ∃ n, vs[1]? = some (.int n) ∧ 0 ≤ r ∧ r < n
abbrev spDraw : Sp := spP arD rsD
theorem e_draw {c : Int → Prop} (hp : p.pot = some a) (ha : Ev p ta σ H (sx (.ref a))) (hb : Ev p tb σ H (si c)) (hc : ∀ n, c n → 0 < n ∧ n < 1073741824) : Ev p (tCall spDraw [] E0 (tCons ta (tCons tb tNil))) σ H (si fun r => ∃ n, c n ∧ 0 ≤ r ∧ r < n) :=
  e_callP hp (a_cons ha (a_cons hb a_nil)) fun vs H1 g iv os => by
    obtain ⟨v, ws, rfl, ev, v2, ws2, rfl, ⟨n, rfl, hn⟩, rfl⟩ := os
    obtain rfl : v = .ref a := ev
    refine ⟨⟨n, rfl, (hc n hn).1, (hc n hn).2⟩, fun w H2 ⟨r, e, m, em, h0, h1⟩ => ⟨r, e, n, hn, h0, ?_⟩⟩
    have : V.int n = .int m := Option.some.inj em
    cases this
    exact h1
theorem e_drawN {n : Int} (hp : p.pot = some a) (ha : Ev p ta σ H (sx (.ref a))) (hb : Ev p tb σ H (sx (.int n))) (h0 : 0 < n) (h1 : n < 1073741824) : Ev p (tCall spDraw [] E0 (tCons ta (tCons tb tNil))) σ H (si fun r => 0 ≤ r ∧ r < n) :=
  (e_draw (c := fun m => m = n) hp ha (hb.imp fun v _ e => ⟨n, e, rfl⟩) fun m e => by rw [e]; exact ⟨h0, h1⟩).imp fun v _ ⟨r, e, m, em, h⟩ => ⟨r, e, by rw [← em]; exact h⟩
/-! ### items by a drawn place -/
theorem at_of {α : Type} {xs : List α} {i : Int} {k : Nat} {v : α} (e : i = (k : Int)) (h : xs[k]? = some v) : atI xs i = some v := by
  rw [e]
  exact atI_nat h
theorem at_in {ws : List V} {i : Int} (h0 : 0 ≤ i) (h1 : i < (ws.length : Int)) : ∃ v ∈ ws, atI ws i = some v := by
  have hk : i.toNat < ws.length := by omega
  exact ⟨ws[i.toNat], List.getElem_mem hk, at_of (k := i.toNat) (by omega) (List.getElem?_eq_getElem hk)⟩
theorem e_ixL {n : Int} {P : List V → Hp → Prop} {hP} (ha : Ev p ta σ H (sl P hP)) (hb : Ev p tb σ H (si fun r => 0 ≤ r ∧ r < n)) (hn : ∀ ws H1, P ws H1 → n ≤ (ws.length : Int)) (hv : ∀ ws v H1, P ws H1 → v ∈ ws → C.P v H1) : Ev p (tOp (rIx K) ta tb) σ H C :=
  e_op ha hb fun x y H1 iv g ⟨b, ws, e, nb, hb, hw⟩ ⟨i, ei, h0, h1⟩ => by
    obtain ⟨v, hm, hat⟩ := at_in h0 (show i < (ws.length : Int) by have := hn ws H1 hw; omega)
    exact rv iv (hv ws v H1 hw hm) fun Q q => .inl ⟨b, ws, i, v, e, ei, SqL.of hb, hat, q⟩
theorem e_ixS {n : Int} {s : Str} (ha : Ev p ta σ H (sx (.str s))) (hb : Ev p tb σ H (si fun r => 0 ≤ r ∧ r < n)) (hn : n ≤ (s.length : Int)) (hz : s.length ≤ 100000) : Ev p (tOp (rIx K) ta tb) σ H (ss fun z => z.length = 1) :=
  e_op ha hb fun x y H1 iv g ex ⟨i, ei, h0, h1⟩ => by
    have el : s.cps.toList.length = s.length := by rw [Array.length_toList]; rfl
    have hk : i.toNat < s.cps.toList.length := by omega
    have hat : atI s.cps.toList i = some s.cps.toList[i.toNat] := at_of (k := i.toNat) (by omega) (List.getElem?_eq_getElem hk)
    exact rv iv ⟨_, rfl, rfl⟩ fun Q q => .inr (.inr ⟨s, i, _, ex, ei, big hz, hat, q⟩)
theorem e_addS {c d : Nat} (ha : Ev p ta σ H (ss fun z => z.length ≤ c)) (hb : Ev p tb σ H (ss fun z => z.length ≤ d)) (hz : c + d ≤ 100000) : Ev p (tOp rAddU ta tb) σ H (ss fun z => z.length ≤ c + d) :=
  e_op ha hb fun x y H1 iv g ⟨z, ez, hz1⟩ ⟨z', ez', hz2⟩ => rv iv ⟨z ++ z', rfl, by show (z ++ z').length ≤ c + d; rw [Str.length_append]; exact Nat.add_le_add hz1 hz2⟩ fun Q q => .inr (.inl ⟨z, z', ez, ez', big (Nat.le_trans (Nat.add_le_add hz1 hz2) hz), q⟩)
theorem e_slS {s : Str} {tl th : TO} {lo hi : Option Int} (ha : Ev p ta σ H (sx (.str s))) (hl : ∀ H (Q : Option Int → Hp → Prop), Q lo H → tl σ H Q) (hh : ∀ H (Q : Option Int → Hp → Prop), Q hi H → th σ H Q) (hz : s.length ≤ 100000) : Ev p (tSl (rSlU K) ta tl th) σ H (ss fun z => z.length ≤ s.length) :=
  (x_slS ha hl hh (big hz)).imp fun v _ e => ⟨_, e, by
    unfold cutS
    show (((s.cps.toList.drop _).take _).toArray).size ≤ _
    rw [List.size_toArray, List.length_take, List.length_drop, Array.length_toList]
    exact Nat.le_trans (Nat.min_le_right _ _) (Nat.sub_le _ _)⟩
theorem e_ssx {s : Str} {c : Str → Prop} (h : Ev p ta σ H (sx (.str s))) (hc : c s) : Ev p ta σ H (ss c) := h.imp fun v _ e => ⟨s, e, hc⟩
theorem e_sxi {i : Int} {c : Int → Prop} (h : Ev p ta σ H (sx (.int i))) (hc : c i) : Ev p ta σ H (si c) := h.imp fun v _ e => ⟨i, e, hc⟩
theorem e_addI {c d e : Int → Prop} (ha : Ev p ta σ H (si c)) (hb : Ev p tb σ H (si d)) (hc : ∀ i j, c i → d j → e (i + j)) : Ev p (tOp rAddU ta tb) σ H (si e) :=
  e_op ha hb fun x y H1 iv g ⟨i, ei, hi⟩ ⟨j, ej, hj⟩ => rv iv ⟨i + j, rfl, hc i j hi hj⟩ fun Q q => .inl ⟨i, j, ei, ej, q⟩
/-! ### data, many -/
/-- a list of n data -/
def slD (p : Vo) (c : Nat → Prop) : Sy p := sl (fun ws H => c ws.length ∧ ∀ v ∈ ws, (sd p).P v H) fun ws H H' e h => ⟨h.1, fun v hv => (sd p).st v H H' e (h.2 v hv)⟩
def EvD (p : Vo) (ta : TA) (σ : L2.St) (H : Hp) (n : Nat) : Prop := ∀ H1, Iv p H1 → Gr p H H1 → ∀ Q : List V → Hp → Prop, (∀ vs H2, Iv p H2 → Gr p H1 H2 → vs.length = n → (∀ v ∈ vs, (sd p).P v H2) → Q vs H2) → ta σ H1 Q
theorem d_nil : EvD p tNil σ H 0 := fun H1 i _ _ q => q [] H1 i (Gr.refl H1) rfl fun v h => (nomatch h)
theorem d_cons {n : Nat} (h : Ev p te σ H (sd p)) (hr : EvD p tr σ H n) : EvD p (tCons te tr) σ H (n + 1) := fun H1 i g Q q =>
  h H1 i g _ fun x H2 i2 g2 ax => hr H2 i2 (g.trans g2) _ fun vs H3 i3 g3 hl os => q (x :: vs) H3 i3 (g2.trans g3) (by rw [List.length_cons, hl]) fun v hv => by
    rcases List.mem_cons.mp hv with e | e
    · rw [e]
      exact (sd p).st x _ _ g3 ax
    · exact os v e
theorem ds_of {H : Hp} : ∀ {ws : List V}, (∀ v ∈ ws, ∃ d, Dat p H v d) → ∃ ds : List D, ws.length = ds.length ∧ ∀ (i : Nat) (v : V) (d : D), ws[i]? = some v → ds[i]? = some d → Dat p H v d
  | [], _ => ⟨[], rfl, fun i v d h => by cases h⟩
  | w :: ws, h => by
    obtain ⟨d0, h0⟩ := h w List.mem_cons_self
    obtain ⟨ds, hl, hr⟩ := ds_of (ws := ws) fun v hv => h v (List.mem_cons_of_mem _ hv)
    refine ⟨d0 :: ds, by rw [List.length_cons, List.length_cons, hl], fun i v d h1 h2 => ?_⟩
    cases i with
    | zero =>
      have e1 : w = v := Option.some.inj h1
      have e2 : d0 = d := Option.some.inj h2
      rw [← e1, ← e2]
      exact h0
    | succ i => exact hr i v d h1 h2
theorem d_lst {n : Nat} (h : EvD p tr σ H n) (hn : n ≤ 100000) : Ev p (tLst tr) σ H (slD p fun m => m = n) := fun H1 i g Q q =>
  h H1 i g _ fun vs H2 i2 g2 hl os => ⟨by rw [hl]; exact big hn, fun b hb => q _ _ (i2.new hb) (g2.trans (Gr.new hb)) ⟨b, vs, rfl, i2.ne hb, upd_same, hl, fun v hv => (sd p).st v _ _ (Gr.new hb) (os v hv)⟩⟩
theorem d_tup {n : Nat} (h : EvD p tr σ H n) (hn : n ≤ 100000) : Ev p (tTup tr) σ H (sd p) := fun H1 i g Q q =>
  h H1 i g _ fun vs H2 i2 g2 hl os => ⟨by rw [hl]; exact big hn, fun b hb => q _ _ (i2.new hb) (g2.trans (Gr.new hb)) (by
    obtain ⟨ds, l, r⟩ := ds_of os
    exact ⟨.tup ds, .tup (i2.ne hb) upd_same l (by omega) fun i v d h1 h2 => (r i v d h1 h2).gr (Gr.new hb)⟩)⟩
theorem d_int {i : Int} (h : Ev p te σ H (sx (.int i))) : Ev p te σ H (sd p) := h.imp fun v H e => ⟨.int i, by rw [show v = _ from e]; exact .int i⟩
theorem d_c {v : V} {d : D} (h : ∀ H, Dat p H v d) : Ev p (tC v) σ H (sd p) := e_c ⟨d, h H⟩
theorem d_i {i : Int} : Ev p (tC (.int i)) σ H (sd p) := d_c fun H => .int i
theorem d_b {b : Bool} : Ev p (tC (.bl b)) σ H (sd p) := d_c fun H => .bl b
theorem d_n : Ev p (tC .non) σ H (sd p) := d_c fun H => .non
theorem d_s {s : Str} (hz : s.length ≤ 100000) : Ev p (tC (.str s)) σ H (sd p) := d_c fun H => .str s hz
theorem d_ss {c : Nat} (h : Ev p te σ H (ss fun z => z.length ≤ c)) (hc : c ≤ 100000) : Ev p te σ H (sd p) := h.imp fun v H ⟨z, e, hz⟩ => ⟨.str z, by rw [e]; exact .str z (by omega)⟩
theorem d_l {n : Nat} (h : EvD p tr σ H n) (hn : n ≤ 100000) : Ev p (tLst tr) σ H (sd p) := (d_lst h hn).imp fun v H ⟨b, ws, e, nb, hb, _⟩ => ⟨.lst, by rw [e]; exact .lst nb hb⟩
theorem d_cat {c d e : Nat → Prop} (ha : Ev p ta σ H (slD p c)) (hb : Ev p tb σ H (slD p d)) (hc : ∀ n m, c n → d m → e (n + m) ∧ n + m ≤ 100000) : Ev p (tOp rAddU ta tb) σ H (slD p e) :=
  e_op ha hb fun x y H1 iv g ⟨b, ws, e1, nb, h1, hl, hw⟩ ⟨b', ws', e2, nb', h2, hl', hw'⟩ => rv_new iv (o := .lst (ws ++ ws')) (fun q nq hq i' g' => ⟨q, _, rfl, nq, upd_same, by rw [List.length_append]; exact (hc _ _ hl hl').1, fun v hv => by
    rcases List.mem_append.mp hv with m | m
    · exact (sd p).st v _ _ g' (hw v m)
    · exact (sd p).st v _ _ g' (hw' v m)⟩) fun Q q => .inr (.inr ⟨b, b', ws, ws', e1, e2, h1, h2, big (hc _ _ hl hl').2, q⟩)
theorem d_ix {n : Int} {c : Nat → Prop} (ha : Ev p ta σ H (slD p c)) (hb : Ev p tb σ H (si fun r => 0 ≤ r ∧ r < n)) (hn : ∀ m, c m → n ≤ (m : Int)) : Ev p (tOp (rIx K) ta tb) σ H (sd p) :=
  e_ixL ha hb (fun ws H1 h => hn _ h.1) fun ws v H1 h m => h.2 v m
theorem d_tuple {c : Nat → Prop} (ha : Ev p ta σ H (slD p c)) (hc : ∀ m, c m → m ≤ 100000) : Ev p (tCB (rTupK K) (tCons ta tNil)) σ H (sd p) := e_cb (a_cons ha a_nil) fun vs H1 iv g os => by
  obtain ⟨v, us, rfl, ⟨b, ws, rfl, nb, h1, hl, hw⟩, rfl⟩ := os
  refine rv_new iv (o := .tup ws) (fun q nq hq i' g' => ?_) fun Q q => ⟨b, ws, rfl, .inl ⟨SqL.of h1, q⟩⟩
  obtain ⟨ds, l, r⟩ := ds_of hw
  exact ⟨.tup ds, .tup nq upd_same l (hc _ hl) fun i v d h1 h2 => (r i v d h1 h2).gr g'⟩
theorem d_var {i : Nat} (h : σ[i]? = some (some v)) (a : (sd p).P v H) : Ev p (tVar i) σ H (sd p) := e_var h a
/-- a comprehension over a range whose items are data -/
theorem d_lcR {N : Nat} (hx : Ev p ta σ H (si fun n => 0 ≤ n ∧ n ≤ (N : Int))) (hN : N ≤ 100000) (hw : ∀ x, wipe ((wipe σ vs).set j (some x)) vs = wipe σ vs)
    (he : ∀ (i : Nat) D o H1, Gr p H H1 → H1 D = none → Ev (p.and D o) te ((wipe σ vs).set j (some (.int (0 + (i : Nat))))) H1 (sd (p.and D o))) : Ev p (tLc (iRng1 (tCons ta tNil)) (gName j) tYes te vs) σ H (slD p fun m => m ≤ N) := fun H0 i0 g0 Q q =>
  hx H0 i0 g0 _ fun v H1 i1 g1 ⟨n, ev, n0, n1⟩ => ⟨n, by rw [ev], by omega, by omega, fun D hD => lcR (lo := 0) (A := fun _ q => sd q) (fun _ acc H => ∀ v ∈ acc, ∃ d, Dat (p.and D (.lst [])) H v d) (fun o i acc H2 H3 g h v hv => by
      obtain ⟨d, hd⟩ := h v hv
      exact ⟨d, (Dat.gr (hd.of fun b (nb : Nv (p.and D (.lst [])) b) => (nb.back.and nb.ne : Nv (p.and D o) b)) g).of fun b (nb : Nv (p.and D o) b) => nb.back.and nb.ne⟩)
    (by omega) hw (fun _ v h => (nomatch h)) i1 hD (fun i o hi => he i D o H1 (g0.trans g1) hD) (fun i acc y H2 o hi g2 i2 hl ha hy v hv => by
      rcases List.mem_append.mp hv with m | m
      · exact ha v m
      · obtain rfl := List.mem_singleton.mp m
        obtain ⟨d, hd⟩ := hy
        exact ⟨d, hd.of fun b (nb : Nv (p.and D o) b) => nb.back.and nb.ne⟩)
    fun H' w => q _ H' w.1 (g1.trans w.2.2.2.1) (by
      obtain ⟨_, _, nD, _, acc, ha, hl, c⟩ := w
      exact ⟨D, acc, rfl, nD, ha, by omega, fun v hv => by obtain ⟨d, hd⟩ := c v hv; exact ⟨d, hd.back⟩⟩)⟩
/-- .. whose items are texts of one sign -/
theorem s_lcR {N : Nat} {P : Str → Prop} (hx : Ev p ta σ H (si fun n => 0 ≤ n ∧ n ≤ (N : Int))) (hN : N ≤ 100000) (hw : ∀ x, wipe ((wipe σ vs).set j (some x)) vs = wipe σ vs)
    (he : ∀ (i : Nat) D o H1, Gr p H H1 → H1 D = none → Ev (p.and D o) te ((wipe σ vs).set j (some (.int (0 + (i : Nat))))) H1 (ss P)) : Ev p (tLc (iRng1 (tCons ta tNil)) (gName j) tYes te vs) σ H (sl (fun ws _ => ws.length ≤ N ∧ ∃ zs : List Str, ws = zs.map V.str ∧ ∀ z ∈ zs, P z) fun _ _ _ _ h => h) := fun H0 i0 g0 Q q =>
  hx H0 i0 g0 _ fun v H1 i1 g1 ⟨n, ev, n0, n1⟩ => ⟨n, by rw [ev], by omega, by omega, fun D hD => lcR (lo := 0) (A := fun _ q => ss P) (fun _ acc _ => ∃ zs : List Str, acc = zs.map V.str ∧ ∀ z ∈ zs, P z) (fun o i acc H2 H3 g h => h)
    (by omega) hw (fun _ => ⟨[], rfl, fun z h => (nomatch h)⟩) i1 hD (fun i o hi => he i D o H1 (g0.trans g1) hD) (fun i acc y H2 o hi g2 i2 hl ha hy => by
      obtain ⟨zs, rfl, hz⟩ := ha
      obtain ⟨z, rfl, hp⟩ := hy
      exact ⟨zs ++ [z], by rw [List.map_append]; rfl, fun t ht => (List.mem_append.mp ht).elim (hz t) fun m => by rw [List.mem_singleton.mp m]; exact hp⟩)
    fun H' w => q _ H' w.1 (g1.trans w.2.2.2.1) (by
      obtain ⟨_, _, nD, _, acc, ha, hl, c⟩ := w
      exact ⟨D, acc, rfl, nD, ha, by omega, c⟩)⟩
/-- a new list is handed back: it was not there -/
theorem s_retN {D : Ends} {As : List (Sy p)} (iv : Iv p H) (h : EvA p tr σ H As) (hn : As.length ≤ 100000) (k : ∀ vs b H1, Iv p H1 → Gr p H H1 → H1 b = none → Oks As vs H1 → D.rt (.ref b) (upd H1 b (.lst vs))) : tRet (tLst tr) D σ H :=
  h H iv (Gr.refl H) _ fun vs H1 i1 g1 os => ⟨by rw [os.len]; exact big hn, fun b hb => k vs b H1 i1 g1 hb os⟩
/-- an if that only stores, what follows proved once -/
theorem q_ifj {D : Ends} {t : TT} {tu u : TS} {B : Bool → Prop} (Mid : L2.St → Hp → Prop) (iv : Iv p H) (h : EvT p t σ H B) (h1 : ∀ N : L2.St → Hp → Prop, (∀ σ' H', Mid σ' H' → N σ' H') → B true → ∀ H1, Iv p H1 → Gr p H H1 → tu { D with nx := N } σ H1) (h2 : B false → ∀ H1, Iv p H1 → Gr p H H1 → Mid σ H1) (k : ∀ σ' H', Mid σ' H' → u D σ' H') : tSeq (tIfS t tu tNext) u D σ H :=
  s_if (D := { D with nx := u D }) iv h (fun b H1 i g => h1 (u D) k b H1 i g) fun b H1 i g => k _ _ (h2 b H1 i g)
end
end Hk
namespace Hk
open PySem PySem.Spec PyProof.Rows L2
/-! ### promises that hold where nothing is being shown (repr marks what it stands in): no guard around -/
structure FnG (P : Program) (w : World) (K : PySem.W.Frag) (mg : Str → Option Value) (base : Heap) (k : Nat) (f : Addr) (fd : FuncData) (ps : List Str) (sp : Sp) : Prop where
  len : ∀ vs H Q E, sp vs H Q E → vs.length = ps.length
  run : ∀ (A : Around) (st : List Env) (s : Shared) (H : Hp) (ag : Args) (us : List Value) (vs : List V) (Q : VK) (E : XK), A.guards = some [] → Room k A → Env0 P w K mg base A st s H → BindsTo s fd ag (ps.zip us) → Vals vs us → sp vs H Q E →
    codeAny (model P w) A (.call (.ref f) ag) (CR CX0 st P w H s Q E) s
section
variable {P : Program} {w : World} {K : PySem.W.Frag} {mg : Str → Option Value} {base : Heap} {k : Nat}
theorem fnG_mk {x q : Str} {st : Stmt} {f : Addr} {fd : FuncData} {N ps : List Str} {sp : Sp} (F : Fun K x q st f fd) (S : FnScope N ps (defScope st)) (len : ∀ vs H Q E, sp vs H Q E → vs.length = ps.length)
    (body : ∀ (cdv : Value) (A : Around) (outer : List Env) (s : Shared) (H : Hp) (vs : List V) (Q : VK) (E : XK), (A.deeper (envOfC q (defScope st) s.heap.objs.size f cdv)).guards = some [] → Room k (A.deeper (envOfC q (defScope st) s.heap.objs.size f cdv)) → sp vs H Q E →
      ∃ t, PSs (cxOf CX0 P w K mg base N q (defScope st) f cdv A outer s H E).nox (defBody st) t ∧ t { nx := fun _ H' => Q .non H', rt := Q } (start N vs) H) : FnG P w K mg base (k + 1) f fd ps sp := by
  obtain ⟨oc, od, kV, doc, pm, an, cdv, ct, osl, rfl, lk, hcd⟩ := F.ex
  constructor
  · exact len
  intro A outer s H ag us vs Q E hgd room e0 hb rel hsp
  have inK : K.In s.heap := e0.mod.kin.keeps fun b o z => (e0.bs b o z).1
  have kinds : ∀ y ∈ ps.zip us, (defScope st).names.lookup y.1 = some .local ∨ ((defScope st).names.lookup y.1 = some .cell ∧ ((cellsFrom (s.heap.objs.size + 1) (defScope st).names []).lookup y.1).isSome = true) := by
    rintro ⟨n, v⟩ hy
    exact (S.par n (List.of_mem_zip hy).1).elim Or.inl fun z => Or.inr ⟨z, PySem.W.cellsFrom_some _ _ _ (.inl z)⟩
  apply codeAny_call_function room.depth (inK _ _ lk) rfl S.co S.gen rfl (PySem.W.codeRec_of inK hcd) (hb _ _ _ _ ?_)
  apply wpAny_newFunctionEnv_cells S.kind kinds
  intro env henv s1 ent
  cases henv
  have nolim : s.heap.NoLimit := e0.mod.nolimit.keeps fun b o z => (e0.bs b o z).1
  refine And.intro (nolim.keeps ent.toInCall.keep) (codeAny_func ?_)
  obtain ⟨t, pt, tq⟩ := body cdv A outer s H vs Q E hgd (room.deeper _) hsp
  have inv := inv_start (CX := CX0) (E := E) S room.hd e0 (len _ _ _ _ hsp) rel ent
  refine wpAny_mono (pt.nox.run [] s1 (start N vs) H _ inv tq) ?_ (fun e s' z => z)
  intro fl s' z
  match fl, z with
  | .ret u, ⟨v, σ', H', J, rv, qq⟩ => exact ⟨v, H', J.os, J.bare, J.base, J.hok, rv, qq⟩
  | .next, ⟨σ', H', J, qq⟩ => exact ⟨V.non, H', J.os, J.bare, J.base, J.hok, rfl, qq⟩
  | .brk, ⟨_, _, _, qq⟩ => exact qq.elim
  | .cont, ⟨_, _, _, qq⟩ => exact qq.elim
/-- such a def, by its name -/
structure CaG (P : Program) (w : World) (K : PySem.W.Frag) (mg : Str → Option Value) (base : Heap) (k : Nat) (x : Str) (sp : Sp) : Prop where
  ex : ∃ (f : Addr) (fd : FuncData) (ps : List Str), FnG P w K mg base k f fd ps sp ∧ mg x = some (.ref f) ∧ PySem.W.keepIn K (.ref f) = true ∧ Binds K fd ps []
theorem caG_mk {x : Str} {st : Stmt} {N ps : List Str} {sp : Sp} (F : Df K mg x st) (S : FnScope N ps (defScope st))
    (hb : ∀ (kV doc pm : Value) (an : Option Addr) (cdv ct : Value) (us : List Value), us.length = ps.length → bindArgs (PySem.W.fnOf x x (defArgs st) (defBody st) (defScope st) .none kV doc pm an cdv ct) ⟨us, []⟩ = pure (ps.zip us))
    (len : ∀ vs H Q E, sp vs H Q E → vs.length = ps.length)
    (body : ∀ (f : Addr) (cdv : Value) (A : Around) (outer : List Env) (s : Shared) (H : Hp) (vs : List V) (Q : VK) (E : XK), (A.deeper (envOfC x (defScope st) s.heap.objs.size f cdv)).guards = some [] → Room k (A.deeper (envOfC x (defScope st) s.heap.objs.size f cdv)) → sp vs H Q E →
      ∃ t, PSs (cxOf CX0 P w K mg base N x (defScope st) f cdv A outer s H E).nox (defBody st) t ∧ t { nx := fun _ H' => Q .non H', rt := Q } (start N vs) H) : CaG P w K mg base (k + 1) x sp := by
  obtain ⟨f, fd, F, hm⟩ := F.ex
  exact ⟨f, fd, ps, fnG_mk F S len fun cdv A outer s H vs Q E hgd hr h => body f cdv A outer s H vs Q E hgd hr h, hm, F.kp, F.binds hb⟩
end
section
variable {X : Cx} {k : Nat} {x : Str} {sp : Sp} {p pos : Pos} {e : Expr} {es : List Expr} {t : TA}
theorem pe_cg (c : CaG X.prog X.w X.K X.mg X.base k x sp) (hgd : X.A.guards = some []) (hr : Room k X.A) (hg : Gl X x) (ha : PA X (e :: es) t)
    (hdb : (x == ("__debug__" : Str)) = false := by decide) (he : starEach (e :: es) X.env = (false, eval e X.env) :: starEach es X.env := by rfl) (hpl : (backTo pos (starEach es X.env)).any (·.1) = false := by rfl) :
    PE X (.Call (.Name x p) (e :: es) [] pos) (tCall sp [] E0 t) := by
  obtain ⟨f, fd, ps, F, hm, kp, b⟩ := c.ex
  constructor
  intro pins s σ H Q I h
  refine wpAny_Call_Name_kw (ld_glob I hg hm ?_ hdb)
  apply PySem.W.callWith_K (h₀ := X.base) I.ok.mod.kin kp _ he hpl
  refine thn (ha.run pos pins s σ H _ I h) ?_
  rintro us s1 ⟨vs, H1, I1, rel, qq⟩
  refine ⟨I1.kIn, wpAny_call (codeAny_mono (F.run X.A X.stack s1 H1 ⟨us, []⟩ (us ++ []) (vs ++ []) Q E0 hgd hr I1.env0 (b s1 us I1.kIn ?_) (rel.append .nil) qq) ?_)⟩
  · have := F.len _ _ _ _ qq
    rw [← this, List.length_append, List.length_append, rel.length]
    rfl
  · intro r s' z
    match r, z with
    | .error e, z => exact z.elim
    | .ok (.ret u), z => exact I1.after z
    | .ok .next, z => exact z.elim
    | .ok .brk, z => exact z.elim
    | .ok .cont, z => exact z.elim
end
end Hk
namespace Hk
open PySem PySem.Spec PyProof.Rows L2
/-! questions to a text that take nothing -/
section
variable {X : Cx} {o : Expr} {to : TE} {apos pos : Pos}
def rTx (f : Str → Bool) : V → List V → Hp → VK → Prop := fun x xs H Q => ∃ a, x = .str a ∧ xs = [] ∧ True ∧ Q (.bl (f a)) H
theorem mq_isascii : MtR X "str.isascii" (rTx Txt.isascii) :=
  mt0 (C := fun _ => True) (g := fun a => .bl (Txt.isascii a)) fun _ _ s _ _ h => PySem.SC.isascii (h _ s.toks rfl)
theorem mq_islower : MtR X "str.islower" (rTx Txt.islower) :=
  mt0 (C := fun _ => True) (g := fun a => .bl (Txt.islower a)) fun _ _ s _ _ h => PySem.SC.islower (h _ s.toks rfl)
theorem pe_isascii (ho : PE X o to) (hbase : attributeBase o "isascii" X.env (eval o X.env) = eval o X.env := by rfl) (hline : (apos.endLine == pos.line) = true := by rfl) :
    PE X (.Call (.Attribute o "isascii" apos) [] [] pos) (tM0 (rTx Txt.isascii) to) := pe_m0 F.slot_str_isascii F.type_str_isascii mq_isascii ho hbase hline
theorem pe_isalpha (ho : PE X o to) (hbase : attributeBase o "isalpha" X.env (eval o X.env) = eval o X.env := by rfl) (hline : (apos.endLine == pos.line) = true := by rfl) :
    PE X (.Call (.Attribute o "isalpha" apos) [] [] pos) (tM0 (rTx Txt.isalpha) to) := pe_m0 F.slot_str_isalpha F.type_str_isalpha mt_isalpha ho hbase hline
theorem pe_islower (ho : PE X o to) (hbase : attributeBase o "islower" X.env (eval o X.env) = eval o X.env := by rfl) (hline : (apos.endLine == pos.line) = true := by rfl) :
    PE X (.Call (.Attribute o "islower" apos) [] [] pos) (tM0 (rTx Txt.islower) to) := pe_m0 F.slot_str_islower F.type_str_islower mq_islower ho hbase hline
end
section
variable {p : Vo} {to : TE} {σ : L2.St} {H : Hp} {s : Str}
theorem x_tx {f : Str → Bool} (h : Ev p to σ H (sx (.str s))) : Ev p (tM0 (rTx f) to) σ H (sx (.bl (f s))) := fun H1 i g Q q =>
  h H1 i g _ fun v H2 i2 g2 e => ⟨⟨s, e⟩, s, e, rfl, trivial, q _ H2 i2 g2 rfl⟩
end
/-! a text of small letters, asked in another way -/
def az : List Nat := [97, 98, 99, 100, 101, 102, 103, 104, 105, 106, 107, 108, 109, 110, 111, 112, 113, 114, 115, 116, 117, 118, 119, 120, 121, 122]
def upT (c : Nat) : Bool := Unicode.isUpper c || Unicode.isTitle c
theorem az_one : ∀ c, c < 128 → (decide (c < 128) && (Unicode.isAlpha c && !upT c)) = decide (c ∈ az) := by decide +kernel
theorem az_low : ∀ c ∈ az, Unicode.isLower c = true := by decide +kernel
theorem az_lt : ∀ c ∈ az, c < 128 := by decide +kernel
theorem az_any (c : Nat) : (decide (c < 128) && (Unicode.isAlpha c && !upT c)) = decide (c ∈ az) := by
  by_cases h : c < 128
  · exact az_one c h
  · rw [decide_eq_false h, decide_eq_false fun e => h (az_lt c e)]; rfl
theorem az_all : ∀ l : List Nat, (l.all (fun c => decide (c < 128)) && (l.all Unicode.isAlpha && !l.any upT)) = l.all fun c => decide (c ∈ az)
  | [] => rfl
  | c :: r => by
    rw [List.all_cons, List.all_cons, List.any_cons, List.all_cons, ← az_all r, ← az_any c]
    generalize decide (c < 128) = a1
    generalize Unicode.isAlpha c = a2
    generalize upT c = a3
    generalize r.all (fun c => decide (c < 128)) = a4
    generalize r.all Unicode.isAlpha = a5
    generalize r.any upT = a6
    revert a1 a2 a3 a4 a5 a6
    decide
theorem az_text {s : Str} {r : Bool} (h : s.length > 0) : (Txt.isascii s && (Txt.isalpha s && (Txt.islower s && r))) = (s.cps.toList.all (fun c => decide (c ∈ az)) && r) := by
  have e := az_all s.cps.toList
  have hl : (s.cps.toList.all fun c => decide (c ∈ az)) = true → s.cps.toList.any Unicode.isLower = true := fun ha => by
    have h' : s.cps.toList ≠ [] := fun e' => by
      have : s.cps.toList.length = 0 := by rw [e']; rfl
      rw [Array.length_toList] at this
      exact absurd this (by have : s.length = s.cps.size := rfl; omega)
    obtain ⟨c, l, hc⟩ := List.exists_cons_of_ne_nil h'
    rw [hc, List.all_cons] at ha
    rw [hc, List.any_cons, az_low c (of_decide_eq_true (Bool.and_eq_true_iff.mp ha).1)]
    rfl
  rw [show Txt.isascii s = s.cps.toList.all (fun c => decide (c < 128)) from by unfold Txt.isascii; rw [← Array.all_toList],
    show Txt.isalpha s = s.cps.toList.all Unicode.isAlpha from by unfold Txt.isalpha; rw [← Array.all_toList, decide_eq_true h]; rfl,
    show Txt.islower s = (s.cps.toList.any Unicode.isLower && !s.cps.toList.any upT) from by unfold Txt.islower; rw [← Array.any_toList, ← Array.any_toList]; rfl]
  rw [← e] at hl ⊢
  revert hl
  generalize s.cps.toList.all (fun c => decide (c < 128)) = a1
  generalize s.cps.toList.all Unicode.isAlpha = a2
  generalize s.cps.toList.any Unicode.isLower = a3
  generalize s.cps.toList.any upT = a4
  revert a1 a2 a3 a4 r
  decide
end Hk
namespace K10
open PySem PySem.Spec PyProof.Rows L2 Hk
def top (i : Nat) : Stmt := PySem.Challenge.pw_heldover_k10_words_and_forms.main.body.getD i (.Pass ⟨0, 0, 0, 0⟩)
abbrev s_consists_of : Stmt := top 9
theorem sc_consists_of : FnScope ["text", "signs", "sign"] ["text", "signs"] (defScope s_consists_of) := ⟨rfl, rfl, rfl, by decide +kernel, rfl, by decide +kernel, by decide +kernel⟩
abbrev s_is_name : Stmt := top 10
theorem sc_is_name : FnScope ["value"] ["value"] (defScope s_is_name) := ⟨rfl, rfl, rfl, by decide +kernel, rfl, by decide +kernel, by decide +kernel⟩
abbrev s_is_tag : Stmt := top 11
theorem sc_is_tag : FnScope ["value"] ["value"] (defScope s_is_tag) := ⟨rfl, rfl, rfl, by decide +kernel, rfl, by decide +kernel, by decide +kernel⟩
abbrev s_is_decimal : Stmt := top 12
theorem sc_is_decimal : FnScope ["text", "most"] ["text", "most"] (defScope s_is_decimal) := ⟨rfl, rfl, rfl, by decide +kernel, rfl, by decide +kernel, by decide +kernel⟩
abbrev s_is_label : Stmt := top 13
theorem sc_is_label : FnScope ["value"] ["value"] (defScope s_is_label) := ⟨rfl, rfl, rfl, by decide +kernel, rfl, by decide +kernel, by decide +kernel⟩
abbrev s_is_task_string : Stmt := top 14
theorem sc_is_task_string : FnScope ["value", "sign"] ["value"] (defScope s_is_task_string) := ⟨rfl, rfl, rfl, by decide +kernel, rfl, by decide +kernel, by decide +kernel⟩
abbrev s_operands_of : Stmt := top 19
theorem sc_operands_of : FnScope ["expression", "word"] ["expression"] (defScope s_operands_of) := ⟨rfl, rfl, rfl, by decide +kernel, rfl, by decide +kernel, by decide +kernel⟩
abbrev s_has_levels : Stmt := top 20
theorem sc_has_levels : FnScope ["value", "levels", "operands", "operand"] ["value", "levels"] (defScope s_has_levels) := ⟨rfl, rfl, rfl, by decide +kernel, rfl, by decide +kernel, by decide +kernel⟩
abbrev s_is_expression : Stmt := top 21
theorem sc_is_expression : FnScope ["value"] ["value"] (defScope s_is_expression) := ⟨rfl, rfl, rfl, by decide +kernel, rfl, by decide +kernel, by decide +kernel⟩
abbrev s__law_pot : Stmt := top 23
theorem sc__law_pot : FnScope ["_law_script", "_law_index", "_law_cell"] ["_law_script", "_law_index"] (defScope s__law_pot) := ⟨rfl, rfl, rfl, by decide +kernel, rfl, by decide +kernel, by decide +kernel⟩
abbrev s__law_draw : Stmt := top 24
theorem sc__law_draw : FnScope ["_law_pot_here", "_law_bound", "_law_digit"] ["_law_pot_here", "_law_bound"] (defScope s__law_draw) := ⟨rfl, rfl, rfl, by decide +kernel, rfl, by decide +kernel, by decide +kernel⟩
abbrev s__law_choice : Stmt := top 25
theorem sc__law_choice : FnScope ["_law_pot_here", "_law_options"] ["_law_pot_here", "_law_options"] (defScope s__law_choice) := ⟨rfl, rfl, rfl, by decide +kernel, rfl, by decide +kernel, by decide +kernel⟩
abbrev s__law_reserved : Stmt := top 26
theorem sc__law_reserved : FnScope ["_law_words"] [] (defScope s__law_reserved) := ⟨rfl, rfl, rfl, by decide +kernel, rfl, by decide +kernel, by decide +kernel⟩
abbrev s__law_name_right : Stmt := top 27
theorem sc__law_name_right : FnScope ["_law_word_here", "_law_small", "_law_sign"] ["_law_word_here"] (defScope s__law_name_right) := ⟨rfl, rfl, rfl, by decide +kernel, rfl, by decide +kernel, by decide +kernel⟩
abbrev s__law_tag_right : Stmt := top 28
theorem sc__law_tag_right : FnScope ["_law_word_here", "_law_small", "_law_sign"] ["_law_word_here"] (defScope s__law_tag_right) := ⟨rfl, rfl, rfl, by decide +kernel, rfl, by decide +kernel, by decide +kernel⟩
abbrev s__law_label_right : Stmt := top 29
theorem sc__law_label_right : FnScope ["_law_word_here", "_law_number"] ["_law_word_here"] (defScope s__law_label_right) := ⟨rfl, rfl, rfl, by decide +kernel, rfl, by decide +kernel, by decide +kernel⟩
abbrev s__law_task_right : Stmt := top 30
theorem sc__law_task_right : FnScope ["_law_word_here", "_law_sign"] ["_law_word_here"] (defScope s__law_task_right) := ⟨rfl, rfl, rfl, by decide +kernel, rfl, by decide +kernel, by decide +kernel⟩
abbrev s__law_count : Stmt := top 31
theorem sc__law_count : FnScope ["_law_word_here"] ["_law_word_here"] (defScope s__law_count) := ⟨rfl, rfl, rfl, by decide +kernel, rfl, by decide +kernel, by decide +kernel⟩
abbrev s__law_form_right : Stmt := top 32
theorem sc__law_form_right : FnScope ["_law_value", "_law_deep", "_law_most", "_law_parts", "_law_one"] ["_law_value", "_law_deep"] (defScope s__law_form_right) := ⟨rfl, rfl, rfl, by decide +kernel, rfl, by decide +kernel, by decide +kernel⟩
abbrev s__law_letters : Stmt := top 33
theorem sc__law_letters : FnScope ["_law_pot_here", "_law_most", "_law_letters_here", "_law_turn"] ["_law_pot_here", "_law_most"] (defScope s__law_letters) := ⟨rfl, rfl, rfl, by decide +kernel, rfl, by decide +kernel, by decide +kernel⟩
abbrev s__law_word : Stmt := top 34
theorem sc__law_word : FnScope ["_law_pot_here", "_law_way", "_law_word_here", "_law_at", "_law_sign"] ["_law_pot_here"] (defScope s__law_word) := ⟨rfl, rfl, rfl, by decide +kernel, rfl, by decide +kernel, by decide +kernel⟩
abbrev s__law_leaf : Stmt := top 35
theorem sc__law_leaf : FnScope ["_law_pot_here", "_law_most", "_law_some"] ["_law_pot_here"] (defScope s__law_leaf) := ⟨rfl, rfl, rfl, by decide +kernel, rfl, by decide +kernel, by decide +kernel⟩
abbrev s__law_tree : Stmt := top 36
theorem sc__law_tree : FnScope ["_law_pot_here", "_law_deep", "_law_word_here", "_law_many", "_law_parts", "_law_turn"] ["_law_pot_here", "_law_deep"] (defScope s__law_tree) := ⟨rfl, rfl, rfl, by decide +kernel, rfl, by decide +kernel, by decide +kernel⟩
abbrev s__law_others : Stmt := top 37
theorem sc__law_others : FnScope ["_law_deep", "_law_turn", "_law_some"] [] (defScope s__law_others) := ⟨rfl, rfl, rfl, by decide +kernel, rfl, by decide +kernel, by decide +kernel⟩
abbrev s__law_nested : Stmt := top 38
theorem sc__law_nested : FnScope ["_law_many", "_law_found", "_law_turn"] ["_law_many"] (defScope s__law_nested) := ⟨rfl, rfl, rfl, by decide +kernel, rfl, by decide +kernel, by decide +kernel⟩
abbrev s__law_told_right : Stmt := top 39
theorem sc__law_told_right : FnScope ["_law_value", "_law_told", "_law_due"] ["_law_value"] (defScope s__law_told_right) := ⟨rfl, rfl, rfl, by decide +kernel, rfl, by decide +kernel, by decide +kernel⟩
abbrev s_law : Stmt := top 40
theorem sc_law : FnScope ["_law_script", "_law_k", "_law_pot_here", "_law_word_here", "_law_tree_here", "_law_value"] ["_law_script"] (defScope s_law) := ⟨rfl, rfl, rfl, by decide +kernel, rfl, by decide +kernel, by decide +kernel⟩
def wsR : List Str := (["add", "and", "ask", "become", "bool", "both", "break", "call", "case", "div", "door", "else", "false", "function", "if", "int", "key", "kind", "less", "local", "loop", "match", "mod", "module", "mul", "not", "on", "or", "raise", "receive", "return", "same", "self", "send", "set", "since", "sleep", "start", "sub", "task", "true", "try", "uses"] : List String).map Str.ofString
def wsP : List Str := (["add", "sub", "mul", "div", "mod", "less", "same", "and", "or"] : List String).map Str.ofString
def sSmall : Str := "abcdefghijklmnopqrstuvwxyz"
def sLarge : Str := "ABCDEFGHIJKLMNOPQRSTUVWXYZ"
def sDig : Str := "0123456789"
def tooLong : Int := 10 ^ 250
def frees : List Str := (["all", "isinstance", "len", "abs", "max", "min", "divmod", "ord", "repr", "sorted", "int", "str", "bool", "tuple", "range", "list", "dict"] : List String).map Str.ofString
structure En (K : PySem.W.Frag) (mg : Str → Option Value) : Prop where
  fr : ∀ {x : Str}, frees.elem x = true → mg x = none
  c_small_letters : ∃ u, mg "SMALL_LETTERS" = some u ∧ RelV (.str sSmall) u
  c_large_letters : ∃ u, mg "LARGE_LETTERS" = some u ∧ RelV (.str sLarge) u
  c_digits : ∃ u, mg "DIGITS" = some u ∧ RelV (.str sDig) u
  c_longest_word : ∃ u, mg "LONGEST_WORD" = some u ∧ RelV (.int 8) u
  c_label_digits : ∃ u, mg "LABEL_DIGITS" = some u ∧ RelV (.int 2) u
  c_longest_task_string : ∃ u, mg "LONGEST_TASK_STRING" = some u ∧ RelV (.int 200) u
  c_levels : ∃ u, mg "LEVELS" = some u ∧ RelV (.int 5) u
  c_too_long : ∃ u, mg "TOO_LONG" = some u ∧ RelV (.int tooLong) u
  c_reserved : ∃ u, mg "RESERVED" = some u ∧ RelV (.ref (He.ga K "RESERVED")) u
  c_barred_codes : ∃ u, mg "BARRED_CODES" = some u ∧ RelV (.ref (He.ga K "BARRED_CODES")) u
  c_pair_operators : ∃ u, mg "PAIR_OPERATORS" = some u ∧ RelV (.ref (He.ga K "PAIR_OPERATORS")) u
  t_reserved : ∀ H, SqT K H (He.ga K "RESERVED") (wsR.map V.str)
  t_barred : ∀ H, SqT K H (He.ga K "BARRED_CODES") [.int 34, .int 37, .int 92]
  t_pair : ∀ H, SqT K H (He.ga K "PAIR_OPERATORS") (wsP.map V.str)
end K10
namespace K10
open PySem PySem.Spec PyProof.Rows L2 Hk
section
variable {P : Program} {w : World} {K : PySem.W.Frag} {mg : Str → Option Value} {base : Heap}
def allIn (t z : Str) : Bool := t.cps.toList.all fun c => decide (c ∈ z.cps.toList)
def spCons : Sp := fun vs H Q _ => ∃ t z : Str, vs = [.str t, .str z] ∧ t.length ≤ 100000 ∧ ∀ H', Gr Vo.non H H' → Q (.bl (allIn t z)) H'
theorem ok_consists_of (E : En K mg) (F : Df K mg "consists_of" s_consists_of) : Ca P w K mg base 1 "consists_of" spCons := by
  refine ca_mk F sc_consists_of (fun _ _ _ _ _ _ us hl => match us, hl with | [_, _], _ => rfl) (fun vs H Q E h => by obtain ⟨t, z, rfl, _⟩ := h; rfl) (fun f cdv A outer s H vs Q E' hr h => ?_)
  obtain ⟨t, z, rfl, hz, q⟩ := h
  refine ⟨_, (pss_one (ps_ret (pe_callB (allU (K := K) rfl rfl) (by rfl) (E.fr (x := "all") (by decide +kernel)) (by decide +kernel) (pa_cons (pe_lc (own := [("sign", 2)]) (g := gName 2) (tt := tYes) rfl sc_consists_of.nd (pi_str (pv 0)) (blkOk_by (own := [("sign", 2)]) (N := ["text", "signs", "sign"]) (sc := defScope s_consists_of) (by decide +kernel)) (fun _ _ _ _ _ => pg_name (i := 2) sc_consists_of.nd rfl (Or.inl rfl)) (fun _ _ _ _ _ => pts_nil) (fun _ _ _ _ _ => (pe_cmpR (inU (K := K) rfl) (pv 2) (pv 1) (by rfl)))) pa_nil)))), ?_⟩
  exact s_ret (Iv.non H) (allS (fun c => decide (c ∈ z.cps.toList)) (e_vx rfl) hz (fun _ => rfl) fun c q H1 hc => x_inS (e_vx rfl) (e_vx rfl)) fun v H1 _ g e => by
    rw [show v = _ from e]
    exact q H1 g
end
end K10
namespace K10
open PySem PySem.Spec PyProof.Rows L2 Hk
section
variable {P : Program} {w : World} {K : PySem.W.Frag} {mg : Str → Option Value} {base : Heap}
def spD1 (f : D → Bool) : Sp := fun vs H Q _ => ∃ v d, vs = [v] ∧ Dat Vo.non H v d ∧ ∀ H', Gr Vo.non H H' → Q (.bl (f d)) H'
theorem spD1_len {f : D → Bool} : ∀ vs H Q E, spD1 f vs H Q E → vs.length = 1 := fun vs H Q E h => by obtain ⟨v, d, rfl, _⟩ := h; rfl
theorem pu_D1 {f : D → Bool} {v : V} {d : D} {H : Hp} (h : Dat Vo.non H v d) : Pu (spD1 f) [v] H (.bl (f d)) := fun Q E k => ⟨v, d, rfl, h, k⟩
theorem pu_cons {t z : Str} {H : Hp} (h : t.length ≤ 100000) : Pu spCons [.str t, .str z] H (.bl (allIn t z)) := fun Q E k => ⟨t, z, rfl, h, k⟩
theorem dat_str {p : Vo} {H : Hp} {v : V} {d : D} (h : Dat p H v d) (e : d.isS = true) : ∃ s, v = .str s ∧ d = .str s ∧ s.length ≤ 100000 := by
  cases h with
  | str s hz => exact ⟨s, rfl, rfl, hz⟩
  | _ => cases e
def lenIn (s : Str) : Bool := decide ((1 : Int) ≤ (s.length : Int)) && decide ((s.length : Int) ≤ 8)
def isName (s : Str) : Bool := lenIn s && (allIn s sSmall && !inV (.str s) (wsR.map V.str))
def nameD : D → Bool
  | .str s => isName s
  | _ => false
theorem nameD_no {d : D} (h : d.isS = false) : nameD d = false := by cases d <;> first | rfl | cases h
theorem flat_strs (ws : List Str) : (ws.map V.str).all flatV = true := by
  rw [List.all_map]
  exact List.all_eq_true.mpr fun _ _ => rfl
theorem small_az : sSmall.cps.toList = az := by decide +kernel
theorem name_asked {s : Str} {r : Bool} (h : lenIn s = true) : (Txt.isascii s && (Txt.isalpha s && (Txt.islower s && r))) = (allIn s sSmall && r) := by
  have hp : s.length > 0 := by
    have := of_decide_eq_true (Bool.and_eq_true_iff.mp h).1
    omega
  rw [az_text hp]
  show _ = ((s.cps.toList.all fun c => decide (c ∈ sSmall.cps.toList)) && r)
  rw [small_az]
theorem ok_is_name (E : En K mg) (F : Df K mg "is_name" s_is_name) (c_consists_of : Ca P w K mg base 1 "consists_of" spCons) : Ca P w K mg base 2 "is_name" (spD1 nameD) := by
  refine ca_mk F sc_is_name (fun _ _ _ _ _ _ us hl => match us, hl with | [_], _ => rfl) spD1_len (fun f cdv A outer s H vs Q E' hr h => ?_)
  obtain ⟨v, d, rfl, hd, q⟩ := h
  refine ⟨_, (pss_cons (ps_if (PW.pt (pw_or (pt_not (pt_val (pe_callB (isiU (K := K) rfl) (by rfl) (E.fr (x := "isinstance") (by decide +kernel)) (by decide +kernel) (pa_cons (pv 0) (pa_cons (pe_bltn (by rfl) (E.fr (x := "str") (by decide +kernel)) (by decide +kernel) (show RelV (.ty "str") (.type "str") from rfl)) pa_nil))))) (pw_or1 (pt_not (pt_chain op_leU op_leU pe_int (pe_callB (lenU (K := K) rfl) (by rfl) (E.fr (x := "len") (by decide +kernel)) (by decide +kernel) (pa_cons (pv 0) pa_nil)) (pe_gc (by rfl) E.c_longest_word)))))) (pss_one (ps_ret pe_bl)) pss_nil)
      (pss_one (ps_ret (pe_and (pe_isascii (pv 0)) (pe_and (pe_isalpha (pv 0)) (pe_and (pe_islower (pv 0)) (pe_one (pe_cmpR (ninU (K := K) rfl) (pv 0) (pe_gc (by rfl) E.c_reserved) (by rfl))))))))), ?_⟩
  cases hS : d.isS with
  | false =>
    refine q_ifr (v := .bl false) (Iv.non H) (k_to (k_or (b := true) (k_not (k_b (x_isiD (e_vx rfl) hd (kit_s d)))) fun e => absurd e (by rw [hS]; decide)) (b := true) (by rw [hS]; rfl)) (fun _ => e_cx) (fun _ H1 _ g => ?_) (fun e => nomatch e)
    have := q H1 g
    rw [nameD_no hS] at this
    exact this
  | true =>
    obtain ⟨s, rfl, rfl, hz⟩ := dat_str hd hS
    refine q_ifr (v := .bl false) (b := !(lenIn s)) (Iv.non H) (k_to (k_or (k_not (k_b (x_isiD (e_vx rfl) hd (kit_s _)))) fun _ => k_not (k_chain (x_chainI (i := 1) (k := 8) (g := fun i j => decide (i ≤ j)) (g' := fun i j => decide (i ≤ j)) e_cx (x_len (e_vx rfl) (big hz)) e_cx (fun H1 iv => r_leI iv) (fun H1 iv => r_leI iv)))) rfl) (fun _ => e_cx) (fun e H1 _ g => ?_) (fun e H1 i1 g => ?_)
    · have := q H1 g
      rw [show nameD (.str s) = false from by show (lenIn s && _) = false; rw [(Bool.not_eq_true' _).mp e]; rfl] at this
      exact this
    · have hl : lenIn s = true := by cases hh : lenIn s <;> rw [hh] at e <;> first | rfl | cases e
      refine s_retx i1 (x_and (x_tx (s := s) (e_vx rfl)) fun _ => x_and (x_tx (s := s) (e_vx rfl)) fun _ => x_and (x_tx (s := s) (e_vx rfl)) fun _ => x_ninQ (v := .str s) (e_vx rfl) rfl e_cx (sq_k E.t_reserved) (flat_strs _)) fun H2 _ g2 => ?_
      have := q H2 (g.trans g2)
      rw [name_asked hl]
      rw [show nameD (.str s) = (allIn s sSmall && !inV (.str s) (wsR.map V.str)) from by show (lenIn s && _) = _; rw [hl]; rfl] at this
      exact this
end
end K10
namespace K10
open PySem PySem.Spec PyProof.Rows L2 Hk
section
variable {P : Program} {w : World} {K : PySem.W.Frag} {mg : Str → Option Value} {base : Heap}
def hd0 (s : Str) : Nat := s.cps.toList.headD 0
theorem at0 {s : Str} (h : 1 ≤ s.length) : atI s.cps.toList 0 = some (hd0 s) := by
  refine atI_nat (j := 0) ?_
  have e : s.cps.toList.length = s.length := by rw [Array.length_toList]; rfl
  unfold hd0
  cases hh : s.cps.toList with
  | nil => rw [hh] at e; rw [← e] at h; exact absurd h (by decide)
  | cons a r => rfl
theorem lenIn_1 {s : Str} (h : lenIn s = true) : 1 ≤ s.length := by
  unfold lenIn at h
  simp only [Bool.and_eq_true, decide_eq_true_eq] at h
  omega
def isTag (s : Str) : Bool := lenIn s && (decide (hd0 s ∈ sLarge.cps.toList) && allIn (cutS s (some 1) none) sSmall)
def tagD : D → Bool
  | .str s => isTag s
  | _ => false
theorem tagD_no {d : D} (h : d.isS = false) : tagD d = false := by cases d <;> first | rfl | cases h
theorem cutS_len (s : Str) (lo hi : Option Int) : (cutS s lo hi).length ≤ s.length := by
  unfold cutS
  show (((s.cps.toList.drop _).take _).toArray).size ≤ _
  rw [List.size_toArray, List.length_take, List.length_drop, Array.length_toList]
  exact Nat.le_trans (Nat.min_le_right _ _) (Nat.sub_le _ _)
theorem ok_is_tag (E : En K mg) (F : Df K mg "is_tag" s_is_tag) (c_consists_of : Ca P w K mg base 1 "consists_of" spCons) : Ca P w K mg base 2 "is_tag" (spD1 tagD) := by
  refine ca_mk F sc_is_tag (fun _ _ _ _ _ _ us hl => match us, hl with | [_], _ => rfl) spD1_len (fun f cdv A outer s H vs Q E' hr h => ?_)
  obtain ⟨v, d, rfl, hd, q⟩ := h
  refine ⟨_, (pss_cons (ps_if (PW.pt (pw_or (pt_not (pt_val (pe_callB (isiU (K := K) rfl) (by rfl) (E.fr (x := "isinstance") (by decide +kernel)) (by decide +kernel) (pa_cons (pv 0) (pa_cons (pe_bltn (by rfl) (E.fr (x := "str") (by decide +kernel)) (by decide +kernel) (show RelV (.ty "str") (.type "str") from rfl)) pa_nil))))) (pw_or1 (pt_not (pt_chain op_leU op_leU pe_int (pe_callB (lenU (K := K) rfl) (by rfl) (E.fr (x := "len") (by decide +kernel)) (by decide +kernel) (pa_cons (pv 0) pa_nil)) (pe_gc (by rfl) E.c_longest_word)))))) (pss_one (ps_ret pe_bl)) pss_nil)
      (pss_one (ps_ret (pe_and (pe_cmpR (inU (K := K) rfl) (pe_ix (ixU (K := K) rfl) (pv 0) pe_int (fun _ _ => rfl)) (pe_gc (by rfl) E.c_large_letters) (by rfl)) (pe_one (pe_ca c_consists_of (hr.mono (by first | decide | omega)) (by rfl) (pa_cons (pe_slice (slU (K := K) rfl) (pv 0) (po_some pe_int) po_none) (pa_cons (pe_gc (by rfl) E.c_small_letters) pa_nil)))))))), ?_⟩
  cases hS : d.isS with
  | false =>
    refine q_ifr (v := .bl false) (Iv.non H) (k_to (k_or (b := true) (k_not (k_b (x_isiD (e_vx rfl) hd (kit_s d)))) fun e => absurd e (by rw [hS]; decide)) (b := true) (by rw [hS]; rfl)) (fun _ => e_cx) (fun _ H1 _ g => ?_) (fun e => nomatch e)
    have := q H1 g
    rw [tagD_no hS] at this
    exact this
  | true =>
    obtain ⟨s, rfl, rfl, hz⟩ := dat_str hd hS
    refine q_ifr (v := .bl false) (b := !(lenIn s)) (Iv.non H) (k_to (k_or (k_not (k_b (x_isiD (e_vx rfl) hd (kit_s _)))) fun _ => k_not (k_chain (x_chainI (i := 1) (k := 8) (g := fun i j => decide (i ≤ j)) (g' := fun i j => decide (i ≤ j)) e_cx (x_len (e_vx rfl) (big hz)) e_cx (fun H1 iv => r_leI iv) (fun H1 iv => r_leI iv)))) rfl) (fun _ => e_cx) (fun e H1 _ g => ?_) (fun e H1 i1 g => ?_)
    · have := q H1 g
      rw [show tagD (.str s) = false from by show (lenIn s && _) = false; rw [(Bool.not_eq_true' _).mp e]; rfl] at this
      exact this
    · have hl : lenIn s = true := by cases hh : lenIn s <;> rw [hh] at e <;> first | rfl | cases e
      refine s_retx i1 (x_and (x_inS (x_ixS (c := hd0 s) (e_vx rfl) e_cx (big hz) (at0 (lenIn_1 hl))) e_cx) fun _ => x_call (a_cons (x_slS (lo := some 1) (hi := none) (e_vx rfl) (fun _ _ q => o_int q) (fun _ _ q => o_none q) (big hz)) (a_cons e_cx a_nil)) fun H2 g2 => pu_cons (Nat.le_trans (cutS_len _ _ _) hz)) fun H2 _ g2 => ?_
      have := q H2 (g.trans g2)
      rw [show tagD (.str s) = (decide (hd0 s ∈ sLarge.cps.toList) && allIn (cutS s (some 1) none) sSmall) from by show (lenIn s && _) = _; rw [hl]; rfl] at this
      exact this
def lenTo (s : Str) (m : Int) : Bool := decide ((1 : Int) ≤ (s.length : Int)) && decide ((s.length : Int) ≤ m)
def isDec (s : Str) (m : Int) : Bool := (lenTo s m && allIn s sDig) && (decide (V.str s = V.str "0") || !decide (V.str ⟨#[hd0 s]⟩ = V.str "0"))
def spDec : Sp := fun vs H Q _ => ∃ (t : Str) (m : Int), vs = [.str t, .int m] ∧ t.length ≤ 100000 ∧ ∀ H', Gr Vo.non H H' → Q (.bl (isDec t m)) H'
theorem pu_dec {t : Str} {m : Int} {H : Hp} (h : t.length ≤ 100000) : Pu spDec [.str t, .int m] H (.bl (isDec t m)) := fun Q E k => ⟨t, m, rfl, h, k⟩
theorem ok_is_decimal (E : En K mg) (F : Df K mg "is_decimal" s_is_decimal) (c_consists_of : Ca P w K mg base 1 "consists_of" spCons) : Ca P w K mg base 2 "is_decimal" spDec := by
  refine ca_mk F sc_is_decimal (fun _ _ _ _ _ _ us hl => match us, hl with | [_, _], _ => rfl) (fun vs H Q E h => by obtain ⟨t, z, rfl, _⟩ := h; rfl) (fun f cdv A outer s H vs Q E' hr h => ?_)
  obtain ⟨t, m, rfl, hz, q⟩ := h
  refine ⟨_, (pss_cons (ps_if (PW.pt (pw_or (pt_not (pt_chain op_leU op_leU pe_int (pe_callB (lenU (K := K) rfl) (by rfl) (E.fr (x := "len") (by decide +kernel)) (by decide +kernel) (pa_cons (pv 0) pa_nil)) (pv 1))) (pw_or1 (pt_not (pt_val (pe_ca c_consists_of (hr.mono (by first | decide | omega)) (by rfl) (pa_cons (pv 0) (pa_cons (pe_gc (by rfl) E.c_digits) pa_nil)))))))) (pss_one (ps_ret pe_bl)) pss_nil)
      (pss_one (ps_ret (pe_or (pe_cmpR op_eq (pv 0) pe_str (nomark _)) (pe_one (pe_cmpR op_ne (pe_ix (ixU (K := K) rfl) (pv 0) pe_int (fun _ _ => rfl)) pe_str (nomark _))))))), ?_⟩
  refine q_ifr (v := .bl false) (b := !(lenTo t m) || !(allIn t sDig)) (Iv.non H) (k_or (k_not (k_chain (x_chainI (i := 1) (k := m) (g := fun i j => decide (i ≤ j)) (g' := fun i j => decide (i ≤ j)) e_cx (x_len (e_vx rfl) (big hz)) (e_vx rfl) (fun H1 iv => r_leI iv) (fun H1 iv => r_leI iv)))) fun _ => k_not (k_b (x_call (a_cons (e_vx rfl) (a_cons e_cx a_nil)) fun H2 g2 => pu_cons hz))) (fun _ => e_cx) (fun e H1 _ g => ?_) (fun e H1 i1 g => ?_)
  · have := q H1 g
    rw [show isDec t m = false from by
      unfold isDec
      cases h1 : lenTo t m <;> cases h2 : allIn t sDig <;> rw [h1, h2] at e <;> first | rfl | cases e] at this
    exact this
  · have h12 : lenTo t m = true ∧ allIn t sDig = true := by
      cases h1 : lenTo t m <;> cases h2 : allIn t sDig <;> rw [h1, h2] at e <;> first | exact ⟨rfl, rfl⟩ | cases e
    have l1 : 1 ≤ t.length := by
      have h := h12.1
      unfold lenTo at h
      simp only [Bool.and_eq_true, decide_eq_true_eq] at h
      omega
    refine s_retx i1 (x_or (x_eq (x := .str t) (y := .str "0") (e_vx rfl) e_cx rfl) fun _ => x_ne (x := .str ⟨#[hd0 t]⟩) (y := .str "0") (x_ixS (c := hd0 t) (e_vx rfl) e_cx (big hz) (at0 l1)) e_cx rfl) fun H2 _ g2 => ?_
    have := q H2 (g.trans g2)
    unfold isDec at this
    rw [h12.1, h12.2] at this
    exact this
def labS (s : Str) : Bool := isDec s 2 && !decide (V.str s = V.str "0")
def labelD (d : D) : Bool := nameD d || match d with
  | .str s => labS s
  | _ => false
theorem ok_is_label (E : En K mg) (F : Df K mg "is_label" s_is_label) (c_is_name : Ca P w K mg base 2 "is_name" (spD1 nameD)) (c_is_decimal : Ca P w K mg base 2 "is_decimal" spDec) : Ca P w K mg base 3 "is_label" (spD1 labelD) := by
  refine ca_mk F sc_is_label (fun _ _ _ _ _ _ us hl => match us, hl with | [_], _ => rfl) spD1_len (fun f cdv A outer s H vs Q E' hr h => ?_)
  obtain ⟨v, d, rfl, hd, q⟩ := h
  refine ⟨_, (pss_cons (ps_if (pt_val (pe_ca c_is_name (hr.mono (by first | decide | omega)) (by rfl) (pa_cons (pv 0) pa_nil))) (pss_one (ps_ret pe_bl)) pss_nil)
      (pss_one (ps_ret (pe_and (pe_callB (isiU (K := K) rfl) (by rfl) (E.fr (x := "isinstance") (by decide +kernel)) (by decide +kernel) (pa_cons (pv 0) (pa_cons (pe_bltn (by rfl) (E.fr (x := "str") (by decide +kernel)) (by decide +kernel) (show RelV (.ty "str") (.type "str") from rfl)) pa_nil))) (pe_and (pe_ca c_is_decimal (hr.mono (by first | decide | omega)) (by rfl) (pa_cons (pv 0) (pa_cons (pe_gc (by rfl) E.c_label_digits) pa_nil))) (pe_one (pe_cmpR op_ne (pv 0) pe_str (nomark _)))))))), ?_⟩
  refine q_ifr (v := .bl true) (b := nameD d) (Iv.non H) (k_b (x_call (a_cons (e_vx rfl) a_nil) fun H2 g2 => pu_D1 (hd.gr g2))) (fun _ => e_cx) (fun e H1 _ g => ?_) (fun e H1 i1 g => ?_)
  · have := q H1 g
    rw [show labelD d = true from by unfold labelD; rw [e]; rfl] at this
    exact this
  · have hd1 := hd.gr g
    cases hS : d.isS with
    | false =>
      refine s_retx i1 (x_to (x_and (b := false) (x_isiD (e_vx rfl) hd1 (kit_s d)) fun e => absurd e (by rw [hS]; decide)) (w := .bl false) (by rw [hS]; rfl)) fun H2 _ g2 => ?_
      have := q H2 (g.trans g2)
      rw [show labelD d = false from by unfold labelD; rw [e]; cases d <;> first | rfl | cases hS] at this
      exact this
    | true =>
      obtain ⟨s, rfl, rfl, hz⟩ := dat_str hd hS
      refine s_retx i1 (x_to (x_and (x_isiD (e_vx rfl) hd1 (kit_s _)) fun _ => x_and (x_call (a_cons (e_vx rfl) (a_cons e_cx a_nil)) fun H2 g2 => pu_dec (m := 2) hz) fun _ => x_ne (x := .str s) (y := .str "0") (e_vx rfl) e_cx rfl) (w := .bl (labS s)) rfl) fun H2 _ g2 => ?_
      have := q H2 (g.trans g2)
      rw [show labelD (.str s) = labS s from by unfold labelD; rw [e]; rfl] at this
      exact this
def taskC (c : Nat) : Bool := ((!decide ((⟨#[c]⟩ : Str).cps.toList < (" " : Str).cps.toList)) && (!decide (("~" : Str).cps.toList < (⟨#[c]⟩ : Str).cps.toList))) && !inV (.int c) [.int 34, .int 37, .int 92]
def isTask (s : Str) : Bool := !decide ((200 : Int) < (s.length : Int)) && s.cps.toList.all taskC
def taskD : D → Bool
  | .str s => isTask s
  | _ => false
theorem ok_is_task_string (E : En K mg) (F : Df K mg "is_task_string" s_is_task_string) : Ca P w K mg base 1 "is_task_string" (spD1 taskD) := by
  refine ca_mk F sc_is_task_string (fun _ _ _ _ _ _ us hl => match us, hl with | [_], _ => rfl) spD1_len (fun f cdv A outer s H vs Q E' hr h => ?_)
  obtain ⟨v, d, rfl, hd, q⟩ := h
  refine ⟨_, (pss_cons (ps_if (PW.pt (pw_or (pt_not (pt_val (pe_callB (isiU (K := K) rfl) (by rfl) (E.fr (x := "isinstance") (by decide +kernel)) (by decide +kernel) (pa_cons (pv 0) (pa_cons (pe_bltn (by rfl) (E.fr (x := "str") (by decide +kernel)) (by decide +kernel) (show RelV (.ty "str") (.type "str") from rfl)) pa_nil))))) (pw_or1 (pt_cmpR op_gt (pe_callB (lenU (K := K) rfl) (by rfl) (E.fr (x := "len") (by decide +kernel)) (by decide +kernel) (pa_cons (pv 0) pa_nil)) (pe_gc (by rfl) E.c_longest_task_string) (nomark _))))) (pss_one (ps_ret pe_bl)) pss_nil)
      (pss_one (ps_ret (pe_callB (allU (K := K) rfl rfl) (by rfl) (E.fr (x := "all") (by decide +kernel)) (by decide +kernel) (pa_cons (pe_lc (own := [("sign", 1)]) (g := gName 1) (tt := tYes) rfl sc_is_task_string.nd (pi_str (pv 0)) (blkOk_by (own := [("sign", 1)]) (N := ["value", "sign"]) (sc := defScope s_is_task_string) (by decide +kernel)) (fun _ _ _ _ _ => pg_name (i := 1) sc_is_task_string.nd rfl (Or.inl rfl)) (fun _ _ _ _ _ => pts_nil) (fun _ _ _ _ _ => (pe_and (pe_chain op_leU op_leU pe_str (pv 1) pe_str) (pe_one (pe_cmpR (ninU (K := K) rfl) (pe_callB call_ord (by rfl) (E.fr (x := "ord") (by decide +kernel)) (by decide +kernel) (pa_cons (pv 1) pa_nil)) (pe_gc (by rfl) E.c_barred_codes) (by rfl)))))) pa_nil))))), ?_⟩
  cases hS : d.isS with
  | false =>
    refine q_ifr (v := .bl false) (Iv.non H) (k_to (k_or (b := true) (k_not (k_b (x_isiD (e_vx rfl) hd (kit_s d)))) fun e => absurd e (by rw [hS]; decide)) (b := true) (by rw [hS]; rfl)) (fun _ => e_cx) (fun _ H1 _ g => ?_) (fun e => nomatch e)
    have := q H1 g
    rw [show taskD d = false from by cases d <;> first | rfl | cases hS] at this
    exact this
  | true =>
    obtain ⟨s, rfl, rfl, hz⟩ := dat_str hd hS
    refine q_ifr (v := .bl false) (b := decide ((200 : Int) < (s.length : Int))) (Iv.non H) (k_to (k_or (k_not (k_b (x_isiD (e_vx rfl) hd (kit_s _)))) fun _ => k_test (x_ii (i := (s.length : Int)) (j := 200) (x_len (e_vx rfl) (big hz)) e_cx)) rfl) (fun _ => e_cx) (fun e H1 _ g => ?_) (fun e H1 i1 g => ?_)
    · have := q H1 g
      rw [show taskD (.str s) = false from by show (!decide _ && _) = false; rw [e]; rfl] at this
      exact this
    · refine s_retx i1 (allS taskC (e_vx rfl) hz (fun _ => rfl) fun c q H2 hc => x_and (x_chainS (i := " ") (k := "~") (g := fun i j => !decide (j.cps.toList < i.cps.toList)) (g' := fun i j => !decide (j.cps.toList < i.cps.toList)) e_cx (e_vx rfl) e_cx (fun H1 iv => r_leS iv) (fun H1 iv => r_leS iv)) fun _ => x_ninQ (v := .int c) (x_ord (e_vx rfl)) rfl e_cx (sq_k E.t_barred) rfl) fun H2 _ g2 => ?_
      have := q H2 (g.trans g2)
      rw [show taskD (.str s) = s.cps.toList.all taskC from by show (!decide _ && _) = _; rw [e]; rfl] at this
      exact this
end
end K10
namespace K10
open PySem PySem.Spec PyProof.Rows L2 Hk
section
variable {P : Program} {w : World} {K : PySem.W.Frag} {mg : Str → Option Value} {base : Heap}
/-! ### the law's own reading of words -/
def spRes : Sp := fun vs H Q _ => vs = [] ∧ ∀ a H', Gr Vo.non H H' → H a = none → H' a = some (.lst (wsR.map V.str)) → Q (.ref a) H'
def w1 : Str := "add and ask become bool both break call case div door else false function if int key"
def w2 : Str := " kind less local loop match mod module mul not on or raise receive return same"
def w3 : Str := " self send set since sleep start sub task true try uses"
theorem split_ok : Txt.split (w1 ++ w2 ++ w3) " " = wsR := by decide +kernel
theorem len_ok : (w1.length + w2.length ≤ sizeLine) ∧ ((w1 ++ w2).length + w3.length ≤ sizeLine) ∧ (w1 ++ w2 ++ w3).length + 2 ≤ sizeLine := by
  rw [sizeLine_eq]
  decide +kernel
theorem ok_reserved (E : En K mg) (F : Df K mg "_law_reserved" s__law_reserved) : Ca P w K mg base 1 "_law_reserved" spRes := by
  refine ca_mk F sc__law_reserved (fun _ _ _ _ _ _ us hl => match us, hl with | [], _ => rfl) (fun vs H Q E h => by rw [h.1]; rfl) (fun f cdv A outer s H vs Q E' hr h => ?_)
  obtain ⟨rfl, q⟩ := h
  refine ⟨_, (pss_cons (ps_set (i := 0) sc__law_reserved.nd rfl (Or.inl rfl) pe_str)
      (pss_cons (ps_set (i := 0) sc__law_reserved.nd rfl (Or.inl rfl) (pe_op op_addU (pv 0) pe_str))
      (pss_cons (ps_set (i := 0) sc__law_reserved.nd rfl (Or.inl rfl) (pe_op op_addU (pv 0) pe_str))
      (pss_one (ps_ret (pe_split (pv 0) pe_str)))))), ?_⟩
  refine q_asgx (v := .str w1) (Iv.non H) e_cx fun H1 i1 g1 => ?_
  refine q_asgx (v := .str (w1 ++ w2)) i1 (x_addS (e_vx rfl) e_cx len_ok.1) fun H2 i2 g2 => ?_
  refine q_asgx (v := .str (w1 ++ w2 ++ w3)) i2 (x_addS (e_vx rfl) e_cx len_ok.2.1) fun H3 i3 g3 => ?_
  refine ⟨.str (w1 ++ w2 ++ w3), rfl, ⟨_, rfl⟩, w1 ++ w2 ++ w3, " ", rfl, rfl, rfl, len_ok.2.2, fun a ha => ?_⟩
  have g := (g1.trans g2).trans g3
  refine q a _ (g.trans (Gr.new ha)) (g.free (nv_non a) ha) ?_
  rw [split_ok]
  exact upd_same
theorem x_res {p : Vo} {σ : L2.St} {H : Hp} : Ev p (tCall spRes [] E0 tNil) σ H (slx (wsR.map V.str)) := e_call a_nil fun vs H1 iv g os Q q => by
  obtain rfl : vs = [] := os
  exact ⟨rfl, fun a H' g' ha h => q _ H' (iv.grow g') g'.pure ⟨a, _, rfl, iv.ne ha, h, rfl⟩⟩
theorem not_len {s : Str} : lenIn s = !(decide ((s.length : Int) < 1) || decide ((8 : Int) < (s.length : Int))) := by
  unfold lenIn
  by_cases h1 : (s.length : Int) < 1
  · rw [decide_eq_true h1, decide_eq_false (show ¬ (1 : Int) ≤ (s.length : Int) by omega)]; rfl
  · rw [decide_eq_false h1, decide_eq_true (show (1 : Int) ≤ (s.length : Int) by omega)]
    by_cases h2 : (8 : Int) < (s.length : Int)
    · rw [decide_eq_true h2, decide_eq_false (show ¬ (s.length : Int) ≤ 8 by omega)]; rfl
    · rw [decide_eq_false h2, decide_eq_true (show (s.length : Int) ≤ 8 by omega)]; rfl
theorem ok_name_right (E : En K mg) (F : Df K mg "_law_name_right" s__law_name_right) (c__law_reserved : Ca P w K mg base 1 "_law_reserved" spRes) : Ca P w K mg base 2 "_law_name_right" (spD1 nameD) := by
  refine ca_mk F sc__law_name_right (fun _ _ _ _ _ _ us hl => match us, hl with | [_], _ => rfl) spD1_len (fun f cdv A outer s H vs Q E' hr h => ?_)
  obtain ⟨v, d, rfl, hd, q⟩ := h
  refine ⟨_, (pss_cons (ps_set (i := 1) sc__law_name_right.nd rfl (Or.inr rfl) pe_str)
      (pss_cons (ps_if (PW.pt (pw_or (pt_not (pt_val (pe_callB (isiU (K := K) rfl) (by rfl) (E.fr (x := "isinstance") (by decide +kernel)) (by decide +kernel) (pa_cons (pv 0) (pa_cons (pe_bltn (by rfl) (E.fr (x := "str") (by decide +kernel)) (by decide +kernel) (show RelV (.ty "str") (.type "str") from rfl)) pa_nil))))) (pw_or (pt_cmpR op_lt (pe_callB (lenU (K := K) rfl) (by rfl) (E.fr (x := "len") (by decide +kernel)) (by decide +kernel) (pa_cons (pv 0) pa_nil)) pe_int (nomark _)) (pw_or1 (pt_cmpR op_gt (pe_callB (lenU (K := K) rfl) (by rfl) (E.fr (x := "len") (by decide +kernel)) (by decide +kernel) (pa_cons (pv 0) pa_nil)) pe_int (nomark _)))))) (pss_one (ps_ret pe_bl)) pss_nil)
      (pss_one (ps_ret (pe_and (pe_callB (allU (K := K) rfl rfl) (by rfl) (E.fr (x := "all") (by decide +kernel)) (by decide +kernel) (pa_cons (pe_lc (own := [("_law_sign", 2)]) (g := gName 2) (tt := tYes) rfl sc__law_name_right.nd (pi_str (pv 0)) (blkOk_by (own := [("_law_sign", 2)]) (N := ["_law_word_here", "_law_small", "_law_sign"]) (sc := defScope s__law_name_right) (by decide +kernel)) (fun _ _ _ _ _ => pg_name (i := 2) sc__law_name_right.nd rfl (Or.inl rfl)) (fun _ _ _ _ _ => pts_nil) (fun _ _ _ _ _ => (pe_cmpR (inU (K := K) rfl) (pv 2) (pv 1) (by rfl)))) pa_nil)) (pe_one (pe_cmpR (ninU (K := K) rfl) (pv 0) (pe_ca0 c__law_reserved (hr.mono (by first | decide | omega)) (by rfl)) (by rfl)))))))), ?_⟩
  refine q_asgx (v := .str sSmall) (Iv.non H) e_cx fun H0 i0 g0 => ?_
  have hd0' := hd.gr g0
  cases hS : d.isS with
  | false =>
    refine q_ifr (v := .bl false) i0 (k_to (k_or (b := true) (k_not (k_b (x_isiD (e_vx rfl) hd0' (kit_s d)))) fun e => absurd e (by rw [hS]; decide)) (b := true) (by rw [hS]; rfl)) (fun _ => e_cx) (fun _ H1 _ g => ?_) (fun e => nomatch e)
    have := q H1 (g0.trans g)
    rw [nameD_no hS] at this
    exact this
  | true =>
    obtain ⟨s, rfl, rfl, hz⟩ := dat_str hd0' hS
    refine q_ifr (v := .bl false) (b := (decide ((s.length : Int) < 1) || decide ((8 : Int) < (s.length : Int)))) i0 (k_to (k_or (k_not (k_b (x_isiD (e_vx rfl) hd0' (kit_s _)))) fun _ => k_or (k_test (x_ii (i := (s.length : Int)) (j := 1) (x_len (e_vx rfl) (big hz)) e_cx)) fun _ => k_test (x_ii (i := (s.length : Int)) (j := 8) (x_len (e_vx rfl) (big hz)) e_cx)) rfl) (fun _ => e_cx) (fun e H1 _ g => ?_) (fun e H1 i1 g => ?_)
    · have := q H1 (g0.trans g)
      rw [show nameD (.str s) = false from by show (lenIn s && _) = false; rw [not_len, e]; rfl] at this
      exact this
    · refine s_retx i1 (x_and (allS (fun c => decide (c ∈ sSmall.cps.toList)) (e_vx rfl) hz (fun _ => rfl) fun c q H1 hc => x_inS (e_vx rfl) (e_vx rfl)) fun _ => x_ninQ (v := .str s) (e_vx rfl) rfl x_res sq_l (flat_strs _)) fun H2 _ g2 => ?_
      have := q H2 ((g0.trans g).trans g2)
      rw [show nameD (.str s) = (allIn s sSmall && !inV (.str s) (wsR.map V.str)) from by show (lenIn s && _) = _; rw [not_len, e]; rfl] at this
      exact this
theorem ok_tag_right (E : En K mg) (F : Df K mg "_law_tag_right" s__law_tag_right) : Ca P w K mg base 1 "_law_tag_right" (spD1 tagD) := by
  refine ca_mk F sc__law_tag_right (fun _ _ _ _ _ _ us hl => match us, hl with | [_], _ => rfl) spD1_len (fun f cdv A outer s H vs Q E' hr h => ?_)
  obtain ⟨v, d, rfl, hd, q⟩ := h
  refine ⟨_, (pss_cons (ps_set (i := 1) sc__law_tag_right.nd rfl (Or.inr rfl) pe_str)
      (pss_cons (ps_if (PW.pt (pw_or (pt_not (pt_val (pe_callB (isiU (K := K) rfl) (by rfl) (E.fr (x := "isinstance") (by decide +kernel)) (by decide +kernel) (pa_cons (pv 0) (pa_cons (pe_bltn (by rfl) (E.fr (x := "str") (by decide +kernel)) (by decide +kernel) (show RelV (.ty "str") (.type "str") from rfl)) pa_nil))))) (pw_or (pt_cmpR op_lt (pe_callB (lenU (K := K) rfl) (by rfl) (E.fr (x := "len") (by decide +kernel)) (by decide +kernel) (pa_cons (pv 0) pa_nil)) pe_int (nomark _)) (pw_or1 (pt_cmpR op_gt (pe_callB (lenU (K := K) rfl) (by rfl) (E.fr (x := "len") (by decide +kernel)) (by decide +kernel) (pa_cons (pv 0) pa_nil)) pe_int (nomark _)))))) (pss_one (ps_ret pe_bl)) pss_nil)
      (pss_one (ps_ret (pe_and (pe_cmpR (inU (K := K) rfl) (pe_ix (ixU (K := K) rfl) (pv 0) pe_int (fun _ _ => rfl)) pe_str (by rfl)) (pe_one (pe_callB (allU (K := K) rfl rfl) (by rfl) (E.fr (x := "all") (by decide +kernel)) (by decide +kernel) (pa_cons (pe_lc (own := [("_law_sign", 2)]) (g := gName 2) (tt := tYes) rfl sc__law_tag_right.nd (pi_str (pe_slice (slU (K := K) rfl) (pv 0) (po_some pe_int) po_none)) (blkOk_by (own := [("_law_sign", 2)]) (N := ["_law_word_here", "_law_small", "_law_sign"]) (sc := defScope s__law_tag_right) (by decide +kernel)) (fun _ _ _ _ _ => pg_name (i := 2) sc__law_tag_right.nd rfl (Or.inl rfl)) (fun _ _ _ _ _ => pts_nil) (fun _ _ _ _ _ => (pe_cmpR (inU (K := K) rfl) (pv 2) (pv 1) (by rfl)))) pa_nil)))))))), ?_⟩
  refine q_asgx (v := .str sSmall) (Iv.non H) e_cx fun H0 i0 g0 => ?_
  have hd0' := hd.gr g0
  cases hS : d.isS with
  | false =>
    refine q_ifr (v := .bl false) i0 (k_to (k_or (b := true) (k_not (k_b (x_isiD (e_vx rfl) hd0' (kit_s d)))) fun e => absurd e (by rw [hS]; decide)) (b := true) (by rw [hS]; rfl)) (fun _ => e_cx) (fun _ H1 _ g => ?_) (fun e => nomatch e)
    have := q H1 (g0.trans g)
    rw [tagD_no hS] at this
    exact this
  | true =>
    obtain ⟨s, rfl, rfl, hz⟩ := dat_str hd0' hS
    refine q_ifr (v := .bl false) (b := (decide ((s.length : Int) < 1) || decide ((8 : Int) < (s.length : Int)))) i0 (k_to (k_or (k_not (k_b (x_isiD (e_vx rfl) hd0' (kit_s _)))) fun _ => k_or (k_test (x_ii (i := (s.length : Int)) (j := 1) (x_len (e_vx rfl) (big hz)) e_cx)) fun _ => k_test (x_ii (i := (s.length : Int)) (j := 8) (x_len (e_vx rfl) (big hz)) e_cx)) rfl) (fun _ => e_cx) (fun e H1 _ g => ?_) (fun e H1 i1 g => ?_)
    · have := q H1 (g0.trans g)
      rw [show tagD (.str s) = false from by show (lenIn s && _) = false; rw [not_len, e]; rfl] at this
      exact this
    · have hl : lenIn s = true := by rw [not_len, e]; rfl
      refine s_retx i1 (x_and (x_inS (x_ixS (c := hd0 s) (e_vx rfl) e_cx (big hz) (at0 (lenIn_1 hl))) e_cx) fun _ => allS (fun c => decide (c ∈ sSmall.cps.toList)) (x_slS (lo := some 1) (hi := none) (e_vx rfl) (fun _ _ q => o_int q) (fun _ _ q => o_none q) (big hz)) (Nat.le_trans (cutS_len _ _ _) hz) (fun _ => rfl) fun c q H1 hc => x_inS (e_vx rfl) (e_vx rfl)) fun H2 _ g2 => ?_
      have := q H2 ((g0.trans g).trans g2)
      rw [show tagD (.str s) = (decide (hd0 s ∈ sLarge.cps.toList) && allIn (cutS s (some 1) none) sSmall) from by show (lenIn s && _) = _; rw [hl]; rfl] at this
      exact this
/-! labels: the numbers from 1 to 99, written -/
def nums : List Str := (List.range 99).map fun i => (toString ((1 : Int) + (i : Nat)) : Str)
end
end K10
namespace K10
open PySem PySem.Spec PyProof.Rows L2 Hk
/-! ### a label that is a number, two ways -/
def numL : List (List Nat) := nums.map fun s => s.cps.toList
def digL : List Nat := sDig.cps.toList
theorem num_fact : numL.all (fun l => (decide (l.length = 1) || decide (l.length = 2)) && l.all fun c => decide (c ∈ digL)) = true := by decide +kernel
def decL (l : List Nat) : Bool := ((decide (1 ≤ l.length) && decide (l.length ≤ 2)) && l.all (fun c => decide (c ∈ digL))) && (decide (l = [48]) || !decide (l.headD 0 = 48)) && !decide (l = [48])
theorem one_fact : ∀ c ∈ digL, decL [c] = numL.contains [c] := by decide +kernel
theorem two_fact : ∀ c ∈ digL, ∀ d ∈ digL, decL [c, d] = numL.contains [c, d] := by decide +kernel
theorem not_num {l : List Nat} (h : ((decide (l.length = 1) || decide (l.length = 2)) && l.all fun c => decide (c ∈ digL)) = false) : numL.contains l = false := by
  cases hc : numL.contains l with
  | false => rfl
  | true =>
    have hm : l ∈ numL := by simpa using hc
    have := List.all_eq_true.mp num_fact l hm
    rw [h] at this
    cases this
theorem dec_num : ∀ l : List Nat, decL l = numL.contains l
  | [] => by rw [not_num rfl]; rfl
  | [c] => by
    by_cases h : c ∈ digL
    · exact one_fact c h
    · rw [not_num (by simp [h])]
      simp [decL, h]
  | [c, d] => by
    by_cases h : c ∈ digL
    · by_cases h2 : d ∈ digL
      · exact two_fact c h d h2
      · rw [not_num (by simp [h2])]
        simp [decL, h2]
    · rw [not_num (by simp [h])]
      simp [decL, h]
  | a :: b :: c :: r => by
    rw [not_num (by simp)]
    simp [decL]
theorem str_eq {s t : Str} : s = t ↔ s.cps.toList = t.cps.toList := ⟨fun h => by rw [h], fun h => by
  cases s with
  | mk a =>
    cases t with
    | mk b =>
      have : a = b := Array.ext' h
      rw [this]⟩
theorem strV_eq {s t : Str} : decide (V.str s = V.str t) = decide (s.cps.toList = t.cps.toList) := by
  by_cases h : s.cps.toList = t.cps.toList
  · rw [decide_eq_true h, decide_eq_true (by rw [str_eq.mpr h])]
  · rw [decide_eq_false h, decide_eq_false fun e => h (str_eq.mp (V.str.inj e))]
theorem inV_strs (s : Str) : ∀ ws : List Str, inV (.str s) (ws.map V.str) = (ws.map fun t => t.cps.toList).contains s.cps.toList
  | [] => rfl
  | t :: ws => by
    have ih := inV_strs s ws
    unfold inV at ih ⊢
    rw [List.map_cons, List.any_cons, ih, List.map_cons, List.contains_cons]
    congr 1
    show (t == s) = (s.cps.toList == t.cps.toList)
    by_cases h : s.cps.toList = t.cps.toList
    · have e : s = t := str_eq.mpr h
      rw [e, beq_self_eq_true, beq_self_eq_true]
    · rw [beq_eq_false_iff_ne.mpr h, beq_eq_false_iff_ne.mpr fun e => h (by rw [e])]
theorem lab_num (s : Str) : labS s = inV (.str s) (nums.map V.str) := by
  rw [inV_strs, show (nums.map fun t => t.cps.toList) = numL from rfl, ← dec_num]
  unfold labS isDec decL lenTo allIn
  rw [strV_eq, strV_eq]
  have e : s.cps.toList.length = s.length := by rw [Array.length_toList]; rfl
  rw [e]
  have e1 : decide ((1 : Int) ≤ (s.length : Int)) = decide (1 ≤ s.length) := by by_cases h : 1 ≤ s.length <;> simp [h] <;> omega
  have e2 : decide ((s.length : Int) ≤ 2) = decide (s.length ≤ 2) := by by_cases h : s.length ≤ 2 <;> simp [h] <;> omega
  rw [e1, e2]
  have e3 : decide ((⟨#[hd0 s]⟩ : Str).cps.toList = ("0" : Str).cps.toList) = decide (s.cps.toList.headD 0 = 48) := by
    unfold hd0
    show decide ([s.cps.toList.headD 0] = [48]) = _
    by_cases h : s.cps.toList.headD 0 = 48
    · rw [h]; rfl
    · rw [decide_eq_false h, decide_eq_false fun e => h (List.cons.inj e).1]
  rw [e3]
  rfl
section
variable {P : Program} {w : World} {K : PySem.W.Frag} {mg : Str → Option Value} {base : Heap}
theorem lcR2x {p : Vo} {σ : L2.St} {H : Hp} {ta tb te : TE} {j : Nat} {vs : List Nat} {lo hi : Int} (ys : List V) (ha : Ev p ta σ H (sx (.int lo))) (hb : Ev p tb σ H (sx (.int hi))) (h0 : 0 ≤ lo) (h1 : lo ≤ hi) (h2 : hi < 16000000) (hl : ys.length = (hi - lo).toNat)
    (hw : ∀ x, wipe ((wipe σ vs).set j (some x)) vs = wipe σ vs) (he : ∀ (i : Nat) (y : V) q H1, ys[i]? = some y → Ev q te ((wipe σ vs).set j (some (.int (lo + (i : Nat))))) H1 (sx y)) : Ev p (tLc (iRng2 (tCons ta (tCons tb tNil))) (gName j) tYes te vs) σ H (slx ys) := fun H0 i0 g0 Q q =>
  ha H0 i0 g0 _ fun x H1 i1 g1 ex => hb H1 i1 (g0.trans g1) _ fun y H2 i2 g2 ey => ⟨lo, hi, by rw [show x = _ from ex, show y = _ from ey], ⟨by omega, by omega, by omega, by omega⟩, fun D hD =>
    lcR (lo := lo) (A := fun i q => ⟨fun y _ => ys[i]? = some y, fun _ _ _ _ h => h⟩) (fun i acc _ => acc = ys.take i) (fun _ _ _ _ _ _ h => h) (by omega) hw (fun _ => rfl) i2 hD
      (fun i o hi => (he i ys[i] _ H2 (List.getElem?_eq_getElem (by omega))).imp fun y _ e => by rw [show y = ys[i] from e]; exact List.getElem?_eq_getElem _) (fun i acc y H3 o hi g3 i3 hl ha hy => take_turn ha hy)
      fun H' w => q _ H' w.1 ((g1.trans g2).trans w.2.2.2.1) (by
        obtain ⟨_, _, nD, _, acc, ha, hl', c⟩ := w
        exact ⟨D, acc, rfl, nD, ha, by rw [c, ← hl, List.take_length]⟩)⟩
theorem x_strI {p : Vo} {σ : L2.St} {H : Hp} {ta : TE} {i : Int} (ha : Ev p ta σ H (sx (.int i))) (hz : i.natAbs.log2 < 1920) : Ev p (tCB (fun xs H Q => ∃ i, xs = [.int i] ∧ i.natAbs.log2 < 1920 ∧ Q (.str (toString i)) H) (tCons ta tNil)) σ H (sx (.str (toString i))) := e_cb (a_cons ha a_nil) fun vs H1 iv g os => by
  obtain ⟨v, ws, rfl, rfl, rfl⟩ := os
  exact rv iv rfl fun Q q => ⟨i, rfl, hz, q⟩
theorem ok_label_right (E : En K mg) (F : Df K mg "_law_label_right" s__law_label_right) (c__law_name_right : Ca P w K mg base 2 "_law_name_right" (spD1 nameD)) : Ca P w K mg base 3 "_law_label_right" (spD1 labelD) := by
  refine ca_mk F sc__law_label_right (fun _ _ _ _ _ _ us hl => match us, hl with | [_], _ => rfl) spD1_len (fun f cdv A outer s H vs Q E' hr h => ?_)
  obtain ⟨v, d, rfl, hd, q⟩ := h
  refine ⟨_, (pss_one (ps_ret (pe_or (pe_ca c__law_name_right (hr.mono (by first | decide | omega)) (by rfl) (pa_cons (pv 0) pa_nil)) (pe_one (pe_and (pe_callB (isiU (K := K) rfl) (by rfl) (E.fr (x := "isinstance") (by decide +kernel)) (by decide +kernel) (pa_cons (pv 0) (pa_cons (pe_bltn (by rfl) (E.fr (x := "str") (by decide +kernel)) (by decide +kernel) (show RelV (.ty "str") (.type "str") from rfl)) pa_nil))) (pe_one (pe_cmpR (inU (K := K) rfl) (pv 0) (pe_lc (own := [("_law_number", 1)]) (g := gName 1) (tt := tYes) rfl sc__law_label_right.nd (pi_range2 (by rfl) (E.fr (x := "range") (by decide +kernel)) (pa_cons pe_int (pa_cons pe_int pa_nil))) (blkOk_by (own := [("_law_number", 1)]) (N := ["_law_word_here", "_law_number"]) (sc := defScope s__law_label_right) (by decide +kernel)) (fun _ _ _ _ _ => pg_name (i := 1) sc__law_label_right.nd rfl (Or.inl rfl)) (fun _ _ _ _ _ => pts_nil) (fun _ _ _ _ _ => (pe_callTy call_str_int (by rfl) (E.fr (x := "str") (by decide +kernel)) (by decide +kernel) (pa_cons (pv 1) pa_nil)))) (by rfl)))))))), ?_⟩
  cases hS : d.isS with
  | false =>
    refine s_retx (Iv.non H) (x_to (x_or (x_call (a_cons (e_vx rfl) a_nil) fun H2 g2 => pu_D1 (hd.gr g2)) fun _ => x_and (b := false) (x_isiD (e_vx rfl) hd (kit_s d)) fun e => absurd e (by rw [hS]; decide)) (w := .bl (labelD d)) (by
      unfold labelD
      cases d <;> first | rfl | cases hS)) fun H2 _ g2 => q H2 g2
  | true =>
    obtain ⟨s, rfl, rfl, hz⟩ := dat_str hd hS
    refine s_retx (Iv.non H) (x_to (x_or (x_call (a_cons (e_vx rfl) a_nil) fun H2 g2 => pu_D1 (hd.gr g2)) fun _ => x_and (x_isiD (e_vx rfl) hd (kit_s _)) fun _ => x_inQ (xs := nums.map V.str) (v := .str s) (e_vx rfl) rfl (lcR2x (lo := 1) (hi := 100) (nums.map V.str) e_cx e_cx (by decide) (by decide) (by decide) (by rw [List.length_map]; unfold nums; rw [List.length_map, List.length_range]; rfl) (fun _ => rfl) fun i y q H1 hy => ?st) sq_l (flat_strs _)) (w := .bl (labelD (.str s))) (by
      rw [← lab_num]
      rfl)) fun H2 _ g2 => q H2 g2
    rw [List.getElem?_map] at hy
    unfold nums at hy
    rw [List.getElem?_map] at hy
    have hi : i < 99 := by
      cases hh : (List.range 99)[i]? with
      | none => rw [hh] at hy; cases hy
      | some k => have := (List.getElem?_eq_some_iff.mp hh).1; rwa [List.length_range] at this
    rw [List.getElem?_range hi] at hy
    obtain rfl : V.str (toString ((1 : Int) + (i : Nat)) : Str) = y := Option.some.inj hy
    exact x_strI (e_vx rfl) (by
      have e : ((1 : Int) + (i : Nat)).natAbs = i + 1 := by omega
      rw [e]
      exact Nat.lt_of_le_of_lt (Nat.log2_le_self _) (by omega))
def taskC2 (c : Nat) : Bool := (decide ((32 : Int) ≤ (c : Int)) && decide ((c : Int) ≤ 126)) && !inV (.int c) [.int 34, .int 37, .int 92]
theorem lt1 (a b : Nat) : decide (([a] : List Nat) < [b]) = decide (a < b) := by
  have e : (([a] : List Nat) < [b]) ↔ a < b := by simp [List.cons_lt_cons_iff]
  by_cases h : a < b
  · rw [decide_eq_true h, decide_eq_true (e.mpr h)]
  · rw [decide_eq_false h, decide_eq_false fun q => h (e.mp q)]
theorem task_c (c : Nat) : taskC c = taskC2 c := by
  unfold taskC taskC2
  congr 1
  show ((!decide (([c] : List Nat) < [32])) && !decide (([126] : List Nat) < [c])) = _
  rw [lt1, lt1]
  by_cases h1 : c < 32
  · rw [decide_eq_true h1, decide_eq_false (show ¬ (32 : Int) ≤ (c : Int) by omega)]; rfl
  · rw [decide_eq_false h1, decide_eq_true (show (32 : Int) ≤ (c : Int) by omega)]
    by_cases h2 : 126 < c
    · rw [decide_eq_true h2, decide_eq_false (show ¬ (c : Int) ≤ 126 by omega)]; rfl
    · rw [decide_eq_false h2, decide_eq_true (show (c : Int) ≤ 126 by omega)]; rfl
theorem ok_task_right (E : En K mg) (F : Df K mg "_law_task_right" s__law_task_right) : Ca P w K mg base 1 "_law_task_right" (spD1 taskD) := by
  refine ca_mk F sc__law_task_right (fun _ _ _ _ _ _ us hl => match us, hl with | [_], _ => rfl) spD1_len (fun f cdv A outer s H vs Q E' hr h => ?_)
  obtain ⟨v, d, rfl, hd, q⟩ := h
  refine ⟨_, (pss_cons (ps_if (PW.pt (pw_or (pt_not (pt_val (pe_callB (isiU (K := K) rfl) (by rfl) (E.fr (x := "isinstance") (by decide +kernel)) (by decide +kernel) (pa_cons (pv 0) (pa_cons (pe_bltn (by rfl) (E.fr (x := "str") (by decide +kernel)) (by decide +kernel) (show RelV (.ty "str") (.type "str") from rfl)) pa_nil))))) (pw_or1 (pt_cmpR op_gt (pe_callB (lenU (K := K) rfl) (by rfl) (E.fr (x := "len") (by decide +kernel)) (by decide +kernel) (pa_cons (pv 0) pa_nil)) pe_int (nomark _))))) (pss_one (ps_ret pe_bl)) pss_nil)
      (pss_one (ps_ret (pe_callB (allU (K := K) rfl rfl) (by rfl) (E.fr (x := "all") (by decide +kernel)) (by decide +kernel) (pa_cons (pe_lc (own := [("_law_sign", 1)]) (g := gName 1) (tt := tYes) rfl sc__law_task_right.nd (pi_str (pv 0)) (blkOk_by (own := [("_law_sign", 1)]) (N := ["_law_word_here", "_law_sign"]) (sc := defScope s__law_task_right) (by decide +kernel)) (fun _ _ _ _ _ => pg_name (i := 1) sc__law_task_right.nd rfl (Or.inl rfl)) (fun _ _ _ _ _ => pts_nil) (fun _ _ _ _ _ => (pe_and (pe_chain op_leU op_leU pe_int (pe_callB call_ord (by rfl) (E.fr (x := "ord") (by decide +kernel)) (by decide +kernel) (pa_cons (pv 1) pa_nil)) pe_int) (pe_one (pe_cmpR (ninU (K := K) rfl) (pe_callB call_ord (by rfl) (E.fr (x := "ord") (by decide +kernel)) (by decide +kernel) (pa_cons (pv 1) pa_nil)) (pe_tup (pa_cons pe_int (pa_cons pe_int (pa_cons pe_int pa_nil)))) (by rfl)))))) pa_nil))))), ?_⟩
  cases hS : d.isS with
  | false =>
    refine q_ifr (v := .bl false) (Iv.non H) (k_to (k_or (b := true) (k_not (k_b (x_isiD (e_vx rfl) hd (kit_s d)))) fun e => absurd e (by rw [hS]; decide)) (b := true) (by rw [hS]; rfl)) (fun _ => e_cx) (fun _ H1 _ g => ?_) (fun e => nomatch e)
    have := q H1 g
    rw [show taskD d = false from by cases d <;> first | rfl | cases hS] at this
    exact this
  | true =>
    obtain ⟨s, rfl, rfl, hz⟩ := dat_str hd hS
    refine q_ifr (v := .bl false) (b := decide ((200 : Int) < (s.length : Int))) (Iv.non H) (k_to (k_or (k_not (k_b (x_isiD (e_vx rfl) hd (kit_s _)))) fun _ => k_test (x_ii (i := (s.length : Int)) (j := 200) (x_len (e_vx rfl) (big hz)) e_cx)) rfl) (fun _ => e_cx) (fun e H1 _ g => ?_) (fun e H1 i1 g => ?_)
    · have := q H1 g
      rw [show taskD (.str s) = false from by show (!decide _ && _) = false; rw [e]; rfl] at this
      exact this
    · refine s_retx i1 (allS taskC2 (e_vx rfl) hz (fun _ => rfl) fun c q H2 hc => x_and (x_chainI (i := 32) (j := (c : Int)) (k := 126) (g := fun i j => decide (i ≤ j)) (g' := fun i j => decide (i ≤ j)) e_cx (x_ord (e_vx rfl)) e_cx (fun H1 iv => r_leI iv) (fun H1 iv => r_leI iv)) fun _ => x_ninQ (v := .int c) (x_ord (e_vx rfl)) rfl (x_tup (ws := [.int 34, .int 37, .int 92]) (a_cons e_cx (a_cons e_cx (a_cons e_cx a_nil))) (big (by decide))) sq_t rfl) fun H2 _ g2 => ?_
      have := q H2 (g.trans g2)
      rw [show taskD (.str s) = s.cps.toList.all taskC2 from by
        show (!decide _ && s.cps.toList.all taskC) = _
        rw [e, show taskC = taskC2 from funext task_c]; rfl] at this
      exact this
def cnt (s : Str) : Int := if inV (.str s) (wsP.map V.str) then 2 else if decide (V.str s = V.str "not") then 1 else -1
def spCount : Sp := fun vs H Q _ => ∃ s : Str, vs = [.str s] ∧ ∀ H', Gr Vo.non H H' → Q (.int (cnt s)) H'
theorem ok_count (E : En K mg) (F : Df K mg "_law_count" s__law_count) : Ca P w K mg base 1 "_law_count" spCount := by
  refine ca_mk F sc__law_count (fun _ _ _ _ _ _ us hl => match us, hl with | [_], _ => rfl) (fun vs H Q E h => by obtain ⟨s, rfl, _⟩ := h; rfl) (fun f cdv A outer s H vs Q E' hr h => ?_)
  obtain ⟨s, rfl, q⟩ := h
  refine ⟨_, (pss_cons (ps_if (pt_cmpR (inU (K := K) rfl) (pv 0) (pe_tup (pa_cons pe_str (pa_cons pe_str (pa_cons pe_str (pa_cons pe_str (pa_cons pe_str (pa_cons pe_str (pa_cons pe_str (pa_cons pe_str (pa_cons pe_str pa_nil)))))))))) (by rfl)) (pss_one (ps_ret pe_int)) pss_nil)
      (pss_one (ps_ret (pe_ifExp (pt_cmpR op_eq (pv 0) pe_str (nomark _)) pe_int (pe_un un_neg pe_int))))), ?_⟩
  refine q_ifr (v := .int 2) (b := inV (.str s) (wsP.map V.str)) (Iv.non H) (k_test (x_inQ (v := .str s) (xs := wsP.map V.str) (e_vx rfl) rfl (x_tup (ws := wsP.map V.str) (a_cons e_cx (a_cons e_cx (a_cons e_cx (a_cons e_cx (a_cons e_cx (a_cons e_cx (a_cons e_cx (a_cons e_cx (a_cons e_cx a_nil))))))))) (big (by decide))) sq_t (flat_strs _))) (fun _ => e_cx) (fun e H1 _ g => ?_) (fun e H1 i1 g => ?_)
  · have := q H1 g
    rw [show cnt s = 2 from by unfold cnt; rw [if_pos e]] at this
    exact this
  · refine s_ret (A := sx (.int (cnt s))) i1 (e_if (B := fun b => b = decide (V.str s = V.str "not")) (k_test (x_eq (x := .str s) (y := .str "not") (e_vx rfl) e_cx rfl)) (fun h => x_to e_cx (by unfold cnt; rw [if_neg (by rw [e]; decide), if_pos h.symm])) fun h => x_to (x_neg (i := 1) e_cx) (by unfold cnt; rw [if_neg (by rw [e]; decide), if_neg (by rw [← h]; decide)])) fun v H2 _ g2 e2 => ?_
    rw [show v = _ from e2]
    exact q H2 (g.trans g2)
end
end K10
namespace K10
open PySem PySem.Spec PyProof.Rows L2 Hk
/-! ### forms -/
def opsD : List D → Option (List D)
  | .str w :: r =>
    if decide (V.str w = V.str "self") = true then (if decide (((D.str w :: r).length : Int) = 1) = true then some [] else none)
    else if decide (V.str w = V.str "tag") = true then (match r with
      | t :: es => if tagD t = true then some es else none
      | [] => none)
    else if decide (V.str w = V.str "not") = true then (if decide (((D.str w :: r).length : Int) = 2) = true then some r else none)
    else if (inV (.str w) (wsP.map V.str) && decide (((D.str w :: r).length : Int) = 3)) = true then some r else none
  | _ => none
theorem opsD_eq (w : Str) (r : List D) : opsD (.str w :: r) = (if decide (V.str w = V.str "self") = true then (if decide (((D.str w :: r).length : Int) = 1) = true then some [] else none)
    else if decide (V.str w = V.str "tag") = true then (match r with
      | t :: es => if tagD t = true then some es else none
      | [] => none)
    else if decide (V.str w = V.str "not") = true then (if decide (((D.str w :: r).length : Int) = 2) = true then some r else none)
    else if (inV (.str w) (wsP.map V.str) && decide (((D.str w :: r).length : Int) = 3)) = true then some r else none) := rfl
def opsO : D → Option (List D)
  | .tup ds => opsD ds
  | _ => none
def form : Nat → D → Bool
  | 0, _ => false
  | n + 1, d => match d with
    | .bl _ => true
    | .int i => decide (-tooLong < i) && decide (i < tooLong)
    | .str s => isName s
    | .tup ds => (match opsD ds with
      | none => false
      | some es => es.all (form n))
    | _ => false
def sOps (p : Vo) (o : Option (List D)) : Sy p := ⟨fun v H => (o = none ∧ v = .non) ∨ ∃ es, o = some es ∧ Dat p H v (.tup es), fun v H H' g h => h.elim .inl fun ⟨es, h1, h2⟩ => .inr ⟨es, h1, h2.gr g⟩⟩
def spOps : Sp := fun vs H Q _ => ∃ v ds, vs = [v] ∧ Dat Vo.non H v (.tup ds) ∧ ∀ r H', Gr Vo.non H H' → (sOps Vo.non (opsD ds)).P r H' → Q r H'
theorem cut_from {xs : List V} (k : Nat) : cutV xs (some (k : Int)) none = xs.drop k := by
  unfold cutV
  rw [HT.sIx_nat, HT.sIx_none]
  by_cases h : k ≤ xs.length
  · rw [Nat.min_eq_left h]
    exact List.take_of_length_le (by rw [List.length_drop]; exact Nat.le_refl _)
  · rw [Nat.min_eq_right (by omega), List.drop_eq_nil_of_le (Nat.le_refl _), List.drop_eq_nil_of_le (by omega), List.take_nil]
theorem dat_from {p : Vo} {H H' : Hp} {vs : List V} {ds : List D} (k : Nat) (l : vs.length = ds.length) (hz : vs.length ≤ 100000) (r : ∀ (i : Nat) (v : V) (d : D), vs[i]? = some v → ds[i]? = some d → Dat p H v d) (g : Gr p H H') {x : V} (h : (stx (p := p) (cutV vs (some (k : Int)) none)).P x H') : Dat p H' x (.tup (ds.drop k)) := by
  obtain ⟨b, ws, rfl, nb, hb, rfl⟩ := h
  rw [cut_from] at hb
  refine .tup nb hb (by rw [List.length_drop, List.length_drop, l]) (by rw [List.length_drop]; omega) fun i v d h1 h2 => ?_
  rw [List.getElem?_drop] at h1 h2
  exact (r _ v d h1 h2).gr g
theorem not_whole {n : Nat} (k : Nat) (h0 : 0 < k) (h : 0 < n) : ¬ (HT.sIx n 0 (some (k : Int)) = 0 ∧ HT.sIx n n none = n) := by
  rw [HT.sIx_nat]
  intro ⟨e, _⟩
  have : min k n ≠ 0 := by omega
  exact this e
section
variable {P : Program} {w : World} {K : PySem.W.Frag} {mg : Str → Option Value} {base : Heap}
theorem k_tru {p : Vo} {σ : L2.St} {H : Hp} {ta : TE} {a : Addr} {xs : List V} (ha : Ev p ta σ H (sx (.ref a))) (h : ∀ H1, Gr p H H1 → SqT K H1 a xs) : Tis p (fun σ H Q => ta σ H fun x H' => ∃ k, TruV K x H' k ∧ Q k H') σ H (!xs.isEmpty) := fun H1 i g Q q =>
  ha H1 i g _ fun v H2 i2 g2 e => by
    rw [show v = .ref a from e]
    exact ⟨_, .inr (.inl ⟨xs, h H2 (g.trans g2), rfl⟩), q _ H2 i2 g2 rfl⟩
theorem Ca.mono {j k : Nat} {x : Str} {sp : Sp} (c : Ca P w K mg base j x sp) (h : j ≤ k) : Ca P w K mg base k x sp := by
  obtain ⟨f, fd, ps, F, r⟩ := c.ex
  exact ⟨f, fd, ps, F.mono h, r⟩
theorem ok_operands_of (E : En K mg) (F : Df K mg "operands_of" s_operands_of) (c_is_tag : Ca P w K mg base 2 "is_tag" (spD1 tagD)) : Ca P w K mg base 3 "operands_of" spOps := by
  refine ca_mk F sc_operands_of (fun _ _ _ _ _ _ us hl => match us, hl with | [_], _ => rfl) (fun vs H Q E h => by obtain ⟨v, d, rfl, _⟩ := h; rfl) (fun f cdv A outer s H vs Q E' hr h => ?_)
  obtain ⟨v, ds, rfl, hd, q⟩ := h
  refine ⟨_, (pss_cons (ps_if (PW.pt (pw_or (pt_not (pt_truth (pv 0) (by intro _; rfl))) (pw_or1 (pt_not (pt_val (pe_callB (isiU (K := K) rfl) (by rfl) (E.fr (x := "isinstance") (by decide +kernel)) (by decide +kernel) (pa_cons (pe_ix (ixU (K := K) rfl) (pv 0) pe_int (fun _ _ => rfl)) (pa_cons (pe_bltn (by rfl) (E.fr (x := "str") (by decide +kernel)) (by decide +kernel) (show RelV (.ty "str") (.type "str") from rfl)) pa_nil)))))))) (pss_one (ps_ret pe_non)) pss_nil)
      (pss_cons (ps_set (i := 1) sc_operands_of.nd rfl (Or.inl rfl) (pe_ix (ixU (K := K) rfl) (pv 0) pe_int (fun _ _ => rfl)))
      (pss_cons (ps_if (pt_cmpR op_eq (pv 1) pe_str (nomark _)) (pss_one (ps_ret (pe_ifExp (pt_cmpR op_eq (pe_callB (lenU (K := K) rfl) (by rfl) (E.fr (x := "len") (by decide +kernel)) (by decide +kernel) (pa_cons (pv 0) pa_nil)) pe_int (nomark _)) (pe_tup pa_nil) pe_non))) pss_nil)
      (pss_cons (ps_if (pt_cmpR op_eq (pv 1) pe_str (nomark _)) (pss_one (ps_ret (pe_ifExp (PW.pt (pw_and (pt_cmpR op_gt (pe_callB (lenU (K := K) rfl) (by rfl) (E.fr (x := "len") (by decide +kernel)) (by decide +kernel) (pa_cons (pv 0) pa_nil)) pe_int (nomark _)) (pw_and1 (pt_val (pe_ca c_is_tag (hr.mono (by first | decide | omega)) (by rfl) (pa_cons (pe_ix (ixU (K := K) rfl) (pv 0) pe_int (fun _ _ => rfl)) pa_nil)))))) (pe_slice (slU (K := K) rfl) (pv 0) (po_some pe_int) po_none) pe_non))) pss_nil)
      (pss_cons (ps_if (pt_cmpR op_eq (pv 1) pe_str (nomark _)) (pss_one (ps_ret (pe_ifExp (pt_cmpR op_eq (pe_callB (lenU (K := K) rfl) (by rfl) (E.fr (x := "len") (by decide +kernel)) (by decide +kernel) (pa_cons (pv 0) pa_nil)) pe_int (nomark _)) (pe_slice (slU (K := K) rfl) (pv 0) (po_some pe_int) po_none) pe_non))) pss_nil)
      (pss_one (ps_ret (pe_ifExp (PW.pt (pw_and (pt_cmpR (inU (K := K) rfl) (pv 1) (pe_gc (by rfl) E.c_pair_operators) (by rfl)) (pw_and1 (pt_cmpR op_eq (pe_callB (lenU (K := K) rfl) (by rfl) (E.fr (x := "len") (by decide +kernel)) (by decide +kernel) (pa_cons (pv 0) pa_nil)) pe_int (nomark _))))) (pe_slice (slU (K := K) rfl) (pv 0) (po_some pe_int) po_none) pe_non)))))))), ?_⟩
  cases hd with
  | @tup a xs _ na ha hl hz r =>
  have seq : ∀ H1, Gr Vo.non H H1 → SqT K H1 a xs := fun H1 g => SqT.of (g a _ na ha)
  have isq : ∀ H0, Gr Vo.non H H0 → ∀ v H1, Gr Vo.non H0 H1 → (sx (p := Vo.non) (.ref a)).P v H1 → ∃ a, v = .ref a ∧ (SqL K H1 a xs ∨ SqT K H1 a xs) := fun H0 g0 v H1 g e => ⟨a, e, .inr (seq H1 (g0.trans g))⟩
  cases ds with
  | nil =>
    obtain rfl : xs = [] := List.length_eq_zero_iff.mp hl
    refine q_ifr (v := .non) (b := true) (Iv.non H) (k_to (k_or (b := true) (k_not (k_tru (e_vx rfl) seq)) fun e => (nomatch e)) rfl) (fun _ => e_cx) (fun _ H1 _ g => q _ H1 g (.inl ⟨rfl, rfl⟩)) fun e => (nomatch e)
  | cons d0 ds =>
    cases xs with
    | nil => cases hl
    | cons v0 xs =>
    have r0 : Dat Vo.non H v0 d0 := r 0 v0 d0 rfl rfl
    have at0' : atI (v0 :: xs) 0 = some v0 := atI_nat (j := 0) rfl
    have len : ((v0 :: xs).length : Int) = (((d0 :: ds).length : Nat) : Int) := by rw [hl]
    cases hS : d0.isS with
    | false =>
      refine q_ifr (v := .non) (b := true) (Iv.non H) (k_to (k_or (b := true) (k_not (k_tru (e_vx rfl) seq)) fun _ => k_to (k_not (k_b (x_isiD (d := d0) (x_ixQ (e_vx rfl) (isq H (Gr.refl H)) e_cx at0') r0 (kit_s d0)))) (by rw [hS]; rfl)) rfl) (fun _ => e_cx) (fun _ H1 _ g => q _ H1 g (.inl ⟨?_, rfl⟩)) fun e => (nomatch e)
      cases d0 <;> first | rfl | cases hS
    | true =>
      obtain ⟨wd, rfl, rfl, hwz⟩ := dat_str r0 hS
      refine q_ifr (v := .non) (b := false) (Iv.non H) (k_to (k_or (b := false) (k_not (k_tru (e_vx rfl) seq)) fun _ => k_to (k_not (k_b (x_isiD (d := .str wd) (x_ixQ (e_vx rfl) (isq H (Gr.refl H)) e_cx at0') r0 (kit_s _)))) rfl) rfl) (fun _ => e_cx) (fun e => (nomatch e)) fun _ H1 i1 g1 => ?_
      refine q_asgx (v := .str wd) i1 (x_ixQ (e_vx rfl) (isq H1 g1) e_cx at0') fun H2 i2 g2 => ?_
      have gg2 := g1.trans g2
      have fin : ∀ {H3 : Hp} (g3 : Gr Vo.non H2 H3) v H4, Gr Vo.non H3 H4 → (sOps Vo.non (opsD (.str wd :: ds))).P v H4 → Q v H4 := fun g3 v H4 g4 h => q v H4 ((gg2.trans g3).trans g4) h
      have xlen : ∀ {σ : L2.St} {H3 : Hp} (g3 : Gr Vo.non H2 H3) {n : Int}, σ[0]? = some (some (.ref a)) → Tis Vo.non (tTest (tOp rEq (tCB (rLenK K) (tCons (tVar 0) tNil)) (tC (.int n)))) σ H3 (decide (((D.str wd :: ds).length : Int) = n)) := fun {σ H3} g3 {n} hσ =>
        k_to (k_test (x_eq (x := .int ((V.str wd :: xs).length)) (y := .int n) (x_lenQ (e_vx hσ) (isq H3 (gg2.trans g3))) e_cx rfl)) (by
          rw [len]
          by_cases hh : (((D.str wd :: ds).length : Nat) : Int) = n
          · rw [decide_eq_true hh, decide_eq_true (by rw [hh])]
          · rw [decide_eq_false hh, decide_eq_false fun z => hh (V.int.inj z)])
      have lim : (V.str wd :: xs).length ≤ 100000 := hz
      have slc : ∀ {σ : L2.St} {H3 : Hp} (g3 : Gr Vo.non H2 H3) (k : Nat), 0 < k → σ[0]? = some (some (.ref a)) → opsD (.str wd :: ds) = some ((D.str wd :: ds).drop k) → Ev Vo.non (tSl (rSlU K) (tVar 0) (tPart (tC (.int (k : Int)))) tNoPart) σ H3 (sOps Vo.non (opsD (.str wd :: ds))) := fun {σ H3} g3 k hk hσ ho H4 i4 g4 Q' q' =>
        x_slT (xs := V.str wd :: xs) (lo := some (k : Int)) (hi := none) (e_vx hσ) (fun v H1 g e => ⟨a, e, seq H1 ((gg2.trans g3).trans g)⟩) (fun _ _ q => o_int q) (fun _ _ q => o_none q) (not_whole k hk (by rw [List.length_cons]; omega)) H4 i4 g4 Q' fun v H5 i5 g5 h => q' v H5 i5 g5 (.inr ⟨_, ho, dat_from k hl lim r (((gg2.trans g3).trans g4).trans g5) h⟩)
      refine q_ifS (b := decide (V.str wd = V.str "self")) (A := sOps Vo.non (opsD (.str wd :: ds))) i2 (k_test (x_eq (x := .str wd) (y := .str "self") (e_vx rfl) e_cx rfl)) (fun e => e_if (xlen (Gr.refl H2) rfl) (fun e4 => (x_tup (ws := []) a_nil (big (by decide))).imp fun x H4 h => ?a1) fun e4 => e_c (.inl ⟨?a2, rfl⟩)) (fun _ v H4 _ g4 h => fin (Gr.refl H2) v H4 g4 h) fun e H3 i3 g3 => ?a3
      case a1 =>
        obtain ⟨b, ws, rfl, nb, hb, rfl⟩ := h
        exact .inr ⟨[], by rw [opsD_eq, if_pos e, if_pos e4.symm], .tup nb hb rfl (by decide) fun i v d h _ => by cases h⟩
      case a2 => rw [opsD_eq, if_pos e, if_neg (by rw [← e4]; decide)]
      refine q_ifS (b := decide (V.str wd = V.str "tag")) (A := sOps Vo.non (opsD (.str wd :: ds))) i3 (k_test (x_eq (x := .str wd) (y := .str "tag") (e_vx rfl) e_cx rfl)) (fun e5 => ?b1) (fun _ v H4 _ g4 h => fin g3 v H4 g4 h) fun e5 H4 i4 g4 => ?b3
      case b1 =>
        cases ds with
        | nil =>
          obtain rfl : xs = [] := List.length_eq_zero_iff.mp (Nat.succ.inj hl)
          refine e_if (B := fun b => b = false) (k_to (k_and (a := false) (b := true) (k_to (k_test (x_ii (i := 1) (j := 1) (x_lenQ (xs := [V.str wd]) (e_vx rfl) (isq H3 (gg2.trans g3))) e_cx)) rfl) fun z => (nomatch z)) (b := false) rfl) (fun z => (nomatch z)) fun _ => e_c (.inl ⟨?_, rfl⟩)
          rw [opsD_eq, if_neg (by rw [e]; decide), if_pos e5]
        | cons t es =>
          cases xs with
          | nil => cases hl
          | cons v1 xs =>
          have r1 : Dat Vo.non H v1 t := r 1 v1 t rfl rfl
          have ho : opsD (.str wd :: t :: es) = if tagD t = true then some es else none := by rw [opsD_eq, if_neg (by rw [e]; decide), if_pos e5]
          refine e_if (B := fun b => b = tagD t) (k_to (k_and (a := true) (b := tagD t) (k_to (k_test (x_ii (i := ((V.str wd :: v1 :: xs).length : Int)) (j := 1) (x_lenQ (xs := V.str wd :: v1 :: xs) (e_vx rfl) (isq H3 (gg2.trans g3))) e_cx)) (decide_eq_true (by rw [List.length_cons, List.length_cons]; omega))) fun _ => k_b (x_call (ws := [v1]) (a_cons (x_ixQ (xs := V.str wd :: v1 :: xs) (e_vx rfl) (isq H3 (gg2.trans g3)) e_cx (atI_nat (j := 1) rfl)) a_nil) fun H5 g5 => pu_D1 (r1.gr ((gg2.trans g3).trans g5)))) rfl) (fun z => slc g3 2 (by decide) rfl (by rw [ho, if_pos z.symm]; rfl)) fun z => e_c (.inl ⟨by rw [ho, if_neg (by rw [← z]; decide)], rfl⟩)
      have gg4 := g3.trans g4
      refine q_ifS (b := decide (V.str wd = V.str "not")) (A := sOps Vo.non (opsD (.str wd :: ds))) i4 (k_test (x_eq (x := .str wd) (y := .str "not") (e_vx rfl) e_cx rfl)) (fun e6 => e_if (xlen gg4 rfl) (fun z => slc gg4 1 (by decide) rfl ?c1) fun z => e_c (.inl ⟨?c2, rfl⟩)) (fun _ v H5 _ g5 h => fin gg4 v H5 g5 h) fun e6 H5 i5 g5 => ?c3
      case c1 => rw [opsD_eq, if_neg (by rw [e]; decide), if_neg (by rw [e5]; decide), if_pos e6, if_pos z.symm]; rfl
      case c2 => rw [opsD_eq, if_neg (by rw [e]; decide), if_neg (by rw [e5]; decide), if_pos e6, if_neg (by rw [← z]; decide)]
      have gg5 := gg4.trans g5
      refine s_ret (A := sOps Vo.non (opsD (.str wd :: ds))) i5 (e_if (B := fun b => b = (inV (.str wd) (wsP.map V.str) && decide (((D.str wd :: ds).length : Int) = 3))) (k_and (k_test (x_inQ (v := .str wd) (e_vx rfl) rfl e_cx (sq_k E.t_pair) (flat_strs _))) fun _ => xlen gg5 rfl) (fun z => slc gg5 1 (by decide) rfl ?d1) fun z => e_c (.inl ⟨?d2, rfl⟩)) fun v H6 _ g6 h => fin gg5 v H6 g6 h
      case d1 => rw [opsD_eq, if_neg (by rw [e]; decide), if_neg (by rw [e5]; decide), if_neg (by rw [e6]; decide), if_pos z.symm]; rfl
      case d2 => rw [opsD_eq, if_neg (by rw [e]; decide), if_neg (by rw [e5]; decide), if_neg (by rw [e6]; decide), if_neg (by rw [← z]; decide)]
end
end K10
namespace K10
open PySem PySem.Spec PyProof.Rows L2 Hk
section
variable {P : Program} {w : World} {K : PySem.W.Frag} {mg : Str → Option Value} {base : Heap}
def spLev (n : Nat) : Sp := fun vs H Q _ => ∃ v d, vs = [v, .int (n : Nat)] ∧ Dat Vo.non H v d ∧ ∀ H', Gr Vo.non H H' → Q (.bl (form n d)) H'
/-- what a level's def may ask of the one below: nothing can be asked with no level -/
def spLow : Nat → Sp
  | 0 => fun _ _ _ _ => False
  | n + 1 => spLev n
theorem spLev_len {n : Nat} : ∀ vs H Q E, spLev n vs H Q E → vs.length = 2 := fun vs H Q E h => by obtain ⟨v, d, rfl, _⟩ := h; rfl
theorem pu_lev {n : Nat} {v : V} {d : D} {H : Hp} (h : Dat Vo.non H v d) : Pu (spLev n) [v, .int (n : Nat)] H (.bl (form n d)) := fun Q E k => ⟨v, d, rfl, h, k⟩
def intIn : D → Bool
  | .int i => decide (-tooLong < i) && decide (i < tooLong)
  | _ => false
theorem dat_int {p : Vo} {H : Hp} {v : V} {d : D} (h : Dat p H v d) (e : d.isI = true) (e' : d.isB = false) : ∃ i, v = .int i ∧ d = .int i := by
  cases h with
  | int i => exact ⟨i, rfl, rfl⟩
  | bl b => cases e'
  | _ => cases e
theorem dat_tup {p : Vo} {H : Hp} {v : V} {d : D} (h : Dat p H v d) (e : d.isT = true) : ∃ ds, d = .tup ds := by
  cases h with
  | tup n h l hz r => exact ⟨_, rfl⟩
  | _ => cases e
theorem form_rest {n : Nat} {d : D} (hB : d.isB = false) (hI : d.isI = false) (hS : d.isS = false) : form (n + 1) d = match opsO d with
    | none => false
    | some es => es.all (form n) := by
  cases d with
  | bl b => cases hB
  | int i => cases hI
  | str s => cases hS
  | _ => rfl
theorem ok_has_levels (E : En K mg) (F : Df K mg "has_levels" s_has_levels) (n : Nat) (c_has_levels : Ca P w K mg base (4 + n) "has_levels" (spLow n)) (c_is_name : Ca P w K mg base 2 "is_name" (spD1 nameD)) (c_operands_of : Ca P w K mg base 3 "operands_of" spOps) : Ca P w K mg base (4 + n + 1) "has_levels" (spLev n) := by
  refine ca_mk F sc_has_levels (fun _ _ _ _ _ _ us hl => match us, hl with | [_, _], _ => rfl) spLev_len (fun f cdv A outer s H vs Q E' hr h => ?_)
  obtain ⟨v, d, rfl, hd, q⟩ := h
  refine ⟨_, (pss_cons (ps_if (pt_cmpR op_eq (pv 1) pe_int (nomark _)) (pss_one (ps_ret pe_bl)) pss_nil)
      (pss_cons (ps_if (pt_val (pe_callB (isiU (K := K) rfl) (by rfl) (E.fr (x := "isinstance") (by decide +kernel)) (by decide +kernel) (pa_cons (pv 0) (pa_cons (pe_bltn (by rfl) (E.fr (x := "bool") (by decide +kernel)) (by decide +kernel) (show RelV (.ty "bool") (.type "bool") from rfl)) pa_nil)))) (pss_one (ps_ret pe_bl)) pss_nil)
      (pss_cons (ps_if (pt_val (pe_callB (isiU (K := K) rfl) (by rfl) (E.fr (x := "isinstance") (by decide +kernel)) (by decide +kernel) (pa_cons (pv 0) (pa_cons (pe_bltn (by rfl) (E.fr (x := "int") (by decide +kernel)) (by decide +kernel) (show RelV (.ty "int") (.type "int") from rfl)) pa_nil)))) (pss_one (ps_ret (pe_chain op_lt op_lt (pe_un un_neg (pe_gc (by rfl) E.c_too_long)) (pv 0) (pe_gc (by rfl) E.c_too_long)))) pss_nil)
      (pss_cons (ps_if (pt_val (pe_callB (isiU (K := K) rfl) (by rfl) (E.fr (x := "isinstance") (by decide +kernel)) (by decide +kernel) (pa_cons (pv 0) (pa_cons (pe_bltn (by rfl) (E.fr (x := "str") (by decide +kernel)) (by decide +kernel) (show RelV (.ty "str") (.type "str") from rfl)) pa_nil)))) (pss_one (ps_ret (pe_ca c_is_name (hr.mono (by first | decide | omega)) (by rfl) (pa_cons (pv 0) pa_nil)))) pss_nil)
      (pss_cons (ps_set (i := 2) sc_has_levels.nd rfl (Or.inl rfl) (pe_ifExp (pt_val (pe_callB (isiU (K := K) rfl) (by rfl) (E.fr (x := "isinstance") (by decide +kernel)) (by decide +kernel) (pa_cons (pv 0) (pa_cons (pe_bltn (by rfl) (E.fr (x := "tuple") (by decide +kernel)) (by decide +kernel) (show RelV (.ty "tuple") (.type "tuple") from rfl)) pa_nil)))) (pe_ca c_operands_of (hr.mono (by first | decide | omega)) (by rfl) (pa_cons (pv 0) pa_nil)) pe_non))
      (pss_cons (ps_if (pt_cmpR op_isN (pv 2) pe_non (nomark _)) (pss_one (ps_ret pe_bl)) pss_nil)
      (pss_one (ps_ret (pe_callB (allU (K := K) rfl rfl) (by rfl) (E.fr (x := "all") (by decide +kernel)) (by decide +kernel) (pa_cons (pe_lc (own := [("operand", 3)]) (g := gName 3) (tt := tYes) rfl sc_has_levels.nd (pi_tup (pv 2)) (blkOk_by (own := [("operand", 3)]) (N := ["value", "levels", "operands", "operand"]) (sc := defScope s_has_levels) (by decide +kernel)) (fun _ _ _ _ _ => pg_name (i := 3) sc_has_levels.nd rfl (Or.inl rfl)) (fun _ _ _ _ _ => pts_nil) (fun _ _ _ _ _ => (pe_ca c_has_levels (hr.mono (by first | decide | omega)) (by rfl) (pa_cons (pv 3) (pa_cons (pe_op op_sub (pv 1) pe_int) pa_nil))))) pa_nil)))))))))), ?_⟩
  refine q_ifr (v := .bl false) (b := decide (V.int (n : Nat) = V.int 0)) (Iv.non H) (k_test (x_eq (x := .int (n : Nat)) (y := .int 0) (e_vx rfl) e_cx rfl)) (fun _ => e_cx) (fun e H1 _ g1 => ?_) fun e H1 i1 g1 => ?_
  · have e0 : n = 0 := by
      have : ((n : Nat) : Int) = 0 := V.int.inj (of_decide_eq_true e)
      omega
    subst e0
    exact q H1 g1
  · cases n with
    | zero => cases e
    | succ n =>
    refine q_ifr (v := .bl true) (b := d.isB) i1 (k_b (x_isiD (e_vx rfl) (hd.gr g1) (kit_b d))) (fun _ => e_cx) (fun hB H2 _ g2 => ?_) fun hB H2 i2 g2 => ?_
    · have := q H2 (g1.trans g2)
      rw [show form (n + 1) d = true from by cases d <;> first | rfl | cases hB] at this
      exact this
    have g12 := g1.trans g2
    refine q_ifr (v := .bl (intIn d)) (b := d.isI) i2 (k_b (x_isiD (e_vx rfl) (hd.gr g12) (kit_i d))) (fun hI => ?_) (fun hI H3 _ g3 => ?_) fun hI H3 i3 g3 => ?_
    · obtain ⟨i, rfl, rfl⟩ := dat_int hd hI hB
      exact x_chainI (i := -tooLong) (j := i) (k := tooLong) (g := fun i j => decide (i < j)) (g' := fun i j => decide (i < j)) (x_neg e_cx) (e_vx rfl) e_cx (fun H1 iv => r_ltI iv) fun H1 iv => r_ltI iv
    · obtain ⟨i, rfl, rfl⟩ := dat_int hd hI hB
      exact q H3 (g12.trans g3)
    have g13 := g12.trans g3
    refine q_ifr (v := .bl (nameD d)) (b := d.isS) i3 (k_b (x_isiD (e_vx rfl) (hd.gr g13) (kit_s d))) (fun hS => x_call (a_cons (e_vx rfl) a_nil) fun H4 g4 => pu_D1 (hd.gr (g13.trans g4))) (fun hS H4 _ g4 => ?_) fun hS H4 i4 g4 => ?_
    · have := q H4 (g13.trans g4)
      rw [show form (n + 1) d = nameD d from by cases d <;> first | rfl | cases hS] at this
      exact this
    have g14 := g13.trans g4
    refine q_asg (A := sOps Vo.non (opsO d)) i4 (e_if (B := fun b => b = d.isT) (k_b (x_isiD (e_vx rfl) (hd.gr g14) (kit_t d))) (fun hT => ?_) fun hT => e_c (.inl ⟨(by cases d <;> first | rfl | exact nomatch hT), rfl⟩)) fun r H5 i5 g5 hr5 => ?_
    · obtain ⟨ds, rfl⟩ := dat_tup hd hT.symm
      exact e_call (a_cons (e_vx rfl) a_nil) fun vs H5 iv g5 os Q' q' => by
        obtain ⟨x, ws, e1, ex, e2⟩ := os
        rw [e1, e2, show x = v from ex]
        exact ⟨v, ds, rfl, hd.gr (g14.trans g5), fun r H6 g6 h6 => q' r H6 (Iv.non _) g6 h6⟩
    have g15 := g14.trans g5
    have hf := form_rest (n := n) hB hI hS
    refine q_ifr (v := .bl false) (b := decide (r = .non)) i5 (k_test (x_isN (e_vx rfl))) (fun _ => e_cx) (fun hN H6 _ g6 => ?_) fun hN H6 i6 g6 => ?_
    · have hN' : r = .non := of_decide_eq_true hN
      subst hN'
      rcases hr5 with ⟨ho, _⟩ | ⟨es, _, h5⟩
      · have := q H6 (g15.trans g6)
        rw [hf, ho] at this
        exact this
      · cases h5
    · rcases hr5 with ⟨_, rfl⟩ | ⟨es, ho, h5⟩
      · exact absurd hN (by decide)
      · cases h5 with
        | @tup a xs _ na ha hl hz hr5 =>
        refine s_retx i6 (allT (ds := es) (xs := xs) (form n) (e_vx rfl) (fun v H7 g7 ev => ⟨a, ev, na, (g6.trans g7) a _ na ha⟩) hz hl (fun _ => rfl) fun i x d E o H7 g7 hE h1 h2 => x_call (a_cons (e_vx rfl) (a_cons (x_to (x_ii (i := ((n + 1 : Nat) : Int)) (j := 1) (e_vx rfl) e_cx) (w := .int (n : Nat)) (by
          show V.int (((n + 1 : Nat) : Int) - 1) = V.int (n : Nat)
          congr 1
          omega)) a_nil)) fun H8 g8 => pu_lev (((hr5 i x d h1 h2).gr (g6.trans g7)).and hE |>.gr g8 |>.non')) fun H7 _ g7 => ?_
        have := q H7 ((g15.trans g6).trans g7)
        rw [hf, ho] at this
        exact this
theorem has_all (E : En K mg) (F : Df K mg "has_levels" s_has_levels) (c_is_name : Ca P w K mg base 2 "is_name" (spD1 nameD)) (c_operands_of : Ca P w K mg base 3 "operands_of" spOps) : ∀ n, Ca P w K mg base (4 + n) "has_levels" (spLow n)
  | 0 => ca_mk F sc_has_levels (fun _ _ _ _ _ _ us hl => match us, hl with | [_, _], _ => rfl) (fun _ _ _ _ h => h.elim) fun _ _ _ _ _ _ _ _ _ _ h => h.elim
  | n + 1 => ok_has_levels E F n (has_all E F c_is_name c_operands_of n) c_is_name c_operands_of
theorem ok_is_expression (E : En K mg) (F : Df K mg "is_expression" s_is_expression) (c_has_levels : Ca P w K mg base 10 "has_levels" (spLev 5)) : Ca P w K mg base 11 "is_expression" (spD1 (form 5)) := by
  refine ca_mk F sc_is_expression (fun _ _ _ _ _ _ us hl => match us, hl with | [_], _ => rfl) spD1_len (fun f cdv A outer s H vs Q E' hr h => ?_)
  obtain ⟨v, d, rfl, hd, q⟩ := h
  refine ⟨_, (pss_one (ps_ret (pe_ca c_has_levels (hr.mono (by first | decide | omega)) (by rfl) (pa_cons (pv 0) (pa_cons (pe_gc (by rfl) E.c_levels) pa_nil))))), ?_⟩
  exact s_retx (Iv.non H) (x_call (ws := [v, .int (5 : Nat)]) (a_cons (e_vx rfl) (a_cons e_cx a_nil)) fun H2 g2 => pu_lev (hd.gr g2)) fun H1 _ g1 => q H1 g1
end
end K10
namespace K10
open PySem PySem.Spec PyProof.Rows L2 Hk
section
variable {P : Program} {w : World} {K : PySem.W.Frag} {mg : Str → Option Value} {base : Heap}
theorem most_ok : ((10 : Int) ^ (50 : Int).toNat) ^ (5 : Int).toNat = tooLong := by decide +kernel
theorem pw1 : CPw 10 50 := ⟨by decide, by decide +kernel⟩
theorem pw2 : CPw ((10 : Int) ^ (50 : Int).toNat) 5 := ⟨by decide, by decide +kernel⟩
theorem x_most {p : Vo} {σ : L2.St} {H : Hp} : Ev p (tOp rPow (tOp rPow (tC (.int 10)) (tC (.int 50))) (tC (.int 5))) σ H (sx (.int tooLong)) :=
  x_to (x_ic (x_ic (i := 10) (j := 50) e_cx e_cx pw1) e_cx pw2) (by show V.int (((10 : Int) ^ (50 : Int).toNat) ^ (5 : Int).toNat) = _; rw [most_ok])
theorem not_pair {wd : Str} (h : decide (V.str wd = V.str "not") = true) : inV (.str wd) (wsP.map V.str) = false := by
  have e : wd = "not" := V.str.inj (of_decide_eq_true h)
  rw [e]
  decide +kernel
theorem ops_cnt {wd : Str} {r : List D} (h1 : decide (V.str wd = V.str "self") = false) (h2 : decide (V.str wd = V.str "tag") = false) : opsD (.str wd :: r) = if (!decide (V.int ((r.length : Nat) : Int) = V.int (cnt wd))) = true then none else some r := by
  have two : ∀ (k m : Int), m = k + 1 → decide (V.int ((r.length : Nat) : Int) = V.int k) = decide (((D.str wd :: r).length : Int) = m) := fun k m em => by
    have e : ((D.str wd :: r).length : Int) = (r.length : Int) + 1 := by rw [List.length_cons]; omega
    rw [e]
    by_cases h : (r.length : Int) = k
    · rw [decide_eq_true (by rw [h]), decide_eq_true (by omega)]
    · rw [decide_eq_false fun z => h (V.int.inj z), decide_eq_false (by omega)]
  rw [opsD_eq, if_neg (by rw [h1]; decide), if_neg (by rw [h2]; decide)]
  by_cases h3 : decide (V.str wd = V.str "not") = true
  · have c : cnt wd = 1 := by unfold cnt; rw [if_neg (by rw [not_pair h3]; decide), if_pos h3]
    rw [if_pos h3, c, two 1 2 rfl]
    cases decide (((D.str wd :: r).length : Int) = 2) <;> rfl
  · rw [if_neg h3]
    by_cases h4 : inV (.str wd) (wsP.map V.str) = true
    · have c : cnt wd = 2 := by unfold cnt; rw [if_pos h4]
      rw [c, two 2 3 rfl, h4]
      cases decide (((D.str wd :: r).length : Int) = 3) <;> rfl
    · have c : cnt wd = -1 := by unfold cnt; rw [if_neg h4, if_neg h3]
      have h5 : decide (((D.str wd :: r).length : Int) = 0) = false := decide_eq_false (by rw [List.length_cons]; omega)
      rw [c, two (-1) 0 rfl, h5, Bool.eq_false_iff.mpr h4]
      rfl
theorem low_call {n : Nat} {p : Vo} {σ : L2.St} {H : Hp} {v : V} {d : D} {i k : Nat} (h1 : σ[i]? = some (some v)) (h2 : σ[k]? = some (some (.int ((n + 1 : Nat) : Int)))) (hd : Dat p H v d) : Ev p (tCall (spLow (n + 1)) [] E0 (tCons (tVar i) (tCons (tOp (rI0 fun i j => .int (i - j)) (tVar k) (tC (.int 1))) tNil))) σ H (sx (.bl (form n d))) :=
  x_call (ws := [v, .int (n : Nat)]) (a_cons (e_vx h1) (a_cons (x_to (x_ii (i := ((n + 1 : Nat) : Int)) (j := 1) (e_vx h2) e_cx) (by
    show V.int (((n + 1 : Nat) : Int) - 1) = V.int (n : Nat)
    congr 1
    omega)) a_nil)) fun H8 g8 => pu_lev (hd.gr g8).non'
/-- the items of a form, one level down -/
theorem all_low {n : Nat} {H : Hp} {v n' m : V} {x : Option V} {b : Addr} {es : List D} (hn : n' = .int ((n + 1 : Nat) : Int)) (h : Dat Vo.non H (.ref b) (.tup es)) :
    Ev Vo.non (tCB (rAll K) (tCons (tLc (iTup K (tVar 3)) (gName 4) tYes (tCall (spLow (n + 1)) [] E0 (tCons (tVar 4) (tCons (tOp (rI0 fun i j => .int (i - j)) (tVar 1) (tC (.int 1))) tNil))) [4]) tNil)) [some v, some n', some m, some (.ref b), x] H (sx (.bl (es.all (form n)))) := by
  subst hn
  cases h with
  | @tup a xs _ na ha hl hz r =>
  exact allT (ds := es) (xs := xs) (form n) (e_vx rfl) (fun v H7 g7 ev => ⟨b, ev, na, g7 b _ na ha⟩) hz hl (fun _ => rfl) fun i x d E o H7 g7 hE h1 h2 => low_call rfl rfl (((r i x d h1 h2).gr g7).and hE)
theorem ok_form_right (E : En K mg) (F : Df K mg "_law_form_right" s__law_form_right) (n : Nat) (c__law_form_right : Ca P w K mg base (4 + n) "_law_form_right" (spLow n)) (c__law_name_right : Ca P w K mg base 2 "_law_name_right" (spD1 nameD)) (c__law_tag_right : Ca P w K mg base 1 "_law_tag_right" (spD1 tagD)) (c__law_count : Ca P w K mg base 1 "_law_count" spCount) : Ca P w K mg base (4 + n + 1) "_law_form_right" (spLev n) := by
  refine ca_mk F sc__law_form_right (fun _ _ _ _ _ _ us hl => match us, hl with | [_, _], _ => rfl) spLev_len (fun f cdv A outer s H vs Q E' hr h => ?_)
  obtain ⟨v, d, rfl, hd, q⟩ := h
  refine ⟨_, (pss_cons (ps_set (i := 2) sc__law_form_right.nd rfl (Or.inl rfl) (pe_op op_powW (pe_op op_powW pe_int pe_int) pe_int))
      (pss_cons (ps_if (pt_cmpR op_eq (pv 1) pe_int (nomark _)) (pss_one (ps_ret pe_bl)) pss_nil)
      (pss_cons (ps_if (pt_val (pe_callB (isiU (K := K) rfl) (by rfl) (E.fr (x := "isinstance") (by decide +kernel)) (by decide +kernel) (pa_cons (pv 0) (pa_cons (pe_bltn (by rfl) (E.fr (x := "bool") (by decide +kernel)) (by decide +kernel) (show RelV (.ty "bool") (.type "bool") from rfl)) pa_nil)))) (pss_one (ps_ret pe_bl)) pss_nil)
      (pss_cons (ps_if (pt_val (pe_callB (isiU (K := K) rfl) (by rfl) (E.fr (x := "isinstance") (by decide +kernel)) (by decide +kernel) (pa_cons (pv 0) (pa_cons (pe_bltn (by rfl) (E.fr (x := "int") (by decide +kernel)) (by decide +kernel) (show RelV (.ty "int") (.type "int") from rfl)) pa_nil)))) (pss_one (ps_ret (pe_chain op_lt op_lt (pe_op op_sub pe_int (pv 2)) (pv 0) (pv 2)))) pss_nil)
      (pss_cons (ps_if (pt_val (pe_callB (isiU (K := K) rfl) (by rfl) (E.fr (x := "isinstance") (by decide +kernel)) (by decide +kernel) (pa_cons (pv 0) (pa_cons (pe_bltn (by rfl) (E.fr (x := "str") (by decide +kernel)) (by decide +kernel) (show RelV (.ty "str") (.type "str") from rfl)) pa_nil)))) (pss_one (ps_ret (pe_ca c__law_name_right (hr.mono (by first | decide | omega)) (by rfl) (pa_cons (pv 0) pa_nil)))) pss_nil)
      (pss_cons (ps_if (PW.pt (pw_or (pt_not (pt_val (pe_callB (isiU (K := K) rfl) (by rfl) (E.fr (x := "isinstance") (by decide +kernel)) (by decide +kernel) (pa_cons (pv 0) (pa_cons (pe_bltn (by rfl) (E.fr (x := "tuple") (by decide +kernel)) (by decide +kernel) (show RelV (.ty "tuple") (.type "tuple") from rfl)) pa_nil))))) (pw_or (pt_cmpR op_eq (pe_callB (lenU (K := K) rfl) (by rfl) (E.fr (x := "len") (by decide +kernel)) (by decide +kernel) (pa_cons (pv 0) pa_nil)) pe_int (nomark _)) (pw_or1 (pt_not (pt_val (pe_callB (isiU (K := K) rfl) (by rfl) (E.fr (x := "isinstance") (by decide +kernel)) (by decide +kernel) (pa_cons (pe_ix (ixU (K := K) rfl) (pv 0) pe_int (fun _ _ => rfl)) (pa_cons (pe_bltn (by rfl) (E.fr (x := "str") (by decide +kernel)) (by decide +kernel) (show RelV (.ty "str") (.type "str") from rfl)) pa_nil))))))))) (pss_one (ps_ret pe_bl)) pss_nil)
      (pss_cons (ps_if (pt_cmpR op_eq (pe_ix (ixU (K := K) rfl) (pv 0) pe_int (fun _ _ => rfl)) pe_str (nomark _)) (pss_one (ps_ret (pe_cmpR op_eq (pe_callB (lenU (K := K) rfl) (by rfl) (E.fr (x := "len") (by decide +kernel)) (by decide +kernel) (pa_cons (pv 0) pa_nil)) pe_int (nomark _)))) pss_nil)
      (pss_cons (ps_set (i := 3) sc__law_form_right.nd rfl (Or.inl rfl) (pe_slice (slU (K := K) rfl) (pv 0) (po_some pe_int) po_none))
      (pss_cons (ps_if (pt_cmpR op_eq (pe_ix (ixU (K := K) rfl) (pv 0) pe_int (fun _ _ => rfl)) pe_str (nomark _)) (pss_cons (ps_if (PW.pt (pw_or (pt_cmpR op_eq (pe_callB (lenU (K := K) rfl) (by rfl) (E.fr (x := "len") (by decide +kernel)) (by decide +kernel) (pa_cons (pv 0) pa_nil)) pe_int (nomark _)) (pw_or1 (pt_not (pt_val (pe_ca c__law_tag_right (hr.mono (by first | decide | omega)) (by rfl) (pa_cons (pe_ix (ixU (K := K) rfl) (pv 0) pe_int (fun _ _ => rfl)) pa_nil))))))) (pss_one (ps_ret pe_bl)) pss_nil)
      (pss_one (ps_set (i := 3) sc__law_form_right.nd rfl (Or.inl rfl) (pe_slice (slU (K := K) rfl) (pv 0) (po_some pe_int) po_none)))) (pss_one (ps_if (pt_cmpR op_ne (pe_callB (lenU (K := K) rfl) (by rfl) (E.fr (x := "len") (by decide +kernel)) (by decide +kernel) (pa_cons (pv 3) pa_nil)) (pe_ca c__law_count (hr.mono (by first | decide | omega)) (by rfl) (pa_cons (pe_ix (ixU (K := K) rfl) (pv 0) pe_int (fun _ _ => rfl)) pa_nil)) (nomark _)) (pss_one (ps_ret pe_bl)) pss_nil)))
      (pss_one (ps_ret (pe_callB (allU (K := K) rfl rfl) (by rfl) (E.fr (x := "all") (by decide +kernel)) (by decide +kernel) (pa_cons (pe_lc (own := [("_law_one", 4)]) (g := gName 4) (tt := tYes) rfl sc__law_form_right.nd (pi_tup (pv 3)) (blkOk_by (own := [("_law_one", 4)]) (N := ["_law_value", "_law_deep", "_law_most", "_law_parts", "_law_one"]) (sc := defScope s__law_form_right) (by decide +kernel)) (fun _ _ _ _ _ => pg_name (i := 4) sc__law_form_right.nd rfl (Or.inl rfl)) (fun _ _ _ _ _ => pts_nil) (fun _ _ _ _ _ => (pe_ca c__law_form_right (hr.mono (by first | decide | omega)) (by rfl) (pa_cons (pv 4) (pa_cons (pe_op op_sub (pv 1) pe_int) pa_nil))))) pa_nil))))))))))))), ?_⟩
  refine q_asgx (v := .int tooLong) (Iv.non H) x_most fun H0 i0 g0 => ?_
  refine q_ifr (v := .bl false) (b := decide (V.int (n : Nat) = V.int 0)) i0 (k_test (x_eq (x := .int (n : Nat)) (y := .int 0) (e_vx rfl) e_cx rfl)) (fun _ => e_cx) (fun e H1 _ g1 => ?_) fun e H1 i1 g01 => ?_
  · have e0 : n = 0 := by
      have : ((n : Nat) : Int) = 0 := V.int.inj (of_decide_eq_true e)
      omega
    subst e0
    exact q H1 (g0.trans g1)
  cases n with
  | zero => cases e
  | succ n =>
  have g1 := g0.trans g01
  refine q_ifr (v := .bl true) (b := d.isB) i1 (k_b (x_isiD (e_vx rfl) (hd.gr g1) (kit_b d))) (fun _ => e_cx) (fun hB H2 _ g2 => ?_) fun hB H2 i2 g2 => ?_
  · have := q H2 (g1.trans g2)
    rw [show form (n + 1) d = true from by cases d <;> first | rfl | cases hB] at this
    exact this
  have g12 := g1.trans g2
  refine q_ifr (v := .bl (intIn d)) (b := d.isI) i2 (k_b (x_isiD (e_vx rfl) (hd.gr g12) (kit_i d))) (fun hI => ?_) (fun hI H3 _ g3 => ?_) fun hI H3 i3 g3 => ?_
  · obtain ⟨i, rfl, rfl⟩ := dat_int hd hI hB
    exact x_chainI (i := -tooLong) (j := i) (k := tooLong) (g := fun i j => decide (i < j)) (g' := fun i j => decide (i < j)) (x_to (x_ii (i := 0) (j := tooLong) e_cx (e_vx rfl)) (by show V.int (0 - tooLong) = _; rw [Int.zero_sub])) (e_vx rfl) (e_vx rfl) (fun H1 iv => r_ltI iv) fun H1 iv => r_ltI iv
  · obtain ⟨i, rfl, rfl⟩ := dat_int hd hI hB
    exact q H3 (g12.trans g3)
  have g13 := g12.trans g3
  refine q_ifr (v := .bl (nameD d)) (b := d.isS) i3 (k_b (x_isiD (e_vx rfl) (hd.gr g13) (kit_s d))) (fun hS => x_call (a_cons (e_vx rfl) a_nil) fun H4 g4 => pu_D1 (hd.gr (g13.trans g4))) (fun hS H4 _ g4 => ?_) fun hS H4 i4 g4 => ?_
  · have := q H4 (g13.trans g4)
    rw [show form (n + 1) d = nameD d from by cases d <;> first | rfl | cases hS] at this
    exact this
  have g14 := g13.trans g4
  have hf := form_rest (n := n) hB hI hS
  -- what is no tuple, or has no word in front
  have out : opsO d = none → ∀ H', Gr Vo.non H H' → Q (.bl false) H' := fun ho H' g' => by
    have := q H' g'
    rw [hf, ho] at this
    exact this
  cases hT : d.isT with
  | false =>
    refine q_ifr (v := .bl false) (b := true) i4 (k_to (k_or (b := true) (k_not (k_b (x_isiD (e_vx rfl) (hd.gr g14) (kit_t d)))) fun e => absurd e (by rw [hT]; decide)) (by rw [hT]; rfl)) (fun _ => e_cx) (fun _ H5 _ g5 => out (by cases d <;> first | rfl | cases hT) H5 (g14.trans g5)) fun e => (nomatch e)
  | true =>
  obtain ⟨ds, rfl⟩ := dat_tup hd hT
  have hd0 := hd
  cases hd with
  | @tup a xs _ na ha hl hz r =>
  have isq : ∀ {H0}, Gr Vo.non H H0 → ∀ v H1, Gr Vo.non H0 H1 → (sx (p := Vo.non) (.ref a)).P v H1 → ∃ a, v = .ref a ∧ (SqL K H1 a xs ∨ SqT K H1 a xs) := fun g0 v H1 g e => ⟨a, e, .inr (SqT.of ((g0.trans g) a _ na ha))⟩
  cases ds with
  | nil =>
    obtain rfl : xs = [] := List.length_eq_zero_iff.mp hl
    refine q_ifr (v := .bl false) (b := true) i4 (k_to (k_or (b := true) (k_not (k_b (x_isiD (e_vx rfl) (hd0.gr g14) (kit_t _)))) fun _ => k_to (k_or (a := true) (b := true) (k_test (x_eq (x := .int 0) (y := .int 0) (x_lenQ (xs := []) (e_vx rfl) (isq g14)) e_cx rfl)) fun e => (nomatch e)) rfl) rfl) (fun _ => e_cx) (fun _ H5 _ g5 => out rfl H5 (g14.trans g5)) fun e => (nomatch e)
  | cons d0 ds =>
  cases xs with
  | nil => cases hl
  | cons v0 xs =>
  have r0 : Dat Vo.non H v0 d0 := r 0 v0 d0 rfl rfl
  have at0' : atI (v0 :: xs) 0 = some v0 := atI_nat (j := 0) rfl
  have nz : decide (V.int (((v0 :: xs).length : Nat) : Int) = V.int 0) = false := decide_eq_false fun z => by
    have := V.int.inj z
    rw [List.length_cons] at this
    omega
  cases hS0 : d0.isS with
  | false =>
    refine q_ifr (v := .bl false) (b := true) i4 (k_to (k_or (b := true) (k_not (k_b (x_isiD (e_vx rfl) (hd0.gr g14) (kit_t _)))) fun _ => k_to (k_or (b := true) (k_to (k_test (x_eq (x := .int (((v0 :: xs).length : Nat) : Int)) (y := .int 0) (x_lenQ (xs := v0 :: xs) (e_vx rfl) (isq g14)) e_cx rfl)) nz) fun _ => k_to (k_not (k_b (x_isiD (d := d0) (x_ixQ (xs := v0 :: xs) (e_vx rfl) (isq g14) e_cx at0') (r0.gr g14) (kit_s d0)))) (by rw [hS0]; rfl)) rfl) rfl) (fun _ => e_cx) (fun _ H5 _ g5 => out (by show opsD (d0 :: ds) = none; cases d0 <;> first | rfl | cases hS0) H5 (g14.trans g5)) fun e => (nomatch e)
  | true =>
  obtain ⟨wd, rfl, rfl, hwz⟩ := dat_str r0 hS0
  refine q_ifr (v := .bl false) (b := false) i4 (k_to (k_or (b := false) (k_not (k_b (x_isiD (e_vx rfl) (hd0.gr g14) (kit_t _)))) fun _ => k_to (k_or (b := false) (k_to (k_test (x_eq (x := .int (((V.str wd :: xs).length : Nat) : Int)) (y := .int 0) (x_lenQ (xs := V.str wd :: xs) (e_vx rfl) (isq g14)) e_cx rfl)) nz) fun _ => k_to (k_not (k_b (x_isiD (d := .str wd) (x_ixQ (xs := V.str wd :: xs) (e_vx rfl) (isq g14) e_cx at0') (r0.gr g14) (kit_s _)))) rfl) rfl) rfl) (fun _ => e_cx) (fun e => (nomatch e)) fun _ H5 i5 g5 => ?_
  have g15 := g14.trans g5
  have tw : ∀ {σ : L2.St} {H6 : Hp} (g6 : Gr Vo.non H H6) (t : Str), σ[0]? = some (some (.ref a)) → Tis Vo.non (tTest (tOp rEq (tOp (rIx K) (tVar 0) (tC (.int 0))) (tC (.str t)))) σ H6 (decide (V.str wd = V.str t)) := fun {σ H6} g6 t hσ => k_test (x_eq (x := .str wd) (y := .str t) (x_ixQ (xs := V.str wd :: xs) (e_vx hσ) (isq g6) e_cx at0') e_cx rfl)
  have len : decide (V.int (((V.str wd :: xs).length : Nat) : Int) = V.int 1) = decide (((D.str wd :: ds).length : Int) = 1) := by
    rw [hl]
    by_cases hh : (((D.str wd :: ds).length : Nat) : Int) = 1
    · rw [decide_eq_true hh, decide_eq_true (by rw [hh])]
    · rw [decide_eq_false hh, decide_eq_false fun z => hh (V.int.inj z)]
  have xlen : ∀ {σ : L2.St} {H6 : Hp} (g6 : Gr Vo.non H H6), σ[0]? = some (some (.ref a)) → Ev Vo.non (tOp rEq (tCB (rLenK K) (tCons (tVar 0) tNil)) (tC (.int 1))) σ H6 (sx (.bl (decide (((D.str wd :: ds).length : Int) = 1)))) := fun {σ H6} g6 hσ => x_to (x_eq (x := .int (((V.str wd :: xs).length : Nat) : Int)) (y := .int 1) (x_lenQ (xs := V.str wd :: xs) (e_vx hσ) (isq g6)) e_cx rfl) (by rw [len])
  -- self
  refine q_ifr (v := .bl (decide (((D.str wd :: ds).length : Int) = 1))) (b := decide (V.str wd = V.str "self")) i5 (tw g15 "self" rfl) (fun _ => xlen g15 rfl) (fun e H6 _ g6 => ?_) fun e H6 i6 g6 => ?_
  · have := q H6 (g15.trans g6)
    rw [hf, show opsO (.tup (.str wd :: ds)) = opsD (.str wd :: ds) from rfl, opsD_eq, if_pos e] at this
    cases hh : decide (((D.str wd :: ds).length : Int) = 1) with
    | true => rw [hh, if_pos rfl] at this; exact this
    | false => rw [hh, if_neg (by decide)] at this; exact this
  have g16 := g15.trans g6
  have last : ∀ {H7 : Hp} {v n' m : V} {x : Option V} {b : Addr} {es : List D}, Gr Vo.non H H7 → Iv Vo.non H7 → n' = .int ((n + 1 : Nat) : Int) → Dat Vo.non H7 (.ref b) (.tup es) → opsD (.str wd :: ds) = some es →
      tRet (tCB (rAll K) (tCons (tLc (iTup K (tVar 3)) (gName 4) tYes (tCall (spLow (n + 1)) [] E0 (tCons (tVar 4) (tCons (tOp (rI0 fun i j => .int (i - j)) (tVar 1) (tC (.int 1))) tNil))) [4]) tNil)) { nx := fun _ H' => Q .non H', rt := Q } [some v, some n', some m, some (.ref b), x] H7 := fun {H7 v n' m x b es} g7 i7 hn h7 ho => s_retx i7 (all_low hn h7) fun H8 _ g8 => by
    have := q H8 (g7.trans g8)
    rw [hf, show opsO (.tup (.str wd :: ds)) = opsD (.str wd :: ds) from rfl, ho] at this
    exact this
  -- parts = value[1:]
  refine q_asg (A := stx (cutV (V.str wd :: xs) (some 1) none)) i6 (x_slT (xs := V.str wd :: xs) (lo := some 1) (hi := none) (e_vx rfl) (fun v H1 g e => ⟨a, e, SqT.of ((g16.trans g) a _ na ha)⟩) (fun _ _ q => o_int q) (fun _ _ q => o_none q) (not_whole 1 (by decide) (by rw [List.length_cons]; omega))) fun x H7 i7 g7 h7 => ?_
  have g17 := g16.trans g7
  have d7 : Dat Vo.non H7 x (.tup ds) := dat_from 1 hl hz r g17 h7
  obtain ⟨b, ws, rfl, nb, hb, rfl⟩ := h7
  have eb : cutV (V.str wd :: xs) (some 1) none = xs := cut_from 1
  rw [eb] at hb
  refine q_if (B := fun c => c = decide (V.str wd = V.str "tag")) i7 (tw g17 "tag" rfl) (fun e2 H8 i8 g8 => ?_) fun e2 H8 i8 g8 => ?_
  · have g18 := g17.trans g8
    cases ds with
    | nil =>
      obtain rfl : xs = [] := List.length_eq_zero_iff.mp (Nat.succ.inj hl)
      refine q_ifr (v := .bl false) (b := true) i8 (k_to (k_or (a := true) (b := true) (k_test (x_to (xlen g18 rfl) rfl)) fun z => (nomatch z)) rfl) (fun _ => e_cx) (fun _ H9 _ g9 => out ?_ H9 (g18.trans g9)) fun z => (nomatch z)
      show opsD [.str wd] = none
      rw [opsD_eq, if_neg (by rw [e]; decide), if_pos e2.symm]
    | cons t es =>
      cases xs with
      | nil => cases hl
      | cons v1 xs =>
      have r1 : Dat Vo.non H v1 t := r 1 v1 t rfl rfl
      have ho : opsD (.str wd :: t :: es) = if tagD t = true then some es else none := by rw [opsD_eq, if_neg (by rw [e]; decide), if_pos e2.symm]
      refine q_ifr (v := .bl false) (b := !tagD t) i8 (k_to (k_or (a := false) (k_test (x_to (xlen g18 rfl) (by rw [decide_eq_false (by rw [List.length_cons, List.length_cons]; omega)]))) fun _ => k_not (k_b (x_call (ws := [v1]) (a_cons (x_ixQ (xs := V.str wd :: v1 :: xs) (e_vx rfl) (isq g18) e_cx (atI_nat (j := 1) rfl)) a_nil) fun H9 g9 => pu_D1 (r1.gr (g18.trans g9))))) rfl) (fun _ => e_cx) (fun z H9 _ g9 => out (by show opsD (.str wd :: t :: es) = none; rw [ho, if_neg (by rw [(Bool.not_eq_true' _).mp z]; decide)]) H9 (g18.trans g9)) fun z H9 i9 g9 => ?_
      have g19 := g18.trans g9
      refine s_asg (A := stx (cutV (V.str wd :: v1 :: xs) (some 2) none)) i9 (x_slT (xs := V.str wd :: v1 :: xs) (lo := some 2) (hi := none) (e_vx rfl) (fun v H1 g e => ⟨a, e, SqT.of ((g19.trans g) a _ na ha)⟩) (fun _ _ q => o_int q) (fun _ _ q => o_none q) (not_whole 2 (by decide) (by rw [List.length_cons]; omega))) fun x H10 i10 g10 h10 => ?_
      have d10 : Dat Vo.non H10 x (.tup es) := dat_from 2 hl hz r (g19.trans g10) h10
      obtain ⟨b2, ws, rfl, nb2, hb2, rfl⟩ := h10
      exact last (g19.trans g10) i10 rfl d10 (by rw [ho, if_pos (by cases ht : tagD t <;> rw [ht] at z <;> first | rfl | cases z)])
  · have g18 := g17.trans g8
    have ho := ops_cnt (r := ds) e e2.symm
    have hlx : xs.length = ds.length := Nat.succ.inj hl
    refine s_ifr (b := !decide (V.int ((ds.length : Nat) : Int) = V.int (cnt wd))) (v := .bl false) i8 (k_test (x_to (x_ne (x := .int ((xs.length : Nat) : Int)) (y := .int (cnt wd)) (x_lenQ (xs := xs) (e_vx rfl) (fun v H1 g e => ⟨b, e, .inr (SqT.of ((g8.trans g) b _ nb hb))⟩)) (x_call (ws := [V.str wd]) (a_cons (x_ixQ (xs := V.str wd :: xs) (e_vx rfl) (isq g18) e_cx at0') a_nil) fun H9 g9 Q E k => ⟨wd, rfl, k⟩) rfl) (by rw [hlx]))) (fun _ => e_cx) (fun z H9 _ g9 => out (by show opsD (.str wd :: ds) = none; rw [ho, if_pos z]) H9 (g18.trans g9)) fun z H9 i9 g9 => ?_
    exact last (g18.trans g9) i9 rfl (d7.gr (g8.trans g9)) (by rw [ho, if_neg (by rw [z]; decide)])
theorem form_all (E : En K mg) (F : Df K mg "_law_form_right" s__law_form_right) (c__law_name_right : Ca P w K mg base 2 "_law_name_right" (spD1 nameD)) (c__law_tag_right : Ca P w K mg base 1 "_law_tag_right" (spD1 tagD)) (c__law_count : Ca P w K mg base 1 "_law_count" spCount) : ∀ n, Ca P w K mg base (4 + n) "_law_form_right" (spLow n)
  | 0 => ca_mk F sc__law_form_right (fun _ _ _ _ _ _ us hl => match us, hl with | [_, _], _ => rfl) (fun _ _ _ _ h => h.elim) fun _ _ _ _ _ _ _ _ _ _ h => h.elim
  | n + 1 => ok_form_right E F n (form_all E F c__law_name_right c__law_tag_right c__law_count n) c__law_name_right c__law_tag_right c__law_count
end
end K10
namespace K10
open PySem PySem.Spec PyProof.Rows L2 Hk
section
variable {P : Program} {w : World} {K : PySem.W.Frag} {mg : Str → Option Value} {base : Heap}
theorem x_int1 {p : Vo} {σ : L2.St} {H : Hp} {ta : TE} {c : Int → Prop} (ha : Ev p ta σ H (si c)) : Ev p (tCB (fun xs H Q => (∃ i, xs = [.int i] ∧ Q (.int i) H) ∨ ∃ k : Bool, xs = [.bl k] ∧ Q (.int (if k then 1 else 0)) H) (tCons ta tNil)) σ H (si c) := e_cb (a_cons ha a_nil) fun vs H1 iv g os => by
  obtain ⟨v, ws, rfl, ⟨i, rfl, hi⟩, rfl⟩ := os
  exact rv iv ⟨i, rfl, hi⟩ fun Q q => .inl ⟨i, rfl, q⟩
theorem e_i2 {p : Vo} {σ : L2.St} {H : Hp} {ta tb : TE} {c d e : Int → Prop} {r : R2} (ha : Ev p ta σ H (si c)) (hb : Ev p tb σ H (si d)) (hr : ∀ i j H1, Iv p H1 → c i → d j → Rv p (r (.int i) (.int j)) H1 (si e)) : Ev p (tOp r ta tb) σ H (si e) :=
  e_op ha hb fun x y H1 iv g ⟨i, ei, hi⟩ ⟨j, ej, hj⟩ => by rw [ei, ej]; exact hr i j H1 iv hi hj
theorem r_mul {p : Vo} {i j : Int} {H1 : Hp} {e : Int → Prop} (iv : Iv p H1) (hc : CMul i j) (he : e (i * j)) : Rv p (rMulU (.int i) (.int j)) H1 (si e) := rv iv ⟨_, rfl, he⟩ fun Q q => .inl ⟨i, j, rfl, rfl, hc, q⟩
theorem r_add {p : Vo} {i j : Int} {H1 : Hp} {e : Int → Prop} (iv : Iv p H1) (he : e (i + j)) : Rv p (rAddU (.int i) (.int j)) H1 (si e) := rv iv ⟨_, rfl, he⟩ fun Q q => .inl ⟨i, j, rfl, rfl, q⟩
theorem r_ic {p : Vo} {c : Int → Int → Prop} {g : Int → Int → Int} {i j : Int} {H1 : Hp} {e : Int → Prop} (iv : Iv p H1) (hc : c i j) (he : e (g i j)) : Rv p (rI c (fun i j => .int (g i j)) (.int i) (.int j)) H1 (si e) := rv iv ⟨_, rfl, he⟩ fun Q q => ⟨i, j, rfl, rfl, hc, q⟩
theorem r_i0 {p : Vo} {g : Int → Int → Int} {i j : Int} {H1 : Hp} {e : Int → Prop} (iv : Iv p H1) (he : e (g i j)) : Rv p (rI0 (fun i j => .int (g i j)) (.int i) (.int j)) H1 (si e) := rv iv ⟨_, rfl, he⟩ fun Q q => ⟨i, j, rfl, rfl, q⟩
theorem e_ci {p : Vo} {σ : L2.St} {H : Hp} {i : Int} {c : Int → Prop} (h : c i) : Ev p (tC (.int i)) σ H (si c) := e_c ⟨i, rfl, h⟩
/-- % by a written positive number -/
theorem e_mod {p : Vo} {σ : L2.St} {H : Hp} {ta tb : TE} {m : Int} {c : Int → Prop} (ha : Ev p ta σ H (si c)) (hb : Ev p tb σ H (sx (.int m))) (h0 : 0 < m) : Ev p (tOp (rI (fun _ j => 0 < j) fun i j => .int (i % j)) ta tb) σ H (si fun i => 0 ≤ i ∧ i < m) :=
  e_i2 (d := fun j => j = m) ha (hb.imp fun v _ e => ⟨m, e, rfl⟩) fun i j H1 iv _ ej => by
    subst ej
    exact r_ic (g := fun i j => i % j) iv h0 ⟨Int.emod_nonneg _ (by omega), Int.emod_lt_of_pos _ h0⟩
theorem mul_small {i j : Int} (h0 : 0 ≤ i) (h1 : i < 2147483648) : CMul i j := .inl ⟨by omega, by omega⟩
theorem ok_draw (E : En K mg) (F : Df K mg "_law_draw" s__law_draw) : Ca P w K mg base 1 "_law_draw" spDraw := by
  refine ca_mk F sc__law_draw (fun _ _ _ _ _ _ us hl => match us, hl with | [_, _], _ => rfl) (fun vs H Q E h => by obtain ⟨p, a, _, _, ⟨n, rfl, _⟩, _⟩ := h; rfl) (fun f cdv A outer s H vs Q E' hr h => ?_)
  obtain ⟨p, a, hp, iv, ⟨n, rfl, n0, n1⟩, q⟩ := h
  obtain ⟨⟨x, y, hxy, x0, y0, y1⟩, hex⟩ := iv.pot a hp
  refine ⟨_, (pss_cons (ps_if (pt_cmpR op_gt (pe_ix (ixU (K := K) rfl) (pv 0) pe_int (fun _ _ => rfl)) pe_int (nomark _)) (pss_cons (ps_asg (pe_callB call_divmodS (by rfl) (E.fr (x := "divmod") (by decide +kernel)) (by decide +kernel) (pa_cons (pe_ix (ixU (K := K) rfl) (pv 0) pe_int (fun _ _ => rfl)) (pa_cons (pv 1) pa_nil))) (pg_tup rfl (pgs_cons (pg_sub (pv 0) pe_int set_list) (pgs_cons (pg_name (i := 2) sc__law_draw.nd rfl (Or.inl rfl)) pgs_nil))))
      (pss_one (ps_ret (pv 2)))) pss_nil)
      (pss_cons (ps_asg (pe_op op_mod (pe_callTy call_int1 (by rfl) (E.fr (x := "int") (by decide +kernel)) (by decide +kernel) (pa_cons (pe_op op_addU (pe_op op_mulU (pe_ix (ixU (K := K) rfl) (pv 0) pe_int (fun _ _ => rfl)) pe_int) pe_int) pa_nil)) pe_int) (pg_sub (pv 0) pe_int set_list))
      (pss_one (ps_ret (pe_op op_mod (pe_callTy call_int1 (by rfl) (E.fr (x := "int") (by decide +kernel)) (by decide +kernel) (pa_cons (pe_op op_fdiv (pe_op op_mod (pe_callTy call_int1 (by rfl) (E.fr (x := "int") (by decide +kernel)) (by decide +kernel) (pa_cons (pe_op op_mulU (pe_ix (ixU (K := K) rfl) (pv 0) pe_int (fun _ _ => rfl)) (pe_ix (ixU (K := K) rfl) (pv 0) pe_int (fun _ _ => rfl))) pa_nil)) pe_int) pe_int) pa_nil)) (pv 1)))))), ?_⟩
  have isq : ∀ {H0}, Gr Vo.non H H0 → ∀ v H1, Gr Vo.non H0 H1 → (sx (p := Vo.non) (.ref a)).P v H1 → ∃ a, v = .ref a ∧ (SqL K H1 a [.int x, .int y] ∨ SqT K H1 a [.int x, .int y]) := fun g0 v H1 g e => ⟨a, e, .inl (SqL.of ((g0.trans g) a _ (nv_non a) hxy))⟩
  -- behind all: the pot holds x', y'
  have fin : ∀ {H1 : Hp} (x' y' r : Int), Gr Vo.non H H1 → 0 ≤ x' → 0 ≤ y' → y' < 2147483648 → 0 ≤ r → r < n → ∀ {H2 : Hp}, Gr Vo.non (upd H1 a (.lst [.int x', .int y'])) H2 → Q (.int r) H2 := fun {H1} x' y' r g1 hx hy hy' h0 h1 {H2} g2 => by
    have po : Pot (upd H1 a (.lst [.int x', .int y'])) a := ⟨x', y', upd_same, hx, hy, hy'⟩
    have ga : Gr (Vo.of a) H (upd H1 a (.lst [.int x', .int y'])) := fun b o nb hb => by
      rw [upd_ne (show b ≠ a from fun e => nb.1 (by rw [e]; rfl))]
      exact g1 b o (nv_non b) hb
    exact q _ H2 ((iv.drawn hp po ga).grow g2) ((Gr.drawn hp ga).trans g2.pure) ⟨r, rfl, n, rfl, h0, h1⟩
  refine q_if (p := Vo.non) (B := fun b => b = decide ((0 : Int) < x)) (Iv.non H) (k_test (x_ii (i := x) (j := 0) (x_ixQ (xs := [.int x, .int y]) (e_vx rfl) (isq (Gr.refl H)) e_cx (atI_nat (j := 0) rfl)) e_cx)) (fun _ H1 i1 g1 => ?_) fun _ H1 i1 g1 => ?_
  · have hd : Ev Vo.non (tCB rDm (tCons (tOp (rIx K) (tVar 0) (tC (.int 0))) (tCons (tVar 1) tNil))) [some (.ref a), some (.int n), none] H1 (stx [.int (x / n), .int (x % n)]) := e_cb (a_cons (x_ixQ (xs := [.int x, .int y]) (e_vx rfl) (isq g1) e_cx (atI_nat (j := 0) rfl)) (a_cons (e_vx rfl) a_nil)) fun vs H2 iv2 g2 os => by
      obtain ⟨v, ws, rfl, e1, v2, ws2, rfl, e2, rfl⟩ := os
      exact rv_new iv2 (fun b nb hb i' g' => ⟨b, _, rfl, nb, upd_same, rfl⟩) fun Q q => ⟨x, n, by rw [show v = _ from e1, show v2 = _ from e2], ⟨n0, n1⟩, q⟩
    refine hd H1 i1 (Gr.refl H1) _ fun v H2 _ g2 hv => ?_
    obtain ⟨b, ws, rfl, _, hb, rfl⟩ := hv
    have g12 := g1.trans g2
    refine ⟨b, _, rfl, SqT.of hb, rfl, .int (x / n), [.int (x % n)], rfl, .ref a, rfl, a, [.int x, .int y], 0, 0, rfl, rfl, g12 a _ (nv_non a) hxy, rfl, .int (x % n), [], rfl, rfl, ?_⟩
    refine ⟨.int (x % n), rfl, ?_⟩
    exact fin (x / n) y (x % n) g12 (Int.ediv_nonneg x0 (by omega)) y0 y1 (Int.emod_nonneg _ (by omega)) (Int.emod_lt_of_pos _ n0) (Gr.refl _)
  · have h1 : Ev Vo.non (tOp (rI (fun _ j => 0 < j) fun i j => .int (i % j)) (tCB (fun xs H Q => (∃ i, xs = [.int i] ∧ Q (.int i) H) ∨ ∃ k : Bool, xs = [.bl k] ∧ Q (.int (if k then 1 else 0)) H) (tCons (tOp rAddU (tOp rMulU (tOp (rIx K) (tVar 0) (tC (.int 1))) (tC (.int 48271))) (tC (.int 10037))) tNil)) (tC (.int 2147483587))) [some (.ref a), some (.int n), none] H1 (si fun i => 0 ≤ i ∧ i < 2147483587) :=
      e_mod (c := fun _ => True) (x_int1 (e_i2 (c := fun _ => True) (d := fun _ => True) (e_i2 (c := fun i => i = y) (d := fun _ => True) ((x_ixQ (xs := [.int x, .int y]) (e_vx rfl) (isq g1) e_cx (atI_nat (j := 1) rfl)).imp fun v _ e => ⟨y, e, rfl⟩) (e_ci trivial) fun i j H2 iv ei _ => r_mul iv (mul_small (by rw [ei]; exact y0) (by rw [ei]; exact y1)) trivial) (e_ci trivial) fun i j H2 iv _ _ => r_add iv trivial)) e_cx (by decide)
    refine h1 H1 i1 (Gr.refl H1) _ fun v H2 _ g2 hv => ?_
    obtain ⟨y', rfl, z0, z1⟩ := hv
    have g12 := g1.trans g2
    refine ⟨.ref a, rfl, a, [.int x, .int y], 1, 1, rfl, rfl, g12 a _ (nv_non a) hxy, rfl, ?_⟩
    have isq2 : ∀ v H3, Gr Vo.non (upd H2 a (.lst [.int x, .int y'])) H3 → (sx (p := Vo.non) (.ref a)).P v H3 → ∃ a, v = .ref a ∧ (SqL K H3 a [.int x, .int y'] ∨ SqT K H3 a [.int x, .int y']) := fun v H3 g e => ⟨a, e, .inl (SqL.of (g a _ (nv_non a) upd_same))⟩
    have rd : ∀ {σ : L2.St}, σ[0]? = some (some (.ref a)) → Ev Vo.non (tOp (rIx K) (tVar 0) (tC (.int 1))) σ (upd H2 a (.lst [.int x, .int y'])) (si fun i => i = y') := fun hσ => (x_ixQ (xs := [.int x, .int y']) (e_vx hσ) isq2 e_cx (atI_nat (j := 1) rfl)).imp fun v _ e => ⟨y', e, rfl⟩
    refine s_ret (p := Vo.non) (A := si fun i => 0 ≤ i ∧ i < n) (Iv.non _) (e_mod (c := fun _ => True) (x_int1 (e_i2 (c := fun i => 0 ≤ i ∧ i < 2147483563) (d := fun j => j = 7) (e_mod (c := fun _ => True) (x_int1 (e_i2 (rd rfl) (rd rfl) fun i j H3 iv ei ej => r_mul iv (mul_small (by rw [ei]; exact z0) (by rw [ei]; omega)) trivial)) e_cx (by decide)) (e_ci rfl) fun i j H3 iv ei ej => r_ic (g := fun i j => i / j) iv (by rw [ej]; exact ⟨by decide, by decide⟩) trivial)) (e_vx rfl) n0) fun v H3 _ g3 hv => ?_
    obtain ⟨r, rfl, r0, r1⟩ := hv
    exact fin x y' r g12 x0 z0 (by omega) r0 r1 g3
end
end K10
namespace K10
open PySem PySem.Spec PyProof.Rows L2 Hk
def spPot (K : PySem.W.Frag) : Sp := fun vs H Q _ => ∃ (sc : Addr) (ns : List Int) (k : Int), vs = [.ref sc, .int k] ∧ SqL K H sc (ns.map V.int) ∧ 0 ≤ k ∧ k ≤ 1000 ∧ ∀ b H', Gr Vo.non H H' → H b = none → Pot H' b → Q (.ref b) H'
theorem bits34 {i : Int} (h0 : 0 ≤ i) (h1 : i < 10000000000) : Builtin.Int.intBits i ≤ 40 := by
  unfold Builtin.Int.intBits
  by_cases h : (i == 0) = true
  · rw [if_pos h]; decide
  · rw [if_neg h]
    have hn : i.natAbs ≠ 0 := fun z => h (by rw [Int.natAbs_eq_zero.mp z]; rfl)
    have := (Nat.log2_lt hn (k := 39)).mpr (by omega)
    omega
section
variable {P : Program} {w : World} {K : PySem.W.Frag} {mg : Str → Option Value} {base : Heap}
theorem x_abs {p : Vo} {σ : L2.St} {H : Hp} {ta : TE} {c : Int → Prop} {e : Int → Prop} (ha : Ev p ta σ H (si c)) (he : ∀ i, c i → e (if i < 0 then -i else i)) : Ev p (tCB (fun xs H Q => ∃ i, xs = [.int i] ∧ Q (.int (if i < 0 then -i else i)) H) (tCons ta tNil)) σ H (si e) := e_cb (a_cons ha a_nil) fun vs H1 iv g os => by
  obtain ⟨v, ws, rfl, ⟨i, rfl, hi⟩, rfl⟩ := os
  exact rv iv ⟨_, rfl, he i hi⟩ fun Q q => ⟨i, rfl, q⟩
theorem x_max {p : Vo} {σ : L2.St} {H : Hp} {ta tb : TE} {c d e : Int → Prop} (ha : Ev p ta σ H (si c)) (hb : Ev p tb σ H (si d)) (he : ∀ i j, c i → d j → e (if j > i then j else i)) : Ev p (tCB (fun xs H Q => ∃ i j, xs = [.int i, .int j] ∧ Q (.int (if j > i then j else i)) H) (tCons ta (tCons tb tNil))) σ H (si e) := e_cb (a_cons ha (a_cons hb a_nil)) fun vs H1 iv g os => by
  obtain ⟨v, ws, rfl, ⟨i, rfl, hi⟩, v2, ws2, rfl, ⟨j, rfl, hj⟩, rfl⟩ := os
  exact rv iv ⟨_, rfl, he i j hi hj⟩ fun Q q => ⟨i, j, rfl, q⟩
theorem pw18 : CPw 10 18 := ⟨by decide, by decide +kernel⟩
theorem e_sub {p : Vo} {σ : L2.St} {H : Hp} {ta tb : TE} {c d : Int → Prop} (ha : Ev p ta σ H (si c)) (hb : Ev p tb σ H (si d)) : Ev p (tOp (rI0 fun i j => .int (i - j)) ta tb) σ H (si fun _ => True) := e_i2 ha hb fun i j H1 iv _ _ => r_i0 (g := fun i j => i - j) iv trivial
theorem ok_pot (E : En K mg) (F : Df K mg "_law_pot" s__law_pot) : Ca P w K mg base 1 "_law_pot" (spPot K) := by
  refine ca_mk F sc__law_pot (fun _ _ _ _ _ _ us hl => match us, hl with | [_, _], _ => rfl) (fun vs H Q E h => by obtain ⟨sc, ns, k, rfl, _⟩ := h; rfl) (fun f cdv A outer s H vs Q E' hr h => ?_)
  obtain ⟨sc, ns, k, rfl, hS, k0, k1, q⟩ := h
  refine ⟨_, (pss_cons (ps_set (i := 2) sc__law_pot.nd rfl (Or.inl rfl) pe_int)
      (pss_cons (ps_if (pt_cmpR op_lt (pv 1) (pe_callB (lenU (K := K) rfl) (by rfl) (E.fr (x := "len") (by decide +kernel)) (by decide +kernel) (pa_cons (pv 0) pa_nil)) (nomark _)) (pss_one (ps_set (i := 2) sc__law_pot.nd rfl (Or.inl rfl) (pe_callB call_abs (by rfl) (E.fr (x := "abs") (by decide +kernel)) (by decide +kernel) (pa_cons (pe_ix (ixU (K := K) rfl) (pv 0) (pv 1) (fun _ _ => rfl)) pa_nil)))) pss_nil)
      (pss_one (ps_ret (pe_lst (pa_cons (pe_callB (call_max2 rfl) (by rfl) (E.fr (x := "max") (by decide +kernel)) (by decide +kernel) (pa_cons pe_int (pa_cons (pe_op op_sub (pv 2) (pe_op op_powW pe_int pe_int)) pa_nil))) (pa_cons (pe_op op_addU (pe_op op_mod (pe_callTy call_int1 (by rfl) (E.fr (x := "int") (by decide +kernel)) (by decide +kernel) (pa_cons (pe_op op_powW (pe_callTy call_int1 (by rfl) (E.fr (x := "int") (by decide +kernel)) (by decide +kernel) (pa_cons (pe_op op_addU (pe_op op_addU (pe_op op_mod (pe_callTy call_int1 (by rfl) (E.fr (x := "int") (by decide +kernel)) (by decide +kernel) (pa_cons (pv 2) pa_nil)) pe_int) (pe_op op_mulU pe_int (pv 1))) pe_int) pa_nil)) pe_int) pa_nil)) pe_int) pe_int) pa_nil))))))), ?_⟩
  have seq : ∀ {H1}, Gr Vo.non H H1 → SqL K H1 sc (ns.map V.int) := fun {H1} g => by
    rcases hS with (h | ⟨o, h⟩) | h
    · exact .inl (.inl (g _ _ (nv_non _) h))
    · exact .inl (.inr ⟨o, g _ _ (nv_non _) h⟩)
    · exact .inr h
  refine q_asgx (v := .int 0) (Iv.non H) e_cx fun H1 i1 g1 => ?_
  refine q_ifj (p := Vo.non) (B := fun b => b = decide (k < ((ns.map V.int).length : Int))) (fun σ' H' => ∃ c : Int, 0 ≤ c ∧ σ' = [some (.ref sc), some (.int k), some (.int c)] ∧ Gr Vo.non H H') i1 (k_test (x_ii (i := k) (j := ((ns.map V.int).length : Int)) (e_vx rfl) (x_lenQ (xs := ns.map V.int) (e_vx rfl) fun v H2 g e => ⟨sc, e, .inl (seq (g1.trans g))⟩))) (fun N hN b H2 i2 g2 => ?_) (fun _ H2 _ g2 => ⟨0, Int.le_refl 0, rfl, g1.trans g2⟩) ?_
  · have hk : k < ((ns.map V.int).length : Int) := of_decide_eq_true b.symm
    obtain ⟨v, hm, hat⟩ := at_in k0 hk
    obtain ⟨n, _, rfl⟩ := List.mem_map.mp hm
    refine s_asg (A := si fun i => 0 ≤ i) i2 (x_abs (c := fun _ => True) ((x_ixQ (xs := ns.map V.int) (e_vx rfl) (fun v H3 g e => ⟨sc, e, .inl (seq ((g1.trans g2).trans g))⟩) (e_vx rfl) hat).imp fun v _ e => ⟨n, e, trivial⟩) fun i _ => by
      show 0 ≤ (if i < 0 then -i else i)
      split <;> omega) fun v H3 i3 g3 hv => ?_
    obtain ⟨c, rfl, hc⟩ := hv
    exact hN _ _ ⟨c, hc, rfl, (g1.trans g2).trans g3⟩
  · rintro σ' H' ⟨c, hc, rfl, g⟩
    have e1 : Ev Vo.non (tCB (fun xs H Q => ∃ i j, xs = [.int i, .int j] ∧ Q (.int (if j > i then j else i)) H) (tCons (tC (.int 0)) (tCons (tOp (rI0 fun i j => .int (i - j)) (tVar 2) (tOp rPow (tC (.int 10)) (tC (.int 18)))) tNil))) [some (.ref sc), some (.int k), some (.int c)] H' (si fun i => 0 ≤ i) :=
      x_max (c := fun i => i = 0) (d := fun _ => True) (e_ci rfl) (e_sub (c := fun _ => True) (d := fun _ => True) (e_sxi (e_vx rfl) trivial) (e_i2 (c := fun i => i = 10) (d := fun j => j = 18) (e_ci rfl) (e_ci rfl) fun i j H1 iv ei ej => by rw [ei, ej]; exact r_ic (g := fun i j => i ^ j.toNat) iv pw18 trivial)) fun i j ei _ => by
        show 0 ≤ (if j > i then j else i)
        split <;> omega
    refine s_retN (p := Vo.non) (As := [si fun i => 0 ≤ i, si fun i => 0 ≤ i ∧ i < 2147483648]) (Iv.non H') (a_cons e1 (a_cons (e_addI (c := fun i => 0 ≤ i ∧ i < 2147483587) (d := fun j => j = 1) (e_mod (c := fun _ => True) (x_int1 (e_i2 (c := fun i => 0 ≤ i ∧ i < 10000000000) (d := fun j => j = 3) (e := fun _ => True) (x_int1 (e_addI (c := fun i => 0 ≤ i ∧ i < 2147483629 + 1013 * 1000) (d := fun j => j = 7) (e_addI (c := fun i => 0 ≤ i ∧ i < 2147483629) (d := fun i => 0 ≤ i ∧ i ≤ 1013 * 1000) (e_mod (c := fun _ => True) (x_int1 (e_sxi (e_vx rfl) trivial)) e_cx (by decide)) (e_i2 (c := fun i => i = 1013) (d := fun j => j = k) (e_ci rfl) (e_sxi (e_vx rfl) rfl) fun i j H1 iv ei ej => by
      rw [ei, ej]
      exact r_mul iv (.inl ⟨by decide, by decide⟩) ⟨by omega, by omega⟩) fun i j hi hj => by omega) (e_ci rfl) fun i j hi hj => by omega)) (e_ci rfl) fun i j H1 iv hi hj => by
        rw [hj]
        exact r_ic (g := fun i j => i ^ j.toNat) (e := fun _ => True) iv (show CPw i 3 from ⟨by decide, by have := bits34 hi.1 hi.2; omega⟩) trivial)) e_cx (by decide)) (e_ci rfl) fun i j hi hj => by omega) a_nil)) (by decide) fun vs b H1 i1 g1 hb os => ?_
    obtain ⟨v1, ws1, rfl, ⟨x, rfl, hx⟩, v2, ws2, rfl, ⟨y, rfl, hy⟩, rfl⟩ := os
    exact q b _ ((g.trans g1).trans (Gr.new hb)) ((g.trans g1).free (nv_non b) hb) ⟨x, y, upd_same, hx, hy⟩
end
end K10
namespace K10
open PySem PySem.Spec PyProof.Rows L2 Hk
section
variable {P : Program} {w : World} {K : PySem.W.Frag} {mg : Str → Option Value} {base : Heap}
/-! a choice among texts -/
def arC : Addr → List V → Vo → Hp → Prop := fun a vs p H => ∃ (b : Addr) (zs : List Str), vs = [.ref a, .ref b] ∧ Nv p b ∧ H b = some (.lst (zs.map V.str)) ∧ 0 < zs.length ∧ zs.length ≤ 1000 ∧ ∀ z ∈ zs, z.length ≤ 8
def rsC : List V → ∀ p : Vo, Sy p := fun _ p => ss fun z => z.length ≤ 8
abbrev spChoice : Sp := spP arC rsC
theorem ok_choice (E : En K mg) (F : Df K mg "_law_choice" s__law_choice) (c__law_draw : Ca P w K mg base 1 "_law_draw" spDraw) : Ca P w K mg base 2 "_law_choice" spChoice := by
  refine ca_mk F sc__law_choice (fun _ _ _ _ _ _ us hl => match us, hl with | [_, _], _ => rfl) (fun vs H Q E h => by obtain ⟨p, a, _, _, ⟨b, zs, rfl, _⟩, _⟩ := h; rfl) (fun f cdv A outer s H vs Q E' hr h => ?_)
  obtain ⟨p, a, hp, iv, ⟨b, zs, rfl, nb, hb, z0, z1, z8⟩, q⟩ := h
  refine ⟨_, (pss_one (ps_ret (pe_ix (ixU (K := K) rfl) (pv 1) (pe_ca c__law_draw (hr.mono (by first | decide | omega)) (by rfl) (pa_cons (pv 0) (pa_cons (pe_callB (lenU (K := K) rfl) (by rfl) (E.fr (x := "len") (by decide +kernel)) (by decide +kernel) (pa_cons (pv 1) pa_nil)) pa_nil))) (fun _ _ => rfl)))), ?_⟩
  have el : (zs.map V.str).length = zs.length := List.length_map _
  refine s_ret (p := p) (A := ss fun z => z.length ≤ 8) iv (e_ixL (n := (zs.length : Int)) (P := fun ws _ => ws = zs.map V.str) (hP := fun _ _ _ _ h => h) (e_var rfl ⟨b, _, rfl, nb, hb, rfl⟩) (e_drawN hp (e_vx rfl) (x_to (x_lenQ (xs := zs.map V.str) (e_vx rfl) (fun v H1 g e => ⟨b, e, .inl (SqL.of (g b _ nb hb))⟩)) (by rw [el])) (by omega) (by omega)) (fun ws H1 e => by rw [e, el]; exact Int.le_refl _) fun ws v H1 e hv => ?_) fun v H1 i1 g1 hv => q v H1 i1 g1 hv
  rw [e] at hv
  obtain ⟨z, hz, rfl⟩ := List.mem_map.mp hv
  exact ⟨z, rfl, z8 z hz⟩
/-! letters -/
def arL : Addr → List V → Vo → Hp → Prop := fun a vs p H => ∃ m : Nat, vs = [.ref a, .int (m : Nat)] ∧ m ≤ 1000
def rsL : List V → ∀ p : Vo, Sy p := fun vs p => ss fun z => ∃ m : Nat, vs[1]? = some (.int (m : Nat)) ∧ z.length ≤ m
abbrev spLetters : Sp := spP arL rsL
theorem joined_len (sep : Str) (h0 : sep.length = 0) : ∀ zs : List Str, (Txt.join sep zs).length ≤ (zs.map (·.length)).sum := fun zs => by
  show (Builtin.Str.glued sep zs).length ≤ _
  rw [size_glued, h0, Nat.mul_zero]
  exact Nat.le_refl _
theorem x_join {p : Vo} {σ : L2.St} {H : Hp} {ta tb : TE} {N : Nat} {st} (ha : Ev p ta σ H (sx (.str Str.empty))) (hb : Ev p tb σ H (sl (fun ws _ => ws.length ≤ N ∧ ∃ zs : List Str, ws = zs.map V.str ∧ ∀ z ∈ zs, z.length = 1) st)) (hN : N ≤ 100000) :
    Ev p (tM1 (fun x xs H Q => ∃ a p, ∃ ys : List Str, x = .str a ∧ xs = [.ref p] ∧ (SqL K H p (ys.map V.str) ∨ SqT K H p (ys.map V.str)) ∧ (ys.map (·.length)).sum + ys.length * a.length ≤ 16777216 ∧ Q (.str (Txt.join a ys)) H) ta tb) σ H (ss fun z => z.length ≤ N) := fun H1 i g Q q =>
  ha H1 i g _ fun x H2 i2 g2 ex => ⟨⟨_, ex⟩, hb H2 i2 (g.trans g2) _ fun y H3 i3 g3 ⟨b, ws, ey, nb, h3, hl, zs, hzs, h1⟩ => by
    have sum : ∀ zs : List Str, (∀ z ∈ zs, z.length = 1) → (zs.map (·.length)).sum = zs.length := fun zs => by
      induction zs with
      | nil => intro _; rfl
      | cons z zs ih =>
        intro h
        rw [List.map_cons, List.sum_cons, ih fun t ht => h t (List.mem_cons_of_mem _ ht), h z List.mem_cons_self, List.length_cons]
        omega
    have e0 : Str.empty.length = 0 := rfl
    have ez : zs.length = ws.length := by rw [hzs, List.length_map]
    refine ⟨Str.empty, b, zs, ex, (by rw [ey]), .inl (SqL.of (by rw [h3, hzs])), (by rw [sum zs h1, e0]; omega), q _ H3 i3 (g2.trans g3) ⟨_, rfl, ?_⟩⟩
    have := joined_len Str.empty e0 zs
    rw [sum zs h1] at this
    show (Txt.join Str.empty zs).length ≤ N
    omega⟩
theorem ok_letters (E : En K mg) (F : Df K mg "_law_letters" s__law_letters) (c__law_draw : Ca P w K mg base 1 "_law_draw" spDraw) : Ca P w K mg base 2 "_law_letters" spLetters := by
  refine ca_mk F sc__law_letters (fun _ _ _ _ _ _ us hl => match us, hl with | [_, _], _ => rfl) (fun vs H Q E h => by obtain ⟨p, a, _, _, ⟨m, rfl, _⟩, _⟩ := h; rfl) (fun f cdv A outer s H vs Q E' hr h => ?_)
  obtain ⟨p, a, hp, iv, ⟨m, rfl, hm⟩, q⟩ := h
  refine ⟨_, (pss_cons (ps_set (i := 2) sc__law_letters.nd rfl (Or.inr rfl) pe_str)
      (pss_one (ps_ret (pe_join pe_str (pe_lc (own := [("_law_turn", 3)]) (g := gName 3) (tt := tYes) rfl sc__law_letters.nd (pi_range1 (by rfl) (E.fr (x := "range") (by decide +kernel)) (pa_cons (pe_ca c__law_draw (hr.mono (by first | decide | omega)) (by rfl) (pa_cons (pv 0) (pa_cons (pe_op op_addU (pv 1) pe_int) pa_nil))) pa_nil)) (blkOk_by (own := [("_law_turn", 3)]) (N := ["_law_pot_here", "_law_most", "_law_letters_here", "_law_turn"]) (sc := defScope s__law_letters) (by decide +kernel)) (fun _ _ _ _ _ => pg_name (i := 3) sc__law_letters.nd rfl (Or.inl rfl)) (fun _ _ _ _ _ => pts_nil) (fun _ _ _ _ _ => (pe_ix (ixU (K := K) rfl) (pv 2) (pe_ca c__law_draw (hr.mono (by first | decide | omega)) (by rfl) (pa_cons (pv 0) (pa_cons pe_int pa_nil))) (fun _ _ => rfl)))))))), ?_⟩
  refine q_asgx (v := .str sSmall) iv e_cx fun H1 i1 g1 => ?_
  refine s_ret (A := ss fun z => z.length ≤ m) i1 (x_join (N := m) e_cx (s_lcR (N := m) (P := fun z => z.length = 1) ((e_draw (c := fun n => n = (m : Int) + 1) hp (e_vx rfl) (e_addI (c := fun i => i = (m : Int)) (d := fun j => j = 1) (e_sxi (e_vx rfl) rfl) (e_ci rfl) fun i j ei ej => by rw [ei, ej]) fun n e => by rw [e]; omega).imp fun v _ ⟨r, e, n, en, h0, h1⟩ => ⟨r, e, h0, by omega⟩) (by omega) (fun _ => rfl) fun i D o H2 g2 hD => e_ixS (n := 26) (s := sSmall) (e_vx rfl) (e_drawN (p := p.and D o) hp (e_vx rfl) e_cx (by decide) (by decide)) (by decide) (by decide)) (by omega)) fun v H2 i2 g2 ⟨z, e, hz⟩ => q v H2 i2 (g1.trans g2) ⟨z, e, m, rfl, hz⟩
end
end K10
namespace K10
open PySem PySem.Spec PyProof.Rows L2 Hk
section
variable {P : Program} {w : World} {K : PySem.W.Frag} {mg : Str → Option Value} {base : Heap} {p : Vo} {σ : L2.St} {H : Hp} {ta tb te : TE} {tr : TA} {a : Addr}
theorem e_ixZ {n : Int} {k : Nat} {zs : List Str} (ha : Ev p ta σ H (slx (zs.map V.str))) (hb : Ev p tb σ H (si fun r => 0 ≤ r ∧ r < n)) (hn : n = (zs.length : Int)) (hk : zs.all (fun z => decide (z.length ≤ k)) = true) : Ev p (tOp (rIx K) ta tb) σ H (ss fun z => z.length ≤ k) :=
  e_ixL (P := fun ws _ => ws = zs.map V.str) (hP := fun _ _ _ _ h => h) ha hb (fun ws H1 e => by rw [e, List.length_map, hn]; exact Int.le_refl _) fun ws v H1 e hv => by
    rw [e] at hv
    obtain ⟨z, hz, rfl⟩ := List.mem_map.mp hv
    exact ⟨z, rfl, of_decide_eq_true (List.all_eq_true.mp hk z hz)⟩
theorem mulxy : MulOk "x y" 66 ∧ (Txt.mul "x y" 66).length ≤ 198 := by
  refine ⟨⟨by decide, fun _ _ => by decide +kernel, fun _ _ => by decide +kernel⟩, by decide +kernel⟩
theorem x_mulxy : Ev p (tOp rMulU (tC (.str "x y")) (tC (.int 66))) σ H (ss fun z => z.length ≤ 198) := e_op e_cx e_cx fun x y H1 iv g ex ey => rv iv ⟨_, rfl, mulxy.2⟩ fun Q q => .inr ⟨"x y", 66, ex, ey, mulxy.1, q⟩
/-! a word -/
def ar1 : Addr → List V → Vo → Hp → Prop := fun a vs _ _ => vs = [.ref a]
def rsW : List V → ∀ p : Vo, Sy p := fun _ p => ss fun z => z.length ≤ 1000
abbrev spWord : Sp := spP ar1 rsW
theorem x_choice (hp : p.pot = some a) (ha : Ev p ta σ H (sx (.ref a))) : Ev p (tCall spChoice [] E0 (tCons ta (tCons (tCall spRes [] E0 tNil) tNil))) σ H (ss fun z => z.length ≤ 8) :=
  e_callP hp (a_cons ha (a_cons x_res a_nil)) fun vs H1 g iv os => by
    obtain ⟨v, ws, rfl, ev, v2, ws2, rfl, ⟨b, us, rfl, nb, hb, rfl⟩, rfl⟩ := os
    obtain rfl : v = .ref a := ev
    exact ⟨⟨b, wsR, rfl, nb, hb, by decide +kernel, by decide +kernel, fun z hz => of_decide_eq_true (List.all_eq_true.mp (show wsR.all (fun z => decide (z.length ≤ 8)) = true by decide +kernel) z hz)⟩, fun v H2 h => h⟩
theorem ss_to {c d : Nat} (h : Ev p te σ H (ss fun z => z.length ≤ c)) (hc : c ≤ d) : Ev p te σ H (ss fun z => z.length ≤ d) := h.imp fun v _ ⟨z, e, hz⟩ => ⟨z, e, Nat.le_trans hz hc⟩
theorem ss_1 (h : Ev p te σ H (ss fun z => z.length = 1)) : Ev p te σ H (ss fun z => z.length ≤ 1) := h.imp fun v _ ⟨z, e, hz⟩ => ⟨z, e, Nat.le_of_eq hz⟩
theorem ok_word (E : En K mg) (F : Df K mg "_law_word" s__law_word) (c__law_draw : Ca P w K mg base 1 "_law_draw" spDraw) (c__law_choice : Ca P w K mg base 2 "_law_choice" spChoice) (c__law_reserved : Ca P w K mg base 1 "_law_reserved" spRes) (c__law_letters : Ca P w K mg base 2 "_law_letters" spLetters) : Ca P w K mg base 3 "_law_word" spWord := by
  refine ca_mk F sc__law_word (fun _ _ _ _ _ _ us hl => match us, hl with | [_], _ => rfl) (fun vs H Q E h => by obtain ⟨p, a, _, _, e, _⟩ := h; rw [show vs = _ from e]; rfl) (fun f cdv A outer s H vs Q E' hr h => ?_)
  obtain ⟨p, a, hp, iv, e, q⟩ := h
  obtain rfl : vs = [.ref a] := e
  refine ⟨_, (pss_cons (ps_set (i := 1) sc__law_word.nd rfl (Or.inl rfl) (pe_ca c__law_draw (hr.mono (by first | decide | omega)) (by rfl) (pa_cons (pv 0) (pa_cons pe_int pa_nil))))
      (pss_cons (ps_if (pt_cmpR op_eq (pv 1) pe_int (nomark _)) (pss_one (ps_ret (pe_op op_addU (pe_ca c__law_choice (hr.mono (by first | decide | omega)) (by rfl) (pa_cons (pv 0) (pa_cons (pe_ca0 c__law_reserved (hr.mono (by first | decide | omega)) (by rfl)) pa_nil))) (pe_ix (ixU (K := K) rfl) (pe_lst (pa_cons pe_str (pa_cons pe_str (pa_cons pe_str (pa_cons pe_str (pa_cons pe_str pa_nil)))))) (pe_ca c__law_draw (hr.mono (by first | decide | omega)) (by rfl) (pa_cons (pv 0) (pa_cons pe_int pa_nil))) (fun _ _ => rfl))))) pss_nil)
      (pss_cons (ps_if (pt_cmpR op_eq (pv 1) pe_int (nomark _)) (pss_one (ps_ret (pe_ix (ixU (K := K) rfl) (pe_lst (pa_cons pe_str (pa_cons pe_str (pa_cons pe_str (pa_cons pe_str (pa_cons pe_str (pa_cons pe_str (pa_cons pe_str (pa_cons pe_str (pa_cons pe_str (pa_cons pe_str (pa_cons pe_str (pa_cons pe_str (pa_cons pe_str (pa_cons pe_str pa_nil))))))))))))))) (pe_ca c__law_draw (hr.mono (by first | decide | omega)) (by rfl) (pa_cons (pv 0) (pa_cons pe_int pa_nil))) (fun _ _ => rfl)))) pss_nil)
      (pss_cons (ps_if (pt_cmpR op_eq (pv 1) pe_int (nomark _)) (pss_one (ps_ret (pe_op op_addU (pe_op op_mulU pe_str pe_int) (pe_ix (ixU (K := K) rfl) (pe_lst (pa_cons pe_str (pa_cons pe_str (pa_cons pe_str (pa_cons pe_str pa_nil))))) (pe_ca c__law_draw (hr.mono (by first | decide | omega)) (by rfl) (pa_cons (pv 0) (pa_cons pe_int pa_nil))) (fun _ _ => rfl))))) pss_nil)
      (pss_cons (ps_set (i := 2) sc__law_word.nd rfl (Or.inl rfl) (pe_ca c__law_letters (hr.mono (by first | decide | omega)) (by rfl) (pa_cons (pv 0) (pa_cons pe_int pa_nil))))
      (pss_cons (ps_if (pt_cmpR op_eq (pv 1) pe_int (nomark _)) (pss_one (ps_set (i := 2) sc__law_word.nd rfl (Or.inl rfl) (pe_op op_addU (pe_ix (ixU (K := K) rfl) pe_str (pe_ca c__law_draw (hr.mono (by first | decide | omega)) (by rfl) (pa_cons (pv 0) (pa_cons pe_int pa_nil))) (fun _ _ => rfl)) (pv 2)))) pss_nil)
      (pss_cons (ps_if (pt_cmpR (inU (K := K) rfl) (pv 1) (pe_tup (pa_cons pe_int (pa_cons pe_int pa_nil))) (by rfl)) (pss_cons (ps_set (i := 3) sc__law_word.nd rfl (Or.inl rfl) (pe_ca c__law_draw (hr.mono (by first | decide | omega)) (by rfl) (pa_cons (pv 0) (pa_cons (pe_op op_addU (pe_callB (lenU (K := K) rfl) (by rfl) (E.fr (x := "len") (by decide +kernel)) (by decide +kernel) (pa_cons (pv 2) pa_nil)) pe_int) pa_nil))))
      (pss_cons (ps_set (i := 4) sc__law_word.nd rfl (Or.inl rfl) (pe_ix (ixU (K := K) rfl) pe_str (pe_ca c__law_draw (hr.mono (by first | decide | omega)) (by rfl) (pa_cons (pv 0) (pa_cons pe_int pa_nil))) (fun _ _ => rfl)))
      (pss_one (ps_set (i := 2) sc__law_word.nd rfl (Or.inl rfl) (pe_op op_addU (pe_op op_addU (pe_slice (slU (K := K) rfl) (pv 2) po_none (po_some (pv 3))) (pv 4)) (pe_slice (slU (K := K) rfl) (pv 2) (po_some (pv 3)) po_none)))))) pss_nil)
      (pss_one (ps_ret (pv 2)))))))))), ?_⟩
  have fin : ∀ {H1} (g1 : Gr p H H1) {c : Nat}, c ≤ 1000 → ∀ v H2, Iv p H2 → Gr p H1 H2 → (ss (p := p) fun z => z.length ≤ c).P v H2 → Q v H2 := by
    intro H1 g1 c hc v H2 i2 g2 ⟨z, e, hz⟩
    exact q v H2 i2 (g1.trans g2) ⟨z, e, Nat.le_trans hz hc⟩
  refine q_asg (A := si fun r => 0 ≤ r ∧ r < 8) iv (e_drawN hp (e_vx rfl) e_cx (by decide) (by decide)) fun v H1 i1 g1 hv => ?_
  obtain ⟨way, rfl, _⟩ := hv
  refine q_ifS (b := decide (V.int way = V.int 0)) (A := ss fun z => z.length ≤ 8 + 8) i1 (k_test (x_eq (x := .int way) (y := .int 0) (e_vx rfl) e_cx rfl)) (fun _ => e_addS (x_choice hp (e_vx rfl)) (e_ixZ (n := 5) (zs := ["", "", "s", "A", " "]) (x_lst (a_cons e_cx (a_cons e_cx (a_cons e_cx (a_cons e_cx (a_cons e_cx a_nil))))) (big (by decide))) (e_drawN hp (e_vx rfl) e_cx (by decide) (by decide)) rfl (by decide +kernel)) (by decide)) (fun _ v H2 i2 g2 h => fin g1 (by decide) v H2 i2 g2 h) fun _ H2 i2 g12 => ?_
  have g2 := g1.trans g12
  refine q_ifS (b := decide (V.int way = V.int 1)) (A := ss fun z => z.length ≤ 8) i2 (k_test (x_eq (x := .int way) (y := .int 1) (e_vx rfl) e_cx rfl)) (fun _ => e_ixZ (n := 14) (zs := ["0", "00", "01", "1", "9", "10", "99", "100", "-1", "1 ", " 1", "1a", "+1", "1.0"]) (x_lst (a_cons e_cx (a_cons e_cx (a_cons e_cx (a_cons e_cx (a_cons e_cx (a_cons e_cx (a_cons e_cx (a_cons e_cx (a_cons e_cx (a_cons e_cx (a_cons e_cx (a_cons e_cx (a_cons e_cx (a_cons e_cx a_nil)))))))))))))) (big (by decide))) (e_drawN hp (e_vx rfl) e_cx (by decide) (by decide)) rfl (by decide +kernel)) (fun _ v H2 i2 g3 h => fin g2 (by decide) v H2 i2 g3 h) fun _ H3 i3 g23 => ?_
  have g3 := g2.trans g23
  refine q_ifS (b := decide (V.int way = V.int 2)) (A := ss fun z => z.length ≤ 198 + 8) i3 (k_test (x_eq (x := .int way) (y := .int 2) (e_vx rfl) e_cx rfl)) (fun _ => e_addS x_mulxy (e_ixZ (n := 4) (zs := ["", "x", "xy", "xyz"]) (x_lst (a_cons e_cx (a_cons e_cx (a_cons e_cx (a_cons e_cx a_nil)))) (big (by decide))) (e_drawN hp (e_vx rfl) e_cx (by decide) (by decide)) rfl (by decide +kernel)) (by decide)) (fun _ v H2 i2 g4 h => fin g3 (by decide) v H2 i2 g4 h) fun _ H4 i4 g34 => ?_
  have g4 := g3.trans g34
  refine q_asg (A := ss fun z => z.length ≤ 10) i4 (e_callP hp (a_cons (e_vx (v := .ref a) rfl) (a_cons (e_cx (v := .int ((10 : Nat) : Int))) a_nil)) fun vs H5 g iv os => by
    obtain ⟨v, ws, rfl, rfl, v2, ws2, rfl, rfl, rfl⟩ := os
    refine ⟨⟨10, rfl, by decide⟩, fun v H6 ⟨z, e, m, em, hz⟩ => ⟨z, e, ?_⟩⟩
    have e2 : V.int ((10 : Nat) : Int) = .int (m : Nat) := Option.some.inj em
    have e3 : ((10 : Nat) : Int) = (m : Nat) := V.int.inj e2
    show z.length ≤ 10
    omega) fun v H5 i5 g45 hv => ?_
  obtain ⟨z, rfl, hz⟩ := hv
  have g5 := g4.trans g45
  refine q_ifj (B := fun _ => True) (fun σ' H' => ∃ z : Str, z.length ≤ 11 ∧ σ' = [some (.ref a), some (.int way), some (.str z), none, none] ∧ Iv p H' ∧ Gr p H H') i5 ((k_test (x_eq (x := .int way) (y := .int 3) (e_vx rfl) e_cx rfl)).imp fun _ _ => trivial) (fun N hN _ H6 i6 g6 => ?_) (fun _ H6 i6 g6 => ⟨z, Nat.le_succ_of_le hz, rfl, i6, g5.trans g6⟩) ?_
  · refine s_asg (A := ss fun z => z.length ≤ 1 + 10) i6 (e_addS (ss_1 (e_ixS (n := 6) (s := "ABCXYZ") e_cx (e_drawN hp (e_vx rfl) e_cx (by decide) (by decide)) (by decide) (by decide))) (e_ssx (e_vx rfl) hz) (by decide)) fun v H7 i7 g7 hv => ?_
    obtain ⟨z', rfl, hz'⟩ := hv
    exact hN _ _ ⟨z', hz', rfl, i7, (g5.trans g6).trans g7⟩
  rintro σ' H6 ⟨z, hz, rfl, i6, g6⟩
  refine q_ifj (B := fun _ => True) (fun σ' H' => ∃ (z : Str) (x y : Option V), z.length ≤ 1000 ∧ σ' = [some (.ref a), some (.int way), some (.str z), x, y] ∧ Iv p H' ∧ Gr p H H') i6 ((k_test (x_inQ (v := .int way) (xs := [.int 4, .int 5]) (e_vx rfl) rfl (x_tup (ws := [.int 4, .int 5]) (a_cons e_cx (a_cons e_cx a_nil)) (big (by decide))) sq_t rfl)).imp fun _ _ => trivial) (fun N hN _ H7 i7 g67 => ?_) (fun _ H7 i7 g7 => ⟨z, none, none, by omega, rfl, i7, g6.trans g7⟩) ?_
  · have g7 := g6.trans g67
    refine q_asg (A := si fun r => ∃ n, n = (z.length : Int) + 1 ∧ 0 ≤ r ∧ r < n) i7 (e_draw (c := fun n => n = (z.length : Int) + 1) hp (e_vx rfl) (e_addI (c := fun i => i = (z.length : Int)) (d := fun j => j = 1) (e_sxi (x_len (e_vx rfl) (big (by omega))) rfl) (e_ci rfl) fun i j ei ej => by rw [ei, ej]) fun n e => by rw [e]; omega) fun v H8 i8 g78 hv => ?_
    obtain ⟨at_, rfl, _⟩ := hv
    have g8 := g7.trans g78
    refine q_asg (A := ss fun z => z.length = 1) i8 (e_ixS (n := 12) (s := "A0_ -.\"'\\\n~/") e_cx (e_drawN hp (e_vx rfl) e_cx (by decide) (by decide)) (by decide) (by decide)) fun v H9 i9 g89 hv => ?_
    obtain ⟨sg, rfl, hsg⟩ := hv
    have g9 := g8.trans g89
    refine s_asg (A := ss fun x => x.length ≤ z.length + 1 + z.length) i9 (e_addS (e_addS (e_slS (s := z) (lo := none) (hi := some at_) (e_vx rfl) (fun _ _ q => o_none q) (fun _ _ q => o_var rfl q) (by omega)) (e_ssx (e_vx rfl) (Nat.le_of_eq hsg)) (by omega)) (e_slS (s := z) (lo := some at_) (hi := none) (e_vx rfl) (fun _ _ q => o_var rfl q) (fun _ _ q => o_none q) (by omega)) (by omega)) fun v H10 i10 g10 hv => ?_
    obtain ⟨z', rfl, hz'⟩ := hv
    exact hN _ _ ⟨z', _, _, by have h : z'.length ≤ z.length + 1 + z.length := hz'; omega, rfl, i10, g9.trans g10⟩
  rintro σ' H7 ⟨z, x, y, hz, rfl, i7, g7⟩
  exact s_ret (A := ss fun z => z.length ≤ 1000) i7 (e_ssx (e_vx rfl) hz) fun v H8 i8 g8 h => fin g7 (Nat.le_refl _) v H8 i8 g8 h
/-! leaves -/
theorem d_dict : Ev p tDNewK σ H (sd p) := fun H1 i g Q q b hb => q _ _ (i.new hb) (Gr.new hb) ⟨.dct, .dct (i.ne hb) upd_same⟩
def rsX : List V → ∀ p : Vo, Sy p := fun _ p => sd p
abbrev spLeaf : Sp := spP ar1 rsX
theorem z1 {n : Nat} (h : n ≤ 100000 := by decide) : n ≤ 100000 := h
theorem ok_leaf (E : En K mg) (F : Df K mg "_law_leaf" s__law_leaf) (c__law_draw : Ca P w K mg base 1 "_law_draw" spDraw) : Ca P w K mg base 2 "_law_leaf" spLeaf := by
  refine ca_mk F sc__law_leaf (fun _ _ _ _ _ _ us hl => match us, hl with | [_], _ => rfl) (fun vs H Q E h => by obtain ⟨p, a, _, _, e, _⟩ := h; rw [show vs = _ from e]; rfl) (fun f cdv A outer s H vs Q E' hr h => ?_)
  obtain ⟨p, a, hp, iv, e, q⟩ := h
  obtain rfl : vs = [.ref a] := e
  refine ⟨_, (pss_cons (ps_set (i := 1) sc__law_leaf.nd rfl (Or.inl rfl) (pe_op op_powW (pe_op op_powW pe_int pe_int) pe_int))
      (pss_cons (ps_set (i := 2) sc__law_leaf.nd rfl (Or.inl rfl) (pe_lst (pa_cons pe_int (pa_cons (pe_un un_neg pe_int) (pa_cons pe_int (pa_cons pe_bl (pa_cons pe_bl (pa_cons pe_str (pa_cons (pe_tup (pa_cons pe_str pa_nil)) (pa_cons (pe_tup (pa_cons pe_str (pa_cons pe_str pa_nil))) (pa_cons (pe_op op_sub (pv 1) pe_int) (pa_cons (pe_op op_sub pe_int (pv 1)) (pa_cons (pv 1) (pa_cons (pe_op op_sub pe_int (pv 1)) pa_nil))))))))))))))
      (pss_cons (ps_set (i := 2) sc__law_leaf.nd rfl (Or.inl rfl) (pe_op op_addU (pv 2) (pe_lst (pa_cons pe_str (pa_cons pe_int (pa_cons pe_str (pa_cons (pe_tup (pa_cons pe_str (pa_cons pe_int pa_nil))) (pa_cons (pe_tup (pa_cons pe_str pa_nil)) (pa_cons (pe_tup (pa_cons pe_str (pa_cons pe_str pa_nil))) (pa_cons (pe_tup pa_nil) (pa_cons (pe_lst (pa_cons pe_str (pa_cons pe_int (pa_cons pe_int pa_nil)))) (pa_cons pe_non (pa_cons pe_str (pa_cons pe_str (pa_cons pe_dnewK pa_nil)))))))))))))))
      (pss_one (ps_ret (pe_ix (ixU (K := K) rfl) (pv 2) (pe_ca c__law_draw (hr.mono (by first | decide | omega)) (by rfl) (pa_cons (pv 0) (pa_cons pe_int pa_nil))) (fun _ _ => rfl))))))), ?_⟩
  refine q_asgx (v := .int tooLong) iv x_most fun H1 i1 g1 => ?_
  refine q_asg (A := slD p fun m => m = 12) i1 (d_lst (d_cons d_i (d_cons (d_int (x_neg (i := 1) e_cx)) (d_cons d_i (d_cons d_b (d_cons d_b (d_cons (d_s z1) (d_cons (d_tup (d_cons (d_s z1) d_nil) z1) (d_cons (d_tup (d_cons (d_s z1) (d_cons (d_s z1) d_nil)) z1) (d_cons (d_int (x_ii (g := fun i j => .int (i - j)) (i := tooLong) (j := 1) (e_vx rfl) e_cx)) (d_cons (d_int (x_ii (g := fun i j => .int (i - j)) (i := 1) (j := tooLong) e_cx (e_vx rfl))) (d_cons (d_int (i := tooLong) (e_vx rfl)) (d_cons (d_int (x_ii (g := fun i j => .int (i - j)) (i := 0) (j := tooLong) e_cx (e_vx rfl))) d_nil)))))))))))) z1) fun v H2 i2 g12 hv => ?_
  have g2 := g1.trans g12
  refine q_asg (A := slD p fun m => m = 24) i2 (d_cat (c := fun m => m = 12) (d := fun m => m = 12) (e_var rfl hv) (d_lst (d_cons (d_s z1) (d_cons d_i (d_cons (d_s z1) (d_cons (d_tup (d_cons (d_s z1) (d_cons d_i d_nil)) z1) (d_cons (d_tup (d_cons (d_s z1) d_nil) z1) (d_cons (d_tup (d_cons (d_s z1) (d_cons (d_s z1) d_nil)) z1) (d_cons (d_tup d_nil z1) (d_cons (d_l (d_cons (d_s z1) (d_cons d_i (d_cons d_i d_nil))) z1) (d_cons d_n (d_cons (d_s z1) (d_cons (d_s z1) (d_cons d_dict d_nil)))))))))))) z1) fun n m hn hm => by omega) fun v2 H3 i3 g23 hv2 => ?_
  have g3 := g2.trans g23
  exact s_ret (A := sd p) i3 (d_ix (n := 24) (c := fun m => m = 24) (e_var rfl hv2) (e_drawN hp (e_vx rfl) e_cx (by decide) (by decide)) fun m hm => by omega) fun v H4 i4 g4 h => q v H4 i4 (g3.trans g4) h
end
end K10
namespace K10
open PySem PySem.Spec PyProof.Rows L2 Hk
section
variable {P : Program} {w : World} {K : PySem.W.Frag} {mg : Str → Option Value} {base : Heap} {p : Vo} {σ : L2.St} {H : Hp} {ta tb te : TE} {tr : TA} {a : Addr}
/-! trees -/
def arT (n : Nat) : Addr → List V → Vo → Hp → Prop := fun a vs _ _ => ∃ m : Nat, m ≤ n ∧ vs = [.ref a, .int (m : Nat)]
abbrev spTree (n : Nat) : Sp := spP (arT n) rsX
def spTlow : Nat → Sp
  | 0 => fun _ _ _ _ => False
  | n + 1 => spTree n
theorem cnt_in (s : Str) : -1 ≤ cnt s ∧ cnt s ≤ 2 := by
  unfold cnt
  split
  · decide
  · split <;> decide
theorem x_leaf (hp : p.pot = some a) (ha : Ev p ta σ H (sx (.ref a))) : Ev p (tCall spLeaf [] E0 (tCons ta tNil)) σ H (sd p) := e_callP hp (a_cons ha a_nil) fun vs H1 g iv os => by
  obtain ⟨v, ws, rfl, ev, rfl⟩ := os
  obtain rfl : v = .ref a := ev
  exact ⟨rfl, fun v H2 h => h⟩
theorem ok_tree (E : En K mg) (F : Df K mg "_law_tree" s__law_tree) (n : Nat) (c__law_tree : Ca P w K mg base (3 + n) "_law_tree" (spTlow n)) (c__law_draw : Ca P w K mg base 1 "_law_draw" spDraw) (c__law_leaf : Ca P w K mg base 2 "_law_leaf" spLeaf) (c__law_count : Ca P w K mg base 1 "_law_count" spCount) : Ca P w K mg base (3 + n + 1) "_law_tree" (spTree n) := by
  refine ca_mk F sc__law_tree (fun _ _ _ _ _ _ us hl => match us, hl with | [_, _], _ => rfl) (fun vs H Q E h => by obtain ⟨p, a, _, _, ⟨m, _, e⟩, _⟩ := h; rw [show vs = _ from e]; rfl) (fun f cdv A outer s H vs Q E' hr h => ?_)
  obtain ⟨p, a, hp, iv, ⟨m0, hm0, e⟩, q⟩ := h
  obtain rfl : vs = [.ref a, .int (m0 : Nat)] := e
  refine ⟨_, (pss_cons (ps_if (PW.pt (pw_or (pt_cmpR op_lt (pv 1) pe_int (nomark _)) (pw_or1 (pt_cmpR op_eq (pe_ca c__law_draw (hr.mono (by first | decide | omega)) (by rfl) (pa_cons (pv 0) (pa_cons pe_int pa_nil))) pe_int (nomark _))))) (pss_one (ps_ret (pe_ix (ixU (K := K) rfl) (pe_lst (pa_cons pe_int (pa_cons pe_str (pa_cons pe_bl (pa_cons (pe_tup (pa_cons pe_str pa_nil)) (pa_cons (pe_ca c__law_leaf (hr.mono (by first | decide | omega)) (by rfl) (pa_cons (pv 0) pa_nil)) pa_nil)))))) (pe_ca c__law_draw (hr.mono (by first | decide | omega)) (by rfl) (pa_cons (pv 0) (pa_cons pe_int pa_nil))) (fun _ _ => rfl)))) pss_nil)
      (pss_cons (ps_set (i := 2) sc__law_tree.nd rfl (Or.inl rfl) (pe_ix (ixU (K := K) rfl) (pe_lst (pa_cons pe_str (pa_cons pe_str (pa_cons pe_str (pa_cons pe_str (pa_cons pe_str (pa_cons pe_str (pa_cons pe_str (pa_cons pe_str (pa_cons pe_str (pa_cons pe_str (pa_cons pe_str (pa_cons pe_str pa_nil))))))))))))) (pe_ca c__law_draw (hr.mono (by first | decide | omega)) (by rfl) (pa_cons (pv 0) (pa_cons pe_int pa_nil))) (fun _ _ => rfl)))
      (pss_cons (ps_set (i := 3) sc__law_tree.nd rfl (Or.inl rfl) (pe_ifExp (pt_cmpR (inU (K := K) rfl) (pv 2) (pe_tup (pa_cons pe_str (pa_cons pe_str pa_nil))) (by rfl)) (pe_ca c__law_draw (hr.mono (by first | decide | omega)) (by rfl) (pa_cons (pv 0) (pa_cons pe_int pa_nil))) (pe_callB call_abs (by rfl) (E.fr (x := "abs") (by decide +kernel)) (by decide +kernel) (pa_cons (pe_ca c__law_count (hr.mono (by first | decide | omega)) (by rfl) (pa_cons (pv 2) pa_nil)) pa_nil))))
      (pss_cons (ps_if (pt_cmpR op_eq (pe_ca c__law_draw (hr.mono (by first | decide | omega)) (by rfl) (pa_cons (pv 0) (pa_cons pe_int pa_nil))) pe_int (nomark _)) (pss_one (ps_set (i := 3) sc__law_tree.nd rfl (Or.inl rfl) (pe_op op_addU (pv 3) (pe_ix (ixU (K := K) rfl) (pe_lst (pa_cons pe_int (pa_cons (pe_un un_neg pe_int) pa_nil))) (pe_ca c__law_draw (hr.mono (by first | decide | omega)) (by rfl) (pa_cons (pv 0) (pa_cons pe_int pa_nil))) (fun _ _ => rfl))))) pss_nil)
      (pss_cons (ps_setLc (i := 4) (own := [("_law_turn", 5)]) (g := gName 5) (tt := tYes) rfl sc__law_tree.nd rfl rfl (sw_true rfl rfl rfl (by decide +kernel)) (pi_range1 (by rfl) (E.fr (x := "range") (by decide +kernel)) (pa_cons (pe_callB (call_max2 rfl) (by rfl) (E.fr (x := "max") (by decide +kernel)) (by decide +kernel) (pa_cons pe_int (pa_cons (pv 3) pa_nil))) pa_nil)) (blkOk_by (own := [("_law_turn", 5)]) (N := ["_law_pot_here", "_law_deep", "_law_word_here", "_law_many", "_law_parts", "_law_turn"]) (sc := defScope s__law_tree) (by decide +kernel)) (fun _ _ _ _ _ => pg_name (i := 5) sc__law_tree.nd rfl (Or.inl rfl)) (fun _ _ _ _ _ => pts_nil) (fun _ _ _ _ _ => (pe_ca c__law_tree (hr.mono (by first | decide | omega)) (by rfl) (pa_cons (pv 0) (pa_cons (pe_op op_sub (pv 1) pe_int) pa_nil)))))
      (pss_cons (ps_if (pt_cmpR op_eq (pv 2) pe_str (nomark _)) (pss_one (ps_set (i := 4) sc__law_tree.nd rfl (Or.inl rfl) (pe_op op_addU (pe_lst (pa_cons (pe_ix (ixU (K := K) rfl) (pe_lst (pa_cons pe_str (pa_cons pe_str (pa_cons pe_str (pa_cons pe_str (pa_cons pe_str (pa_cons pe_str (pa_cons pe_str (pa_cons pe_int pa_nil))))))))) (pe_ca c__law_draw (hr.mono (by first | decide | omega)) (by rfl) (pa_cons (pv 0) (pa_cons pe_int pa_nil))) (fun _ _ => rfl)) pa_nil)) (pv 4)))) pss_nil)
      (pss_one (ps_ret (pe_callTy (tupU (K := K) rfl) (by rfl) (E.fr (x := "tuple") (by decide +kernel)) (by decide +kernel) (pa_cons (pe_op op_addU (pe_lst (pa_cons (pv 2) pa_nil)) (pv 4)) pa_nil)))))))))), ?_⟩
  refine q_if (B := fun b => b = false → 2 ≤ m0) iv (t_or (B := fun b => b = decide (((m0 : Nat) : Int) < 2)) (D := fun _ => True) (k_test (x_ii (i := ((m0 : Nat) : Int)) (j := 2) (e_vx rfl) e_cx)) (fun _ => t_test ((e_op (C := sb fun _ => True) (e_drawN (n := 9) hp (e_vx rfl) e_cx (by decide) (by decide)) (e_cx (v := .int 0)) fun x y H1 iv g ⟨i, ei, _⟩ ey => by
      rw [ei, show y = _ from ey]
      exact rv iv ⟨_, rfl, trivial⟩ fun Q q => ⟨rfl, q⟩))) (fun _ z => (nomatch z)) fun b hb _ _ => by have := of_decide_eq_false hb.symm; omega) (fun _ H1 i1 g1 => ?_) fun hn H1 i1 g1 => ?_
  · exact s_ret (A := sd p) i1 (d_ix (n := 5) (c := fun m => m = 5) (d_lst (d_cons d_i (d_cons (d_s z1) (d_cons d_b (d_cons (d_tup (d_cons (d_s z1) d_nil) z1) (d_cons (x_leaf hp (e_vx rfl)) d_nil))))) z1) (e_drawN hp (e_vx rfl) e_cx (by decide) (by decide)) fun m hm => by omega) fun v H4 i4 g4 h => q v H4 i4 (g1.trans g4) h
  have hn2 := hn rfl
  refine q_asg (A := ss fun z => z.length ≤ 8) i1 (e_ixZ (n := 12) (zs := ["add", "sub", "mul", "div", "mod", "less", "same", "and", "or", "not", "tag", "xor"]) (x_lst (a_cons e_cx (a_cons e_cx (a_cons e_cx (a_cons e_cx (a_cons e_cx (a_cons e_cx (a_cons e_cx (a_cons e_cx (a_cons e_cx (a_cons e_cx (a_cons e_cx (a_cons e_cx a_nil)))))))))))) (big (by decide))) (e_drawN hp (e_vx rfl) e_cx (by decide) (by decide)) rfl (by decide +kernel)) fun v H2 i2 g12 hv => ?_
  obtain ⟨wd, rfl, hwd⟩ := hv
  have g2 := g1.trans g12
  refine q_asg (A := si fun i => 0 ≤ i ∧ i ≤ 3) i2 (e_if (B := fun _ => True) ((k_test (x_inQ (v := .str wd) (xs := [.str "tag", .str "xor"]) (e_vx rfl) rfl (x_tup (ws := [.str "tag", .str "xor"]) (a_cons e_cx (a_cons e_cx a_nil)) (big (by decide))) sq_t rfl)).imp fun _ _ => trivial) (fun _ => (e_drawN (n := 4) hp (e_vx rfl) e_cx (by decide) (by decide)).imp fun v _ ⟨i, e, h0, h1⟩ => ⟨i, e, h0, by omega⟩) fun _ => x_abs (c := fun i => -1 ≤ i ∧ i ≤ 2) (e_sxi (x_call (ws := [.str wd]) (v := .int (cnt wd)) (a_cons (e_vx rfl) a_nil) fun H9 g9 Q E k => ⟨wd, rfl, k⟩) (cnt_in wd)) fun i hi => by
    show 0 ≤ (if i < 0 then -i else i) ∧ (if i < 0 then -i else i) ≤ 3
    split <;> omega) fun v H3 i3 g23 hv => ?_
  obtain ⟨m, rfl, hm⟩ := hv
  have g3 := g2.trans g23
  refine q_ifj (B := fun _ => True) (fun σ' H' => ∃ m : Int, m ≤ 4 ∧ σ' = [some (.ref a), some (.int (m0 : Nat)), some (.str wd), some (.int m), none, none] ∧ Iv p H' ∧ Gr p H H') i3 (t_test ((e_op (C := sb fun _ => True) (e_drawN (n := 12) hp (e_vx rfl) e_cx (by decide) (by decide)) (e_cx (v := .int 0)) fun x y H1 iv g ⟨i, ei, _⟩ ey => by
      rw [ei, show y = _ from ey]
      exact rv iv ⟨_, rfl, trivial⟩ fun Q q => ⟨rfl, q⟩))) (fun N hN _ H4 i4 g34 => ?_) (fun _ H4 i4 g34 => ⟨m, by omega, rfl, i4, g3.trans g34⟩) ?_
  · refine s_asg (A := si fun i => i ≤ 4) i4 (e_addI (c := fun i => i ≤ 3) (d := fun i => i ≤ 1) (e_sxi (e_vx rfl) hm.2) (e_ixL (n := 2) (P := fun ws _ => ws = [.int 1, .int (-1)]) (hP := fun _ _ _ _ h => h) (x_lst (ws := [.int 1, .int (-1)]) (a_cons e_cx (a_cons (x_neg (i := 1) e_cx) a_nil)) (big (by decide))) (e_drawN hp (e_vx rfl) e_cx (by decide) (by decide)) (fun ws H1 e => by rw [e]; decide) fun ws v H1 e hv => by
        rw [e] at hv
        rcases List.mem_cons.mp hv with e | e
        · exact ⟨1, e, by decide⟩
        · exact ⟨-1, List.mem_singleton.mp e, by decide⟩) fun i j hi hj => by omega) fun v H5 i5 g45 hv => ?_
    obtain ⟨m', rfl, hm'⟩ := hv
    exact hN _ _ ⟨m', hm', rfl, i5, (g3.trans g34).trans g45⟩
  rintro σ' H4 ⟨m, hm, rfl, i4, g4⟩
  cases n with
  | zero => omega
  | succ n =>
  refine q_asg (A := slD p fun k => k ≤ 4) i4 (d_lcR (N := 4) (x_max (c := fun i => i = 0) (d := fun j => j ≤ 4) (e_ci rfl) (e_sxi (e_vx rfl) hm) fun i j hi hj => by
    show 0 ≤ (if j > i then j else i) ∧ (if j > i then j else i) ≤ ((4 : Nat) : Int)
    split <;> omega) z1 (fun _ => rfl) fun i D o H5 g5 hD => e_callP (p := p.and D o) hp (a_cons (e_vx (v := .ref a) rfl) (a_cons (x_to (x_ii (i := ((m0 : Nat) : Int)) (j := 1) (e_vx rfl) e_cx) (w := .int ((m0 - 1 : Nat) : Int)) (by
      show V.int (((m0 : Nat) : Int) - 1) = V.int ((m0 - 1 : Nat) : Int)
      congr 1
      omega)) a_nil)) fun vs H6 g iv os => by
        obtain ⟨v, ws, rfl, rfl, v2, ws2, rfl, rfl, rfl⟩ := os
        exact ⟨⟨m0 - 1, by omega, rfl⟩, fun v H2 h => h⟩) fun v H5 i5 g45 hv => ?_
  have g5 := g4.trans g45
  refine q_ifj (B := fun _ => True) (fun σ' H' => ∃ (v : V) (x : Option V), (slD p fun k => k ≤ 5).P v H' ∧ σ' = [some (.ref a), some (.int (m0 : Nat)), some (.str wd), some (.int m), some v, x] ∧ Iv p H' ∧ Gr p H H') i5 ((k_test (x_eq (x := .str wd) (y := .str "tag") (e_vx rfl) e_cx rfl)).imp fun _ _ => trivial) (fun N hN _ H6 i6 g56 => ?_) (fun _ H6 i6 g56 => ⟨v, none, ?_, rfl, i6, g5.trans g56⟩) ?_
  · refine s_asg (A := slD p fun k => k ≤ 5) i6 (d_cat (c := fun k => k = 1) (d := fun k => k ≤ 4) (d_lst (d_cons (d_ix (n := 8) (c := fun k => k = 8) (d_lst (d_cons (d_s z1) (d_cons (d_s z1) (d_cons (d_s z1) (d_cons (d_s z1) (d_cons (d_s z1) (d_cons (d_s z1) (d_cons (d_s z1) (d_cons d_i d_nil)))))))) z1) (e_drawN hp (e_vx rfl) e_cx (by decide) (by decide)) fun k hk => by omega) d_nil) z1) (e_var rfl ((slD p fun k => k ≤ 4).st _ _ _ g56 hv)) fun n m hn hm => by omega) fun v' H7 i7 g67 hv' => ?_
    exact hN _ _ ⟨v', none, hv', rfl, i7, (g5.trans g56).trans g67⟩
  · obtain ⟨b, ws, e, nb, hb, hl, hw⟩ := (slD p fun k => k ≤ 4).st _ _ _ g56 hv
    exact ⟨b, ws, e, nb, hb, by omega, hw⟩
  rintro σ' H6 ⟨v, x, hv, rfl, i6, g6⟩
  exact s_ret (A := sd p) i6 (d_tuple (c := fun k => k ≤ 6) (d_cat (c := fun k => k = 1) (d := fun k => k ≤ 5) (d_lst (d_cons (d_ss (e_ssx (c := fun z => z.length ≤ 8) (e_vx rfl) hwd) z1) d_nil) z1) (e_var rfl hv) fun n m hn hm => by omega) fun m hm => by omega) fun v H7 i7 g7 h => q v H7 i7 (g6.trans g7) h
theorem tree_all (E : En K mg) (F : Df K mg "_law_tree" s__law_tree) (c__law_draw : Ca P w K mg base 1 "_law_draw" spDraw) (c__law_leaf : Ca P w K mg base 2 "_law_leaf" spLeaf) (c__law_count : Ca P w K mg base 1 "_law_count" spCount) : ∀ n, Ca P w K mg base (3 + n) "_law_tree" (spTlow n)
  | 0 => ca_mk F sc__law_tree (fun _ _ _ _ _ _ us hl => match us, hl with | [_, _], _ => rfl) (fun _ _ _ _ h => h.elim) fun _ _ _ _ _ _ _ _ _ _ h => h.elim
  | n + 1 => ok_tree E F n (tree_all E F c__law_draw c__law_leaf c__law_count n) c__law_draw c__law_leaf c__law_count
end
end K10
namespace K10
open PySem PySem.Spec PyProof.Rows L2 Hk
section
variable {P : Program} {w : World} {K : PySem.W.Frag} {mg : Str → Option Value} {base : Heap} {p : Vo} {σ : L2.St} {H : Hp} {ta tb te : TE} {tr : TA} {a : Addr}
def spNest : Sp := fun vs H Q _ => ∃ n : Nat, vs = [.int (n : Nat)] ∧ n ≤ 100 ∧ ∀ v H', Gr Vo.non H H' → (sd Vo.non).P v H' → Q v H'
theorem d_two (h : Ev p te σ H (sd p)) : Ev p (tTup (tCons (tC (.str "not")) (tCons te tNil))) σ H (sd p) := d_tup (d_cons (d_s z1) (d_cons h d_nil)) z1
theorem ok_nested (E : En K mg) (F : Df K mg "_law_nested" s__law_nested) : Ca P w K mg base 1 "_law_nested" spNest := by
  refine ca_mk F sc__law_nested (fun _ _ _ _ _ _ us hl => match us, hl with | [_], _ => rfl) (fun vs H Q E h => by obtain ⟨n, rfl, _⟩ := h; rfl) (fun f cdv A outer s H vs Q E' hr h => ?_)
  obtain ⟨n, rfl, hn, q⟩ := h
  refine ⟨_, (pss_cons (ps_set (i := 1) sc__law_nested.nd rfl (Or.inl rfl) pe_bl)
      (pss_cons (ps_for PassesOwn.never rfl (pi_range1 (by rfl) (E.fr (x := "range") (by decide +kernel)) (pa_cons (pv 0) pa_nil)) (pg_name (i := 2) sc__law_nested.nd rfl (Or.inl rfl)) (pss_one (ps_set (i := 1) sc__law_nested.nd rfl (Or.inl rfl) (pe_tup (pa_cons pe_str (pa_cons (pv 1) pa_nil))))))
      (pss_one (ps_ret (pv 1))))), ?_⟩
  refine q_asgx (v := .bl true) (Iv.non H) e_cx fun H1 i1 g1 => ?_
  refine ⟨.int (n : Nat), rfl, (n : Nat), rfl, by omega, by omega, for_range (lo := 0) (n := ((n : Nat) : Int).toNat) (fun _ σ' H' => ∃ (v : V) (x : Option V), σ' = [some (.int (n : Nat)), some v, x] ∧ (sd Vo.non).P v H' ∧ Gr Vo.non H H') ⟨.bl true, none, rfl, ⟨.bl true, .bl true⟩, g1⟩ (fun i σ' H' hi hP => ?_) fun σ' H' hP => ?_⟩
  · obtain ⟨v, x, rfl, hv, g⟩ := hP
    exact s_asg (A := sd Vo.non) (Iv.non H') (d_two (d_var rfl hv)) fun v' H2 i2 g2 hv' => ⟨v', _, rfl, hv', g.trans g2⟩
  · obtain ⟨v, x, rfl, hv, g⟩ := hP
    exact s_ret (A := sd Vo.non) (Iv.non H') (d_var rfl hv) fun v' H2 i2 g2 hv' => q v' H2 (g.trans g2) hv'
theorem x_nested {n : Nat} (hn : n ≤ 100) : Ev Vo.non (tCall spNest [] E0 (tCons (tC (.int (n : Nat))) tNil)) σ H (sd Vo.non) := e_call (a_cons e_cx a_nil) fun vs H1 iv g os Q q => by
  obtain ⟨v, ws, rfl, ev, rfl⟩ := os
  obtain rfl : v = .int (n : Nat) := ev
  exact ⟨n, rfl, hn, fun v H' g' h' => q v H' (Iv.non _) g' h'⟩
def spOthers : Sp := fun vs H Q _ => vs = [] ∧ ∀ v H', Gr Vo.non H H' → (slD Vo.non fun m => m ≤ 1000).P v H' → Q v H'
theorem pw30 : CPw 10 30 := ⟨by decide, by decide +kernel⟩
theorem ok_others (E : En K mg) (F : Df K mg "_law_others" s__law_others) (c__law_nested : Ca P w K mg base 1 "_law_nested" spNest) : Ca P w K mg base 2 "_law_others" spOthers := by
  refine ca_mk F sc__law_others (fun _ _ _ _ _ _ us hl => match us, hl with | [], _ => rfl) (fun vs H Q E h => by rw [h.1]; rfl) (fun f cdv A outer s H vs Q E' hr h => ?_)
  obtain ⟨rfl, q⟩ := h
  refine ⟨_, (pss_cons (ps_set (i := 0) sc__law_others.nd rfl (Or.inl rfl) pe_str)
      (pss_cons (ps_for PassesOwn.never rfl (pi_range1 (by rfl) (E.fr (x := "range") (by decide +kernel)) (pa_cons pe_int pa_nil)) (pg_name (i := 1) sc__law_others.nd rfl (Or.inl rfl)) (pss_one (ps_set (i := 0) sc__law_others.nd rfl (Or.inl rfl) (pe_tup (pa_cons pe_str (pa_cons (pv 0) pa_nil))))))
      (pss_cons (ps_set (i := 2) sc__law_others.nd rfl (Or.inl rfl) (pe_lst (pa_cons pe_non (pa_cons pe_bl (pa_cons pe_bl (pa_cons pe_int (pa_cons pe_int (pa_cons (pe_un un_neg pe_int) (pa_cons (pe_op op_powW pe_int pe_int) (pa_cons pe_str (pa_cons (pe_tup pa_nil) (pa_cons (pe_lst pa_nil) (pa_cons pe_dnewK (pa_cons (pe_tup (pa_cons pe_str pa_nil)) (pa_cons (pe_lst (pa_cons pe_str pa_nil)) (pa_cons (pe_tup (pa_cons pe_str pa_nil)) (pa_cons (pe_tup (pa_cons pe_str (pa_cons pe_int pa_nil))) pa_nil)))))))))))))))))
      (pss_cons (ps_set (i := 2) sc__law_others.nd rfl (Or.inl rfl) (pe_op op_addU (pv 2) (pe_lst (pa_cons (pe_tup (pa_cons pe_str (pa_cons pe_int (pa_cons pe_int (pa_cons pe_int pa_nil))))) pa_nil))))
      (pss_cons (ps_set (i := 2) sc__law_others.nd rfl (Or.inl rfl) (pe_op op_addU (pv 2) (pe_lst (pa_cons (pe_tup (pa_cons pe_str (pa_cons pe_int (pa_cons (pe_tup (pa_cons pe_str pa_nil)) pa_nil)))) (pa_cons (pe_tup (pa_cons pe_str (pa_cons pe_int (pa_cons pe_non pa_nil)))) (pa_cons (pe_tup (pa_cons pe_str (pa_cons pe_str (pa_cons (pe_lst (pa_cons pe_str pa_nil)) pa_nil)))) (pa_cons (pe_tup (pa_cons pe_str pa_nil)) (pa_cons (pe_tup (pa_cons pe_str (pa_cons pe_int pa_nil))) (pa_cons (pe_tup (pa_cons pe_int (pa_cons pe_int (pa_cons pe_int pa_nil)))) pa_nil)))))))))
      (pss_cons (ps_set (i := 2) sc__law_others.nd rfl (Or.inl rfl) (pe_op op_addU (pv 2) (pe_lst (pa_cons pe_str (pa_cons pe_str (pa_cons pe_str (pa_cons pe_str (pa_cons pe_str (pa_cons pe_str (pa_cons pe_str (pa_cons pe_str (pa_cons pe_str (pa_cons pe_str (pa_cons pe_str pa_nil))))))))))))))
      (pss_cons (ps_set (i := 2) sc__law_others.nd rfl (Or.inl rfl) (pe_op op_addU (pv 2) (pe_lst (pa_cons (pe_ca c__law_nested (hr.mono (by first | decide | omega)) (by rfl) (pa_cons pe_int pa_nil)) (pa_cons (pe_ca c__law_nested (hr.mono (by first | decide | omega)) (by rfl) (pa_cons pe_int pa_nil)) pa_nil)))))
      (pss_one (ps_ret (pe_op op_addU (pv 2) (pe_lst (pa_cons (pe_tup (pa_cons pe_str (pa_cons pe_dnewK pa_nil))) (pa_cons (pe_tup (pa_cons pe_non (pa_cons pe_int pa_nil))) (pa_cons (pe_tup (pa_cons pe_bl pa_nil)) (pa_cons (pe_tup (pa_cons pe_str (pa_cons pe_str pa_nil))) (pa_cons (pv 0) (pa_cons (pe_tup (pa_cons pe_str (pa_cons pe_str (pa_cons (pv 0) pa_nil)))) (pa_cons (pe_lst (pa_cons (pv 0) pa_nil)) pa_nil)))))))))))))))))), ?_⟩
  refine q_asgx (v := .str "x") (Iv.non H) e_cx fun H1 i1 g1 => ?_
  refine ⟨1200, rfl, by decide, by decide, for_range (lo := 0) (n := (1200 : Int).toNat) (fun _ σ' H' => ∃ (v : V) (x : Option V), σ' = [some v, x, none] ∧ (sd Vo.non).P v H' ∧ Gr Vo.non H H') ⟨.str "x", none, rfl, ⟨.str "x", .str "x" z1⟩, g1⟩ (fun i σ' H' hi hP => ?_) fun σ' H' hP => ?_⟩
  · obtain ⟨v, x, rfl, hv, g⟩ := hP
    exact s_asg (A := sd Vo.non) (Iv.non H') (d_two (d_var rfl hv)) fun v' H2 i2 g2 hv' => ⟨v', _, rfl, hv', g.trans g2⟩
  · obtain ⟨v, x, rfl, hv, g⟩ := hP
    refine q_asg (A := slD Vo.non fun m => m = 15) (Iv.non H') (d_lst (d_cons d_n (d_cons d_b (d_cons d_b (d_cons d_i (d_cons d_i (d_cons (d_int (x_neg (i := 1) e_cx)) (d_cons (d_int (x_ic (c := CPw) (g := fun i j => .int (i ^ j.toNat)) (i := 10) (j := 30) e_cx e_cx pw30)) (d_cons (d_s z1) (d_cons (d_tup d_nil z1) (d_cons (d_l d_nil z1) (d_cons d_dict (d_cons (d_tup (d_cons (d_s z1) d_nil) z1) (d_cons (d_l (d_cons (d_s z1) d_nil) z1) (d_cons (d_tup (d_cons (d_s z1) d_nil) z1) (d_cons (d_tup (d_cons (d_s z1) (d_cons d_i d_nil)) z1) d_nil))))))))))))))) z1) fun v2 H2 i2 g2 hv2 => ?_
    refine q_asg (A := slD Vo.non fun m => m ≤ 100) i2 (d_cat (c := fun m => m = 15) (d := fun m => m = 1) (e_var rfl hv2) (d_lst (d_cons (d_tup (d_cons (d_s z1) (d_cons d_i (d_cons d_i (d_cons d_i d_nil)))) z1) d_nil) z1) fun n m hn hm => by omega) fun v3 H3 i3 g3 hv3 => ?_
    refine q_asg (A := slD Vo.non fun m => m ≤ 200) i3 (d_cat (c := fun m => m ≤ 100) (d := fun m => m = 6) (e_var rfl hv3) (d_lst (d_cons (d_tup (d_cons (d_s z1) (d_cons d_i (d_cons (d_tup (d_cons (d_s z1) d_nil) z1) d_nil))) z1) (d_cons (d_tup (d_cons (d_s z1) (d_cons d_i (d_cons d_n d_nil))) z1) (d_cons (d_tup (d_cons (d_s z1) (d_cons (d_s z1) (d_cons (d_l (d_cons (d_s z1) d_nil) z1) d_nil))) z1) (d_cons (d_tup (d_cons (d_s z1) d_nil) z1) (d_cons (d_tup (d_cons (d_s z1) (d_cons d_i d_nil)) z1) (d_cons (d_tup (d_cons d_i (d_cons d_i (d_cons d_i d_nil))) z1) d_nil)))))) z1) fun n m hn hm => by omega) fun v4 H4 i4 g4 hv4 => ?_
    refine q_asg (A := slD Vo.non fun m => m ≤ 300) i4 (d_cat (c := fun m => m ≤ 200) (d := fun m => m = 11) (e_var rfl hv4) (d_lst (d_cons (d_s z1) (d_cons (d_s z1) (d_cons (d_s z1) (d_cons (d_s z1) (d_cons (d_s z1) (d_cons (d_s z1) (d_cons (d_s z1) (d_cons (d_s z1) (d_cons (d_s z1) (d_cons (d_s z1) (d_cons (d_s z1) d_nil))))))))))) z1) fun n m hn hm => by omega) fun v5 H5 i5 g5 hv5 => ?_
    refine q_asg (A := slD Vo.non fun m => m ≤ 400) i5 (d_cat (c := fun m => m ≤ 300) (d := fun m => m = 2) (e_var rfl hv5) (d_lst (d_cons (x_nested (n := 4) (by decide)) (d_cons (x_nested (n := 5) (by decide)) d_nil)) z1) fun n m hn hm => by omega) fun v6 H6 i6 g6 hv6 => ?_
    have gg := (((g2.trans g3).trans g4).trans g5).trans g6
    have hv' := (sd Vo.non).st _ _ _ gg hv
    exact s_ret (A := slD Vo.non fun m => m ≤ 1000) i6 (d_cat (c := fun m => m ≤ 400) (d := fun m => m = 7) (e_var rfl hv6) (d_lst (d_cons (d_tup (d_cons (d_s z1) (d_cons d_dict d_nil)) z1) (d_cons (d_tup (d_cons d_n (d_cons d_i d_nil)) z1) (d_cons (d_tup (d_cons d_b d_nil) z1) (d_cons (d_tup (d_cons (d_s z1) (d_cons (d_s z1) d_nil)) z1) (d_cons (d_var rfl hv') (d_cons (d_tup (d_cons (d_s z1) (d_cons (d_s z1) (d_cons (d_var rfl hv') d_nil))) z1) (d_cons (d_l (d_cons (d_var rfl hv') d_nil) z1) d_nil))))))) z1) fun n m hn hm => by omega) fun v7 H7 i7 g7 h => q v7 H7 ((g.trans gg).trans g7) h
end
end K10
namespace K10
open PySem PySem.Spec PyProof.Rows L2 Hk
section
variable {P : Program} {w : World} {K : PySem.W.Frag} {mg : Str → Option Value} {base : Heap} {p : Vo} {σ : L2.St} {H : Hp} {ta tb te : TE} {tr : TA} {a : Addr}
theorem x_cat {xs ys : List V} (ha : Ev p ta σ H (slx xs)) (hb : Ev p tb σ H (slx ys)) (hz : xs.length + ys.length ≤ 100000) : Ev p (tOp rAddU ta tb) σ H (slx (xs ++ ys)) :=
  e_op ha hb fun x y H1 iv g ⟨b, ws, e1, nb, h1, hw⟩ ⟨b', ws', e2, nb', h2, hw'⟩ => rv_new iv (o := .lst (xs ++ ys)) (fun q nq hq i' g' => ⟨q, _, rfl, nq, upd_same, rfl⟩) fun Q q => .inr (.inr ⟨b, b', xs, ys, e1, e2, by rw [h1, hw], by rw [h2, hw'], big hz, q⟩)
theorem flat_bl : ∀ bs : List Bool, Paired FlatD (bs.map V.bl) (bs.map PyData.bool)
  | [] => .nil
  | b :: bs => .cons (.bl b) (flat_bl bs)
theorem flat_st : ∀ zs : List Str, Paired FlatD (zs.map V.str) (zs.map PyData.str)
  | [] => .nil
  | z :: zs => .cons (.str z) (flat_st zs)
def shB (bs : List Bool) : Str := (PyData.list (bs.map PyData.bool)).shown
theorem x_reprB {bs : List Bool} (ha : Ev p ta σ H (slx (bs.map V.bl))) (hz : (shB bs).length ≤ sizeLine) : Ev p (tCB (rRepr K) (tCons ta tNil)) σ H (sx (.str (shB bs))) := e_cb (a_cons ha a_nil) fun vs H1 iv g os => by
  obtain ⟨v, us, rfl, ⟨b, ws, rfl, nb, h1, rfl⟩, rfl⟩ := os
  exact rv iv rfl fun Q q => ⟨b, _, _, rfl, flat_bl bs, .inl ⟨SqL.of h1, hz, q⟩⟩
theorem five (a b c d e : Bool) : (shB [a, b, c, d, e]).length ≤ sizeLine := by
  have h : (shB [a, b, c, d, e]).length ≤ 100 := by cases a <;> cases b <;> cases c <;> cases d <;> cases e <;> decide +kernel
  exact big (by omega)
/-- what is told of a thing, and what is due -/
def spTold : Sp := fun vs H Q _ => ∃ v d, vs = [v] ∧ Dat Vo.non H v d ∧ ∀ H', Gr Vo.non H H' → Q (.bl true) H'
theorem ok_told_right (E : En K mg) (F : Df K mg "_law_told_right" s__law_told_right) (c_is_name : Ca P w K mg base 2 "is_name" (spD1 nameD)) (c_is_tag : Ca P w K mg base 2 "is_tag" (spD1 tagD)) (c_is_label : Ca P w K mg base 3 "is_label" (spD1 labelD)) (c_is_task_string : Ca P w K mg base 1 "is_task_string" (spD1 taskD)) (c_is_expression : Ca P w K mg base 11 "is_expression" (spD1 (form 5)))
    (c__law_name_right : Ca P w K mg base 2 "_law_name_right" (spD1 nameD)) (c__law_tag_right : Ca P w K mg base 1 "_law_tag_right" (spD1 tagD)) (c__law_label_right : Ca P w K mg base 3 "_law_label_right" (spD1 labelD)) (c__law_task_right : Ca P w K mg base 1 "_law_task_right" (spD1 taskD)) (c__law_form_right : Ca P w K mg base 10 "_law_form_right" (spLev 5)) : CaG P w K mg base 12 "_law_told_right" spTold := by
  refine caG_mk F sc__law_told_right (fun _ _ _ _ _ _ us hl => match us, hl with | [_], _ => rfl) (fun vs H Q E h => by obtain ⟨v, d, rfl, _⟩ := h; rfl) (fun f cdv A outer s H vs Q E' hg hr h => ?_)
  obtain ⟨v, d, rfl, hd, q⟩ := h
  have hu : (A.deeper (envOfC "_law_told_right" (defScope s__law_told_right) s.heap.objs.size f cdv)).units + 3 < cLine := by
    have := hr.un
    omega
  refine ⟨_, (pss_cons (ps_set (i := 1) sc__law_told_right.nd rfl (Or.inl rfl) (pe_lst (pa_cons (pe_ca c_is_name (hr.mono (by first | decide | omega)) (by rfl) (pa_cons (pv 0) pa_nil)) (pa_cons (pe_ca c_is_tag (hr.mono (by first | decide | omega)) (by rfl) (pa_cons (pv 0) pa_nil)) (pa_cons (pe_ca c_is_label (hr.mono (by first | decide | omega)) (by rfl) (pa_cons (pv 0) pa_nil)) (pa_cons (pe_ca c_is_task_string (hr.mono (by first | decide | omega)) (by rfl) (pa_cons (pv 0) pa_nil)) (pa_cons (pe_ca c_is_expression (hr.mono (by first | decide | omega)) (by rfl) (pa_cons (pv 0) pa_nil)) pa_nil)))))))
      (pss_cons (ps_set (i := 2) sc__law_told_right.nd rfl (Or.inl rfl) (pe_lst (pa_cons (pe_ca c__law_name_right (hr.mono (by first | decide | omega)) (by rfl) (pa_cons (pv 0) pa_nil)) (pa_cons (pe_ca c__law_tag_right (hr.mono (by first | decide | omega)) (by rfl) (pa_cons (pv 0) pa_nil)) (pa_cons (pe_ca c__law_label_right (hr.mono (by first | decide | omega)) (by rfl) (pa_cons (pv 0) pa_nil)) (pa_cons (pe_ca c__law_task_right (hr.mono (by first | decide | omega)) (by rfl) (pa_cons (pv 0) pa_nil)) pa_nil))))))
      (pss_one (ps_ret (pe_cmpR op_eq (pe_callB (reprK (K := K) hg hu rfl) (by rfl) (E.fr (x := "repr") (by decide +kernel)) (by decide +kernel) (pa_cons (pv 1) pa_nil)) (pe_callB (reprK (K := K) hg hu rfl) (by rfl) (E.fr (x := "repr") (by decide +kernel)) (by decide +kernel) (pa_cons (pe_op op_addU (pv 2) (pe_lst (pa_cons (pe_ca c__law_form_right (hr.mono (by first | decide | omega)) (by rfl) (pa_cons (pv 0) (pa_cons pe_int pa_nil))) pa_nil))) pa_nil)) (nomark _)))))), ?_⟩
  have c1 : ∀ {σ : L2.St} {H1 : Hp} {f : D → Bool}, Gr Vo.non H H1 → σ[0]? = some (some v) → Ev Vo.non (tCall (spD1 f) [] E0 (tCons (tVar 0) tNil)) σ H1 (sx (.bl (f d))) := fun g hσ => x_call (ws := [v]) (a_cons (e_vx hσ) a_nil) fun H2 g2 => pu_D1 (hd.gr (g.trans g2))
  refine q_asg (A := slx ([nameD d, tagD d, labelD d, taskD d, form 5 d].map V.bl)) (Iv.non H) (x_lst (ws := [.bl (nameD d), .bl (tagD d), .bl (labelD d), .bl (taskD d), .bl (form 5 d)]) (a_cons (c1 (Gr.refl H) rfl) (a_cons (c1 (Gr.refl H) rfl) (a_cons (c1 (Gr.refl H) rfl) (a_cons (c1 (Gr.refl H) rfl) (a_cons (c1 (Gr.refl H) rfl) a_nil))))) (big (show 5 ≤ 100000 by decide))) fun v1 H1 i1 g1 h1 => ?_
  refine q_asg (A := slx ([nameD d, tagD d, labelD d, taskD d].map V.bl)) i1 (x_lst (ws := [.bl (nameD d), .bl (tagD d), .bl (labelD d), .bl (taskD d)]) (a_cons (c1 g1 rfl) (a_cons (c1 g1 rfl) (a_cons (c1 g1 rfl) (a_cons (c1 g1 rfl) a_nil)))) (big (show 4 ≤ 100000 by decide))) fun v2 H2 i2 g12 h2 => ?_
  have g2 := g1.trans g12
  refine s_retx i2 (x_to (x_eq (x := .str (shB [nameD d, tagD d, labelD d, taskD d, form 5 d])) (y := .str (shB [nameD d, tagD d, labelD d, taskD d, form 5 d])) (x_reprB (e_var rfl ((slx ([nameD d, tagD d, labelD d, taskD d, form 5 d].map V.bl)).st _ _ _ g12 h1)) (five _ _ _ _ _)) (x_reprB (bs := [nameD d, tagD d, labelD d, taskD d, form 5 d]) (x_cat (xs := [nameD d, tagD d, labelD d, taskD d].map V.bl) (ys := [.bl (form 5 d)]) (e_var rfl h2) (x_lst (ws := [.bl (form 5 d)]) (a_cons (x_call (ws := [v, .int (5 : Nat)]) (a_cons (e_vx rfl) (a_cons e_cx a_nil)) fun H3 g3 => pu_lev (hd.gr (g2.trans g3))) a_nil) (big (show 1 ≤ 100000 by decide))) (show 4 + 1 ≤ 100000 by decide)) (five _ _ _ _ _)) rfl) (w := .bl true) (by rw [decide_eq_true rfl])) fun H3 _ g3 => q H3 (g2.trans g3)
end
end K10
namespace K10
open PySem PySem.Spec PyProof.Rows L2 Hk
/-! ### the words, sorted: one list alone -/
def idx (s : Str) : Int := ((wsR.map fun t => t.cps.toList).idxOf s.cps.toList : Nat)
theorem idx_le : wsR.all (fun a => wsR.all fun b => ltCps b.cps.toList a.cps.toList || decide (idx a ≤ idx b)) = true := by decide +kernel
theorem idx_back : wsR.all (fun a => decide ((wsR.map fun t => t.cps.toList)[(idx a).toNat]? = some a.cps.toList)) = true := by decide +kernel
theorem ws_sorted : sortedS wsR = true := by decide +kernel
theorem idx_mono {a b : Str} (ha : a ∈ wsR) (hb : b ∈ wsR) (h : (!ltCps b.cps.toList a.cps.toList) = true) : idx a ≤ idx b := by
  have h1 := List.all_eq_true.mp (List.all_eq_true.mp idx_le a ha) b hb
  rw [(Bool.not_eq_true' _).mp h] at h1
  exact of_decide_eq_true h1
theorem rising_pw : ∀ (l : List Str) (q : Str), (∀ x ∈ q :: l, x ∈ wsR) → risingS q l = true → ((q :: l).map idx).Pairwise (· ≤ ·)
  | [], q, _, _ => List.pairwise_singleton _ _
  | x :: r, q, hm, h => by
    have h1 : ((!ltCps x.cps.toList q.cps.toList) && risingS x r) = true := h
    obtain ⟨h2, h3⟩ := Bool.and_eq_true_iff.mp h1
    have ih := rising_pw r x (fun y hy => hm y (List.mem_cons_of_mem _ hy)) h3
    have h4 := idx_mono (hm q List.mem_cons_self) (hm x (List.mem_cons_of_mem _ List.mem_cons_self)) h2
    rw [List.map_cons, List.map_cons] at *
    refine List.pairwise_cons.mpr ⟨fun y hy => ?_, ih⟩
    rcases List.mem_cons.mp hy with e | e
    · rw [e]; exact h4
    · exact Int.le_trans h4 ((List.pairwise_cons.mp ih).1 y e)
theorem sorted_pw : ∀ l : List Str, (∀ x ∈ l, x ∈ wsR) → sortedS l = true → (l.map idx).Pairwise (· ≤ ·)
  | [], _, _ => List.Pairwise.nil
  | x :: r, hm, h => rising_pw r x hm h
theorem back_all : ∀ l : List Str, (∀ x ∈ l, x ∈ wsR) → (l.map idx).map (fun i => (wsR.map fun t => t.cps.toList)[i.toNat]?) = l.map fun s => some s.cps.toList
  | [], _ => rfl
  | x :: r, hm => by
    rw [List.map_cons, List.map_cons, List.map_cons, back_all r fun y hy => hm y (List.mem_cons_of_mem _ hy), of_decide_eq_true (List.all_eq_true.mp idx_back x (hm x List.mem_cons_self))]
theorem map_inj : ∀ {l m : List Str}, (l.map fun s => some s.cps.toList) = m.map (fun s => some s.cps.toList) → l = m
  | [], [], _ => rfl
  | [], _ :: _, h => by cases h
  | _ :: _, [], h => by cases h
  | x :: r, y :: t, h => by
    rw [List.map_cons, List.map_cons] at h
    injection h with h1 h2
    rw [str_eq.mpr (Option.some.inj h1), map_inj h2]
theorem sorted_one {ys : List Str} (hp : ys.Perm wsR) (hs : sortedS ys = true) : ys = wsR := by
  have e : ys.map idx = wsR.map idx := PySem.W.ksm_same (hp.map idx) (sorted_pw ys (fun x hx => hp.mem_iff.mp hx) hs) (sorted_pw wsR (fun x hx => hx) ws_sorted)
  have e2 := congrArg (fun l => l.map fun i : Int => (wsR.map fun t => t.cps.toList)[i.toNat]?) e
  exact map_inj ((back_all ys fun x hx => hp.mem_iff.mp hx).symm.trans (e2.trans (back_all wsR fun x hx => hx)))
section
variable {P : Program} {w : World} {K : PySem.W.Frag} {mg : Str → Option Value} {base : Heap} {p : Vo} {σ : L2.St} {H : Hp} {ta tb te : TE} {tr : TA} {a : Addr}
def shT : Str := (PyData.tuple (wsR.map PyData.str)).shown
theorem sh_all : ∀ l : List Str, PyData.shownAll (l.map PyData.str) = l.map reprText
  | [] => by simp only [List.map_nil, PyData.shownAll]
  | x :: l => by simp only [List.map_cons, PyData.shownAll, PyData.shown, sh_all l]
theorem wsR_len : wsR.all (fun z => decide ((reprText z).length ≤ 20)) = true := by decide +kernel
theorem sum_len : ∀ l : List Str, (∀ z ∈ l, (reprText z).length ≤ 20) → ((l.map reprText).map (·.length)).sum ≤ 20 * l.length
  | [], _ => by simp
  | x :: l, h => by
    have h1 := sum_len l fun z hz => h z (List.mem_cons_of_mem _ hz)
    have h2 := h x List.mem_cons_self
    simp only [List.map_cons, List.sum_cons, List.length_cons]
    omega
theorem shT_len : shT.length ≤ sizeLine := by
  have h : shT.length ≤ 1000 := by
    have h1 := tupleText_len_le (PyData.shownAll (wsR.map PyData.str))
    have h2 := sum_len wsR fun z hz => of_decide_eq_true (List.all_eq_true.mp wsR_len z hz)
    unfold shT
    simp only [PyData.shown]
    rw [sh_all] at h1 ⊢
    rw [List.length_map] at h1
    have h3 : wsR.length = 43 := by decide +kernel
    omega
  exact big (by omega)
theorem x_reprT (ha : Ev p ta σ H (stx (wsR.map V.str))) : Ev p (tCB (rRepr K) (tCons ta tNil)) σ H (sx (.str shT)) := e_cb (a_cons ha a_nil) fun vs H1 iv g os => by
  obtain ⟨v, us, rfl, ⟨b, ws, rfl, nb, h1, rfl⟩, rfl⟩ := os
  exact rv iv rfl fun Q q => ⟨b, _, _, rfl, flat_st wsR, .inr ⟨SqT.of h1, shT_len, q⟩⟩
theorem x_reprK {b : Addr} (h : ∀ H, SqT K H b (wsR.map V.str)) : Ev p (tCB (rRepr K) (tCons (tC (.ref b)) tNil)) σ H (sx (.str shT)) := e_cb (a_cons e_cx a_nil) fun vs H1 iv g os => by
  obtain ⟨v, us, rfl, ev, rfl⟩ := os
  obtain rfl : v = .ref b := ev
  exact rv iv rfl fun Q q => ⟨b, _, _, rfl, flat_st wsR, .inr ⟨h H1, shT_len, q⟩⟩
theorem x_sorted (ha : Ev p ta σ H (slx (wsR.map V.str))) : Ev p (tCB (rSortedS K) (tCons ta tNil)) σ H (slx (wsR.map V.str)) := e_cb (a_cons ha a_nil) fun vs H1 iv g os => by
  obtain ⟨v, us, rfl, ⟨b, ws, rfl, nb, h1, rfl⟩, rfl⟩ := os
  exact rv_new iv (o := .lst (wsR.map V.str)) (fun q nq hq i' g' => ⟨q, _, rfl, nq, upd_same, rfl⟩) fun Q q => ⟨b, wsR, rfl, SqL.of h1, by decide +kernel, fun ys c hp hs hc => by
    rw [sorted_one hp hs]
    exact q c hc⟩
theorem x_tupleL {xs : List V} (ha : Ev p ta σ H (slx xs)) : Ev p (tCB (rTupK K) (tCons ta tNil)) σ H (stx xs) := e_cb (a_cons ha a_nil) fun vs H1 iv g os => by
  obtain ⟨v, us, rfl, ⟨b, ws, rfl, nb, h1, rfl⟩, rfl⟩ := os
  exact rv_new iv (o := .tup _) (fun q nq hq i' g' => ⟨q, _, rfl, nq, upd_same, rfl⟩) fun Q q => ⟨b, _, rfl, .inl ⟨SqL.of h1, q⟩⟩
theorem x_min {c d e : Int → Prop} (ha : Ev p ta σ H (si c)) (hb : Ev p tb σ H (si d)) (he : ∀ i j, c i → d j → e (if j < i then j else i)) : Ev p (tCB (fun xs H Q => ∃ i j, xs = [.int i, .int j] ∧ Q (.int (if j < i then j else i)) H) (tCons ta (tCons tb tNil))) σ H (si e) := e_cb (a_cons ha (a_cons hb a_nil)) fun vs H1 iv g os => by
  obtain ⟨v, ws, rfl, ⟨i, rfl, hi⟩, v2, ws2, rfl, ⟨j, rfl, hj⟩, rfl⟩ := os
  exact rv iv ⟨_, rfl, he i j hi hj⟩ fun Q q => ⟨i, j, rfl, q⟩
theorem x_told {v : V} {d : D} (h : Ev p te σ H (sx v)) (hd : Dat p H v d) : Ev p (tCall spTold [] E0 (tCons te tNil)) σ H (sx (.bl true)) := x_call (ws := [v]) (a_cons h a_nil) fun H1 g1 Q E k => ⟨v, d, rfl, (hd.gr g1).non', k⟩
theorem all_late {j : Nat} {vs : List Nat} {ts : TE} {c : Nat → Prop} (hx : Ev p ts σ H (slD p c)) (hc : ∀ m, c m → m ≤ 100000) (hw : ∀ x, wipe ((wipe σ vs).set j (some x)) vs = wipe σ vs)
    (he : ∀ (x : V) (d : D) E o H1, Gr p H H1 → Dat (p.and E o) H1 x d → Ev (p.and E o) te ((wipe σ vs).set j (some x)) H1 (sx (.bl true))) : Ev p (tCB (rAll K) (tCons (tLc (iList K ts) (gName j) tYes te vs) tNil)) σ H (sx (.bl true)) := by
  intro H0 i0 g0 Q q
  refine hx H0 i0 g0 _ fun v H2 i2 g2 hv => ?_
  obtain ⟨a, xs, rfl, na, ha, hl, hw'⟩ := hv
  obtain ⟨ds, l, r⟩ := ds_of hw'
  have h := allL (K := K) (j := j) (te := te) (vs := vs) (ta := tC (.ref a)) (p := p) (σ := σ) (H := H2) (B := slx xs) (xs := xs) (ds := ds) (fun _ => true) (e_c ⟨a, xs, rfl, na, ha, rfl⟩) (fun v H1 _ ⟨a', ws, e, n, h, e'⟩ => ⟨a', e, n, by rw [h, e']⟩) (hc _ hl) l hw fun i x d E o H1 g hE h1 h2 => he x d E o H1 ((g0.trans g2).trans g) (((r i x d h1 h2).gr g).and hE)
  rw [show ds.all (fun _ => true) = true from List.all_eq_true.mpr fun _ _ => rfl] at h
  exact h H2 i2 (Gr.refl H2) Q fun v' H3 i3 g3 e3 => q v' H3 i3 (g2.trans g3) e3
theorem x_others : Ev Vo.non (tCall spOthers [] E0 tNil) σ H (slD Vo.non fun m => m ≤ 1000) := e_call a_nil fun vs H1 iv g os Q q => ⟨os, fun v H' g' h' => q v H' (Iv.non _) g' h'⟩
theorem x_word (hp : p.pot = some a) (ha : Ev p ta σ H (sx (.ref a))) : Ev p (tCall spWord [] E0 (tCons ta tNil)) σ H (ss fun z => z.length ≤ 1000) := e_callP hp (a_cons ha a_nil) fun vs H1 g iv os => by
  obtain ⟨v, ws, rfl, ev, rfl⟩ := os
  obtain rfl : v = .ref a := ev
  exact ⟨rfl, fun v H2 h => h⟩
theorem x_tree {n : Nat} (hp : p.pot = some a) (ha : Ev p ta σ H (sx (.ref a))) (hb : Ev p tb σ H (si fun i => 0 ≤ i ∧ i ≤ (n : Int))) : Ev p (tCall (spTree n) [] E0 (tCons ta (tCons tb tNil))) σ H (sd p) := e_callP hp (a_cons ha (a_cons hb a_nil)) fun vs H1 g iv os => by
  obtain ⟨v, ws, rfl, ev, v2, ws2, rfl, ⟨i, rfl, h0, h1⟩, rfl⟩ := os
  obtain rfl : v = .ref a := ev
  refine ⟨⟨i.toNat, by omega, ?_⟩, fun v H2 h => h⟩
  rw [show ((i.toNat : Nat) : Int) = i by omega]
theorem Gr.join {b : Addr} {H1 H2 : Hp} (g : Gr Vo.non H H1) (hb : H b = none) (g2 : Gr (Vo.of b) H1 H2) : Gr Vo.non H H2 := fun x o n h => g2 x o (nv_of fun e => by rw [e, h] at hb; cases hb) (g x o n h)
theorem Iv.pot1 {b : Addr} (h : Pot H b) : Iv (Vo.of b) H := ⟨fun x e => by
  cases (show b = x from Option.some.inj e)
  exact ⟨h, fun y hy => (nomatch hy)⟩, fun x hx => (nomatch hx)⟩
theorem q_forR {C : Int → Prop} {g : TG} {tb u : TS} {D : Ends} (iv : Iv p H) (h : Ev p te σ H (si C)) (hC : ∀ n, C n → 0 ≤ n ∧ n < 1000000) (Pv : Nat → L2.St → Hp → Prop) (h0 : ∀ H1, Iv p H1 → Gr p H H1 → Pv 0 σ H1)
    (hs : ∀ n, C n → ∀ i σ' H', i < n.toNat → Pv i σ' H' → g (.int (0 + (i : Nat))) σ' H' fun σ2 H2 => tb { D with nx := Pv (i + 1), ct := Pv (i + 1), bk := u D } σ2 H2) (hd : ∀ n, C n → ∀ σ' H', Pv n.toNat σ' H' → u D σ' H') : tSeq (tFor (iRng1 (tCons te tNil)) g tb) u D σ H :=
  h H iv (Gr.refl H) _ fun v H1 i1 g1 ⟨n, e, hn⟩ => ⟨n, by rw [e], by have := hC n hn; omega, by have := hC n hn; omega, for_range (lo := 0) (n := n.toNat) (D := { D with nx := u D }) Pv (h0 H1 i1 g1) (hs n hn) (hd n hn)⟩
def spLaw (K : PySem.W.Frag) : Sp := fun vs H Q _ => ∃ (a : Addr) (ns : List Int), vs = [.ref a] ∧ SqL K H a (ns.map V.int) ∧ ns.length ≤ 63 ∧ ∀ H', Q (.bl true) H'
theorem ok_law {f : Addr} {fd : FuncData} (E : En K mg) (F : Fun K "law" "law" s_law f fd) (c__law_reserved : Ca P w K mg base 1 "_law_reserved" spRes) (c__law_told_right : CaG P w K mg base 12 "_law_told_right" spTold) (c__law_others : Ca P w K mg base 2 "_law_others" spOthers) (c__law_pot : Ca P w K mg base 1 "_law_pot" (spPot K)) (c__law_word : Ca P w K mg base 3 "_law_word" spWord) (c__law_tree : Ca P w K mg base 10 "_law_tree" (spTree 6)) (c__law_draw : Ca P w K mg base 1 "_law_draw" spDraw) : FnG P w K mg base 13 f fd ["_law_script"] (spLaw K) := by
  refine fnG_mk F sc_law (fun vs H Q E h => by obtain ⟨a, ns, rfl, _⟩ := h; rfl) (fun cdv A outer s H vs Q E' hg hr h => ?_)
  obtain ⟨sc, ns, rfl, hS, hn, q⟩ := h
  have hu : (A.deeper (envOfC "law" (defScope s_law) s.heap.objs.size f cdv)).units + 3 < cLine := by
    have := hr.un
    omega
  refine ⟨_, (pss_cons (ps_if (pt_cmpR op_ne (pe_callB (reprK (K := K) hg hu rfl) (by rfl) (E.fr (x := "repr") (by decide +kernel)) (by decide +kernel) (pa_cons (pe_gc (by rfl) E.c_reserved) pa_nil)) (pe_callB (reprK (K := K) hg hu rfl) (by rfl) (E.fr (x := "repr") (by decide +kernel)) (by decide +kernel) (pa_cons (pe_callTy (tupU (K := K) rfl) (by rfl) (E.fr (x := "tuple") (by decide +kernel)) (by decide +kernel) (pa_cons (pe_callB (sortedU (K := K) rfl) (by rfl) (E.fr (x := "sorted") (by decide +kernel)) (by decide +kernel) (pa_cons (pe_ca0 c__law_reserved (hr.mono (by first | decide | omega)) (by rfl)) pa_nil)) pa_nil)) pa_nil)) (nomark _)) (pss_one (ps_ret pe_bl)) pss_nil)
      (pss_cons (ps_if (pt_not (pt_val (pe_callB (allU (K := K) rfl rfl) (by rfl) (E.fr (x := "all") (by decide +kernel)) (by decide +kernel) (pa_cons (pe_lc (own := [("_law_value", 5)]) (g := gName 5) (tt := tYes) rfl sc_law.nd (pi_list (pe_ca0 c__law_others (hr.mono (by first | decide | omega)) (by rfl))) (blkOk_by (own := [("_law_value", 5)]) (N := ["_law_script", "_law_k", "_law_pot_here", "_law_word_here", "_law_tree_here", "_law_value"]) (sc := defScope s_law) (by decide +kernel)) (fun _ _ _ _ _ => pg_name (i := 5) sc_law.nd rfl (Or.inl rfl)) (fun _ _ _ _ _ => pts_nil) (fun _ _ _ _ _ => (pe_cg c__law_told_right (by exact hg) (hr.mono (by first | decide | omega)) (by rfl) (pa_cons (pv 5) pa_nil)))) pa_nil)))) (pss_one (ps_ret pe_bl)) pss_nil)
      (pss_cons (ps_for PassesOwn.never rfl (pi_range1 (by rfl) (E.fr (x := "range") (by decide +kernel)) (pa_cons (pe_callB (call_max2 rfl) (by rfl) (E.fr (x := "max") (by decide +kernel)) (by decide +kernel) (pa_cons pe_int (pa_cons (pe_callB (call_min2 rfl) (by rfl) (E.fr (x := "min") (by decide +kernel)) (by decide +kernel) (pa_cons (pe_callB (lenU (K := K) rfl) (by rfl) (E.fr (x := "len") (by decide +kernel)) (by decide +kernel) (pa_cons (pv 0) pa_nil)) (pa_cons pe_int pa_nil))) pa_nil))) pa_nil)) (pg_name (i := 1) sc_law.nd rfl (Or.inl rfl)) (pss_cons (ps_set (i := 2) sc_law.nd rfl (Or.inl rfl) (pe_ca c__law_pot (hr.mono (by first | decide | omega)) (by rfl) (pa_cons (pv 0) (pa_cons (pv 1) pa_nil))))
      (pss_cons (ps_set (i := 3) sc_law.nd rfl (Or.inl rfl) (pe_ca c__law_word (hr.mono (by first | decide | omega)) (by rfl) (pa_cons (pv 2) pa_nil)))
      (pss_cons (ps_set (i := 4) sc_law.nd rfl (Or.inl rfl) (pe_ca c__law_tree (hr.mono (by first | decide | omega)) (by rfl) (pa_cons (pv 2) (pa_cons (pe_op op_addU pe_int (pe_ca c__law_draw (hr.mono (by first | decide | omega)) (by rfl) (pa_cons (pv 2) (pa_cons pe_int pa_nil)))) pa_nil))))
      (pss_one (ps_if (PW.pt (pw_or (pt_not (pt_val (pe_cg c__law_told_right (by exact hg) (hr.mono (by first | decide | omega)) (by rfl) (pa_cons (pv 3) pa_nil)))) (pw_or1 (pt_not (pt_val (pe_cg c__law_told_right (by exact hg) (hr.mono (by first | decide | omega)) (by rfl) (pa_cons (pv 4) pa_nil))))))) (pss_one (ps_ret pe_bl)) pss_nil))))))
      (pss_one (ps_ret pe_bl))))), ?_⟩
  have seq : ∀ {H1}, Gr Vo.non H H1 → SqL K H1 sc (ns.map V.int) := fun {H1} g => by
    rcases hS with (h | ⟨o, h⟩) | h
    · exact .inl (.inl (g _ _ (nv_non _) h))
    · exact .inl (.inr ⟨o, g _ _ (nv_non _) h⟩)
    · exact .inr h
  refine q_ifr (v := .bl false) (b := false) (Iv.non H) (k_test (x_to (x_ne (x := .str shT) (y := .str shT) (x_reprK E.t_reserved) (x_reprT (x_tupleL (x_sorted x_res))) rfl) (by rw [decide_eq_true rfl]; rfl))) (fun _ => e_cx) (fun e => nomatch e) fun _ H1 i1 g1 => ?_
  refine q_ifr (v := .bl false) (b := false) i1 (k_to (k_not (k_b (b := true) ?all)) rfl) (fun _ => e_cx) (fun e => nomatch e) fun _ H2 i2 g12 => ?_
  case all => exact all_late (c := fun m => m ≤ 1000) x_others (fun m h => by omega) (fun _ => rfl) fun x d E o H1 g hd => x_told (e_vx rfl) hd
  have g2 := g1.trans g12
  refine q_forR (p := Vo.non) (C := fun n => 1 ≤ n ∧ n ≤ 6) i2 (x_max (c := fun i => i = 1) (d := fun j => 0 ≤ j ∧ j ≤ 6) (e_ci rfl) (x_min (c := fun i => i = ((ns.map V.int).length : Int)) (d := fun j => j = 6) (e_sxi (x_lenQ (xs := ns.map V.int) (e_vx rfl) fun v H3 g e => ⟨sc, e, .inl (seq (g2.trans g))⟩) rfl) (e_ci rfl) fun i j hi hj => by
    show 0 ≤ (if j < i then j else i) ∧ (if j < i then j else i) ≤ 6
    split <;> omega) fun i j hi hj => by
    show 1 ≤ (if j > i then j else i) ∧ (if j > i then j else i) ≤ 6
    split <;> omega) (fun n hn => by omega) (fun _ σ' H' => ∃ (x1 x2 x3 x4 x5 : Option V), σ' = [some (.ref sc), x1, x2, x3, x4, x5] ∧ Gr Vo.non H H') (fun H3 i3 g23 => ⟨none, none, none, none, none, rfl, g2.trans g23⟩) (fun n hn i σ' H' hi hP => ?_) fun n hn σ' H' hP => ?_
  · obtain ⟨x1, x2, x3, x4, x5, rfl, g⟩ := hP
    refine ⟨.ref sc, rfl, .int (0 + (i : Nat)), rfl, sc, ns, 0 + (i : Nat), rfl, seq g, by omega, by omega, fun b H4 g4 hb hP => ?_⟩
    have i4 := Iv.pot1 hP
    have hb0 : H b = none := g.free (nv_non b) hb
    have hp : (Vo.of b).pot = some b := rfl
    refine q_asg (p := Vo.of b) (A := ss fun z => z.length ≤ 1000) i4 (x_word hp (e_vx rfl)) fun v5 H5 i5 g45 hv5 => ?_
    obtain ⟨wd, rfl, hwd⟩ := hv5
    refine q_asg (p := Vo.of b) (A := sd (Vo.of b)) i5 (x_tree (n := 6) hp (e_vx rfl) (e_addI (c := fun i => i = 2) (d := fun i => 0 ≤ i ∧ i < 5) (e_ci rfl) (e_drawN (n := 5) hp (e_vx rfl) e_cx (by decide) (by decide)) fun i j hi hj => by omega)) fun v6 H6 i6 g56 hv6 => ?_
    obtain ⟨d6, hd6⟩ := hv6
    refine s_ifr (v := .bl false) (b := false) i6 (k_to (k_or (k_not (k_b (b := true) (x_told (v := .str wd) (d := .str wd) (e_vx rfl) (.str wd (by omega))))) fun _ => k_not (k_b (b := true) (x_told (e_vx rfl) hd6))) rfl) (fun _ => e_cx) (fun e => nomatch e) fun _ H7 i7 g67 => ?_
    exact ⟨_, _, _, _, _, rfl, Gr.join (g.trans g4) hb0 ((g45.trans g56).trans g67)⟩
  · obtain ⟨x1, x2, x3, x4, x5, rfl, g⟩ := hP
    exact q H'
end
end K10
namespace K10
open PySem PySem.Spec PyProof.Rows L2 Hk
/-! ### what the top leaves -/
def dd_consists_of : He.DefD := ⟨("consists_of", none), "consists_of", "consists_of", defArgs s_consists_of, defBody s_consists_of, defScope s_consists_of, [], []⟩
def dd_is_name : He.DefD := ⟨("is_name", none), "is_name", "is_name", defArgs s_is_name, defBody s_is_name, defScope s_is_name, [], []⟩
def dd_is_tag : He.DefD := ⟨("is_tag", none), "is_tag", "is_tag", defArgs s_is_tag, defBody s_is_tag, defScope s_is_tag, [], []⟩
def dd_is_decimal : He.DefD := ⟨("is_decimal", none), "is_decimal", "is_decimal", defArgs s_is_decimal, defBody s_is_decimal, defScope s_is_decimal, [], []⟩
def dd_is_label : He.DefD := ⟨("is_label", none), "is_label", "is_label", defArgs s_is_label, defBody s_is_label, defScope s_is_label, [], []⟩
def dd_is_task_string : He.DefD := ⟨("is_task_string", none), "is_task_string", "is_task_string", defArgs s_is_task_string, defBody s_is_task_string, defScope s_is_task_string, [], []⟩
def dd_operands_of : He.DefD := ⟨("operands_of", none), "operands_of", "operands_of", defArgs s_operands_of, defBody s_operands_of, defScope s_operands_of, [], []⟩
def dd_has_levels : He.DefD := ⟨("has_levels", none), "has_levels", "has_levels", defArgs s_has_levels, defBody s_has_levels, defScope s_has_levels, [], []⟩
def dd_is_expression : He.DefD := ⟨("is_expression", none), "is_expression", "is_expression", defArgs s_is_expression, defBody s_is_expression, defScope s_is_expression, [], []⟩
def dd__law_pot : He.DefD := ⟨("_law_pot", none), "_law_pot", "_law_pot", defArgs s__law_pot, defBody s__law_pot, defScope s__law_pot, [], []⟩
def dd__law_draw : He.DefD := ⟨("_law_draw", none), "_law_draw", "_law_draw", defArgs s__law_draw, defBody s__law_draw, defScope s__law_draw, [], []⟩
def dd__law_choice : He.DefD := ⟨("_law_choice", none), "_law_choice", "_law_choice", defArgs s__law_choice, defBody s__law_choice, defScope s__law_choice, [], []⟩
def dd__law_reserved : He.DefD := ⟨("_law_reserved", none), "_law_reserved", "_law_reserved", defArgs s__law_reserved, defBody s__law_reserved, defScope s__law_reserved, [], []⟩
def dd__law_name_right : He.DefD := ⟨("_law_name_right", none), "_law_name_right", "_law_name_right", defArgs s__law_name_right, defBody s__law_name_right, defScope s__law_name_right, [], []⟩
def dd__law_tag_right : He.DefD := ⟨("_law_tag_right", none), "_law_tag_right", "_law_tag_right", defArgs s__law_tag_right, defBody s__law_tag_right, defScope s__law_tag_right, [], []⟩
def dd__law_label_right : He.DefD := ⟨("_law_label_right", none), "_law_label_right", "_law_label_right", defArgs s__law_label_right, defBody s__law_label_right, defScope s__law_label_right, [], []⟩
def dd__law_task_right : He.DefD := ⟨("_law_task_right", none), "_law_task_right", "_law_task_right", defArgs s__law_task_right, defBody s__law_task_right, defScope s__law_task_right, [], []⟩
def dd__law_count : He.DefD := ⟨("_law_count", none), "_law_count", "_law_count", defArgs s__law_count, defBody s__law_count, defScope s__law_count, [], []⟩
def dd__law_form_right : He.DefD := ⟨("_law_form_right", none), "_law_form_right", "_law_form_right", defArgs s__law_form_right, defBody s__law_form_right, defScope s__law_form_right, [], []⟩
def dd__law_letters : He.DefD := ⟨("_law_letters", none), "_law_letters", "_law_letters", defArgs s__law_letters, defBody s__law_letters, defScope s__law_letters, [], []⟩
def dd__law_word : He.DefD := ⟨("_law_word", none), "_law_word", "_law_word", defArgs s__law_word, defBody s__law_word, defScope s__law_word, [], []⟩
def dd__law_leaf : He.DefD := ⟨("_law_leaf", none), "_law_leaf", "_law_leaf", defArgs s__law_leaf, defBody s__law_leaf, defScope s__law_leaf, [], []⟩
def dd__law_tree : He.DefD := ⟨("_law_tree", none), "_law_tree", "_law_tree", defArgs s__law_tree, defBody s__law_tree, defScope s__law_tree, [], []⟩
def dd__law_others : He.DefD := ⟨("_law_others", none), "_law_others", "_law_others", defArgs s__law_others, defBody s__law_others, defScope s__law_others, [], []⟩
def dd__law_nested : He.DefD := ⟨("_law_nested", none), "_law_nested", "_law_nested", defArgs s__law_nested, defBody s__law_nested, defScope s__law_nested, [], []⟩
def dd__law_told_right : He.DefD := ⟨("_law_told_right", none), "_law_told_right", "_law_told_right", defArgs s__law_told_right, defBody s__law_told_right, defScope s__law_told_right, [], []⟩
def dd_law : He.DefD := ⟨("law", none), "law", "law", defArgs s_law, defBody s_law, defScope s_law, [], []⟩
def fn : List He.DefD := [dd_consists_of, dd_is_name, dd_is_tag, dd_is_decimal, dd_is_label, dd_is_task_string, dd_operands_of, dd_has_levels, dd_is_expression, dd__law_pot, dd__law_draw, dd__law_choice, dd__law_reserved, dd__law_name_right, dd__law_tag_right, dd__law_label_right, dd__law_task_right, dd__law_count, dd__law_form_right, dd__law_letters, dd__law_word, dd__law_leaf, dd__law_tree, dd__law_others, dd__law_nested, dd__law_told_right, dd_law]
def fa1 : List He.Fa := [.glo "consists_of", .glo "is_name", .glo "is_tag", .glo "is_decimal", .glo "is_label", .glo "is_task_string", .glo "operands_of", .glo "has_levels", .glo "is_expression", .glo "_law_pot", .glo "_law_draw", .glo "_law_choice", .glo "_law_reserved", .glo "_law_name_right", .glo "_law_tag_right", .glo "_law_label_right", .glo "_law_task_right", .glo "_law_count", .glo "_law_form_right", .glo "_law_letters", .glo "_law_word", .glo "_law_leaf", .glo "_law_tree", .glo "_law_others", .glo "_law_nested", .glo "_law_told_right", .glo "law"]
def fa2 : List He.Fa := [.free "all", .free "isinstance", .free "len", .free "abs", .free "max", .free "min", .free "divmod", .free "ord", .free "repr", .free "sorted", .free "int", .free "str", .free "bool", .free "tuple", .free "range", .free "list", .free "dict"]
def fa3 : List He.Fa := [.str "SMALL_LETTERS" sSmall, .str "LARGE_LETTERS" sLarge, .str "DIGITS" sDig, .int "LONGEST_WORD" 8, .int "LABEL_DIGITS" 2, .int "LONGEST_TASK_STRING" 200, .int "LEVELS" 5, .int "TOO_LONG" tooLong, .glo "RESERVED", .glo "BARRED_CODES", .glo "PAIR_OPERATORS"]
def loose1 : List PySem.Str := ["RESERVED", "SMALL_LETTERS", "LARGE_LETTERS", "DIGITS", "LONGEST_WORD", "LABEL_DIGITS", "LONGEST_TASK_STRING", "BARRED_CODES", "LEVELS", "TOO_LONG", "PAIR_OPERATORS", "consists_of", "is_name", "is_tag", "is_decimal", "is_label", "is_task_string", "operands_of", "has_levels"]
def loose2 : List PySem.Str := ["is_expression", "_law_pot", "_law_draw", "_law_choice", "_law_reserved", "_law_name_right", "_law_tag_right", "_law_label_right", "_law_task_right", "_law_count", "_law_form_right", "_law_letters", "_law_word", "_law_leaf", "_law_tree", "_law_others", "_law_nested", "_law_told_right"]
def dT (v : List V) : List He.Dv := v.map fun
  | .str z => He.Dv.str z
  | .int i => He.Dv.int i
  | _ => He.Dv.non
def exB (K : PySem.W.Frag) : Bool := He.tupB K "RESERVED" (wsR.map He.Dv.str) && (He.tupB K "BARRED_CODES" [.int 34, .int 37, .int 92] && He.tupB K "PAIR_OPERATORS" (wsP.map He.Dv.str))
def fas : List He.Fa := fa1 ++ fa2 ++ fa3
/-- the facts that the proof leans on, read off the heap behind the top -/
def hk10 : PySem.W.Hook where
  α := He.AlD × Bool
  obs := fun sh => (He.obsD fas fn (He.frG sh.heap.get? (He.asD sh.heap.get? 4)), exB (He.frG sh.heap.get? (He.asD sh.heap.get? 4)))
  val := fun _ => (He.valD fn, true)
  says := fun _ hp => ∃ F : PySem.W.Frag, F.In hp ∧ He.SaysD fas fn F ∧ exB F = true
  of := fun _ _ z => ⟨_, He.frG_in, congrArg (fun y : He.AlD × Bool => y.1) z, congrArg (fun y : He.AlD × Bool => y.2) z⟩
  keeps := fun _ _ _ x kp => Exists.elim x fun F y => ⟨F, PySem.W.Frag.In.keeps y.1 kp, y.2⟩
abbrev R10 : PySem.W.OpenRow := PySem.W.OpenLaw.row PySem.Challenge.rw_heldover_k10_words_and_forms
def ob10 (sh : PySem.W.SharedT) : He.AlD × Bool := (He.obsD fas fn (He.frG (HandSHeadRun.getT sh) (He.asD (HandSHeadRun.getT sh) 4)), exB (He.frG (HandSHeadRun.getT sh) (He.asD (HandSHeadRun.getT sh) 4)))
theorem ob10_eq (sh : PySem.W.SharedT) : ob10 sh = hk10.obs sh.abs := by
  have z : HandSHeadRun.getT sh = sh.abs.heap.get? := funext fun b => HandSHeadRun.getT_eq sh b
  unfold ob10
  rw [z]
  rfl
theorem run10 (w : World) : HandSHeadRun.RunEq R10 (PySem.W.view R10.prog [40]) hk10 ob10 3000 (loose1 ++ loose2) w := by
  intro os
  kernel_rfl
end K10
namespace Hk
open PySem PySem.Spec PyProof.Rows L2
/-- a def without defaults, as the head tells it -/
theorem fun_of {K : PySem.W.Frag} {x : Str} {st : Stmt} {f : Addr} {fd : FuncData} (F : FunD K x x (defArgs st) (defBody st) (defScope st) [] [] f fd) : Fun K x x st f fd := by
  obtain ⟨oc, od, dV, kV, doc, pm, an, cdv, ct, osl, rfl, lk, hcd, hD, _⟩ := F.ex
  rcases hD with ⟨_, rfl⟩ | ⟨e, _⟩
  · exact ⟨⟨oc, od, kV, doc, pm, an, cdv, ct, osl, rfl, lk, hcd⟩, F.kp⟩
  · exact absurd rfl e
/-- the promise of the law's def, where nothing is being shown, at the heap behind the top: the script alone is tracked, and stays -/
theorem callG_end {P : Program} {w : World} {K : PySem.W.Frag} {mg mb : Str → Option Value} {k : Nat} {fa a : Addr} {fd : FuncData} {x : Str} {sp : Sp} {s : Shared} {us : List Value} {ns : List Int}
    (inK : K.In s.heap) (nG : s.heap.Ns mainGlobals mg) (nB : s.heap.Ns builtinsNs mb) (bB : ∀ y : Str, y ≠ "__name__" → mb y = bootBuiltins y) (nL : s.heap.NoLimit) (gn : s.gens = #[])
    (oa : s.heap.get? a = some { cls := .type "list", data := .seq us.toArray }) (ia : IntsAre us ns) (la : ns.length ≤ sizeLine) (room : Room k callerA)
    (F : ∀ base : Heap, K.In base → base.Ns mainGlobals mg → FnG P w K mg base k fa fd [x] sp) (bd : ∀ (s : Shared) (u : Value), BindsTo s fd ⟨[u], []⟩ [(x, u)])
    (due : ∀ H : Hp, SqL K H a (ns.map V.int) → sp [.ref a] H (fun v _ => v = .bl true) fun _ _ _ => False) :
    codeAny (model P w) callerA (.call (.ref fa) ⟨[.ref a], []⟩) (fun r s' => r = .ok (.ret (.bool true)) ∧ OldK s.heap s'.heap ∧ s'.os = s.os ∧ AllBare s'.gens) s := by
  have rel := vals_ints ia
  have go : ∀ H : Hp, (∀ b u, H b = some u → b = a ∧ u = .frz { cls := .type "list", data := .seq us.toArray } (.lst (ns.map V.int))) → (H a = none ∨ K.lookup a = none) → SqL K H a (ns.map V.int) →
      codeAny (model P w) callerA (.call (.ref fa) ⟨[.ref a], []⟩) (fun r s' => r = .ok (.ret (.bool true)) ∧ OldK s.heap s'.heap ∧ s'.os = s.os ∧ AllBare s'.gens) s := by
    intro H only lone sq
    have off : ∀ {b : Addr}, b ≠ a → H b = none := fun {b} n => by
      cases q : H b with
      | none => rfl
      | some u => exact absurd (only b u q).1 n
    have dic : ∀ {b : Addr} {m : Str → Option Value}, s.heap.Ns b m → (hidT s.heap H).Ns b m := fun {b m} ⟨o, es, ep, e, d, r⟩ => ⟨o, es, ep, hidT_get e (off fun z => by
      rw [z, oa] at e
      cases e
      cases (show Data.seq us.toArray _ = Data.dict es ep from d)), d, r⟩
    have inB : K.In (hidT s.heap H) := fun b o e => hidT_get (inK b o e) (by
      by_cases z : b = a
      · rcases lone with h | h
        · rw [z]
          exact h
        · rw [z, h] at e
          cases e
      · exact off z)
    have lim : (hidT s.heap H).NoLimit := by
      obtain ⟨mc, l1, l2⟩ := nL
      exact ⟨mc, dic l1, l2⟩
    have hok : HOk P w H s.heap := fun b u z => by
      obtain ⟨rfl, rfl⟩ := only b u z
      exact ⟨oa, by rw [List.length_map]; exact la, us, _, rel, oa⟩
    have e0 : Env0 P w K mg (hidT s.heap H) callerA [] s H := ⟨rfl, ⟨inB, dic nG, ⟨mb, dic nB, bB⟩, lim⟩, fun b o e => of_hidT e, Nat.le_of_eq (hidT_size _ _), trivial, fun b hb => (nomatch hb), hok, .of_eq gn⟩
    refine codeAny_mono ((F _ inB (dic nG)).run callerA [] s H ⟨[.ref a], []⟩ [.ref a] [.ref a] (fun v _ => v = .bl true) (fun _ _ _ => False) rfl room e0 (bd s (.ref a)) (.cons rfl .nil) (due H sq)) fun r s' h => ?_
    match r, h with
    | .error e, h => exact h.elim
    | .ok .next, h => exact h.elim
    | .ok .brk, h => exact h.elim
    | .ok .cont, h => exact h.elim
    | .ok (.ret u), ⟨v, H', os, bare, un, hok', ru, ev⟩ =>
      cases (show v = V.bl true from ev)
      cases (show u = Value.bool true from ru)
      refine ⟨rfl, OldK.of_keep fun b o e => ?_, os, bare⟩
      cases q : H b with
      | none => exact un.keep b o e q (fun z => (nomatch z)) (fun z => (nomatch z))
      | some t =>
        obtain ⟨rfl, rfl⟩ := only b t q
        rw [oa] at e
        cases e
        exact (hok' _ _ (un.frzs _ _ _ q)).1
  cases hk : K.lookup a with
  | some o =>
    have e := inK a o hk
    rw [oa] at e
    cases e
    exact go (fun _ => none) (fun b u z => (nomatch z)) (.inl rfl) (.inr ⟨_, us.toArray, _, hk, rfl, rfl, rfl, by rw [List.size_toArray, ia.length]; exact la, rel⟩)
  | none =>
    refine go (fun b => if b = a then some (.frz { cls := .type "list", data := .seq us.toArray } (.lst (ns.map V.int))) else none) (fun b u z => ?_) (.inr hk) (.inl (.inr ⟨_, if_pos rfl⟩))
    by_cases e : b = a
    · exact ⟨e, (Option.some.inj ((if_pos e).symm.trans z)).symm⟩
    · cases (if_neg e).symm.trans z
end Hk
namespace K10
open PySem PySem.Spec PyProof.Rows L2 Hk
section
variable {K : PySem.W.Frag} {h : Heap} {mg : Str → Option Value}
theorem df_of (X : K.In h) (G : h.Ns mainGlobals mg) (c : He.SaysD fas fn K) (x : Str) (st : Stmt) (i : Nat) (hd : fn[i]? = some ⟨(x, none), x, x, defArgs st, defBody st, defScope st, [], []⟩ := by rfl) (hg : fas[i]? = some (.glo x) := by rfl) : Df K mg x st := by
  obtain ⟨fd, F⟩ := c.def_ i hd
  exact ⟨He.fAd K (x, none), fd, fun_of F, He.glo_ok X G (c.fact i hg)⟩
theorem fas_free : ∀ {x : Str}, x ∈ frees → He.Fa.free x ∈ fas := fun {x} hx => List.mem_append_left _ (List.mem_append_right _ (show He.Fa.free x ∈ frees.map He.Fa.free from List.mem_map.mpr ⟨x, hx, rfl⟩))
theorem en_of (X : K.In h) (G : h.Ns mainGlobals mg) (c : He.SaysD fas fn K) (ex : exB K = true) : En K mg := by
  obtain ⟨x1, x23⟩ := Bool.and_eq_true_iff.mp ex
  obtain ⟨x2, x3⟩ := Bool.and_eq_true_iff.mp x23
  have s : ∀ {x z : Str} (j : Nat), fas[j]? = some (.str x z) → ∃ u, mg x = some u ∧ RelV (.str z) u := fun j e => by
    obtain ⟨t, m⟩ := He.str_ok X G (c.fact j e)
    exact ⟨_, m, t, rfl⟩
  have n : ∀ {x : Str} {z : Int} (j : Nat), fas[j]? = some (.int x z) → ∃ u, mg x = some u ∧ RelV (.int z) u := fun j e => by
    obtain ⟨t, m⟩ := He.int_ok X G (c.fact j e)
    exact ⟨_, m, t, rfl⟩
  have g : ∀ {x : Str} (j : Nat), fas[j]? = some (.glo x) → ∃ u, mg x = some u ∧ RelV (.ref (He.ga K x)) u := fun j e => ⟨_, He.glo_ok X G (c.fact j e), rfl⟩
  refine ⟨fun {x} hx => ?_, s 44 rfl, s 45 rfl, s 46 rfl, n 47 rfl, n 48 rfl, n 49 rfl, n 50 rfl, n 51 rfl, g 52 rfl, g 53 rfl, g 54 rfl, fun H => ?_, fun H => He.tupB_ok x2 H, fun H => ?_⟩
  · obtain ⟨j, e⟩ := List.getElem?_of_mem (fas_free (List.elem_iff.mp hx))
    exact He.free_ok X G (c.fact j e)
  · have t := He.tupB_ok x1 H
    rw [List.map_map] at t
    exact t
  · have t := He.tupB_ok x3 H
    rw [List.map_map] at t
    exact t
theorem facts {P : Program} {w : World} {f : Addr} (X : K.In h) (G : h.Ns mainGlobals mg) (hfa : mg ("law" : Str) = some (.ref f)) (c : He.SaysD fas fn K) (ex : exB K = true) :
    ∃ fd : FuncData, (∀ (s : Shared) (v : Value), BindsTo s fd ⟨[v], []⟩ [("_law_script", v)]) ∧ ∀ base : Heap, K.In base → base.Ns mainGlobals mg → FnG P w K mg base 13 f fd ["_law_script"] (spLaw K) := by
  have E := en_of X G c ex
  obtain ⟨fd, F⟩ := c.def_ 26 (d := dd_law) rfl
  have e := hfa.symm.trans (He.glo_ok X G (c.fact 26 (f := .glo "law") rfl))
  cases e
  have b := FunD.bindsA (ps := ["_law_script"]) F fun _ _ _ _ _ _ us hl => match us, hl with | [_], _ => rfl
  refine ⟨fd, fun s v => b s [v] rfl, fun base _ _ => ?_⟩
  have g_cons : Ca P w K mg base 1 "consists_of" spCons := ok_consists_of E (df_of X G c _ _ 0)
  have g_name := ok_is_name E (df_of X G c _ _ 1) g_cons
  have g_tag := ok_is_tag E (df_of X G c _ _ 2) g_cons
  have g_dec := ok_is_decimal E (df_of X G c _ _ 3) g_cons
  have g_label := ok_is_label E (df_of X G c _ _ 4) g_name g_dec
  have g_task : Ca P w K mg base 1 "is_task_string" (spD1 taskD) := ok_is_task_string E (df_of X G c _ _ 5)
  have g_ops := ok_operands_of E (df_of X G c _ _ 6) g_tag
  have g_lev := has_all E (df_of X G c _ _ 7) g_name g_ops 6
  have g_expr := ok_is_expression E (df_of X G c _ _ 8) g_lev
  have g_pot : Ca P w K mg base 1 "_law_pot" (spPot K) := ok_pot E (df_of X G c _ _ 9)
  have g_draw : Ca P w K mg base 1 "_law_draw" spDraw := ok_draw E (df_of X G c _ _ 10)
  have g_choice := ok_choice E (df_of X G c _ _ 11) g_draw
  have g_res : Ca P w K mg base 1 "_law_reserved" spRes := ok_reserved E (df_of X G c _ _ 12)
  have g_nameR := ok_name_right E (df_of X G c _ _ 13) g_res
  have g_tagR : Ca P w K mg base 1 "_law_tag_right" (spD1 tagD) := ok_tag_right E (df_of X G c _ _ 14)
  have g_labelR := ok_label_right E (df_of X G c _ _ 15) g_nameR
  have g_taskR : Ca P w K mg base 1 "_law_task_right" (spD1 taskD) := ok_task_right E (df_of X G c _ _ 16)
  have g_count : Ca P w K mg base 1 "_law_count" spCount := ok_count E (df_of X G c _ _ 17)
  have g_form := form_all E (df_of X G c _ _ 18) g_nameR g_tagR g_count 6
  have g_lett := ok_letters E (df_of X G c _ _ 19) g_draw
  have g_word := ok_word E (df_of X G c _ _ 20) g_draw g_choice g_res g_lett
  have g_leaf := ok_leaf E (df_of X G c _ _ 21) g_draw
  have g_tree := tree_all E (df_of X G c _ _ 22) g_draw g_leaf g_count 7
  have g_nest : Ca P w K mg base 1 "_law_nested" spNest := ok_nested E (df_of X G c _ _ 24)
  have g_oth := ok_others E (df_of X G c _ _ 23) g_nest
  have g_told := ok_told_right E (df_of X G c _ _ 25) g_name g_tag g_label g_task g_expr g_nameR g_tagR g_labelR g_taskR g_form
  exact ok_law E (fun_of F) g_res g_told g_oth g_pot g_word g_tree g_draw
end
end K10
open PySem PySem.W PySem.Calls PyProof.Rows
theorem PySem.Challenge.cw_heldover_k10_words_and_forms_holds : PySem.Challenge.rw_heldover_k10_words_and_forms.Holds := by
  w_on; o_law
  refine HandSHeadRun.head_any (r := K10.R10) (q := view K10.R10.prog [40]) (H := K10.hk10) (ob := K10.ob10) (M := 3000) (loose := K10.loose1 ++ K10.loose2) (d := HandSHeadRun.topDef K10.R10.prog 40) (kwd := []) K10.ob10_eq
    (by kernel_rfl) (fun s => by kernel_rfl) K10.run10 (by kernel_rfl) (by kernel_rfl) (by kernel_rfl) (by rfl) (by first | assumption | decide +kernel) (by decide +kernel) ⟨rfl, rfl, rfl, rfl, rfl, by decide +kernel⟩ ?hw ?hc
  case hw => w_witness2
  case hc =>
    refine Att.attach_call (l := PySem.Challenge.rw_heldover_k10_words_and_forms) (n := 63) rfl (by kernel_rfl) fun w s₀ s₁ mg mb fa o pm cd doc a us ns G Y ho hd hcd hmg0 hobj hints hlen hg => ?_
    obtain ⟨K, KX, c, ex⟩ := Y
    have hmg : mg ("law" : PySem.Str) = some (.ref fa) := by
      have e : (HandSHeadRun.topDef K10.R10.prog 40).name = ("law" : PySem.Str) := by kernel_rfl
      rw [← e]
      exact hmg0
    obtain ⟨fd, hb, hF⟩ := K10.facts (P := (PySem.Challenge.rw_heldover_k10_words_and_forms).prog) (w := w) KX G.T.g hmg c ex
    exact Hk.callG_end KX G.T.g G.T.b G.T.builtins G.T.nolimit hg hobj hints (Nat.le_trans hlen (by decide)) ⟨rfl, by decide, by decide⟩ hF hb fun H hS => ⟨a, ns, rfl, hS, hlen, fun _ => rfl⟩
