import PyProof.Rows.All
import Wide.All
import OpenK.AllK
import Wide.FinOn
import HandS.Base
import HandS.Call
import HandS.List
import HandS.Comp
import HandS.Ends
import HandS.Iter
import HandS.Text
import HandS.Words
import HandS.WordsList
import HandS.WideBits
import HandS.IsInst
import HandS.Codes
import HandS.DeepEq
import HandS.RaiseMore
import HandS.Star
import HandS.CallLocal
import HandS.Style
import HandS.Dict
import HandS.Defaults
import HandS.New
import HandS.HeadHook3
import HandS.More
import HandS.Head0
import HandS.Head1
import HandS.Head2
import HandS.HeadEnd
import HandS.HeadHook1
import HandS.HeadHook2
import PySem.Challenge.RW_heldover_k12_whole_values_of_expressions
set_option Elab.async false
set_option linter.all false
set_option maxRecDepth 100000
set_option maxHeartbeats 0
namespace Hk
open PySem PySem.Spec PyProof.Rows L2

/-! ### the pot: a list of two ints that a draw changes; all else grows only -/
def Pot (H : Hp) (a : Addr) : Prop := ∃ x y : Int, H a = some (.lst [.int x, .int y]) ∧ 0 ≤ x ∧ 0 ≤ y ∧ y < 2147483648
/-- what may change: the pot; objects that are being filled, with what they hold now -/
structure Vo where
  pot : Option Addr
  ex : List (Addr × HO)
def Vo.non : Vo := ⟨none, []⟩
def Vo.of (a : Addr) : Vo := ⟨some a, []⟩
def Vo.and (p : Vo) (D : Addr) (o : HO) : Vo := ⟨p.pot, (D, o) :: p.ex⟩
def Nv (p : Vo) (a : Addr) : Prop := p.pot ≠ some a ∧ ∀ x ∈ p.ex, x.1 ≠ a
structure Iv (p : Vo) (H : Hp) : Prop where
  pot : ∀ a, p.pot = some a → Pot H a ∧ ∀ x ∈ p.ex, x.1 ≠ a
  ex : ∀ x ∈ p.ex, H x.1 = some x.2
def Gr (p : Vo) (H H' : Hp) : Prop := ∀ a o, Nv p a → H a = some o → H' a = some o
variable {p : Vo} {H H' H1 H2 H3 : Hp}
theorem Gr.refl (H : Hp) : Gr p H H := fun _ _ _ h => h
theorem Gr.trans (a : Gr p H H1) (b : Gr p H1 H2) : Gr p H H2 := fun x o n h => b x o n (a x o n h)
theorem Gr.new {q : Addr} {o : HO} (h : H q = none) : Gr p H (upd H q o) := fun a u _ e => by
  rw [upd_ne (ne_of_none e h)]
  exact e
theorem Gr.mut {q : Addr} {o : HO} (e : Gr p H H') (h : H q = none) : Gr p H (upd H' q o) := fun a u n ha => by
  rw [upd_ne (ne_of_none ha h)]
  exact e a u n ha
theorem nv_non (a : Addr) : Nv Vo.non a := ⟨fun z => (nomatch z), fun x hx => (nomatch hx)⟩
theorem nv_of {a b : Addr} (h : a ≠ b) : Nv (Vo.of a) b := ⟨fun z => h (Option.some.inj z), fun x hx => (nomatch hx)⟩
theorem Nv.and {a D : Addr} {o : HO} (h : Nv p a) (d : D ≠ a) : Nv (p.and D o) a := ⟨h.1, fun x hx => by
  rcases List.mem_cons.mp hx with e | e
  · rw [e]; exact d
  · exact h.2 x e⟩
theorem Nv.back {a D : Addr} {o : HO} (h : Nv (p.and D o) a) : Nv p a := ⟨h.1, fun x hx => h.2 x (List.mem_cons_of_mem _ hx)⟩
theorem Nv.ne {a D : Addr} {o : HO} (h : Nv (p.and D o) a) : D ≠ a := h.2 (D, o) List.mem_cons_self
theorem Gr.pure (e : Gr Vo.non H H') : Gr p H H' := fun a o _ h => e a o (nv_non a) h
theorem Gr.free {q : Addr} (e : Gr p H H') (hq : Nv p q) (h : H' q = none) : H q = none := by
  cases h1 : H q with
  | none => rfl
  | some o =>
    rw [e q o hq h1] at h
    cases h
theorem Iv.non (H : Hp) : Iv Vo.non H := ⟨fun a e => (nomatch e), fun x hx => (nomatch hx)⟩
theorem Iv.grow (i : Iv p H) (e : Gr Vo.non H H') : Iv p H' := ⟨fun a ha => by
  obtain ⟨⟨x, y, h, r⟩, n⟩ := i.pot a ha
  exact ⟨⟨x, y, e a _ (nv_non a) h, r⟩, n⟩, fun x hx => e _ _ (nv_non _) (i.ex x hx)⟩
theorem Iv.ne {q : Addr} (i : Iv p H) (h : H q = Option.none) : Nv p q := by
  refine ⟨fun e => ?_, fun x hx e => ?_⟩
  · obtain ⟨⟨x, y, h', _⟩, _⟩ := i.pot q e
    rw [h'] at h
    cases h
  · have h' := i.ex x hx
    rw [e, h] at h'
    cases h'
theorem Iv.new {q : Addr} {o : HO} (i : Iv p H) (h : H q = Option.none) : Iv p (upd H q o) := i.grow (Gr.new h)
theorem Iv.upd {q : Addr} {o : HO} (i : Iv p H) (h : Nv p q) : Iv p (upd H q o) := by
  refine ⟨fun a ha => ?_, fun x hx => ?_⟩
  · obtain ⟨⟨x, y, h', r⟩, n⟩ := i.pot a ha
    refine ⟨⟨x, y, ?_, r⟩, n⟩
    rw [upd_ne (fun e => h.1 (by rw [← e]; exact ha))]
    exact h'
  · rw [upd_ne (h.2 x hx)]
    exact i.ex x hx
/-- one more object that is being filled -/
theorem Iv.and {D : Addr} {o : HO} (i : Iv p H) (h : H D = some o) (n : Nv p D) : Iv (p.and D o) H := by
  refine ⟨fun a ha => ?_, fun x hx => ?_⟩
  · obtain ⟨w, m⟩ := i.pot a ha
    refine ⟨w, fun x hx => ?_⟩
    rcases List.mem_cons.mp hx with e | e
    · rw [e]
      exact fun z => n.1 (by rw [show D = a from z]; exact ha)
    · exact m x e
  · rcases List.mem_cons.mp hx with e | e
    · rw [e]
      exact h
    · exact i.ex x e
theorem Iv.back {D : Addr} {o : HO} (i : Iv (p.and D o) H) : Iv p H := ⟨fun a ha => ⟨(i.pot a ha).1, fun x hx => (i.pot a ha).2 x (List.mem_cons_of_mem _ hx)⟩, fun x hx => i.ex x (List.mem_cons_of_mem _ hx)⟩
/-- behind a call that draws from the pot alone -/
theorem Iv.drawn {a : Addr} (i : Iv p H) (ha : p.pot = some a) (po : Pot H' a) (g : Gr (Vo.of a) H H') : Iv p H' := by
  refine ⟨fun b hb => ?_, fun x hx => g _ _ (nv_of fun e => (i.pot a ha).2 x hx e.symm) (i.ex x hx)⟩
  have e : b = a := Option.some.inj (hb.symm.trans ha)
  rw [e]
  exact ⟨po, (i.pot a ha).2⟩
theorem Gr.drawn {a : Addr} (ha : p.pot = some a) (g : Gr (Vo.of a) H H') : Gr p H H' := fun b o n h => g b o (nv_of fun e => n.1 (by rw [← e]; exact ha)) h
theorem Gr.of {a : Addr} (ha : p.pot = some a) (hx : p.ex = []) (g : Gr p H H') : Gr (Vo.of a) H H' := fun b o n h => g b o ⟨by rw [ha]; exact n.1, fun x m => by rw [hx] at m; exact (nomatch m)⟩ h

/-! ### what is said of a value, and stays -/
structure Sy (p : Vo) where
  P : V → Hp → Prop
  st : ∀ v H H', Gr p H H' → P v H → P v H'
def sx (v : V) : Sy p := ⟨fun x _ => x = v, fun _ _ _ _ h => h⟩
def si (C : Int → Prop) : Sy p := ⟨fun x _ => ∃ i, x = .int i ∧ C i, fun _ _ _ _ h => h⟩
def sb (B : Bool → Prop) : Sy p := ⟨fun x _ => ∃ b, x = .bl b ∧ B b, fun _ _ _ _ h => h⟩
def ss (C : Str → Prop) : Sy p := ⟨fun x _ => ∃ z, x = .str z ∧ C z, fun _ _ _ _ h => h⟩
def sl (C : List V → Hp → Prop) (hC : ∀ vs H H', Gr p H H' → C vs H → C vs H') : Sy p :=
  ⟨fun x H => ∃ a vs, x = .ref a ∧ Nv p a ∧ H a = some (.lst vs) ∧ C vs H, fun _ H H' e ⟨a, vs, h1, h2, h3, h4⟩ => ⟨a, vs, h1, h2, e a _ h2 h3, hC vs H H' e h4⟩⟩
def st (C : List V → Hp → Prop) (hC : ∀ vs H H', Gr p H H' → C vs H → C vs H') : Sy p :=
  ⟨fun x H => ∃ a vs, x = .ref a ∧ Nv p a ∧ H a = some (.tup vs) ∧ C vs H, fun _ H H' e ⟨a, vs, h1, h2, h3, h4⟩ => ⟨a, vs, h1, h2, e a _ h2 h3, hC vs H H' e h4⟩⟩
/-- a list, a tuple of just these -/
def slx (vs : List V) : Sy p := sl (fun x _ => x = vs) fun _ _ _ _ h => h
def stx (vs : List V) : Sy p := st (fun x _ => x = vs) fun _ _ _ _ h => h
/-- a list whose items all are so -/
def sla (A : Sy p) (n : Nat) : Sy p := sl (fun vs H => vs.length ≤ n ∧ ∀ v ∈ vs, A.P v H) fun _ H H' e h => ⟨h.1, fun v hv => A.st v H H' e (h.2 v hv)⟩
def slL (A : Sy p) (C : Nat → Prop) : Sy p := sl (fun vs H => C vs.length ∧ ∀ v ∈ vs, A.P v H) fun _ H H' e h => ⟨h.1, fun v hv => A.st v H H' e (h.2 v hv)⟩

def Ev (p : Vo) (te : TE) (σ : L2.St) (H : Hp) (A : Sy p) : Prop := ∀ H1, Iv p H1 → Gr p H H1 → ∀ Q : VK, (∀ v H2, Iv p H2 → Gr p H1 H2 → A.P v H2 → Q v H2) → te σ H1 Q
def EvT (p : Vo) (t : TT) (σ : L2.St) (H : Hp) (B : Bool → Prop) : Prop := ∀ H1, Iv p H1 → Gr p H H1 → ∀ Q : Bool → Hp → Prop, (∀ b H2, Iv p H2 → Gr p H1 H2 → B b → Q b H2) → t σ H1 Q
def Oks : List (Sy p) → List V → Hp → Prop
  | [], vs, _ => vs = []
  | A :: As, vs, H => ∃ v ws, vs = v :: ws ∧ A.P v H ∧ Oks As ws H
theorem Oks.st : ∀ {As : List (Sy p)} {vs : List V}, Gr p H H' → Oks As vs H → Oks As vs H'
  | [], _, _, h => h
  | A :: As, _, e, ⟨v, ws, h1, h2, h3⟩ => ⟨v, ws, h1, A.st v _ _ e h2, Oks.st e h3⟩
def EvA (p : Vo) (ta : TA) (σ : L2.St) (H : Hp) (As : List (Sy p)) : Prop := ∀ H1, Iv p H1 → Gr p H H1 → ∀ Q : List V → Hp → Prop, (∀ vs H2, Iv p H2 → Gr p H1 H2 → Oks As vs H2 → Q vs H2) → ta σ H1 Q
/-- an operation, a call upon values -/
def Rv (p : Vo) (r : Hp → VK → Prop) (H : Hp) (A : Sy p) : Prop := ∀ Q : VK, (∀ v H2, Iv p H2 → Gr p H H2 → A.P v H2 → Q v H2) → r H Q

section
variable {σ : L2.St} {ta tb te tx : TE} {t u : TT} {tr : TA} {A B C : Sy p} {As : List (Sy p)} {v x y z : V} {K : PySem.W.Frag}
theorem Ev.mono (h : Ev p te σ H A) (e : Gr p H H') : Ev p te σ H' A := fun H1 i g Q q => h H1 i (e.trans g) Q q
theorem Ev.imp (h : Ev p te σ H A) (e : ∀ v H, A.P v H → B.P v H) : Ev p te σ H B := fun H1 i g Q q => h H1 i g Q fun v H2 i2 g2 a => q v H2 i2 g2 (e v H2 a)
theorem EvT.imp {B B' : Bool → Prop} (h : EvT p t σ H B) (e : ∀ b, B b → B' b) : EvT p t σ H B' := fun H1 i g Q q => h H1 i g Q fun v H2 i2 g2 a => q v H2 i2 g2 (e v a)
theorem e_var {i : Nat} (h : σ[i]? = some (some v)) (a : A.P v H) : Ev p (tVar i) σ H A := fun H1 i1 g Q q => ⟨v, h, q v H1 i1 (Gr.refl H1) (A.st v H H1 g a)⟩
theorem e_vx {i : Nat} (h : σ[i]? = some (some v)) : Ev p (tVar i) σ H (sx v) := e_var h rfl
theorem e_c (a : A.P v H) : Ev p (tC v) σ H A := fun H1 i1 g Q q => q v H1 i1 (Gr.refl H1) (A.st v H H1 g a)
theorem e_cx : Ev p (tC v) σ H (sx v) := e_c rfl
theorem e_op {r : R2} (ha : Ev p ta σ H A) (hb : Ev p tb σ H B) (hr : ∀ x y H1, Iv p H1 → Gr p H H1 → A.P x H1 → B.P y H1 → Rv p (r x y) H1 C) : Ev p (tOp r ta tb) σ H C := fun H1 i g Q q =>
  ha H1 i g _ fun x H2 i2 g2 ax => hb H2 i2 (g.trans g2) _ fun y H3 i3 g3 by_ => hr x y H3 i3 ((g.trans g2).trans g3) (A.st x _ _ g3 ax) by_ Q fun w H4 i4 g4 c => q w H4 i4 ((g2.trans g3).trans g4) c
theorem e_un {r : V → Hp → VK → Prop} (ha : Ev p ta σ H A) (hr : ∀ x H1, Iv p H1 → Gr p H H1 → A.P x H1 → Rv p (r x) H1 C) : Ev p (tUn r ta) σ H C := fun H1 i g Q q =>
  ha H1 i g _ fun x H2 i2 g2 ax => hr x H2 i2 (g.trans g2) ax Q fun w H4 i4 g4 c => q w H4 i4 (g2.trans g4) c
theorem a_nil : EvA p tNil σ H [] := fun H1 i _ _ q => q [] H1 i (Gr.refl H1) rfl
theorem a_cons (h : Ev p te σ H A) (hr : EvA p tr σ H As) : EvA p (tCons te tr) σ H (A :: As) := fun H1 i g Q q =>
  h H1 i g _ fun x H2 i2 g2 ax => hr H2 i2 (g.trans g2) _ fun vs H3 i3 g3 os => q (x :: vs) H3 i3 (g2.trans g3) ⟨x, vs, rfl, A.st x _ _ g3 ax, os⟩
theorem e_cb {r : List V → Hp → VK → Prop} (h : EvA p tr σ H As) (hr : ∀ vs H1, Iv p H1 → Gr p H H1 → Oks As vs H1 → Rv p (r vs) H1 C) : Ev p (tCB r tr) σ H C := fun H1 i g Q q =>
  h H1 i g _ fun vs H2 i2 g2 os => hr vs H2 i2 (g.trans g2) os Q fun w H3 i3 g3 c => q w H3 i3 (g2.trans g3) c
theorem e_call {sp : Sp} {E : XK} (h : EvA p tr σ H As) (hr : ∀ vs H1, Iv p H1 → Gr p H H1 → Oks As vs H1 → Rv p (fun H Q => sp vs H Q E) H1 C) : Ev p (tCall sp [] E tr) σ H C := fun H1 i g Q q =>
  h H1 i g _ fun vs H2 i2 g2 os => by
    show sp (vs ++ []) H2 Q E
    rw [List.append_nil]
    exact hr vs H2 i2 (g.trans g2) os Q fun w H3 i3 g3 c => q w H3 i3 (g2.trans g3) c
theorem Oks.len : ∀ {As : List (Sy p)} {vs : List V} {H : Hp}, Oks As vs H → vs.length = As.length
  | [], _, _, h => by rw [h]; rfl
  | _ :: _, _, _, ⟨v, ws, h1, _, h3⟩ => by rw [h1, List.length_cons, Oks.len h3, List.length_cons]
theorem e_tup (h : EvA p tr σ H As) (hn : As.length ≤ sizeLine) (hr : ∀ vs a H1, Iv p H1 → Gr p H H1 → Oks As vs H1 → Nv p a → H1 a = some (.tup vs) → C.P (.ref a) H1) : Ev p (tTup tr) σ H C := fun H1 i g Q q =>
  h H1 i g _ fun vs H2 i2 g2 os => ⟨by rw [os.len]; exact hn, fun a ha => q _ _ (i2.new ha) (g2.trans (Gr.new ha)) (hr vs a _ (i2.new ha) ((g.trans g2).trans (Gr.new ha)) (os.st (Gr.new ha)) (i2.ne ha) upd_same)⟩
theorem e_lst (h : EvA p tr σ H As) (hn : As.length ≤ sizeLine) (hr : ∀ vs a H1, Iv p H1 → Gr p H H1 → Oks As vs H1 → Nv p a → H1 a = some (.lst vs) → C.P (.ref a) H1) : Ev p (tLst tr) σ H C := fun H1 i g Q q =>
  h H1 i g _ fun vs H2 i2 g2 os => ⟨by rw [os.len]; exact hn, fun a ha => q _ _ (i2.new ha) (g2.trans (Gr.new ha)) (hr vs a _ (i2.new ha) ((g.trans g2).trans (Gr.new ha)) (os.st (Gr.new ha)) (i2.ne ha) upd_same)⟩

/-! ### tests -/
theorem t_test {B : Bool → Prop} (h : Ev p te σ H (sb B)) : EvT p (tTest te) σ H B := fun H1 i g Q q => h H1 i g _ fun v H2 i2 g2 ⟨b, e, hb⟩ => ⟨b, e, q b H2 i2 g2 hb⟩
theorem t_b {B : Bool → Prop} (h : Ev p te σ H (sb B)) : EvT p (tB te) σ H B := fun H1 i g Q q => h H1 i g _ fun v H2 i2 g2 ⟨b, e, hb⟩ => ⟨b, e, q b H2 i2 g2 hb⟩
theorem EvT.mono {B : Bool → Prop} (h : EvT p t σ H B) (e : Gr p H H') : EvT p t σ H' B := fun H1 i g Q q => h H1 i (e.trans g) Q q
theorem t_and {B D E : Bool → Prop} (h : EvT p t σ H B) (h1 : B true → EvT p u σ H D) (e0 : B false → E false) (e1 : ∀ b, B true → D b → E b) : EvT p (tAnd t u) σ H E := fun H1 i g Q q => h H1 i g _ fun b H2 i2 g2 hb => by
  cases b with
  | true =>
    show u σ H2 Q
    exact h1 hb H2 i2 (g.trans g2) Q fun c H3 i3 g3 hc => q c H3 i3 (g2.trans g3) (e1 c hb hc)
  | false =>
    show Q false H2
    exact q false H2 i2 g2 (e0 hb)
theorem t_or {B D E : Bool → Prop} (h : EvT p t σ H B) (h1 : B false → EvT p u σ H D) (e0 : B true → E true) (e1 : ∀ b, B false → D b → E b) : EvT p (tOr t u) σ H E := fun H1 i g Q q => h H1 i g _ fun b H2 i2 g2 hb => by
  cases b with
  | false =>
    show u σ H2 Q
    exact h1 hb H2 i2 (g.trans g2) Q fun c H3 i3 g3 hc => q c H3 i3 (g2.trans g3) (e1 c hb hc)
  | true =>
    show Q true H2
    exact q true H2 i2 g2 (e0 hb)
theorem t_not {B : Bool → Prop} (h : EvT p t σ H B) : EvT p (tNot t) σ H (fun b => B (!b)) := fun H1 i g Q q => h H1 i g _ fun b H2 i2 g2 hb => q (!b) H2 i2 g2 (by show B (!(!b)); rw [Bool.not_not]; exact hb)
/-- known answers -/
abbrev Tis (p : Vo) (t : TT) (σ : L2.St) (H : Hp) (b : Bool) : Prop := EvT p t σ H (fun c => c = b)
theorem k_and {a b : Bool} (h : Tis p t σ H a) (h1 : a = true → Tis p u σ H b) : Tis p (tAnd t u) σ H (a && b) := t_and h (fun e => h1 e.symm) (fun e => by rw [← e]; rfl) fun c e d => by rw [← e, d]; rfl
theorem k_or {a b : Bool} (h : Tis p t σ H a) (h1 : a = false → Tis p u σ H b) : Tis p (tOr t u) σ H (a || b) := t_or h (fun e => h1 e.symm) (fun e => by rw [← e]; rfl) fun c e d => by rw [← e, d]; rfl
theorem k_not {a : Bool} (h : Tis p t σ H a) : Tis p (tNot t) σ H (!a) := (t_not h).imp fun b e => by rw [← e, Bool.not_not]
theorem k_to {a b : Bool} (h : Tis p t σ H a) (e : a = b) : Tis p t σ H b := by rw [← e]; exact h
theorem k_test {b : Bool} (h : Ev p te σ H (sx (.bl b))) : Tis p (tTest te) σ H b := t_test (h.imp fun v _ e => ⟨b, e, rfl⟩)
theorem k_b {b : Bool} (h : Ev p te σ H (sx (.bl b))) : Tis p (tB te) σ H b := t_b (h.imp fun v _ e => ⟨b, e, rfl⟩)
theorem e_if {B : Bool → Prop} (h : EvT p t σ H B) (h1 : B true → Ev p ta σ H A) (h2 : B false → Ev p tb σ H A) : Ev p (tIf t ta tb) σ H A := fun H1 i g Q q => h H1 i g _ fun b H2 i2 g2 hb => by
  cases b with
  | true =>
    show ta σ H2 Q
    exact h1 hb H2 i2 (g.trans g2) Q fun c H3 i3 g3 hc => q c H3 i3 (g2.trans g3) hc
  | false =>
    show tb σ H2 Q
    exact h2 hb H2 i2 (g.trans g2) Q fun c H3 i3 g3 hc => q c H3 i3 (g2.trans g3) hc
/-- and, or, not as values: exact -/
theorem x_and {a b : Bool} (h1 : Ev p ta σ H (sx (.bl a))) (h2 : a = true → Ev p tb σ H (sx (.bl b))) : Ev p (tAndV ta tb) σ H (sx (.bl (a && b))) := fun H1 i g Q q => h1 H1 i g _ fun v H2 i2 g2 e => ⟨a, e, by
  cases a with
  | true =>
    show tb σ H2 Q
    exact h2 rfl H2 i2 (g.trans g2) Q fun c H3 i3 g3 hc => q c H3 i3 (g2.trans g3) hc
  | false =>
    show Q (.bl false) H2
    exact q _ H2 i2 g2 rfl⟩
theorem x_or {a b : Bool} (h1 : Ev p ta σ H (sx (.bl a))) (h2 : a = false → Ev p tb σ H (sx (.bl b))) : Ev p (tOrV ta tb) σ H (sx (.bl (a || b))) := fun H1 i g Q q => h1 H1 i g _ fun v H2 i2 g2 e => ⟨a, e, by
  cases a with
  | false =>
    show tb σ H2 Q
    exact h2 rfl H2 i2 (g.trans g2) Q fun c H3 i3 g3 hc => q c H3 i3 (g2.trans g3) hc
  | true =>
    show Q (.bl true) H2
    exact q _ H2 i2 g2 rfl⟩
theorem x_not {a : Bool} (h1 : Ev p ta σ H (sx (.bl a))) : Ev p (tNotV ta) σ H (sx (.bl (!a))) := fun H1 i g Q q => h1 H1 i g _ fun v H2 i2 g2 e => ⟨a, e, q _ H2 i2 g2 rfl⟩
theorem x_to {w : V} (h : Ev p te σ H (sx v)) (e : v = w) : Ev p te σ H (sx w) := by rw [← e]; exact h
/-- a < b < c -/
theorem x_chain {r r' : R2} {tc : TE} {a b : Bool} (ha : Ev p ta σ H A) (hb : Ev p tb σ H B) (hc : a = true → Ev p tc σ H C)
    (hr : ∀ x y H1, Iv p H1 → Gr p H H1 → A.P x H1 → B.P y H1 → Rv p (r x y) H1 (sx (.bl a))) (hr' : a = true → ∀ y z H1, Iv p H1 → Gr p H H1 → B.P y H1 → C.P z H1 → Rv p (r' y z) H1 (sx (.bl b))) :
    Ev p (tChain r r' ta tb tc) σ H (sx (.bl (a && b))) := fun H1 i g Q q =>
  ha H1 i g _ fun x H2 i2 g2 ax => hb H2 i2 (g.trans g2) _ fun y H3 i3 g3 by_ => hr x y H3 i3 ((g.trans g2).trans g3) (A.st x _ _ g3 ax) by_ _ fun w H4 i4 g4 e => ⟨a, e, by
    cases a with
    | true =>
      show tc σ H4 fun z H5 => r' y z H5 Q
      exact hc rfl H4 i4 (((g.trans g2).trans g3).trans g4) _ fun z H5 i5 g5 cz => hr' rfl y z H5 i5 ((((g.trans g2).trans g3).trans g4).trans g5) (B.st y _ _ (g4.trans g5) by_) cz Q fun w H6 i6 g6 e => q w H6 i6 ((((g2.trans g3).trans g4).trans g5).trans g6) e
    | false =>
      show Q (.bl false) H4
      exact q _ H4 i4 ((g2.trans g3).trans g4) rfl⟩

/-! ### statements -/
variable {D : Ends} {tu tw : TS}
theorem s_asg {i : Nat} (iv : Iv p H) (h : Ev p te σ H A) (k : ∀ v H1, Iv p H1 → Gr p H H1 → A.P v H1 → D.nx (σ.set i (some v)) H1) : tAsg te (gName i) D σ H := h H iv (Gr.refl H) _ k
theorem s_ret (iv : Iv p H) (h : Ev p te σ H A) (k : ∀ v H1, Iv p H1 → Gr p H H1 → A.P v H1 → D.rt v H1) : tRet te D σ H := h H iv (Gr.refl H) _ k
theorem s_if {B : Bool → Prop} (iv : Iv p H) (h : EvT p t σ H B) (h1 : B true → ∀ H1, Iv p H1 → Gr p H H1 → tu D σ H1) (h2 : B false → ∀ H1, Iv p H1 → Gr p H H1 → tw D σ H1) : tIfS t tu tw D σ H := h H iv (Gr.refl H) _ fun b H1 i e hb => by
  cases b with
  | true =>
    show tu D σ H1
    exact h1 hb H1 i e
  | false =>
    show tw D σ H1
    exact h2 hb H1 i e
/-- with a known answer -/
theorem s_ifx {b : Bool} (iv : Iv p H) (h : Tis p t σ H b) (h1 : b = true → ∀ H1, Iv p H1 → Gr p H H1 → tu D σ H1) (h2 : b = false → ∀ H1, Iv p H1 → Gr p H H1 → tw D σ H1) : tIfS t tu tw D σ H :=
  s_if iv h (fun e => h1 e.symm) fun e => h2 e.symm
end

/-! ### operations -/
section
variable {x y : V} {K : PySem.W.Frag}
theorem rv (iv : Iv p H) {r : Hp → VK → Prop} {A : Sy p} {v : V} (a : A.P v H) (h : ∀ Q : VK, Q v H → r H Q) : Rv p r H A := fun Q q => h Q (q v H iv (Gr.refl H) a)
/-- a new object -/
theorem rv_new (iv : Iv p H) {r : Hp → VK → Prop} {A : Sy p} {o : HO} (a : ∀ q, Nv p q → H q = none → Iv p (upd H q o) → Gr p H (upd H q o) → A.P (.ref q) (upd H q o)) (h : ∀ Q : VK, (∀ q, H q = none → Q (.ref q) (upd H q o)) → r H Q) : Rv p r H A :=
  fun Q q => h Q fun a' ha => q _ _ (iv.new ha) (Gr.new ha) (a a' (iv.ne ha) ha (iv.new ha) (Gr.new ha))
end
end Hk
namespace Hk
open PySem PySem.Spec PyProof.Rows L2

/-! ### rules that take either of several readings -/
section
variable {X : Cx}
theorem OpR.or {f : Value → Value → Sem Value} {r r' : R2} (h : OpR X f r) (h' : OpR X f r') : OpR X f (fun x y H Q => r x y H Q ∨ r' x y H Q) := by
  intro pins s σ H x y v u Q I rx ry q
  rcases q with q | q
  · exact h pins s σ H x y v u Q I rx ry q
  · exact h' pins s σ H x y v u Q I rx ry q
def rAddS : R2 := fun x y H Q => ∃ i j, x = .str i ∧ y = .str j ∧ i.length + j.length ≤ sizeLine ∧ Q (.str (i ++ j)) H
def rAddI : R2 := fun x y H Q => ∃ i j, x = .int i ∧ y = .int j ∧ Q (.int (i + j)) H
def rAddU : R2 := fun x y H Q => rAddI x y H Q ∨ rAddS x y H Q ∨ rCat x y H Q
theorem op_addU : OpR X (binaryOp .Add) rAddU := OpR.or (show OpR X (binaryOp .Add) rAddI from op_add) (OpR.or (show OpR X (binaryOp .Add) rAddS from op_add_str) (show OpR X (binaryOp .Add) rCat from op_cat))
def rMulI : R2 := rI CMul fun i j => .int (i * j)
def rMulS : R2 := fun x y H Q => ∃ z n, x = .str z ∧ y = .int n ∧ MulOk z n ∧ Q (.str (Txt.mul z n)) H
theorem op_mulS : OpR X (binaryOp .Mult) rMulS := by
  intro pins s σ H x y v u Q I rx ry h
  obtain ⟨z, n, rfl, rfl, ok, q⟩ := h
  obtain ⟨t, rfl⟩ := rx
  obtain ⟨t', rfl⟩ := ry
  exact SB.mul ok fun t' k => ⟨.str _, H, I.tok _, ⟨_, rfl⟩, q⟩
def rMulU : R2 := fun x y H Q => rMulI x y H Q ∨ rMulS x y H Q
theorem op_mulU : OpR X (binaryOp .Mult) rMulU := OpR.or (show OpR X (binaryOp .Mult) rMulI from op_mul) op_mulS
def CPw (i j : Int) : Prop := 0 ≤ j ∧ (Builtin.Int.intBits i : Int) * j ≤ 2 ^ 27
def rPow : R2 := rI CPw fun i j => .int (i ^ j.toNat)
theorem op_powW : OpR X (binaryOp .Pow) rPow := opI fun _ _ _ _ _ _ _ hc q => pow_int hc.1 hc.2 q
def rLeI : R2 := fun x y H Q => ∃ i j, x = .int i ∧ y = .int j ∧ Q (.bl (decide (i ≤ j))) H
def rLeS : R2 := fun x y H Q => ∃ i j : Str, x = .str i ∧ y = .str j ∧ Q (.bl (!decide (j.cps.toList < i.cps.toList))) H
def rLeU : R2 := fun x y H Q => rLeI x y H Q ∨ rLeS x y H Q
theorem op_leU : OpR X (compareOp .LtE) rLeU := OpR.or (show OpR X (compareOp .LtE) rLeI from op_le) (show OpR X (compareOp .LtE) rLeS from op_le_str)
def rInS' : R2 := fun x y H Q => ∃ (c : Nat) (z : Str), x = .str ⟨#[c]⟩ ∧ y = .str z ∧ Q (.bl (decide (c ∈ z.cps.toList))) H
def rNinS' : R2 := fun x y H Q => ∃ (c : Nat) (z : Str), x = .str ⟨#[c]⟩ ∧ y = .str z ∧ Q (.bl (!decide (c ∈ z.cps.toList))) H
def rInU (K : PySem.W.Frag) : R2 := fun x y H Q => rInS' x y H Q ∨ rIn K false x y H Q
def rNinU (K : PySem.W.Frag) : R2 := fun x y H Q => rNinS' x y H Q ∨ rIn K true x y H Q
theorem op_inU : OpR X (compareOp .In) (rInU X.K) := OpR.or (show OpR X (compareOp .In) rInS' from op_in_sign) op_in_seq
theorem op_ninU : OpR X (compareOp .NotIn) (rNinU X.K) := OpR.or (show OpR X (compareOp .NotIn) rNinS' from op_notIn_sign) op_notIn_seq
def rSlU (K : PySem.W.Frag) : V → Option Int → Option Int → Hp → VK → Prop := fun x lo hi H Q => rSlT K x lo hi H Q ∨ rSlS x lo hi H Q
theorem sl_U : SlR X (rSlU X.K) := SlR.or sl_tup sl_str
def rDm : List V → Hp → VK → Prop := fun xs H Q => ∃ i j, xs = [.int i, .int j] ∧ (0 < j ∧ j < 1073741824) ∧ ∀ p, H p = none → Q (.ref p) (upd H p (.tup [.int (i / j), .int (i % j)]))
theorem call_divmodS : CallR X (.builtin "divmod") rDm := by
  intro pins s σ H xs us Q I r h
  obtain ⟨i, j, e, ⟨h1, h2⟩, q⟩ := h
  exact call_divmodW pins s σ H xs us Q I r ⟨i, j, e, ⟨h1, PyProof.noPylong_small (by omega)⟩, q⟩

/-! ### repr of a list, a tuple of truths and texts -/
inductive FlatD : V → PyData → Prop where
  | bl (b : Bool) : FlatD (.bl b) (.bool b)
  | str (x : Str) : FlatD (.str x) (.str x)
theorem flat_reads {h : Heap} {v : V} {u : Value} {d : PyData} (f : FlatD v d) (r : RelV v u) : Reads h u d [] := by
  cases f with
  | bl b => cases r; exact .bool b
  | str x => obtain ⟨t, rfl⟩ := r; exact .str x t
theorem flat_readsAll {h : Heap} : ∀ {vs : List V} {us : List Value} {ds : List PyData}, Paired FlatD vs ds → Vals vs us → ReadsAll h us ds []
  | _, _, _, .nil, .nil => .nil
  | _, _, _, .cons f k, .cons r q => .cons (as := []) (bs := []) (flat_reads f r) (flat_readsAll k q)
theorem flat_show {v : V} {d : PyData} (f : FlatD v d) : d.showable = true ∧ d.hasDict = false ∧ d.depth = 0 := by
  cases f <;> refine ⟨by simp only [PyData.showable], by simp only [PyData.hasDict], by simp only [PyData.depth]⟩
theorem flat_showAll : ∀ {vs : List V} {ds : List PyData}, Paired FlatD vs ds → PyData.showableAll ds = true ∧ PyData.hasDictAll ds = false ∧ PyData.depthAll ds = 0
  | _, _, .nil => ⟨by simp only [PyData.showableAll], by simp only [PyData.hasDictAll], by simp only [PyData.depthAll]⟩
  | _, _, .cons f k => by
    obtain ⟨a1, a2, a3⟩ := flat_show f
    obtain ⟨b1, b2, b3⟩ := flat_showAll k
    refine ⟨by simp only [PyData.showableAll, a1, b1, Bool.and_self], by simp only [PyData.hasDictAll, a2, b2, Bool.or_self], by simp only [PyData.depthAll, a3, b3] <;> rfl⟩
def rRepr (K : PySem.W.Frag) : List V → Hp → VK → Prop := fun xs H Q => ∃ (a : Addr) (vs : List V) (ds : List PyData), xs = [.ref a] ∧ Paired FlatD vs ds ∧
  ((SqL K H a vs ∧ (PyData.list ds).shown.length ≤ sizeLine ∧ Q (.str (PyData.list ds).shown) H) ∨ (SqT K H a vs ∧ (PyData.tuple ds).shown.length ≤ sizeLine ∧ Q (.str (PyData.tuple ds).shown) H))

theorem call_reprU (hg : X.A.guards = some []) (hu : X.A.units + 3 < cLine) : CallR X (.builtin "repr") (rRepr X.K) := by
  intro pins s σ H xs us Q I r h
  obtain ⟨a, vs, ds, rfl, f, h⟩ := h
  obtain ⟨u, rfl, rx⟩ := vals1 r
  cases (show u = Value.ref a from rx)
  obtain ⟨w1, w2, w3⟩ := flat_showAll f
  rcases h with ⟨hl, hz, q⟩ | ⟨ht, hz, q⟩
  · obtain ⟨its, rv, ⟨o, n, e1, e2, _, e4⟩, _⟩ := I.list hl
    have rd : Reads s.heap (.ref a) (.list ds) (a :: []) := .list e1 e2 e4 (by simpa using flat_readsAll f rv)
    refine repr_of_reads' rd (by simp only [PyData.showable, w1]) (PyData.noDict_hsm (by simp only [PyData.hasDict, w2])) hg ?_ (fun _ _ e => e) (fun h' t tk hk => ?_) hz
    · have e : (PyData.list ds).depth = 1 := by
        simp only [PyData.depth, w3]
      omega
    · exact ⟨.str _, H, I.kept hk, ⟨_, rfl⟩, q⟩
  · obtain ⟨its, rv, ⟨o, e1, e2, n, e4⟩, _⟩ := I.tuple ht
    have rd : Reads s.heap (.ref a) (.tuple ds) [] := .tuple e1 e2 e4 (by simpa using flat_readsAll f rv)
    refine repr_of_reads' rd (by simp only [PyData.showable, w1]) (PyData.noDict_hsm (by simp only [PyData.hasDict, w2])) hg ?_ (fun _ _ e => e) (fun h' t tk hk => ?_) hz
    · have e : (PyData.tuple ds).depth = 1 := by
        simp only [PyData.depth, w3]
      omega
    · exact ⟨.str _, H, I.kept hk, ⟨_, rfl⟩, q⟩
end

/-! ### a comprehension over a text -/
theorem lc_str {x : Str} {g : TG} {tt : TT} {te : TE} {vs : List Nat} {σ : L2.St} {H1 : Hp} {D : Addr} {Qd : Hp → Prop} (Pv : Nat → Hp → Prop) (h0 : Pv 0 (upd H1 D (.lst [])))
    (hs : ∀ i c H, x.cps.toList[i]? = some c → Pv i H → g (.str ⟨#[c]⟩) (wipe σ vs) H fun σ2 H2 => wipe σ2 vs = wipe σ vs ∧ tt σ2 H2 fun b H3 =>
      if b = true then te σ2 H3 fun y H4 => ∃ acc, H4 D = some (.lst acc) ∧ acc.length < sizeLine ∧ Pv (i + 1) (upd H4 D (.lst (acc ++ [y]))) else Pv (i + 1) H3) (hd : ∀ H, Pv x.cps.size H → Qd H) :
    ∃ W : Nat → Nat → Hp → Prop, (∃ m, W 0 m (upd H1 D (.lst []))) ∧ ∀ i m H, W i m H →
      ((Its x).stop i H ∧ Qd H) ∨ ((Its x).go i H ∧ ∃ Nx : Hp → Prop, (∀ H', Nx H' → ∃ m', m' < m ∧ W (i + 1) m' H') ∧ ∀ v H', (Its x).yld i H v H' → g v (wipe σ vs) H' fun σ2 H2 => wipe σ2 vs = wipe σ vs ∧ tt σ2 H2 fun b H3 =>
        if b = true then te σ2 H3 fun y H4 => ∃ acc, H4 D = some (.lst acc) ∧ acc.length < sizeLine ∧ Nx (upd H4 D (.lst (acc ++ [y]))) else Nx H3) := by
  refine ⟨fun i m H => m = x.cps.size - i ∧ i ≤ x.cps.size ∧ Pv i H, ⟨_, rfl, Nat.zero_le _, h0⟩, fun i m H hw => ?_⟩
  obtain ⟨em, hi, pw⟩ := hw
  by_cases hlt : i < x.cps.size
  · refine .inr ⟨hlt, Pv (i + 1), fun H' n => ⟨x.cps.size - (i + 1), by omega, rfl, hlt, n⟩, fun v H' hy => ?_⟩
    obtain ⟨rfl, c, hc, rfl⟩ := hy
    exact hs i c _ (by rw [Array.getElem?_toList]; exact hc) pw
  · have e : i = x.cps.size := by omega
    subst e
    exact .inl ⟨Nat.le_refl _, hd H pw⟩

/-! ### comprehensions, by what is said of the items made: the list that is made, turn by turn -/
section
variable {p : Vo} {σ : L2.St} {H : Hp} {K : PySem.W.Frag}
/-- C i acc H: the first i turns gave acc; it is not hurt by the list's own growing -/
structure Grows (p : Vo) (C : Nat → List V → Hp → Prop) : Prop where
  st : ∀ i acc H1 H2, Gr p H1 H2 → C i acc H1 → C i acc H2
/-- what stands behind i turns -/
def Cw (p : Vo) (H : Hp) (D : Addr) (C : Nat → List V → Hp → Prop) (i : Nat) (H' : Hp) : Prop :=
  Iv p H' ∧ H D = none ∧ Nv p D ∧ Gr p H H' ∧ ∃ acc, H' D = some (.lst acc) ∧ acc.length = i ∧ C i acc H'
/-- what an item's evaluation gives while the list at D is being made: said over one more object that may change -/
theorem cw_turn {C : Nat → List V → Hp → Prop} {D : Addr} (st : ∀ o i acc H1 H2, Gr (p.and D o) H1 H2 → C i acc H1 → C i acc H2) {i : Nat} {te : TE} {σ2 : L2.St} {A : ∀ q : Vo, Sy q} {H' : Hp} (w : Cw p H D C i H') (hi : i < 16000000)
    (he : ∀ o, Ev (p.and D o) te σ2 H (A (p.and D o)))
    (hc : ∀ acc y H1 o, Gr p H H1 → Iv (p.and D o) H1 → acc.length = i → C i acc H1 → (A (p.and D o)).P y H1 → C (i + 1) (acc ++ [y]) H1) :
    tYes σ2 H' fun b H3 => if b = true then te σ2 H3 fun y H4 => ∃ acc, H4 D = some (.lst acc) ∧ acc.length < sizeLine ∧ Cw p H D C (i + 1) (upd H4 D (.lst (acc ++ [y]))) else Cw p H D C (i + 1) H3 := by
  obtain ⟨iv, hD, nD, g, acc, ha, hl, c⟩ := w
  show te σ2 H' fun y H4 => ∃ acc, H4 D = some (.lst acc) ∧ acc.length < sizeLine ∧ Cw p H D C (i + 1) (upd H4 D (.lst (acc ++ [y])))
  have g1 : Gr (p.and D (.lst acc)) H H' := fun b o n h => g b o n.back h
  refine he (.lst acc) H' (iv.and ha nD) g1 _ fun y H4 i4 g4 ay => ?_
  have aD : H4 D = some (.lst acc) := i4.ex (D, .lst acc) List.mem_cons_self
  have g5 : Gr p H' H4 := fun b o n h => by
    by_cases e : D = b
    · rw [← e] at h ⊢
      rw [ha] at h
      rw [aD, ← h]
    · exact g4 b o (n.and e) h
  have g6 : Gr (p.and D (.lst acc)) H4 (upd H4 D (.lst (acc ++ [y]))) := fun b o n h => by
    rw [upd_ne n.ne.symm]
    exact h
  refine ⟨acc, aD, by rw [sizeLine_eq]; omega, i4.back.upd nD, hD, nD, (g.trans g5).mut hD, acc ++ [y], upd_same, by rw [List.length_append, hl]; rfl, ?_⟩
  exact st (.lst acc) _ _ _ _ g6 (hc acc y H4 (.lst acc) (g.trans g5) i4 hl (st (.lst acc) _ _ _ _ g4 c) ay)
theorem cw0 {C : Nat → List V → Hp → Prop} {D : Addr} (iv : Iv p H) (hD : H D = none) (c : C 0 [] (upd H D (.lst []))) : Cw p H D C 0 (upd H D (.lst [])) :=
  ⟨iv.new hD, hD, iv.ne hD, Gr.new hD, [], upd_same, rfl, c⟩
/-- the result: a new list of what C says -/
def sC (C : Nat → List V → Hp → Prop) (n : Nat) (st : ∀ acc H1 H2, Gr p H1 H2 → C n acc H1 → C n acc H2) : Sy p := sl (fun vs H => vs.length = n ∧ C n vs H) fun vs H1 H2 e h => ⟨h.1, st vs H1 H2 e h.2⟩

variable {te ta tb : TE} {tr : TA} {j : Nat} {vs : List Nat} {A : Nat → ∀ q : Vo, Sy q} {B : Sy p}
/-- over a text -/
theorem lcS {x : Str} (C : Nat → List V → Hp → Prop) (hx : Ev p ta σ H (sx (.str x))) (hz : x.cps.size < 16000000) (st : ∀ D o i acc H1 H2, Gr (p.and D o) H1 H2 → C i acc H1 → C i acc H2) (st' : ∀ acc H1 H2, Gr p H1 H2 → C x.cps.size acc H1 → C x.cps.size acc H2)
    (hw : ∀ x, wipe ((wipe σ vs).set j (some x)) vs = wipe σ vs) (c0 : ∀ H1, C 0 [] H1)
    (he : ∀ (i c : Nat) D o, x.cps.toList[i]? = some c → Ev (p.and D o) te ((wipe σ vs).set j (some (.str ⟨#[c]⟩))) H (A i (p.and D o)))
    (hc : ∀ (i c : Nat) acc y H1 D o, x.cps.toList[i]? = some c → Gr p H H1 → Iv (p.and D o) H1 → acc.length = i → C i acc H1 → (A i (p.and D o)).P y H1 → C (i + 1) (acc ++ [y]) H1) :
    Ev p (tLc (iStr ta) (gName j) tYes te vs) σ H (sC C x.cps.size st') := fun H0 i0 g0 Q q =>
  hx H0 i0 g0 _ fun v H1 i1 g1 e => ⟨x, e, fun D hD => lc_str (x := x) (Cw p H1 D C) (cw0 i1 hD (c0 _)) (fun i c H' hi w =>
    ⟨hw _, cw_turn (A := A i) (st D) w (by have := (List.getElem?_eq_some_iff.mp hi).1; rw [Array.length_toList] at this; omega) (fun o => (he i c D o hi).mono fun b ob n h => (g0.trans g1) b ob n.back h) fun acc y H2 o g2 i2 hl c2 ay => hc i c acc y H2 D o hi ((g0.trans g1).trans g2) i2 hl c2 ay⟩)
    fun H' w => q _ H' w.1 (g1.trans w.2.2.2.1) (by obtain ⟨_, _, nD, _, acc, ha, hl, c⟩ := w; exact ⟨D, acc, rfl, nD, ha, hl, c⟩)⟩
/-- over a tuple -/
theorem lcT {xs : List V} (C : Nat → List V → Hp → Prop) (hx : Ev p ta σ H B) (hB : ∀ v H1, Gr p H H1 → B.P v H1 → ∃ a, v = .ref a ∧ Nv p a ∧ H1 a = some (.tup xs)) (hz : xs.length < 16000000) (st : ∀ D o i acc H1 H2, Gr (p.and D o) H1 H2 → C i acc H1 → C i acc H2) (st' : ∀ acc H1 H2, Gr p H1 H2 → C xs.length acc H1 → C xs.length acc H2)
    (hw : ∀ x, wipe ((wipe σ vs).set j (some x)) vs = wipe σ vs) (c0 : ∀ H1, C 0 [] H1)
    (he : ∀ (i : Nat) (x : V) D o H1, Gr p H H1 → H1 D = none → xs[i]? = some x → Ev (p.and D o) te ((wipe σ vs).set j (some x)) H1 (A i (p.and D o)))
    (hc : ∀ (i : Nat) (x : V) acc y H1 D o, xs[i]? = some x → Gr p H H1 → Iv (p.and D o) H1 → acc.length = i → C i acc H1 → (A i (p.and D o)).P y H1 → C (i + 1) (acc ++ [y]) H1) :
    Ev p (tLc (iTup K ta) (gName j) tYes te vs) σ H (sC C xs.length st') := fun H0 i0 g0 Q q =>
  hx H0 i0 g0 _ fun v H1 i1 g1 bv => by
    obtain ⟨a, rfl, na, ha⟩ := hB v H1 (g0.trans g1) bv
    refine ⟨a, rfl, ⟨xs, SqT.of ha⟩, fun D hD => lc_tup (xs := xs) (Cw p H1 D C) (cw0 i1 hD (c0 _)) (fun i H' _ w => SqT.of (w.2.2.2.1 a _ na ha)) (fun i x H' hi w => ?_) fun H' w => q _ H' w.1 (g1.trans w.2.2.2.1) (by obtain ⟨_, _, nD, _, acc, ha, hl, c⟩ := w; exact ⟨D, acc, rfl, nD, ha, hl, c⟩)⟩
    exact ⟨hw _, cw_turn (A := A i) (st D) w (by have := (List.getElem?_eq_some_iff.mp hi).1; omega) (fun o => he i x D o H1 (g0.trans g1) hD hi) fun acc y H2 o g2 i2 hl c2 ay => hc i x acc y H2 D o hi ((g0.trans g1).trans g2) i2 hl c2 ay⟩
/-- over a list that stands still -/
theorem lcL {xs : List V} (C : Nat → List V → Hp → Prop) (hx : Ev p ta σ H B) (hB : ∀ v H1, Gr p H H1 → B.P v H1 → ∃ a, v = .ref a ∧ Nv p a ∧ H1 a = some (.lst xs)) (hz : xs.length < 16000000) (st : ∀ D o i acc H1 H2, Gr (p.and D o) H1 H2 → C i acc H1 → C i acc H2) (st' : ∀ acc H1 H2, Gr p H1 H2 → C xs.length acc H1 → C xs.length acc H2)
    (hw : ∀ x, wipe ((wipe σ vs).set j (some x)) vs = wipe σ vs) (c0 : ∀ H1, C 0 [] H1)
    (he : ∀ (i : Nat) (x : V) D o H1, Gr p H H1 → H1 D = none → xs[i]? = some x → Ev (p.and D o) te ((wipe σ vs).set j (some x)) H1 (A i (p.and D o)))
    (hc : ∀ (i : Nat) (x : V) acc y H1 D o, xs[i]? = some x → Gr p H H1 → Iv (p.and D o) H1 → acc.length = i → C i acc H1 → (A i (p.and D o)).P y H1 → C (i + 1) (acc ++ [y]) H1) :
    Ev p (tLc (iList K ta) (gName j) tYes te vs) σ H (sC C xs.length st') := fun H0 i0 g0 Q q =>
  hx H0 i0 g0 _ fun v H1 i1 g1 bv => by
    obtain ⟨a, rfl, na, ha⟩ := hB v H1 (g0.trans g1) bv
    refine ⟨a, rfl, ⟨xs, SqL.of ha⟩, fun D hD => lc_list (xs := xs) (Cw p H1 D C) (cw0 i1 hD (c0 _)) (fun i H' _ w => SqL.of (w.2.2.2.1 a _ na ha)) (fun i x H' hi w => ?_) fun H' w => q _ H' w.1 (g1.trans w.2.2.2.1) (by obtain ⟨_, _, nD, _, acc, ha, hl, c⟩ := w; exact ⟨D, acc, rfl, nD, ha, hl, c⟩)⟩
    exact ⟨hw _, cw_turn (A := A i) (st D) w (by have := (List.getElem?_eq_some_iff.mp hi).1; omega) (fun o => he i x D o H1 (g0.trans g1) hD hi) fun acc y H2 o g2 i2 hl c2 ay => hc i x acc y H2 D o hi ((g0.trans g1).trans g2) i2 hl c2 ay⟩
/-- over range(n) -/
theorem lcR {lo : Int} {n : Nat} (C : Nat → List V → Hp → Prop) {D : Addr} (st : ∀ o i acc H1 H2, Gr (p.and D o) H1 H2 → C i acc H1 → C i acc H2) (hz : n < 16000000)
    (hw : ∀ x, wipe ((wipe σ vs).set j (some x)) vs = wipe σ vs) (c0 : ∀ H1, C 0 [] H1) {H1 : Hp} (i1 : Iv p H1) (hD : H1 D = none)
    (he : ∀ i o, i < n → Ev (p.and D o) te ((wipe σ vs).set j (some (.int (lo + (i : Nat))))) H1 (A i (p.and D o)))
    (hc : ∀ i acc y H2 o, i < n → Gr p H1 H2 → Iv (p.and D o) H2 → acc.length = i → C i acc H2 → (A i (p.and D o)).P y H2 → C (i + 1) (acc ++ [y]) H2) {Qd : Hp → Prop} (hd : ∀ H', Cw p H1 D C n H' → Qd H') :
    ∃ W : Nat → Nat → Hp → Prop, (∃ m, W 0 m (upd H1 D (.lst []))) ∧ ∀ i m H, W i m H →
      ((Itr lo n).stop i H ∧ Qd H) ∨ ((Itr lo n).go i H ∧ ∃ Nx : Hp → Prop, (∀ H', Nx H' → ∃ m', m' < m ∧ W (i + 1) m' H') ∧ ∀ x H', (Itr lo n).yld i H x H' → gName j x (wipe σ vs) H' fun σ2 H2 => wipe σ2 vs = wipe σ vs ∧ tYes σ2 H2 fun b H3 =>
        if b = true then te σ2 H3 fun y H4 => ∃ acc, H4 D = some (.lst acc) ∧ acc.length < sizeLine ∧ Nx (upd H4 D (.lst (acc ++ [y]))) else Nx H3) :=
  lc_range (lo := lo) (n := n) (Cw p H1 D C) (cw0 i1 hD (c0 _)) (fun i H' hi w => ⟨hw _, cw_turn (A := A i) st w (by omega) (fun o => he i o hi) fun acc y H2 o g2 i2 hl c2 ay => hc i acc y H2 o hi g2 i2 hl c2 ay⟩) hd
theorem lcR1 {n : Int} (hn0 : 0 ≤ n) (hn : n < 16000000) (C : Nat → List V → Hp → Prop) (hx : Ev p ta σ H (sx (.int n))) (st : ∀ D o i acc H1 H2, Gr (p.and D o) H1 H2 → C i acc H1 → C i acc H2) (st' : ∀ acc H1 H2, Gr p H1 H2 → C n.toNat acc H1 → C n.toNat acc H2)
    (hw : ∀ x, wipe ((wipe σ vs).set j (some x)) vs = wipe σ vs) (c0 : ∀ H1, C 0 [] H1)
    (he : ∀ (i : Nat) D o H1, Gr p H H1 → H1 D = none → i < n.toNat → Ev (p.and D o) te ((wipe σ vs).set j (some (.int (0 + (i : Nat))))) H1 (A i (p.and D o)))
    (hc : ∀ i acc y H2 D o, i < n.toNat → Gr p H H2 → Iv (p.and D o) H2 → acc.length = i → C i acc H2 → (A i (p.and D o)).P y H2 → C (i + 1) (acc ++ [y]) H2) :
    Ev p (tLc (iRng1 (tCons ta tNil)) (gName j) tYes te vs) σ H (sC C n.toNat st') := fun H0 i0 g0 Q q =>
  hx H0 i0 g0 _ fun v H1 i1 g1 e => ⟨n, by rw [show v = .int n from e], by omega, by omega, fun D hD => lcR (lo := 0) (A := A) C (st D) (by omega) hw c0 i1 hD (fun i o hi => he i D o H1 (g0.trans g1) hD hi) (fun i acc y H2 o hi g2 i2 hl c2 ay => hc i acc y H2 D o hi ((g0.trans g1).trans g2) i2 hl c2 ay)
    fun H' w => q _ H' w.1 (g1.trans w.2.2.2.1) (by obtain ⟨_, _, nD, _, acc, ha, hl, c⟩ := w; exact ⟨D, acc, rfl, nD, ha, hl, c⟩)⟩
end

/-! ### defs by their names -/
/-- a def of the module that may be called by its name: it keeps the promise sp, by at most level k -/
structure Ca (P : Program) (w : World) (K : PySem.W.Frag) (mg : Str → Option Value) (base : Heap) (k : Nat) (x : Str) (sp : Sp) : Prop where
  ex : ∃ (f : Addr) (fd : FuncData) (ps : List Str), FnOk P w K mg base CX0 k f fd ps sp ∧ mg x = some (.ref f) ∧ PySem.W.keepIn K (.ref f) = true ∧ Binds K fd ps []
/-- a def as the top leaves it -/
structure Df (K : PySem.W.Frag) (mg : Str → Option Value) (x : Str) (st : Stmt) : Prop where
  ex : ∃ (f : Addr) (fd : FuncData), Fun K x x st f fd ∧ mg x = some (.ref f)
section
variable {X : Cx} {k : Nat} {x : Str} {sp : Sp} {p pos : Pos} {e : Expr} {es : List Expr} {t : TA}
theorem pe_ca (c : Ca X.prog X.w X.K X.mg X.base k x sp) (hr : Room k X.A) (hg : Gl X x) (ha : PA X (e :: es) t)
    (hdb : (x == ("__debug__" : Str)) = false := by decide) (he : starEach (e :: es) X.env = (false, eval e X.env) :: starEach es X.env := by rfl) (hpl : (backTo pos (starEach es X.env)).any (·.1) = false := by rfl) :
    PE X (.Call (.Name x p) (e :: es) [] pos) (tCall sp [] E0 t) := by
  obtain ⟨f, fd, ps, F, hm, kp, b⟩ := c.ex
  exact pe_call F hr hg hm kp b .nil pass0 ha hdb he hpl
theorem pe_ca0 (c : Ca X.prog X.w X.K X.mg X.base k x sp) (hr : Room k X.A) (hg : Gl X x) (hdb : (x == ("__debug__" : Str)) = false := by decide) : PE X (.Call (.Name x p) [] [] pos) (tCall sp [] E0 tNil) := by
  obtain ⟨f, fd, ps, F, hm, kp, b⟩ := c.ex
  exact pe_call0 F hr hg hm kp b .nil pass0 hdb
end
section
variable {P : Program} {w : World} {K : PySem.W.Frag} {mg : Str → Option Value} {base : Heap}
theorem ca_mk {x : Str} {st : Stmt} {N ps : List Str} {k : Nat} {sp : Sp} (F : Df K mg x st) (S : FnScope N ps (defScope st))
    (hb : ∀ (kV doc pm : Value) (an : Option Addr) (cdv ct : Value) (us : List Value), us.length = ps.length → bindArgs (PySem.W.fnOf x x (defArgs st) (defBody st) (defScope st) .none kV doc pm an cdv ct) ⟨us, []⟩ = pure (ps.zip us))
    (len : ∀ vs H Q E, sp vs H Q E → vs.length = ps.length)
    (hbody : ∀ (f : Addr) (cdv : Value) (A : Around) (outer : List Env) (s : Shared) (H : Hp) (vs : List V) (Q : VK) (E : XK), Room k (A.deeper (envOfC x (defScope st) s.heap.objs.size f cdv)) → sp vs H Q E →
      ∃ t, PSs (cxOf CX0 P w K mg base N x (defScope st) f cdv A outer s H E).nox (defBody st) t ∧ t { nx := fun _ H' => Q .non H', rt := Q } (start N vs) H) : Ca P w K mg base (k + 1) x sp := by
  obtain ⟨f, fd, F, hm⟩ := F.ex
  exact ⟨f, fd, ps, F.ok S len (fun cdv A outer s H vs Q E hr h => hbody f cdv A outer s H vs Q E hr h), hm, F.kp, F.binds hb⟩
end
end Hk
namespace Hk
open PySem PySem.Spec PyProof.Rows L2

def rLenK (K : PySem.W.Frag) : List V → Hp → VK → Prop := fun xs H Q => ∃ x n, xs = [x] ∧ LenV K x H n ∧ Q (.int n) H
section
variable {p : Vo} {σ : L2.St} {H : Hp} {K : PySem.W.Frag} {te ta tb tc : TE} {tr : TA} {j : Nat} {vs : List Nat} {B C : Sy p} {v x y : V}
/-! ### comprehensions with known items -/
theorem take_turn {ys acc : List V} {i : Nat} {y : V} (h : acc = ys.take i) (hy : ys[i]? = some y) : acc ++ [y] = ys.take (i + 1) := by
  rw [h, List.take_add_one, hy]
  rfl
theorem slx_of {ys : List V} {n : Nat} (hn : n = ys.length) {st} {v : V} {H1 : Hp} (h : (sC (p := p) (fun i acc _ => acc = ys.take i) n st).P v H1) : (slx (p := p) ys).P v H1 := by
  obtain ⟨a, ws, e1, e2, e3, e4, e5⟩ := h
  refine ⟨a, ws, e1, e2, e3, ?_⟩
  rw [e5, hn, List.take_length]
theorem lcSx {z : Str} (f : Nat → V) (hx : Ev p ta σ H (sx (.str z))) (hz : z.cps.size < 16000000) (hw : ∀ x, wipe ((wipe σ vs).set j (some x)) vs = wipe σ vs)
    (he : ∀ (c : Nat) (q : Vo) H1, c ∈ z.cps.toList → Ev q te ((wipe σ vs).set j (some (.str ⟨#[c]⟩))) H1 (sx (f c))) : Ev p (tLc (iStr ta) (gName j) tYes te vs) σ H (slx (z.cps.toList.map f)) :=
  (lcS (A := fun i q => ⟨fun y _ => (z.cps.toList.map f)[i]? = some y, fun _ _ _ _ h => h⟩) (fun i acc _ => acc = (z.cps.toList.map f).take i) hx hz (fun _ _ _ _ _ _ _ h => h) (fun _ _ _ _ h => h) hw (fun _ => rfl)
    (fun i c D o hi => (he c _ H (List.mem_of_getElem? hi)).imp fun y _ e => by rw [show y = f c from e, List.getElem?_map, hi]; rfl) (fun i c acc y H1 D o hi g iv hl ha hy => take_turn ha hy)).imp fun v H1 h => slx_of (by rw [List.length_map, Array.length_toList]) h
theorem lcTx {xs ys : List V} (hx : Ev p ta σ H B) (hB : ∀ v H1, Gr p H H1 → B.P v H1 → ∃ a, v = .ref a ∧ Nv p a ∧ H1 a = some (.tup xs)) (hz : xs.length < 16000000) (hl : ys.length = xs.length) (hw : ∀ x, wipe ((wipe σ vs).set j (some x)) vs = wipe σ vs)
    (he : ∀ (i : Nat) (x y : V) D o H1, Gr p H H1 → H1 D = none → xs[i]? = some x → ys[i]? = some y → Ev (p.and D o) te ((wipe σ vs).set j (some x)) H1 (sx y)) : Ev p (tLc (iTup K ta) (gName j) tYes te vs) σ H (slx ys) :=
  (lcT (A := fun i q => ⟨fun y _ => ys[i]? = some y, fun _ _ _ _ h => h⟩) (fun i acc _ => acc = ys.take i) hx hB hz (fun _ _ _ _ _ _ _ h => h) (fun _ _ _ _ h => h) hw (fun _ => rfl)
    (fun i x D o H1 g hD hi => by
      have h2 : i < ys.length := by rw [hl]; exact (List.getElem?_eq_some_iff.mp hi).1
      exact (he i x ys[i] D o H1 g hD hi (List.getElem?_eq_getElem h2)).imp fun y _ e => by rw [show y = ys[i] from e]; exact List.getElem?_eq_getElem h2) (fun i c acc y H1 D o hi g iv hl ha hy => take_turn ha hy)).imp fun v H1 h => slx_of hl.symm h
theorem lcLx {xs ys : List V} (hx : Ev p ta σ H B) (hB : ∀ v H1, Gr p H H1 → B.P v H1 → ∃ a, v = .ref a ∧ Nv p a ∧ H1 a = some (.lst xs)) (hz : xs.length < 16000000) (hl : ys.length = xs.length) (hw : ∀ x, wipe ((wipe σ vs).set j (some x)) vs = wipe σ vs)
    (he : ∀ (i : Nat) (x y : V) D o H1, Gr p H H1 → H1 D = none → xs[i]? = some x → ys[i]? = some y → Ev (p.and D o) te ((wipe σ vs).set j (some x)) H1 (sx y)) : Ev p (tLc (iList K ta) (gName j) tYes te vs) σ H (slx ys) :=
  (lcL (A := fun i q => ⟨fun y _ => ys[i]? = some y, fun _ _ _ _ h => h⟩) (fun i acc _ => acc = ys.take i) hx hB hz (fun _ _ _ _ _ _ _ h => h) (fun _ _ _ _ h => h) hw (fun _ => rfl)
    (fun i x D o H1 g hD hi => by
      have h2 : i < ys.length := by rw [hl]; exact (List.getElem?_eq_some_iff.mp hi).1
      exact (he i x ys[i] D o H1 g hD hi (List.getElem?_eq_getElem h2)).imp fun y _ e => by rw [show y = ys[i] from e]; exact List.getElem?_eq_getElem h2) (fun i c acc y H1 D o hi g iv hl ha hy => take_turn ha hy)).imp fun v H1 h => slx_of hl.symm h
theorem x_all {bs : List Bool} (h : Ev p ta σ H (slx (bs.map V.bl))) : Ev p (tCB (rAll K) (tCons ta tNil)) σ H (sx (.bl (bs.all id))) := e_cb (a_cons h a_nil) fun vs H1 iv g os => by
  obtain ⟨v, ws, rfl, ⟨a, zs, rfl, na, ha, rfl⟩, rfl⟩ := os
  exact rv iv rfl fun Q q => ⟨a, bs, rfl, SqL.of ha, q⟩

/-! ### operations on known values -/
theorem x_inS {c : Nat} {z : Str} (ha : Ev p ta σ H (sx (.str ⟨#[c]⟩))) (hb : Ev p tb σ H (sx (.str z))) : Ev p (tOp (rInU K) ta tb) σ H (sx (.bl (decide (c ∈ z.cps.toList)))) :=
  e_op ha hb fun x y H1 iv g ex ey => rv iv rfl fun Q q => .inl ⟨c, z, ex, ey, q⟩
/-- x in, not in a list or a tuple of flat things -/
theorem x_inQ {xs : List V} (ha : Ev p ta σ H (sx v)) (hv : flatV v = true) (hb : Ev p tb σ H B) (hB : ∀ v H1, Gr p H H1 → B.P v H1 → ∃ a, v = .ref a ∧ (SqL K H1 a xs ∨ SqT K H1 a xs)) (hf : xs.all flatV = true) : Ev p (tOp (rInU K) ta tb) σ H (sx (.bl (inV v xs))) :=
  e_op ha hb fun x y H1 iv g ex ey => by
    obtain ⟨a, rfl, h⟩ := hB y H1 g ey
    obtain rfl : x = v := ex
    exact rv iv rfl fun Q q => .inr ⟨a, xs, rfl, h, hv, hf, q⟩
theorem x_ninQ {xs : List V} (ha : Ev p ta σ H (sx v)) (hv : flatV v = true) (hb : Ev p tb σ H B) (hB : ∀ v H1, Gr p H H1 → B.P v H1 → ∃ a, v = .ref a ∧ (SqL K H1 a xs ∨ SqT K H1 a xs)) (hf : xs.all flatV = true) : Ev p (tOp (rNinU K) ta tb) σ H (sx (.bl (!inV v xs))) :=
  e_op ha hb fun x y H1 iv g ex ey => by
    obtain ⟨a, rfl, h⟩ := hB y H1 g ey
    obtain rfl : x = v := ex
    exact rv iv rfl fun Q q => .inr ⟨a, xs, rfl, h, hv, hf, q⟩
theorem x_eq (ha : Ev p ta σ H (sx x)) (hb : Ev p tb σ H (sx y)) (hs : scal x y = true) : Ev p (tOp rEq ta tb) σ H (sx (.bl (decide (x = y)))) :=
  e_op ha hb fun x' y' H1 iv g ex ey => by
    obtain rfl : x' = x := ex
    obtain rfl : y' = y := ey
    exact rv iv rfl fun Q q => ⟨hs, q⟩
theorem x_ne (ha : Ev p ta σ H (sx x)) (hb : Ev p tb σ H (sx y)) (hs : scal x y = true) : Ev p (tOp rNe ta tb) σ H (sx (.bl (!decide (x = y)))) :=
  e_op ha hb fun x' y' H1 iv g ex ey => by
    obtain rfl : x' = x := ex
    obtain rfl : y' = y := ey
    exact rv iv rfl fun Q q => ⟨hs, q⟩
theorem x_ii {g : Int → Int → V} {i j : Int} (ha : Ev p ta σ H (sx (.int i))) (hb : Ev p tb σ H (sx (.int j))) : Ev p (tOp (rI0 g) ta tb) σ H (sx (g i j)) :=
  e_op ha hb fun x' y' H1 iv gg ex ey => rv iv rfl fun Q q => ⟨i, j, ex, ey, q⟩
theorem x_ic {c : Int → Int → Prop} {g : Int → Int → V} {i j : Int} (ha : Ev p ta σ H (sx (.int i))) (hb : Ev p tb σ H (sx (.int j))) (hc : c i j) : Ev p (tOp (rI c g) ta tb) σ H (sx (g i j)) :=
  e_op ha hb fun x' y' H1 iv gg ex ey => rv iv rfl fun Q q => ⟨i, j, ex, ey, hc, q⟩
theorem x_addI {i j : Int} (ha : Ev p ta σ H (sx (.int i))) (hb : Ev p tb σ H (sx (.int j))) : Ev p (tOp rAddU ta tb) σ H (sx (.int (i + j))) :=
  e_op ha hb fun x' y' H1 iv gg ex ey => rv iv rfl fun Q q => .inl ⟨i, j, ex, ey, q⟩
theorem x_addS {i j : Str} (ha : Ev p ta σ H (sx (.str i))) (hb : Ev p tb σ H (sx (.str j))) (hz : i.length + j.length ≤ sizeLine) : Ev p (tOp rAddU ta tb) σ H (sx (.str (i ++ j))) :=
  e_op ha hb fun x' y' H1 iv gg ex ey => rv iv rfl fun Q q => .inr (.inl ⟨i, j, ex, ey, hz, q⟩)
theorem x_neg {i : Int} (ha : Ev p ta σ H (sx (.int i))) : Ev p (tUn (rU fun i => .int (-i)) ta) σ H (sx (.int (-i))) := e_un ha fun x H1 iv g e => rv iv rfl fun Q q => ⟨i, e, q⟩
theorem x_len {s : Str} (ha : Ev p ta σ H (sx (.str s))) (hz : s.length ≤ sizeLine) : Ev p (tCB (rLenK K) (tCons ta tNil)) σ H (sx (.int s.length)) := e_cb (a_cons ha a_nil) fun vs H1 iv g os => by
  obtain ⟨v, ws, rfl, rfl, rfl⟩ := os
  exact rv iv rfl fun Q q => ⟨_, _, rfl, ⟨hz, rfl⟩, q⟩
theorem x_lenQ {xs : List V} (ha : Ev p ta σ H B) (hB : ∀ v H1, Gr p H H1 → B.P v H1 → ∃ a, v = .ref a ∧ (SqL K H1 a xs ∨ SqT K H1 a xs)) : Ev p (tCB (rLenK K) (tCons ta tNil)) σ H (sx (.int xs.length)) := e_cb (a_cons ha a_nil) fun vs H1 iv g os => by
  obtain ⟨v, ws, rfl, hv, rfl⟩ := os
  obtain ⟨a, rfl, h⟩ := hB v H1 g hv
  exact rv iv rfl fun Q q => ⟨_, _, rfl, h.elim (fun h => .inl ⟨xs, h, rfl⟩) fun h => .inr ⟨xs, h, rfl⟩, q⟩
theorem x_isi {a b : String} {r : Bool} (ha : Ev p ta σ H (sx v)) (ht : ∀ H1, Gr p H H1 → TyX K H1 v (.type a)) (hr : kitB a b = some r) : Ev p (tCB (rIsi K) (tCons ta (tCons (tC (.ty b)) tNil))) σ H (sx (.bl r)) :=
  e_cb (a_cons ha (a_cons e_cx a_nil)) fun vs H1 iv g os => by
    obtain ⟨v', ws, rfl, ev, c, ws', rfl, ec, rfl⟩ := os
    obtain rfl : v' = v := ev
    obtain rfl : c = .ty b := ec
    exact rv iv rfl fun Q q => ⟨_, _, _, _, _, rfl, .ty b, ht H1 g, kit_ty hr, q⟩
theorem x_isN (ha : Ev p ta σ H (sx x)) : Ev p (tOp (fun x y H Q => y = .non ∧ Q (.bl (decide (x = .non))) H) ta (tC .non)) σ H (sx (.bl (decide (x = .non)))) :=
  e_op ha e_cx fun x' y' H1 iv g ex ey => by
    obtain rfl : x' = x := ex
    exact rv iv rfl fun Q q => ⟨ey, q⟩
/-- an item of a text, of a list, of a tuple -/
theorem x_ixS {s : Str} {i : Int} {c : Nat} (ha : Ev p ta σ H (sx (.str s))) (hb : Ev p tb σ H (sx (.int i))) (hz : s.length ≤ sizeLine) (hc : atI s.cps.toList i = some c) : Ev p (tOp (rIx K) ta tb) σ H (sx (.str ⟨#[c]⟩)) :=
  e_op ha hb fun x' y' H1 iv g ex ey => rv iv rfl fun Q q => .inr (.inr ⟨s, i, c, ex, ey, hz, hc, q⟩)
theorem x_ixQ {xs : List V} {i : Int} (ha : Ev p ta σ H B) (hB : ∀ v H1, Gr p H H1 → B.P v H1 → ∃ a, v = .ref a ∧ (SqL K H1 a xs ∨ SqT K H1 a xs)) (hb : Ev p tb σ H (sx (.int i))) (hc : atI xs i = some v) : Ev p (tOp (rIx K) ta tb) σ H (sx v) :=
  e_op ha hb fun x' y' H1 iv g ex ey => by
    obtain ⟨a, rfl, h⟩ := hB x' H1 g ex
    exact rv iv rfl fun Q q => h.elim (fun h => .inl ⟨a, xs, i, v, rfl, ey, h, hc, q⟩) fun h => .inr (.inl ⟨a, xs, i, v, rfl, ey, h, hc, q⟩)
/-- a part of a text -/
theorem x_slS {s : Str} {tl th : TO} {lo hi : Option Int} (ha : Ev p ta σ H (sx (.str s))) (hl : ∀ H (Q : Option Int → Hp → Prop), Q lo H → tl σ H Q) (hh : ∀ H (Q : Option Int → Hp → Prop), Q hi H → th σ H Q) (hz : s.length ≤ sizeLine) : Ev p (tSl (rSlU K) ta tl th) σ H (sx (.str (cutS s lo hi))) :=
  fun H1 i g Q q => ha H1 i g _ fun v H2 i2 g2 e => hl H2 _ (hh H2 _ (.inr ⟨s, e, hz, q _ H2 i2 g2 rfl⟩))
/-- a part of a tuple, not the whole of it: a new one -/
theorem x_slT {xs : List V} {tl th : TO} {lo hi : Option Int} (ha : Ev p ta σ H B) (hB : ∀ v H1, Gr p H H1 → B.P v H1 → ∃ a, v = .ref a ∧ SqT K H1 a xs) (hl : ∀ H (Q : Option Int → Hp → Prop), Q lo H → tl σ H Q) (hh : ∀ H (Q : Option Int → Hp → Prop), Q hi H → th σ H Q) (hn : ¬ (HT.sIx xs.length 0 lo = 0 ∧ HT.sIx xs.length xs.length hi = xs.length)) :
    Ev p (tSl (rSlU K) ta tl th) σ H (stx (cutV xs lo hi)) :=
  fun H1 i g Q q => ha H1 i g _ fun v H2 i2 g2 e => by
    obtain ⟨a, rfl, h⟩ := hB v H2 (g.trans g2) e
    exact hl H2 _ (hh H2 _ (.inl ⟨a, xs, rfl, h, hn, fun b hb => q _ _ (i2.new hb) (g2.trans (Gr.new hb)) ⟨b, _, rfl, i2.ne hb, upd_same, rfl⟩⟩))
theorem o_none {H : Hp} {Q : Option Int → Hp → Prop} (q : Q none H) : tNoPart σ H Q := q
theorem o_int {i : Int} {H : Hp} {Q : Option Int → Hp → Prop} (q : Q (some i) H) : tPart (tC (.int i)) σ H Q := ⟨i, rfl, q⟩
theorem o_var {i : Int} {k : Nat} (h : σ[k]? = some (some (.int i))) {H : Hp} {Q : Option Int → Hp → Prop} (q : Q (some i) H) : tPart (tVar k) σ H Q := ⟨.int i, h, i, rfl, q⟩
/-- a display, its items known -/
def xs_ : List V → List (Sy p) := List.map sx
theorem oks_x : ∀ {ws vs : List V} {H : Hp}, Oks (p := p) (ws.map sx) vs H → vs = ws
  | [], _, _, h => h
  | w :: ws, _, _, ⟨v, us, h1, h2, h3⟩ => by rw [h1, oks_x h3, show v = w from h2]
theorem x_lst {ws : List V} (h : EvA p tr σ H (ws.map sx)) (hn : ws.length ≤ sizeLine) : Ev p (tLst tr) σ H (slx ws) := e_lst h (by rw [List.length_map]; exact hn) fun vs a H1 iv g os na ha => ⟨a, vs, rfl, na, ha, oks_x os⟩
theorem x_tup {ws : List V} (h : EvA p tr σ H (ws.map sx)) (hn : ws.length ≤ sizeLine) : Ev p (tTup tr) σ H (stx ws) := e_tup h (by rw [List.length_map]; exact hn) fun vs a H1 iv g os na ha => ⟨a, vs, rfl, na, ha, oks_x os⟩
/-- a call of a def that keeps all: its answer known -/
def Pu (sp : Sp) (vs : List V) (H : Hp) (v : V) : Prop := ∀ (Q : VK) (E : XK), (∀ H', Gr Vo.non H H' → Q v H') → sp vs H Q E
theorem x_call {sp : Sp} {ws : List V} {v : V} (h : EvA p tr σ H (ws.map sx)) (hs : ∀ H1, Gr p H H1 → Pu sp ws H1 v) : Ev p (tCall sp [] E0 tr) σ H (sx v) := e_call h fun vs H1 iv g os => by
  rw [oks_x os]
  exact fun Q q => hs H1 g Q E0 fun H' e => q v H' (iv.grow e) e.pure rfl
theorem sq_l {xs : List V} : ∀ v H1, Gr p H H1 → (slx (p := p) xs).P v H1 → ∃ a, v = .ref a ∧ (SqL K H1 a xs ∨ SqT K H1 a xs) := fun v H1 _ ⟨a, ws, e1, _, e3, e4⟩ => ⟨a, e1, .inl (SqL.of (by rw [e3, e4]))⟩
theorem sq_t {xs : List V} : ∀ v H1, Gr p H H1 → (stx (p := p) xs).P v H1 → ∃ a, v = .ref a ∧ (SqL K H1 a xs ∨ SqT K H1 a xs) := fun v H1 _ ⟨a, ws, e1, _, e3, e4⟩ => ⟨a, e1, .inr (SqT.of (by rw [e3, e4]))⟩
theorem sq_k {xs : List V} {a : Addr} (h : ∀ H, SqT K H a xs) : ∀ v H1, Gr p H H1 → (sx (p := p) (.ref a)).P v H1 → ∃ a, v = .ref a ∧ (SqL K H1 a xs ∨ SqT K H1 a xs) := fun v H1 _ e => ⟨a, e, .inr (h H1)⟩
theorem sq_h {xs : List V} {a : Addr} (n : Nv p a) (h : H a = some (.tup xs)) : ∀ v H1, Gr p H H1 → (sx (p := p) (.ref a)).P v H1 → ∃ a, v = .ref a ∧ (SqL K H1 a xs ∨ SqT K H1 a xs) := fun v H1 g e => ⟨a, e, .inr (SqT.of (g a _ n h))⟩
end

/-! ### data -/
inductive D where
  | non | bl (b : Bool) | int (i : Int) | str (s : Str) | tup (ds : List D) | lst | dct
inductive Dat (p : Vo) (H : Hp) : V → D → Prop
  | non : Dat p H .non .non
  | bl (b : Bool) : Dat p H (.bl b) (.bl b)
  | int (i : Int) : Dat p H (.int i) (.int i)
  | str (s : Str) (hz : s.length ≤ 100000) : Dat p H (.str s) (.str s)
  | tup {a : Addr} {vs : List V} {ds : List D} (n : Nv p a) (h : H a = some (.tup vs)) (l : vs.length = ds.length) (hz : vs.length ≤ 100000) (r : ∀ (i : Nat) (v : V) (d : D), vs[i]? = some v → ds[i]? = some d → Dat p H v d) : Dat p H (.ref a) (.tup ds)
  | lst {a : Addr} {vs : List V} (n : Nv p a) (h : H a = some (.lst vs)) : Dat p H (.ref a) .lst
  | dct {a : Addr} {kvs : List (Key × V)} (n : Nv p a) (h : H a = some (.dK kvs)) : Dat p H (.ref a) .dct
theorem Dat.gr {p : Vo} {H H' : Hp} {v : V} {d : D} (x : Dat p H v d) (g : Gr p H H') : Dat p H' v d := by
  induction x with
  | non => exact .non
  | bl b => exact .bl b
  | int i => exact .int i
  | str s hz => exact .str s hz
  | tup n h l hz r ih => exact .tup n (g _ _ n h) l hz ih
  | lst n h => exact .lst n (g _ _ n h)
  | dct n h => exact .dct n (g _ _ n h)
theorem Dat.of {p q : Vo} {H : Hp} {v : V} {d : D} (x : Dat p H v d) (k : ∀ a, Nv p a → Nv q a) : Dat q H v d := by
  induction x with
  | non => exact .non
  | bl b => exact .bl b
  | int i => exact .int i
  | str s hz => exact .str s hz
  | tup n h l hz r ih => exact .tup (k _ n) h l hz ih
  | lst n h => exact .lst (k _ n) h
  | dct n h => exact .dct (k _ n) h
theorem Dat.non' {p : Vo} {H : Hp} {v : V} {d : D} (x : Dat p H v d) : Dat Vo.non H v d := x.of fun a _ => nv_non a
theorem Dat.and {p : Vo} {H : Hp} {v : V} {d : D} {E : Addr} {o : HO} (x : Dat p H v d) (e : H E = none) : Dat (p.and E o) H v d := by
  induction x with
  | non => exact .non
  | bl b => exact .bl b
  | int i => exact .int i
  | str s hz => exact .str s hz
  | tup n h l hz r ih => exact .tup (n.and (ne_of_none h e).symm) h l hz ih
  | lst n h => exact .lst (n.and (ne_of_none h e).symm) h
  | dct n h => exact .dct (n.and (ne_of_none h e).symm) h
theorem Dat.back {p : Vo} {H : Hp} {v : V} {d : D} {E : Addr} {o : HO} (x : Dat (p.and E o) H v d) : Dat p H v d := x.of fun a n => n.back
def D.ty : D → String
  | .non => "NoneType"
  | .bl _ => "bool"
  | .int _ => "int"
  | .str _ => "str"
  | .tup _ => "tuple"
  | .lst => "list"
  | .dct => "dict"
theorem Dat.tyx {p : Vo} {K : PySem.W.Frag} {H : Hp} {v : V} {d : D} (x : Dat p H v d) : TyX K H v (.type d.ty) := by
  cases x with
  | non => exact .base .non
  | bl b => exact .base (.bl b)
  | int i => exact .base (.int i)
  | str s hz => exact .base (.str s)
  | tup n h l hz r => exact .base (.tup h)
  | lst n h => exact .base (.lst h)
  | dct n h => exact .base (.dK h)
def D.isS : D → Bool
  | .str _ => true
  | _ => false
def D.isT : D → Bool
  | .tup _ => true
  | _ => false
def D.isB : D → Bool
  | .bl _ => true
  | _ => false
def D.isI : D → Bool
  | .int _ => true
  | .bl _ => true
  | _ => false
theorem kit_s (d : D) : kitB d.ty "str" = some d.isS := by cases d <;> (simp only [D.ty, D.isS]; decide +kernel)
theorem kit_t (d : D) : kitB d.ty "tuple" = some d.isT := by cases d <;> (simp only [D.ty, D.isT]; decide +kernel)
theorem kit_b (d : D) : kitB d.ty "bool" = some d.isB := by cases d <;> (simp only [D.ty, D.isB]; decide +kernel)
theorem kit_i (d : D) : kitB d.ty "int" = some d.isI := by cases d <;> (simp only [D.ty, D.isI]; decide +kernel)
/-- some datum | this datum -/
def sd (p : Vo) : Sy p := ⟨fun v H => ∃ d, Dat p H v d, fun v H H' g ⟨d, h⟩ => ⟨d, h.gr g⟩⟩
theorem x_isiD {p : Vo} {σ : L2.St} {H : Hp} {K : PySem.W.Frag} {ta : TE} {v : V} {d : D} {b : String} {r : Bool} (ha : Ev p ta σ H (sx v)) (hd : Dat p H v d) (hr : kitB d.ty b = some r) : Ev p (tCB (rIsi K) (tCons ta (tCons (tC (.ty b)) tNil))) σ H (sx (.bl r)) :=
  x_isi ha (fun H1 g => (hd.gr g).tyx) hr
end Hk
namespace Hk
open PySem PySem.Spec PyProof.Rows L2
section
variable {p : Vo} {σ : L2.St} {H : Hp} {K : PySem.W.Frag} {te ta tb tc : TE} {tr : TA} {j : Nat} {vs : List Nat} {B C : Sy p} {v x y : V}
theorem allS {z : Str} (f : Nat → Bool) (hx : Ev p ta σ H (sx (.str z))) (hz : z.length ≤ 100000) (hw : ∀ x, wipe ((wipe σ vs).set j (some x)) vs = wipe σ vs)
    (he : ∀ (c : Nat) (q : Vo) H1, c ∈ z.cps.toList → Ev q te ((wipe σ vs).set j (some (.str ⟨#[c]⟩))) H1 (sx (.bl (f c)))) : Ev p (tCB (rAll K) (tCons (tLc (iStr ta) (gName j) tYes te vs) tNil)) σ H (sx (.bl (z.cps.toList.all f))) := by
  have h := lcSx (vs := vs) (j := j) (te := te) (fun c => .bl (f c)) hx (by have : z.cps.size ≤ 100000 := hz; omega) hw he
  have e : z.cps.toList.map (fun c => V.bl (f c)) = (z.cps.toList.map f).map V.bl := by rw [List.map_map] <;> rfl
  rw [e] at h
  refine x_to (x_all h) ?_
  rw [List.all_map] <;> rfl
theorem allT {xs : List V} {ds : List D} (f : D → Bool) (hx : Ev p ta σ H B) (hB : ∀ v H1, Gr p H H1 → B.P v H1 → ∃ a, v = .ref a ∧ Nv p a ∧ H1 a = some (.tup xs)) (hz : xs.length ≤ 100000) (hl : xs.length = ds.length) (hw : ∀ x, wipe ((wipe σ vs).set j (some x)) vs = wipe σ vs)
    (he : ∀ (i : Nat) (x : V) (d : D) E o H1, Gr p H H1 → H1 E = none → xs[i]? = some x → ds[i]? = some d → Ev (p.and E o) te ((wipe σ vs).set j (some x)) H1 (sx (.bl (f d)))) : Ev p (tCB (rAll K) (tCons (tLc (iTup K ta) (gName j) tYes te vs) tNil)) σ H (sx (.bl (ds.all f))) := by
  have h := lcTx (K := K) (vs := vs) (j := j) (te := te) (ys := (ds.map f).map V.bl) hx hB (by omega) (by rw [List.length_map, List.length_map, hl]) hw fun i x y E o H1 g hE h1 h2 => by
    rw [List.getElem?_map, List.getElem?_map] at h2
    cases hd : ds[i]? with
    | none => rw [hd] at h2; cases h2
    | some d =>
      rw [hd] at h2
      have e : V.bl (f d) = y := Option.some.inj h2
      rw [← e]
      exact he i x d E o H1 g hE h1 hd
  refine x_to (x_all h) ?_
  rw [List.all_map] <;> rfl
theorem allL {xs : List V} {ds : List D} (f : D → Bool) (hx : Ev p ta σ H B) (hB : ∀ v H1, Gr p H H1 → B.P v H1 → ∃ a, v = .ref a ∧ Nv p a ∧ H1 a = some (.lst xs)) (hz : xs.length ≤ 100000) (hl : xs.length = ds.length) (hw : ∀ x, wipe ((wipe σ vs).set j (some x)) vs = wipe σ vs)
    (he : ∀ (i : Nat) (x : V) (d : D) E o H1, Gr p H H1 → H1 E = none → xs[i]? = some x → ds[i]? = some d → Ev (p.and E o) te ((wipe σ vs).set j (some x)) H1 (sx (.bl (f d)))) : Ev p (tCB (rAll K) (tCons (tLc (iList K ta) (gName j) tYes te vs) tNil)) σ H (sx (.bl (ds.all f))) := by
  have h := lcLx (K := K) (vs := vs) (j := j) (te := te) (ys := (ds.map f).map V.bl) hx hB (by omega) (by rw [List.length_map, List.length_map, hl]) hw fun i x y E o H1 g hE h1 h2 => by
    rw [List.getElem?_map, List.getElem?_map] at h2
    cases hd : ds[i]? with
    | none => rw [hd] at h2; cases h2
    | some d =>
      rw [hd] at h2
      have e : V.bl (f d) = y := Option.some.inj h2
      rw [← e]
      exact he i x d E o H1 g hE h1 hd
  refine x_to (x_all h) ?_
  rw [List.all_map] <;> rfl
theorem big {n : Nat} (h : n ≤ 100000) : n ≤ sizeLine := by rw [sizeLine_eq]; omega
theorem x_leI {i j : Int} (ha : Ev p ta σ H (sx (.int i))) (hb : Ev p tb σ H (sx (.int j))) : Ev p (tOp rLeU ta tb) σ H (sx (.bl (decide (i ≤ j)))) :=
  e_op ha hb fun x' y' H1 iv gg ex ey => rv iv rfl fun Q q => .inl ⟨i, j, ex, ey, q⟩
theorem x_leS {i j : Str} (ha : Ev p ta σ H (sx (.str i))) (hb : Ev p tb σ H (sx (.str j))) : Ev p (tOp rLeU ta tb) σ H (sx (.bl (!decide (j.cps.toList < i.cps.toList)))) :=
  e_op ha hb fun x' y' H1 iv gg ex ey => rv iv rfl fun Q q => .inr ⟨i, j, ex, ey, q⟩
/-- chains over known values -/
theorem x_chainI {r r' : R2} {i j k : Int} {g g' : Int → Int → Bool} (ha : Ev p ta σ H (sx (.int i))) (hb : Ev p tb σ H (sx (.int j))) (hc : Ev p tc σ H (sx (.int k)))
    (hr : ∀ H1, Iv p H1 → Rv p (r (.int i) (.int j)) H1 (sx (.bl (g i j)))) (hr' : ∀ H1, Iv p H1 → Rv p (r' (.int j) (.int k)) H1 (sx (.bl (g' j k)))) : Ev p (tChain r r' ta tb tc) σ H (sx (.bl (g i j && g' j k))) :=
  x_chain ha hb (fun _ => hc) (fun x y H1 iv gg ex ey => by rw [show x = _ from ex, show y = _ from ey]; exact hr H1 iv) fun _ y z H1 iv gg ey ez => by rw [show y = _ from ey, show z = _ from ez]; exact hr' H1 iv
theorem r_leI {i j : Int} {H1 : Hp} (iv : Iv p H1) : Rv p (rLeU (.int i) (.int j)) H1 (sx (.bl (decide (i ≤ j)))) := rv iv rfl fun Q q => .inl ⟨i, j, rfl, rfl, q⟩
theorem r_ltI {i j : Int} {H1 : Hp} (iv : Iv p H1) : Rv p (rI0 (fun i j => .bl (decide (i < j))) (.int i) (.int j)) H1 (sx (.bl (decide (i < j)))) := rv iv rfl fun Q q => ⟨i, j, rfl, rfl, q⟩
theorem r_leS {i j : Str} {H1 : Hp} (iv : Iv p H1) : Rv p (rLeU (.str i) (.str j)) H1 (sx (.bl (!decide (j.cps.toList < i.cps.toList)))) := rv iv rfl fun Q q => .inr ⟨i, j, rfl, rfl, q⟩
theorem x_chainS {r r' : R2} {i j k : Str} {g g' : Str → Str → Bool} (ha : Ev p ta σ H (sx (.str i))) (hb : Ev p tb σ H (sx (.str j))) (hc : Ev p tc σ H (sx (.str k)))
    (hr : ∀ H1, Iv p H1 → Rv p (r (.str i) (.str j)) H1 (sx (.bl (g i j)))) (hr' : ∀ H1, Iv p H1 → Rv p (r' (.str j) (.str k)) H1 (sx (.bl (g' j k)))) : Ev p (tChain r r' ta tb tc) σ H (sx (.bl (g i j && g' j k))) :=
  x_chain ha hb (fun _ => hc) (fun x y H1 iv gg ex ey => by rw [show x = _ from ex, show y = _ from ey]; exact hr H1 iv) fun _ y z H1 iv gg ey ez => by rw [show y = _ from ey, show z = _ from ez]; exact hr' H1 iv
/-- a chain as a test -/
theorem k_chain {r r' : R2} {a b : Bool} (h : Ev p (tChain r r' ta tb tc) σ H (sx (.bl (a && b)))) : Tis p (tTest (tChain r r' ta tb tc)) σ H (a && b) := k_test h
theorem x_ord {c : Nat} (ha : Ev p ta σ H (sx (.str ⟨#[c]⟩))) : Ev p (tCB (fun xs H Q => ∃ x : Str, xs = [.str x] ∧ x.length = 1 ∧ Q (.int (x.cps.getD 0 0 : Nat)) H) (tCons ta tNil)) σ H (sx (.int c)) := e_cb (a_cons ha a_nil) fun vs H1 iv g os => by
  obtain ⟨v, ws, rfl, rfl, rfl⟩ := os
  exact rv iv rfl fun Q q => ⟨⟨#[c]⟩, rfl, rfl, q⟩
/-- the ways of an if that end with a return each -/
theorem s_ifr {D : Ends} {t : TT} {te : TE} {b : Bool} {v : V} (iv : Iv p H) (h : Tis p t σ H b) (h1 : b = true → Ev p te σ H (sx v)) (k1 : b = true → ∀ H1, Iv p H1 → Gr p H H1 → D.rt v H1) (k2 : b = false → ∀ H1, Iv p H1 → Gr p H H1 → D.nx σ H1) : tIfS t (tRet te) tNext D σ H :=
  s_ifx iv h (fun e H1 i g => s_ret i ((h1 e).mono g) fun w H2 i2 g2 ew => by rw [show w = v from ew]; exact k1 e H2 i2 (g.trans g2)) fun e H1 i g => k2 e H1 i g
theorem s_retx {D : Ends} {te : TE} {v : V} (iv : Iv p H) (h : Ev p te σ H (sx v)) (k : ∀ H1, Iv p H1 → Gr p H H1 → D.rt v H1) : tRet te D σ H := s_ret iv h fun w H1 i g e => by rw [show w = v from e]; exact k H1 i g
/-- the same with what follows -/
theorem q_ifr {D : Ends} {t : TT} {te : TE} {u : TS} {b : Bool} {v : V} (iv : Iv p H) (h : Tis p t σ H b) (h1 : b = true → Ev p te σ H (sx v)) (k1 : b = true → ∀ H1, Iv p H1 → Gr p H H1 → D.rt v H1) (k2 : b = false → ∀ H1, Iv p H1 → Gr p H H1 → u D σ H1) : tSeq (tIfS t (tRet te) tNext) u D σ H :=
  s_ifr (D := { D with nx := u D }) iv h h1 k1 k2
theorem q_ifS {D : Ends} {t : TT} {te : TE} {u : TS} {b : Bool} {A : Sy p} (iv : Iv p H) (h : Tis p t σ H b) (h1 : b = true → Ev p te σ H A) (k1 : b = true → ∀ v H1, Iv p H1 → Gr p H H1 → A.P v H1 → D.rt v H1) (k2 : b = false → ∀ H1, Iv p H1 → Gr p H H1 → u D σ H1) : tSeq (tIfS t (tRet te) tNext) u D σ H :=
  s_ifx (D := { D with nx := u D }) iv h (fun e H1 i g => s_ret i ((h1 e).mono g) fun w H2 i2 g2 ew => k1 e w H2 i2 (g.trans g2) ew) fun e H1 i g => k2 e H1 i g
theorem q_asg {D : Ends} {te : TE} {u : TS} {i : Nat} {A : Sy p} (iv : Iv p H) (h : Ev p te σ H A) (k : ∀ v H1, Iv p H1 → Gr p H H1 → A.P v H1 → u D (σ.set i (some v)) H1) : tSeq (tAsg te (gName i)) u D σ H :=
  s_asg (D := { D with nx := u D }) iv h k
theorem q_asgx {D : Ends} {te : TE} {u : TS} {i : Nat} {v : V} (iv : Iv p H) (h : Ev p te σ H (sx v)) (k : ∀ H1, Iv p H1 → Gr p H H1 → u D (σ.set i (some v)) H1) : tSeq (tAsg te (gName i)) u D σ H :=
  q_asg iv h fun w H1 i g e => by rw [show w = v from e]; exact k H1 i g
theorem q_if {D : Ends} {t : TT} {tu tw u : TS} {B : Bool → Prop} (iv : Iv p H) (h : EvT p t σ H B) (h1 : B true → ∀ H1, Iv p H1 → Gr p H H1 → tu { D with nx := u D } σ H1) (h2 : B false → ∀ H1, Iv p H1 → Gr p H H1 → tw { D with nx := u D } σ H1) : tSeq (tIfS t tu tw) u D σ H :=
  s_if (D := { D with nx := u D }) iv h h1 h2
end

/-! ### the rules that read the written part, with it by name -/
section
variable {X : Cx} {K : PySem.W.Frag}
theorem inU (h : X.K = K) : OpR X (compareOp .In) (rInU K) := h ▸ op_inU
theorem ninU (h : X.K = K) : OpR X (compareOp .NotIn) (rNinU K) := h ▸ op_ninU
theorem slU (h : X.K = K) : SlR X (rSlU K) := h ▸ sl_U
theorem ixU (h : X.K = K) : IxR X (rIx K) := h ▸ ix_seq
theorem lenU (h : X.K = K) : CallR X (.builtin "len") (rLenK K) := h ▸ call_len
theorem isiU (h : X.K = K) : CallR X (.builtin "isinstance") (rIsi K) := h ▸ call_isi
theorem allU (hc : X.calm = true) (h : X.K = K) : CallR X (.builtin "all") (rAll K) := h ▸ cr_all hc
theorem sortedU (h : X.K = K) : CallR X (.builtin "sorted") (rSortedS K) := h ▸ cr_sortedS
def rTupK (K : PySem.W.Frag) : List V → Hp → VK → Prop := fun xs H Q => ∃ p ys, xs = [.ref p] ∧ ((SqL K H p ys ∧ ∀ l, H l = none → Q (.ref l) (upd H l (.tup ys))) ∨ (SqT K H p ys ∧ Q (.ref p) H))
theorem tupU (h : X.K = K) : CallR X (.type "tuple") (rTupK K) := h ▸ call_tuple_of
theorem reprK (hg : X.A.guards = some []) (hu : X.A.units + 3 < cLine) (h : X.K = K) : CallR X (.builtin "repr") (rRepr K) := h ▸ call_reprU hg hu
end

/-- a constant of the module, by what it holds -/
theorem pe_gc {X : Cx} {x : Str} {v : V} {pos : Pos} (hg : Gl X x) (h : ∃ u, X.mg x = some u ∧ RelV v u) (hd : (x == ("__debug__" : Str)) = false := by decide) : PE X (.Name x pos) (tC v) := by
  obtain ⟨u, hm, r⟩ := h
  exact pe_glob hg hm r hd
end Hk
namespace Hk
open PySem PySem.Spec PyProof.Rows L2
/-! ### defs that draw from the pot: promised over whatever else may change -/
def spP (Ar : Addr → List V → Vo → Hp → Prop) (A : List V → ∀ p : Vo, Sy p) : Sp := fun vs H Q _ => ∃ p a, p.pot = some a ∧ Iv p H ∧ Ar a vs p H ∧ ∀ v H', Iv p H' → Gr p H H' → (A vs p).P v H' → Q v H'
section
variable {p : Vo} {σ : L2.St} {H : Hp} {K : PySem.W.Frag} {te ta tb tc : TE} {tr : TA} {j : Nat} {vs : List Nat} {A B C : Sy p} {v x y : V} {a : Addr}
theorem e_callP {Ar : Addr → List V → Vo → Hp → Prop} {F : List V → ∀ p : Vo, Sy p} {As : List (Sy p)} (hp : p.pot = some a) (h : EvA p tr σ H As) (ho : ∀ vs H1, Gr p H H1 → Iv p H1 → Oks As vs H1 → Ar a vs p H1 ∧ ∀ v H2, (F vs p).P v H2 → B.P v H2) : Ev p (tCall (spP Ar F) [] E0 tr) σ H B := e_call h fun vs H1 iv g os Q q => by
  obtain ⟨h1, h2⟩ := ho vs H1 g iv os
  exact ⟨p, a, hp, iv, h1, fun v H' i' g' h' => q v H' i' g' (h2 v H' h')⟩
/-- a draw below n -/
def arD : Addr → List V → Vo → Hp → Prop := fun a vs _ _ => ∃ n : Int, vs = [.ref a, .int n] ∧ 0 < n ∧ n < 1073741824
def rsD : List V → ∀ p : Vo, Sy p := fun vs p => si fun r => ∃ n, vs[1]? = some (.int n) ∧ 0 ≤ r ∧ r < n
abbrev spDraw : Sp := spP arD rsD
theorem e_draw {c : Int → Prop} (hp : p.pot = some a) (ha : Ev p ta σ H (sx (.ref a))) (hb : Ev p tb σ H (si c)) (hc : ∀ n, c n → 0 < n ∧ n < 1073741824) : Ev p (tCall spDraw [] E0 (tCons ta (tCons tb tNil))) σ H (si fun r => ∃ n, c n ∧ 0 ≤ r ∧ r < n) :=
  e_callP hp (a_cons ha (a_cons hb a_nil)) fun vs H1 g iv os => by
    obtain ⟨v, ws, rfl, ev, v2, ws2, rfl, ⟨n, rfl, hn⟩, rfl⟩ := os
    obtain rfl : v = .ref a := ev
    refine ⟨⟨n, rfl, (hc n hn).1, (hc n hn).2⟩, fun w H2 ⟨r, e, m, em, h0, h1⟩ => ⟨r, e, n, hn, h0, ?_⟩⟩
    have : V.int n = .int m := Option.some.inj em
    cases this
    exact h1
theorem e_drawN {n : Int} (hp : p.pot = some a) (ha : Ev p ta σ H (sx (.ref a))) (hb : Ev p tb σ H (sx (.int n))) (h0 : 0 < n) (h1 : n < 1073741824) : Ev p (tCall spDraw [] E0 (tCons ta (tCons tb tNil))) σ H (si fun r => 0 ≤ r ∧ r < n) :=
  (e_draw (c := fun m => m = n) hp ha (hb.imp fun v _ e => ⟨n, e, rfl⟩) fun m e => by rw [e]; exact ⟨h0, h1⟩).imp fun v _ ⟨r, e, m, em, h⟩ => ⟨r, e, by rw [← em]; exact h⟩
/-! ### items by a drawn place -/
theorem at_of {α : Type} {xs : List α} {i : Int} {k : Nat} {v : α} (e : i = (k : Int)) (h : xs[k]? = some v) : atI xs i = some v := by
  rw [e]
  exact atI_nat h
theorem at_in {ws : List V} {i : Int} (h0 : 0 ≤ i) (h1 : i < (ws.length : Int)) : ∃ v ∈ ws, atI ws i = some v := by
  have hk : i.toNat < ws.length := by omega
  exact ⟨ws[i.toNat], List.getElem_mem hk, at_of (k := i.toNat) (by omega) (List.getElem?_eq_getElem hk)⟩
theorem e_ixL {n : Int} {P : List V → Hp → Prop} {hP} (ha : Ev p ta σ H (sl P hP)) (hb : Ev p tb σ H (si fun r => 0 ≤ r ∧ r < n)) (hn : ∀ ws H1, P ws H1 → n ≤ (ws.length : Int)) (hv : ∀ ws v H1, P ws H1 → v ∈ ws → C.P v H1) : Ev p (tOp (rIx K) ta tb) σ H C :=
  e_op ha hb fun x y H1 iv g ⟨b, ws, e, nb, hb, hw⟩ ⟨i, ei, h0, h1⟩ => by
    obtain ⟨v, hm, hat⟩ := at_in h0 (show i < (ws.length : Int) by have := hn ws H1 hw; omega)
    exact rv iv (hv ws v H1 hw hm) fun Q q => .inl ⟨b, ws, i, v, e, ei, SqL.of hb, hat, q⟩
theorem e_ixS {n : Int} {s : Str} (ha : Ev p ta σ H (sx (.str s))) (hb : Ev p tb σ H (si fun r => 0 ≤ r ∧ r < n)) (hn : n ≤ (s.length : Int)) (hz : s.length ≤ 100000) : Ev p (tOp (rIx K) ta tb) σ H (ss fun z => z.length = 1) :=
  e_op ha hb fun x y H1 iv g ex ⟨i, ei, h0, h1⟩ => by
    have el : s.cps.toList.length = s.length := by rw [Array.length_toList]; rfl
    have hk : i.toNat < s.cps.toList.length := by omega
    have hat : atI s.cps.toList i = some s.cps.toList[i.toNat] := at_of (k := i.toNat) (by omega) (List.getElem?_eq_getElem hk)
    exact rv iv ⟨_, rfl, rfl⟩ fun Q q => .inr (.inr ⟨s, i, _, ex, ei, big hz, hat, q⟩)
theorem e_addS {c d : Nat} (ha : Ev p ta σ H (ss fun z => z.length ≤ c)) (hb : Ev p tb σ H (ss fun z => z.length ≤ d)) (hz : c + d ≤ 100000) : Ev p (tOp rAddU ta tb) σ H (ss fun z => z.length ≤ c + d) :=
  e_op ha hb fun x y H1 iv g ⟨z, ez, hz1⟩ ⟨z', ez', hz2⟩ => rv iv ⟨z ++ z', rfl, by show (z ++ z').length ≤ c + d; rw [Str.length_append]; exact Nat.add_le_add hz1 hz2⟩ fun Q q => .inr (.inl ⟨z, z', ez, ez', big (Nat.le_trans (Nat.add_le_add hz1 hz2) hz), q⟩)
theorem e_slS {s : Str} {tl th : TO} {lo hi : Option Int} (ha : Ev p ta σ H (sx (.str s))) (hl : ∀ H (Q : Option Int → Hp → Prop), Q lo H → tl σ H Q) (hh : ∀ H (Q : Option Int → Hp → Prop), Q hi H → th σ H Q) (hz : s.length ≤ 100000) : Ev p (tSl (rSlU K) ta tl th) σ H (ss fun z => z.length ≤ s.length) :=
  (x_slS ha hl hh (big hz)).imp fun v _ e => ⟨_, e, by
    unfold cutS
    show (((s.cps.toList.drop _).take _).toArray).size ≤ _
    rw [List.size_toArray, List.length_take, List.length_drop, Array.length_toList]
    exact Nat.le_trans (Nat.min_le_right _ _) (Nat.sub_le _ _)⟩
theorem e_ssx {s : Str} {c : Str → Prop} (h : Ev p ta σ H (sx (.str s))) (hc : c s) : Ev p ta σ H (ss c) := h.imp fun v _ e => ⟨s, e, hc⟩
theorem e_sxi {i : Int} {c : Int → Prop} (h : Ev p ta σ H (sx (.int i))) (hc : c i) : Ev p ta σ H (si c) := h.imp fun v _ e => ⟨i, e, hc⟩
theorem e_addI {c d e : Int → Prop} (ha : Ev p ta σ H (si c)) (hb : Ev p tb σ H (si d)) (hc : ∀ i j, c i → d j → e (i + j)) : Ev p (tOp rAddU ta tb) σ H (si e) :=
  e_op ha hb fun x y H1 iv g ⟨i, ei, hi⟩ ⟨j, ej, hj⟩ => rv iv ⟨i + j, rfl, hc i j hi hj⟩ fun Q q => .inl ⟨i, j, ei, ej, q⟩
/-! ### data, many -/
/-- a list of n data -/
def slD (p : Vo) (c : Nat → Prop) : Sy p := sl (fun ws H => c ws.length ∧ ∀ v ∈ ws, (sd p).P v H) fun ws H H' e h => ⟨h.1, fun v hv => (sd p).st v H H' e (h.2 v hv)⟩
def EvD (p : Vo) (ta : TA) (σ : L2.St) (H : Hp) (n : Nat) : Prop := ∀ H1, Iv p H1 → Gr p H H1 → ∀ Q : List V → Hp → Prop, (∀ vs H2, Iv p H2 → Gr p H1 H2 → vs.length = n → (∀ v ∈ vs, (sd p).P v H2) → Q vs H2) → ta σ H1 Q
theorem d_nil : EvD p tNil σ H 0 := fun H1 i _ _ q => q [] H1 i (Gr.refl H1) rfl fun v h => (nomatch h)
theorem d_cons {n : Nat} (h : Ev p te σ H (sd p)) (hr : EvD p tr σ H n) : EvD p (tCons te tr) σ H (n + 1) := fun H1 i g Q q =>
  h H1 i g _ fun x H2 i2 g2 ax => hr H2 i2 (g.trans g2) _ fun vs H3 i3 g3 hl os => q (x :: vs) H3 i3 (g2.trans g3) (by rw [List.length_cons, hl]) fun v hv => by
    rcases List.mem_cons.mp hv with e | e
    · rw [e]
      exact (sd p).st x _ _ g3 ax
    · exact os v e
theorem ds_of {H : Hp} : ∀ {ws : List V}, (∀ v ∈ ws, ∃ d, Dat p H v d) → ∃ ds : List D, ws.length = ds.length ∧ ∀ (i : Nat) (v : V) (d : D), ws[i]? = some v → ds[i]? = some d → Dat p H v d
  | [], _ => ⟨[], rfl, fun i v d h => by cases h⟩
  | w :: ws, h => by
    obtain ⟨d0, h0⟩ := h w List.mem_cons_self
    obtain ⟨ds, hl, hr⟩ := ds_of (ws := ws) fun v hv => h v (List.mem_cons_of_mem _ hv)
    refine ⟨d0 :: ds, by rw [List.length_cons, List.length_cons, hl], fun i v d h1 h2 => ?_⟩
    cases i with
    | zero =>
      have e1 : w = v := Option.some.inj h1
      have e2 : d0 = d := Option.some.inj h2
      rw [← e1, ← e2]
      exact h0
    | succ i => exact hr i v d h1 h2
theorem d_lst {n : Nat} (h : EvD p tr σ H n) (hn : n ≤ 100000) : Ev p (tLst tr) σ H (slD p fun m => m = n) := fun H1 i g Q q =>
  h H1 i g _ fun vs H2 i2 g2 hl os => ⟨by rw [hl]; exact big hn, fun b hb => q _ _ (i2.new hb) (g2.trans (Gr.new hb)) ⟨b, vs, rfl, i2.ne hb, upd_same, hl, fun v hv => (sd p).st v _ _ (Gr.new hb) (os v hv)⟩⟩
theorem d_tup {n : Nat} (h : EvD p tr σ H n) (hn : n ≤ 100000) : Ev p (tTup tr) σ H (sd p) := fun H1 i g Q q =>
  h H1 i g _ fun vs H2 i2 g2 hl os => ⟨by rw [hl]; exact big hn, fun b hb => q _ _ (i2.new hb) (g2.trans (Gr.new hb)) (by
    obtain ⟨ds, l, r⟩ := ds_of os
    exact ⟨.tup ds, .tup (i2.ne hb) upd_same l (by omega) fun i v d h1 h2 => (r i v d h1 h2).gr (Gr.new hb)⟩)⟩
theorem d_int {i : Int} (h : Ev p te σ H (sx (.int i))) : Ev p te σ H (sd p) := h.imp fun v H e => ⟨.int i, by rw [show v = _ from e]; exact .int i⟩
theorem d_c {v : V} {d : D} (h : ∀ H, Dat p H v d) : Ev p (tC v) σ H (sd p) := e_c ⟨d, h H⟩
theorem d_i {i : Int} : Ev p (tC (.int i)) σ H (sd p) := d_c fun H => .int i
theorem d_b {b : Bool} : Ev p (tC (.bl b)) σ H (sd p) := d_c fun H => .bl b
theorem d_n : Ev p (tC .non) σ H (sd p) := d_c fun H => .non
theorem d_s {s : Str} (hz : s.length ≤ 100000) : Ev p (tC (.str s)) σ H (sd p) := d_c fun H => .str s hz
theorem d_ss {c : Nat} (h : Ev p te σ H (ss fun z => z.length ≤ c)) (hc : c ≤ 100000) : Ev p te σ H (sd p) := h.imp fun v H ⟨z, e, hz⟩ => ⟨.str z, by rw [e]; exact .str z (by omega)⟩
theorem d_l {n : Nat} (h : EvD p tr σ H n) (hn : n ≤ 100000) : Ev p (tLst tr) σ H (sd p) := (d_lst h hn).imp fun v H ⟨b, ws, e, nb, hb, _⟩ => ⟨.lst, by rw [e]; exact .lst nb hb⟩
theorem d_cat {c d e : Nat → Prop} (ha : Ev p ta σ H (slD p c)) (hb : Ev p tb σ H (slD p d)) (hc : ∀ n m, c n → d m → e (n + m) ∧ n + m ≤ 100000) : Ev p (tOp rAddU ta tb) σ H (slD p e) :=
  e_op ha hb fun x y H1 iv g ⟨b, ws, e1, nb, h1, hl, hw⟩ ⟨b', ws', e2, nb', h2, hl', hw'⟩ => rv_new iv (o := .lst (ws ++ ws')) (fun q nq hq i' g' => ⟨q, _, rfl, nq, upd_same, by rw [List.length_append]; exact (hc _ _ hl hl').1, fun v hv => by
    rcases List.mem_append.mp hv with m | m
    · exact (sd p).st v _ _ g' (hw v m)
    · exact (sd p).st v _ _ g' (hw' v m)⟩) fun Q q => .inr (.inr ⟨b, b', ws, ws', e1, e2, h1, h2, big (hc _ _ hl hl').2, q⟩)
theorem d_ix {n : Int} {c : Nat → Prop} (ha : Ev p ta σ H (slD p c)) (hb : Ev p tb σ H (si fun r => 0 ≤ r ∧ r < n)) (hn : ∀ m, c m → n ≤ (m : Int)) : Ev p (tOp (rIx K) ta tb) σ H (sd p) :=
  e_ixL ha hb (fun ws H1 h => hn _ h.1) fun ws v H1 h m => h.2 v m
theorem d_tuple {c : Nat → Prop} (ha : Ev p ta σ H (slD p c)) (hc : ∀ m, c m → m ≤ 100000) : Ev p (tCB (rTupK K) (tCons ta tNil)) σ H (sd p) := e_cb (a_cons ha a_nil) fun vs H1 iv g os => by
  obtain ⟨v, us, rfl, ⟨b, ws, rfl, nb, h1, hl, hw⟩, rfl⟩ := os
  refine rv_new iv (o := .tup ws) (fun q nq hq i' g' => ?_) fun Q q => ⟨b, ws, rfl, .inl ⟨SqL.of h1, q⟩⟩
  obtain ⟨ds, l, r⟩ := ds_of hw
  exact ⟨.tup ds, .tup nq upd_same l (hc _ hl) fun i v d h1 h2 => (r i v d h1 h2).gr g'⟩
theorem d_var {i : Nat} (h : σ[i]? = some (some v)) (a : (sd p).P v H) : Ev p (tVar i) σ H (sd p) := e_var h a
/-- a comprehension over a range whose items are data -/
theorem d_lcR {N : Nat} (hx : Ev p ta σ H (si fun n => 0 ≤ n ∧ n ≤ (N : Int))) (hN : N ≤ 100000) (hw : ∀ x, wipe ((wipe σ vs).set j (some x)) vs = wipe σ vs)
    (he : ∀ (i : Nat) D o H1, Gr p H H1 → H1 D = none → Ev (p.and D o) te ((wipe σ vs).set j (some (.int (0 + (i : Nat))))) H1 (sd (p.and D o))) : Ev p (tLc (iRng1 (tCons ta tNil)) (gName j) tYes te vs) σ H (slD p fun m => m ≤ N) := fun H0 i0 g0 Q q =>
  hx H0 i0 g0 _ fun v H1 i1 g1 ⟨n, ev, n0, n1⟩ => ⟨n, by rw [ev], by omega, by omega, fun D hD => lcR (lo := 0) (A := fun _ q => sd q) (fun _ acc H => ∀ v ∈ acc, ∃ d, Dat (p.and D (.lst [])) H v d) (fun o i acc H2 H3 g h v hv => by
      obtain ⟨d, hd⟩ := h v hv
      exact ⟨d, (Dat.gr (hd.of fun b (nb : Nv (p.and D (.lst [])) b) => (nb.back.and nb.ne : Nv (p.and D o) b)) g).of fun b (nb : Nv (p.and D o) b) => nb.back.and nb.ne⟩)
    (by omega) hw (fun _ v h => (nomatch h)) i1 hD (fun i o hi => he i D o H1 (g0.trans g1) hD) (fun i acc y H2 o hi g2 i2 hl ha hy v hv => by
      rcases List.mem_append.mp hv with m | m
      · exact ha v m
      · obtain rfl := List.mem_singleton.mp m
        obtain ⟨d, hd⟩ := hy
        exact ⟨d, hd.of fun b (nb : Nv (p.and D o) b) => nb.back.and nb.ne⟩)
    fun H' w => q _ H' w.1 (g1.trans w.2.2.2.1) (by
      obtain ⟨_, _, nD, _, acc, ha, hl, c⟩ := w
      exact ⟨D, acc, rfl, nD, ha, by omega, fun v hv => by obtain ⟨d, hd⟩ := c v hv; exact ⟨d, hd.back⟩⟩)⟩
/-- .. whose items are texts of one sign -/
theorem s_lcR {N : Nat} {P : Str → Prop} (hx : Ev p ta σ H (si fun n => 0 ≤ n ∧ n ≤ (N : Int))) (hN : N ≤ 100000) (hw : ∀ x, wipe ((wipe σ vs).set j (some x)) vs = wipe σ vs)
    (he : ∀ (i : Nat) D o H1, Gr p H H1 → H1 D = none → Ev (p.and D o) te ((wipe σ vs).set j (some (.int (0 + (i : Nat))))) H1 (ss P)) : Ev p (tLc (iRng1 (tCons ta tNil)) (gName j) tYes te vs) σ H (sl (fun ws _ => ws.length ≤ N ∧ ∃ zs : List Str, ws = zs.map V.str ∧ ∀ z ∈ zs, P z) fun _ _ _ _ h => h) := fun H0 i0 g0 Q q =>
  hx H0 i0 g0 _ fun v H1 i1 g1 ⟨n, ev, n0, n1⟩ => ⟨n, by rw [ev], by omega, by omega, fun D hD => lcR (lo := 0) (A := fun _ q => ss P) (fun _ acc _ => ∃ zs : List Str, acc = zs.map V.str ∧ ∀ z ∈ zs, P z) (fun o i acc H2 H3 g h => h)
    (by omega) hw (fun _ => ⟨[], rfl, fun z h => (nomatch h)⟩) i1 hD (fun i o hi => he i D o H1 (g0.trans g1) hD) (fun i acc y H2 o hi g2 i2 hl ha hy => by
      obtain ⟨zs, rfl, hz⟩ := ha
      obtain ⟨z, rfl, hp⟩ := hy
      exact ⟨zs ++ [z], by rw [List.map_append]; rfl, fun t ht => (List.mem_append.mp ht).elim (hz t) fun m => by rw [List.mem_singleton.mp m]; exact hp⟩)
    fun H' w => q _ H' w.1 (g1.trans w.2.2.2.1) (by
      obtain ⟨_, _, nD, _, acc, ha, hl, c⟩ := w
      exact ⟨D, acc, rfl, nD, ha, by omega, c⟩)⟩
/-- a new list is handed back: it was not there -/
theorem s_retN {D : Ends} {As : List (Sy p)} (iv : Iv p H) (h : EvA p tr σ H As) (hn : As.length ≤ 100000) (k : ∀ vs b H1, Iv p H1 → Gr p H H1 → H1 b = none → Oks As vs H1 → D.rt (.ref b) (upd H1 b (.lst vs))) : tRet (tLst tr) D σ H :=
  h H iv (Gr.refl H) _ fun vs H1 i1 g1 os => ⟨by rw [os.len]; exact big hn, fun b hb => k vs b H1 i1 g1 hb os⟩
/-- an if that only stores, what follows proved once -/
theorem q_ifj {D : Ends} {t : TT} {tu u : TS} {B : Bool → Prop} (Mid : L2.St → Hp → Prop) (iv : Iv p H) (h : EvT p t σ H B) (h1 : ∀ N : L2.St → Hp → Prop, (∀ σ' H', Mid σ' H' → N σ' H') → B true → ∀ H1, Iv p H1 → Gr p H H1 → tu { D with nx := N } σ H1) (h2 : B false → ∀ H1, Iv p H1 → Gr p H H1 → Mid σ H1) (k : ∀ σ' H', Mid σ' H' → u D σ' H') : tSeq (tIfS t tu tNext) u D σ H :=
  s_if (D := { D with nx := u D }) iv h (fun b H1 i g => h1 (u D) k b H1 i g) fun b H1 i g => k _ _ (h2 b H1 i g)
end
end Hk
namespace Hk
open PySem PySem.Spec PyProof.Rows L2
/-! ### promises that hold where nothing is being shown (repr marks what it stands in): no guard around -/
structure FnG (P : Program) (w : World) (K : PySem.W.Frag) (mg : Str → Option Value) (base : Heap) (k : Nat) (f : Addr) (fd : FuncData) (ps : List Str) (sp : Sp) : Prop where
  len : ∀ vs H Q E, sp vs H Q E → vs.length = ps.length
  run : ∀ (A : Around) (st : List Env) (s : Shared) (H : Hp) (ag : Args) (us : List Value) (vs : List V) (Q : VK) (E : XK), A.guards = some [] → Room k A → Env0 P w K mg base A st s H → BindsTo s fd ag (ps.zip us) → Vals vs us → sp vs H Q E →
    codeAny (model P w) A (.call (.ref f) ag) (CR CX0 st P w H s Q E) s
section
variable {P : Program} {w : World} {K : PySem.W.Frag} {mg : Str → Option Value} {base : Heap} {k : Nat}
theorem fnG_mk {x q : Str} {st : Stmt} {f : Addr} {fd : FuncData} {N ps : List Str} {sp : Sp} (F : Fun K x q st f fd) (S : FnScope N ps (defScope st)) (len : ∀ vs H Q E, sp vs H Q E → vs.length = ps.length)
    (body : ∀ (cdv : Value) (A : Around) (outer : List Env) (s : Shared) (H : Hp) (vs : List V) (Q : VK) (E : XK), (A.deeper (envOfC q (defScope st) s.heap.objs.size f cdv)).guards = some [] → Room k (A.deeper (envOfC q (defScope st) s.heap.objs.size f cdv)) → sp vs H Q E →
      ∃ t, PSs (cxOf CX0 P w K mg base N q (defScope st) f cdv A outer s H E).nox (defBody st) t ∧ t { nx := fun _ H' => Q .non H', rt := Q } (start N vs) H) : FnG P w K mg base (k + 1) f fd ps sp := by
  obtain ⟨oc, od, kV, doc, pm, an, cdv, ct, osl, rfl, lk, hcd⟩ := F.ex
  constructor
  · exact len
  intro A outer s H ag us vs Q E hgd room e0 hb rel hsp
  have inK : K.In s.heap := e0.mod.kin.keeps fun b o z => (e0.bs b o z).1
  have kinds : ∀ y ∈ ps.zip us, (defScope st).names.lookup y.1 = some .local ∨ ((defScope st).names.lookup y.1 = some .cell ∧ ((cellsFrom (s.heap.objs.size + 1) (defScope st).names []).lookup y.1).isSome = true) := by
    rintro ⟨n, v⟩ hy
    exact (S.par n (List.of_mem_zip hy).1).elim Or.inl fun z => Or.inr ⟨z, PySem.W.cellsFrom_some _ _ _ (.inl z)⟩
  apply codeAny_call_function room.depth (inK _ _ lk) rfl S.co S.gen rfl (PySem.W.codeRec_of inK hcd) (hb _ _ _ _ ?_)
  apply wpAny_newFunctionEnv_cells S.kind kinds
  intro env henv s1 ent
  cases henv
  have nolim : s.heap.NoLimit := e0.mod.nolimit.keeps fun b o z => (e0.bs b o z).1
  refine And.intro (nolim.keeps ent.toInCall.keep) (codeAny_func ?_)
  obtain ⟨t, pt, tq⟩ := body cdv A outer s H vs Q E hgd (room.deeper _) hsp
  have inv := inv_start (CX := CX0) (E := E) S room.hd e0 (len _ _ _ _ hsp) rel ent
  refine wpAny_mono (pt.nox.run [] s1 (start N vs) H _ inv tq) ?_ (fun e s' z => z)
  intro fl s' z
  match fl, z with
  | .ret u, ⟨v, σ', H', J, rv, qq⟩ => exact ⟨v, H', J.os, J.bare, J.base, J.hok, rv, qq⟩
  | .next, ⟨σ', H', J, qq⟩ => exact ⟨V.non, H', J.os, J.bare, J.base, J.hok, rfl, qq⟩
  | .brk, ⟨_, _, _, qq⟩ => exact qq.elim
  | .cont, ⟨_, _, _, qq⟩ => exact qq.elim
/-- such a def, by its name -/
structure CaG (P : Program) (w : World) (K : PySem.W.Frag) (mg : Str → Option Value) (base : Heap) (k : Nat) (x : Str) (sp : Sp) : Prop where
  ex : ∃ (f : Addr) (fd : FuncData) (ps : List Str), FnG P w K mg base k f fd ps sp ∧ mg x = some (.ref f) ∧ PySem.W.keepIn K (.ref f) = true ∧ Binds K fd ps []
theorem caG_mk {x : Str} {st : Stmt} {N ps : List Str} {sp : Sp} (F : Df K mg x st) (S : FnScope N ps (defScope st))
    (hb : ∀ (kV doc pm : Value) (an : Option Addr) (cdv ct : Value) (us : List Value), us.length = ps.length → bindArgs (PySem.W.fnOf x x (defArgs st) (defBody st) (defScope st) .none kV doc pm an cdv ct) ⟨us, []⟩ = pure (ps.zip us))
    (len : ∀ vs H Q E, sp vs H Q E → vs.length = ps.length)
    (body : ∀ (f : Addr) (cdv : Value) (A : Around) (outer : List Env) (s : Shared) (H : Hp) (vs : List V) (Q : VK) (E : XK), (A.deeper (envOfC x (defScope st) s.heap.objs.size f cdv)).guards = some [] → Room k (A.deeper (envOfC x (defScope st) s.heap.objs.size f cdv)) → sp vs H Q E →
      ∃ t, PSs (cxOf CX0 P w K mg base N x (defScope st) f cdv A outer s H E).nox (defBody st) t ∧ t { nx := fun _ H' => Q .non H', rt := Q } (start N vs) H) : CaG P w K mg base (k + 1) x sp := by
  obtain ⟨f, fd, F, hm⟩ := F.ex
  exact ⟨f, fd, ps, fnG_mk F S len fun cdv A outer s H vs Q E hgd hr h => body f cdv A outer s H vs Q E hgd hr h, hm, F.kp, F.binds hb⟩
end
section
variable {X : Cx} {k : Nat} {x : Str} {sp : Sp} {p pos : Pos} {e : Expr} {es : List Expr} {t : TA}
theorem pe_cg (c : CaG X.prog X.w X.K X.mg X.base k x sp) (hgd : X.A.guards = some []) (hr : Room k X.A) (hg : Gl X x) (ha : PA X (e :: es) t)
    (hdb : (x == ("__debug__" : Str)) = false := by decide) (he : starEach (e :: es) X.env = (false, eval e X.env) :: starEach es X.env := by rfl) (hpl : (backTo pos (starEach es X.env)).any (·.1) = false := by rfl) :
    PE X (.Call (.Name x p) (e :: es) [] pos) (tCall sp [] E0 t) := by
  obtain ⟨f, fd, ps, F, hm, kp, b⟩ := c.ex
  constructor
  intro pins s σ H Q I h
  refine wpAny_Call_Name_kw (ld_glob I hg hm ?_ hdb)
  apply PySem.W.callWith_K (h₀ := X.base) I.ok.mod.kin kp _ he hpl
  refine thn (ha.run pos pins s σ H _ I h) ?_
  rintro us s1 ⟨vs, H1, I1, rel, qq⟩
  refine ⟨I1.kIn, wpAny_call (codeAny_mono (F.run X.A X.stack s1 H1 ⟨us, []⟩ (us ++ []) (vs ++ []) Q E0 hgd hr I1.env0 (b s1 us I1.kIn ?_) (rel.append .nil) qq) ?_)⟩
  · have := F.len _ _ _ _ qq
    rw [← this, List.length_append, List.length_append, rel.length]
    rfl
  · intro r s' z
    match r, z with
    | .error e, z => exact z.elim
    | .ok (.ret u), z => exact I1.after z
    | .ok .next, z => exact z.elim
    | .ok .brk, z => exact z.elim
    | .ok .cont, z => exact z.elim
end
end Hk
namespace Hk
open PySem PySem.Spec PyProof.Rows L2
/-! ### values of tuples within tuples: repr, == -/
inductive Py (p : Vo) (H : Hp) : V → PyData → Prop
  | non : Py p H .non .none
  | bl (b : Bool) : Py p H (.bl b) (.bool b)
  | int (i : Int) : Py p H (.int i) (.int i)
  | str (x : Str) : Py p H (.str x) (.str x)
  | tup {a : Addr} {vs : List V} {ds : List PyData} (n : Nv p a) (h : H a = some (.tup vs)) (l : vs.length = ds.length) (r : ∀ (i : Nat) (v : V) (d : PyData), vs[i]? = some v → ds[i]? = some d → Py p H v d) : Py p H (.ref a) (.tuple ds)
theorem Py.gr {p : Vo} {H H' : Hp} {v : V} {d : PyData} (x : Py p H v d) (g : Gr p H H') : Py p H' v d := by
  induction x with
  | non => exact .non
  | bl b => exact .bl b
  | int i => exact .int i
  | str s => exact .str s
  | tup n h l r ih => exact .tup n (g _ _ n h) l ih
theorem Py.of {p q : Vo} {H : Hp} {v : V} {d : PyData} (x : Py p H v d) (k : ∀ a, Nv p a → Nv q a) : Py q H v d := by
  induction x with
  | non => exact .non
  | bl b => exact .bl b
  | int i => exact .int i
  | str s => exact .str s
  | tup n h l r ih => exact .tup (k _ n) h l ih
theorem Py.non' {p : Vo} {H : Hp} {v : V} {d : PyData} (x : Py p H v d) : Py Vo.non H v d := x.of fun a _ => nv_non a
theorem Py.and {p : Vo} {H : Hp} {v : V} {d : PyData} {E : Addr} {o : HO} (x : Py p H v d) (e : H E = none) : Py (p.and E o) H v d := by
  induction x with
  | non => exact .non
  | bl b => exact .bl b
  | int i => exact .int i
  | str s => exact .str s
  | tup n h l r ih => exact .tup (n.and (ne_of_none h e).symm) h l ih
theorem Py.back {p : Vo} {H : Hp} {v : V} {d : PyData} {E : Addr} {o : HO} (x : Py (p.and E o) H v d) : Py p H v d := x.of fun a n => n.back
theorem vals_at : ∀ {vs : List V} {us : List Value} {i : Nat} {u : Value}, Vals vs us → us[i]? = some u → ∃ v, vs[i]? = some v ∧ RelV v u
  | _, _, _, _, .nil, e => by cases e
  | _, _, 0, _, .cons r k, e => ⟨_, rfl, by rw [← Option.some.inj e]; exact r⟩
  | _, _, i + 1, _, .cons r k, e => vals_at (i := i) k e
theorem readsAll_at {h : Heap} : ∀ {us : List Value} {ds : List PyData}, us.length = ds.length → (∀ (i : Nat) (u : Value) (d : PyData), us[i]? = some u → ds[i]? = some d → Reads h u d []) → ReadsAll h us ds []
  | [], [], _, _ => .nil
  | [], _ :: _, l, _ => by cases l
  | _ :: _, [], l, _ => by cases l
  | u :: us, d :: ds, l, k => .cons (as := []) (bs := []) (k 0 u d rfl rfl) (readsAll_at (by rw [List.length_cons, List.length_cons] at l; omega) fun i u' d' h1 h2 => k (i + 1) u' d' h1 h2)
section
variable {X : Cx}
theorem Py.reads {pins : List (Addr × Obj)} {s : Shared} {σ : L2.St} {p : Vo} {H : Hp} {v : V} {d : PyData} (I : Inv X pins σ H s) (x : Py p H v d) : ∀ {u : Value}, RelV v u → Reads s.heap u d [] := by
  induction x with
  | non => intro u r; cases (show u = Value.none from r); exact .none
  | bl b => intro u r; cases (show u = Value.bool b from r); exact .bool b
  | int i => intro u r; obtain ⟨t, rfl⟩ := (show ∃ t, u = Value.int i t from r); exact .int i t
  | str z => intro u r; obtain ⟨t, rfl⟩ := (show ∃ t, u = Value.str z t from r); exact .str z t
  | tup n h l r ih =>
    intro u ru
    rename_i a vs ds
    cases (show u = Value.ref a from ru)
    obtain ⟨its, rv, ⟨o, e1, e2, n, e4⟩, _⟩ := I.tuple (SqT.of h)
    refine .tuple e1 e2 e4 ?_
    rw [List.toList_toArray]
    exact readsAll_at (rv.length.symm.trans l) fun i u d h1 h2 => by
      obtain ⟨v, hv, r'⟩ := vals_at rv h1
      exact ih i v d hv h2 r'
/-- the repr of such a value -/
def rReprP : List V → Hp → VK → Prop := fun xs H Q => ∃ (v : V) (d : PyData), xs = [v] ∧ Py Vo.non H v d ∧ d.showable = true ∧ d.hasDict = false ∧ d.depth ≤ 20 ∧ d.shown.length ≤ sizeLine ∧ Q (.str d.shown) H
theorem call_reprP (hg : X.A.guards = some []) (hu : X.A.units + 64 < cLine) : CallR X (.builtin "repr") rReprP := by
  intro pins s σ H xs us Q I r h
  obtain ⟨v, d, rfl, x, h1, h2, h3, h4, q⟩ := h
  obtain ⟨u, rfl, rx⟩ := vals1 r
  have rd := x.reads I rx
  cases x with
  | non =>
    cases (show u = Value.none from rx)
    exact PySem.P.repr_of_none ⟨.str _, H, I.tok _, ⟨_, rfl⟩, q⟩
  | bl b =>
    cases (show u = Value.bool b from rx)
    exact PySem.P.repr_of_bool ⟨.str _, H, I.tok _, ⟨_, rfl⟩, q⟩
  | int i =>
    obtain ⟨t, rfl⟩ := (show ∃ t, u = Value.int i t from rx)
    exact PySem.P.repr_of_int (of_decide_eq_true (by simpa only [PyData.showable] using h1)) ⟨.str _, H, I.tok _, ⟨_, rfl⟩, by simpa only [PyData.shown] using q⟩
  | str z =>
    obtain ⟨t, rfl⟩ := (show ∃ t, u = Value.str z t from rx)
    exact PySem.P.repr_of_str ⟨.str _, H, I.tok _, ⟨_, rfl⟩, by simpa only [PyData.shown] using q⟩ (by simpa only [PyData.shown] using h4)
  | @tup a vs ds n h l r =>
    cases (show u = Value.ref a from rx)
    refine repr_of_reads' rd h1 (PyData.noDict_hsm h2) hg ?_ (fun _ _ e => e) (fun h' t tk hk => ?_) h4
    · omega
    · exact ⟨.str _, H, I.kept hk, ⟨_, rfl⟩, q⟩
/-- == and != of two such values -/
def rEqP (b : Bool) : R2 := fun x y H Q => ∃ d d' : PyData, Py Vo.non H x d ∧ Py Vo.non H y d' ∧ SeqAt.shaped d = true ∧ SeqAt.shaped d' = true ∧ Q (.bl (if b then PyData.eqv d d' else !PyData.eqv d d')) H
theorem op_eqP (hu : X.A.units + 64 < cLine) : OpR X (compareOp .Eq) (rEqP true) := by
  intro pins s σ H x y v u Q I rx ry h
  obtain ⟨d, d', h1, h2, h3, h4, q⟩ := h
  exact SeqAt.compareEq_shaped (h1.reads I rx) (h2.reads I ry) h3 h4 hu ⟨.bl _, H, I, rfl, q⟩
theorem op_neP (hu : X.A.units + 64 < cLine) : OpR X (compareOp .NotEq) (rEqP false) := by
  intro pins s σ H x y v u Q I rx ry h
  obtain ⟨d, d', h1, h2, h3, h4, q⟩ := h
  exact SeqAt.compareNe_shaped (h1.reads I rx) (h2.reads I ry) h3 h4 hu ⟨.bl _, H, I, rfl, q⟩
end
end Hk
namespace Hk
open PySem PySem.Spec PyProof.Rows L2
/-! ### wide ints; lists of values by == -/
section
variable {X : Cx}
def CFdB (_ j : Int) : Prop := j ≠ 0 ∧ j.natAbs.log2 < 9000
def rFdB : R2 := rI CFdB fun i j => .int (i.fdiv j)
def rFmB : R2 := rI (fun _ j => j ≠ 0) fun i j => .int (i.fmod j)
def rMulB : R2 := rI CMulX fun i j => .int (i * j)
theorem op_fdivB : OpR X (binaryOp .FloorDiv) rFdB := opI fun _ _ _ _ _ _ _ hc q => floordiv_int hc.1 q (.inl (PyProof.noPylong_of_log2 hc.2))
theorem op_mulB : OpR X (binaryOp .Mult) rMulB := op_mulX
theorem op_fmB : OpR X (binaryOp .Mod) rFmB := op_modN
/-- a list of values -/
structure PyL (H : Hp) (v : V) (ds : List PyData) : Prop where
  ex : ∃ a vs, v = .ref a ∧ H a = some (.lst vs) ∧ vs.length = ds.length ∧ ∀ (i : Nat) (v : V) (d : PyData), vs[i]? = some v → ds[i]? = some d → Py Vo.non H v d
theorem PyL.reads {pins : List (Addr × Obj)} {s : Shared} {σ : L2.St} {H : Hp} {v : V} {ds : List PyData} (I : Inv X pins σ H s) (x : PyL H v ds) {u : Value} (ru : RelV v u) : ∃ as, Reads s.heap u (.list ds) as := by
  obtain ⟨a, vs, rfl, h, l, r⟩ := x.ex
  cases (show u = Value.ref a from ru)
  obtain ⟨its, rv, ⟨o, n, e1, e2, _, e4⟩, _⟩ := I.list (SqL.of h)
  refine ⟨a :: [], .list e1 e2 e4 ?_⟩
  rw [List.toList_toArray]
  exact readsAll_at (rv.length.symm.trans l) fun i u d h1 h2 => by
    obtain ⟨v, hv, r'⟩ := vals_at rv h1
    exact (r i v d hv h2).reads I r'
def rEqX (b : Bool) : R2 := fun x y H Q => ∃ ds es : List PyData, PyL H x ds ∧ PyL H y es ∧ SeqAt.shaped (.list ds) = true ∧ SeqAt.shaped (.list es) = true ∧ Q (.bl (if b then PyData.eqvAll ds es else !PyData.eqvAll ds es)) H
theorem op_eqX (hu : X.A.units + 64 < cLine) : OpR X (compareOp .Eq) (rEqX true) := by
  intro pins s σ H x y v u Q I rx ry h
  obtain ⟨ds, es, h1, h2, h3, h4, q⟩ := h
  obtain ⟨as, r1⟩ := h1.reads I rx
  obtain ⟨bs, r2⟩ := h2.reads I ry
  refine SeqAt.compareEq_shaped r1 r2 h3 h4 hu ⟨.bl _, H, I, rfl, ?_⟩
  simp only [PyData.eqv]
  exact q
theorem op_neX (hu : X.A.units + 64 < cLine) : OpR X (compareOp .NotEq) (rEqX false) := by
  intro pins s σ H x y v u Q I rx ry h
  obtain ⟨ds, es, h1, h2, h3, h4, q⟩ := h
  obtain ⟨as, r1⟩ := h1.reads I rx
  obtain ⟨bs, r2⟩ := h2.reads I ry
  refine SeqAt.compareNe_shaped r1 r2 h3 h4 hu ⟨.bl _, H, I, rfl, ?_⟩
  simp only [PyData.eqv]
  exact q
end
end Hk
namespace Hk
open PySem PySem.Spec PyProof.Rows L2
/-! ### this datum; a list of just these -/
def sdx (p : Vo) (d : D) : Sy p := ⟨fun v H => Dat p H v d, fun v H H' g h => h.gr g⟩
def DatL (p : Vo) (H : Hp) (ws : List V) (ds : List D) : Prop := ws.length = ds.length ∧ ∀ (i : Nat) (v : V) (d : D), ws[i]? = some v → ds[i]? = some d → Dat p H v d
theorem DatL.gr {p : Vo} {H H' : Hp} {ws : List V} {ds : List D} (x : DatL p H ws ds) (g : Gr p H H') : DatL p H' ws ds := ⟨x.1, fun i v d h1 h2 => (x.2 i v d h1 h2).gr g⟩
theorem DatL.of {p q : Vo} {H : Hp} {ws : List V} {ds : List D} (x : DatL p H ws ds) (k : ∀ a, Nv p a → Nv q a) : DatL q H ws ds := ⟨x.1, fun i v d h1 h2 => (x.2 i v d h1 h2).of k⟩
theorem DatL.nil {p : Vo} {H : Hp} : DatL p H [] [] := ⟨rfl, fun i v d h => by cases h⟩
theorem DatL.cons {p : Vo} {H : Hp} {v : V} {d : D} {ws : List V} {ds : List D} (h : Dat p H v d) (x : DatL p H ws ds) : DatL p H (v :: ws) (d :: ds) := by
  refine ⟨by rw [List.length_cons, List.length_cons, x.1], fun i u e h1 h2 => ?_⟩
  cases i with
  | zero =>
    rw [← Option.some.inj h1, ← Option.some.inj h2]
    exact h
  | succ i => exact x.2 i u e h1 h2
def slDx (p : Vo) (ds : List D) : Sy p := sl (fun ws H => DatL p H ws ds) fun ws H H' g h => h.gr g
section
variable {p : Vo} {σ : L2.St} {H : Hp} {K : PySem.W.Frag} {te ta tb : TE} {tr : TA} {j : Nat} {vs : List Nat} {A B C : Sy p}
theorem cw_turnL {C : Nat → List V → Hp → Prop} {D : Addr} (st : ∀ o i acc H1 H2, Gr (p.and D o) H1 H2 → C i acc H1 → C i acc H2) {i : Nat} {te : TE} {σ2 : L2.St} {A : ∀ q : Vo, Sy q} {H' : Hp} (w : Cw p H D C i H') (hi : i < 16000000)
    (he : ∀ l : List V, Ev (p.and D (.lst l)) te σ2 H (A (p.and D (.lst l))))
    (hc : ∀ acc y H1 (l : List V), Gr p H H1 → Iv (p.and D (.lst l)) H1 → acc.length = i → C i acc H1 → (A (p.and D (.lst l))).P y H1 → C (i + 1) (acc ++ [y]) H1) :
    tYes σ2 H' fun b H3 => if b = true then te σ2 H3 fun y H4 => ∃ acc, H4 D = some (.lst acc) ∧ acc.length < sizeLine ∧ Cw p H D C (i + 1) (upd H4 D (.lst (acc ++ [y]))) else Cw p H D C (i + 1) H3 := by
  obtain ⟨iv, hD, nD, g, acc, ha, hl, c⟩ := w
  show te σ2 H' fun y H4 => ∃ acc, H4 D = some (.lst acc) ∧ acc.length < sizeLine ∧ Cw p H D C (i + 1) (upd H4 D (.lst (acc ++ [y])))
  have g1 : Gr (p.and D (.lst acc)) H H' := fun b o n h => g b o n.back h
  refine he acc H' (iv.and ha nD) g1 _ fun y H4 i4 g4 ay => ?_
  have aD : H4 D = some (.lst acc) := i4.ex (D, .lst acc) List.mem_cons_self
  have g5 : Gr p H' H4 := fun b o n h => by
    by_cases e : D = b
    · rw [← e] at h ⊢
      rw [ha] at h
      rw [aD, ← h]
    · exact g4 b o (n.and e) h
  have g6 : Gr (p.and D (.lst acc)) H4 (upd H4 D (.lst (acc ++ [y]))) := fun b o n h => by
    rw [upd_ne n.ne.symm]
    exact h
  refine ⟨acc, aD, by rw [sizeLine_eq]; omega, i4.back.upd nD, hD, nD, (g.trans g5).mut hD, acc ++ [y], upd_same, by rw [List.length_append, hl]; rfl, ?_⟩
  exact st (.lst acc) _ _ _ _ g6 (hc acc y H4 acc (g.trans g5) i4 hl (st (.lst acc) _ _ _ _ g4 c) ay)
/-- a comprehension over a tuple, or a list, of data whose items are data -/
theorem turns {es : List D} {g : D → D} {xs : List V} {H2 : Hp} {D' : Addr} (hl : xs.length = es.length) (hz : xs.length ≤ 100000) (i2 : Iv p H2) (hD : H2 D' = none)
    (he : ∀ (i : Nat) (x : V) (d : D) (l : List V), xs[i]? = some x → es[i]? = some d → Ev (p.and D' (.lst l)) te ((wipe σ vs).set j (some x)) H2 (sdx (p.and D' (.lst l)) (g d))) (i : Nat) (x : V) (H' : Hp) (hi : xs[i]? = some x)
    (w : Cw p H2 D' (fun _ acc H => ∀ (m : Nat) (v : V) (d : D), acc[m]? = some v → (es.map g)[m]? = some d → Dat (p.and D' (.lst [])) H v d) i H') :
    tYes ((wipe σ vs).set j (some x)) H' fun b H3 => if b = true then te ((wipe σ vs).set j (some x)) H3 fun y H4 => ∃ acc, H4 D' = some (.lst acc) ∧ acc.length < sizeLine ∧ Cw p H2 D' (fun _ acc H => ∀ (m : Nat) (v : V) (d : D), acc[m]? = some v → (es.map g)[m]? = some d → Dat (p.and D' (.lst [])) H v d) (i + 1) (upd H4 D' (.lst (acc ++ [y])))
      else Cw p H2 D' (fun _ acc H => ∀ (m : Nat) (v : V) (d : D), acc[m]? = some v → (es.map g)[m]? = some d → Dat (p.and D' (.lst [])) H v d) (i + 1) H3 := by
  have hlt := (List.getElem?_eq_some_iff.mp hi).1
  refine cw_turnL (A := fun q => ⟨fun v H => ∀ d, (es.map g)[i]? = some d → Dat q H v d, fun v H H' g h d e => (h d e).gr g⟩) (fun o m acc H1 H2 gg h k v d e1 e2 => ?_) w (by omega) (fun o => ?_) fun acc y H1 lo g2 i2 hl ha hy m v d e1 e2 => ?_
  · exact (Dat.gr ((h k v d e1 e2).of fun b (nb : Nv (p.and D' (.lst [])) b) => (nb.back.and nb.ne : Nv (p.and D' o) b)) gg).of fun b (nb : Nv (p.and D' o) b) => nb.back.and nb.ne
  · have hd : es[i]? = some es[i] := List.getElem?_eq_getElem (by omega)
    refine (he i x _ o hi hd).imp fun v H hv d e => ?_
    rw [List.getElem?_map, hd] at e
    rw [← Option.some.inj e]
    exact hv
  · by_cases hm : m < acc.length
    · rw [List.getElem?_append_left hm] at e1
      exact ha m v d e1 e2
    · rw [List.getElem?_append_right (by omega)] at e1
      have : m - acc.length = 0 := by
        have := (List.getElem?_eq_some_iff.mp e1).1
        rw [List.length_singleton] at this
        omega
      rw [this] at e1
      rw [← Option.some.inj e1]
      have em : m = i := by omega
      rw [em] at e2
      exact (hy d e2).of fun b (nb : Nv (p.and D' (.lst lo)) b) => nb.back.and nb.ne
theorem turned {es : List D} {g : D → D} {xs : List V} {H2 H' : Hp} {D' : Addr} (hl : xs.length = es.length)
    (w : Cw p H2 D' (fun _ acc H => ∀ (m : Nat) (v : V) (d : D), acc[m]? = some v → (es.map g)[m]? = some d → Dat (p.and D' (.lst [])) H v d) xs.length H') : (slDx p (es.map g)).P (.ref D') H' := by
  obtain ⟨_, _, nD, _, acc, ha, hla, c⟩ := w
  exact ⟨D', acc, rfl, nD, ha, by rw [hla, List.length_map, hl], fun i v d h1 h2 => (c i v d h1 h2).back⟩
theorem lcT_dat {ts : TE} {es : List D} {g : D → D} (hx : Ev p ts σ H (sdx p (.tup es))) (hw : ∀ x, wipe ((wipe σ vs).set j (some x)) vs = wipe σ vs)
    (he : ∀ (x : V) (d : D) E (l : List V) H1, Gr p H H1 → H1 E = none → d ∈ es → Dat (p.and E (.lst l)) H1 x d → Ev (p.and E (.lst l)) te ((wipe σ vs).set j (some x)) H1 (sdx (p.and E (.lst l)) (g d))) : Ev p (tLc (iTup K ts) (gName j) tYes te vs) σ H (slDx p (es.map g)) := by
  intro H0 i0 g0 Q q
  refine hx H0 i0 g0 _ fun v H2 i2 g2 hv => ?_
  have hv : Dat p H2 v (.tup es) := hv
  cases hv with
  | @tup a xs ds na h l hz r =>
    refine ⟨a, rfl, ⟨xs, SqT.of h⟩, fun D' hD => lc_tup (xs := xs) (Cw p H2 D' _) (cw0 i2 hD fun m v d e => by cases e) (fun i H' _ w => SqT.of (w.2.2.2.1 a _ na h)) (fun i x H' hi w => ⟨hw _, turns l hz i2 hD (fun i x d o h1 h2 => he x d D' o H2 (g0.trans g2) hD (List.mem_of_getElem? h2) ((r i x d h1 h2).and hD)) i x H' hi w⟩) fun H' w => q _ H' w.1 (g2.trans w.2.2.2.1) (turned l w)⟩
theorem lcL_dat {ts : TE} {es : List D} {g : D → D} (hx : Ev p ts σ H (slDx p es)) (hes : es.length ≤ 100000) (hw : ∀ x, wipe ((wipe σ vs).set j (some x)) vs = wipe σ vs)
    (he : ∀ (x : V) (d : D) E (l : List V) H1, Gr p H H1 → H1 E = none → d ∈ es → Dat (p.and E (.lst l)) H1 x d → Ev (p.and E (.lst l)) te ((wipe σ vs).set j (some x)) H1 (sdx (p.and E (.lst l)) (g d))) : Ev p (tLc (iList K ts) (gName j) tYes te vs) σ H (slDx p (es.map g)) := by
  intro H0 i0 g0 Q q
  refine hx H0 i0 g0 _ fun v H2 i2 g2 hv => ?_
  obtain ⟨a, xs, rfl, na, h, l, r⟩ := hv
  refine ⟨a, rfl, ⟨xs, SqL.of h⟩, fun D' hD => lc_list (xs := xs) (Cw p H2 D' _) (cw0 i2 hD fun m v d e => by cases e) (fun i H' _ w => SqL.of (w.2.2.2.1 a _ na h)) (fun i x H' hi w => ⟨hw _, turns l (by omega) i2 hD (fun i x d o h1 h2 => he x d D' o H2 (g0.trans g2) hD (List.mem_of_getElem? h2) ((r i x d h1 h2).and hD)) i x H' hi w⟩) fun H' w => q _ H' w.1 (g2.trans w.2.2.2.1) (turned l w)⟩
/-- a new tuple of data -/
theorem dat_tupL {ws : List V} {ds : List D} {H1 : Hp} {a : Addr} (x : DatL p H1 ws ds) (hz : ws.length ≤ 100000) (i1 : Iv p H1) (ha : H1 a = none) : Dat p (upd H1 a (.tup ws)) (.ref a) (.tup ds) :=
  .tup (i1.ne ha) upd_same x.1 hz fun i v d h1 h2 => (x.2 i v d h1 h2).gr (Gr.new ha)
end
/-! ### a call of a local name that holds a def -/
def tCallH (i : Nat) (Hd : Addr → Sp → Prop) (t : TA) : TE := fun σ H Q => ∃ f sp, σ[i]? = some (some (.ref f)) ∧ Hd f sp ∧ t σ H fun vs H1 => sp vs H1 Q E0
section
variable {X : Cx} {k i : Nat} {x : Str} {p pos : Pos} {e : Expr} {es : List Expr} {t : TA}
theorem pe_callH {Hd : Addr → Sp → Prop} (A : ∀ f sp, Hd f sp → Held X.prog X.w X.K X.mg X.base k f sp) (hr : Room k X.A) (hN : X.N[i]? = some x) (hv : Vis X.env.scope x) (ha : PA X (e :: es) t)
    (hdb : (x == ("__debug__" : Str)) = false := by decide) (hcd : (x == ("__classdict__" : Str)) = false := by decide)
    (he : starEach (e :: es) X.env = (false, eval e X.env) :: starEach es X.env := by rfl) (hpl : (backTo pos (starEach es X.env)).any (·.1) = false := by rfl) : PE X (.Call (.Name x p) (e :: es) [] pos) (tCallH i Hd t) := by
  constructor
  intro pins s σ H Q I ⟨f, sp, hs, hd, ht⟩
  refine (pe_callA (S := fun a => if a = f then some sp else none) (fun f' sp' h => ?_) hr hN hv ha hdb hcd he hpl).run pins s σ H Q I ⟨f, sp, hs, if_pos rfl, ht⟩
  by_cases e : f' = f
  · have h2 : some sp = some sp' := (if_pos e).symm.trans h
    rw [e, ← Option.some.inj h2]
    exact A f sp hd
  · cases (if_neg e).symm.trans h
end
section
variable {P : Program} {w : World} {K : PySem.W.Frag} {mg : Str → Option Value} {base : Heap}
theorem held_of {k : Nat} {x : Str} {sp : Sp} {f : Addr} (c : Ca P w K mg base k x sp) (g : mg x = some (.ref f)) : Held P w K mg base k f sp := by
  obtain ⟨f', fd, ps, F, hm, kp, b⟩ := c.ex
  have e : f' = f := by
    have := hm.symm.trans g
    injection this with h
    injection h
  rw [← e]
  exact ⟨fd, ps, F, kp, b⟩
theorem ixD {X : Cx} {w : World} (h : X.K = K) (h2 : X.w = w) : IxR X (rIxD K w) := by
  subst h h2
  exact ix_kdict
end
end Hk
namespace Hk
open PySem PySem.Spec PyProof.Rows L2
/-! questions to a text that take nothing -/
section
variable {X : Cx} {o : Expr} {to : TE} {apos pos : Pos}
def rTx (f : Str → Bool) : V → List V → Hp → VK → Prop := fun x xs H Q => ∃ a, x = .str a ∧ xs = [] ∧ True ∧ Q (.bl (f a)) H
theorem mq_isascii : MtR X "str.isascii" (rTx Txt.isascii) :=
  mt0 (C := fun _ => True) (g := fun a => .bl (Txt.isascii a)) fun _ _ s _ _ h => PySem.SC.isascii (h _ s.toks rfl)
theorem mq_islower : MtR X "str.islower" (rTx Txt.islower) :=
  mt0 (C := fun _ => True) (g := fun a => .bl (Txt.islower a)) fun _ _ s _ _ h => PySem.SC.islower (h _ s.toks rfl)
theorem pe_isascii (ho : PE X o to) (hbase : attributeBase o "isascii" X.env (eval o X.env) = eval o X.env := by rfl) (hline : (apos.endLine == pos.line) = true := by rfl) :
    PE X (.Call (.Attribute o "isascii" apos) [] [] pos) (tM0 (rTx Txt.isascii) to) := pe_m0 F.slot_str_isascii F.type_str_isascii mq_isascii ho hbase hline
theorem pe_isalpha (ho : PE X o to) (hbase : attributeBase o "isalpha" X.env (eval o X.env) = eval o X.env := by rfl) (hline : (apos.endLine == pos.line) = true := by rfl) :
    PE X (.Call (.Attribute o "isalpha" apos) [] [] pos) (tM0 (rTx Txt.isalpha) to) := pe_m0 F.slot_str_isalpha F.type_str_isalpha mt_isalpha ho hbase hline
theorem pe_islower (ho : PE X o to) (hbase : attributeBase o "islower" X.env (eval o X.env) = eval o X.env := by rfl) (hline : (apos.endLine == pos.line) = true := by rfl) :
    PE X (.Call (.Attribute o "islower" apos) [] [] pos) (tM0 (rTx Txt.islower) to) := pe_m0 F.slot_str_islower F.type_str_islower mq_islower ho hbase hline
end
section
variable {p : Vo} {to : TE} {σ : L2.St} {H : Hp} {s : Str}
theorem x_tx {f : Str → Bool} (h : Ev p to σ H (sx (.str s))) : Ev p (tM0 (rTx f) to) σ H (sx (.bl (f s))) := fun H1 i g Q q =>
  h H1 i g _ fun v H2 i2 g2 e => ⟨⟨s, e⟩, s, e, rfl, trivial, q _ H2 i2 g2 rfl⟩
end
/-! a text of small letters, asked in another way -/
def az : List Nat := [97, 98, 99, 100, 101, 102, 103, 104, 105, 106, 107, 108, 109, 110, 111, 112, 113, 114, 115, 116, 117, 118, 119, 120, 121, 122]
def upT (c : Nat) : Bool := Unicode.isUpper c || Unicode.isTitle c
theorem az_one : ∀ c, c < 128 → (decide (c < 128) && (Unicode.isAlpha c && !upT c)) = decide (c ∈ az) := by decide +kernel
theorem az_low : ∀ c ∈ az, Unicode.isLower c = true := by decide +kernel
theorem az_lt : ∀ c ∈ az, c < 128 := by decide +kernel
theorem az_any (c : Nat) : (decide (c < 128) && (Unicode.isAlpha c && !upT c)) = decide (c ∈ az) := by
  by_cases h : c < 128
  · exact az_one c h
  · rw [decide_eq_false h, decide_eq_false fun e => h (az_lt c e)]; rfl
theorem az_all : ∀ l : List Nat, (l.all (fun c => decide (c < 128)) && (l.all Unicode.isAlpha && !l.any upT)) = l.all fun c => decide (c ∈ az)
  | [] => rfl
  | c :: r => by
    rw [List.all_cons, List.all_cons, List.any_cons, List.all_cons, ← az_all r, ← az_any c]
    generalize decide (c < 128) = a1
    generalize Unicode.isAlpha c = a2
    generalize upT c = a3
    generalize r.all (fun c => decide (c < 128)) = a4
    generalize r.all Unicode.isAlpha = a5
    generalize r.any upT = a6
    revert a1 a2 a3 a4 a5 a6
    decide
theorem az_text {s : Str} {r : Bool} (h : s.length > 0) : (Txt.isascii s && (Txt.isalpha s && (Txt.islower s && r))) = (s.cps.toList.all (fun c => decide (c ∈ az)) && r) := by
  have e := az_all s.cps.toList
  have hl : (s.cps.toList.all fun c => decide (c ∈ az)) = true → s.cps.toList.any Unicode.isLower = true := fun ha => by
    have h' : s.cps.toList ≠ [] := fun e' => by
      have : s.cps.toList.length = 0 := by rw [e']; rfl
      rw [Array.length_toList] at this
      exact absurd this (by have : s.length = s.cps.size := rfl; omega)
    obtain ⟨c, l, hc⟩ := List.exists_cons_of_ne_nil h'
    rw [hc, List.all_cons] at ha
    rw [hc, List.any_cons, az_low c (of_decide_eq_true (Bool.and_eq_true_iff.mp ha).1)]
    rfl
  rw [show Txt.isascii s = s.cps.toList.all (fun c => decide (c < 128)) from by unfold Txt.isascii; rw [← Array.all_toList],
    show Txt.isalpha s = s.cps.toList.all Unicode.isAlpha from by unfold Txt.isalpha; rw [← Array.all_toList, decide_eq_true h]; rfl,
    show Txt.islower s = (s.cps.toList.any Unicode.isLower && !s.cps.toList.any upT) from by unfold Txt.islower; rw [← Array.any_toList, ← Array.any_toList]; rfl]
  rw [← e] at hl ⊢
  revert hl
  generalize s.cps.toList.all (fun c => decide (c < 128)) = a1
  generalize s.cps.toList.all Unicode.isAlpha = a2
  generalize s.cps.toList.any Unicode.isLower = a3
  generalize s.cps.toList.any upT = a4
  revert a1 a2 a3 a4 r
  decide
end Hk
namespace Hk
open PySem PySem.Spec PyProof.Rows L2
/-! ### comprehensions, item by item -/
structure Pt (α : Type) where
  T : Vo → Hp → V → α → Prop
  gr : ∀ {p : Vo} {H H' : Hp} {v : V} {e : α}, T p H v e → Gr p H H' → T p H' v e
  of : ∀ {p q : Vo} {H : Hp} {v : V} {e : α}, T p H v e → (∀ a, Nv p a → Nv q a) → T q H v e
  an : ∀ {p : Vo} {H : Hp} {v : V} {e : α} {E : Addr} {o : HO}, T p H v e → H E = none → T (p.and E o) H v e
def syP {α : Type} (p : Vo) (X : Pt α) (e : Option α) : Sy p := ⟨fun v H => ∀ x, e = some x → X.T p H v x, fun v H H' g h x ex => X.gr (h x ex) g⟩
def slP {α : Type} (p : Vo) (X : Pt α) (es : List α) : Sy p := sl (fun ws H => ws.length = es.length ∧ ∀ (i : Nat) (v : V) (e : α), ws[i]? = some v → es[i]? = some e → X.T p H v e) fun ws H H' g h => ⟨h.1, fun i v e h1 h2 => X.gr (h.2 i v e h1 h2) g⟩
section
variable {α β : Type} {p : Vo} {σ : L2.St} {H : Hp} {K : PySem.W.Frag} {te ta tb : TE} {tr : TA} {j : Nat} {vs : List Nat} {X : Pt α} {Y : Pt β} {es : List α} {fs : List β}
abbrev CwP (p : Vo) (X : Pt α) (es : List α) (H2 : Hp) (D : Addr) (i : Nat) (H' : Hp) : Prop := Cw p H2 D (fun _ acc H => ∀ (m : Nat) (v : V) (e : α), acc[m]? = some v → es[m]? = some e → X.T (p.and D (.lst [])) H v e) i H'
theorem ptTurn {σ2 : L2.St} {H2 : Hp} {D : Addr} {i : Nat} {H' : Hp} (hz : i < 100000)
    (he : ∀ l : List V, Ev (p.and D (.lst l)) te σ2 H2 (syP (p.and D (.lst l)) X es[i]?)) (w : CwP p X es H2 D i H') :
    tYes σ2 H' fun b H3 => if b = true then te σ2 H3 fun y H4 => ∃ acc, H4 D = some (.lst acc) ∧ acc.length < sizeLine ∧ CwP p X es H2 D (i + 1) (upd H4 D (.lst (acc ++ [y]))) else CwP p X es H2 D (i + 1) H3 := by
  refine cw_turnL (A := fun q => syP q X es[i]?) (fun o m acc H1 H2 gg h k v e e1 e2 => ?_) w (by omega) (fun o => he o) fun acc y H1 lo g2 i2 hl ha hy m v e e1 e2 => ?_
  · exact X.of (X.gr (X.of (h k v e e1 e2) fun b (nb : Nv (p.and D (.lst [])) b) => (nb.back.and nb.ne : Nv (p.and D o) b)) gg) fun b (nb : Nv (p.and D o) b) => nb.back.and nb.ne
  · by_cases hm : m < acc.length
    · rw [List.getElem?_append_left hm] at e1
      exact ha m v e e1 e2
    · rw [List.getElem?_append_right (by omega)] at e1
      have : m - acc.length = 0 := by
        have := (List.getElem?_eq_some_iff.mp e1).1
        rw [List.length_singleton] at this
        omega
      rw [this] at e1
      rw [← Option.some.inj e1]
      have em : m = i := by omega
      rw [em] at e2
      exact X.of (hy e e2) fun b (nb : Nv (p.and D (.lst lo)) b) => nb.back.and nb.ne
theorem ptDone {H2 H' : Hp} {D : Addr} {n : Nat} (hn : n = es.length) (w : CwP p X es H2 D n H') : (slP p X es).P (.ref D) H' := by
  obtain ⟨_, _, nD, _, acc, ha, hla, c⟩ := w
  exact ⟨D, acc, rfl, nD, ha, by rw [hla, hn], fun i v e h1 h2 => X.of (c i v e h1 h2) fun b nb => nb.back⟩
/-- over range(n), n items -/
theorem lcR_pt {n : Int} (hx : Ev p ta σ H (sx (.int n))) (hn : n = (es.length : Int)) (hz : es.length ≤ 100000) (hw : ∀ x, wipe ((wipe σ vs).set j (some x)) vs = wipe σ vs)
    (he : ∀ (i : Nat) D (l : List V) H1, i < es.length → Gr p H H1 → H1 D = none → Ev (p.and D (.lst l)) te ((wipe σ vs).set j (some (.int (0 + (i : Nat))))) H1 (syP (p.and D (.lst l)) X es[i]?)) :
    Ev p (tLc (iRng1 (tCons ta tNil)) (gName j) tYes te vs) σ H (slP p X es) := fun H0 i0 g0 Q q =>
  hx H0 i0 g0 _ fun v H1 i1 g1 e => ⟨n, by rw [show v = .int n from e], by omega, by omega, fun D hD => lc_range (lo := 0) (n := n.toNat) (CwP p X es H1 D) (cw0 i1 hD fun m v e h => by cases h)
    (fun i H' hi w => ⟨hw _, ptTurn (by omega) (fun l => he i D l H1 (by omega) (g0.trans g1) hD) w⟩) fun H' w => q _ H' w.1 (g1.trans w.2.2.2.1) (ptDone (by omega) w)⟩
/-- over a list that stands still, by any target -/
theorem lcL_pt {g : TG} {τ : V → β → L2.St} (hx : Ev p ta σ H (slP p Y fs)) (hl : fs.length = es.length) (hz : es.length ≤ 100000) (hw : ∀ x f, wipe (τ x f) vs = wipe σ vs)
    (hg : ∀ (i : Nat) (x : V) (f : β) (H' : Hp) (R : L2.St → Hp → Prop), fs[i]? = some f → Y.T p H' x f → R (τ x f) H' → g x (wipe σ vs) H' R)
    (he : ∀ (i : Nat) (x : V) (f : β) D (l : List V) H1, fs[i]? = some f → Gr p H H1 → H1 D = none → Y.T (p.and D (.lst l)) H1 x f → Ev (p.and D (.lst l)) te (τ x f) H1 (syP (p.and D (.lst l)) X es[i]?)) :
    Ev p (tLc (iList K ta) g tYes te vs) σ H (slP p X es) := by
  intro H0 i0 g0 Q q
  refine hx H0 i0 g0 _ fun v H2 i2 g2 hv => ?_
  obtain ⟨a, xs, rfl, na, h, l, r⟩ := hv
  refine ⟨a, rfl, ⟨xs, SqL.of h⟩, fun D' hD => lc_list (xs := xs) (CwP p X es H2 D') (cw0 i2 hD fun m v e h => by cases h) (fun i H' _ w => SqL.of (w.2.2.2.1 a _ na h)) (fun i x H' hi w => ?_) fun H' w => q _ H' w.1 (g2.trans w.2.2.2.1) (ptDone (by omega) w)⟩
  have hi2 : i < fs.length := by
    have := (List.getElem?_eq_some_iff.mp hi).1
    omega
  have hf := List.getElem?_eq_getElem hi2
  refine hg i x _ H' _ hf (Y.gr (r i x _ hi hf) w.2.2.2.1) ⟨hw _ _, ptTurn (by omega) (fun lo => he i x _ D' lo H2 hf (g0.trans g2) hD (Y.an (r i x _ hi hf) hD)) w⟩
end
/-! ### dicts made of pairs -/
def rDictP (K : PySem.W.Frag) : List V → Hp → VK → Prop := fun xs H Q => ∃ (a : Addr) (ps : List Addr) (kvs : List (Key × V)), xs = [.ref a] ∧ SqL K H a (ps.map V.ref) ∧ Paired (fun p kv => SqT K H p [kV kv.1, kv.2]) ps kvs ∧
    ∀ p, H p = none → Q (.ref p) (upd H p (.dK (mergeK [] kvs)))
theorem dictU {X : Cx} {K : PySem.W.Frag} (h : X.K = K) (hc : X.calm = true := by rfl) : CallR X (.type "dict") (rDictP K) := by
  subst h
  exact call_dictP hc
/-- a pair of a name and a value -/
def PairT {α : Type} (nm : α → Str) (R : Pt α) : Pt α where
  T p H v e := ∃ b w, v = .ref b ∧ Nv p b ∧ H b = some (.tup [.str (nm e), w]) ∧ R.T p H w e
  gr := fun ⟨b, w, h1, h2, h3, h4⟩ g => ⟨b, w, h1, h2, g b _ h2 h3, R.gr h4 g⟩
  of := fun ⟨b, w, h1, h2, h3, h4⟩ k => ⟨b, w, h1, k b h2, h3, R.of h4 k⟩
  an := fun ⟨b, w, h1, h2, h3, h4⟩ hE => ⟨b, w, h1, h2.and (ne_of_none h3 hE).symm, h3, R.an h4 hE⟩
section
variable {α : Type} {p : Vo} {σ : L2.St} {H : Hp} {K : PySem.W.Frag} {te ta tb : TE} {tr : TA} {nm : α → Str} {R : Pt α} {es : List α}
theorem pairs_out {H : Hp} : ∀ (es : List α) (ws : List V), ws.length = es.length → (∀ (i : Nat) (v : V) (e : α), ws[i]? = some v → es[i]? = some e → (PairT nm R).T p H v e) →
    ∃ (ps : List Addr) (us : List V), ws = ps.map V.ref ∧ us.length = es.length ∧ Paired (fun p kv => SqT K H p [kV kv.1, kv.2]) ps ((es.map fun e => (Sum.inr (nm e) : Key)).zip us) ∧ ∀ (i : Nat) (u : V) (e : α), us[i]? = some u → es[i]? = some e → R.T p H u e
  | [], [], _, _ => ⟨[], [], rfl, rfl, .nil, fun i u e h => by cases h⟩
  | [], _ :: _, h, _ => by cases h
  | _ :: _, [], h, _ => by cases h
  | e :: es, w :: ws, hl, h => by
    obtain ⟨b, u, rfl, nb, hb, hr⟩ := h 0 w e rfl rfl
    obtain ⟨ps, us, e1, e2, e3, e4⟩ := pairs_out es ws (by rw [List.length_cons, List.length_cons] at hl; omega) fun i v e h1 h2 => h (i + 1) v e h1 h2
    refine ⟨b :: ps, u :: us, by rw [e1]; rfl, by rw [List.length_cons, List.length_cons, e2], .cons (SqT.of hb) e3, fun i v f h1 h2 => ?_⟩
    cases i with
    | zero =>
      rw [← Option.some.inj h1, ← Option.some.inj h2]
      exact hr
    | succ i => exact e4 i v f h1 h2
/-- a dict of these names -/
def sdict (p : Vo) (nm : α → Str) (R : Pt α) (es : List α) : Sy p := ⟨fun v H => ∃ (t : Addr) (us : List V), v = .ref t ∧ Nv p t ∧ H t = some (.dK (mergeK [] ((es.map fun e => (Sum.inr (nm e) : Key)).zip us))) ∧ us.length = es.length ∧ ∀ (i : Nat) (u : V) (e : α), us[i]? = some u → es[i]? = some e → R.T p H u e,
  fun v H H' g ⟨t, us, h1, h2, h3, h4, h5⟩ => ⟨t, us, h1, h2, g t _ h2 h3, h4, fun i u e e1 e2 => R.gr (h5 i u e e1 e2) g⟩⟩
theorem x_dict (ha : Ev p ta σ H (slP p (PairT nm R) es)) : Ev p (tCB (rDictP K) (tCons ta tNil)) σ H (sdict p nm R es) := e_cb (a_cons ha a_nil) fun vs H1 iv g os => by
  obtain ⟨v, us, rfl, ⟨b, ws, rfl, nb, h1, hl, hw⟩, rfl⟩ := os
  obtain ⟨ps, us, rfl, l2, pr, hr⟩ := pairs_out (K := K) es ws hl hw
  exact rv_new iv (o := .dK _) (fun q nq hq i' g' => ⟨q, us, rfl, nq, upd_same, l2, fun i u e e1 e2 => R.gr (hr i u e e1 e2) g'⟩) fun Q q => ⟨b, ps, _, rfl, SqL.of h1, pr, q⟩
/-- one more item -/
theorem x_catP {e : α} (ha : Ev p ta σ H (slP p R es)) (hb : Ev p tb σ H (slP p R [e])) (hz : es.length ≤ 1000) : Ev p (tOp rAddU ta tb) σ H (slP p R (es ++ [e])) :=
  e_op ha hb fun x y H1 iv g ⟨b, ws, e1, nb, h1, hl, hw⟩ ⟨b', ws', e2, nb', h2, hl', hw'⟩ => rv_new iv (o := .lst (ws ++ ws')) (fun q nq hq i' g' => ⟨q, _, rfl, nq, upd_same, by rw [List.length_append, List.length_append, hl, hl'], fun i v f e1 e2 => by
    by_cases hm : i < ws.length
    · rw [List.getElem?_append_left hm] at e1
      rw [List.getElem?_append_left (by omega)] at e2
      exact R.gr (hw i v f e1 e2) g'
    · rw [List.getElem?_append_right (by omega)] at e1 e2
      rw [hl] at e1
      exact R.gr (hw' _ v f e1 e2) g'⟩) fun Q q => .inr (.inr ⟨b, b', ws, ws', e1, e2, h1, h2, by
        rw [hl, hl']
        have := sizeLine_eq
        show es.length + 1 ≤ _
        omega, q⟩)
/-- backwards -/
theorem x_rev (ha : Ev p ta σ H (slP p R es)) : Ev p (tRevL K ta) σ H (slP p R es.reverse) := fun H0 i0 g0 Q q =>
  ha H0 i0 g0 _ fun v H1 i1 g1 ⟨b, ws, e, nb, h1, hl, hw⟩ => ⟨b, ws, e, SqL.of h1, fun c hc => q _ _ (i1.new hc) (g1.trans (Gr.new hc)) ⟨c, ws.reverse, rfl, i1.ne hc, upd_same, by rw [List.length_reverse, List.length_reverse, hl], fun i v f e1 e2 => by
    have h2 : i < ws.length := by
      have := (List.getElem?_eq_some_iff.mp e1).1
      rwa [List.length_reverse] at this
    rw [List.getElem?_reverse h2] at e1
    rw [List.getElem?_reverse (by omega), ← hl] at e2
    exact R.gr (hw _ v f e1 e2) (Gr.new hc)⟩⟩
end
/-! ### repr of a dict -/
def kD : Key → PyData
  | .inl i => .int i
  | .inr x => .str x
def rReprD : List V → Hp → VK → Prop := fun xs H Q => ∃ (a : Addr) (kvs : List (Key × V)) (ps : List PyData), xs = [.ref a] ∧ H a = some (.dK kvs) ∧ kvs.length = ps.length ∧ (∀ (i : Nat) (kv : Key × V) (d : PyData), kvs[i]? = some kv → ps[i]? = some d → Py Vo.non H kv.2 d) ∧
  (PyData.dict ((kvs.map fun kv => kD kv.1).zip ps)).showable = true ∧ (PyData.dict ((kvs.map fun kv => kD kv.1).zip ps)).depth ≤ 40 ∧ (PyData.dict ((kvs.map fun kv => kD kv.1).zip ps)).shown.length ≤ sizeLine ∧ Q (.str (PyData.dict ((kvs.map fun kv => kD kv.1).zip ps)).shown) H
theorem reads_keys {P : Program} {w : World} {h : Heap} : ∀ {es : List DictEntry} {vs : List (Key × Value)} {kvs : List (Key × V)}, Pairs (mixKind P w) es vs → KV kvs vs → ReadsAll h (es.map (·.key)) (kvs.map fun kv => kD kv.1) []
  | [], _, _, .nil, .nil => .nil
  | e :: es, kv :: vs, kw :: kvs, .cons h1 h2 h3, .cons r rs => by
    refine .cons (as := []) (bs := []) ?_ (reads_keys h3 rs)
    show Reads h e.key (kD kw.1) []
    rw [r.1]
    rcases keyIs_shape (show keyIs kv.1 e.key = true from h1) with ⟨i, t, e1, e2⟩ | ⟨x, t, e1, e2⟩
    · rw [e1, e2]; exact .int i t
    · rw [e1, e2]; exact .str x t
theorem kv_at {α : Type} : ∀ {kvs : List (α × V)} {vs : List (α × Value)} {i : Nat} {u : α × Value}, KV kvs vs → vs[i]? = some u → ∃ v, kvs[i]? = some v ∧ RelV v.2 u.2
  | _, _, _, _, .nil, e => by cases e
  | _, _, 0, _, .cons r k, e => ⟨_, rfl, by rw [← Option.some.inj e]; exact r.2⟩
  | _, _, i + 1, _, .cons r k, e => kv_at (i := i) k e
theorem pairs_at {P : Program} {w : World} : ∀ {es : List DictEntry} {vs : List (Key × Value)} {i : Nat} {u : Value}, Pairs (mixKind P w) es vs → (es.map (·.val))[i]? = some u → ∃ kv, vs[i]? = some kv ∧ kv.2 = u
  | [], _, _, _, .nil, e => by cases e
  | e :: es, kv :: vs, 0, u, .cons h1 h2 h3, h => ⟨kv, rfl, by rw [← h2]; exact Option.some.inj h⟩
  | e :: es, kv :: vs, i + 1, u, .cons h1 h2 h3, h => pairs_at (i := i) h3 h
section
variable {X : Cx}
theorem call_reprD (hg : X.A.guards = some []) (hu : X.A.units + 64 < cLine) : CallR X (.builtin "repr") rReprD := by
  intro pins s σ H xs us Q I r h
  obtain ⟨a, kvs, ps, rfl, hH, hl, hp, h1, h3, h4, q⟩ := h
  obtain ⟨u, rfl, rx⟩ := vals1 r
  cases (show u = Value.ref a from rx)
  obtain ⟨hz, hsm, vs, rel, o, es, ep, e1, e2, e3, e4, e5, e6⟩ := dk_of I.hok hH
  have lk : es.toList.length = kvs.length := by rw [e5.length, ← rel.length]
  have rd : Reads s.heap (.ref a) (.dict ((kvs.map fun kv => kD kv.1).zip ps)) (a :: [] ++ []) := by
    refine .dict e1 e2.1 e3 ?_ ?_
    · rw [List.map_fst_zip (by rw [List.length_map, hl]; exact Nat.le_refl _)]
      exact reads_keys e5 rel
    · rw [List.map_snd_zip (by rw [List.length_map, hl]; exact Nat.le_refl _)]
      refine readsAll_at (by rw [List.length_map, lk, hl]) fun i u d h1 h2 => ?_
      obtain ⟨kv, ek, eu⟩ := pairs_at e5 h1
      obtain ⟨v, ev, rv⟩ := kv_at rel ek
      rw [eu] at rv
      exact (hp i v d ev h2).reads I rv
  refine repr_of_reads' rd h1 (fun _ hm => ?_) hg ?_ (fun _ _ e => e) (fun h' t tk hk => ?_) h4
  · have : sysModules = a := by simpa using hm
    rw [← this] at hsm
    exact absurd (beq_self_eq_true sysModules) (by rw [hsm]; exact Bool.false_ne_true)
  · omega
  · exact ⟨.str _, H, I.kept hk, ⟨_, rfl⟩, q⟩
end
/-! ### a call by keywords alone -/
section
variable {X : Cx} {CX : CXT} {k : Nat} {f : Addr} {fd : FuncData} {ps ks : List Str} {sp : Sp} {E : XK} {x : Str} {p pos : Pos} {kws : List Keyword} {tk : TA} {g : List Value → List Value → List Value} {gV : List V → List V → List V}
theorem pe_callN0 (F : FnOk X.prog X.w X.K X.mg X.base CX k f fd ps sp) (hr : Room k X.A) (hg : Gl X x) (hm : X.mg x = some (.ref f)) (hk : PySem.W.keepIn X.K (.ref f) = true) (hb : KBn X.K fd ps 0 ks g gV) (hx : Passes CX X E)
    (hkw : PK X kws tk) (hall : (backToKw pos (keywordEach kws X.env)).all (·.1.isSome) = true := by rfl) (hks : (backToKw pos (keywordEach kws X.env)).filterMap (·.1) = ks := by rfl)
    (hdb : (x == ("__debug__" : Str)) = false := by decide)
    (hpl : ((backTo pos (starEach [] X.env)).any (·.1) || (backToKw pos (keywordEach kws X.env)).any (·.1.isNone)) = false := by rfl) :
    PE X (.Call (.Name x p) [] kws pos) (tCallN 0 ks.length sp gV E tNil tk) := by
  refine ⟨fun pins s σ H Q I h => ?_⟩
  refine wpAny_Call_Name_kw (ld_glob I hg hm ?_ hdb)
  refine PySem.W.callWith_KW0 (h₀ := X.base) I.ok.mod.kin hk hall ?_ hpl
  refine thn (hkw.run pos pins s σ H _ I h) fun ws s2 ⟨zs, H2, I2, rz, l1, l2, q2⟩ => ⟨I2.kIn, ?_⟩
  rw [hks]
  exact run_fnN (us := []) (vs := []) F hr hb hx I2 .nil rz rfl l2 q2
end
end Hk
namespace Hk
open PySem PySem.Spec PyProof.Rows L2
theorem pe_revU {X : Cx} {K : PySem.W.Frag} {e : Expr} {te : TE} {k : Nat} {p1 p2 p3 pos : Pos} (h : X.K = K) (he : PE X e te) : PE X (.Subscript e (.Slice none none (some (.UnaryOp .USub (.Constant (.int 1) k p1) p2)) p3) pos) (tRevL K te) := h ▸ pe_revL he
end Hk
namespace K12
open PySem PySem.Spec PyProof.Rows L2 Hk
def top (i : Nat) : Stmt := PySem.Challenge.pw_heldover_k12_whole_values_of_expressions.main.body.getD i (.Pass ⟨0, 0, 0, 0⟩)
abbrev s_consists_of : Stmt := top 5
theorem sc_consists_of : FnScope ["text", "signs", "sign"] ["text", "signs"] (defScope s_consists_of) := ⟨rfl, rfl, rfl, by decide +kernel, rfl, by decide +kernel, by decide +kernel⟩
abbrev s_is_name : Stmt := top 6
theorem sc_is_name : FnScope ["value"] ["value"] (defScope s_is_name) := ⟨rfl, rfl, rfl, by decide +kernel, rfl, by decide +kernel, by decide +kernel⟩
abbrev s_is_tag : Stmt := top 7
theorem sc_is_tag : FnScope ["value"] ["value"] (defScope s_is_tag) := ⟨rfl, rfl, rfl, by decide +kernel, rfl, by decide +kernel, by decide +kernel⟩
abbrev s_operands_of : Stmt := top 12
theorem sc_operands_of : FnScope ["expression", "word"] ["expression"] (defScope s_operands_of) := ⟨rfl, rfl, rfl, by decide +kernel, rfl, by decide +kernel, by decide +kernel⟩
abbrev s_has_levels : Stmt := top 13
theorem sc_has_levels : FnScope ["value", "levels", "operands", "operand"] ["value", "levels"] (defScope s_has_levels) := ⟨rfl, rfl, rfl, by decide +kernel, rfl, by decide +kernel, by decide +kernel⟩
abbrev s_is_expression : Stmt := top 14
theorem sc_is_expression : FnScope ["value"] ["value"] (defScope s_is_expression) := ⟨rfl, rfl, rfl, by decide +kernel, rfl, by decide +kernel, by decide +kernel⟩
abbrev s_add : Stmt := top 15
theorem sc_add : FnScope ["one", "other"] ["one", "other"] (defScope s_add) := ⟨rfl, rfl, rfl, by decide +kernel, rfl, by decide +kernel, by decide +kernel⟩
abbrev s_subtract : Stmt := top 16
theorem sc_subtract : FnScope ["one", "other"] ["one", "other"] (defScope s_subtract) := ⟨rfl, rfl, rfl, by decide +kernel, rfl, by decide +kernel, by decide +kernel⟩
abbrev s_multiply : Stmt := top 17
theorem sc_multiply : FnScope ["one", "other"] ["one", "other"] (defScope s_multiply) := ⟨rfl, rfl, rfl, by decide +kernel, rfl, by decide +kernel, by decide +kernel⟩
abbrev s_divide : Stmt := top 18
theorem sc_divide : FnScope ["one", "other"] ["one", "other"] (defScope s_divide) := ⟨rfl, rfl, rfl, by decide +kernel, rfl, by decide +kernel, by decide +kernel⟩
abbrev s_remainder : Stmt := top 19
theorem sc_remainder : FnScope ["one", "other"] ["one", "other"] (defScope s_remainder) := ⟨rfl, rfl, rfl, by decide +kernel, rfl, by decide +kernel, by decide +kernel⟩
abbrev s_is_less : Stmt := top 20
theorem sc_is_less : FnScope ["one", "other"] ["one", "other"] (defScope s_is_less) := ⟨rfl, rfl, rfl, by decide +kernel, rfl, by decide +kernel, by decide +kernel⟩
abbrev s_are_equal : Stmt := top 21
theorem sc_are_equal : FnScope ["one", "other"] ["one", "other"] (defScope s_are_equal) := ⟨rfl, rfl, rfl, by decide +kernel, rfl, by decide +kernel, by decide +kernel⟩
abbrev s_conjunction : Stmt := top 22
theorem sc_conjunction : FnScope ["one", "other"] ["one", "other"] (defScope s_conjunction) := ⟨rfl, rfl, rfl, by decide +kernel, rfl, by decide +kernel, by decide +kernel⟩
abbrev s_disjunction : Stmt := top 23
theorem sc_disjunction : FnScope ["one", "other"] ["one", "other"] (defScope s_disjunction) := ⟨rfl, rfl, rfl, by decide +kernel, rfl, by decide +kernel, by decide +kernel⟩
abbrev s_operate : Stmt := top 25
theorem sc_operate : FnScope ["word", "operands", "operation"] ["word", "operands"] (defScope s_operate) := ⟨rfl, rfl, rfl, by decide +kernel, rfl, by decide +kernel, by decide +kernel⟩
abbrev s_evaluate : Stmt := top 26
theorem sc_evaluate : FnScope ["expression", "values", "task", "word", "operands", "operand"] ["expression", "values", "task"] (defScope s_evaluate) := ⟨rfl, rfl, rfl, by decide +kernel, rfl, by decide +kernel, by decide +kernel⟩
abbrev s__law_pot : Stmt := top 28
theorem sc__law_pot : FnScope ["_law_script", "_law_index", "_law_cell"] ["_law_script", "_law_index"] (defScope s__law_pot) := ⟨rfl, rfl, rfl, by decide +kernel, rfl, by decide +kernel, by decide +kernel⟩
abbrev s__law_draw : Stmt := top 29
theorem sc__law_draw : FnScope ["_law_pot_here", "_law_bound", "_law_digit"] ["_law_pot_here", "_law_bound"] (defScope s__law_draw) := ⟨rfl, rfl, rfl, by decide +kernel, rfl, by decide +kernel, by decide +kernel⟩
abbrev s__law_choice : Stmt := top 30
theorem sc__law_choice : FnScope ["_law_pot_here", "_law_options"] ["_law_pot_here", "_law_options"] (defScope s__law_choice) := ⟨rfl, rfl, rfl, by decide +kernel, rfl, by decide +kernel, by decide +kernel⟩
abbrev s__law_plain_value : Stmt := top 31
theorem sc__law_plain_value : FnScope ["_law_pot_here", "_law_sort", "_law_great"] ["_law_pot_here", "_law_sort"] (defScope s__law_plain_value) := ⟨rfl, rfl, rfl, by decide +kernel, rfl, by decide +kernel, by decide +kernel⟩
abbrev s__law_leaf : Stmt := top 32
theorem sc__law_leaf : FnScope ["_law_pot_here", "_law_sort", "_law_names", "_law_some", "_law_name", "_law_one"] ["_law_pot_here", "_law_sort", "_law_names"] (defScope s__law_leaf) := ⟨rfl, rfl, rfl, by decide +kernel, rfl, by decide +kernel, by decide +kernel⟩
abbrev s__law_tree : Stmt := top 33
theorem sc__law_tree : FnScope ["_law_pot_here", "_law_sort", "_law_names", "_law_deep", "_law_word", "_law_inner"] ["_law_pot_here", "_law_sort", "_law_names", "_law_deep"] (defScope s__law_tree) := ⟨rfl, rfl, rfl, by decide +kernel, rfl, by decide +kernel, by decide +kernel⟩
abbrev s__law_short : Stmt := top 34
theorem sc__law_short : FnScope ["_law_pot_here", "_law_names"] ["_law_pot_here", "_law_names"] (defScope s__law_short) := ⟨rfl, rfl, rfl, by decide +kernel, rfl, by decide +kernel, by decide +kernel⟩
abbrev s__law_reckoned : Stmt := top 35
theorem sc__law_reckoned : FnScope ["_law_tree_here", "_law_table", "_law_owner", "_law_some", "_law_one"] ["_law_tree_here", "_law_table", "_law_owner"] (defScope s__law_reckoned) := ⟨rfl, rfl, rfl, by decide +kernel, rfl, by decide +kernel, by decide +kernel⟩
abbrev s__law_of_two : Stmt := top 36
theorem sc__law_of_two : FnScope ["_law_word", "_law_one", "_law_two", "_law_down", "_law_left"] ["_law_word", "_law_one", "_law_two"] (defScope s__law_of_two) := ⟨rfl, rfl, rfl, by decide +kernel, rfl, by decide +kernel, by decide +kernel⟩
abbrev s_law : Stmt := top 37
theorem sc_law : FnScope ["_law_script", "_law_k", "_law_pot_here", "_law_sorts", "_law_names", "_law_table", "_law_tree_here", "_law_owner", "_law_due", "_law_before", "_law_turned", "_law_told", "_law_at", "_law_name", "_law_sort", "_law_one"] ["_law_script"] (defScope s_law) := ⟨rfl, rfl, rfl, by decide +kernel, rfl, by decide +kernel, by decide +kernel⟩
def wsR : List Str := (["add", "and", "ask", "become", "bool", "both", "break", "call", "case", "div", "door", "else", "false", "function", "if", "int", "key", "kind", "less", "local", "loop", "match", "mod", "module", "mul", "not", "on", "or", "raise", "receive", "return", "same", "self", "send", "set", "since", "sleep", "start", "sub", "task", "true", "try", "uses"] : List String).map Str.ofString
def wsP : List Str := (["add", "sub", "mul", "div", "mod", "less", "same", "and", "or"] : List String).map Str.ofString
def sSmall : Str := "abcdefghijklmnopqrstuvwxyz"
def sLarge : Str := "ABCDEFGHIJKLMNOPQRSTUVWXYZ"
def sDig : Str := "0123456789"
def tooLong : Int := 10 ^ 250
def frees : List Str := (["all", "isinstance", "len", "abs", "max", "min", "divmod", "ord", "repr", "int", "str", "bool", "tuple", "range", "list", "dict"] : List String).map Str.ofString
def wsO : List Str := (["add", "sub", "mul", "div", "mod", "less", "same", "and", "or"] : List String).map Str.ofString
def fnO : List Str := (["add", "subtract", "multiply", "divide", "remainder", "is_less", "are_equal", "conjunction", "disjunction"] : List String).map Str.ofString
structure En (K : PySem.W.Frag) (mg : Str → Option Value) : Prop where
  fr : ∀ {x : Str}, frees.elem x = true → mg x = none
  c_small_letters : ∃ u, mg "SMALL_LETTERS" = some u ∧ RelV (.str sSmall) u
  c_large_letters : ∃ u, mg "LARGE_LETTERS" = some u ∧ RelV (.str sLarge) u
  c_longest_word : ∃ u, mg "LONGEST_WORD" = some u ∧ RelV (.int 8) u
  c_levels : ∃ u, mg "LEVELS" = some u ∧ RelV (.int 5) u
  c_too_long : ∃ u, mg "TOO_LONG" = some u ∧ RelV (.int tooLong) u
  c_reserved : ∃ u, mg "RESERVED" = some u ∧ RelV (.ref (He.ga K "RESERVED")) u
  c_operations : ∃ u, mg "OPERATIONS" = some u ∧ RelV (.ref (He.ga K "OPERATIONS")) u
  c_pair_operators : ∃ u, mg "PAIR_OPERATORS" = some u ∧ RelV (.ref (He.ga K "PAIR_OPERATORS")) u
  t_reserved : ∀ H, SqT K H (He.ga K "RESERVED") (wsR.map V.str)
  t_pair : ∀ H, SqT K H (He.ga K "PAIR_OPERATORS") (wsP.map V.str)
structure Op (w : World) (K : PySem.W.Frag) : Prop where
  kd : ∃ es n, KDict K w (He.ga K "OPERATIONS") es n
  vals : He.valsB K (He.ga K "OPERATIONS") ((wsO.zip fnO).map fun q => (q.1, He.Dv.glo q.2)) = true
end K12
namespace K12
open PySem PySem.Spec PyProof.Rows L2 Hk
section
variable {P : Program} {w : World} {K : PySem.W.Frag} {mg : Str → Option Value} {base : Heap}
def allIn (t z : Str) : Bool := t.cps.toList.all fun c => decide (c ∈ z.cps.toList)
def spCons : Sp := fun vs H Q _ => ∃ t z : Str, vs = [.str t, .str z] ∧ t.length ≤ 100000 ∧ ∀ H', Gr Vo.non H H' → Q (.bl (allIn t z)) H'
theorem ok_consists_of (E : En K mg) (F : Df K mg "consists_of" s_consists_of) : Ca P w K mg base 1 "consists_of" spCons := by
  refine ca_mk F sc_consists_of (fun _ _ _ _ _ _ us hl => match us, hl with | [_, _], _ => rfl) (fun vs H Q E h => by obtain ⟨t, z, rfl, _⟩ := h; rfl) (fun f cdv A outer s H vs Q E' hr h => ?_)
  obtain ⟨t, z, rfl, hz, q⟩ := h
  refine ⟨_, (pss_one (ps_ret (pe_callB (allU (K := K) rfl rfl) (by rfl) (E.fr (x := "all") (by decide +kernel)) (by decide +kernel) (pa_cons (pe_lc (own := [("sign", 2)]) (g := (gName 2)) (tt := tYes) rfl sc_consists_of.nd (pi_str (pv 0)) (blkOk_by (own := [("sign", 2)]) (N := ["text", "signs", "sign"]) (sc := defScope s_consists_of) (by decide +kernel)) (fun _ _ _ _ _ => (pg_name (i := 2) sc_consists_of.nd rfl (Or.inl rfl))) (fun _ _ _ _ _ => pts_nil) (fun _ _ _ _ _ => (pe_cmpR (inU (K := K) rfl) (pv 2) (pv 1) (by rfl)))) pa_nil)))), ?_⟩
  exact s_ret (Iv.non H) (allS (fun c => decide (c ∈ z.cps.toList)) (e_vx rfl) hz (fun _ => rfl) fun c q H1 hc => x_inS (e_vx rfl) (e_vx rfl)) fun v H1 _ g e => by
    rw [show v = _ from e]
    exact q H1 g
end
end K12
namespace K12
open PySem PySem.Spec PyProof.Rows L2 Hk
section
variable {P : Program} {w : World} {K : PySem.W.Frag} {mg : Str → Option Value} {base : Heap}
def spD1 (f : D → Bool) : Sp := fun vs H Q _ => ∃ v d, vs = [v] ∧ Dat Vo.non H v d ∧ ∀ H', Gr Vo.non H H' → Q (.bl (f d)) H'
theorem spD1_len {f : D → Bool} : ∀ vs H Q E, spD1 f vs H Q E → vs.length = 1 := fun vs H Q E h => by obtain ⟨v, d, rfl, _⟩ := h; rfl
theorem pu_D1 {f : D → Bool} {v : V} {d : D} {H : Hp} (h : Dat Vo.non H v d) : Pu (spD1 f) [v] H (.bl (f d)) := fun Q E k => ⟨v, d, rfl, h, k⟩
theorem pu_cons {t z : Str} {H : Hp} (h : t.length ≤ 100000) : Pu spCons [.str t, .str z] H (.bl (allIn t z)) := fun Q E k => ⟨t, z, rfl, h, k⟩
theorem dat_str {p : Vo} {H : Hp} {v : V} {d : D} (h : Dat p H v d) (e : d.isS = true) : ∃ s, v = .str s ∧ d = .str s ∧ s.length ≤ 100000 := by
  cases h with
  | str s hz => exact ⟨s, rfl, rfl, hz⟩
  | _ => cases e
def lenIn (s : Str) : Bool := decide ((1 : Int) ≤ (s.length : Int)) && decide ((s.length : Int) ≤ 8)
def isName (s : Str) : Bool := lenIn s && (allIn s sSmall && !inV (.str s) (wsR.map V.str))
def nameD : D → Bool
  | .str s => isName s
  | _ => false
theorem nameD_no {d : D} (h : d.isS = false) : nameD d = false := by cases d <;> first | rfl | cases h
theorem flat_strs (ws : List Str) : (ws.map V.str).all flatV = true := by
  rw [List.all_map]
  exact List.all_eq_true.mpr fun _ _ => rfl
theorem small_az : sSmall.cps.toList = az := by decide +kernel
theorem name_asked {s : Str} {r : Bool} (h : lenIn s = true) : (Txt.isascii s && (Txt.isalpha s && (Txt.islower s && r))) = (allIn s sSmall && r) := by
  have hp : s.length > 0 := by
    have := of_decide_eq_true (Bool.and_eq_true_iff.mp h).1
    omega
  rw [az_text hp]
  show _ = ((s.cps.toList.all fun c => decide (c ∈ sSmall.cps.toList)) && r)
  rw [small_az]
theorem ok_is_name (E : En K mg) (F : Df K mg "is_name" s_is_name) (c_consists_of : Ca P w K mg base 1 "consists_of" spCons) : Ca P w K mg base 2 "is_name" (spD1 nameD) := by
  refine ca_mk F sc_is_name (fun _ _ _ _ _ _ us hl => match us, hl with | [_], _ => rfl) spD1_len (fun f cdv A outer s H vs Q E' hr h => ?_)
  obtain ⟨v, d, rfl, hd, q⟩ := h
  refine ⟨_, (pss_cons (ps_if (PW.pt (pw_or (pt_not (pt_val (pe_callB (isiU (K := K) rfl) (by rfl) (E.fr (x := "isinstance") (by decide +kernel)) (by decide +kernel) (pa_cons (pv 0) (pa_cons (pe_bltn (by rfl) (E.fr (x := "str") (by decide +kernel)) (by decide +kernel) (show RelV (.ty "str") (.type "str") from rfl)) pa_nil))))) (pw_or1 (pt_not (pt_chain op_leU op_leU pe_int (pe_callB (lenU (K := K) rfl) (by rfl) (E.fr (x := "len") (by decide +kernel)) (by decide +kernel) (pa_cons (pv 0) pa_nil)) (pe_gc (by rfl) E.c_longest_word)))))) (pss_one (ps_ret pe_bl)) pss_nil)
      (pss_one (ps_ret (pe_and (pe_isascii (pv 0)) (pe_and (pe_isalpha (pv 0)) (pe_and (pe_islower (pv 0)) (pe_one (pe_cmpR (ninU (K := K) rfl) (pv 0) (pe_gc (by rfl) E.c_reserved) (by rfl))))))))), ?_⟩
  cases hS : d.isS with
  | false =>
    refine q_ifr (v := .bl false) (Iv.non H) (k_to (k_or (b := true) (k_not (k_b (x_isiD (e_vx rfl) hd (kit_s d)))) fun e => absurd e (by rw [hS]; decide)) (b := true) (by rw [hS]; rfl)) (fun _ => e_cx) (fun _ H1 _ g => ?_) (fun e => nomatch e)
    have := q H1 g
    rw [nameD_no hS] at this
    exact this
  | true =>
    obtain ⟨s, rfl, rfl, hz⟩ := dat_str hd hS
    refine q_ifr (v := .bl false) (b := !(lenIn s)) (Iv.non H) (k_to (k_or (k_not (k_b (x_isiD (e_vx rfl) hd (kit_s _)))) fun _ => k_not (k_chain (x_chainI (i := 1) (k := 8) (g := fun i j => decide (i ≤ j)) (g' := fun i j => decide (i ≤ j)) e_cx (x_len (e_vx rfl) (big hz)) e_cx (fun H1 iv => r_leI iv) (fun H1 iv => r_leI iv)))) rfl) (fun _ => e_cx) (fun e H1 _ g => ?_) (fun e H1 i1 g => ?_)
    · have := q H1 g
      rw [show nameD (.str s) = false from by show (lenIn s && _) = false; rw [(Bool.not_eq_true' _).mp e]; rfl] at this
      exact this
    · have hl : lenIn s = true := by cases hh : lenIn s <;> rw [hh] at e <;> first | rfl | cases e
      refine s_retx i1 (x_and (x_tx (s := s) (e_vx rfl)) fun _ => x_and (x_tx (s := s) (e_vx rfl)) fun _ => x_and (x_tx (s := s) (e_vx rfl)) fun _ => x_ninQ (v := .str s) (e_vx rfl) rfl e_cx (sq_k E.t_reserved) (flat_strs _)) fun H2 _ g2 => ?_
      have := q H2 (g.trans g2)
      rw [name_asked hl]
      rw [show nameD (.str s) = (allIn s sSmall && !inV (.str s) (wsR.map V.str)) from by show (lenIn s && _) = _; rw [hl]; rfl] at this
      exact this
end
end K12
namespace K12
open PySem PySem.Spec PyProof.Rows L2 Hk
section
variable {P : Program} {w : World} {K : PySem.W.Frag} {mg : Str → Option Value} {base : Heap}
def hd0 (s : Str) : Nat := s.cps.toList.headD 0
theorem at0 {s : Str} (h : 1 ≤ s.length) : atI s.cps.toList 0 = some (hd0 s) := by
  refine atI_nat (j := 0) ?_
  have e : s.cps.toList.length = s.length := by rw [Array.length_toList]; rfl
  unfold hd0
  cases hh : s.cps.toList with
  | nil => rw [hh] at e; rw [← e] at h; exact absurd h (by decide)
  | cons a r => rfl
theorem lenIn_1 {s : Str} (h : lenIn s = true) : 1 ≤ s.length := by
  unfold lenIn at h
  simp only [Bool.and_eq_true, decide_eq_true_eq] at h
  omega
def isTag (s : Str) : Bool := lenIn s && (decide (hd0 s ∈ sLarge.cps.toList) && allIn (cutS s (some 1) none) sSmall)
def tagD : D → Bool
  | .str s => isTag s
  | _ => false
theorem tagD_no {d : D} (h : d.isS = false) : tagD d = false := by cases d <;> first | rfl | cases h
theorem cutS_len (s : Str) (lo hi : Option Int) : (cutS s lo hi).length ≤ s.length := by
  unfold cutS
  show (((s.cps.toList.drop _).take _).toArray).size ≤ _
  rw [List.size_toArray, List.length_take, List.length_drop, Array.length_toList]
  exact Nat.le_trans (Nat.min_le_right _ _) (Nat.sub_le _ _)
theorem ok_is_tag (E : En K mg) (F : Df K mg "is_tag" s_is_tag) (c_consists_of : Ca P w K mg base 1 "consists_of" spCons) : Ca P w K mg base 2 "is_tag" (spD1 tagD) := by
  refine ca_mk F sc_is_tag (fun _ _ _ _ _ _ us hl => match us, hl with | [_], _ => rfl) spD1_len (fun f cdv A outer s H vs Q E' hr h => ?_)
  obtain ⟨v, d, rfl, hd, q⟩ := h
  refine ⟨_, (pss_cons (ps_if (PW.pt (pw_or (pt_not (pt_val (pe_callB (isiU (K := K) rfl) (by rfl) (E.fr (x := "isinstance") (by decide +kernel)) (by decide +kernel) (pa_cons (pv 0) (pa_cons (pe_bltn (by rfl) (E.fr (x := "str") (by decide +kernel)) (by decide +kernel) (show RelV (.ty "str") (.type "str") from rfl)) pa_nil))))) (pw_or1 (pt_not (pt_chain op_leU op_leU pe_int (pe_callB (lenU (K := K) rfl) (by rfl) (E.fr (x := "len") (by decide +kernel)) (by decide +kernel) (pa_cons (pv 0) pa_nil)) (pe_gc (by rfl) E.c_longest_word)))))) (pss_one (ps_ret pe_bl)) pss_nil)
      (pss_one (ps_ret (pe_and (pe_cmpR (inU (K := K) rfl) (pe_ix (ixU (K := K) rfl) (pv 0) pe_int (fun _ _ => rfl)) (pe_gc (by rfl) E.c_large_letters) (by rfl)) (pe_one (pe_ca c_consists_of (hr.mono (by first | decide | omega)) (by rfl) (pa_cons (pe_slice (slU (K := K) rfl) (pv 0) (po_some pe_int) po_none) (pa_cons (pe_gc (by rfl) E.c_small_letters) pa_nil)))))))), ?_⟩
  cases hS : d.isS with
  | false =>
    refine q_ifr (v := .bl false) (Iv.non H) (k_to (k_or (b := true) (k_not (k_b (x_isiD (e_vx rfl) hd (kit_s d)))) fun e => absurd e (by rw [hS]; decide)) (b := true) (by rw [hS]; rfl)) (fun _ => e_cx) (fun _ H1 _ g => ?_) (fun e => nomatch e)
    have := q H1 g
    rw [tagD_no hS] at this
    exact this
  | true =>
    obtain ⟨s, rfl, rfl, hz⟩ := dat_str hd hS
    refine q_ifr (v := .bl false) (b := !(lenIn s)) (Iv.non H) (k_to (k_or (k_not (k_b (x_isiD (e_vx rfl) hd (kit_s _)))) fun _ => k_not (k_chain (x_chainI (i := 1) (k := 8) (g := fun i j => decide (i ≤ j)) (g' := fun i j => decide (i ≤ j)) e_cx (x_len (e_vx rfl) (big hz)) e_cx (fun H1 iv => r_leI iv) (fun H1 iv => r_leI iv)))) rfl) (fun _ => e_cx) (fun e H1 _ g => ?_) (fun e H1 i1 g => ?_)
    · have := q H1 g
      rw [show tagD (.str s) = false from by show (lenIn s && _) = false; rw [(Bool.not_eq_true' _).mp e]; rfl] at this
      exact this
    · have hl : lenIn s = true := by cases hh : lenIn s <;> rw [hh] at e <;> first | rfl | cases e
      refine s_retx i1 (x_and (x_inS (x_ixS (c := hd0 s) (e_vx rfl) e_cx (big hz) (at0 (lenIn_1 hl))) e_cx) fun _ => x_call (a_cons (x_slS (lo := some 1) (hi := none) (e_vx rfl) (fun _ _ q => o_int q) (fun _ _ q => o_none q) (big hz)) (a_cons e_cx a_nil)) fun H2 g2 => pu_cons (Nat.le_trans (cutS_len _ _ _) hz)) fun H2 _ g2 => ?_
      have := q H2 (g.trans g2)
      rw [show tagD (.str s) = (decide (hd0 s ∈ sLarge.cps.toList) && allIn (cutS s (some 1) none) sSmall) from by show (lenIn s && _) = _; rw [hl]; rfl] at this
      exact this
end
end K12
namespace K12
open PySem PySem.Spec PyProof.Rows L2 Hk
/-! ### forms -/
def opsD : List D → Option (List D)
  | .str w :: r =>
    if decide (V.str w = V.str "self") = true then (if decide (((D.str w :: r).length : Int) = 1) = true then some [] else none)
    else if decide (V.str w = V.str "tag") = true then (match r with
      | t :: es => if tagD t = true then some es else none
      | [] => none)
    else if decide (V.str w = V.str "not") = true then (if decide (((D.str w :: r).length : Int) = 2) = true then some r else none)
    else if (inV (.str w) (wsP.map V.str) && decide (((D.str w :: r).length : Int) = 3)) = true then some r else none
  | _ => none
theorem opsD_eq (w : Str) (r : List D) : opsD (.str w :: r) = (if decide (V.str w = V.str "self") = true then (if decide (((D.str w :: r).length : Int) = 1) = true then some [] else none)
    else if decide (V.str w = V.str "tag") = true then (match r with
      | t :: es => if tagD t = true then some es else none
      | [] => none)
    else if decide (V.str w = V.str "not") = true then (if decide (((D.str w :: r).length : Int) = 2) = true then some r else none)
    else if (inV (.str w) (wsP.map V.str) && decide (((D.str w :: r).length : Int) = 3)) = true then some r else none) := rfl
def opsO : D → Option (List D)
  | .tup ds => opsD ds
  | _ => none
def form : Nat → D → Bool
  | 0, _ => false
  | n + 1, d => match d with
    | .bl _ => true
    | .int i => decide (-tooLong < i) && decide (i < tooLong)
    | .str s => isName s
    | .tup ds => (match opsD ds with
      | none => false
      | some es => es.all (form n))
    | _ => false
def sOps (p : Vo) (o : Option (List D)) : Sy p := ⟨fun v H => (o = none ∧ v = .non) ∨ ∃ es, o = some es ∧ Dat p H v (.tup es), fun v H H' g h => h.elim .inl fun ⟨es, h1, h2⟩ => .inr ⟨es, h1, h2.gr g⟩⟩
def spOps : Sp := fun vs H Q _ => ∃ v ds, vs = [v] ∧ Dat Vo.non H v (.tup ds) ∧ ∀ r H', Gr Vo.non H H' → (sOps Vo.non (opsD ds)).P r H' → Q r H'
theorem cut_from {xs : List V} (k : Nat) : cutV xs (some (k : Int)) none = xs.drop k := by
  unfold cutV
  rw [HT.sIx_nat, HT.sIx_none]
  by_cases h : k ≤ xs.length
  · rw [Nat.min_eq_left h]
    exact List.take_of_length_le (by rw [List.length_drop]; exact Nat.le_refl _)
  · rw [Nat.min_eq_right (by omega), List.drop_eq_nil_of_le (Nat.le_refl _), List.drop_eq_nil_of_le (by omega), List.take_nil]
theorem dat_from {p : Vo} {H H' : Hp} {vs : List V} {ds : List D} (k : Nat) (l : vs.length = ds.length) (hz : vs.length ≤ 100000) (r : ∀ (i : Nat) (v : V) (d : D), vs[i]? = some v → ds[i]? = some d → Dat p H v d) (g : Gr p H H') {x : V} (h : (stx (p := p) (cutV vs (some (k : Int)) none)).P x H') : Dat p H' x (.tup (ds.drop k)) := by
  obtain ⟨b, ws, rfl, nb, hb, rfl⟩ := h
  rw [cut_from] at hb
  refine .tup nb hb (by rw [List.length_drop, List.length_drop, l]) (by rw [List.length_drop]; omega) fun i v d h1 h2 => ?_
  rw [List.getElem?_drop] at h1 h2
  exact (r _ v d h1 h2).gr g
theorem not_whole {n : Nat} (k : Nat) (h0 : 0 < k) (h : 0 < n) : ¬ (HT.sIx n 0 (some (k : Int)) = 0 ∧ HT.sIx n n none = n) := by
  rw [HT.sIx_nat]
  intro ⟨e, _⟩
  have : min k n ≠ 0 := by omega
  exact this e
section
variable {P : Program} {w : World} {K : PySem.W.Frag} {mg : Str → Option Value} {base : Heap}
theorem k_tru {p : Vo} {σ : L2.St} {H : Hp} {ta : TE} {a : Addr} {xs : List V} (ha : Ev p ta σ H (sx (.ref a))) (h : ∀ H1, Gr p H H1 → SqT K H1 a xs) : Tis p (fun σ H Q => ta σ H fun x H' => ∃ k, TruV K x H' k ∧ Q k H') σ H (!xs.isEmpty) := fun H1 i g Q q =>
  ha H1 i g _ fun v H2 i2 g2 e => by
    rw [show v = .ref a from e]
    exact ⟨_, .inr (.inl ⟨xs, h H2 (g.trans g2), rfl⟩), q _ H2 i2 g2 rfl⟩
theorem Ca.mono {j k : Nat} {x : Str} {sp : Sp} (c : Ca P w K mg base j x sp) (h : j ≤ k) : Ca P w K mg base k x sp := by
  obtain ⟨f, fd, ps, F, r⟩ := c.ex
  exact ⟨f, fd, ps, F.mono h, r⟩
theorem ok_operands_of (E : En K mg) (F : Df K mg "operands_of" s_operands_of) (c_is_tag : Ca P w K mg base 2 "is_tag" (spD1 tagD)) : Ca P w K mg base 3 "operands_of" spOps := by
  refine ca_mk F sc_operands_of (fun _ _ _ _ _ _ us hl => match us, hl with | [_], _ => rfl) (fun vs H Q E h => by obtain ⟨v, d, rfl, _⟩ := h; rfl) (fun f cdv A outer s H vs Q E' hr h => ?_)
  obtain ⟨v, ds, rfl, hd, q⟩ := h
  refine ⟨_, (pss_cons (ps_if (PW.pt (pw_or (pt_not (pt_truth (pv 0) (by intro _; rfl))) (pw_or1 (pt_not (pt_val (pe_callB (isiU (K := K) rfl) (by rfl) (E.fr (x := "isinstance") (by decide +kernel)) (by decide +kernel) (pa_cons (pe_ix (ixU (K := K) rfl) (pv 0) pe_int (fun _ _ => rfl)) (pa_cons (pe_bltn (by rfl) (E.fr (x := "str") (by decide +kernel)) (by decide +kernel) (show RelV (.ty "str") (.type "str") from rfl)) pa_nil)))))))) (pss_one (ps_ret pe_non)) pss_nil)
      (pss_cons (ps_set (i := 1) sc_operands_of.nd rfl (Or.inl rfl) (pe_ix (ixU (K := K) rfl) (pv 0) pe_int (fun _ _ => rfl)))
      (pss_cons (ps_if (pt_cmpR op_eq (pv 1) pe_str (nomark _)) (pss_one (ps_ret (pe_ifExp (pt_cmpR op_eq (pe_callB (lenU (K := K) rfl) (by rfl) (E.fr (x := "len") (by decide +kernel)) (by decide +kernel) (pa_cons (pv 0) pa_nil)) pe_int (nomark _)) (pe_tup pa_nil) pe_non))) pss_nil)
      (pss_cons (ps_if (pt_cmpR op_eq (pv 1) pe_str (nomark _)) (pss_one (ps_ret (pe_ifExp (PW.pt (pw_and (pt_cmpR op_gt (pe_callB (lenU (K := K) rfl) (by rfl) (E.fr (x := "len") (by decide +kernel)) (by decide +kernel) (pa_cons (pv 0) pa_nil)) pe_int (nomark _)) (pw_and1 (pt_val (pe_ca c_is_tag (hr.mono (by first | decide | omega)) (by rfl) (pa_cons (pe_ix (ixU (K := K) rfl) (pv 0) pe_int (fun _ _ => rfl)) pa_nil)))))) (pe_slice (slU (K := K) rfl) (pv 0) (po_some pe_int) po_none) pe_non))) pss_nil)
      (pss_cons (ps_if (pt_cmpR op_eq (pv 1) pe_str (nomark _)) (pss_one (ps_ret (pe_ifExp (pt_cmpR op_eq (pe_callB (lenU (K := K) rfl) (by rfl) (E.fr (x := "len") (by decide +kernel)) (by decide +kernel) (pa_cons (pv 0) pa_nil)) pe_int (nomark _)) (pe_slice (slU (K := K) rfl) (pv 0) (po_some pe_int) po_none) pe_non))) pss_nil)
      (pss_one (ps_ret (pe_ifExp (PW.pt (pw_and (pt_cmpR (inU (K := K) rfl) (pv 1) (pe_gc (by rfl) E.c_pair_operators) (by rfl)) (pw_and1 (pt_cmpR op_eq (pe_callB (lenU (K := K) rfl) (by rfl) (E.fr (x := "len") (by decide +kernel)) (by decide +kernel) (pa_cons (pv 0) pa_nil)) pe_int (nomark _))))) (pe_slice (slU (K := K) rfl) (pv 0) (po_some pe_int) po_none) pe_non)))))))), ?_⟩
  cases hd with
  | @tup a xs _ na ha hl hz r =>
  have seq : ∀ H1, Gr Vo.non H H1 → SqT K H1 a xs := fun H1 g => SqT.of (g a _ na ha)
  have isq : ∀ H0, Gr Vo.non H H0 → ∀ v H1, Gr Vo.non H0 H1 → (sx (p := Vo.non) (.ref a)).P v H1 → ∃ a, v = .ref a ∧ (SqL K H1 a xs ∨ SqT K H1 a xs) := fun H0 g0 v H1 g e => ⟨a, e, .inr (seq H1 (g0.trans g))⟩
  cases ds with
  | nil =>
    obtain rfl : xs = [] := List.length_eq_zero_iff.mp hl
    refine q_ifr (v := .non) (b := true) (Iv.non H) (k_to (k_or (b := true) (k_not (k_tru (e_vx rfl) seq)) fun e => (nomatch e)) rfl) (fun _ => e_cx) (fun _ H1 _ g => q _ H1 g (.inl ⟨rfl, rfl⟩)) fun e => (nomatch e)
  | cons d0 ds =>
    cases xs with
    | nil => cases hl
    | cons v0 xs =>
    have r0 : Dat Vo.non H v0 d0 := r 0 v0 d0 rfl rfl
    have at0' : atI (v0 :: xs) 0 = some v0 := atI_nat (j := 0) rfl
    have len : ((v0 :: xs).length : Int) = (((d0 :: ds).length : Nat) : Int) := by rw [hl]
    cases hS : d0.isS with
    | false =>
      refine q_ifr (v := .non) (b := true) (Iv.non H) (k_to (k_or (b := true) (k_not (k_tru (e_vx rfl) seq)) fun _ => k_to (k_not (k_b (x_isiD (d := d0) (x_ixQ (e_vx rfl) (isq H (Gr.refl H)) e_cx at0') r0 (kit_s d0)))) (by rw [hS]; rfl)) rfl) (fun _ => e_cx) (fun _ H1 _ g => q _ H1 g (.inl ⟨?_, rfl⟩)) fun e => (nomatch e)
      cases d0 <;> first | rfl | cases hS
    | true =>
      obtain ⟨wd, rfl, rfl, hwz⟩ := dat_str r0 hS
      refine q_ifr (v := .non) (b := false) (Iv.non H) (k_to (k_or (b := false) (k_not (k_tru (e_vx rfl) seq)) fun _ => k_to (k_not (k_b (x_isiD (d := .str wd) (x_ixQ (e_vx rfl) (isq H (Gr.refl H)) e_cx at0') r0 (kit_s _)))) rfl) rfl) (fun _ => e_cx) (fun e => (nomatch e)) fun _ H1 i1 g1 => ?_
      refine q_asgx (v := .str wd) i1 (x_ixQ (e_vx rfl) (isq H1 g1) e_cx at0') fun H2 i2 g2 => ?_
      have gg2 := g1.trans g2
      have fin : ∀ {H3 : Hp} (g3 : Gr Vo.non H2 H3) v H4, Gr Vo.non H3 H4 → (sOps Vo.non (opsD (.str wd :: ds))).P v H4 → Q v H4 := fun g3 v H4 g4 h => q v H4 ((gg2.trans g3).trans g4) h
      have xlen : ∀ {σ : L2.St} {H3 : Hp} (g3 : Gr Vo.non H2 H3) {n : Int}, σ[0]? = some (some (.ref a)) → Tis Vo.non (tTest (tOp rEq (tCB (rLenK K) (tCons (tVar 0) tNil)) (tC (.int n)))) σ H3 (decide (((D.str wd :: ds).length : Int) = n)) := fun {σ H3} g3 {n} hσ =>
        k_to (k_test (x_eq (x := .int ((V.str wd :: xs).length)) (y := .int n) (x_lenQ (e_vx hσ) (isq H3 (gg2.trans g3))) e_cx rfl)) (by
          rw [len]
          by_cases hh : (((D.str wd :: ds).length : Nat) : Int) = n
          · rw [decide_eq_true hh, decide_eq_true (by rw [hh])]
          · rw [decide_eq_false hh, decide_eq_false fun z => hh (V.int.inj z)])
      have lim : (V.str wd :: xs).length ≤ 100000 := hz
      have slc : ∀ {σ : L2.St} {H3 : Hp} (g3 : Gr Vo.non H2 H3) (k : Nat), 0 < k → σ[0]? = some (some (.ref a)) → opsD (.str wd :: ds) = some ((D.str wd :: ds).drop k) → Ev Vo.non (tSl (rSlU K) (tVar 0) (tPart (tC (.int (k : Int)))) tNoPart) σ H3 (sOps Vo.non (opsD (.str wd :: ds))) := fun {σ H3} g3 k hk hσ ho H4 i4 g4 Q' q' =>
        x_slT (xs := V.str wd :: xs) (lo := some (k : Int)) (hi := none) (e_vx hσ) (fun v H1 g e => ⟨a, e, seq H1 ((gg2.trans g3).trans g)⟩) (fun _ _ q => o_int q) (fun _ _ q => o_none q) (not_whole k hk (by rw [List.length_cons]; omega)) H4 i4 g4 Q' fun v H5 i5 g5 h => q' v H5 i5 g5 (.inr ⟨_, ho, dat_from k hl lim r (((gg2.trans g3).trans g4).trans g5) h⟩)
      refine q_ifS (b := decide (V.str wd = V.str "self")) (A := sOps Vo.non (opsD (.str wd :: ds))) i2 (k_test (x_eq (x := .str wd) (y := .str "self") (e_vx rfl) e_cx rfl)) (fun e => e_if (xlen (Gr.refl H2) rfl) (fun e4 => (x_tup (ws := []) a_nil (big (by decide))).imp fun x H4 h => ?a1) fun e4 => e_c (.inl ⟨?a2, rfl⟩)) (fun _ v H4 _ g4 h => fin (Gr.refl H2) v H4 g4 h) fun e H3 i3 g3 => ?a3
      case a1 =>
        obtain ⟨b, ws, rfl, nb, hb, rfl⟩ := h
        exact .inr ⟨[], by rw [opsD_eq, if_pos e, if_pos e4.symm], .tup nb hb rfl (by decide) fun i v d h _ => by cases h⟩
      case a2 => rw [opsD_eq, if_pos e, if_neg (by rw [← e4]; decide)]
      refine q_ifS (b := decide (V.str wd = V.str "tag")) (A := sOps Vo.non (opsD (.str wd :: ds))) i3 (k_test (x_eq (x := .str wd) (y := .str "tag") (e_vx rfl) e_cx rfl)) (fun e5 => ?b1) (fun _ v H4 _ g4 h => fin g3 v H4 g4 h) fun e5 H4 i4 g4 => ?b3
      case b1 =>
        cases ds with
        | nil =>
          obtain rfl : xs = [] := List.length_eq_zero_iff.mp (Nat.succ.inj hl)
          refine e_if (B := fun b => b = false) (k_to (k_and (a := false) (b := true) (k_to (k_test (x_ii (i := 1) (j := 1) (x_lenQ (xs := [V.str wd]) (e_vx rfl) (isq H3 (gg2.trans g3))) e_cx)) rfl) fun z => (nomatch z)) (b := false) rfl) (fun z => (nomatch z)) fun _ => e_c (.inl ⟨?_, rfl⟩)
          rw [opsD_eq, if_neg (by rw [e]; decide), if_pos e5]
        | cons t es =>
          cases xs with
          | nil => cases hl
          | cons v1 xs =>
          have r1 : Dat Vo.non H v1 t := r 1 v1 t rfl rfl
          have ho : opsD (.str wd :: t :: es) = if tagD t = true then some es else none := by rw [opsD_eq, if_neg (by rw [e]; decide), if_pos e5]
          refine e_if (B := fun b => b = tagD t) (k_to (k_and (a := true) (b := tagD t) (k_to (k_test (x_ii (i := ((V.str wd :: v1 :: xs).length : Int)) (j := 1) (x_lenQ (xs := V.str wd :: v1 :: xs) (e_vx rfl) (isq H3 (gg2.trans g3))) e_cx)) (decide_eq_true (by rw [List.length_cons, List.length_cons]; omega))) fun _ => k_b (x_call (ws := [v1]) (a_cons (x_ixQ (xs := V.str wd :: v1 :: xs) (e_vx rfl) (isq H3 (gg2.trans g3)) e_cx (atI_nat (j := 1) rfl)) a_nil) fun H5 g5 => pu_D1 (r1.gr ((gg2.trans g3).trans g5)))) rfl) (fun z => slc g3 2 (by decide) rfl (by rw [ho, if_pos z.symm]; rfl)) fun z => e_c (.inl ⟨by rw [ho, if_neg (by rw [← z]; decide)], rfl⟩)
      have gg4 := g3.trans g4
      refine q_ifS (b := decide (V.str wd = V.str "not")) (A := sOps Vo.non (opsD (.str wd :: ds))) i4 (k_test (x_eq (x := .str wd) (y := .str "not") (e_vx rfl) e_cx rfl)) (fun e6 => e_if (xlen gg4 rfl) (fun z => slc gg4 1 (by decide) rfl ?c1) fun z => e_c (.inl ⟨?c2, rfl⟩)) (fun _ v H5 _ g5 h => fin gg4 v H5 g5 h) fun e6 H5 i5 g5 => ?c3
      case c1 => rw [opsD_eq, if_neg (by rw [e]; decide), if_neg (by rw [e5]; decide), if_pos e6, if_pos z.symm]; rfl
      case c2 => rw [opsD_eq, if_neg (by rw [e]; decide), if_neg (by rw [e5]; decide), if_pos e6, if_neg (by rw [← z]; decide)]
      have gg5 := gg4.trans g5
      refine s_ret (A := sOps Vo.non (opsD (.str wd :: ds))) i5 (e_if (B := fun b => b = (inV (.str wd) (wsP.map V.str) && decide (((D.str wd :: ds).length : Int) = 3))) (k_and (k_test (x_inQ (v := .str wd) (e_vx rfl) rfl e_cx (sq_k E.t_pair) (flat_strs _))) fun _ => xlen gg5 rfl) (fun z => slc gg5 1 (by decide) rfl ?d1) fun z => e_c (.inl ⟨?d2, rfl⟩)) fun v H6 _ g6 h => fin gg5 v H6 g6 h
      case d1 => rw [opsD_eq, if_neg (by rw [e]; decide), if_neg (by rw [e5]; decide), if_neg (by rw [e6]; decide), if_pos z.symm]; rfl
      case d2 => rw [opsD_eq, if_neg (by rw [e]; decide), if_neg (by rw [e5]; decide), if_neg (by rw [e6]; decide), if_neg (by rw [← z]; decide)]
end
end K12
namespace K12
open PySem PySem.Spec PyProof.Rows L2 Hk
section
variable {P : Program} {w : World} {K : PySem.W.Frag} {mg : Str → Option Value} {base : Heap}
def spLev (n : Nat) : Sp := fun vs H Q _ => ∃ v d, vs = [v, .int (n : Nat)] ∧ Dat Vo.non H v d ∧ ∀ H', Gr Vo.non H H' → Q (.bl (form n d)) H'
/-- what a level's def may ask of the one below: nothing can be asked with no level -/
def spLow : Nat → Sp
  | 0 => fun _ _ _ _ => False
  | n + 1 => spLev n
theorem spLev_len {n : Nat} : ∀ vs H Q E, spLev n vs H Q E → vs.length = 2 := fun vs H Q E h => by obtain ⟨v, d, rfl, _⟩ := h; rfl
theorem pu_lev {n : Nat} {v : V} {d : D} {H : Hp} (h : Dat Vo.non H v d) : Pu (spLev n) [v, .int (n : Nat)] H (.bl (form n d)) := fun Q E k => ⟨v, d, rfl, h, k⟩
def intIn : D → Bool
  | .int i => decide (-tooLong < i) && decide (i < tooLong)
  | _ => false
theorem dat_int {p : Vo} {H : Hp} {v : V} {d : D} (h : Dat p H v d) (e : d.isI = true) (e' : d.isB = false) : ∃ i, v = .int i ∧ d = .int i := by
  cases h with
  | int i => exact ⟨i, rfl, rfl⟩
  | bl b => cases e'
  | _ => cases e
theorem dat_tup {p : Vo} {H : Hp} {v : V} {d : D} (h : Dat p H v d) (e : d.isT = true) : ∃ ds, d = .tup ds := by
  cases h with
  | tup n h l hz r => exact ⟨_, rfl⟩
  | _ => cases e
theorem form_rest {n : Nat} {d : D} (hB : d.isB = false) (hI : d.isI = false) (hS : d.isS = false) : form (n + 1) d = match opsO d with
    | none => false
    | some es => es.all (form n) := by
  cases d with
  | bl b => cases hB
  | int i => cases hI
  | str s => cases hS
  | _ => rfl
theorem ok_has_levels (E : En K mg) (F : Df K mg "has_levels" s_has_levels) (n : Nat) (c_has_levels : Ca P w K mg base (4 + n) "has_levels" (spLow n)) (c_is_name : Ca P w K mg base 2 "is_name" (spD1 nameD)) (c_operands_of : Ca P w K mg base 3 "operands_of" spOps) : Ca P w K mg base (4 + n + 1) "has_levels" (spLev n) := by
  refine ca_mk F sc_has_levels (fun _ _ _ _ _ _ us hl => match us, hl with | [_, _], _ => rfl) spLev_len (fun f cdv A outer s H vs Q E' hr h => ?_)
  obtain ⟨v, d, rfl, hd, q⟩ := h
  refine ⟨_, (pss_cons (ps_if (pt_cmpR op_eq (pv 1) pe_int (nomark _)) (pss_one (ps_ret pe_bl)) pss_nil)
      (pss_cons (ps_if (pt_val (pe_callB (isiU (K := K) rfl) (by rfl) (E.fr (x := "isinstance") (by decide +kernel)) (by decide +kernel) (pa_cons (pv 0) (pa_cons (pe_bltn (by rfl) (E.fr (x := "bool") (by decide +kernel)) (by decide +kernel) (show RelV (.ty "bool") (.type "bool") from rfl)) pa_nil)))) (pss_one (ps_ret pe_bl)) pss_nil)
      (pss_cons (ps_if (pt_val (pe_callB (isiU (K := K) rfl) (by rfl) (E.fr (x := "isinstance") (by decide +kernel)) (by decide +kernel) (pa_cons (pv 0) (pa_cons (pe_bltn (by rfl) (E.fr (x := "int") (by decide +kernel)) (by decide +kernel) (show RelV (.ty "int") (.type "int") from rfl)) pa_nil)))) (pss_one (ps_ret (pe_chain op_lt op_lt (pe_un un_neg (pe_gc (by rfl) E.c_too_long)) (pv 0) (pe_gc (by rfl) E.c_too_long)))) pss_nil)
      (pss_cons (ps_if (pt_val (pe_callB (isiU (K := K) rfl) (by rfl) (E.fr (x := "isinstance") (by decide +kernel)) (by decide +kernel) (pa_cons (pv 0) (pa_cons (pe_bltn (by rfl) (E.fr (x := "str") (by decide +kernel)) (by decide +kernel) (show RelV (.ty "str") (.type "str") from rfl)) pa_nil)))) (pss_one (ps_ret (pe_ca c_is_name (hr.mono (by first | decide | omega)) (by rfl) (pa_cons (pv 0) pa_nil)))) pss_nil)
      (pss_cons (ps_set (i := 2) sc_has_levels.nd rfl (Or.inl rfl) (pe_ifExp (pt_val (pe_callB (isiU (K := K) rfl) (by rfl) (E.fr (x := "isinstance") (by decide +kernel)) (by decide +kernel) (pa_cons (pv 0) (pa_cons (pe_bltn (by rfl) (E.fr (x := "tuple") (by decide +kernel)) (by decide +kernel) (show RelV (.ty "tuple") (.type "tuple") from rfl)) pa_nil)))) (pe_ca c_operands_of (hr.mono (by first | decide | omega)) (by rfl) (pa_cons (pv 0) pa_nil)) pe_non))
      (pss_cons (ps_if (pt_cmpR op_isN (pv 2) pe_non (nomark _)) (pss_one (ps_ret pe_bl)) pss_nil)
      (pss_one (ps_ret (pe_callB (allU (K := K) rfl rfl) (by rfl) (E.fr (x := "all") (by decide +kernel)) (by decide +kernel) (pa_cons (pe_lc (own := [("operand", 3)]) (g := (gName 3)) (tt := tYes) rfl sc_has_levels.nd (pi_tup (pv 2)) (blkOk_by (own := [("operand", 3)]) (N := ["value", "levels", "operands", "operand"]) (sc := defScope s_has_levels) (by decide +kernel)) (fun _ _ _ _ _ => (pg_name (i := 3) sc_has_levels.nd rfl (Or.inl rfl))) (fun _ _ _ _ _ => pts_nil) (fun _ _ _ _ _ => (pe_ca c_has_levels (hr.mono (by first | decide | omega)) (by rfl) (pa_cons (pv 3) (pa_cons (pe_op op_sub (pv 1) pe_int) pa_nil))))) pa_nil)))))))))), ?_⟩
  refine q_ifr (v := .bl false) (b := decide (V.int (n : Nat) = V.int 0)) (Iv.non H) (k_test (x_eq (x := .int (n : Nat)) (y := .int 0) (e_vx rfl) e_cx rfl)) (fun _ => e_cx) (fun e H1 _ g1 => ?_) fun e H1 i1 g1 => ?_
  · have e0 : n = 0 := by
      have : ((n : Nat) : Int) = 0 := V.int.inj (of_decide_eq_true e)
      omega
    subst e0
    exact q H1 g1
  · cases n with
    | zero => cases e
    | succ n =>
    refine q_ifr (v := .bl true) (b := d.isB) i1 (k_b (x_isiD (e_vx rfl) (hd.gr g1) (kit_b d))) (fun _ => e_cx) (fun hB H2 _ g2 => ?_) fun hB H2 i2 g2 => ?_
    · have := q H2 (g1.trans g2)
      rw [show form (n + 1) d = true from by cases d <;> first | rfl | cases hB] at this
      exact this
    have g12 := g1.trans g2
    refine q_ifr (v := .bl (intIn d)) (b := d.isI) i2 (k_b (x_isiD (e_vx rfl) (hd.gr g12) (kit_i d))) (fun hI => ?_) (fun hI H3 _ g3 => ?_) fun hI H3 i3 g3 => ?_
    · obtain ⟨i, rfl, rfl⟩ := dat_int hd hI hB
      exact x_chainI (i := -tooLong) (j := i) (k := tooLong) (g := fun i j => decide (i < j)) (g' := fun i j => decide (i < j)) (x_neg e_cx) (e_vx rfl) e_cx (fun H1 iv => r_ltI iv) fun H1 iv => r_ltI iv
    · obtain ⟨i, rfl, rfl⟩ := dat_int hd hI hB
      exact q H3 (g12.trans g3)
    have g13 := g12.trans g3
    refine q_ifr (v := .bl (nameD d)) (b := d.isS) i3 (k_b (x_isiD (e_vx rfl) (hd.gr g13) (kit_s d))) (fun hS => x_call (a_cons (e_vx rfl) a_nil) fun H4 g4 => pu_D1 (hd.gr (g13.trans g4))) (fun hS H4 _ g4 => ?_) fun hS H4 i4 g4 => ?_
    · have := q H4 (g13.trans g4)
      rw [show form (n + 1) d = nameD d from by cases d <;> first | rfl | cases hS] at this
      exact this
    have g14 := g13.trans g4
    refine q_asg (A := sOps Vo.non (opsO d)) i4 (e_if (B := fun b => b = d.isT) (k_b (x_isiD (e_vx rfl) (hd.gr g14) (kit_t d))) (fun hT => ?_) fun hT => e_c (.inl ⟨(by cases d <;> first | rfl | exact nomatch hT), rfl⟩)) fun r H5 i5 g5 hr5 => ?_
    · obtain ⟨ds, rfl⟩ := dat_tup hd hT.symm
      exact e_call (a_cons (e_vx rfl) a_nil) fun vs H5 iv g5 os Q' q' => by
        obtain ⟨x, ws, e1, ex, e2⟩ := os
        rw [e1, e2, show x = v from ex]
        exact ⟨v, ds, rfl, hd.gr (g14.trans g5), fun r H6 g6 h6 => q' r H6 (Iv.non _) g6 h6⟩
    have g15 := g14.trans g5
    have hf := form_rest (n := n) hB hI hS
    refine q_ifr (v := .bl false) (b := decide (r = .non)) i5 (k_test (x_isN (e_vx rfl))) (fun _ => e_cx) (fun hN H6 _ g6 => ?_) fun hN H6 i6 g6 => ?_
    · have hN' : r = .non := of_decide_eq_true hN
      subst hN'
      rcases hr5 with ⟨ho, _⟩ | ⟨es, _, h5⟩
      · have := q H6 (g15.trans g6)
        rw [hf, ho] at this
        exact this
      · cases h5
    · rcases hr5 with ⟨_, rfl⟩ | ⟨es, ho, h5⟩
      · exact absurd hN (by decide)
      · cases h5 with
        | @tup a xs _ na ha hl hz hr5 =>
        refine s_retx i6 (allT (ds := es) (xs := xs) (form n) (e_vx rfl) (fun v H7 g7 ev => ⟨a, ev, na, (g6.trans g7) a _ na ha⟩) hz hl (fun _ => rfl) fun i x d E o H7 g7 hE h1 h2 => x_call (a_cons (e_vx rfl) (a_cons (x_to (x_ii (i := ((n + 1 : Nat) : Int)) (j := 1) (e_vx rfl) e_cx) (w := .int (n : Nat)) (by
          show V.int (((n + 1 : Nat) : Int) - 1) = V.int (n : Nat)
          congr 1
          omega)) a_nil)) fun H8 g8 => pu_lev (((hr5 i x d h1 h2).gr (g6.trans g7)).and hE |>.gr g8 |>.non')) fun H7 _ g7 => ?_
        have := q H7 ((g15.trans g6).trans g7)
        rw [hf, ho] at this
        exact this
theorem has_all (E : En K mg) (F : Df K mg "has_levels" s_has_levels) (c_is_name : Ca P w K mg base 2 "is_name" (spD1 nameD)) (c_operands_of : Ca P w K mg base 3 "operands_of" spOps) : ∀ n, Ca P w K mg base (4 + n) "has_levels" (spLow n)
  | 0 => ca_mk F sc_has_levels (fun _ _ _ _ _ _ us hl => match us, hl with | [_, _], _ => rfl) (fun _ _ _ _ h => h.elim) fun _ _ _ _ _ _ _ _ _ _ h => h.elim
  | n + 1 => ok_has_levels E F n (has_all E F c_is_name c_operands_of n) c_is_name c_operands_of
theorem ok_is_expression (E : En K mg) (F : Df K mg "is_expression" s_is_expression) (c_has_levels : Ca P w K mg base 10 "has_levels" (spLev 5)) : Ca P w K mg base 11 "is_expression" (spD1 (form 5)) := by
  refine ca_mk F sc_is_expression (fun _ _ _ _ _ _ us hl => match us, hl with | [_], _ => rfl) spD1_len (fun f cdv A outer s H vs Q E' hr h => ?_)
  obtain ⟨v, d, rfl, hd, q⟩ := h
  refine ⟨_, (pss_one (ps_ret (pe_ca c_has_levels (hr.mono (by first | decide | omega)) (by rfl) (pa_cons (pv 0) (pa_cons (pe_gc (by rfl) E.c_levels) pa_nil))))), ?_⟩
  exact s_retx (Iv.non H) (x_call (ws := [v, .int (5 : Nat)]) (a_cons (e_vx rfl) (a_cons e_cx a_nil)) fun H2 g2 => pu_lev (hd.gr g2)) fun H1 _ g1 => q H1 g1
end
end K12
namespace K12
open PySem PySem.Spec PyProof.Rows L2 Hk
section
variable {P : Program} {w : World} {K : PySem.W.Frag} {mg : Str → Option Value} {base : Heap}
theorem x_int1 {p : Vo} {σ : L2.St} {H : Hp} {ta : TE} {c : Int → Prop} (ha : Ev p ta σ H (si c)) : Ev p (tCB (fun xs H Q => (∃ i, xs = [.int i] ∧ Q (.int i) H) ∨ ∃ k : Bool, xs = [.bl k] ∧ Q (.int (if k then 1 else 0)) H) (tCons ta tNil)) σ H (si c) := e_cb (a_cons ha a_nil) fun vs H1 iv g os => by
  obtain ⟨v, ws, rfl, ⟨i, rfl, hi⟩, rfl⟩ := os
  exact rv iv ⟨i, rfl, hi⟩ fun Q q => .inl ⟨i, rfl, q⟩
theorem e_i2 {p : Vo} {σ : L2.St} {H : Hp} {ta tb : TE} {c d e : Int → Prop} {r : R2} (ha : Ev p ta σ H (si c)) (hb : Ev p tb σ H (si d)) (hr : ∀ i j H1, Iv p H1 → c i → d j → Rv p (r (.int i) (.int j)) H1 (si e)) : Ev p (tOp r ta tb) σ H (si e) :=
  e_op ha hb fun x y H1 iv g ⟨i, ei, hi⟩ ⟨j, ej, hj⟩ => by rw [ei, ej]; exact hr i j H1 iv hi hj
theorem r_mul {p : Vo} {i j : Int} {H1 : Hp} {e : Int → Prop} (iv : Iv p H1) (hc : CMul i j) (he : e (i * j)) : Rv p (rMulU (.int i) (.int j)) H1 (si e) := rv iv ⟨_, rfl, he⟩ fun Q q => .inl ⟨i, j, rfl, rfl, hc, q⟩
theorem r_add {p : Vo} {i j : Int} {H1 : Hp} {e : Int → Prop} (iv : Iv p H1) (he : e (i + j)) : Rv p (rAddU (.int i) (.int j)) H1 (si e) := rv iv ⟨_, rfl, he⟩ fun Q q => .inl ⟨i, j, rfl, rfl, q⟩
theorem r_ic {p : Vo} {c : Int → Int → Prop} {g : Int → Int → Int} {i j : Int} {H1 : Hp} {e : Int → Prop} (iv : Iv p H1) (hc : c i j) (he : e (g i j)) : Rv p (rI c (fun i j => .int (g i j)) (.int i) (.int j)) H1 (si e) := rv iv ⟨_, rfl, he⟩ fun Q q => ⟨i, j, rfl, rfl, hc, q⟩
theorem r_i0 {p : Vo} {g : Int → Int → Int} {i j : Int} {H1 : Hp} {e : Int → Prop} (iv : Iv p H1) (he : e (g i j)) : Rv p (rI0 (fun i j => .int (g i j)) (.int i) (.int j)) H1 (si e) := rv iv ⟨_, rfl, he⟩ fun Q q => ⟨i, j, rfl, rfl, q⟩
theorem e_ci {p : Vo} {σ : L2.St} {H : Hp} {i : Int} {c : Int → Prop} (h : c i) : Ev p (tC (.int i)) σ H (si c) := e_c ⟨i, rfl, h⟩
/-- % by a written positive number -/
theorem e_mod {p : Vo} {σ : L2.St} {H : Hp} {ta tb : TE} {m : Int} {c : Int → Prop} (ha : Ev p ta σ H (si c)) (hb : Ev p tb σ H (sx (.int m))) (h0 : 0 < m) : Ev p (tOp (rI (fun _ j => 0 < j) fun i j => .int (i % j)) ta tb) σ H (si fun i => 0 ≤ i ∧ i < m) :=
  e_i2 (d := fun j => j = m) ha (hb.imp fun v _ e => ⟨m, e, rfl⟩) fun i j H1 iv _ ej => by
    subst ej
    exact r_ic (g := fun i j => i % j) iv h0 ⟨Int.emod_nonneg _ (by omega), Int.emod_lt_of_pos _ h0⟩
theorem mul_small {i j : Int} (h0 : 0 ≤ i) (h1 : i < 2147483648) : CMul i j := .inl ⟨by omega, by omega⟩
theorem ok_draw (E : En K mg) (F : Df K mg "_law_draw" s__law_draw) : Ca P w K mg base 1 "_law_draw" spDraw := by
  refine ca_mk F sc__law_draw (fun _ _ _ _ _ _ us hl => match us, hl with | [_, _], _ => rfl) (fun vs H Q E h => by obtain ⟨p, a, _, _, ⟨n, rfl, _⟩, _⟩ := h; rfl) (fun f cdv A outer s H vs Q E' hr h => ?_)
  obtain ⟨p, a, hp, iv, ⟨n, rfl, n0, n1⟩, q⟩ := h
  obtain ⟨⟨x, y, hxy, x0, y0, y1⟩, hex⟩ := iv.pot a hp
  refine ⟨_, (pss_cons (ps_if (pt_cmpR op_gt (pe_ix (ixU (K := K) rfl) (pv 0) pe_int (fun _ _ => rfl)) pe_int (nomark _)) (pss_cons (ps_asg (pe_callB call_divmodS (by rfl) (E.fr (x := "divmod") (by decide +kernel)) (by decide +kernel) (pa_cons (pe_ix (ixU (K := K) rfl) (pv 0) pe_int (fun _ _ => rfl)) (pa_cons (pv 1) pa_nil))) (pg_tup rfl (pgs_cons (pg_sub (pv 0) pe_int set_list) (pgs_cons (pg_name (i := 2) sc__law_draw.nd rfl (Or.inl rfl)) pgs_nil))))
      (pss_one (ps_ret (pv 2)))) pss_nil)
      (pss_cons (ps_asg (pe_op op_mod (pe_callTy call_int1 (by rfl) (E.fr (x := "int") (by decide +kernel)) (by decide +kernel) (pa_cons (pe_op op_addU (pe_op op_mulU (pe_ix (ixU (K := K) rfl) (pv 0) pe_int (fun _ _ => rfl)) pe_int) pe_int) pa_nil)) pe_int) (pg_sub (pv 0) pe_int set_list))
      (pss_one (ps_ret (pe_op op_mod (pe_callTy call_int1 (by rfl) (E.fr (x := "int") (by decide +kernel)) (by decide +kernel) (pa_cons (pe_op op_fdiv (pe_op op_mod (pe_callTy call_int1 (by rfl) (E.fr (x := "int") (by decide +kernel)) (by decide +kernel) (pa_cons (pe_op op_mulU (pe_ix (ixU (K := K) rfl) (pv 0) pe_int (fun _ _ => rfl)) (pe_ix (ixU (K := K) rfl) (pv 0) pe_int (fun _ _ => rfl))) pa_nil)) pe_int) pe_int) pa_nil)) (pv 1)))))), ?_⟩
  have isq : ∀ {H0}, Gr Vo.non H H0 → ∀ v H1, Gr Vo.non H0 H1 → (sx (p := Vo.non) (.ref a)).P v H1 → ∃ a, v = .ref a ∧ (SqL K H1 a [.int x, .int y] ∨ SqT K H1 a [.int x, .int y]) := fun g0 v H1 g e => ⟨a, e, .inl (SqL.of ((g0.trans g) a _ (nv_non a) hxy))⟩
  -- behind all: the pot holds x', y'
  have fin : ∀ {H1 : Hp} (x' y' r : Int), Gr Vo.non H H1 → 0 ≤ x' → 0 ≤ y' → y' < 2147483648 → 0 ≤ r → r < n → ∀ {H2 : Hp}, Gr Vo.non (upd H1 a (.lst [.int x', .int y'])) H2 → Q (.int r) H2 := fun {H1} x' y' r g1 hx hy hy' h0 h1 {H2} g2 => by
    have po : Pot (upd H1 a (.lst [.int x', .int y'])) a := ⟨x', y', upd_same, hx, hy, hy'⟩
    have ga : Gr (Vo.of a) H (upd H1 a (.lst [.int x', .int y'])) := fun b o nb hb => by
      rw [upd_ne (show b ≠ a from fun e => nb.1 (by rw [e]; rfl))]
      exact g1 b o (nv_non b) hb
    exact q _ H2 ((iv.drawn hp po ga).grow g2) ((Gr.drawn hp ga).trans g2.pure) ⟨r, rfl, n, rfl, h0, h1⟩
  refine q_if (p := Vo.non) (B := fun b => b = decide ((0 : Int) < x)) (Iv.non H) (k_test (x_ii (i := x) (j := 0) (x_ixQ (xs := [.int x, .int y]) (e_vx rfl) (isq (Gr.refl H)) e_cx (atI_nat (j := 0) rfl)) e_cx)) (fun _ H1 i1 g1 => ?_) fun _ H1 i1 g1 => ?_
  · have hd : Ev Vo.non (tCB rDm (tCons (tOp (rIx K) (tVar 0) (tC (.int 0))) (tCons (tVar 1) tNil))) [some (.ref a), some (.int n), none] H1 (stx [.int (x / n), .int (x % n)]) := e_cb (a_cons (x_ixQ (xs := [.int x, .int y]) (e_vx rfl) (isq g1) e_cx (atI_nat (j := 0) rfl)) (a_cons (e_vx rfl) a_nil)) fun vs H2 iv2 g2 os => by
      obtain ⟨v, ws, rfl, e1, v2, ws2, rfl, e2, rfl⟩ := os
      exact rv_new iv2 (fun b nb hb i' g' => ⟨b, _, rfl, nb, upd_same, rfl⟩) fun Q q => ⟨x, n, by rw [show v = _ from e1, show v2 = _ from e2], ⟨n0, n1⟩, q⟩
    refine hd H1 i1 (Gr.refl H1) _ fun v H2 _ g2 hv => ?_
    obtain ⟨b, ws, rfl, _, hb, rfl⟩ := hv
    have g12 := g1.trans g2
    refine ⟨b, _, rfl, SqT.of hb, rfl, .int (x / n), [.int (x % n)], rfl, .ref a, rfl, a, [.int x, .int y], 0, 0, rfl, rfl, g12 a _ (nv_non a) hxy, rfl, .int (x % n), [], rfl, rfl, ?_⟩
    refine ⟨.int (x % n), rfl, ?_⟩
    exact fin (x / n) y (x % n) g12 (Int.ediv_nonneg x0 (by omega)) y0 y1 (Int.emod_nonneg _ (by omega)) (Int.emod_lt_of_pos _ n0) (Gr.refl _)
  · have h1 : Ev Vo.non (tOp (rI (fun _ j => 0 < j) fun i j => .int (i % j)) (tCB (fun xs H Q => (∃ i, xs = [.int i] ∧ Q (.int i) H) ∨ ∃ k : Bool, xs = [.bl k] ∧ Q (.int (if k then 1 else 0)) H) (tCons (tOp rAddU (tOp rMulU (tOp (rIx K) (tVar 0) (tC (.int 1))) (tC (.int 48271))) (tC (.int 10037))) tNil)) (tC (.int 2147483587))) [some (.ref a), some (.int n), none] H1 (si fun i => 0 ≤ i ∧ i < 2147483587) :=
      e_mod (c := fun _ => True) (x_int1 (e_i2 (c := fun _ => True) (d := fun _ => True) (e_i2 (c := fun i => i = y) (d := fun _ => True) ((x_ixQ (xs := [.int x, .int y]) (e_vx rfl) (isq g1) e_cx (atI_nat (j := 1) rfl)).imp fun v _ e => ⟨y, e, rfl⟩) (e_ci trivial) fun i j H2 iv ei _ => r_mul iv (mul_small (by rw [ei]; exact y0) (by rw [ei]; exact y1)) trivial) (e_ci trivial) fun i j H2 iv _ _ => r_add iv trivial)) e_cx (by decide)
    refine h1 H1 i1 (Gr.refl H1) _ fun v H2 _ g2 hv => ?_
    obtain ⟨y', rfl, z0, z1⟩ := hv
    have g12 := g1.trans g2
    refine ⟨.ref a, rfl, a, [.int x, .int y], 1, 1, rfl, rfl, g12 a _ (nv_non a) hxy, rfl, ?_⟩
    have isq2 : ∀ v H3, Gr Vo.non (upd H2 a (.lst [.int x, .int y'])) H3 → (sx (p := Vo.non) (.ref a)).P v H3 → ∃ a, v = .ref a ∧ (SqL K H3 a [.int x, .int y'] ∨ SqT K H3 a [.int x, .int y']) := fun v H3 g e => ⟨a, e, .inl (SqL.of (g a _ (nv_non a) upd_same))⟩
    have rd : ∀ {σ : L2.St}, σ[0]? = some (some (.ref a)) → Ev Vo.non (tOp (rIx K) (tVar 0) (tC (.int 1))) σ (upd H2 a (.lst [.int x, .int y'])) (si fun i => i = y') := fun hσ => (x_ixQ (xs := [.int x, .int y']) (e_vx hσ) isq2 e_cx (atI_nat (j := 1) rfl)).imp fun v _ e => ⟨y', e, rfl⟩
    refine s_ret (p := Vo.non) (A := si fun i => 0 ≤ i ∧ i < n) (Iv.non _) (e_mod (c := fun _ => True) (x_int1 (e_i2 (c := fun i => 0 ≤ i ∧ i < 2147483563) (d := fun j => j = 7) (e_mod (c := fun _ => True) (x_int1 (e_i2 (rd rfl) (rd rfl) fun i j H3 iv ei ej => r_mul iv (mul_small (by rw [ei]; exact z0) (by rw [ei]; omega)) trivial)) e_cx (by decide)) (e_ci rfl) fun i j H3 iv ei ej => r_ic (g := fun i j => i / j) iv (by rw [ej]; exact ⟨by decide, by decide⟩) trivial)) (e_vx rfl) n0) fun v H3 _ g3 hv => ?_
    obtain ⟨r, rfl, r0, r1⟩ := hv
    exact fin x y' r g12 x0 z0 (by omega) r0 r1 g3
end
end K12
namespace K12
open PySem PySem.Spec PyProof.Rows L2 Hk
def spPot (K : PySem.W.Frag) : Sp := fun vs H Q _ => ∃ (sc : Addr) (ns : List Int) (k : Int), vs = [.ref sc, .int k] ∧ SqL K H sc (ns.map V.int) ∧ 0 ≤ k ∧ k ≤ 1000 ∧ ∀ b H', Gr Vo.non H H' → H b = none → Pot H' b → Q (.ref b) H'
theorem bits34 {i : Int} (h0 : 0 ≤ i) (h1 : i < 10000000000) : Builtin.Int.intBits i ≤ 40 := by
  unfold Builtin.Int.intBits
  by_cases h : (i == 0) = true
  · rw [if_pos h]; decide
  · rw [if_neg h]
    have hn : i.natAbs ≠ 0 := fun z => h (by rw [Int.natAbs_eq_zero.mp z]; rfl)
    have := (Nat.log2_lt hn (k := 39)).mpr (by omega)
    omega
section
variable {P : Program} {w : World} {K : PySem.W.Frag} {mg : Str → Option Value} {base : Heap}
theorem x_abs {p : Vo} {σ : L2.St} {H : Hp} {ta : TE} {c : Int → Prop} {e : Int → Prop} (ha : Ev p ta σ H (si c)) (he : ∀ i, c i → e (if i < 0 then -i else i)) : Ev p (tCB (fun xs H Q => ∃ i, xs = [.int i] ∧ Q (.int (if i < 0 then -i else i)) H) (tCons ta tNil)) σ H (si e) := e_cb (a_cons ha a_nil) fun vs H1 iv g os => by
  obtain ⟨v, ws, rfl, ⟨i, rfl, hi⟩, rfl⟩ := os
  exact rv iv ⟨_, rfl, he i hi⟩ fun Q q => ⟨i, rfl, q⟩
theorem x_max {p : Vo} {σ : L2.St} {H : Hp} {ta tb : TE} {c d e : Int → Prop} (ha : Ev p ta σ H (si c)) (hb : Ev p tb σ H (si d)) (he : ∀ i j, c i → d j → e (if j > i then j else i)) : Ev p (tCB (fun xs H Q => ∃ i j, xs = [.int i, .int j] ∧ Q (.int (if j > i then j else i)) H) (tCons ta (tCons tb tNil))) σ H (si e) := e_cb (a_cons ha (a_cons hb a_nil)) fun vs H1 iv g os => by
  obtain ⟨v, ws, rfl, ⟨i, rfl, hi⟩, v2, ws2, rfl, ⟨j, rfl, hj⟩, rfl⟩ := os
  exact rv iv ⟨_, rfl, he i j hi hj⟩ fun Q q => ⟨i, j, rfl, q⟩
theorem pw18 : CPw 10 18 := ⟨by decide, by decide +kernel⟩
theorem e_sub {p : Vo} {σ : L2.St} {H : Hp} {ta tb : TE} {c d : Int → Prop} (ha : Ev p ta σ H (si c)) (hb : Ev p tb σ H (si d)) : Ev p (tOp (rI0 fun i j => .int (i - j)) ta tb) σ H (si fun _ => True) := e_i2 ha hb fun i j H1 iv _ _ => r_i0 (g := fun i j => i - j) iv trivial
theorem ok_pot (E : En K mg) (F : Df K mg "_law_pot" s__law_pot) : Ca P w K mg base 1 "_law_pot" (spPot K) := by
  refine ca_mk F sc__law_pot (fun _ _ _ _ _ _ us hl => match us, hl with | [_, _], _ => rfl) (fun vs H Q E h => by obtain ⟨sc, ns, k, rfl, _⟩ := h; rfl) (fun f cdv A outer s H vs Q E' hr h => ?_)
  obtain ⟨sc, ns, k, rfl, hS, k0, k1, q⟩ := h
  refine ⟨_, (pss_cons (ps_set (i := 2) sc__law_pot.nd rfl (Or.inl rfl) pe_int)
      (pss_cons (ps_if (pt_cmpR op_lt (pv 1) (pe_callB (lenU (K := K) rfl) (by rfl) (E.fr (x := "len") (by decide +kernel)) (by decide +kernel) (pa_cons (pv 0) pa_nil)) (nomark _)) (pss_one (ps_set (i := 2) sc__law_pot.nd rfl (Or.inl rfl) (pe_callB call_abs (by rfl) (E.fr (x := "abs") (by decide +kernel)) (by decide +kernel) (pa_cons (pe_ix (ixU (K := K) rfl) (pv 0) (pv 1) (fun _ _ => rfl)) pa_nil)))) pss_nil)
      (pss_one (ps_ret (pe_lst (pa_cons (pe_callB (call_max2 rfl) (by rfl) (E.fr (x := "max") (by decide +kernel)) (by decide +kernel) (pa_cons pe_int (pa_cons (pe_op op_sub (pv 2) (pe_op op_powW pe_int pe_int)) pa_nil))) (pa_cons (pe_op op_addU (pe_op op_mod (pe_callTy call_int1 (by rfl) (E.fr (x := "int") (by decide +kernel)) (by decide +kernel) (pa_cons (pe_op op_powW (pe_callTy call_int1 (by rfl) (E.fr (x := "int") (by decide +kernel)) (by decide +kernel) (pa_cons (pe_op op_addU (pe_op op_addU (pe_op op_mod (pe_callTy call_int1 (by rfl) (E.fr (x := "int") (by decide +kernel)) (by decide +kernel) (pa_cons (pv 2) pa_nil)) pe_int) (pe_op op_mulU pe_int (pv 1))) pe_int) pa_nil)) pe_int) pa_nil)) pe_int) pe_int) pa_nil))))))), ?_⟩
  have seq : ∀ {H1}, Gr Vo.non H H1 → SqL K H1 sc (ns.map V.int) := fun {H1} g => by
    rcases hS with (h | ⟨o, h⟩) | h
    · exact .inl (.inl (g _ _ (nv_non _) h))
    · exact .inl (.inr ⟨o, g _ _ (nv_non _) h⟩)
    · exact .inr h
  refine q_asgx (v := .int 0) (Iv.non H) e_cx fun H1 i1 g1 => ?_
  refine q_ifj (p := Vo.non) (B := fun b => b = decide (k < ((ns.map V.int).length : Int))) (fun σ' H' => ∃ c : Int, 0 ≤ c ∧ σ' = [some (.ref sc), some (.int k), some (.int c)] ∧ Gr Vo.non H H') i1 (k_test (x_ii (i := k) (j := ((ns.map V.int).length : Int)) (e_vx rfl) (x_lenQ (xs := ns.map V.int) (e_vx rfl) fun v H2 g e => ⟨sc, e, .inl (seq (g1.trans g))⟩))) (fun N hN b H2 i2 g2 => ?_) (fun _ H2 _ g2 => ⟨0, Int.le_refl 0, rfl, g1.trans g2⟩) ?_
  · have hk : k < ((ns.map V.int).length : Int) := of_decide_eq_true b.symm
    obtain ⟨v, hm, hat⟩ := at_in k0 hk
    obtain ⟨n, _, rfl⟩ := List.mem_map.mp hm
    refine s_asg (A := si fun i => 0 ≤ i) i2 (x_abs (c := fun _ => True) ((x_ixQ (xs := ns.map V.int) (e_vx rfl) (fun v H3 g e => ⟨sc, e, .inl (seq ((g1.trans g2).trans g))⟩) (e_vx rfl) hat).imp fun v _ e => ⟨n, e, trivial⟩) fun i _ => by
      show 0 ≤ (if i < 0 then -i else i)
      split <;> omega) fun v H3 i3 g3 hv => ?_
    obtain ⟨c, rfl, hc⟩ := hv
    exact hN _ _ ⟨c, hc, rfl, (g1.trans g2).trans g3⟩
  · rintro σ' H' ⟨c, hc, rfl, g⟩
    have e1 : Ev Vo.non (tCB (fun xs H Q => ∃ i j, xs = [.int i, .int j] ∧ Q (.int (if j > i then j else i)) H) (tCons (tC (.int 0)) (tCons (tOp (rI0 fun i j => .int (i - j)) (tVar 2) (tOp rPow (tC (.int 10)) (tC (.int 18)))) tNil))) [some (.ref sc), some (.int k), some (.int c)] H' (si fun i => 0 ≤ i) :=
      x_max (c := fun i => i = 0) (d := fun _ => True) (e_ci rfl) (e_sub (c := fun _ => True) (d := fun _ => True) (e_sxi (e_vx rfl) trivial) (e_i2 (c := fun i => i = 10) (d := fun j => j = 18) (e_ci rfl) (e_ci rfl) fun i j H1 iv ei ej => by rw [ei, ej]; exact r_ic (g := fun i j => i ^ j.toNat) iv pw18 trivial)) fun i j ei _ => by
        show 0 ≤ (if j > i then j else i)
        split <;> omega
    refine s_retN (p := Vo.non) (As := [si fun i => 0 ≤ i, si fun i => 0 ≤ i ∧ i < 2147483648]) (Iv.non H') (a_cons e1 (a_cons (e_addI (c := fun i => 0 ≤ i ∧ i < 2147483587) (d := fun j => j = 1) (e_mod (c := fun _ => True) (x_int1 (e_i2 (c := fun i => 0 ≤ i ∧ i < 10000000000) (d := fun j => j = 3) (e := fun _ => True) (x_int1 (e_addI (c := fun i => 0 ≤ i ∧ i < 2147483629 + 1013 * 1000) (d := fun j => j = 7) (e_addI (c := fun i => 0 ≤ i ∧ i < 2147483629) (d := fun i => 0 ≤ i ∧ i ≤ 1013 * 1000) (e_mod (c := fun _ => True) (x_int1 (e_sxi (e_vx rfl) trivial)) e_cx (by decide)) (e_i2 (c := fun i => i = 1013) (d := fun j => j = k) (e_ci rfl) (e_sxi (e_vx rfl) rfl) fun i j H1 iv ei ej => by
      rw [ei, ej]
      exact r_mul iv (.inl ⟨by decide, by decide⟩) ⟨by omega, by omega⟩) fun i j hi hj => by omega) (e_ci rfl) fun i j hi hj => by omega)) (e_ci rfl) fun i j H1 iv hi hj => by
        rw [hj]
        exact r_ic (g := fun i j => i ^ j.toNat) (e := fun _ => True) iv (show CPw i 3 from ⟨by decide, by have := bits34 hi.1 hi.2; omega⟩) trivial)) e_cx (by decide)) (e_ci rfl) fun i j hi hj => by omega) a_nil)) (by decide) fun vs b H1 i1 g1 hb os => ?_
    obtain ⟨v1, ws1, rfl, ⟨x, rfl, hx⟩, v2, ws2, rfl, ⟨y, rfl, hy⟩, rfl⟩ := os
    exact q b _ ((g.trans g1).trans (Gr.new hb)) ((g.trans g1).free (nv_non b) hb) ⟨x, y, upd_same, hx, hy⟩
end
end K12
namespace K12
open PySem PySem.Spec PyProof.Rows L2 Hk
/-! ### kinds, their values -/
inductive S | int | bool | task | hue | deep
def bnd (n : Nat) : Nat := 10 ^ (13 * 2 ^ n)
def isHue (B : Nat) (d : D) : Prop := d = .tup [.str "Red"] ∨ ∃ i : Int, d = .tup [.str "Mix", .int i] ∧ i.natAbs < B
def tks : List Str := (["", "ann", "bo/0/k.0", "x/0/k.0"] : List String).map Str.ofString
def Vk (B : Nat) : S → D → Prop
  | .int, d => ∃ i : Int, d = .int i ∧ i.natAbs < B
  | .bool, d => ∃ b, d = .bl b
  | .task, d => ∃ z ∈ tks, d = .str z
  | .hue, d => isHue B d
  | .deep, d => ∃ h b, isHue B h ∧ d = .tup [.str "Nest", h, .bl b]
theorem isHue.mono {B C : Nat} (h : B ≤ C) {d : D} (x : isHue B d) : isHue C d := by
  rcases x with x | ⟨i, e, hi⟩
  · exact .inl x
  · exact .inr ⟨i, e, by omega⟩
theorem Vk.mono {B C : Nat} (h : B ≤ C) {s : S} {d : D} (x : Vk B s d) : Vk C s d := by
  cases s with
  | int => obtain ⟨i, e, hi⟩ := x; exact ⟨i, e, by omega⟩
  | bool => exact x
  | task => exact x
  | hue => exact isHue.mono h x
  | deep => obtain ⟨u, b, hu, e⟩ := x; exact ⟨u, b, hu.mono h, e⟩
/-! ### values as data -/
def pd0 : D → PyData
  | .int i => .int i
  | .bl b => .bool b
  | .str z => .str z
  | _ => .none
def pdn : Nat → D → PyData
  | 0, d => pd0 d
  | n + 1, d => match d with
    | .tup ds => .tuple (ds.map (pdn n))
    | d => pd0 d
abbrev pdv : D → PyData := pdn 2
/-! ### what an expression means -/
def toI : D → Int
  | .int i => i
  | _ => 0
def toB : D → Bool
  | .bl b => b
  | _ => false
def op (w : Str) (a b : D) : D :=
  if w = "add" then .int (toI a + toI b) else if w = "sub" then .int (toI a - toI b) else if w = "mul" then .int (toI a * toI b)
  else if w = "div" then .int (if toI b = 0 then 0 else (toI a).fdiv (toI b)) else if w = "mod" then .int (if toI b = 0 then 0 else (toI a).fmod (toI b))
  else if w = "less" then .bl (decide (toI a < toI b)) else if w = "same" then .bl (PyData.eqv (pdv a) (pdv b)) else if w = "and" then .bl (toB a && toB b) else .bl (toB a || toB b)
def den (tbl : Str → D) (own : Str) : Nat → D → D
  | 0, _ => .non
  | n + 1, d => match d with
    | .str z => tbl z
    | .tup (.str w :: ds) => if w = "self" then .str own else if w = "tag" then (match ds with
        | t :: r => .tup (t :: r.map (den tbl own n))
        | [] => .non) else (match ds.map (den tbl own n) with
        | [a] => .bl (!toB a)
        | [a, b] => op w a b
        | _ => .non)
    | d => d
/-! ### trees -/
def vars : List (Str × S) := [("a", .int), ("b", .int), ("c", .bool), ("d", .bool), ("e", .task), ("f", .hue), ("z", .deep)]
def ws5 : List Str := (["add", "sub", "mul", "div", "mod"] : List String).map Str.ofString
inductive Tr : Nat → S → D → Prop
  | lit {n : Nat} (i : Int) (h : i.natAbs < bnd 0) : Tr (n + 1) .int (.int i)
  | bl {n : Nat} (b : Bool) : Tr (n + 1) .bool (.bl b)
  | var {n : Nat} {z : Str} {s : S} (h : (z, s) ∈ vars) : Tr (n + 1) s (.str z)
  | self {n : Nat} : Tr (n + 1) .task (.tup [.str "self"])
  | red {n : Nat} : Tr (n + 1) .hue (.tup [.str "tag", .str "Red"])
  | mix {n : Nat} {d : D} (h : Tr n .int d) : Tr (n + 1) .hue (.tup [.str "tag", .str "Mix", d])
  | nest {n : Nat} {d e : D} (h : Tr n .hue d) (k : Tr n .bool e) : Tr (n + 1) .deep (.tup [.str "tag", .str "Nest", d, e])
  | two {n : Nat} {w : Str} {d e : D} (hw : w ∈ ws5) (h : Tr n .int d) (k : Tr n .int e) : Tr (n + 1) .int (.tup [.str w, d, e])
  | less {n : Nat} {d e : D} (h : Tr n .int d) (k : Tr n .int e) : Tr (n + 1) .bool (.tup [.str "less", d, e])
  | same {n : Nat} {s : S} {d e : D} (h : Tr n s d) (k : Tr n s e) : Tr (n + 1) .bool (.tup [.str "same", d, e])
  | con {n : Nat} {w : Str} {d e : D} (hw : w = "and" ∨ w = "or") (h : Tr n .bool d) (k : Tr n .bool e) : Tr (n + 1) .bool (.tup [.str w, d, e])
  | not {n : Nat} {d : D} (h : Tr n .bool d) : Tr (n + 1) .bool (.tup [.str "not", d])
theorem Tr.up {n : Nat} {s : S} {d : D} (h : Tr n s d) : Tr (n + 1) s d := by
  induction h with
  | lit i h => exact .lit i h
  | bl b => exact .bl b
  | var h => exact .var h
  | self => exact .self
  | red => exact .red
  | mix _ i => exact .mix i
  | nest _ _ i j => exact .nest i j
  | two hw _ _ i j => exact .two hw i j
  | less _ _ i j => exact .less i j
  | same _ _ i j => exact .same i j
  | con hw _ _ i j => exact .con hw i j
  | not _ i => exact .not i
theorem Tr.le {n m : Nat} {s : S} {d : D} (h : Tr n s d) (l : n ≤ m) : Tr m s d := by
  induction l with
  | refl => exact h
  | step _ i => exact i.up
/-! ### bounds -/
theorem bnd_two (n : Nat) : bnd n * bnd n = bnd (n + 1) := by
  unfold bnd
  rw [← Nat.pow_add]
  congr 1
  rw [Nat.pow_succ]
  omega
theorem bnd_pos (n : Nat) : 2 ≤ bnd n := by
  unfold bnd
  have h1 : 1 ≤ 13 * 2 ^ n := by
    have := Nat.pos_of_ne_zero (n := 2 ^ n) (by exact Nat.ne_of_gt (Nat.two_pow_pos n))
    omega
  calc 2 ≤ 10 ^ 1 := by decide
    _ ≤ 10 ^ (13 * 2 ^ n) := Nat.pow_le_pow_right (by decide) h1
theorem bnd_up (n : Nat) : bnd n + bnd n ≤ bnd (n + 1) := by
  rw [← bnd_two]
  have := bnd_pos n
  calc bnd n + bnd n = 2 * bnd n := by omega
    _ ≤ bnd n * bnd n := Nat.mul_le_mul_right _ this
theorem b_add {n : Nat} {i j : Int} (hi : i.natAbs < bnd n) (hj : j.natAbs < bnd n) : (i + j).natAbs < bnd (n + 1) := by
  have := bnd_up n
  omega
theorem b_sub {n : Nat} {i j : Int} (hi : i.natAbs < bnd n) (hj : j.natAbs < bnd n) : (i - j).natAbs < bnd (n + 1) := by
  have := bnd_up n
  omega
theorem b_mul {n : Nat} {i j : Int} (hi : i.natAbs < bnd n) (hj : j.natAbs < bnd n) : (i * j).natAbs < bnd (n + 1) := by
  rw [Int.natAbs_mul, ← bnd_two]
  exact Nat.mul_lt_mul'' hi hj
end K12
namespace K12
open PySem PySem.Spec PyProof.Rows L2 Hk
theorem bnd_le {m n : Nat} (h : m ≤ n) : bnd m ≤ bnd n := by
  unfold bnd
  exact Nat.pow_le_pow_right (by decide) (Nat.mul_le_mul_left _ (Nat.pow_le_pow_right (by decide) h))
theorem ws_cases {P : Str → Prop} (h1 : P "add") (h2 : P "sub") (h3 : P "mul") (h4 : P "div") (h5 : P "mod") : ∀ w ∈ ws5, P w := by
  intro w hw
  rcases List.mem_cons.mp hw with e | hw
  · rw [e]; exact h1
  rcases List.mem_cons.mp hw with e | hw
  · rw [e]; exact h2
  rcases List.mem_cons.mp hw with e | hw
  · rw [e]; exact h3
  rcases List.mem_cons.mp hw with e | hw
  · rw [e]; exact h4
  rcases List.mem_cons.mp hw with e | hw
  · rw [e]; exact h5
  · cases hw
/-! ### each tree is an expression -/
theorem ops2 : ∀ w ∈ ws5, ∀ d e : D, opsD [.str w, d, e] = some [d, e] := ws_cases (fun d e => by kernel_rfl) (fun d e => by kernel_rfl) (fun d e => by kernel_rfl) (fun d e => by kernel_rfl) (fun d e => by kernel_rfl)
theorem form2 {n : Nat} {ds es : List D} (h : opsD ds = some es) (k : ∀ e ∈ es, form n e = true) : form (n + 1) (.tup ds) = true := by
  show (match opsD ds with
    | none => false
    | some es => es.all (form n)) = true
  rw [h]
  exact List.all_eq_true.mpr k
theorem all2 {P : D → Prop} {d e : D} (h : P d) (k : P e) : ∀ x ∈ [d, e], P x := fun x hx => by
  rcases List.mem_cons.mp hx with z | z
  · rw [z]; exact h
  · rw [List.mem_singleton.mp z]; exact k
theorem all1 {P : D → Prop} {d : D} (h : P d) : ∀ x ∈ [d], P x := fun x hx => by rw [List.mem_singleton.mp hx]; exact h
theorem var_names : vars.all (fun q => isName q.1) = true := by decide +kernel
theorem big_lit : (bnd 0 : Int) < tooLong := by decide +kernel
theorem tr_form {n : Nat} {s : S} {d : D} (h : Tr n s d) : form n d = true := by
  induction h with
  | lit i h =>
    show (decide (-tooLong < i) && decide (i < tooLong)) = true
    have := big_lit
    rw [decide_eq_true (by omega), decide_eq_true (by omega)]
    rfl
  | bl b => rfl
  | var h => exact List.all_eq_true.mp var_names _ h
  | self => exact form2 (es := []) (by kernel_rfl) fun x hx => (nomatch hx)
  | red => exact form2 (es := []) (by kernel_rfl) fun x hx => (nomatch hx)
  | mix _ i => exact form2 (es := [_]) (by kernel_rfl) (all1 i)
  | nest _ _ i j => exact form2 (es := [_, _]) (by kernel_rfl) (all2 i j)
  | two hw _ _ i j => exact form2 (ops2 _ hw _ _) (all2 i j)
  | less _ _ i j => exact form2 (es := [_, _]) (by kernel_rfl) (all2 i j)
  | same _ _ i j => exact form2 (es := [_, _]) (by kernel_rfl) (all2 i j)
  | con hw _ _ i j => exact form2 (es := [_, _]) (by rcases hw with e | e <;> rw [e] <;> kernel_rfl) (all2 i j)
  | not _ i => exact form2 (es := [_]) (by kernel_rfl) (all1 i)
/-! ### bounds of quotients -/
theorem b_ed {i j : Int} : (i / j).natAbs ≤ i.natAbs + 1 := by
  have h1 : (i / j).natAbs ≤ i.natAbs := by
    have := Int.natAbs_ediv_le_natAbs i j
    exact this
  omega
theorem b_fd {n : Nat} {i j : Int} (hi : i.natAbs < bnd n) : (i.fdiv j).natAbs < bnd (n + 1) := by
  have h1 := bnd_up n
  have h2 := bnd_pos n
  have h3 := @b_ed i j
  rw [Int.fdiv_eq_ediv]
  split <;> omega
theorem b_fm {n : Nat} {i j : Int} (hi : i.natAbs < bnd n) (hj : j.natAbs < bnd n) (h0 : j ≠ 0) : (i.fmod j).natAbs < bnd (n + 1) := by
  have h1 := bnd_up n
  rw [Int.fmod_eq_emod]
  have h2 := Int.emod_nonneg i h0
  have h3 : i % j < (j.natAbs : Int) := by
    first
      | exact Int.emod_lt i h0
      | exact Int.emod_lt_natAbs i h0
      | (rcases Int.lt_or_gt_of_ne h0 with z | z
         · have := Int.emod_lt_of_pos i (b := -j) (by omega); rw [Int.emod_neg] at this; omega
         · have := Int.emod_lt_of_pos i (b := j) (by omega); omega)
  split <;> omega
/-! ### values of trees -/
section
variable {tbl : Str → D} {own : Str}
theorem den2 {n : Nat} {w : Str} {d e : D} (h1 : ¬ w = "self") (h2 : ¬ w = "tag") : den tbl own (n + 1) (.tup [.str w, d, e]) = op w (den tbl own n d) (den tbl own n e) := by
  show (if w = "self" then D.str own else if w = "tag" then _ else _) = _
  rw [if_neg h1, if_neg h2]
  rfl
theorem op_val {n : Nat} {a b : D} (ha : Vk (bnd n) .int a) (hb : Vk (bnd n) .int b) : ∀ w ∈ ws5, Vk (bnd (n + 1)) .int (op w a b) := by
  obtain ⟨i, rfl, hi⟩ := ha
  obtain ⟨j, rfl, hj⟩ := hb
  have z := bnd_pos (n + 1)
  refine ws_cases ⟨i + j, by kernel_rfl, b_add hi hj⟩ ⟨i - j, by kernel_rfl, b_sub hi hj⟩ ⟨i * j, by kernel_rfl, b_mul hi hj⟩ ⟨if j = 0 then 0 else i.fdiv j, by kernel_rfl, ?_⟩ ⟨if j = 0 then 0 else i.fmod j, by kernel_rfl, ?_⟩
  · split
    · show (0 : Nat) < _
      omega
    · exact b_fd hi
  · split
    · show (0 : Nat) < _
      omega
    · rename_i h
      exact b_fm hi hj h
theorem w5_no : ws5.all (fun w => !decide (w = "self") && !decide (w = "tag")) = true := by decide +kernel
theorem w5_ne {w : Str} (h : w ∈ ws5) : (¬ w = "self") ∧ ¬ w = "tag" := by
  obtain ⟨h1, h2⟩ := Bool.and_eq_true_iff.mp (List.all_eq_true.mp w5_no w h)
  exact ⟨of_decide_eq_false ((Bool.not_eq_true' _).mp h1), of_decide_eq_false ((Bool.not_eq_true' _).mp h2)⟩
theorem tr_val (hT : ∀ q ∈ vars, Vk (bnd 0) q.2 (tbl q.1)) (ho : own ∈ tks) {n : Nat} {s : S} {d : D} (h : Tr n s d) : Vk (bnd n) s (den tbl own n d) := by
  induction h with
  | @lit n i h => exact ⟨i, rfl, Nat.lt_of_lt_of_le h (bnd_le (Nat.zero_le _))⟩
  | bl b => exact ⟨b, rfl⟩
  | var h => exact (hT _ h).mono (bnd_le (Nat.zero_le _))
  | self => exact ⟨own, ho, by kernel_rfl⟩
  | red => exact .inl (by kernel_rfl)
  | @mix n d h i =>
    obtain ⟨j, e, hj⟩ := i
    refine .inr ⟨j, ?_, Nat.lt_of_lt_of_le hj (bnd_le (Nat.le_succ _))⟩
    rw [← e]
    kernel_rfl
  | @nest n d e _ _ i j =>
    obtain ⟨b, eb⟩ := j
    refine ⟨den tbl own n d, b, isHue.mono (bnd_le (Nat.le_succ _)) i, ?_⟩
    rw [← eb]
    kernel_rfl
  | two hw _ _ i j =>
    rw [den2 (w5_ne hw).1 (w5_ne hw).2]
    exact op_val i j _ hw
  | @less n d e _ _ i j => exact ⟨decide (toI (den tbl own n d) < toI (den tbl own n e)), by kernel_rfl⟩
  | @same n s d e _ _ i j => exact ⟨PyData.eqv (pdv (den tbl own n d)) (pdv (den tbl own n e)), by kernel_rfl⟩
  | @con n w d e hw _ _ i j =>
    rcases hw with rfl | rfl
    · exact ⟨toB (den tbl own n d) && toB (den tbl own n e), by kernel_rfl⟩
    · exact ⟨toB (den tbl own n d) || toB (den tbl own n e), by kernel_rfl⟩
  | @not n d _ i => exact ⟨!toB (den tbl own n d), by kernel_rfl⟩
end
end K12
namespace K12
open PySem PySem.Spec PyProof.Rows L2 Hk
/-! ### the texts of values tell the values apart -/
theorem digs {m n : Nat} (h : Nat.toDigits 10 m = Nat.toDigits 10 n) : m = n := by
  have := congrArg (fun l => Nat.ofDigitChars 10 l 0) h
  simpa only [Nat.ofDigitChars_toDigits (b := 10) (by decide) (by decide)] using this
theorem no_minus {n : Nat} {l : List Char} (h : '-' :: l = Nat.toDigits 10 n) : False := by
  have h1 : '-' ∈ Nat.toDigits 10 n := by rw [← h]; exact List.mem_cons_self
  have h2 := Nat.isDigit_of_mem_toDigits (by decide) (by decide) h1
  exact absurd h2 (by decide)
theorem int_list {i j : Int} (h : (toString i).toList = (toString j).toList) : i = j := by
  rw [Int.toString_eq_repr, Int.toString_eq_repr, Int.repr_eq_if, Int.repr_eq_if] at h
  have m : ("-" : String).toList = ['-'] := by decide
  split at h <;> split at h
  · rw [Nat.toList_repr, Nat.toList_repr] at h
    have := digs h
    omega
  · rw [Nat.toList_repr, String.toList_append, m, Nat.toList_repr] at h
    exact (no_minus h.symm).elim
  · rw [Nat.toList_repr, String.toList_append, m, Nat.toList_repr] at h
    exact (no_minus h).elim
  · rw [String.toList_append, String.toList_append, m, Nat.toList_repr, Nat.toList_repr] at h
    have := digs (List.cons.inj h).2
    omega
def it (i : Int) : List Nat := ((toString i : String) : Str).cps.toList
theorem it_inj {i j : Int} (h : it i = it j) : i = j := by
  unfold it at h
  rw [signs_ofString, signs_ofString] at h
  exact int_list ((List.map_inj_right fun x y e => Char.toNat_inj.mp e).mp h)
/-- the signs of a value's text -/
def sg (d : D) : List Nat := (pdv d).shown.cps.toList
theorem app_list (a b : Str) : (a ++ b).cps.toList = a.cps.toList ++ b.cps.toList := by
  show (a.cps ++ b.cps).toList = _
  rw [Array.toList_append]
theorem sg_int (i : Int) : sg (.int i) = it i := by
  unfold sg it pdv
  simp only [pdn, pd0, PyData.shown]
def preM : List Nat := ("('Mix', " : Str).cps.toList
def preN : List Nat := ("('Nest', " : Str).cps.toList
theorem shown2 (a b : PyData) : (PyData.tuple [a, b]).shown.cps.toList = [40] ++ (a.shown.cps.toList ++ ([44, 32] ++ b.shown.cps.toList)) ++ [41] := by
  simp only [PyData.shown, PyData.shownAll]
  unfold tupleText
  rw [app_list, app_list]
  congr 1
  congr 1
  show (a.shown ++ (", " : String) ++ b.shown).cps.toList = _
  rw [app_list, app_list, List.append_assoc]
  rfl
theorem shown3 (a b c : PyData) : (PyData.tuple [a, b, c]).shown.cps.toList = [40] ++ (a.shown.cps.toList ++ ([44, 32] ++ (b.shown.cps.toList ++ ([44, 32] ++ c.shown.cps.toList)))) ++ [41] := by
  simp only [PyData.shown, PyData.shownAll]
  unfold tupleText
  rw [app_list, app_list]
  congr 1
  congr 1
  show (a.shown ++ (", " : String) ++ (b.shown ++ (", " : String) ++ c.shown)).cps.toList = _
  rw [app_list, app_list, app_list, app_list, List.append_assoc, List.append_assoc]
  rfl
theorem sh_int (i : Int) : (PyData.int i).shown = ((toString i : String) : Str) := by simp only [PyData.shown]
theorem sh_str (z : Str) : (PyData.str z).shown = reprText z := by simp only [PyData.shown]
def rMix : List Nat := (reprText "Mix").cps.toList
def rNest : List Nat := (reprText "Nest").cps.toList
theorem sg_red : sg (.tup [.str "Red"]) = ("('Red',)" : Str).cps.toList := by decide +kernel
theorem sg_mix (i : Int) : sg (.tup [.str "Mix", .int i]) = [40] ++ (rMix ++ ([44, 32] ++ it i)) ++ [41] := by
  show (PyData.tuple [.str "Mix", .int i]).shown.cps.toList = _
  rw [shown2, sh_str, sh_int]
  rfl
theorem red_mix (i : Int) : ¬ sg (.tup [.str "Red"]) = sg (.tup [.str "Mix", .int i]) := fun h => by
  rw [sg_red, sg_mix] at h
  have := congrArg (fun l => l[2]?) h
  revert this
  show ¬ (("('Red',)" : Str).cps.toList[2]? = ([40] ++ (rMix ++ ([44, 32] ++ it i)) ++ [41])[2]?)
  have e : ([40] ++ (rMix ++ ([44, 32] ++ it i)) ++ [41])[2]? = some 77 := by kernel_rfl
  rw [e]
  decide +kernel
theorem mix_mix {i j : Int} (h : sg (.tup [.str "Mix", .int i]) = sg (.tup [.str "Mix", .int j])) : i = j := by
  rw [sg_mix, sg_mix] at h
  exact it_inj (List.append_cancel_left (List.append_cancel_left (List.append_cancel_left (List.append_cancel_right h))))
theorem hue_eq {B C : Nat} {a b : D} (ha : isHue B a) (hb : isHue C b) (h : sg a = sg b) : a = b := by
  rcases ha with rfl | ⟨i, rfl, _⟩ <;> rcases hb with rfl | ⟨j, rfl, _⟩
  · rfl
  · exact (red_mix j h).elim
  · exact (red_mix i h.symm).elim
  · rw [mix_mix h]
end K12
namespace K12
open PySem PySem.Spec PyProof.Rows L2 Hk
/-! ### == of two values of a kind is == of their texts -/
theorem eqv_int (i j : Int) : PyData.eqv (.int i) (.int j) = (i == j) := by simp only [PyData.eqv]
theorem eqv_bool (a b : Bool) : PyData.eqv (.bool a) (.bool b) = (a == b) := by simp only [PyData.eqv]
theorem eqv_str (a b : Str) : PyData.eqv (.str a) (.str b) = (a == b) := by simp only [PyData.eqv]
theorem eqv_tup (a b : List PyData) : PyData.eqv (.tuple a) (.tuple b) = PyData.eqvAll a b := by simp only [PyData.eqv]
theorem eqv_cons (a b : PyData) (as bs : List PyData) : PyData.eqvAll (a :: as) (b :: bs) = (PyData.eqv a b && PyData.eqvAll as bs) := by simp only [PyData.eqvAll]
theorem eqv_nil : PyData.eqvAll [] [] = true := by simp only [PyData.eqvAll]
theorem nm : (("Red" : Str) == "Mix") = false ∧ (("Mix" : Str) == "Red") = false ∧ (("Red" : Str) == "Red") = true ∧ (("Mix" : Str) == "Mix") = true ∧ (("Nest" : Str) == "Nest") = true := by decide +kernel
theorem hue_eqv {B C : Nat} {a b : D} (ha : isHue B a) (hb : isHue C b) : PyData.eqv (pdv a) (pdv b) = true ↔ a = b := by
  rcases ha with rfl | ⟨i, rfl, _⟩ <;> rcases hb with rfl | ⟨j, rfl, _⟩
  · refine ⟨fun _ => rfl, fun _ => ?_⟩
    show PyData.eqv (.tuple [.str "Red"]) (.tuple [.str "Red"]) = true
    rw [eqv_tup, eqv_cons, eqv_str, nm.2.2.1, eqv_nil] <;> rfl
  · refine ⟨fun h => ?_, fun h => ?_⟩
    · have h : PyData.eqv (.tuple [.str "Red"]) (.tuple [.str "Mix", .int j]) = true := h
      rw [eqv_tup, eqv_cons, eqv_str, nm.1] at h
      cases h
    · cases h
  · refine ⟨fun h => ?_, fun h => ?_⟩
    · have h : PyData.eqv (.tuple [.str "Mix", .int i]) (.tuple [.str "Red"]) = true := h
      rw [eqv_tup, eqv_cons, eqv_str, nm.2.1] at h
      cases h
    · cases h
  · have e : PyData.eqv (pdv (.tup [.str "Mix", .int i])) (pdv (.tup [.str "Mix", .int j])) = (i == j) := by
      show PyData.eqv (.tuple [.str "Mix", .int i]) (.tuple [.str "Mix", .int j]) = _
      rw [eqv_tup, eqv_cons, eqv_str, nm.2.2.2.1, eqv_cons, eqv_int, eqv_nil, Bool.and_true, Bool.true_and]
    rw [e]
    refine ⟨fun h => by rw [eq_of_beq h], fun h => ?_⟩
    injection h with h1
    injection h1 with h2 h3
    injection h3 with h4 h5
    injection h4 with h6
    rw [h6]
    exact beq_self_eq_true _
theorem hue1 {B : Nat} {h : D} (x : isHue B h) : pdn 1 h = pdv h := by
  rcases x with rfl | ⟨i, rfl, _⟩ <;> rfl
def bt : Bool → List Nat
  | true => [84, 114, 117, 101]
  | false => [70, 97, 108, 115, 101]
theorem sg_bl (b : Bool) : (PyData.bool b).shown.cps.toList = bt b := by
  cases b <;> (simp only [PyData.shown]; decide +kernel)
theorem sg_nest {B : Nat} {h : D} {b : Bool} (x : isHue B h) : sg (.tup [.str "Nest", h, .bl b]) = [40] ++ (rNest ++ ([44, 32] ++ (sg h ++ ([44, 32] ++ bt b)))) ++ [41] := by
  show (PyData.tuple [.str "Nest", pdn 1 h, .bool b]).shown.cps.toList = _
  rw [shown3, sh_str, sg_bl, hue1 x]
  rfl
theorem rev1 (l : List Nat) (b : Bool) : (l ++ ([44, 32] ++ bt b)).reverse[1]? = some (if b then 117 else 115) := by
  rw [List.reverse_append]
  cases b <;> rfl
theorem same_sg {B C : Nat} {s : S} {a b : D} (ha : Vk B s a) (hb : Vk C s b) : sg a = sg b ↔ PyData.eqv (pdv a) (pdv b) = true := by
  cases s with
  | int =>
    obtain ⟨i, rfl, _⟩ := ha
    obtain ⟨j, rfl, _⟩ := hb
    rw [sg_int, sg_int]
    show _ ↔ PyData.eqv (.int i) (.int j) = true
    rw [eqv_int]
    exact ⟨fun h => by rw [it_inj h]; exact beq_self_eq_true _, fun h => by rw [eq_of_beq h]⟩
  | bool =>
    obtain ⟨i, rfl⟩ := ha
    obtain ⟨j, rfl⟩ := hb
    show (PyData.bool i).shown.cps.toList = (PyData.bool j).shown.cps.toList ↔ PyData.eqv (.bool i) (.bool j) = true
    rw [sg_bl, sg_bl, eqv_bool]
    cases i <;> cases j <;> decide
  | task =>
    obtain ⟨x, hx, rfl⟩ := ha
    obtain ⟨y, hy, rfl⟩ := hb
    have f : tks.all (fun x => tks.all fun y => decide ((reprText x).cps.toList = (reprText y).cps.toList) == (x == y)) = true := by decide +kernel
    have h1 := eq_of_beq (List.all_eq_true.mp (List.all_eq_true.mp f x hx) y hy)
    show (PyData.str x).shown.cps.toList = (PyData.str y).shown.cps.toList ↔ PyData.eqv (.str x) (.str y) = true
    rw [sh_str, sh_str, eqv_str, ← h1]
    exact decide_eq_true_iff.symm
  | hue => exact ⟨fun h => (hue_eqv ha hb).mpr (hue_eq ha hb h), fun h => by rw [(hue_eqv ha hb).mp h]⟩
  | deep =>
    obtain ⟨u, i, hu, rfl⟩ := ha
    obtain ⟨v, j, hv, rfl⟩ := hb
    have e : PyData.eqv (pdv (.tup [.str "Nest", u, .bl i])) (pdv (.tup [.str "Nest", v, .bl j])) = (PyData.eqv (pdv u) (pdv v) && (i == j)) := by
      show PyData.eqv (.tuple [.str "Nest", pdn 1 u, .bool i]) (.tuple [.str "Nest", pdn 1 v, .bool j]) = _
      rw [eqv_tup, eqv_cons, eqv_str, nm.2.2.2.2, eqv_cons, eqv_cons, eqv_bool, eqv_nil, Bool.and_true, Bool.true_and, hue1 hu, hue1 hv]
    rw [e, sg_nest hu, sg_nest hv]
    refine ⟨fun h => ?_, fun h => ?_⟩
    · have h := List.append_cancel_left (List.append_cancel_left (List.append_cancel_left (List.append_cancel_right h)))
      have h2 := congrArg (fun l => l.reverse[1]?) h
      have h3 : (some (if i then 117 else 115) : Option Nat) = some (if j then 117 else 115) := by
        rw [← rev1 (sg u) i, ← rev1 (sg v) j]
        exact h2
      have h4 : i = j := by cases i <;> cases j <;> first | rfl | (revert h3; decide)
      rw [h4] at h ⊢
      rw [(hue_eqv hu hv).mpr (hue_eq hu hv (List.append_cancel_right h)), beq_self_eq_true]
      rfl
    · obtain ⟨h1, h2⟩ := Bool.and_eq_true_iff.mp h
      rw [(hue_eqv hu hv).mp h1, eq_of_beq h2]
theorem str_of {a b : Str} (h : a.cps.toList = b.cps.toList) : a = b := by
  cases a
  cases b
  congr 1
  exact Array.toList_inj.mp h
/-- as programs compare them -/
theorem same_txt {B C : Nat} {s : S} {a b : D} (ha : Vk B s a) (hb : Vk C s b) : decide (V.str (pdv a).shown = V.str (pdv b).shown) = PyData.eqv (pdv a) (pdv b) := by
  have h := same_sg ha hb
  cases e : PyData.eqv (pdv a) (pdv b) with
  | true =>
    rw [e] at h
    exact decide_eq_true (congrArg V.str (str_of (h.mpr rfl)))
  | false =>
    rw [e] at h
    exact decide_eq_false fun z => Bool.false_ne_true (h.mp (by unfold sg; rw [V.str.inj z]))
/-! ### and they can be shown -/
structure Okd (x : PyData) : Prop where
  sh : x.showable = true
  nd : x.hasDict = false
  dp : x.depth ≤ 20
  ln : x.shown.length ≤ 100000
  sp : SeqAt.shaped x = true
theorem log_in {n : Nat} (hn : n ≤ 5) {i : Int} (h : i.natAbs < bnd n) : i.natAbs.log2 < 1920 := by
  by_cases h0 : i.natAbs = 0
  · rw [h0]
    decide
  · refine (Nat.log2_lt h0).mpr (Nat.lt_of_lt_of_le h (Nat.le_trans (bnd_le hn) ?_))
    show bnd 5 ≤ 2 ^ 1920
    decide +kernel
theorem it_len {i : Int} (h : i.natAbs.log2 < 1920) : (it i).length ≤ 1921 := by
  have := int_text_len_1921 h
  unfold it
  rw [Array.length_toList]
  exact this
theorem sz_len (x : Str) : x.length = x.cps.toList.length := by
  rw [Array.length_toList]
  rfl
theorem tk_ok : tks.all (fun z => decide ((reprText z).length ≤ 100000) && SeqAt.shaped (.str z)) = true := by decide +kernel
theorem okd_int {n : Nat} (hn : n ≤ 5) {i : Int} (h : i.natAbs < bnd n) : Okd (.int i) := by
  have l := log_in hn h
  refine ⟨?_, ?_, ?_, ?_, ?_⟩
  · simp only [PyData.showable]
    exact decide_eq_true l
  · simp only [PyData.hasDict]
  · simp only [PyData.depth]
    omega
  · rw [sh_int, sz_len]
    have := it_len l
    unfold it at this
    omega
  · unfold SeqAt.shaped
    simp only [PyData.canLay0, PyData.depth]
    rfl
theorem okd_bl (b : Bool) : Okd (.bool b) := by
  refine ⟨?_, ?_, ?_, ?_, ?_⟩
  · simp only [PyData.showable]
  · simp only [PyData.hasDict]
  · simp only [PyData.depth]
    omega
  · rw [sz_len, sg_bl]
    cases b <;> decide
  · unfold SeqAt.shaped
    simp only [PyData.canLay0, PyData.depth]
    rfl
theorem okd_str {z : Str} (h : (decide ((reprText z).length ≤ 100000) && SeqAt.shaped (.str z)) = true) : Okd (.str z) := by
  obtain ⟨h1, h2⟩ := Bool.and_eq_true_iff.mp h
  refine ⟨?_, ?_, ?_, ?_, h2⟩
  · simp only [PyData.showable]
  · simp only [PyData.hasDict]
  · simp only [PyData.depth]
    omega
  · rw [sh_str]
    exact of_decide_eq_true h1
theorem nm_ok : (decide ((reprText "Red").length ≤ 100000) && SeqAt.shaped (.str "Red")) = true ∧ (decide ((reprText "Mix").length ≤ 100000) && SeqAt.shaped (.str "Mix")) = true ∧ (decide ((reprText "Nest").length ≤ 100000) && SeqAt.shaped (.str "Nest")) = true := by decide +kernel
theorem shp {x : PyData} (h : SeqAt.shaped x = true) : x.canLay0 = true ∧ x.depth ≤ 64 := ⟨SeqAt.canLay_of_shaped h, SeqAt.depth_of_shaped h⟩
theorem okd_hue {n : Nat} (hn : n ≤ 5) {d : D} (h : isHue (bnd n) d) : Okd (pdv d) ∧ (pdv d).depth ≤ 5 ∧ (pdv d).shown.length ≤ 2000 := by
  rcases h with rfl | ⟨i, rfl, hi⟩
  · show Okd (.tuple [.str "Red"]) ∧ _
    have e : (PyData.tuple [.str "Red"]).shown.length ≤ 2000 := by decide +kernel
    refine ⟨⟨?_, ?_, ?_, by omega, ?_⟩, ?_, e⟩
    · simp only [PyData.showable, PyData.showableAll, Bool.and_self]
    · simp only [PyData.hasDict, PyData.hasDictAll, Bool.or_self]
    · simp only [PyData.depth, PyData.depthAll]
      decide
    · decide +kernel
    · show (PyData.tuple [.str "Red"]).depth ≤ 5
      simp only [PyData.depth, PyData.depthAll]
      decide
  · have oi := okd_int hn hi
    have l := it_len (log_in hn hi)
    have dp : (PyData.tuple [.str "Mix", .int i]).depth ≤ 5 := by
      simp only [PyData.depth, PyData.depthAll]
      decide
    have ln : (PyData.tuple [.str "Mix", .int i]).shown.length ≤ 2000 := by
      have e := sg_mix i
      rw [sz_len]
      have e2 : (PyData.tuple [.str "Mix", .int i]).shown.cps.toList = [40] ++ (rMix ++ ([44, 32] ++ it i)) ++ [41] := e
      have r : rMix.length ≤ 20 := by decide +kernel
      rw [e2]
      simp only [List.length_append, List.length_cons, List.length_nil]
      omega
    refine ⟨⟨?_, ?_, by show (PyData.tuple [.str "Mix", .int i]).depth ≤ 20; omega, by show (PyData.tuple [.str "Mix", .int i]).shown.length ≤ 100000; omega, ?_⟩, dp, ln⟩
    · show (PyData.tuple [.str "Mix", .int i]).showable = true
      simp only [PyData.showable, PyData.showableAll, Bool.and_true, Bool.true_and]
      exact decide_eq_true (log_in hn hi)
    · show (PyData.tuple [.str "Mix", .int i]).hasDict = false
      simp only [PyData.hasDict, PyData.hasDictAll, Bool.or_self]
    · show (_ && decide _) = true
      rw [Bool.and_eq_true_iff]
      refine ⟨?_, decide_eq_true (by show (PyData.tuple [.str "Mix", .int i]).depth ≤ 64; omega)⟩
      show (PyData.tuple [.str "Mix", .int i]).canLay0 = true
      simp only [PyData.canLay0, PyData.canLayAll0, Bool.and_true]
      decide +kernel
theorem okd {n : Nat} (hn : n ≤ 5) {s : S} {d : D} (h : Vk (bnd n) s d) : Okd (pdv d) := by
  cases s with
  | int => obtain ⟨i, rfl, hi⟩ := h; exact okd_int hn hi
  | bool => obtain ⟨b, rfl⟩ := h; exact okd_bl b
  | task => obtain ⟨z, hz, rfl⟩ := h; exact okd_str (List.all_eq_true.mp tk_ok z hz)
  | hue => exact (okd_hue hn h).1
  | deep =>
    obtain ⟨u, b, hu, rfl⟩ := h
    obtain ⟨o, dp, ln⟩ := okd_hue hn hu
    have e := sg_nest (b := b) hu
    show Okd (.tuple [.str "Nest", pdn 1 u, .bool b])
    have e2 : (PyData.tuple [.str "Nest", pdn 1 u, .bool b]).shown.cps.toList = [40] ++ (rNest ++ ([44, 32] ++ (sg u ++ ([44, 32] ++ bt b)))) ++ [41] := e
    have ls : (sg u).length ≤ 2000 := by
      unfold sg
      rw [← sz_len]
      exact ln
    rw [hue1 hu] at e2 ⊢
    have dq : (PyData.tuple [.str "Nest", pdv u, .bool b]).depth ≤ 10 := by
      simp only [PyData.depth, PyData.depthAll]
      omega
    refine ⟨?_, ?_, by omega, ?_, ?_⟩
    · simp only [PyData.showable, PyData.showableAll, Bool.and_true, Bool.true_and, o.sh]
    · simp only [PyData.hasDict, PyData.hasDictAll, Bool.or_false, Bool.false_or, o.nd]
    · rw [sz_len, e2]
      have r : rNest.length ≤ 20 := by decide +kernel
      have rb : (bt b).length ≤ 5 := by cases b <;> decide
      simp only [List.length_append, List.length_cons, List.length_nil]
      omega
    · show (_ && decide _) = true
      rw [Bool.and_eq_true_iff]
      refine ⟨?_, decide_eq_true (by omega)⟩
      simp only [PyData.canLay0, PyData.canLayAll0, Bool.and_true, (shp o.sp).1]
      decide +kernel
end K12
namespace K12
open PySem PySem.Spec PyProof.Rows L2 Hk
/-! ### the operations on two values -/
def spA (g : Int → Int → V) : Sp := fun vs H Q _ => ∃ i j : Int, vs = [.int i, .int j] ∧ i.natAbs < bnd 5 ∧ j.natAbs < bnd 5 ∧ ∀ H', Gr Vo.non H H' → Q (g i j) H'
def spB (g : Bool → Bool → Bool) : Sp := fun vs H Q _ => ∃ i j : Bool, vs = [.bl i, .bl j] ∧ ∀ H', Gr Vo.non H H' → Q (.bl (g i j)) H'
def spE : Sp := fun vs H Q _ => ∃ (x y : V) (a b : PyData), vs = [x, y] ∧ Py Vo.non H x a ∧ Py Vo.non H y b ∧ SeqAt.shaped a = true ∧ SeqAt.shaped b = true ∧ ∀ H', Gr Vo.non H H' → Q (.bl (PyData.eqv a b)) H'
section
variable {P : Program} {w : World} {K : PySem.W.Frag} {mg : Str → Option Value} {base : Heap}
theorem lenA {g} : ∀ vs H Q E, spA g vs H Q E → vs.length = 2 := fun vs H Q E h => by obtain ⟨i, j, rfl, _⟩ := h; rfl
theorem lenB {g} : ∀ vs H Q E, spB g vs H Q E → vs.length = 2 := fun vs H Q E h => by obtain ⟨i, j, rfl, _⟩ := h; rfl
theorem ok_add (F : Df K mg "add" s_add) : Ca P w K mg base 1 "add" (spA fun i j => .int (i + j)) := by
  refine ca_mk F sc_add (fun _ _ _ _ _ _ us hl => match us, hl with | [_, _], _ => rfl) lenA (fun f cdv A outer s H vs Q E' hr h => ?_)
  obtain ⟨i, j, rfl, h1, h2, q⟩ := h
  exact ⟨_, (pss_one (ps_ret (pe_op op_addU (pv 0) (pv 1)))), _, rfl, _, rfl, .inl ⟨i, j, rfl, rfl, q H (Gr.refl H)⟩⟩
theorem ok_subtract (F : Df K mg "subtract" s_subtract) : Ca P w K mg base 1 "subtract" (spA fun i j => .int (i - j)) := by
  refine ca_mk F sc_subtract (fun _ _ _ _ _ _ us hl => match us, hl with | [_, _], _ => rfl) lenA (fun f cdv A outer s H vs Q E' hr h => ?_)
  obtain ⟨i, j, rfl, h1, h2, q⟩ := h
  exact ⟨_, (pss_one (ps_ret (pe_op op_sub (pv 0) (pv 1)))), _, rfl, _, rfl, i, j, rfl, rfl, q H (Gr.refl H)⟩
theorem bits_in {i : Int} (h : i.natAbs < bnd 5) : (Builtin.Int.intBits i : Int) ≤ 2000 := by
  have l := log_in (Nat.le_refl 5) h
  unfold Builtin.Int.intBits
  split <;> omega
theorem mul_in {i j : Int} (h1 : i.natAbs < bnd 5) (h2 : j.natAbs < bnd 5) : CMulX i j := by
  have a := bits_in h1
  have b := bits_in h2
  show _ ≤ _
  omega
theorem ok_multiply (F : Df K mg "multiply" s_multiply) : Ca P w K mg base 1 "multiply" (spA fun i j => .int (i * j)) := by
  refine ca_mk F sc_multiply (fun _ _ _ _ _ _ us hl => match us, hl with | [_, _], _ => rfl) lenA (fun f cdv A outer s H vs Q E' hr h => ?_)
  obtain ⟨i, j, rfl, h1, h2, q⟩ := h
  exact ⟨_, (pss_one (ps_ret (pe_op op_mulB (pv 0) (pv 1)))), _, rfl, _, rfl, i, j, rfl, rfl, mul_in h1 h2, q H (Gr.refl H)⟩
theorem log9 {j : Int} (h : j.natAbs < bnd 5) : j.natAbs.log2 < 9000 := by
  have := log_in (Nat.le_refl 5) h
  omega
theorem zero_dec (j : Int) : decide (V.int j = V.int 0) = decide (j = 0) := by
  by_cases h : j = 0
  · rw [h, decide_eq_true rfl, decide_eq_true rfl]
  · rw [decide_eq_false h, decide_eq_false fun e => h (by injection e)]
theorem ok_divide (F : Df K mg "divide" s_divide) : Ca P w K mg base 1 "divide" (spA fun i j => .int (if j = 0 then 0 else i.fdiv j)) := by
  refine ca_mk F sc_divide (fun _ _ _ _ _ _ us hl => match us, hl with | [_, _], _ => rfl) lenA (fun f cdv A outer s H vs Q E' hr h => ?_)
  obtain ⟨i, j, rfl, h1, h2, q⟩ := h
  refine ⟨_, (pss_one (ps_ret (pe_ifExp (pt_cmpR op_eq (pv 1) pe_int (nomark _)) pe_int (pe_op op_fdivB (pv 0) (pv 1))))), ?_⟩
  refine s_ret (p := Vo.non) (A := sx (.int (if j = 0 then 0 else i.fdiv j))) (Iv.non H) (e_if (B := fun b => b = decide (j = 0)) ((k_test (x_eq (x := .int j) (y := .int 0) (e_vx rfl) e_cx rfl)).imp fun b e => by rw [e, zero_dec]) (fun e => ?_) fun e => ?_) fun v H1 i1 g1 e => by rw [show v = _ from e]; exact q H1 g1
  · rw [if_pos (of_decide_eq_true e.symm)]
    exact e_cx
  · have hj := of_decide_eq_false e.symm
    rw [if_neg hj]
    exact e_op (e_vx (v := .int i) rfl) (e_vx (v := .int j) rfl) fun x y H1 iv g ex ey => rv iv rfl fun Q q => ⟨i, j, ex, ey, ⟨hj, log9 h2⟩, q⟩
theorem ok_remainder (F : Df K mg "remainder" s_remainder) : Ca P w K mg base 1 "remainder" (spA fun i j => .int (if j = 0 then 0 else i.fmod j)) := by
  refine ca_mk F sc_remainder (fun _ _ _ _ _ _ us hl => match us, hl with | [_, _], _ => rfl) lenA (fun f cdv A outer s H vs Q E' hr h => ?_)
  obtain ⟨i, j, rfl, h1, h2, q⟩ := h
  refine ⟨_, (pss_one (ps_ret (pe_ifExp (pt_cmpR op_eq (pv 1) pe_int (nomark _)) pe_int (pe_op op_fmB (pv 0) (pv 1))))), ?_⟩
  refine s_ret (p := Vo.non) (A := sx (.int (if j = 0 then 0 else i.fmod j))) (Iv.non H) (e_if (B := fun b => b = decide (j = 0)) ((k_test (x_eq (x := .int j) (y := .int 0) (e_vx rfl) e_cx rfl)).imp fun b e => by rw [e, zero_dec]) (fun e => ?_) fun e => ?_) fun v H1 i1 g1 e => by rw [show v = _ from e]; exact q H1 g1
  · rw [if_pos (of_decide_eq_true e.symm)]
    exact e_cx
  · have hj := of_decide_eq_false e.symm
    rw [if_neg hj]
    exact e_op (e_vx (v := .int i) rfl) (e_vx (v := .int j) rfl) fun x y H1 iv g ex ey => rv iv rfl fun Q q => ⟨i, j, ex, ey, hj, q⟩
theorem ok_is_less (F : Df K mg "is_less" s_is_less) : Ca P w K mg base 1 "is_less" (spA fun i j => .bl (decide (i < j))) := by
  refine ca_mk F sc_is_less (fun _ _ _ _ _ _ us hl => match us, hl with | [_, _], _ => rfl) lenA (fun f cdv A outer s H vs Q E' hr h => ?_)
  obtain ⟨i, j, rfl, h1, h2, q⟩ := h
  refine ⟨_, (pss_one (ps_ret (pe_cmpR op_lt (pv 0) (pv 1) (nomark _)))), ?_⟩
  exact s_ret (p := Vo.non) (A := sx (.bl (decide (i < j)))) (Iv.non H) (x_ii (g := fun i j => .bl (decide (i < j))) (e_vx rfl) (e_vx rfl)) fun v H1 i1 g1 e => by rw [show v = _ from e]; exact q H1 g1
theorem ok_are_equal (F : Df K mg "are_equal" s_are_equal) : Ca P w K mg base 1 "are_equal" spE := by
  refine ca_mk F sc_are_equal (fun _ _ _ _ _ _ us hl => match us, hl with | [_, _], _ => rfl) (fun vs H Q E h => by obtain ⟨x, y, a, b, rfl, _⟩ := h; rfl) (fun f cdv A outer s H vs Q E' hr h => ?_)
  obtain ⟨x, y, a, b, rfl, h1, h2, s1, s2, q⟩ := h
  have hu : (A.deeper (envOfC "are_equal" (defScope s_are_equal) s.heap.objs.size f cdv)).units + 64 < cLine := by
    have := hr.un
    omega
  exact ⟨_, (pss_one (ps_ret (pe_cmpR (op_eqP hu) (pv 0) (pv 1) (nomark _)))), _, rfl, _, rfl, a, b, h1, h2, s1, s2, q H (Gr.refl H)⟩
theorem ok_conjunction (F : Df K mg "conjunction" s_conjunction) : Ca P w K mg base 1 "conjunction" (spB fun i j => i && j) := by
  refine ca_mk F sc_conjunction (fun _ _ _ _ _ _ us hl => match us, hl with | [_, _], _ => rfl) lenB (fun f cdv A outer s H vs Q E' hr h => ?_)
  obtain ⟨i, j, rfl, q⟩ := h
  refine ⟨_, (pss_one (ps_ret (pe_and (pv 0) (pe_one (pv 1))))), ?_⟩
  exact s_ret (p := Vo.non) (A := sx (.bl (i && j))) (Iv.non H) (x_and (e_vx rfl) fun _ => e_vx rfl) fun v H1 i1 g1 e => by rw [show v = _ from e]; exact q H1 g1
theorem ok_disjunction (F : Df K mg "disjunction" s_disjunction) : Ca P w K mg base 1 "disjunction" (spB fun i j => i || j) := by
  refine ca_mk F sc_disjunction (fun _ _ _ _ _ _ us hl => match us, hl with | [_, _], _ => rfl) lenB (fun f cdv A outer s H vs Q E' hr h => ?_)
  obtain ⟨i, j, rfl, q⟩ := h
  refine ⟨_, (pss_one (ps_ret (pe_or (pv 0) (pe_one (pv 1))))), ?_⟩
  exact s_ret (p := Vo.non) (A := sx (.bl (i || j))) (Iv.non H) (x_or (e_vx rfl) fun _ => e_vx rfl) fun v H1 i1 g1 e => by rw [show v = _ from e]; exact q H1 g1
end
end K12
namespace K12
open PySem PySem.Spec PyProof.Rows L2 Hk
def opD (w : Str) : List D → D
  | [a] => .bl (!toB a)
  | [a, b] => op w a b
  | _ => .non
/-- two operands that fit the word -/
def Fit2 (w : Str) (a b : D) : Prop := ((w ∈ ws5 ∨ w = "less") ∧ Vk (bnd 5) .int a ∧ Vk (bnd 5) .int b) ∨ (w = "same" ∧ ∃ s, Vk (bnd 5) s a ∧ Vk (bnd 5) s b) ∨ ((w = "and" ∨ w = "or") ∧ Vk (bnd 5) .bool a ∧ Vk (bnd 5) .bool b)
def Fits (w : Str) (ds : List D) : Prop := (w = "not" ∧ ∃ b, ds = [.bl b]) ∨ ∃ a b, ds = [a, b] ∧ Fit2 w a b
def spOper (K : PySem.W.Frag) : Sp := fun vs H Q _ => ∃ w l xs ds, vs = [.str w, .ref l] ∧ SqL K H l xs ∧ DatL Vo.non H xs ds ∧ Fits w ds ∧ ∀ v H', Gr Vo.non H H' → Dat Vo.non H' v (opD w ds) → Q v H'
/-- a value's datum as PyData -/
def fl0 : D → Bool
  | .int _ => true
  | .bl _ => true
  | .str _ => true
  | _ => false
def fl : Nat → D → Bool
  | 0, d => fl0 d
  | n + 1, d => match d with
    | .tup ds => ds.all (fl n)
    | d => fl0 d
theorem py0 {p : Vo} {H : Hp} {v : V} {d : D} (h : Dat p H v d) (f : fl0 d = true) : Py p H v (pd0 d) := by
  cases h with
  | int i => exact .int i
  | bl b => exact .bl b
  | str s hz => exact .str s
  | _ => cases f
theorem py_of {p : Vo} {H : Hp} : ∀ (n : Nat) {v : V} {d : D}, Dat p H v d → fl n d = true → Py p H v (pdn n d)
  | 0, v, d, h, f => py0 h f
  | n + 1, v, d, h, f => by
    cases h with
    | @tup a vs ds na h l hz r =>
      refine .tup na h (by rw [List.length_map]; exact l) fun i v d h1 h2 => ?_
      rw [List.getElem?_map] at h2
      cases e : ds[i]? with
      | none => rw [e] at h2; cases h2
      | some u =>
        rw [e] at h2
        rw [← Option.some.inj h2]
        exact py_of n (r i v u h1 e) (List.all_eq_true.mp f u (List.mem_of_getElem? e))
    | int i => exact .int i
    | bl b => exact .bl b
    | str s hz => exact .str s
    | _ => cases f
theorem fl_hue {B : Nat} {d : D} (h : isHue B d) : fl 1 d = true ∧ fl 2 d = true := by
  rcases h with rfl | ⟨i, rfl, _⟩ <;> exact ⟨rfl, rfl⟩
theorem fl_vk {B : Nat} {s : S} {d : D} (h : Vk B s d) : fl 2 d = true := by
  cases s with
  | int => obtain ⟨i, rfl, _⟩ := h; rfl
  | bool => obtain ⟨b, rfl⟩ := h; rfl
  | task => obtain ⟨z, _, rfl⟩ := h; rfl
  | hue => exact (fl_hue h).2
  | deep =>
    obtain ⟨u, b, hu, rfl⟩ := h
    show ([D.str "Nest", u, .bl b].all (fl 1)) = true
    simp only [List.all_cons, List.all_nil, (fl_hue hu).1, Bool.and_true, Bool.true_and]
    rfl
theorem py_vk {p : Vo} {H : Hp} {B : Nat} {s : S} {v : V} {d : D} (h : Dat p H v d) (k : Vk B s d) : Py p H v (pdv d) := py_of 2 h (fl_vk k)
section
variable {P : Program} {w : World} {K : PySem.W.Frag} {mg : Str → Option Value} {base : Heap}
/-- the nine operations, as the dict has them -/
structure Nine (P : Program) (w : World) (K : PySem.W.Frag) (mg : Str → Option Value) (base : Heap) : Prop where
  kd : ∀ q ∈ wsO.zip fnO, KDct K w (He.ga K "OPERATIONS") q.1 (.ref (He.ga K q.2))
  p1 : Held P w K mg base 1 (He.ga K "add") (spA fun i j => .int (i + j))
  p2 : Held P w K mg base 1 (He.ga K "subtract") (spA fun i j => .int (i - j))
  p3 : Held P w K mg base 1 (He.ga K "multiply") (spA fun i j => .int (i * j))
  p4 : Held P w K mg base 1 (He.ga K "divide") (spA fun i j => .int (if j = 0 then 0 else i.fdiv j))
  p5 : Held P w K mg base 1 (He.ga K "remainder") (spA fun i j => .int (if j = 0 then 0 else i.fmod j))
  p6 : Held P w K mg base 1 (He.ga K "is_less") (spA fun i j => .bl (decide (i < j)))
  p7 : Held P w K mg base 1 (He.ga K "are_equal") spE
  p8 : Held P w K mg base 1 (He.ga K "conjunction") (spB fun i j => i && j)
  p9 : Held P w K mg base 1 (He.ga K "disjunction") (spB fun i j => i || j)
/-- the operation under a word, run on operands that fit -/
def RunAt (P : Program) (w : World) (K : PySem.W.Frag) (mg : Str → Option Value) (base : Heap) (a b : D) (z : Str) : Prop := ∃ f sp, KDct K w (He.ga K "OPERATIONS") z (.ref f) ∧ Held P w K mg base 1 f sp ∧
    ∀ {H : Hp} {x y : V} {Q : VK} {E : XK}, Dat Vo.non H x a → Dat Vo.non H y b → (∀ v H', Gr Vo.non H H' → Dat Vo.non H' v (op z a b) → Q v H') → sp [x, y] H Q E
theorem nine_run (N : Nine P w K mg base) {z : Str} {a b : D} (h : Fit2 z a b) : RunAt P w K mg base a b z := by
  have ii : ∀ {g : Int → Int → V} {a b : D}, Vk (bnd 5) .int a → Vk (bnd 5) .int b → ∀ {r : D}, (∀ H' i j, a = .int i → b = .int j → Dat Vo.non H' (g i j) r) → ∀ {H : Hp} {x y : V} {Q : VK} {E : XK}, Dat Vo.non H x a → Dat Vo.non H y b → (∀ v H', Gr Vo.non H H' → Dat Vo.non H' v r → Q v H') → spA g [x, y] H Q E := by
    intro g a b ha hb r hr H x y Q E hx hy q
    obtain ⟨i, rfl, hi⟩ := ha
    obtain ⟨j, rfl, hj⟩ := hb
    cases hx
    cases hy
    exact ⟨i, j, rfl, hi, hj, fun H' g' => q _ H' g' (hr H' i j rfl rfl)⟩
  rcases h with ⟨hw, ha, hb⟩ | ⟨rfl, s, ha, hb⟩ | ⟨hw, ha, hb⟩
  · rcases hw with hw | rfl
    · exact ws_cases (P := RunAt P w K mg base a b) ⟨_, _, N.kd ("add", "add") (by decide +kernel), N.p1, ii ha hb fun H' i j e1 e2 => by rw [e1, e2]; exact .int _⟩
        ⟨_, _, N.kd ("sub", "subtract") (by decide +kernel), N.p2, ii ha hb fun H' i j e1 e2 => by rw [e1, e2]; exact .int _⟩
        ⟨_, _, N.kd ("mul", "multiply") (by decide +kernel), N.p3, ii ha hb fun H' i j e1 e2 => by rw [e1, e2]; exact .int _⟩
        ⟨_, _, N.kd ("div", "divide") (by decide +kernel), N.p4, ii ha hb fun H' i j e1 e2 => by rw [e1, e2]; exact .int _⟩
        ⟨_, _, N.kd ("mod", "remainder") (by decide +kernel), N.p5, ii ha hb fun H' i j e1 e2 => by rw [e1, e2]; exact .int _⟩ z hw
    · exact ⟨_, _, N.kd ("less", "is_less") (by decide +kernel), N.p6, ii ha hb fun H' i j e1 e2 => by rw [e1, e2]; exact .bl _⟩
  · exact ⟨_, _, N.kd ("same", "are_equal") (by decide +kernel), N.p7, fun {H x y Q E} hx hy q => ⟨x, y, _, _, rfl, py_vk hx ha, py_vk hy hb, (okd (Nat.le_refl 5) ha).sp, (okd (Nat.le_refl 5) hb).sp, fun H' g' => q _ H' g' (.bl _)⟩⟩
  · obtain ⟨i, rfl⟩ := ha
    obtain ⟨j, rfl⟩ := hb
    rcases hw with rfl | rfl
    · exact ⟨_, _, N.kd ("and", "conjunction") (by decide +kernel), N.p8, fun {H x y Q E} hx hy q => by
        cases hx
        cases hy
        exact ⟨i, j, rfl, fun H' g' => q _ H' g' (.bl _)⟩⟩
    · exact ⟨_, _, N.kd ("or", "disjunction") (by decide +kernel), N.p9, fun {H x y Q E} hx hy q => by
        cases hx
        cases hy
        exact ⟨i, j, rfl, fun H' g' => q _ H' g' (.bl _)⟩⟩
theorem not_two {z : Str} {a b : D} (h : Fit2 z a b) : decide (V.str z = V.str "not") = false := by
  have f : ws5.all (fun z => !decide (V.str z = V.str "not")) = true := by decide +kernel
  rcases h with ⟨hw | rfl, _⟩ | ⟨rfl, _⟩ | ⟨rfl | rfl, _⟩
  · exact (Bool.not_eq_true' _).mp (List.all_eq_true.mp f _ hw)
  all_goals decide +kernel
theorem ok_operate (E : En K mg) (N : Nine P w K mg base) (F : Df K mg "operate" s_operate) : Ca P w K mg base 2 "operate" (spOper K) := by
  refine ca_mk F sc_operate (fun _ _ _ _ _ _ us hl => match us, hl with | [_, _], _ => rfl) (fun vs H Q E h => by obtain ⟨w, l, xs, ds, rfl, _⟩ := h; rfl) (fun f cdv A outer s H vs Q E' hr h => ?_)
  obtain ⟨z, l, xs, ds, rfl, hS, hD, hF, q⟩ := h
  refine ⟨_, (pss_cons (ps_if (pt_cmpR op_eq (pv 0) pe_str (nomark _)) (pss_one (ps_ret (pe_not (pe_ix (ixU (K := K) rfl) (pv 1) pe_int (fun _ _ => rfl))))) pss_nil)
      (pss_cons (ps_set (i := 2) sc_operate.nd rfl (Or.inl rfl) (pe_ix (ixD (K := K) (w := w) rfl rfl) (pe_gc (by rfl) E.c_operations) (pv 0) (fun _ _ => rfl)))
      (pss_one (ps_ret (pe_callH (i := 2) (Hd := fun f sp => Held P w K mg base 1 f sp) (fun _ _ h => h) (hr.mono (by first | decide | omega)) (by rfl) (Or.inl rfl) (pa_cons (pe_ix (ixU (K := K) rfl) (pv 1) pe_int (fun _ _ => rfl)) (pa_cons (pe_ix (ixU (K := K) rfl) (pv 1) pe_int (fun _ _ => rfl)) pa_nil))))))), ?_⟩
  obtain ⟨hl, hd⟩ := hD
  rcases hF with ⟨rfl, b, rfl⟩ | ⟨a, b, rfl, hf⟩
  · match xs, hl with
    | [x], _ =>
      have hx := hd 0 x (.bl b) rfl rfl
      cases hx
      refine q_ifr (p := Vo.non) (v := .bl (!b)) (b := true) (Iv.non H) (k_to (k_test (x_eq (x := .str "not") (y := .str "not") (e_vx rfl) e_cx rfl)) (by decide +kernel)) (fun _ => ?_) (fun _ H1 i1 g1 => q _ H1 g1 (.bl _)) (fun e => nomatch e)
      refine x_not ?_
      intro H0 i0 g0 Q' q'
      refine ⟨.ref l, rfl, .inl ⟨l, [.bl b], 0, .bl b, rfl, rfl, ?_, rfl, q' _ H0 i0 (Gr.refl H0) rfl⟩⟩
      rcases hS with (h | ⟨o, h⟩) | h
      · exact .inl (.inl (g0 _ _ (nv_non _) h))
      · exact .inl (.inr ⟨o, g0 _ _ (nv_non _) h⟩)
      · exact .inr h
  · match xs, hl with
    | [x, y], _ =>
      have hx := hd 0 x a rfl rfl
      have hy := hd 1 y b rfl rfl
      obtain ⟨fa, sp, kd, held, run⟩ := nine_run N hf
      refine q_ifr (p := Vo.non) (v := .bl true) (b := false) (Iv.non H) (k_to (k_test (x_eq (x := .str z) (y := .str "not") (e_vx rfl) e_cx rfl)) (not_two hf)) (fun e => nomatch e) (fun e => nomatch e) (fun _ H1 i1 g1 => ?_)
      have seq : ∀ {H2}, Gr Vo.non H H2 → SqL K H2 l [x, y] := fun {H2} g => by
        rcases hS with (h | ⟨o, h⟩) | h
        · exact .inl (.inl (g _ _ (nv_non _) h))
        · exact .inl (.inr ⟨o, g _ _ (nv_non _) h⟩)
        · exact .inr h
      refine ⟨.str z, rfl, _, z, .ref fa, rfl, rfl, kd, fa, sp, rfl, held, .ref l, rfl, .inl ⟨l, [x, y], 0, x, rfl, rfl, seq g1, rfl, .ref l, rfl, .inl ⟨l, [x, y], 1, y, rfl, rfl, seq g1, rfl, ?_⟩⟩⟩
      exact run (hx.gr g1) (hy.gr g1) fun v H' g' h' => q v H' (g1.trans g') h'
end
end K12
namespace K12
open PySem PySem.Spec PyProof.Rows L2 Hk
/-! ### shapes of trees -/
section
variable {tf : Str → D} {own : Str}
theorem den_op {n : Nat} {z : Str} {es : List D} (h1 : ¬ z = "self") (h2 : ¬ z = "tag") : den tf own (n + 1) (.tup (.str z :: es)) = opD z (es.map (den tf own n)) := by
  show (if z = "self" then D.str own else if z = "tag" then _ else _) = _
  rw [if_neg h1, if_neg h2]
  match es with
  | [] => rfl
  | [a] => rfl
  | [a, b] => rfl
  | a :: b :: c :: r => rfl
theorem den_tag {n : Nat} {t : D} {es : List D} : den tf own (n + 1) (.tup (.str "tag" :: t :: es)) = .tup (t :: es.map (den tf own n)) := by kernel_rfl
theorem den_self {n : Nat} : den tf own (n + 1) (.tup [.str "self"]) = .str own := by kernel_rfl
inductive Shape (n : Nat) : List D → Prop
  | self : Shape n [.str "self"]
  | tag {t : Str} {es : List D} (o : opsD (.str "tag" :: .str t :: es) = some es) (c : ∀ e ∈ es, ∃ s, Tr n s e) : Shape n (.str "tag" :: .str t :: es)
  | op {z : Str} {es : List D} (h1 : ¬ z = "self") (h2 : ¬ z = "tag") (o : opsD (.str z :: es) = some es) (c : ∀ e ∈ es, ∃ s, Tr n s e)
      (f : ∀ (tf : Str → D) (own : Str), (∀ q ∈ vars, Vk (bnd 0) q.2 (tf q.1)) → own ∈ tks → n ≤ 5 → Fits z (es.map (den tf own n))) : Shape n (.str z :: es)
theorem tr_shape {n : Nat} {s : S} {ds : List D} (h : Tr (n + 1) s (.tup ds)) : Shape n ds := by
  have up : ∀ {n : Nat} {s : S} {d : D} (tf : Str → D) (own : Str), (∀ q ∈ vars, Vk (bnd 0) q.2 (tf q.1)) → own ∈ tks → n ≤ 5 → Tr n s d → Vk (bnd 5) s (den tf own n d) := fun tf own hV ho hn t => (tr_val hV ho t).mono (bnd_le hn)
  cases h with
  | self => exact .self
  | red => exact .tag (by kernel_rfl) fun e he => (nomatch he)
  | mix h => exact .tag (by kernel_rfl) (all1 ⟨_, h⟩)
  | nest h k => exact .tag (by kernel_rfl) (all2 ⟨_, h⟩ ⟨_, k⟩)
  | two hw h k => exact .op (w5_ne hw).1 (w5_ne hw).2 (ops2 _ hw _ _) (all2 ⟨_, h⟩ ⟨_, k⟩) fun tf own hV ho hn => .inr ⟨_, _, rfl, .inl ⟨.inl hw, up tf own hV ho hn h, up tf own hV ho hn k⟩⟩
  | less h k => exact .op (by decide +kernel) (by decide +kernel) (by kernel_rfl) (all2 ⟨_, h⟩ ⟨_, k⟩) fun tf own hV ho hn => .inr ⟨_, _, rfl, .inl ⟨.inr rfl, up tf own hV ho hn h, up tf own hV ho hn k⟩⟩
  | same h k => exact .op (by decide +kernel) (by decide +kernel) (by kernel_rfl) (all2 ⟨_, h⟩ ⟨_, k⟩) fun tf own hV ho hn => .inr ⟨_, _, rfl, .inr (.inl ⟨rfl, _, up tf own hV ho hn h, up tf own hV ho hn k⟩)⟩
  | @con _ z d e hw h k =>
    have e : (¬ z = "self") ∧ (¬ z = "tag") ∧ opsD [.str z, d, e] = some [d, e] := by
      rcases hw with rfl | rfl
      · exact ⟨by decide +kernel, by decide +kernel, by kernel_rfl⟩
      · exact ⟨by decide +kernel, by decide +kernel, by kernel_rfl⟩
    exact .op e.1 e.2.1 e.2.2 (all2 ⟨_, h⟩ ⟨_, k⟩) fun tf own hV ho hn => .inr ⟨_, _, rfl, .inr (.inr ⟨hw, up tf own hV ho hn h, up tf own hV ho hn k⟩)⟩
  | not h =>
    refine .op (by decide +kernel) (by decide +kernel) (by kernel_rfl) (all1 ⟨_, h⟩) fun tf own hV ho hn => ?_
    obtain ⟨b, e⟩ := up tf own hV ho hn h
    exact .inl ⟨rfl, b, by rw [← e]; rfl⟩
end
theorem tr_fl {n : Nat} {s : S} {d : D} (h : Tr n s d) : fl n d = true := by
  have t : ∀ {n : Nat} {ds : List D}, (∀ e ∈ ds, fl n e = true) → fl (n + 1) (.tup ds) = true := fun h => List.all_eq_true.mpr h
  have st : ∀ {n : Nat} (z : Str), fl n (.str z) = true := fun {n} z => by cases n <;> rfl
  have c1 : ∀ {n : Nat} {a b : D}, fl n a = true → fl n b = true → ∀ e ∈ [a, b], fl n e = true := fun {n a b} h k => all2 (P := fun e => fl n e = true) h k
  have c3 : ∀ {n : Nat} {a b c : D}, fl n a = true → fl n b = true → fl n c = true → ∀ e ∈ [a, b, c], fl n e = true := fun {n a b c} h k l e he => by
    rcases List.mem_cons.mp he with z | z
    · rw [z]; exact h
    · exact c1 k l e z
  have c4 : ∀ {n : Nat} {a b c d : D}, fl n a = true → fl n b = true → fl n c = true → fl n d = true → ∀ e ∈ [a, b, c, d], fl n e = true := fun h k l m e he => by
    rcases List.mem_cons.mp he with z | z
    · rw [z]; exact h
    · exact c3 k l m e z
  induction h with
  | lit i h => rfl
  | bl b => rfl
  | var h => exact st _
  | self => exact t (all1 (st _))
  | red => exact t (c1 (st _) (st _))
  | mix _ i => exact t (c3 (st _) (st _) i)
  | nest _ _ i j => exact t (c4 (st _) (st _) i j)
  | two hw _ _ i j => exact t (c3 (st _) i j)
  | less _ _ i j => exact t (c3 (st _) i j)
  | same _ _ i j => exact t (c3 (st _) i j)
  | con hw _ _ i j => exact t (c3 (st _) i j)
  | not _ i => exact t (c1 (st _) i)
/-- data of tuples alone are none of the lists that change -/
theorem dat_in {p : Vo} {H : Hp} (hp : ∀ a, p.pot = some a → ∃ l, H a = some (.lst l)) (hx : ∀ x ∈ p.ex, ∃ l, H x.1 = some (.lst l)) : ∀ (n : Nat) {v : V} {d : D}, Dat Vo.non H v d → fl n d = true → Dat p H v d := by
  have nv : ∀ {a : Addr} {vs : List V}, H a = some (.tup vs) → Nv p a := by
    intro a vs h
    refine ⟨fun e => ?_, fun x m e => ?_⟩
    · obtain ⟨l, h'⟩ := hp a e
      rw [h] at h'
      cases h'
    · obtain ⟨l, h'⟩ := hx x m
      rw [e, h] at h'
      cases h'
  intro n
  induction n with
  | zero =>
    intro v d h f
    have f : fl0 d = true := f
    cases h with
    | int i => exact .int i
    | bl b => exact .bl b
    | str s hz => exact .str s hz
    | _ => cases f
  | succ n ih =>
    intro v d h f
    cases h with
    | tup na h l hz r => exact .tup (nv h) h l hz fun i v d h1 h2 => ih (r i v d h1 h2) (List.all_eq_true.mp f d (List.mem_of_getElem? h2))
    | int i => exact .int i
    | bl b => exact .bl b
    | str s hz => exact .str s hz
    | _ => cases f
theorem dat_in1 {H : Hp} {E : Addr} {l : List V} (i : Iv (Vo.non.and E (.lst l)) H) {n : Nat} {v : V} {d : D} (h : Dat Vo.non H v d) (f : fl n d = true) : Dat (Vo.non.and E (.lst l)) H v d :=
  dat_in (fun a e => by cases e) (fun x m => by
    have := i.ex x m
    rcases List.mem_cons.mp m with e | e
    · exact ⟨l, by rw [this, e]⟩
    · cases e) n h f
end K12
namespace K12
open PySem PySem.Spec PyProof.Rows L2 Hk
/-! ### evaluate -/
def Tab (H : Hp) (t : Addr) (tf : Str → D) : Prop := ∃ kvs : List (Key × V), H t = some (.dK kvs) ∧ ∀ q ∈ vars, ∃ v, valV kvs (.inr q.1) = some v ∧ Dat Vo.non H v (tf q.1)
theorem Tab.gr {H H' : Hp} {t : Addr} {tf : Str → D} (h : Tab H t tf) (g : Gr Vo.non H H') : Tab H' t tf := by
  obtain ⟨kvs, h1, h2⟩ := h
  refine ⟨kvs, g _ _ (nv_non _) h1, fun q hq => ?_⟩
  obtain ⟨v, e, d⟩ := h2 q hq
  exact ⟨v, e, d.gr g⟩
theorem Tab.in {H H' : Hp} {t : Addr} {tf : Str → D} {E : Addr} {o : HO} (h : Tab H t tf) (e : H E = none) (g : Gr (Vo.non.and E o) H H') : Tab H' t tf := by
  obtain ⟨kvs, h1, h2⟩ := h
  refine ⟨kvs, g _ _ ((nv_non _).and (ne_of_none h1 e).symm) h1, fun q hq => ?_⟩
  obtain ⟨v, ev, d⟩ := h2 q hq
  exact ⟨v, ev, ((d.and e).gr g).non'⟩
abbrev PS : List Str := ["expression", "values", "task"]
def spEval (n : Nat) : Sp := fun vs H Q _ => ∃ v d t tf own s, vs = [v, .ref t, .str own] ∧ own ∈ tks ∧ Tab H t tf ∧ (∀ q ∈ vars, Vk (bnd 0) q.2 (tf q.1)) ∧ Dat Vo.non H v d ∧ Tr n s d ∧ ∀ r H', Gr Vo.non H H' → Dat Vo.non H' r (den tf own n d) → Q r H'
section
variable {P : Program} {w : World} {K : PySem.W.Frag} {mg : Str → Option Value} {base : Heap} {f : Addr} {fd : FuncData} {σ : L2.St} {H : Hp} {ta : TE}
theorem kb_eval (F : Fun K "evaluate" "evaluate" s_evaluate f fd) : KBn K fd PS 2 ["task"] (fun us ws => us ++ ws) (fun vs zs => vs ++ zs) := by
  obtain ⟨oc, od, kV, doc, pm, an, cdv, ct, osl, rfl, lk, hcd⟩ := F.ex
  refine ⟨fun s us ws _ l1 l2 => ?_, fun r z => r.append z⟩
  match us, l1, ws, l2 with
  | [a, b], _, [c], _ => exact .of_eq rfl
theorem tr_ty {n : Nat} {s : S} {d : D} (h : Tr (n + 1) s d) : (∃ z, d = .str z ∧ (z, s) ∈ vars) ∨ (d.isS = false ∧ d.isT = false ∧ ∀ tf own, den tf own (n + 1) d = d) ∨ ∃ ds, d = .tup ds := by
  cases h with
  | lit i h => exact .inr (.inl ⟨rfl, rfl, fun _ _ => rfl⟩)
  | bl b => exact .inr (.inl ⟨rfl, rfl, fun _ _ => rfl⟩)
  | var h => exact .inl ⟨_, rfl, h⟩
  | self => exact .inr (.inr ⟨_, rfl⟩)
  | red => exact .inr (.inr ⟨_, rfl⟩)
  | mix _ => exact .inr (.inr ⟨_, rfl⟩)
  | nest _ _ => exact .inr (.inr ⟨_, rfl⟩)
  | two _ _ _ => exact .inr (.inr ⟨_, rfl⟩)
  | less _ _ => exact .inr (.inr ⟨_, rfl⟩)
  | same _ _ => exact .inr (.inr ⟨_, rfl⟩)
  | con _ _ _ => exact .inr (.inr ⟨_, rfl⟩)
  | not _ => exact .inr (.inr ⟨_, rfl⟩)
/-- an item of a tuple of data -/
theorem x_at {p : Vo} {a : Addr} {xs : List V} {k : Nat} {v : V} (ha : Ev p ta σ H (sx (.ref a))) (na : Nv p a) (h : H a = some (.tup xs)) (hk : xs[k]? = some v) : Ev p (tOp (rIx K) ta (tC (.int (k : Nat)))) σ H (sx v) :=
  e_op ha e_cx fun x y H1 iv g ex ey => rv iv rfl fun Q q => .inr (.inl ⟨a, xs, (k : Nat), v, ex, ey, SqT.of (g a _ na h), Hk.at_of rfl hk, q⟩)
theorem x_ops {v : V} {ds es : List D} (ha : Ev Vo.non ta σ H (sx v)) (hd : Dat Vo.non H v (.tup ds)) (o : opsD ds = some es) : Ev Vo.non (tCall spOps [] E0 (tCons ta tNil)) σ H (sdx Vo.non (.tup es)) := e_call (a_cons ha a_nil) fun vs H1 iv g os Q q => by
  obtain ⟨v', ws, rfl, ev, rfl⟩ := os
  obtain rfl : v' = v := ev
  refine ⟨v', ds, rfl, hd.gr g, fun r H' g' h' => ?_⟩
  rcases h' with ⟨e, _⟩ | ⟨es', e, hr⟩
  · rw [o] at e
    cases e
  · rw [o] at e
    rw [← Option.some.inj e] at hr
    exact q r H' (Iv.non _) g' hr
theorem tk_lens : tks.all (fun z => decide (z.length ≤ 100000)) = true := by decide +kernel
theorem tk_len {z : Str} (h : z ∈ tks) : z.length ≤ 100000 := of_decide_eq_true (List.all_eq_true.mp tk_lens z h)
theorem ok_evaluate0 (F : Fun K "evaluate" "evaluate" s_evaluate f fd) : FnOk P w K mg base CX0 4 f fd PS (spEval 0) :=
  F.ok sc_evaluate (fun vs H Q E h => by obtain ⟨v, d, t, tf, own, s, rfl, _⟩ := h; rfl) fun cdv A outer s H vs Q E hr h => by
    obtain ⟨v, d, t, tf, own, s, _, _, _, _, _, tr, _⟩ := h
    cases tr
theorem ok_evaluate (E : En K mg) (F : Fun K "evaluate" "evaluate" s_evaluate f fd) (hm_E : mg "evaluate" = some (.ref f)) (n : Nat) (hn : n ≤ 5) (F_E : FnOk P w K mg base CX0 (4 + n) f fd PS (spEval n)) (c_operands_of : Ca P w K mg base 3 "operands_of" spOps) (c_operate : Ca P w K mg base 2 "operate" (spOper K)) : FnOk P w K mg base CX0 (4 + n + 1) f fd PS (spEval (n + 1)) := by
  have kp_E := F.kp
  have kb_E := kb_eval F
  refine F.ok sc_evaluate (fun vs H Q E h => by obtain ⟨v, d, t, tf, own, s, rfl, _⟩ := h; rfl) fun cdv A outer s H vs Q E' hr h => ?_
  obtain ⟨v, d, t, tf, own, srt, rfl, ho, hT, hV, hd, tr, q⟩ := h
  have hu1 : (A.deeper (envOfC "evaluate" (defScope s_evaluate) s.heap.objs.size f cdv)).units + 1 < cLine := by
    have := hr.un
    omega
  refine ⟨_, (pss_cons (ps_if (pt_val (pe_callB (isiU (K := K) rfl) (by rfl) (E.fr (x := "isinstance") (by decide +kernel)) (by decide +kernel) (pa_cons (pv 0) (pa_cons (pe_bltn (by rfl) (E.fr (x := "str") (by decide +kernel)) (by decide +kernel) (show RelV (.ty "str") (.type "str") from rfl)) pa_nil)))) (pss_one (ps_ret (pe_dget hu1 (pv 1) (pv 0) (fun _ _ => rfl)))) pss_nil)
      (pss_cons (ps_if (pt_not (pt_val (pe_callB (isiU (K := K) rfl) (by rfl) (E.fr (x := "isinstance") (by decide +kernel)) (by decide +kernel) (pa_cons (pv 0) (pa_cons (pe_bltn (by rfl) (E.fr (x := "tuple") (by decide +kernel)) (by decide +kernel) (show RelV (.ty "tuple") (.type "tuple") from rfl)) pa_nil))))) (pss_one (ps_ret (pv 0))) pss_nil)
      (pss_cons (ps_set (i := 3) sc_evaluate.nd rfl (Or.inl rfl) (pe_ix (ixU (K := K) rfl) (pv 0) pe_int (fun _ _ => rfl)))
      (pss_cons (ps_if (pt_cmpR op_eq (pv 3) pe_str (nomark _)) (pss_one (ps_ret (pv 2))) pss_nil)
      (pss_cons (ps_setLc (i := 4) (own := [("operand", 5)]) (g := (gName 5)) (tt := tYes) rfl sc_evaluate.nd rfl rfl (sw_true rfl rfl rfl (by decide +kernel)) (pi_tup (pe_ca c_operands_of (hr.mono (by first | decide | omega)) (by rfl) (pa_cons (pv 0) pa_nil))) (blkOk_by (own := [("operand", 5)]) (N := ["expression", "values", "task", "word", "operands", "operand"]) (sc := defScope s_evaluate) (by decide +kernel)) (fun _ _ _ _ _ => (pg_name (i := 5) sc_evaluate.nd rfl (Or.inl rfl))) (fun _ _ _ _ _ => pts_nil) (fun _ _ _ _ _ => (pe_callN F_E (hr.mono (by first | decide | omega)) (by rfl) hm_E kp_E kb_E pass0 (pa_cons (pv 5) (pa_cons (pv 1) pa_nil)) (pk_cons (pv 2) pk_nil))))
      (pss_cons (ps_if (pt_cmpR op_eq (pv 3) pe_str (nomark _)) (pss_one (ps_ret (pe_tup (pa_cons (pe_ix (ixU (K := K) rfl) (pv 0) pe_int (fun _ _ => rfl)) (StX.pa_star (pv 4) pa_nil))))) pss_nil)
      (pss_one (ps_ret (pe_ca c_operate (hr.mono (by first | decide | omega)) (by rfl) (pa_cons (pv 3) (pa_cons (pv 4) pa_nil))))))))))), ?_⟩
  rcases tr_ty tr with ⟨z, rfl, hz⟩ | ⟨nS, nT, hden⟩ | ⟨ds, rfl⟩
  · -- a variable
    obtain ⟨kvs, hk, hvs⟩ := hT
    obtain ⟨u, eu, hu⟩ := hvs _ hz
    cases hd
    refine q_ifr (p := Vo.non) (v := u) (b := true) (Iv.non H) (k_b (x_isiD (e_vx rfl) (.str z (by assumption)) (kit_s _))) (fun _ => ?_) (fun _ H1 i1 g1 => q u H1 g1 (hu.gr g1)) (fun e => nomatch e)
    intro H0 i0 g0 Q' q'
    exact ⟨.ref t, rfl, .str z, rfl, t, u, rfl, by rw [← eu]; exact DGet.k (k := Sum.inr z) (g0 _ _ (nv_non _) hk), q' u H0 i0 (Gr.refl H0) rfl⟩
  · -- a number, a truth
    refine q_ifr (p := Vo.non) (v := v) (b := false) (Iv.non H) (k_to (k_b (x_isiD (e_vx rfl) hd (kit_s _))) nS) (fun e => nomatch e) (fun e => nomatch e) fun _ H1 i1 g1 => ?_
    refine q_ifr (p := Vo.non) (v := v) (b := true) i1 (k_to (k_not (k_b (x_isiD (e_vx rfl) (hd.gr g1) (kit_t _)))) (by rw [nT]; rfl)) (fun _ => e_vx rfl) (fun _ H2 i2 g2 => q v H2 (g1.trans g2) (by rw [hden]; exact hd.gr (g1.trans g2))) (fun e => nomatch e)
  · -- an operation
    refine q_ifr (p := Vo.non) (v := v) (b := false) (Iv.non H) (k_b (x_isiD (e_vx rfl) hd (kit_s _))) (fun e => nomatch e) (fun e => nomatch e) fun _ H1 i1 g1 => ?_
    refine q_ifr (p := Vo.non) (v := v) (b := false) i1 (k_not (k_b (x_isiD (e_vx rfl) (hd.gr g1) (kit_t _)))) (fun e => nomatch e) (fun e => nomatch e) fun _ H2 i2 g12 => ?_
    have g2 := g1.trans g12
    have hd2 := hd.gr g2
    have hT2 := hT.gr g2
    cases hd2 with
    | @tup a xs _ na ha hl hz r =>
    have item : ∀ {k : Nat} {z : Str}, ds[k]? = some (.str z) → xs[k]? = some (.str z) := fun {k z} e => by
      have hlt : k < xs.length := by
        rw [hl]
        exact (List.getElem?_eq_some_iff.mp e).1
      have e1 := List.getElem?_eq_getElem hlt
      have h := r k _ _ e1 e
      cases hx : xs[k] with
      | str y =>
        rw [hx] at h e1
        cases h
        exact e1
      | _ =>
        rw [hx] at h
        cases h
    have call : ∀ {σ : L2.St} {x : V} {d : D} {Ea : Addr} {l : List V} {H3 : Hp}, Gr Vo.non H2 H3 → H3 Ea = none → σ[5]? = some (some x) → σ[1]? = some (some (.ref t)) → σ[2]? = some (some (.str own)) → Dat (Vo.non.and Ea (.lst l)) H3 x d → (∃ s, Tr n s d) →
        Ev (Vo.non.and Ea (.lst l)) (tCallN 2 1 (spEval n) (fun vs zs => vs ++ zs) E0 (tCons (tVar 5) (tCons (tVar 1) tNil)) (tCons (tVar 2) tNil)) σ H3 (sdx (Vo.non.and Ea (.lst l)) (den tf own n d)) := by
      intro σ x d Ea l H3 g hE e5 e1 e2 hx ⟨s', ht⟩ H4 i4 g4 Q' q'
      refine ⟨x, e5, .ref t, e1, .str own, e2, rfl, rfl, x, d, t, tf, own, s', rfl, ho, ?_, hV, (hx.gr g4).non', ht, fun r H' g' h' => ?_⟩
      · exact (hT2.gr g).in hE g4
      · exact q' r H' (i4.grow g') g'.pure (dat_in1 (i4.grow g') (n := 2) h' (fl_vk (tr_val hV ho ht)))
    cases tr_shape tr with
    | self =>
      have h0 := item (k := 0) (z := "self") rfl
      refine q_asgx (p := Vo.non) (v := .str "self") i2 (x_at (k := 0) (e_vx rfl) na ha h0) fun H3 i3 g23 => ?_
      refine q_ifr (p := Vo.non) (v := .str own) (b := true) i3 (k_to (k_test (x_eq (x := .str "self") (y := .str "self") (e_vx rfl) e_cx rfl)) (by decide +kernel)) (fun _ => e_vx rfl) (fun _ H4 i4 g4 => q _ H4 ((g2.trans g23).trans g4) ?_) (fun e => nomatch e)
      rw [den_self]
      exact .str own (tk_len ho)
    | @tag tg es o c =>
      have h0 := item (k := 0) (z := "tag") rfl
      refine q_asgx (p := Vo.non) (v := .str "tag") i2 (x_at (k := 0) (e_vx rfl) na ha h0) fun H3 i3 g23 => ?_
      refine q_ifr (p := Vo.non) (v := .str own) (b := false) i3 (k_to (k_test (x_eq (x := .str "tag") (y := .str "self") (e_vx rfl) e_cx rfl)) (by decide +kernel)) (fun e => nomatch e) (fun e => nomatch e) fun _ H4 i4 g34 => ?_
      have g4 := (g2.trans g23).trans g34
      refine q_asg (p := Vo.non) (A := slDx Vo.non (es.map (den tf own n))) i4 (lcT_dat (x_ops (e_vx rfl) (hd.gr g4) o) (fun _ => rfl) fun x d Ea l H5 g45 hE hm hx => call ((g23.trans g34).trans g45) hE rfl rfl rfl hx (c d hm)) fun v5 H5 i5 g45 h5 => ?_
      have h1 := item (k := 1) (z := tg) rfl
      have htg : tg.length ≤ 100000 := by
        have := r 1 _ _ h1 rfl
        cases this
        assumption
      refine q_ifS (p := Vo.non) (A := sdx Vo.non (.tup (.str tg :: es.map (den tf own n)))) (b := true) i5 (k_to (k_test (x_eq (x := .str "tag") (y := .str "tag") (e_vx rfl) e_cx rfl)) (by decide +kernel)) (fun _ => ?_) (fun _ v6 H6 i6 g6 h6 => q v6 H6 ((g4.trans g45).trans g6) (by rw [den_tag]; exact h6)) (fun e => nomatch e)
      intro H0 i0 g0 Q' q'
      obtain ⟨b5, ws, rfl, nb, hb, hws⟩ := (slDx Vo.non (es.map (den tf own n))).st _ _ _ g0 h5
      have hn5 : ws.length ≤ 99999 := by
        rw [hws.1, List.length_map]
        rw [hl] at hz
        rw [List.length_cons, List.length_cons] at hz
        omega
      refine ⟨.ref a, rfl, .inr (.inl ⟨a, xs, 1, .str tg, rfl, rfl, SqT.of ((((g23.trans g34).trans g45).trans g0) _ _ na ha), Hk.at_of (k := 1) rfl h1, .ref b5, rfl, b5, ws, rfl, .inr (SqL.of hb), ?_, fun a' ha' => ?_⟩)⟩
      · rw [List.append_nil, List.length_cons]
        exact big (by omega)
      · refine q' (.ref a') _ (i0.new ha') (Gr.new ha') ?_
        rw [List.append_nil]
        exact dat_tupL (DatL.cons (.str tg htg) hws) (by rw [List.length_cons]; omega) i0 ha'
    | @op z es h1 h2 o c ff =>
      have h0 := item (k := 0) (z := z) rfl
      refine q_asgx (p := Vo.non) (v := .str z) i2 (x_at (k := 0) (e_vx rfl) na ha h0) fun H3 i3 g23 => ?_
      refine q_ifr (p := Vo.non) (v := .str own) (b := false) i3 (k_to (k_test (x_eq (x := .str z) (y := .str "self") (e_vx rfl) e_cx rfl)) (decide_eq_false fun e => h1 (by injection e))) (fun e => nomatch e) (fun e => nomatch e) fun _ H4 i4 g34 => ?_
      have g4 := (g2.trans g23).trans g34
      refine q_asg (p := Vo.non) (A := slDx Vo.non (es.map (den tf own n))) i4 (lcT_dat (x_ops (e_vx rfl) (hd.gr g4) o) (fun _ => rfl) fun x d Ea l H5 g45 hE hm hx => call ((g23.trans g34).trans g45) hE rfl rfl rfl hx (c d hm)) fun v5 H5 i5 g45 h5 => ?_
      refine q_ifr (p := Vo.non) (v := .non) (b := false) i5 (k_to (k_test (x_eq (x := .str z) (y := .str "tag") (e_vx rfl) e_cx rfl)) (decide_eq_false fun e => h2 (by injection e))) (fun e => nomatch e) (fun e => nomatch e) fun _ H6 i6 g56 => ?_
      refine s_ret (p := Vo.non) (A := sdx Vo.non (opD z (es.map (den tf own n)))) i6 (e_call (a_cons (e_vx (v := .str z) rfl) (a_cons (e_var rfl ((slDx Vo.non (es.map (den tf own n))).st _ _ _ g56 h5)) a_nil)) fun vs H7 i7 g7 os Q' q' => ?_) fun v7 H7 i7 g7 h7 => q v7 H7 (((g4.trans g45).trans g56).trans g7) (by rw [den_op h1 h2]; exact h7)
      obtain ⟨v1, ws1, rfl, e1, v2, ws2, rfl, ⟨b5, ws, rfl, nb, hb, hws⟩, rfl⟩ := os
      obtain rfl : v1 = .str z := e1
      exact ⟨z, b5, ws, es.map (den tf own n), rfl, SqL.of hb, hws, ff tf own hV ho hn, fun v H' g' h' => q' v H' (Iv.non _) g' h'⟩
end
end K12
namespace K12
open PySem PySem.Spec PyProof.Rows L2 Hk
/-! ### quotients, the law's own way -/
def ab (i : Int) : Int := if i < 0 then -i else i
def dn (i j : Int) : Int := if (decide (i < 0) != decide (j < 0)) = true then 0 - ab i / ab j - (if decide (0 < ab i % ab j) = true then 1 else 0) else ab i / ab j
theorem neg_div {a b : Int} (hb : 0 < b) : (-a) / b = 0 - a / b - (if decide (0 < a % b) = true then 1 else 0) := by
  have e := Int.emod_add_mul_ediv a b
  have h0 := Int.emod_nonneg a (Int.ne_of_gt hb)
  have h1 := Int.emod_lt_of_pos a hb
  by_cases h : 0 < a % b
  · rw [if_pos (decide_eq_true h)]
    refine ((Int.ediv_emod_unique (r := b - a % b) hb).mpr ⟨?_, by omega, by omega⟩).1
    rw [Int.mul_sub, Int.mul_sub, Int.mul_zero, Int.mul_one]
    omega
  · rw [if_neg (by rw [decide_eq_false h]; decide)]
    refine ((Int.ediv_emod_unique (r := 0) hb).mpr ⟨?_, by omega, by omega⟩).1
    rw [Int.sub_zero, Int.mul_sub, Int.mul_zero]
    omega
theorem dn_eq {i j : Int} (hj : j ≠ 0) : dn i j = i.fdiv j := by
  unfold dn ab
  by_cases h2 : j < 0
  · have hp : 0 < -j := by omega
    rw [← Int.neg_fdiv_neg, Int.fdiv_eq_ediv_of_nonneg _ (by omega)]
    by_cases h1 : i < 0
    · rw [decide_eq_true h1, decide_eq_true h2, if_pos h1, if_pos h2]
      rfl
    · rw [decide_eq_false h1, decide_eq_true h2, if_neg h1, if_pos h2, neg_div hp]
      rfl
  · rw [Int.fdiv_eq_ediv_of_nonneg _ (by omega)]
    by_cases h1 : i < 0
    · rw [decide_eq_true h1, decide_eq_false h2, if_pos h1, if_neg h2]
      have := neg_div (a := -i) (b := j) (by omega)
      rw [Int.neg_neg] at this
      rw [this]
      rfl
    · rw [decide_eq_false h1, decide_eq_false h2, if_neg h1, if_neg h2]
      rfl
end K12
namespace K12
open PySem PySem.Spec PyProof.Rows L2 Hk
def spTwo : Sp := fun vs H Q _ => ∃ z x y a b, vs = [.str z, x, y] ∧ Dat Vo.non H x a ∧ Dat Vo.non H y b ∧ Fit2 z a b ∧ ∀ v H', Gr Vo.non H H' → Dat Vo.non H' v (op z a b) → Q v H'
theorem eq_ss {a z : Str} : eqV (.str a) (.str z) = true ↔ z = a := by
  refine ⟨fun h => ?_, fun h => ?_⟩
  · have h : (a == z) = true := h
    exact (eq_of_beq h).symm
  · rw [h]
    show (a == a) = true
    exact beq_self_eq_true a
theorem in2 {z a b : Str} (h : inV (.str z) [.str a, .str b] = true) : z = a ∨ z = b := by
  unfold inV at h
  rw [List.any_cons, List.any_cons, List.any_nil, Bool.or_false, Bool.or_eq_true] at h
  exact h.imp eq_ss.mp eq_ss.mp
theorem out2 {z a b : Str} (h : inV (.str z) [.str a, .str b] = false) : ¬ z = a ∧ ¬ z = b := by
  unfold inV at h
  rw [List.any_cons, List.any_cons, List.any_nil, Bool.or_false, Bool.or_eq_false_iff] at h
  exact ⟨fun e => Bool.false_ne_true (h.1.symm.trans (eq_ss.mpr e)), fun e => Bool.false_ne_true (h.2.symm.trans (eq_ss.mpr e))⟩
section
variable {P : Program} {w : World} {K : PySem.W.Frag} {mg : Str → Option Value} {base : Heap} {σ : L2.St} {H : Hp} {ta tb : TE}
theorem x_absx {i : Int} (ha : Ev Vo.non ta σ H (sx (.int i))) : Ev Vo.non (tCB (fun xs H Q => ∃ i, xs = [.int i] ∧ Q (.int (if i < 0 then -i else i)) H) (tCons ta tNil)) σ H (sx (.int (ab i))) := e_cb (a_cons ha a_nil) fun vs H1 iv g os => by
  obtain ⟨v, ws, rfl, e, rfl⟩ := os
  exact rv iv rfl fun Q q => ⟨i, by rw [show v = _ from e], q⟩
/-- a word, by a test in a pair of words -/
theorem k_in2 {z a b : Str} (hz : σ[0]? = some (some (.str z))) : Tis Vo.non (tTest (tOp (rInU K) (tVar 0) (tTup (tCons (tC (.str a)) (tCons (tC (.str b)) tNil))))) σ H (inV (.str z) [.str a, .str b]) :=
  k_test (x_inQ (v := .str z) (xs := [.str a, .str b]) (e_vx hz) rfl (x_tup (ws := [.str a, .str b]) (a_cons e_cx (a_cons e_cx a_nil)) (big (show 2 ≤ 100000 by decide))) sq_t rfl)
theorem k_is {z a : Str} (hz : σ[0]? = some (some (.str z))) : Tis Vo.non (tTest (tOp rEq (tVar 0) (tC (.str a)))) σ H (decide (z = a)) := by
  refine k_to (k_test (x_eq (x := .str z) (y := .str a) (e_vx hz) e_cx rfl)) ?_
  by_cases h : z = a
  · rw [h, decide_eq_true rfl, decide_eq_true rfl]
  · rw [decide_eq_false h, decide_eq_false fun e => h (V.str.inj e)]
theorem op_int {z : Str} {a b : D} (h : Fit2 z a b) (hz : z = "add" ∨ z = "sub" ∨ z = "mul" ∨ z = "div" ∨ z = "mod" ∨ z = "less") : ∃ i j : Int, a = .int i ∧ b = .int j ∧ i.natAbs < bnd 5 ∧ j.natAbs < bnd 5 := by
  rcases h with ⟨_, ⟨i, e1, h1⟩, ⟨j, e2, h2⟩⟩ | ⟨e, _⟩ | ⟨e, _⟩
  · exact ⟨i, j, e1, e2, h1, h2⟩
  · subst e
    exact absurd hz (by decide +kernel)
  · rcases e with rfl | rfl <;> exact absurd hz (by decide +kernel)
theorem w5_not {z : Str} (n1 : ¬ z = "add") (n2 : ¬ z = "sub") (n3 : ¬ z = "mul") (n4 : ¬ z = "div") (n5 : ¬ z = "mod") : ¬ z ∈ ws5 := fun h => by
  rcases List.mem_cons.mp h with e | h
  · exact n1 e
  rcases List.mem_cons.mp h with e | h
  · exact n2 e
  rcases List.mem_cons.mp h with e | h
  · exact n3 e
  rcases List.mem_cons.mp h with e | h
  · exact n4 e
  rcases List.mem_cons.mp h with e | h
  · exact n5 e
  · cases h
theorem op_bool {z : Str} {a b : D} (h : Fit2 z a b) (hw : z = "and" ∨ z = "or") : ∃ i j : Bool, a = .bl i ∧ b = .bl j := by
  rcases h with ⟨e | e, _⟩ | ⟨e, _⟩ | ⟨_, ⟨i, e1⟩, ⟨j, e2⟩⟩
  · rcases hw with rfl | rfl <;> exact absurd e (by decide +kernel)
  · rcases hw with rfl | rfl <;> exact absurd e (by decide +kernel)
  · rcases hw with rfl | rfl <;> exact absurd e (by decide +kernel)
  · exact ⟨i, j, e1, e2⟩
theorem q_ifj2 {p : Vo} {H : Hp} {D : Ends} {t : TT} {tu u : TS} {b : Bool} {σ : L2.St} (iv : Iv p H) (h : Tis p t σ H b) (h1 : b = true → ∀ H1, Iv p H1 → Gr p H H1 → tu { D with nx := u D } σ H1) (h2 : b = false → ∀ H1, Iv p H1 → Gr p H H1 → u D σ H1) : tSeq (tIfS t tu tNext) u D σ H :=
  s_ifx (D := { D with nx := u D }) iv h h1 h2
theorem q_asgG {p : Vo} {H : Hp} {D : Ends} {te : TE} {g : TG} {u : TS} {A : Sy p} {σ : L2.St} (iv : Iv p H) (h : Ev p te σ H A) (k : ∀ v H1, Iv p H1 → Gr p H H1 → A.P v H1 → g v σ H1 (u D)) : tSeq (tAsg te g) u D σ H :=
  h H iv (Gr.refl H) _ fun v H1 i g a => k v H1 i g a
theorem ok_of_two (E : En K mg) (F : Df K mg "_law_of_two" s__law_of_two) : CaG P w K mg base 1 "_law_of_two" spTwo := by
  refine caG_mk F sc__law_of_two (fun _ _ _ _ _ _ us hl => match us, hl with | [_, _, _], _ => rfl) (fun vs H Q E h => by obtain ⟨z, x, y, a, b, rfl, _⟩ := h; rfl) (fun f cdv A outer s H vs Q E' hg hr h => ?_)
  obtain ⟨z, x, y, a, b, rfl, hx, hy, hf, q⟩ := h
  have hu64 : (A.deeper (envOfC "_law_of_two" (defScope s__law_of_two) s.heap.objs.size f cdv)).units + 64 < cLine := by
    have := hr.un
    omega
  refine ⟨_, (pss_cons (ps_if (pt_cmpR (inU (K := K) rfl) (pv 0) (pe_tup (pa_cons pe_str (pa_cons pe_str pa_nil))) (by rfl)) (pss_one (ps_ret (pe_ifExp (pt_cmpR op_eq (pv 0) pe_str (nomark _)) (pe_op op_addU (pv 1) (pv 2)) (pe_op op_sub (pv 1) (pv 2))))) pss_nil)
      (pss_cons (ps_if (pt_cmpR op_eq (pv 0) pe_str (nomark _)) (pss_one (ps_ret (pe_op op_mulB (pv 1) (pv 2)))) pss_nil)
      (pss_cons (ps_if (pt_cmpR (inU (K := K) rfl) (pv 0) (pe_tup (pa_cons pe_str (pa_cons pe_str pa_nil))) (by rfl)) (pss_cons (ps_if (pt_cmpR op_eq (pv 2) pe_int (nomark _)) (pss_one (ps_ret pe_int)) pss_nil)
      (pss_cons (ps_asg (pe_callB call_divmodW (by rfl) (E.fr (x := "divmod") (by decide +kernel)) (by decide +kernel) (pa_cons (pe_callB call_abs (by rfl) (E.fr (x := "abs") (by decide +kernel)) (by decide +kernel) (pa_cons (pv 1) pa_nil)) (pa_cons (pe_callB call_abs (by rfl) (E.fr (x := "abs") (by decide +kernel)) (by decide +kernel) (pa_cons (pv 2) pa_nil)) pa_nil))) (pg_tup rfl (pgs_cons (pg_name (i := 3) sc__law_of_two.nd rfl (Or.inl rfl)) (pgs_cons (pg_name (i := 4) sc__law_of_two.nd rfl (Or.inl rfl)) pgs_nil))))
      (pss_cons (ps_if (pt_cmpR op_ne (pe_cmpR op_lt (pv 1) pe_int (nomark _)) (pe_cmpR op_lt (pv 2) pe_int (nomark _)) (nomark _)) (pss_one (ps_set (i := 3) sc__law_of_two.nd rfl (Or.inl rfl) (pe_op op_sub (pe_op op_sub pe_int (pv 3)) (pe_callTy call_int1 (by rfl) (E.fr (x := "int") (by decide +kernel)) (by decide +kernel) (pa_cons (pe_cmpR op_gt (pv 4) pe_int (nomark _)) pa_nil))))) pss_nil)
      (pss_one (ps_ret (pe_ifExp (pt_cmpR op_eq (pv 0) pe_str (nomark _)) (pv 3) (pe_op op_sub (pv 1) (pe_op op_mulB (pv 2) (pv 3))))))))) pss_nil)
      (pss_cons (ps_if (pt_cmpR op_eq (pv 0) pe_str (nomark _)) (pss_one (ps_ret (pe_cmpR op_lt (pv 1) (pv 2) (nomark _)))) pss_nil)
      (pss_cons (ps_if (pt_cmpR op_eq (pv 0) pe_str (nomark _)) (pss_one (ps_ret (pe_cmpR op_eq (pe_callB (call_reprP hg hu64) (by rfl) (E.fr (x := "repr") (by decide +kernel)) (by decide +kernel) (pa_cons (pv 1) pa_nil)) (pe_callB (call_reprP hg hu64) (by rfl) (E.fr (x := "repr") (by decide +kernel)) (by decide +kernel) (pa_cons (pv 2) pa_nil)) (nomark _)))) pss_nil)
      (pss_one (ps_ret (pe_ifExp (pt_cmpR op_eq (pv 0) pe_str (nomark _)) (pe_and (pv 1) (pe_one (pv 2))) (pe_or (pv 1) (pe_one (pv 2))))))))))), ?_⟩
  have fin : ∀ {v : V} {H1 : Hp} {r : D}, Gr Vo.non H H1 → Dat Vo.non H1 v r → r = op z a b → Q v H1 := fun g d e => q _ _ g (by rw [← e]; exact d)
  refine q_ifS (p := Vo.non) (A := sdx Vo.non (op z a b)) (Iv.non H) (k_in2 rfl) (fun e => ?_) (fun _ v H1 i1 g1 h1 => fin g1 h1 rfl) fun e1 H1 i1 g1 => ?_
  · rcases in2 e with rfl | rfl
    · obtain ⟨i, j, rfl, rfl, h1, h2⟩ := op_int hf (.inl rfl)
      cases hx
      cases hy
      refine e_if (B := fun b => b = true) ((k_is rfl).imp fun b e => by rw [e]; decide +kernel) (fun _ => ?_) (fun e => nomatch e)
      exact (e_op (C := sx (.int (i + j))) (e_vx (v := .int i) rfl) (e_vx (v := .int j) rfl) fun x y H1 iv g ex ey => rv iv rfl fun Q q => .inl ⟨i, j, ex, ey, q⟩).imp fun v H e => by rw [show v = _ from e]; exact .int _
    · obtain ⟨i, j, rfl, rfl, h1, h2⟩ := op_int hf (.inr (.inl rfl))
      cases hx
      cases hy
      refine e_if (B := fun b => b = false) ((k_is rfl).imp fun b e => by rw [e]; decide +kernel) (fun e => nomatch e) (fun _ => ?_)
      exact (x_ii (g := fun i j => .int (i - j)) (i := i) (j := j) (e_vx rfl) (e_vx rfl)).imp fun v H e => by rw [show v = _ from e]; exact .int _
  obtain ⟨n1, n2⟩ := out2 e1
  refine q_ifS (p := Vo.non) (A := sdx Vo.non (op z a b)) i1 (k_is (a := "mul") rfl) (fun e => ?_) (fun _ v H2 i2 g2 h2 => fin (g1.trans g2) h2 rfl) fun e2 H2 i2 g12 => ?_
  · have e := of_decide_eq_true e
    subst e
    obtain ⟨i, j, rfl, rfl, h1, h2⟩ := op_int hf (.inr (.inr (.inl rfl)))
    cases hx
    cases hy
    exact (e_op (C := sx (.int (i * j))) (e_vx (v := .int i) rfl) (e_vx (v := .int j) rfl) fun x y H1 iv g ex ey => rv iv rfl fun Q q => ⟨i, j, ex, ey, mul_in h1 h2, q⟩).imp fun v H e => by rw [show v = _ from e]; exact .int _
  have n3 := of_decide_eq_false e2
  have g2 := g1.trans g12
  refine q_ifj2 i2 (k_in2 (a := "div") (b := "mod") rfl) (fun e H3 i3 g23 => ?_) fun e3 H3 i3 g23 => ?_
  · have hz := in2 e
    have g3 := g2.trans g23
    obtain ⟨i, j, rfl, rfl, h1, h2⟩ := op_int hf (by rcases hz with h | h <;> simp [h])
    cases hx
    cases hy
    have od : ∀ {r m : Int}, j ≠ 0 → r = i.fdiv j → m = i - j * r → D.int (if z = "div" then r else m) = op z (.int i) (.int j) := fun {r m} hj er em => by
      rcases hz with rfl | rfl
      · rw [if_pos rfl, er]
        show _ = D.int (if j = 0 then 0 else i.fdiv j)
        rw [if_neg hj]
      · rw [if_neg (by decide +kernel), em, er, ← Int.fmod_def]
        show _ = D.int (if j = 0 then 0 else i.fmod j)
        rw [if_neg hj]
    refine q_ifS (p := Vo.non) (A := sdx Vo.non (op z (.int i) (.int j))) i3 (k_to (k_test (x_eq (x := .int j) (y := .int 0) (e_vx rfl) e_cx rfl)) (zero_dec j)) (fun e => ?_) (fun _ v H4 i4 g4 h4 => fin (g3.trans g4) h4 rfl) fun e4 H4 i4 g34 => ?_
    · have ej := of_decide_eq_true e
      have eo : op z (.int i) (.int j) = .int 0 := by
        rcases hz with rfl | rfl
        · show D.int (if j = 0 then 0 else i.fdiv j) = _
          rw [if_pos ej]
        · show D.int (if j = 0 then 0 else i.fmod j) = _
          rw [if_pos ej]
      rw [eo]
      exact (e_cx (v := .int 0)).imp fun v H e => by rw [show v = _ from e]; exact .int _
    have hj := of_decide_eq_false e4
    have g4 := g3.trans g34
    have aj : 0 < ab j := by
      unfold ab
      split <;> omega
    have ajn : (ab j).natAbs = j.natAbs := by
      unfold ab
      split <;> omega
    have hd : Ev Vo.non (tCB (fun xs H Q => ∃ i j, xs = [.int i, .int j] ∧ CDivP i j ∧ ∀ p, H p = none → Q (.ref p) (upd H p (.tup [.int (i / j), .int (i % j)]))) (tCons (tCB (fun xs H Q => ∃ i, xs = [.int i] ∧ Q (.int (if i < 0 then -i else i)) H) (tCons (tVar 1) tNil)) (tCons (tCB (fun xs H Q => ∃ i, xs = [.int i] ∧ Q (.int (if i < 0 then -i else i)) H) (tCons (tVar 2) tNil)) tNil))) [some (.str z), some (.int i), some (.int j), none, none] H4 (stx [.int (ab i / ab j), .int (ab i % ab j)]) := e_cb (a_cons (x_absx (i := i) (e_vx rfl)) (a_cons (x_absx (i := j) (e_vx rfl)) a_nil)) fun vs H5 i5 g5 os => by
      obtain ⟨v, ws, rfl, e1, v2, ws2, rfl, e2, rfl⟩ := os
      exact rv_new i5 (fun b nb hb i' g' => ⟨b, _, rfl, nb, upd_same, rfl⟩) fun Q q => ⟨ab i, ab j, by rw [show v = _ from e1, show v2 = _ from e2], ⟨aj, PyProof.noPylong_of_log2 (by rw [ajn]; exact log9 h2)⟩, q⟩
    refine q_asgG i4 hd fun v H5 i5 g45 hv => ?_
    obtain ⟨b, ws, rfl, _, hb, rfl⟩ := hv
    have g5 := g4.trans g45
    refine ⟨b, _, rfl, SqT.of hb, rfl, .int (ab i / ab j), [.int (ab i % ab j)], rfl, .int (ab i % ab j), [], rfl, rfl, ?_⟩
    have last : ∀ {H6 : Hp} {r : Int} {x4 : Option V} {D' : Ends}, Gr Vo.non H H6 → r = i.fdiv j → D'.rt = Q → tRet (tIf (tTest (tOp rEq (tVar 0) (tC (.str "div")))) (tVar 3) (tOp (rI0 fun i j => .int (i - j)) (tVar 1) (tOp rMulB (tVar 2) (tVar 3)))) D' [some (.str z), some (.int i), some (.int j), some (.int r), x4] H6 := fun {H6 r x4 D'} g6 er eD => by
      have hb2 : CMulX j r := by
        have b1 := bits_in h2
        have b2 : (Builtin.Int.intBits r : Int) ≤ 100000000 := by
          have l : r.natAbs < bnd 6 := by
            rw [er]
            exact b_fd h1
          have l2 : r.natAbs.log2 < 10000 := by
            by_cases h0 : r.natAbs = 0
            · rw [h0]
              decide
            · exact (Nat.log2_lt h0).mpr (Nat.lt_of_lt_of_le l (by decide +kernel))
          unfold Builtin.Int.intBits
          split <;> omega
        show _ ≤ _
        omega
      refine s_ret (p := Vo.non) (A := sdx Vo.non (.int (if z = "div" then r else i - j * r))) (Iv.non _) (e_if (B := fun b => b = decide (z = "div")) (k_is rfl) (fun e => ?_) fun e => ?_) fun v H7 i7 g7 h7 => by rw [eD]; exact fin (g6.trans g7) h7 (od hj er rfl)
      · rw [if_pos (of_decide_eq_true e.symm)]
        exact (e_vx (v := .int r) rfl).imp fun v H e => by rw [show v = _ from e]; exact .int _
      · rw [if_neg (of_decide_eq_false e.symm)]
        exact (x_ii (g := fun i j => .int (i - j)) (i := i) (j := j * r) (e_vx rfl) (e_op (C := sx (.int (j * r))) (e_vx (v := .int j) rfl) (e_vx (v := .int r) rfl) fun x y H1 iv g ex ey => rv iv rfl fun Q q => ⟨j, r, ex, ey, hb2, q⟩)).imp fun v H e => by rw [show v = _ from e]; exact .int _
    have lt0 : ∀ {k : Nat} {m : Int} {σ : L2.St} {H6 : Hp}, σ[k]? = some (some (.int m)) → Ev Vo.non (tOp (rI0 fun i j => .bl (decide (i < j))) (tVar k) (tC (.int 0))) σ H6 (sx (.bl (decide (m < 0)))) := fun {k m σ H6} hσ => x_ii (g := fun i j => .bl (decide (i < j))) (i := m) (j := 0) (e_vx hσ) e_cx
    refine q_ifj2 (b := (decide (i < 0) != decide (j < 0))) (Iv.non _) (k_to (k_test (x_ne (x := .bl (decide (i < 0))) (y := .bl (decide (j < 0))) (lt0 rfl) (lt0 rfl) rfl)) ?cmp) (fun e6 H6 i6 g56 => ?_) fun e6 H6 i6 g56 => ?_
    case cmp => cases decide (i < 0) <;> cases decide (j < 0) <;> decide +kernel
    · have hr : Ev Vo.non (tOp (rI0 fun i j => .int (i - j)) (tOp (rI0 fun i j => .int (i - j)) (tC (.int 0)) (tVar 3)) (tCB (fun xs H Q => (∃ i, xs = [.int i] ∧ Q (.int i) H) ∨ ∃ k : Bool, xs = [.bl k] ∧ Q (.int (if k then 1 else 0)) H) (tCons (tOp (rI0 fun i j => .bl (decide (j < i))) (tVar 4) (tC (.int 0))) tNil))) [some (.str z), some (.int i), some (.int j), some (.int (ab i / ab j)), some (.int (ab i % ab j))] H6 (sx (.int (0 - ab i / ab j - (if decide (0 < ab i % ab j) = true then 1 else 0)))) :=
        x_ii (g := fun i j => .int (i - j)) (i := 0 - ab i / ab j) (j := (if decide (0 < ab i % ab j) = true then 1 else 0)) (x_ii (g := fun i j => .int (i - j)) (i := 0) (j := ab i / ab j) e_cx (e_vx rfl)) (e_cb (a_cons (x_ii (g := fun i j => .bl (decide (j < i))) (i := ab i % ab j) (j := 0) (e_vx rfl) e_cx) a_nil) fun vs H7 i7 g7 os => by
          obtain ⟨v, ws, rfl, e, rfl⟩ := os
          exact rv i7 rfl fun Q q => .inr ⟨_, by rw [show v = _ from e], q⟩)
      refine s_asg i6 hr fun v H7 i7 g67 ev => ?_
      rw [show v = _ from ev]
      exact last (r := 0 - ab i / ab j - (if decide (0 < ab i % ab j) = true then 1 else 0)) ((g5.trans g56).trans g67) (by rw [← dn_eq hj]; unfold dn; rw [if_pos e6]) rfl
    · exact last (r := ab i / ab j) (g5.trans g56) (by rw [← dn_eq hj]; unfold dn; rw [if_neg (by rw [e6]; decide)]) rfl
  obtain ⟨n4, n5⟩ := out2 e3
  have g3 := g2.trans g23
  refine q_ifS (p := Vo.non) (A := sdx Vo.non (op z a b)) i3 (k_is (a := "less") rfl) (fun e => ?_) (fun _ v H4 i4 g4 h4 => fin (g3.trans g4) h4 rfl) fun e4 H4 i4 g34 => ?_
  · have e := of_decide_eq_true e
    subst e
    obtain ⟨i, j, rfl, rfl, h1, h2⟩ := op_int hf (.inr (.inr (.inr (.inr (.inr rfl)))))
    cases hx
    cases hy
    exact (x_ii (g := fun i j => .bl (decide (i < j))) (i := i) (j := j) (e_vx rfl) (e_vx rfl)).imp fun v H e => by rw [show v = _ from e]; exact .bl _
  have n6 := of_decide_eq_false e4
  have g4 := g3.trans g34
  refine q_ifS (p := Vo.non) (A := sdx Vo.non (op z a b)) i4 (k_is (a := "same") rfl) (fun e => ?_) (fun _ v H5 i5 g5 h5 => fin (g4.trans g5) h5 rfl) fun e5 H5 i5 g45 => ?_
  · have e := of_decide_eq_true e
    subst e
    rcases hf with ⟨h | h, _⟩ | ⟨_, s', ha, hb⟩ | ⟨h | h, _⟩
    · exact absurd h (by decide +kernel)
    · exact absurd h (by decide +kernel)
    · have sh : ∀ {i : Nat} {v : V} {d : D} {σ : L2.St}, σ[i]? = some (some v) → Dat Vo.non H v d → Vk (bnd 5) s' d → Ev Vo.non (tCB rReprP (tCons (tVar i) tNil)) σ H4 (sx (.str (pdv d).shown)) := fun hσ hd hk => e_cb (a_cons (e_vx hσ) a_nil) fun vs H6 i6 g6 os => by
        obtain ⟨v', ws, rfl, e, rfl⟩ := os
        have o := okd (Nat.le_refl 5) hk
        exact rv i6 rfl fun Q q => ⟨_, _, rfl, by rw [show v' = _ from e]; exact py_vk (hd.gr (g4.trans g6)) hk, o.sh, o.nd, o.dp, big o.ln, q⟩
      refine (x_eq (x := .str (pdv a).shown) (y := .str (pdv b).shown) (sh rfl hx ha) (sh rfl hy hb) rfl).imp fun v H e => ?_
      rw [show v = _ from e, same_txt ha hb]
      exact .bl _
    · exact absurd h (by decide +kernel)
    · exact absurd h (by decide +kernel)
  have n7 := of_decide_eq_false e5
  have g5 := g4.trans g45
  have hw : z = "and" ∨ z = "or" := by
    rcases hf with ⟨h | h, _⟩ | ⟨h, _⟩ | ⟨h, _⟩
    · exact absurd h (w5_not n1 n2 n3 n4 n5)
    · exact absurd h n6
    · exact absurd h n7
    · exact h
  obtain ⟨i, j, rfl, rfl⟩ := op_bool hf hw
  cases hx
  cases hy
  refine s_ret (p := Vo.non) (A := sdx Vo.non (op z (.bl i) (.bl j))) i5 (e_if (B := fun b => b = decide (z = "and")) (k_is rfl) (fun e => ?_) fun e => ?_) fun v H6 i6 g6 h6 => fin (g5.trans g6) h6 rfl
  · have e := of_decide_eq_true e.symm
    subst e
    exact (x_and (a := i) (b := j) (e_vx rfl) fun _ => e_vx rfl).imp fun v H e => by rw [show v = _ from e]; exact .bl _
  · have e := of_decide_eq_false e.symm
    rcases hw with h | h
    · exact absurd h e
    subst h
    exact (x_or (a := i) (b := j) (e_vx rfl) fun _ => e_vx rfl).imp fun v H e => by rw [show v = _ from e]; exact .bl _
end
end K12
namespace K12
open PySem PySem.Spec PyProof.Rows L2 Hk
theorem catT {X : Cx} {K : PySem.W.Frag} (h : X.K = K) : OpR X (binaryOp .Add) (rCatT K) := h ▸ op_catT
section
variable {P : Program} {w : World} {K : PySem.W.Frag} {mg : Str → Option Value} {base : Heap} {σ : L2.St} {H : Hp} {ta tb : TE}
theorem x_cutD {a : Addr} {xs : List V} {ds : List D} (k : Nat) (hσ : Ev Vo.non ta σ H (sx (.ref a))) (ha : H a = some (.tup xs)) (hl : xs.length = ds.length) (hz : xs.length ≤ 100000) (r : ∀ (i : Nat) (v : V) (d : D), xs[i]? = some v → ds[i]? = some d → Dat Vo.non H v d) (hk : 0 < k) (h0 : 0 < xs.length) : Ev Vo.non (tSl (rSlU K) ta (tPart (tC (.int (k : Int)))) tNoPart) σ H (sdx Vo.non (.tup (ds.drop k))) := fun H4 i4 g4 Q' q' =>
  x_slT (xs := xs) (lo := some (k : Int)) (hi := none) hσ (fun v H1 g e => ⟨a, e, SqT.of (g a _ (nv_non a) ha)⟩) (fun _ _ q => o_int q) (fun _ _ q => o_none q) (not_whole k hk h0) H4 i4 g4 Q' fun v H5 i5 g5 h => q' v H5 i5 g5 (dat_from k hl hz r (g4.trans g5) h)
theorem x_tupD {es : List D} (h : Ev Vo.non ta σ H (slDx Vo.non es)) (hz : es.length ≤ 100000) : Ev Vo.non (tCB (rTupK K) (tCons ta tNil)) σ H (sdx Vo.non (.tup es)) := e_cb (a_cons h a_nil) fun vs H1 iv g os => by
  obtain ⟨v, us, rfl, ⟨b, ws, rfl, nb, h1, hws⟩, rfl⟩ := os
  exact rv_new iv (o := .tup ws) (fun q nq hq i' g' => .tup nq upd_same hws.1 (by rw [hws.1]; exact hz) fun i v d e1 e2 => (hws.2 i v d e1 e2).gr g') fun Q q => ⟨b, ws, rfl, .inl ⟨SqL.of h1, q⟩⟩
theorem x_catD {tg : Str} {es : List D} (ha : Ev Vo.non ta σ H (stx [.str tg])) (hb : Ev Vo.non tb σ H (sdx Vo.non (.tup es))) (ht : tg.length ≤ 100000) (hz : es.length ≤ 99999) : Ev Vo.non (tOp (rCatT K) ta tb) σ H (sdx Vo.non (.tup (.str tg :: es))) :=
  e_op ha hb fun x y H1 iv g ⟨b1, ws1, ex, nb1, hb1, e1⟩ hy Q q => by
    have hy : Dat Vo.non H1 y (.tup es) := hy
    subst e1
    cases hy with
    | @tup b2 ys _ nb2 hb2 l hz2 r =>
      have hD : DatL Vo.non H1 (.str tg :: ys) (.str tg :: es) := DatL.cons (.str tg ht) ⟨l, r⟩
      have ly : (V.str tg :: ys).length ≤ 100000 := by rw [List.length_cons, l]; omega
      refine ⟨b1, b2, [.str tg], ys, ex, rfl, SqT.of hb1, SqT.of hb2, by simp, big (by rw [List.length_singleton, l]; omega), fun e => ?_, fun _ p hp => ?_⟩
      · subst e
        exact q (.ref b1) H1 iv (Gr.refl H1) (.tup nb1 hb1 hD.1 (show 1 ≤ 100000 by decide) hD.2)
      · exact q (.ref p) _ (iv.new hp) (Gr.new hp) (dat_tupL hD ly iv hp)
theorem x_notL {b : Bool} (h : Ev Vo.non ta σ H (slDx Vo.non [.bl b])) : Ev Vo.non (tOp (rEqX true) ta (tLst (tCons (tC (.bl false)) tNil))) σ H (sx (.bl (!b))) :=
  e_op h (x_lst (ws := [.bl false]) (a_cons e_cx a_nil) (big (show 1 ≤ 100000 by decide))) fun x y H1 iv g ⟨b1, ws1, ex, nb1, hb1, l1, r1⟩ ⟨b2, ws2, ey, nb2, hb2, e2⟩ => by
    subst e2
    have one : ∀ {v : V} {c : Bool} (i : Nat) (u : V) (d : PyData), v = .bl c → [v][i]? = some u → [PyData.bool c][i]? = some d → Py Vo.non H1 u d := fun {v c} i u d e h1 h2 => by
      cases i with
      | zero =>
        rw [← Option.some.inj h1, ← Option.some.inj h2, e]
        exact .bl c
      | succ i => cases h1
    match ws1, l1 with
    | [v], _ =>
      have hv : v = .bl b := by
        have := r1 0 v (.bl b) rfl rfl
        cases this
        rfl
      refine rv iv (v := .bl (!b)) rfl fun Q q => ⟨[.bool b], [.bool false], ⟨b1, [v], ex, hb1, rfl, fun i u d h1 h2 => one i u d hv h1 h2⟩, ⟨b2, [.bl false], ey, hb2, rfl, fun i u d h1 h2 => one i u d rfl h1 h2⟩, by cases b <;> decide +kernel, by decide +kernel, ?_⟩
      have e : PyData.eqvAll [.bool b] [.bool false] = !b := by
        rw [eqv_cons, eqv_bool, eqv_nil]
        cases b <;> rfl
      show Q (.bl (PyData.eqvAll [.bool b] [.bool false])) H1
      rw [e]
      exact q
theorem ok_reck0 (F : Df K mg "_law_reckoned" s__law_reckoned) : CaG P w K mg base 4 "_law_reckoned" (spEval 0) :=
  caG_mk F sc__law_reckoned (fun _ _ _ _ _ _ us hl => match us, hl with | [_, _, _], _ => rfl) (fun vs H Q E h => by obtain ⟨v, d, t, tf, own, s, rfl, _⟩ := h; rfl) fun f cdv A outer s H vs Q E hg hr h => by
    obtain ⟨v, d, t, tf, own, s, _, _, _, _, _, tr, _⟩ := h
    cases tr
theorem ok_reck (E : En K mg) (F : Df K mg "_law_reckoned" s__law_reckoned) (n : Nat) (hn : n ≤ 5) (c__law_reckoned : CaG P w K mg base (4 + n) "_law_reckoned" (spEval n)) (c__law_of_two : CaG P w K mg base 1 "_law_of_two" spTwo) : CaG P w K mg base (4 + n + 1) "_law_reckoned" (spEval (n + 1)) := by
  refine caG_mk F sc__law_reckoned (fun _ _ _ _ _ _ us hl => match us, hl with | [_, _, _], _ => rfl) (fun vs H Q E h => by obtain ⟨v, d, t, tf, own, s, rfl, _⟩ := h; rfl) fun f cdv A outer s H vs Q E' hg hr h => ?_
  obtain ⟨v, d, t, tf, own, srt, rfl, ho, hT, hV, hd, tr, q⟩ := h
  have hu1 : (A.deeper (envOfC "_law_reckoned" (defScope s__law_reckoned) s.heap.objs.size f cdv)).units + 1 < cLine := by
    have := hr.un
    omega
  have hu64 : (A.deeper (envOfC "_law_reckoned" (defScope s__law_reckoned) s.heap.objs.size f cdv)).units + 64 < cLine := by
    have := hr.un
    omega
  refine ⟨_, (pss_cons (ps_if (pt_val (pe_callB (isiU (K := K) rfl) (by rfl) (E.fr (x := "isinstance") (by decide +kernel)) (by decide +kernel) (pa_cons (pv 0) (pa_cons (pe_bltn (by rfl) (E.fr (x := "str") (by decide +kernel)) (by decide +kernel) (show RelV (.ty "str") (.type "str") from rfl)) pa_nil)))) (pss_one (ps_ret (pe_dget hu1 (pv 1) (pv 0) (fun _ _ => rfl)))) pss_nil)
      (pss_cons (ps_if (pt_not (pt_val (pe_callB (isiU (K := K) rfl) (by rfl) (E.fr (x := "isinstance") (by decide +kernel)) (by decide +kernel) (pa_cons (pv 0) (pa_cons (pe_bltn (by rfl) (E.fr (x := "tuple") (by decide +kernel)) (by decide +kernel) (show RelV (.ty "tuple") (.type "tuple") from rfl)) pa_nil))))) (pss_one (ps_ret (pv 0))) pss_nil)
      (pss_cons (ps_if (pt_cmpR op_eq (pe_ix (ixU (K := K) rfl) (pv 0) pe_int (fun _ _ => rfl)) pe_str (nomark _)) (pss_one (ps_ret (pv 2))) pss_nil)
      (pss_cons (ps_if (pt_cmpR op_eq (pe_ix (ixU (K := K) rfl) (pv 0) pe_int (fun _ _ => rfl)) pe_str (nomark _)) (pss_one (ps_ret (pe_op (catT (K := K) rfl) (pe_tup (pa_cons (pe_ix (ixU (K := K) rfl) (pv 0) pe_int (fun _ _ => rfl)) pa_nil)) (pe_callTy (tupU (K := K) rfl) (by rfl) (E.fr (x := "tuple") (by decide +kernel)) (by decide +kernel) (pa_cons (pe_lc (own := [("_law_one", 4)]) (g := (gName 4)) (tt := tYes) rfl sc__law_reckoned.nd (pi_tup (pe_slice (slU (K := K) rfl) (pv 0) (po_some pe_int) po_none)) (blkOk_by (own := [("_law_one", 4)]) (N := ["_law_tree_here", "_law_table", "_law_owner", "_law_some", "_law_one"]) (sc := defScope s__law_reckoned) (by decide +kernel)) (fun _ _ _ _ _ => (pg_name (i := 4) sc__law_reckoned.nd rfl (Or.inl rfl))) (fun _ _ _ _ _ => pts_nil) (fun _ _ _ _ _ => (pe_cg c__law_reckoned (by exact hg) (hr.mono (by first | decide | omega)) (by rfl) (pa_cons (pv 4) (pa_cons (pv 1) (pa_cons (pv 2) pa_nil)))))) pa_nil))))) pss_nil)
      (pss_cons (ps_setLc (i := 3) (own := [("_law_one", 4)]) (g := (gName 4)) (tt := tYes) rfl sc__law_reckoned.nd rfl rfl (sw_true rfl rfl rfl (by decide +kernel)) (pi_tup (pe_slice (slU (K := K) rfl) (pv 0) (po_some pe_int) po_none)) (blkOk_by (own := [("_law_one", 4)]) (N := ["_law_tree_here", "_law_table", "_law_owner", "_law_some", "_law_one"]) (sc := defScope s__law_reckoned) (by decide +kernel)) (fun _ _ _ _ _ => (pg_name (i := 4) sc__law_reckoned.nd rfl (Or.inl rfl))) (fun _ _ _ _ _ => pts_nil) (fun _ _ _ _ _ => (pe_cg c__law_reckoned (by exact hg) (hr.mono (by first | decide | omega)) (by rfl) (pa_cons (pv 4) (pa_cons (pv 1) (pa_cons (pv 2) pa_nil))))))
      (pss_cons (ps_if (pt_cmpR op_eq (pe_ix (ixU (K := K) rfl) (pv 0) pe_int (fun _ _ => rfl)) pe_str (nomark _)) (pss_one (ps_ret (pe_cmpR (op_eqX hu64) (pv 3) (pe_lst (pa_cons pe_bl pa_nil)) (nomark _)))) pss_nil)
      (pss_one (ps_ret (pe_cg c__law_of_two (by exact hg) (hr.mono (by first | decide | omega)) (by rfl) (pa_cons (pe_ix (ixU (K := K) rfl) (pv 0) pe_int (fun _ _ => rfl)) (pa_cons (pe_ix (ixU (K := K) rfl) (pv 3) pe_int (fun _ _ => rfl)) (pa_cons (pe_ix (ixU (K := K) rfl) (pv 3) pe_int (fun _ _ => rfl)) pa_nil)))))))))))), ?_⟩
  rcases tr_ty tr with ⟨z, rfl, hz⟩ | ⟨nS, nT, hden⟩ | ⟨ds, rfl⟩
  · obtain ⟨kvs, hk, hvs⟩ := hT
    obtain ⟨u, eu, hu⟩ := hvs _ hz
    cases hd
    refine q_ifr (p := Vo.non) (v := u) (b := true) (Iv.non H) (k_b (x_isiD (e_vx rfl) (.str z (by assumption)) (kit_s _))) (fun _ => ?_) (fun _ H1 i1 g1 => q u H1 g1 (hu.gr g1)) (fun e => nomatch e)
    intro H0 i0 g0 Q' q'
    exact ⟨.ref t, rfl, .str z, rfl, t, u, rfl, by rw [← eu]; exact DGet.k (k := Sum.inr z) (g0 _ _ (nv_non _) hk), q' u H0 i0 (Gr.refl H0) rfl⟩
  · refine q_ifr (p := Vo.non) (v := v) (b := false) (Iv.non H) (k_to (k_b (x_isiD (e_vx rfl) hd (kit_s _))) nS) (fun e => nomatch e) (fun e => nomatch e) fun _ H1 i1 g1 => ?_
    refine q_ifr (p := Vo.non) (v := v) (b := true) i1 (k_to (k_not (k_b (x_isiD (e_vx rfl) (hd.gr g1) (kit_t _)))) (by rw [nT]; rfl)) (fun _ => e_vx rfl) (fun _ H2 i2 g2 => q v H2 (g1.trans g2) (by rw [hden]; exact hd.gr (g1.trans g2))) (fun e => nomatch e)
  · refine q_ifr (p := Vo.non) (v := v) (b := false) (Iv.non H) (k_b (x_isiD (e_vx rfl) hd (kit_s _))) (fun e => nomatch e) (fun e => nomatch e) fun _ H1 i1 g1 => ?_
    refine q_ifr (p := Vo.non) (v := v) (b := false) i1 (k_not (k_b (x_isiD (e_vx rfl) (hd.gr g1) (kit_t _)))) (fun e => nomatch e) (fun e => nomatch e) fun _ H2 i2 g12 => ?_
    have g2 := g1.trans g12
    have hd2 := hd.gr g2
    have hT2 := hT.gr g2
    cases hd2 with
    | @tup a xs _ na ha hl hz r =>
    have item : ∀ {k : Nat} {z : Str}, ds[k]? = some (.str z) → xs[k]? = some (.str z) := fun {k z} e => by
      have hlt : k < xs.length := by
        rw [hl]
        exact (List.getElem?_eq_some_iff.mp e).1
      have e1 := List.getElem?_eq_getElem hlt
      have h := r k _ _ e1 e
      cases hx : xs[k] with
      | str y =>
        rw [hx] at h e1
        cases h
        exact e1
      | _ =>
        rw [hx] at h
        cases h
    have at2 : ∀ {H3 : Hp}, Gr Vo.non H2 H3 → H3 a = some (.tup xs) := fun g => g a _ na ha
    have r2 : ∀ {H3 : Hp}, Gr Vo.non H2 H3 → ∀ (i : Nat) (v : V) (d : D), xs[i]? = some v → ds[i]? = some d → Dat Vo.non H3 v d := fun g i v d e1 e2 => (r i v d e1 e2).gr g
    have call : ∀ {σ : L2.St} {x : V} {d : D} {Ea : Addr} {l : List V} {H3 : Hp}, Gr Vo.non H2 H3 → H3 Ea = none → σ[4]? = some (some x) → σ[1]? = some (some (.ref t)) → σ[2]? = some (some (.str own)) → Dat (Vo.non.and Ea (.lst l)) H3 x d → (∃ s, Tr n s d) →
        Ev (Vo.non.and Ea (.lst l)) (tCall (spEval n) [] E0 (tCons (tVar 4) (tCons (tVar 1) (tCons (tVar 2) tNil)))) σ H3 (sdx (Vo.non.and Ea (.lst l)) (den tf own n d)) := by
      intro σ x d Ea l H3 g hE e5 e1 e2 hx ⟨s', ht⟩ H4 i4 g4 Q' q'
      refine ⟨x, e5, .ref t, e1, .str own, e2, x, d, t, tf, own, s', rfl, ho, (hT2.gr g).in hE g4, hV, (hx.gr g4).non', ht, fun r H' g' h' => ?_⟩
      exact q' r H' (i4.grow g') g'.pure (dat_in1 (i4.grow g') (n := 2) h' (fl_vk (tr_val hV ho ht)))
    have head : ∀ {σ : L2.St} {H3 : Hp} {z y : Str}, Gr Vo.non H2 H3 → σ[0]? = some (some (.ref a)) → xs[0]? = some (.str z) → Tis Vo.non (tTest (tOp rEq (tOp (rIx K) (tVar 0) (tC (.int 0))) (tC (.str y)))) σ H3 (decide (z = y)) := fun {σ H3 z y} g e0 h0 => by
      refine k_to (k_test (x_eq (x := .str z) (y := .str y) (x_at (k := 0) (e_vx e0) (nv_non a) (at2 g) h0) e_cx rfl)) ?_
      by_cases h : z = y
      · rw [h, decide_eq_true rfl, decide_eq_true rfl]
      · rw [decide_eq_false h, decide_eq_false fun e => h (V.str.inj e)]
    cases tr_shape tr with
    | self =>
      have h0 := item (k := 0) (z := "self") rfl
      refine q_ifr (p := Vo.non) (v := .str own) (b := true) i2 (k_to (head (Gr.refl H2) rfl h0) (by decide +kernel)) (fun _ => e_vx rfl) (fun _ H4 i4 g4 => q _ H4 (g2.trans g4) ?_) (fun e => nomatch e)
      rw [den_self]
      exact .str own (tk_len ho)
    | @tag tg es o c =>
      have h0 := item (k := 0) (z := "tag") rfl
      have h1 := item (k := 1) (z := tg) rfl
      have htg : tg.length ≤ 100000 := by
        have := r 1 _ _ h1 rfl
        cases this
        assumption
      have hes : es.length ≤ 99998 := by
        rw [hl, List.length_cons, List.length_cons] at hz
        omega
      refine q_ifr (p := Vo.non) (v := .str own) (b := false) i2 (k_to (head (Gr.refl H2) rfl h0) (by decide +kernel)) (fun e => nomatch e) (fun e => nomatch e) fun _ H3 i3 g23 => ?_
      refine q_ifS (p := Vo.non) (A := sdx Vo.non (.tup (.str tg :: es.map (den tf own n)))) (b := true) i3 (k_to (head g23 rfl h0) (by decide +kernel)) (fun _ => ?_) (fun _ v6 H6 i6 g6 h6 => q v6 H6 ((g2.trans g23).trans g6) (by rw [den_tag]; exact h6)) (fun e => nomatch e)
      refine x_catD (x_tup (ws := [.str tg]) (a_cons (x_at (k := 1) (e_vx rfl) (nv_non a) (at2 g23) h1) a_nil) (big (show 1 ≤ 100000 by decide))) (x_tupD (lcT_dat (x_cutD 2 (e_vx rfl) (at2 g23) hl hz (r2 g23) (by decide) (by rw [hl, List.length_cons]; omega)) (fun _ => rfl) fun x d Ea l H5 g45 hE hm hx => call (g23.trans g45) hE rfl rfl rfl hx (c d hm)) (by rw [List.length_map]; omega)) htg (by rw [List.length_map]; omega)
    | @op z es h1 h2 o c ff =>
      have h0 := item (k := 0) (z := z) rfl
      have hf := ff tf own hV ho hn
      refine q_ifr (p := Vo.non) (v := .str own) (b := false) i2 (k_to (head (Gr.refl H2) rfl h0) (decide_eq_false h1)) (fun e => nomatch e) (fun e => nomatch e) fun _ H3 i3 g23 => ?_
      refine q_ifr (p := Vo.non) (v := .non) (b := false) i3 (k_to (head g23 rfl h0) (decide_eq_false h2)) (fun e => nomatch e) (fun e => nomatch e) fun _ H4 i4 g34 => ?_
      have g24 := g23.trans g34
      refine q_asg (p := Vo.non) (A := slDx Vo.non (es.map (den tf own n))) i4 (lcT_dat (x_cutD 1 (e_vx rfl) (at2 g24) hl hz (r2 g24) (by decide) (by rw [hl, List.length_cons]; omega)) (fun _ => rfl) fun x d Ea l H5 g45 hE hm hx => call (g24.trans g45) hE rfl rfl rfl hx (c d hm)) fun v5 H5 i5 g45 h5 => ?_
      have g25 := g24.trans g45
      have fin : ∀ {v : V} {H' : Hp}, Gr Vo.non H2 H' → Dat Vo.non H' v (opD z (es.map (den tf own n))) → Q v H' := fun g h => q _ _ (g2.trans g) (by rw [den_op h1 h2]; exact h)
      rcases hf with ⟨rfl, b, eb⟩ | ⟨x, y, exy, hf⟩
      · rw [eb] at h5 fin
        refine q_ifr (p := Vo.non) (v := .bl (!b)) (b := true) i5 (k_to (head g25 rfl h0) (by decide +kernel)) (fun _ => x_notL (e_var rfl h5)) (fun _ H6 i6 g6 => fin (g25.trans g6) (.bl _)) (fun e => nomatch e)
      · rw [exy] at h5 fin
        have nz : ¬ z = "not" := fun e => by
          have := not_two hf
          rw [e] at this
          revert this
          decide +kernel
        refine q_ifr (p := Vo.non) (v := .non) (b := false) i5 (k_to (head g25 rfl h0) (decide_eq_false nz)) (fun e => nomatch e) (fun e => nomatch e) fun _ H6 i6 g56 => ?_
        obtain ⟨b5, ws, rfl, nb, hb, l5, r5⟩ := (slDx Vo.non [x, y]).st _ _ _ g56 h5
        match ws, l5 with
        | [u, v], _ =>
          have at5 : ∀ {σ : L2.St} {k : Nat} {m : V}, σ[3]? = some (some (.ref b5)) → [u, v][k]? = some m → Ev Vo.non (tOp (rIx K) (tVar 3) (tC (.int (k : Nat)))) σ H6 (sx m) := fun {σ k m} e3 hk => e_op (e_vx e3) e_cx fun x y H1 iv g ex ey => rv iv rfl fun Q q => .inl ⟨b5, [u, v], (k : Nat), m, ex, ey, SqL.of (g b5 _ nb hb), Hk.at_of rfl hk, q⟩
          refine s_ret (p := Vo.non) (A := sdx Vo.non (op z x y)) i6 (e_call (a_cons (x_at (k := 0) (e_vx rfl) (nv_non a) (at2 (g25.trans g56)) h0) (a_cons (at5 (k := 0) rfl rfl) (a_cons (at5 (k := 1) rfl rfl) a_nil))) fun vs H7 i7 g7 os Q' q' => ?_) fun v7 H7 i7 g7 h7 => fin ((g25.trans g56).trans g7) h7
          obtain ⟨w1, ws1, rfl, e1, w2, ws2, rfl, e2, w3, ws3, rfl, e3, rfl⟩ := os
          rw [show w1 = _ from e1, show w2 = _ from e2, show w3 = _ from e3]
          exact ⟨z, u, v, x, y, rfl, (r5 0 u x rfl rfl).gr g7, (r5 1 v y rfl rfl).gr g7, hf, fun r H' g' h' => q' r H' (Iv.non _) g' h'⟩
end
end K12
namespace K12
open PySem PySem.Spec PyProof.Rows L2 Hk
/-! ### drawn values -/
def sn : S → Str
  | .int => "int"
  | .bool => "bool"
  | .task => "task"
  | .hue => "hue"
  | .deep => "deep"
theorem sn_inj {s t : S} (h : sn s = sn t) : s = t := by
  cases s <;> cases t <;> first | rfl | exact absurd h (by decide +kernel)
def rk : S → Nat
  | .hue => 1
  | .deep => 2
  | _ => 0
def skv (p : Vo) (s : S) : Sy p := ⟨fun v H => ∃ d, Dat p H v d ∧ Vk (bnd 0) s d, fun v H H' g ⟨d, h, k⟩ => ⟨d, h.gr g, k⟩⟩
def arV (n : Nat) : Addr → List V → Vo → Hp → Prop := fun a vs _ _ => ∃ s, rk s ≤ n ∧ vs = [.ref a, .str (sn s)]
def rsV : List V → ∀ p : Vo, Sy p := fun vs p => ⟨fun v H => ∀ s, vs[1]? = some (.str (sn s)) → ∃ d, Dat p H v d ∧ Vk (bnd 0) s d, fun v H H' g h s e => by obtain ⟨d, k1, k2⟩ := h s e; exact ⟨d, k1.gr g, k2⟩⟩
abbrev spPv (n : Nat) : Sp := spP (arV n) rsV
def spPlow : Nat → Sp
  | 0 => fun _ _ _ _ => False
  | n + 1 => spPv n
section
variable {P : Program} {w : World} {K : PySem.W.Frag} {mg : Str → Option Value} {base : Heap} {p : Vo} {σ : L2.St} {H : Hp} {ta tb : TE} {tr : TA} {a : Addr}
theorem x_pv {n : Nat} {s : S} (hp : p.pot = some a) (ha : Ev p ta σ H (sx (.ref a))) (hs : rk s ≤ n) : Ev p (tCall (spPv n) [] E0 (tCons ta (tCons (tC (.str (sn s))) tNil))) σ H (skv p s) := e_callP hp (a_cons ha (a_cons e_cx a_nil)) fun vs H1 g iv os => by
  obtain ⟨v, ws, rfl, ev, v2, ws2, rfl, ev2, rfl⟩ := os
  obtain rfl : v = .ref a := ev
  obtain rfl : v2 = .str (sn s) := ev2
  exact ⟨⟨s, hs, rfl⟩, fun v H2 h => h s rfl⟩
def lits : List Int := [0, 1, -1, 2, -3, 7, -8, 10 ^ 11, 10 ^ 12 - 1, 1 - 10 ^ 12, 60, -60]
theorem lits_in : lits.all (fun i => decide (i.natAbs < bnd 0)) = true := by decide +kernel
theorem x_powx {i j : Int} (h : CPw i j) : Ev p (tOp rPow (tC (.int i)) (tC (.int j))) σ H (sx (.int (i ^ j.toNat))) := e_op e_cx e_cx fun x y H1 iv g ex ey => rv iv rfl fun Q q => ⟨i, j, ex, ey, h, q⟩
theorem cp12 : CPw 10 12 := ⟨by decide, by decide +kernel⟩
theorem cp11 : CPw 10 11 := ⟨by decide, by decide +kernel⟩
theorem is_sort {s t : S} {σ : L2.St} {H : Hp} (h : σ[1]? = some (some (.str (sn s)))) : Tis p (tTest (tOp rEq (tVar 1) (tC (.str (sn t))))) σ H (decide (sn s = sn t)) := by
  refine k_to (k_test (x_eq (x := .str (sn s)) (y := .str (sn t)) (e_vx h) e_cx rfl)) ?_
  by_cases e : sn s = sn t
  · rw [e, decide_eq_true rfl, decide_eq_true rfl]
  · rw [decide_eq_false e, decide_eq_false fun z => e (V.str.inj z)]
theorem ok_plain (E : En K mg) (F : Df K mg "_law_plain_value" s__law_plain_value) (n : Nat) (c__law_draw : Ca P w K mg base 1 "_law_draw" spDraw) (c__law_plain_value : Ca P w K mg base (3 + n) "_law_plain_value" (spPlow n)) : Ca P w K mg base (3 + n + 1) "_law_plain_value" (spPv n) := by
  refine ca_mk F sc__law_plain_value (fun _ _ _ _ _ _ us hl => match us, hl with | [_, _], _ => rfl) (fun vs H Q E h => by obtain ⟨p, a, _, _, ⟨s, _, e⟩, _⟩ := h; rw [show vs = _ from e]; rfl) (fun f cdv A outer s H vs Q E' hr h => ?_)
  obtain ⟨p, a, hp, iv, ⟨srt, hs, e⟩, q⟩ := h
  obtain rfl : vs = [.ref a, .str (sn srt)] := e
  refine ⟨_, (pss_cons (ps_if (pt_cmpR op_eq (pv 1) pe_str (nomark _)) (pss_cons (ps_set (i := 2) sc__law_plain_value.nd rfl (Or.inl rfl) (pe_op op_powW pe_int pe_int))
      (pss_one (ps_ret (pe_ix (ixU (K := K) rfl) (pe_lst (pa_cons pe_int (pa_cons pe_int (pa_cons (pe_un un_neg pe_int) (pa_cons pe_int (pa_cons (pe_un un_neg pe_int) (pa_cons pe_int (pa_cons (pe_un un_neg pe_int) (pa_cons (pe_op op_powW pe_int pe_int) (pa_cons (pe_op op_sub (pv 2) pe_int) (pa_cons (pe_op op_sub pe_int (pv 2)) (pa_cons pe_int (pa_cons (pe_un un_neg pe_int) pa_nil))))))))))))) (pe_ca c__law_draw (hr.mono (by first | decide | omega)) (by rfl) (pa_cons (pv 0) (pa_cons pe_int pa_nil))) (fun _ _ => rfl))))) pss_nil)
      (pss_cons (ps_if (pt_cmpR op_eq (pv 1) pe_str (nomark _)) (pss_one (ps_ret (pe_cmpR op_eq (pe_ca c__law_draw (hr.mono (by first | decide | omega)) (by rfl) (pa_cons (pv 0) (pa_cons pe_int pa_nil))) pe_int (nomark _)))) pss_nil)
      (pss_cons (ps_if (pt_cmpR op_eq (pv 1) pe_str (nomark _)) (pss_one (ps_ret (pe_ix (ixU (K := K) rfl) (pe_lst (pa_cons pe_str (pa_cons pe_str (pa_cons pe_str pa_nil)))) (pe_ca c__law_draw (hr.mono (by first | decide | omega)) (by rfl) (pa_cons (pv 0) (pa_cons pe_int pa_nil))) (fun _ _ => rfl)))) pss_nil)
      (pss_cons (ps_if (pt_cmpR op_eq (pv 1) pe_str (nomark _)) (pss_one (ps_ret (pe_ix (ixU (K := K) rfl) (pe_lst (pa_cons (pe_tup (pa_cons pe_str pa_nil)) (pa_cons (pe_tup (pa_cons pe_str (pa_cons (pe_ca c__law_plain_value (hr.mono (by first | decide | omega)) (by rfl) (pa_cons (pv 0) (pa_cons pe_str pa_nil))) pa_nil))) pa_nil))) (pe_ca c__law_draw (hr.mono (by first | decide | omega)) (by rfl) (pa_cons (pv 0) (pa_cons pe_int pa_nil))) (fun _ _ => rfl)))) pss_nil)
      (pss_one (ps_ret (pe_tup (pa_cons pe_str (pa_cons (pe_ca c__law_plain_value (hr.mono (by first | decide | omega)) (by rfl) (pa_cons (pv 0) (pa_cons pe_str pa_nil))) (pa_cons (pe_ca c__law_plain_value (hr.mono (by first | decide | omega)) (by rfl) (pa_cons (pv 0) (pa_cons pe_str pa_nil))) pa_nil)))))))))), ?_⟩
  have fin : ∀ {v : V} {H1 : Hp}, Iv p H1 → Gr p H H1 → (skv p srt).P v H1 → Q v H1 := fun i1 g1 h => q _ _ i1 g1 fun s' e' => by
    have e2 : sn srt = sn s' := V.str.inj (Option.some.inj e')
    rw [← sn_inj e2]
    exact h
  have dr : ∀ {σ : L2.St} {H1 : Hp} {n : Int}, σ[0]? = some (some (.ref a)) → 0 < n → n < 1073741824 → Ev p (tCall spDraw [] E0 (tCons (tVar 0) (tCons (tC (.int n)) tNil))) σ H1 (si fun r => 0 ≤ r ∧ r < n) := fun e0 h0 h1 => e_drawN hp (e_vx e0) e_cx h0 h1
  refine q_ifj2 (b := decide (sn srt = sn .int)) iv (is_sort (t := .int) rfl) (fun e1 H1 i1 g1 => ?_) fun e1 H1 i1 g1 => ?_
  · have es := sn_inj (of_decide_eq_true e1)
    subst es
    refine q_asgx (v := .int (10 ^ 12)) i1 (x_powx cp12) fun H2 i2 g12 => ?_
    have g2 := g1.trans g12
    refine s_ret (p := p) (A := skv p .int) i2 (e_ixL (n := 12) (P := fun ws _ => ws = lits.map V.int) (hP := fun _ _ _ _ h => h) (x_lst (ws := lits.map V.int) (a_cons e_cx (a_cons e_cx (a_cons (x_neg (i := 1) e_cx) (a_cons e_cx (a_cons (x_neg (i := 3) e_cx) (a_cons e_cx (a_cons (x_neg (i := 8) e_cx) (a_cons (x_powx cp11) (a_cons (x_ii (g := fun i j => .int (i - j)) (i := 10 ^ 12) (j := 1) (e_vx rfl) e_cx) (a_cons (x_ii (g := fun i j => .int (i - j)) (i := 1) (j := 10 ^ 12) e_cx (e_vx rfl)) (a_cons e_cx (a_cons (x_neg (i := 60) e_cx) a_nil)))))))))))) (big (show 12 ≤ 100000 by decide))) (dr rfl (by decide) (by decide)) (fun ws H3 e => by rw [e]; decide) fun ws v H3 e hv => ?_) fun v H3 i3 g3 h3 => fin i3 (g2.trans g3) h3
    rw [e] at hv
    obtain ⟨i, hi, rfl⟩ := List.mem_map.mp hv
    exact ⟨.int i, .int i, i, rfl, of_decide_eq_true (List.all_eq_true.mp lits_in i hi)⟩
  have n1 := of_decide_eq_false e1
  refine q_ifS (p := p) (A := skv p srt) i1 (is_sort (t := .bool) rfl) (fun e => ?_) (fun _ v H2 i2 g2 h2 => fin i2 (g1.trans g2) h2) fun e2 H2 i2 g12 => ?_
  · have es := sn_inj (of_decide_eq_true e)
    subst es
    exact e_op (C := skv p .bool) (dr (n := 2) rfl (by decide) (by decide)) (e_cx (v := .int 0)) fun x y H1 iv g ⟨i, ei, _⟩ ey => by
      rw [ei, show y = _ from ey]
      exact rv iv ⟨.bl _, .bl _, _, rfl⟩ fun Q q => ⟨rfl, q⟩
  have n2 := of_decide_eq_false e2
  have g2 := g1.trans g12
  refine q_ifS (p := p) (A := skv p srt) i2 (is_sort (t := .task) rfl) (fun e => ?_) (fun _ v H3 i3 g3 h3 => fin i3 (g2.trans g3) h3) fun e3 H3 i3 g23 => ?_
  · have es := sn_inj (of_decide_eq_true e)
    subst es
    refine e_ixL (n := 3) (P := fun ws _ => ws = (["", "ann", "bo/0/k.0"] : List Str).map V.str) (hP := fun _ _ _ _ h => h) (x_lst (ws := (["", "ann", "bo/0/k.0"] : List Str).map V.str) (a_cons e_cx (a_cons e_cx (a_cons e_cx a_nil))) (big (show 3 ≤ 100000 by decide))) (dr rfl (by decide) (by decide)) (fun ws H3 e => by rw [e]; decide) fun ws v H3 e hv => ?_
    rw [e] at hv
    obtain ⟨z, hz, rfl⟩ := List.mem_map.mp hv
    have hm : z ∈ tks := by
      have f : (["", "ann", "bo/0/k.0"] : List Str).all (fun z => decide (z ∈ tks)) = true := by decide +kernel
      exact of_decide_eq_true (List.all_eq_true.mp f z hz)
    exact ⟨.str z, .str z (tk_len hm), z, hm, rfl⟩
  have n3 := of_decide_eq_false e3
  have g3 := g2.trans g23
  have hn : 0 < n := by
    cases srt with
    | int => exact absurd rfl n1
    | bool => exact absurd rfl n2
    | task => exact absurd rfl n3
    | hue => exact hs
    | deep => exact Nat.lt_of_lt_of_le (by decide) hs
  cases n with
  | zero => omega
  | succ n =>
  refine q_ifS (p := p) (A := skv p srt) i3 (is_sort (t := .hue) rfl) (fun e => ?_) (fun _ v H4 i4 g4 h4 => fin i4 (g3.trans g4) h4) fun e4 H4 i4 g34 => ?_
  · have es := sn_inj (of_decide_eq_true e)
    subst es
    refine e_ixL (n := 2) (P := fun ws H => ws.length = 2 ∧ ∀ v ∈ ws, (skv p .hue).P v H) (hP := fun ws H H' g h => ⟨h.1, fun v hv => (skv p .hue).st v H H' g (h.2 v hv)⟩) (e_lst (As := [skv p .hue, skv p .hue]) (a_cons ?r1 (a_cons ?r2 a_nil)) (big (show 2 ≤ 100000 by decide)) fun vs b H1 iv g os nb hb => ?r3) (dr rfl (by decide) (by decide)) (fun ws H3 e => by rw [e.1]; decide) fun ws v H3 e hv => e.2 v hv
    case r1 => exact (e_tup (As := [sx (.str "Red")]) (C := skv p .hue) (a_cons e_cx a_nil) (big (show 1 ≤ 100000 by decide)) fun vs b H1 iv g os nb hb => by
      obtain ⟨v, ws, rfl, ev, rfl⟩ := os
      refine ⟨.tup [.str "Red"], .tup nb hb rfl (show 1 ≤ 100000 by decide) ?_, .inl rfl⟩
      exact (DatL.cons (by rw [show v = _ from ev]; exact .str _ (by decide +kernel)) DatL.nil).2)
    case r2 => exact (e_tup (As := [sx (.str "Mix"), skv p .int]) (C := skv p .hue) (a_cons e_cx (a_cons (x_pv (s := .int) hp (e_vx rfl) (Nat.zero_le _)) a_nil)) (big (show 2 ≤ 100000 by decide)) fun vs b H1 iv g os nb hb => by
      obtain ⟨v, ws, rfl, ev, v2, ws2, rfl, ⟨d, hd, i, rfl, hi⟩, rfl⟩ := os
      refine ⟨.tup [.str "Mix", .int i], .tup nb hb rfl (show 2 ≤ 100000 by decide) ?_, .inr ⟨i, rfl, hi⟩⟩
      exact (DatL.cons (by rw [show v = _ from ev]; exact .str _ (by decide +kernel)) (DatL.cons hd DatL.nil)).2)
    case r3 =>
      obtain ⟨v, ws, rfl, h1, v2, ws2, rfl, h2, rfl⟩ := os
      refine ⟨b, _, rfl, nb, hb, rfl, fun u hu => ?_⟩
      rcases List.mem_cons.mp hu with e | e
      · rw [e]; exact h1
      · rw [List.mem_singleton.mp e]; exact h2
  have n4 := of_decide_eq_false e4
  have g4 := g3.trans g34
  have es : srt = .deep := by
    cases srt with
    | int => exact absurd rfl n1
    | bool => exact absurd rfl n2
    | task => exact absurd rfl n3
    | hue => exact absurd rfl n4
    | deep => rfl
  subst es
  refine s_ret (p := p) (A := skv p .deep) i4 (e_tup (As := [sx (.str "Nest"), skv p .hue, skv p .bool]) (C := skv p .deep) (a_cons e_cx (a_cons (x_pv (s := .hue) hp (e_vx rfl) (Nat.le_of_succ_le_succ hs)) (a_cons (x_pv (s := .bool) hp (e_vx rfl) (Nat.zero_le _)) a_nil))) (big (show 3 ≤ 100000 by decide)) fun vs b H1 iv g os nb hb => ?_) fun v H5 i5 g5 h5 => fin i5 (g4.trans g5) h5
  obtain ⟨v, ws, rfl, ev, v2, ws2, rfl, ⟨d, hd, hk⟩, v3, ws3, rfl, ⟨d3, hd3, b3, rfl⟩, rfl⟩ := os
  refine ⟨.tup [.str "Nest", d, .bl b3], .tup nb hb rfl (show 3 ≤ 100000 by decide) ?_, d, b3, hk, rfl⟩
  exact (DatL.cons (by rw [show v = _ from ev]; exact .str _ (by decide +kernel)) (DatL.cons hd (DatL.cons hd3 DatL.nil))).2
theorem plain_all (E : En K mg) (F : Df K mg "_law_plain_value" s__law_plain_value) (c__law_draw : Ca P w K mg base 1 "_law_draw" spDraw) : ∀ n, Ca P w K mg base (3 + n) "_law_plain_value" (spPlow n)
  | 0 => ca_mk F sc__law_plain_value (fun _ _ _ _ _ _ us hl => match us, hl with | [_, _], _ => rfl) (fun _ _ _ _ h => h.elim) fun _ _ _ _ _ _ _ _ _ _ h => h.elim
  | n + 1 => ok_plain E F n c__law_draw (plain_all E F c__law_draw n)
end
end K12
namespace K12
open PySem PySem.Spec PyProof.Rows L2 Hk
/-! ### leaves -/
def arC (G : Str → Prop) : Addr → List V → Vo → Hp → Prop := fun a vs p H => ∃ (b : Addr) (zs : List Str), vs = [.ref a, .ref b] ∧ Nv p b ∧ H b = some (.lst (zs.map V.str)) ∧ 0 < zs.length ∧ zs.length ≤ 1000 ∧ ∀ z ∈ zs, G z
def rsC (G : Str → Prop) : List V → ∀ p : Vo, Sy p := fun _ p => ss G
abbrev spChoice (G : Str → Prop) : Sp := spP (arC G) (rsC G)
/-- the names and their kinds, as the law has them -/
def NmT (p : Vo) (H : Hp) (v : V) (q : Str × S) : Prop := ∃ b, v = .ref b ∧ Nv p b ∧ H b = some (.tup [.str q.1, .str (sn q.2)])
def Nm (p : Vo) (H : Hp) (l : Addr) : Prop := ∃ ws : List V, Nv p l ∧ H l = some (.lst ws) ∧ ws.length = vars.length ∧ ∀ (i : Nat) (v : V) (q : Str × S), ws[i]? = some v → vars[i]? = some q → NmT p H v q
theorem Nm.gr {p : Vo} {H H' : Hp} {l : Addr} (h : Nm p H l) (g : Gr p H H') : Nm p H' l := by
  obtain ⟨ws, n, h1, h2, h3⟩ := h
  refine ⟨ws, n, g _ _ n h1, h2, fun i v q e1 e2 => ?_⟩
  obtain ⟨b, e, nb, hb⟩ := h3 i v q e1 e2
  exact ⟨b, e, nb, g _ _ nb hb⟩
section
variable {P : Program} {w : World} {K : PySem.W.Frag} {mg : Str → Option Value} {base : Heap} {p : Vo} {σ : L2.St} {H : Hp} {ta tb : TE} {tr : TA} {a : Addr}
theorem ok_choice (E : En K mg) (F : Df K mg "_law_choice" s__law_choice) (G : Str → Prop) (c__law_draw : Ca P w K mg base 1 "_law_draw" spDraw) : Ca P w K mg base 2 "_law_choice" (spChoice G) := by
  refine ca_mk F sc__law_choice (fun _ _ _ _ _ _ us hl => match us, hl with | [_, _], _ => rfl) (fun vs H Q E h => by obtain ⟨p, a, _, _, ⟨b, zs, rfl, _⟩, _⟩ := h; rfl) (fun f cdv A outer s H vs Q E' hr h => ?_)
  obtain ⟨p, a, hp, iv, ⟨b, zs, rfl, nb, hb, z0, z1, zG⟩, q⟩ := h
  refine ⟨_, (pss_one (ps_ret (pe_ix (ixU (K := K) rfl) (pv 1) (pe_ca c__law_draw (hr.mono (by first | decide | omega)) (by rfl) (pa_cons (pv 0) (pa_cons (pe_callB (lenU (K := K) rfl) (by rfl) (E.fr (x := "len") (by decide +kernel)) (by decide +kernel) (pa_cons (pv 1) pa_nil)) pa_nil))) (fun _ _ => rfl)))), ?_⟩
  have el : (zs.map V.str).length = zs.length := List.length_map _
  refine s_ret (p := p) (A := ss G) iv (e_ixL (n := (zs.length : Int)) (P := fun ws _ => ws = zs.map V.str) (hP := fun _ _ _ _ h => h) (e_var rfl ⟨b, _, rfl, nb, hb, rfl⟩) (e_drawN hp (e_vx rfl) (x_to (x_lenQ (xs := zs.map V.str) (e_vx rfl) (fun v H1 g e => ⟨b, e, .inl (SqL.of (g b _ nb hb))⟩)) (by rw [el])) (by omega) (by omega)) (fun ws H1 e => by rw [e, el]; exact Int.le_refl _) fun ws v H1 e hv => ?_) fun v H1 i1 g1 hv => q v H1 i1 g1 hv
  rw [e] at hv
  obtain ⟨z, hz, rfl⟩ := List.mem_map.mp hv
  exact ⟨z, rfl, zG z hz⟩
/-- a tree of n levels -/
def str_ (p : Vo) (s : S) (n : Nat) : Sy p := ⟨fun v H => ∃ d, Dat p H v d ∧ Tr n s d, fun v H H' g ⟨d, h, k⟩ => ⟨d, h.gr g, k⟩⟩
def lv : S → Nat
  | .deep => 2
  | _ => 1
def arF : Addr → List V → Vo → Hp → Prop := fun a vs p H => ∃ s l, vs = [.ref a, .str (sn s), .ref l] ∧ Nm p H l
def rsF : List V → ∀ p : Vo, Sy p := fun vs p => ⟨fun v H => ∀ s, vs[1]? = some (.str (sn s)) → ∃ d, Dat p H v d ∧ Tr (lv s) s d, fun v H H' g h s e => by obtain ⟨d, k1, k2⟩ := h s e; exact ⟨d, k1.gr g, k2⟩⟩
abbrev spLeaf : Sp := spP arF rsF
/-- the names of a kind -/
def ofS (s : S) (i : Nat) : List Str := ((vars.take i).filter fun q => decide (V.str (sn q.2) = V.str (sn s))).map (·.1)
theorem ofS_all (s : S) : 0 < (ofS s 7).length ∧ (ofS s 7).length ≤ 1000 ∧ ∀ z ∈ ofS s 7, (z, s) ∈ vars := by
  refine ⟨by cases s <;> decide +kernel, by cases s <;> decide +kernel, fun z hz => ?_⟩
  obtain ⟨q, hq, rfl⟩ := List.mem_map.mp hz
  obtain ⟨h1, h2⟩ := List.mem_filter.mp hq
  have e := sn_inj (V.str.inj (of_decide_eq_true h2))
  rw [← e]
  exact List.mem_of_mem_take h1
theorem ofS_step {s : S} {i : Nat} {q : Str × S} (h : vars[i]? = some q) : ofS s (i + 1) = if decide (V.str (sn q.2) = V.str (sn s)) = true then ofS s i ++ [q.1] else ofS s i := by
  unfold ofS
  rw [List.take_succ, h]
  show List.map _ (List.filter _ (_ ++ [q])) = _
  rw [List.filter_append, List.map_append]
  by_cases e : decide (V.str (sn q.2) = V.str (sn s)) = true
  · rw [if_pos e, List.filter_cons, if_pos e]
    rfl
  · rw [if_neg e, List.filter_cons, if_neg e]
    exact List.append_nil _
end
end K12
namespace K12
open PySem PySem.Spec PyProof.Rows L2 Hk
section
variable {P : Program} {w : World} {K : PySem.W.Frag} {mg : Str → Option Value} {base : Heap} {p : Vo} {σ : L2.St} {H : Hp} {ta tb : TE} {tr : TA} {a : Addr}
theorem x_some {l : Addr} {s : S} {x3 x4 x5 : Option V} (hN : Nm p H l) : Ev p (tLc (iList K (tVar 2)) (gTup K 2 (gCons (gName 4) (gCons (gName 5) gNil))) (tTest (tOp rEq (tVar 5) (tVar 1))) (tVar 4) [4, 5]) [some (.ref a), some (.str (sn s)), some (.ref l), x3, x4, x5] H (slx ((ofS s 7).map V.str)) := by
  intro H0 i0 g0 Q' q'
  obtain ⟨ws, nl, hl0, hlen, hr⟩ := hN.gr g0
  refine ⟨.ref l, rfl, l, rfl, ⟨ws, SqL.of hl0⟩, fun D hD => lc_list (xs := ws) (fun i H' => Iv p H' ∧ Gr p H0 H' ∧ Nv p D ∧ H' D = some (.lst ((ofS s i).map V.str)) ∧ H0 D = none) ⟨i0.new hD, Gr.new hD, i0.ne hD, upd_same, hD⟩ (fun i H' _ wv => SqL.of (wv.2.1 l _ nl hl0)) (fun i x H' hi wv => ?_) fun H' wv => ?_⟩
  · obtain ⟨iv, g, nD, hD2, hD0⟩ := wv
    have hlt : i < vars.length := by
      rw [← hlen]
      exact (List.getElem?_eq_some_iff.mp hi).1
    have hq := List.getElem?_eq_getElem hlt
    obtain ⟨b, rfl, nb, hb⟩ := hr i x _ hi hq
    have hb' := g b _ nb hb
    refine ⟨b, _, rfl, SqT.of hb', rfl, _, _, rfl, _, _, rfl, rfl, rfl, ?_⟩
    refine (k_test (p := p) (H := H') (x_eq (x := .str (sn vars[i].2)) (y := .str (sn s)) (e_vx rfl) (e_vx rfl) rfl)) H' iv (Gr.refl H') _ fun c H3 i3 g3 ec => ?_
    have hD3 := g3 D _ nD hD2
    by_cases hc : c = true
    · rw [if_pos hc]
      refine ⟨.str vars[i].1, rfl, _, hD3, by rw [List.length_map, sizeLine_eq]; exact Nat.lt_of_le_of_lt (List.length_filter_le _ _ |> fun h => by unfold ofS; rw [List.length_map]; exact Nat.le_trans h (by rw [List.length_take]; exact Nat.min_le_right _ _)) (show vars.length < _ by decide), i3.upd nD, (g.trans g3).mut hD0, nD, ?_, hD0⟩
      rw [upd_same, ofS_step hq, if_pos (by rw [← ec]; exact hc), List.map_append]
      rfl
    · rw [if_neg hc]
      exact ⟨i3, g.trans g3, nD, by rw [ofS_step hq, if_neg (by rw [← ec]; exact hc)]; exact hD3, hD0⟩
  · obtain ⟨iv, g, nD, hD2, hD0⟩ := wv
    rw [hlen] at hD2
    exact q' _ H' iv g ⟨D, _, rfl, nD, hD2, rfl⟩
theorem ofS_lay (s : S) : SeqAt.shaped (.list ((ofS s 7).map PyData.str)) = true ∧ ofS s 7 ≠ [] := by
  cases s <;> exact ⟨by decide +kernel, by decide +kernel⟩
theorem x_ne0 {s : S} (h : Ev p ta σ H (slx ((ofS s 7).map V.str))) : Ev p (tOp (rEqX false) ta (tLst tNil)) σ H (sx (.bl true)) :=
  e_op h (x_lst (ws := []) a_nil (big (show 0 ≤ 100000 by decide))) fun x y H1 iv g ⟨b1, ws1, ex, nb1, hb1, e1⟩ ⟨b2, ws2, ey, nb2, hb2, e2⟩ => by
    subst e1 e2
    obtain ⟨l1, l2⟩ := ofS_lay s
    refine rv iv (v := .bl true) rfl fun Q q => ⟨(ofS s 7).map PyData.str, [], ⟨b1, _, ex, hb1, by rw [List.length_map, List.length_map], fun i u d h1 h2 => ?_⟩, ⟨b2, [], ey, hb2, rfl, fun i u d h1 h2 => by cases h1⟩, l1, by decide +kernel, ?_⟩
    · rw [List.getElem?_map] at h1 h2
      cases e : (ofS s 7)[i]? with
      | none =>
        rw [e] at h1
        cases h1
      | some z =>
        rw [e] at h1 h2
        rw [← Option.some.inj h1, ← Option.some.inj h2]
        exact .str z
    · have e : PyData.eqvAll ((ofS s 7).map PyData.str) [] = false := by
        cases z : ofS s 7 with
        | nil => exact absurd z l2
        | cons a r => simp only [List.map_cons, PyData.eqvAll]
      show Q (.bl (!PyData.eqvAll ((ofS s 7).map PyData.str) [])) H1
      rw [e]
      exact q
theorem x_pvV {n : Nat} {s : S} (hp : p.pot = some a) (ha : Ev p ta σ H (sx (.ref a))) (hb : Ev p tb σ H (sx (.str (sn s)))) (hs : rk s ≤ n) : Ev p (tCall (spPv n) [] E0 (tCons ta (tCons tb tNil))) σ H (skv p s) := e_callP hp (a_cons ha (a_cons hb a_nil)) fun vs H1 g iv os => by
  obtain ⟨v, ws, rfl, ev, v2, ws2, rfl, ev2, rfl⟩ := os
  obtain rfl : v = .ref a := ev
  obtain rfl : v2 = .str (sn s) := ev2
  exact ⟨⟨s, hs, rfl⟩, fun v H2 h => h s rfl⟩
/-- tuples of known data -/
theorem e_tupD {ds : List D} (h : EvA p tr σ H (ds.map fun d => sdx p d)) (hn : ds.length ≤ 100000) : Ev p (tTup tr) σ H (sdx p (.tup ds)) :=
  e_tup h (by rw [List.length_map]; exact big hn) fun vs b H1 iv g os nb hb => by
    have k : ∀ (ds : List D) (vs : List V), Oks (ds.map fun d => sdx p d) vs H1 → DatL p H1 vs ds := fun ds => by
      induction ds with
      | nil => intro vs h; rw [show vs = [] from h]; exact DatL.nil
      | cons d ds ih =>
        intro vs h
        obtain ⟨v, ws, rfl, h1, h2⟩ := h
        exact DatL.cons h1 (ih ws h2)
    have kd := k ds vs os
    exact .tup nb hb kd.1 (by rw [kd.1]; exact hn) kd.2
theorem d_str {z : Str} (hz : z.length ≤ 100000) : Ev p (tC (.str z)) σ H (sdx p (.str z)) := e_c (.str z hz)
theorem z5 {z : Str} (h : decide (z.length ≤ 100000) = true) : z.length ≤ 100000 := of_decide_eq_true h
theorem ok_leaf (E : En K mg) (F : Df K mg "_law_leaf" s__law_leaf) (c__law_draw : Ca P w K mg base 1 "_law_draw" spDraw) (choice : ∀ G, Ca P w K mg base 2 "_law_choice" (spChoice G)) (c__law_plain_value : Ca P w K mg base 6 "_law_plain_value" (spPv 2)) : Ca P w K mg base 7 "_law_leaf" spLeaf := by
  refine ca_mk F sc__law_leaf (fun _ _ _ _ _ _ us hl => match us, hl with | [_, _, _], _ => rfl) (fun vs H Q E h => by obtain ⟨p, a, _, _, ⟨s, l, rfl, _⟩, _⟩ := h; rfl) (fun f cdv A outer s H vs Q E' hr h => ?_)
  obtain ⟨p, a, hp, iv, ⟨srt, l, rfl, hN⟩, q⟩ := h
  have c__law_choice := choice fun z => (z, srt) ∈ vars
  have hu64 : (A.deeper (envOfC "_law_leaf" (defScope s__law_leaf) s.heap.objs.size f cdv)).units + 64 < cLine := by
    have := hr.un
    omega
  refine ⟨_, (pss_cons (ps_setLc (i := 3) (own := [("_law_name", 4), ("_law_one", 5)]) (g := (gTup K 2 (gCons (gName 4) (gCons (gName 5) gNil))))  rfl sc__law_leaf.nd rfl rfl (sw_true rfl rfl rfl (by decide +kernel)) (pi_list (pv 2)) (blkOk_by (own := [("_law_name", 4), ("_law_one", 5)]) (N := ["_law_pot_here", "_law_sort", "_law_names", "_law_some", "_law_name", "_law_one"]) (sc := defScope s__law_leaf) (by decide +kernel)) (fun _ _ _ _ _ => (pg_tup rfl (pgs_cons (pg_name (i := 4) sc__law_leaf.nd rfl (Or.inl rfl)) (pgs_cons (pg_name (i := 5) sc__law_leaf.nd rfl (Or.inl rfl)) pgs_nil)))) (fun _ _ _ _ _ => (pts_one (pt_cmpR op_eq (pv 5) (pv 1) (nomark _)))) (fun _ _ _ _ _ => (pv 4)))
      (pss_cons (ps_if (PW.pt (pw_and (pt_cmpR (op_neX hu64) (pv 3) (pe_lst pa_nil) (nomark _)) (pw_and1 (pt_cmpR op_gt (pe_ca c__law_draw (hr.mono (by first | decide | omega)) (by rfl) (pa_cons (pv 0) (pa_cons pe_int pa_nil))) pe_int (nomark _))))) (pss_one (ps_ret (pe_ca c__law_choice (hr.mono (by first | decide | omega)) (by rfl) (pa_cons (pv 0) (pa_cons (pv 3) pa_nil))))) pss_nil)
      (pss_cons (ps_if (PW.pt (pw_or (pt_cmpR op_eq (pv 1) pe_str (nomark _)) (pw_or1 (pt_cmpR op_eq (pv 1) pe_str (nomark _))))) (pss_one (ps_ret (pe_ca c__law_plain_value (hr.mono (by first | decide | omega)) (by rfl) (pa_cons (pv 0) (pa_cons (pv 1) pa_nil))))) pss_nil)
      (pss_cons (ps_if (pt_cmpR op_eq (pv 1) pe_str (nomark _)) (pss_one (ps_ret (pe_tup (pa_cons pe_str pa_nil)))) pss_nil)
      (pss_cons (ps_if (pt_cmpR op_eq (pv 1) pe_str (nomark _)) (pss_one (ps_ret (pe_tup (pa_cons pe_str (pa_cons pe_str pa_nil))))) pss_nil)
      (pss_one (ps_ret (pe_tup (pa_cons pe_str (pa_cons pe_str (pa_cons (pe_tup (pa_cons pe_str (pa_cons pe_str pa_nil))) (pa_cons (pe_cmpR op_eq (pe_ca c__law_draw (hr.mono (by first | decide | omega)) (by rfl) (pa_cons (pv 0) (pa_cons pe_int pa_nil))) pe_int (nomark _)) pa_nil)))))))))))), ?_⟩
  have fin : ∀ {v : V} {H1 : Hp}, Iv p H1 → Gr p H H1 → (str_ p srt (lv srt)).P v H1 → Q v H1 := fun i1 g1 h => q _ _ i1 g1 fun s' e' => by
    have e2 : sn srt = sn s' := V.str.inj (Option.some.inj e')
    rw [← sn_inj e2]
    exact h
  have dr : ∀ {σ : L2.St} {H1 : Hp} {n : Int}, σ[0]? = some (some (.ref a)) → 0 < n → n < 1073741824 → Ev p (tCall spDraw [] E0 (tCons (tVar 0) (tCons (tC (.int n)) tNil))) σ H1 (si fun r => 0 ≤ r ∧ r < n) := fun e0 h0 h1 => e_drawN hp (e_vx e0) e_cx h0 h1
  refine q_asg (p := p) (A := slx ((ofS srt 7).map V.str)) iv (x_some hN) fun v1 H1 i1 g1 h1 => ?_
  obtain ⟨o1, o2, o3⟩ := ofS_all srt
  have one : ∀ {z : Str}, (z, srt) ∈ vars → Tr (lv srt) srt (.str z) := fun h => by
    cases srt <;> exact .var h
  have zl : ∀ {z : Str} {s : S}, (z, s) ∈ vars → z.length ≤ 100000 := fun {z s} h => by
    have f : vars.all (fun q => decide (q.1.length ≤ 100000)) = true := by decide +kernel
    exact of_decide_eq_true (List.all_eq_true.mp f _ h)
  refine q_if (p := p) (B := fun _ => True) i1 (t_and (B := fun b => b = true) (D := fun _ => True) (k_test (x_ne0 (s := srt) (e_var rfl h1))) (fun _ => t_test (e_op (C := sb fun _ => True) (dr (n := 3) rfl (by decide) (by decide)) (e_cx (v := .int 0)) fun x y H1 iv g ⟨i, ei, _⟩ ey => by
      rw [ei, show y = _ from ey]
      exact rv iv ⟨_, rfl, trivial⟩ fun Q q => ⟨i, 0, rfl, rfl, q⟩)) (fun _ => trivial) (fun _ _ _ => trivial)) (fun _ H2 i2 g12 => ?_) fun _ H2 i2 g12 => ?_
  · refine s_ret (p := p) (A := ss fun z => (z, srt) ∈ vars) i2 (e_callP hp (a_cons (e_vx (v := .ref a) rfl) (a_cons (e_var rfl ((slx ((ofS srt 7).map V.str)).st _ _ _ g12 h1)) a_nil)) fun vs H3 g iv os => ?_) fun v H3 i3 g3 hv => ?_
    · obtain ⟨v, ws, rfl, ev, v2, ws2, rfl, ⟨b, us, rfl, nb, hb, rfl⟩, rfl⟩ := os
      obtain rfl : v = .ref a := ev
      exact ⟨⟨b, ofS srt 7, rfl, nb, hb, o1, o2, o3⟩, fun v H2 h => h⟩
    · obtain ⟨z, rfl, hz⟩ := hv
      exact fin i3 ((g1.trans g12).trans g3) ⟨.str z, .str z (zl hz), one hz⟩
  have g2 := g1.trans g12
  refine q_ifS (p := p) (A := str_ p srt (lv srt)) i2 (k_or (is_sort (t := .int) rfl) fun _ => is_sort (t := .bool) rfl) (fun e => ?_) (fun _ v H3 i3 g3 h3 => fin i3 (g2.trans g3) h3) fun e2 H3 i3 g23 => ?_
  · have es : srt = .int ∨ srt = .bool := ((Bool.or_eq_true _ _).mp e).imp (fun h => sn_inj (of_decide_eq_true h)) fun h => sn_inj (of_decide_eq_true h)
    refine (x_pvV (n := 2) (s := srt) hp (e_vx rfl) (e_vx rfl) (by rcases es with rfl | rfl <;> decide)).imp fun v H ⟨d, hd, hk⟩ => ⟨d, hd, ?_⟩
    rcases es with rfl | rfl
    · obtain ⟨i, rfl, hi⟩ := hk
      exact .lit i hi
    · obtain ⟨b, rfl⟩ := hk
      exact .bl b
  obtain ⟨n1, n2⟩ := (Bool.or_eq_false_iff).mp e2
  have g3 := g2.trans g23
  refine q_ifS (p := p) (A := str_ p srt (lv srt)) i3 (is_sort (t := .task) rfl) (fun e => ?_) (fun _ v H4 i4 g4 h4 => fin i4 (g3.trans g4) h4) fun e4 H4 i4 g34 => ?_
  · have es := sn_inj (of_decide_eq_true e)
    subst es
    exact (e_tupD (ds := [.str "self"]) (a_cons (d_str (z5 (by decide +kernel))) a_nil) (show 1 ≤ 100000 by decide)).imp fun v H h => ⟨_, h, .self⟩
  have g4 := g3.trans g34
  refine q_ifS (p := p) (A := str_ p srt (lv srt)) i4 (is_sort (t := .hue) rfl) (fun e => ?_) (fun _ v H5 i5 g5 h5 => fin i5 (g4.trans g5) h5) fun e5 H5 i5 g45 => ?_
  · have es := sn_inj (of_decide_eq_true e)
    subst es
    exact (e_tupD (ds := [.str "tag", .str "Red"]) (a_cons (d_str (z5 (by decide +kernel))) (a_cons (d_str (z5 (by decide +kernel))) a_nil)) (show 2 ≤ 100000 by decide)).imp fun v H h => ⟨_, h, .red⟩
  have g5 := g4.trans g45
  have es : srt = .deep := by
    cases srt with
    | int => exact absurd rfl (of_decide_eq_false n1)
    | bool => exact absurd rfl (of_decide_eq_false n2)
    | task => exact absurd rfl (of_decide_eq_false e4)
    | hue => exact absurd rfl (of_decide_eq_false e5)
    | deep => rfl
  subst es
  refine s_ret (p := p) (A := str_ p .deep 2) i5 (e_tup (As := [sdx p (.str "tag"), sdx p (.str "Nest"), sdx p (.tup [.str "tag", .str "Red"]), sb fun _ => True]) (a_cons (d_str (z5 (by decide +kernel))) (a_cons (d_str (z5 (by decide +kernel))) (a_cons (e_tupD (ds := [.str "tag", .str "Red"]) (a_cons (d_str (z5 (by decide +kernel))) (a_cons (d_str (z5 (by decide +kernel))) a_nil)) (show 2 ≤ 100000 by decide)) (a_cons (e_op (C := sb fun _ => True) (dr (n := 2) rfl (by decide) (by decide)) (e_cx (v := .int 0)) fun x y H1 iv g ⟨i, ei, _⟩ ey => by
      rw [ei, show y = _ from ey]
      exact rv iv ⟨_, rfl, trivial⟩ fun Q q => ⟨rfl, q⟩) a_nil)))) (big (show 4 ≤ 100000 by decide)) fun vs b H1 iv g os nb hb => ?_) fun v H6 i6 g6 h6 => fin i6 (g5.trans g6) h6
  obtain ⟨v1, ws1, rfl, k1, v2, ws2, rfl, k2, v3, ws3, rfl, k3, v4, ws4, rfl, ⟨b4, rfl, _⟩, rfl⟩ := os
  have kd : DatL p H1 [v1, v2, v3, .bl b4] [.str "tag", .str "Nest", .tup [.str "tag", .str "Red"], .bl b4] := DatL.cons k1 (DatL.cons k2 (DatL.cons k3 (DatL.cons (.bl b4) DatL.nil)))
  exact ⟨_, .tup nb hb rfl (show 4 ≤ 100000 by decide) kd.2, .nest .red (.bl b4)⟩
end
end K12
namespace K12
open PySem PySem.Spec PyProof.Rows L2 Hk
/-! ### trees, drawn -/
def arT (n : Nat) : Addr → List V → Vo → Hp → Prop := fun a vs p H => ∃ (s : S) (l : Addr) (m : Nat), vs = [.ref a, .str (sn s), .ref l, .int (m : Nat)] ∧ Nm p H l ∧ 1 ≤ m ∧ m ≤ n
def rsT : List V → ∀ p : Vo, Sy p := fun vs p => ⟨fun v H => ∀ (s : S) (m : Nat), vs[1]? = some (.str (sn s)) → vs[3]? = some (.int (m : Nat)) → ∃ d, Dat p H v d ∧ Tr m s d, fun v H H' g h s m e e2 => by obtain ⟨d, k1, k2⟩ := h s m e e2; exact ⟨d, k1.gr g, k2⟩⟩
abbrev spTree (n : Nat) : Sp := spP (arT n) rsT
def spTlow : Nat → Sp
  | 0 => fun _ _ _ _ => False
  | n + 1 => spTree n
def spShort : Sp := fun vs H Q _ => vs.length = 2 ∧ ∀ H', Gr Vo.non H H' → Q (.str "z") H'
section
variable {P : Program} {w : World} {K : PySem.W.Frag} {mg : Str → Option Value} {base : Heap} {p : Vo} {σ : L2.St} {H : Hp} {ta tb tc td te : TE} {tr : TA} {a : Addr}
theorem ok_short (F : Df K mg "_law_short" s__law_short) : Ca P w K mg base 1 "_law_short" spShort := by
  refine ca_mk F sc__law_short (fun _ _ _ _ _ _ us hl => match us, hl with | [_, _], _ => rfl) (fun vs H Q E h => h.1) (fun f cdv A outer s H vs Q E' hr h => ?_)
  exact ⟨_, (pss_one (ps_ret pe_str)), h.2 H (Gr.refl H)⟩
theorem x_tree {n m : Nat} {s : S} {l : Addr} (hp : p.pot = some a) (ha : Ev p ta σ H (sx (.ref a))) (hb : Ev p tb σ H (sx (.str (sn s)))) (hc : Ev p tc σ H (sx (.ref l))) (hd : Ev p td σ H (sx (.int (m : Nat)))) (hN : Nm p H l) (h1 : 1 ≤ m) (hm : m ≤ n) : Ev p (tCall (spTree n) [] E0 (tCons ta (tCons tb (tCons tc (tCons td tNil))))) σ H (str_ p s m) := e_callP hp (a_cons ha (a_cons hb (a_cons hc (a_cons hd a_nil)))) fun vs H1 g iv os => by
  obtain ⟨v1, ws1, rfl, e1, v2, ws2, rfl, e2, v3, ws3, rfl, e3, v4, ws4, rfl, e4, rfl⟩ := os
  rw [show v1 = _ from e1, show v2 = _ from e2, show v3 = _ from e3, show v4 = _ from e4]
  exact ⟨⟨s, l, m, rfl, hN.gr g, h1, hm⟩, fun v H2 h => h s m rfl rfl⟩
theorem x_leaf {s : S} {l : Addr} (hp : p.pot = some a) (ha : Ev p ta σ H (sx (.ref a))) (hb : Ev p tb σ H (sx (.str (sn s)))) (hc : Ev p tc σ H (sx (.ref l))) (hN : Nm p H l) : Ev p (tCall spLeaf [] E0 (tCons ta (tCons tb (tCons tc tNil)))) σ H (str_ p s (lv s)) := e_callP hp (a_cons ha (a_cons hb (a_cons hc a_nil))) fun vs H1 g iv os => by
  obtain ⟨v1, ws1, rfl, e1, v2, ws2, rfl, e2, v3, ws3, rfl, e3, rfl⟩ := os
  rw [show v1 = _ from e1, show v2 = _ from e2, show v3 = _ from e3]
  exact ⟨⟨s, l, rfl, hN.gr g⟩, fun v H2 h => h s rfl⟩
theorem sn_dec {s t : S} : decide (V.str (sn s) = V.str (sn t)) = decide (sn s = sn t) := by
  by_cases e : sn s = sn t
  · rw [e, decide_eq_true rfl, decide_eq_true rfl]
  · rw [decide_eq_false e, decide_eq_false fun z => e (V.str.inj z)]
/-- a node of two parts of a kind, under a drawn word -/
theorem x_node {z : Str} {s s' : S} {m : Nat} (hw : ∀ d e, Tr m s' d → Tr m s' e → Tr (m + 1) s (.tup [.str z, d, e])) (hz : z.length ≤ 100000) (ha : Ev p ta σ H (sx (.str z))) (hb : Ev p tb σ H (str_ p s' m)) (hc : Ev p tc σ H (str_ p s' m)) : Ev p (tTup (tCons ta (tCons tb (tCons tc tNil)))) σ H (str_ p s (m + 1)) :=
  e_tup (As := [sx (.str z), str_ p s' m, str_ p s' m]) (a_cons ha (a_cons hb (a_cons hc a_nil))) (big (show 3 ≤ 100000 by decide)) fun vs b H1 iv g os nb hb => by
    obtain ⟨v1, ws1, rfl, e1, v2, ws2, rfl, ⟨d, hd, td⟩, v3, ws3, rfl, ⟨e, he, te⟩, rfl⟩ := os
    have kd : DatL p H1 [v1, v2, v3] [.str z, d, e] := DatL.cons (by rw [show v1 = _ from e1]; exact .str z hz) (DatL.cons hd (DatL.cons he DatL.nil))
    exact ⟨_, .tup nb hb rfl (show 3 ≤ 100000 by decide) kd.2, hw d e td te⟩
/-- behind the first test: deep enough for a node -/
def Go (s : S) (m : Nat) : Prop := 2 ≤ m ∧ (s = .deep → 3 ≤ m) ∧ s ≠ .task
theorem ok_tree (E : En K mg) (F : Df K mg "_law_tree" s__law_tree) (n : Nat) (c__law_draw : Ca P w K mg base 1 "_law_draw" spDraw) (c__law_leaf : Ca P w K mg base 7 "_law_leaf" spLeaf) (c__law_short : Ca P w K mg base 1 "_law_short" spShort) (c__law_tree : Ca P w K mg base (8 + n) "_law_tree" (spTlow n)) : Ca P w K mg base (8 + n + 1) "_law_tree" (spTree n) := by
  refine ca_mk F sc__law_tree (fun _ _ _ _ _ _ us hl => match us, hl with | [_, _, _, _], _ => rfl) (fun vs H Q E h => by obtain ⟨p, a, _, _, ⟨s, l, m, rfl, _⟩, _⟩ := h; rfl) (fun f cdv A outer s H vs Q E' hr h => ?_)
  obtain ⟨p, a, hp, iv, ⟨srt, l, m, rfl, hN, m1, mn⟩, q⟩ := h
  have hu1 : (A.deeper (envOfC "_law_tree" (defScope s__law_tree) s.heap.objs.size f cdv)).units + 1 < cLine := by
    have := hr.un
    omega
  refine ⟨_, (pss_cons (ps_if (PW.pt (pw_or (pt_cmpR op_lt (pv 3) pe_int (nomark _)) (pw_or (PW.pt (pw_and (pt_cmpR op_eq (pv 1) pe_str (nomark _)) (pw_and1 (pt_cmpR op_lt (pv 3) pe_int (nomark _))))) (pw_or (pt_cmpR op_eq (pv 1) pe_str (nomark _)) (pw_or1 (pt_cmpR op_eq (pe_ca c__law_draw (hr.mono (by first | decide | omega)) (by rfl) (pa_cons (pv 0) (pa_cons pe_int pa_nil))) pe_int (nomark _))))))) (pss_one (ps_ret (pe_ifExp (PW.pt (pw_or (pt_cmpR op_ne (pv 1) pe_str (nomark _)) (pw_or1 (pt_cmpR op_gt (pv 3) pe_int (nomark _))))) (pe_ca c__law_leaf (hr.mono (by first | decide | omega)) (by rfl) (pa_cons (pv 0) (pa_cons (pv 1) (pa_cons (pv 2) pa_nil)))) (pe_ca c__law_short (hr.mono (by first | decide | omega)) (by rfl) (pa_cons (pv 0) (pa_cons (pv 2) pa_nil)))))) pss_nil)
      (pss_cons (ps_if (pt_cmpR op_eq (pv 1) pe_str (nomark _)) (pss_one (ps_ret (pe_tup (pa_cons pe_str (pa_cons pe_str (pa_cons (pe_ca c__law_tree (hr.mono (by first | decide | omega)) (by rfl) (pa_cons (pv 0) (pa_cons pe_str (pa_cons (pv 2) (pa_cons (pe_op op_sub (pv 3) pe_int) pa_nil))))) pa_nil)))))) pss_nil)
      (pss_cons (ps_if (pt_cmpR op_eq (pv 1) pe_str (nomark _)) (pss_one (ps_ret (pe_tup (pa_cons pe_str (pa_cons pe_str (pa_cons (pe_ca c__law_tree (hr.mono (by first | decide | omega)) (by rfl) (pa_cons (pv 0) (pa_cons pe_str (pa_cons (pv 2) (pa_cons (pe_op op_sub (pv 3) pe_int) pa_nil))))) (pa_cons (pe_ca c__law_tree (hr.mono (by first | decide | omega)) (by rfl) (pa_cons (pv 0) (pa_cons pe_str (pa_cons (pv 2) (pa_cons (pe_op op_sub (pv 3) pe_int) pa_nil))))) pa_nil))))))) pss_nil)
      (pss_cons (ps_if (pt_cmpR op_eq (pv 1) pe_str (nomark _)) (pss_cons (ps_set (i := 4) sc__law_tree.nd rfl (Or.inl rfl) (pe_ix (ixU (K := K) rfl) (pe_lst (pa_cons pe_str (pa_cons pe_str (pa_cons pe_str (pa_cons pe_str (pa_cons pe_str (pa_cons pe_str (pa_cons pe_str pa_nil)))))))) (pe_ca c__law_draw (hr.mono (by first | decide | omega)) (by rfl) (pa_cons (pv 0) (pa_cons pe_int pa_nil))) (fun _ _ => rfl)))
      (pss_one (ps_ret (pe_tup (pa_cons (pv 4) (pa_cons (pe_ca c__law_tree (hr.mono (by first | decide | omega)) (by rfl) (pa_cons (pv 0) (pa_cons pe_str (pa_cons (pv 2) (pa_cons (pe_op op_sub (pv 3) pe_int) pa_nil))))) (pa_cons (pe_ca c__law_tree (hr.mono (by first | decide | omega)) (by rfl) (pa_cons (pv 0) (pa_cons pe_str (pa_cons (pv 2) (pa_cons (pe_op op_sub (pv 3) pe_int) pa_nil))))) pa_nil))))))) pss_nil)
      (pss_cons (ps_set (i := 4) sc__law_tree.nd rfl (Or.inl rfl) (pe_ix (ixU (K := K) rfl) (pe_lst (pa_cons pe_str (pa_cons pe_str (pa_cons pe_str (pa_cons pe_str (pa_cons pe_str pa_nil)))))) (pe_ca c__law_draw (hr.mono (by first | decide | omega)) (by rfl) (pa_cons (pv 0) (pa_cons pe_int pa_nil))) (fun _ _ => rfl)))
      (pss_cons (ps_if (pt_cmpR op_eq (pv 4) pe_str (nomark _)) (pss_one (ps_ret (pe_tup (pa_cons pe_str (pa_cons (pe_ca c__law_tree (hr.mono (by first | decide | omega)) (by rfl) (pa_cons (pv 0) (pa_cons pe_str (pa_cons (pv 2) (pa_cons (pe_op op_sub (pv 3) pe_int) pa_nil))))) pa_nil))))) pss_nil)
      (pss_cons (ps_set (i := 5) sc__law_tree.nd rfl (Or.inl rfl) (pe_dget2 hu1 (pe_disp (pps_cons pe_str pe_str (pps_cons pe_str pe_str (pps_cons pe_str pe_str pps_nil))) rfl rfl (List.cons_ne_nil _ _) (Nat.le_of_ble_eq_true rfl)) (pv 4) pe_str ⟨rfl, rfl, rfl, rfl⟩))
      (pss_cons (ps_if (pt_cmpR op_eq (pv 4) pe_str (nomark _)) (pss_one (ps_set (i := 5) sc__law_tree.nd rfl (Or.inl rfl) (pe_ix (ixU (K := K) rfl) (pe_lst (pa_cons pe_str (pa_cons pe_str (pa_cons pe_str (pa_cons pe_str (pa_cons pe_str pa_nil)))))) (pe_ca c__law_draw (hr.mono (by first | decide | omega)) (by rfl) (pa_cons (pv 0) (pa_cons (pe_ifExp (pt_cmpR op_gt (pv 3) pe_int (nomark _)) pe_int pe_int) pa_nil))) (fun _ _ => rfl)))) pss_nil)
      (pss_one (ps_ret (pe_tup (pa_cons (pv 4) (pa_cons (pe_ca c__law_tree (hr.mono (by first | decide | omega)) (by rfl) (pa_cons (pv 0) (pa_cons (pv 5) (pa_cons (pv 2) (pa_cons (pe_op op_sub (pv 3) pe_int) pa_nil))))) (pa_cons (pe_ca c__law_tree (hr.mono (by first | decide | omega)) (by rfl) (pa_cons (pv 0) (pa_cons (pv 5) (pa_cons (pv 2) (pa_cons (pe_op op_sub (pv 3) pe_int) pa_nil))))) pa_nil)))))))))))))), ?_⟩
  have fin : ∀ {v : V} {H1 : Hp}, Iv p H1 → Gr p H H1 → (str_ p srt m).P v H1 → Q v H1 := fun i1 g1 h => q _ _ i1 g1 fun s' m' e' e2' => by
    have e2 : sn srt = sn s' := V.str.inj (Option.some.inj e')
    have e3 : ((m : Nat) : Int) = (m' : Nat) := V.int.inj (Option.some.inj e2')
    have e4 : m = m' := by omega
    rw [← sn_inj e2, ← e4]
    exact h
  have dr : ∀ {σ : L2.St} {H1 : Hp} {n : Int}, σ[0]? = some (some (.ref a)) → 0 < n → n < 1073741824 → Ev p (tCall spDraw [] E0 (tCons (tVar 0) (tCons (tC (.int n)) tNil))) σ H1 (si fun r => 0 ≤ r ∧ r < n) := fun e0 h0 h1 => e_drawN hp (e_vx e0) e_cx h0 h1
  have ltn : ∀ {σ : L2.St} {H1 : Hp} (k : Int), σ[3]? = some (some (.int (m : Nat))) → Tis p (tTest (tOp (rI0 fun i j => .bl (decide (i < j))) (tVar 3) (tC (.int k)))) σ H1 (decide (((m : Nat) : Int) < k)) := fun k e3 => k_test (x_ii (g := fun i j => .bl (decide (i < j))) (i := ((m : Nat) : Int)) (j := k) (e_vx e3) e_cx)
  refine q_if (p := p) (B := fun b => b = false → Go srt m) iv (t_or (B := fun b => b = decide (((m : Nat) : Int) < 2)) (D := fun b => b = false → (srt = .deep → 3 ≤ m) ∧ srt ≠ .task) (ltn 2 rfl) (fun _ => t_or (B := fun b => b = (decide (sn srt = sn .deep) && decide (((m : Nat) : Int) < 3))) (D := fun b => b = false → srt ≠ .task) (k_and (is_sort (t := .deep) rfl) fun _ => ltn 3 rfl) (fun _ => t_or (B := fun b => b = decide (sn srt = sn .task)) (D := fun _ => True) (is_sort (t := .task) rfl) (fun _ => t_test ((e_op (C := sb fun _ => True) (dr (n := 7) rfl (by decide) (by decide)) (e_cx (v := .int 0)) fun x y H1 iv g ⟨i, ei, _⟩ ey => by
      rw [ei, show y = _ from ey]
      exact rv iv ⟨_, rfl, trivial⟩ fun Q q => ⟨rfl, q⟩))) (fun _ z => (nomatch z)) fun b hb _ _ e => by
        rw [e] at hb
        exact absurd hb (by decide +kernel)) (fun _ z => (nomatch z)) fun b hb hd he => ⟨fun e => by
        rw [e] at hb
        have := (Bool.and_eq_false_iff.mp hb.symm)
        rcases this with h | h
        · exact absurd h (by decide +kernel)
        · have := of_decide_eq_false h
          omega, hd he⟩) (fun _ z => (nomatch z)) fun b hb hd he => by
        have := of_decide_eq_false hb.symm
        exact ⟨by omega, hd he⟩) (fun _ H1 i1 g1 => ?_) fun hgo H1 i1 g1 => ?_
  · refine s_ret (p := p) (A := str_ p srt m) i1 (e_if (B := fun b => b = (!decide (V.str (sn srt) = V.str (sn .deep)) || decide ((2 : Int) < (m : Nat)))) (k_or (k_test (x_ne (x := .str (sn srt)) (y := .str (sn .deep)) (e_vx rfl) e_cx rfl)) fun _ => k_test (x_ii (g := fun i j => .bl (decide (j < i))) (i := ((m : Nat) : Int)) (j := 2) (e_vx rfl) e_cx)) (fun e => ?_) fun e => ?_) fun v H2 i2 g2 h2 => fin i2 (g1.trans g2) h2
    · refine (x_leaf (s := srt) hp (e_vx rfl) (e_vx rfl) (e_vx rfl) (hN.gr g1)).imp fun v H ⟨d, hd, ht⟩ => ⟨d, hd, ht.le ?_⟩
      rw [sn_dec] at e
      cases srt with
      | deep =>
        rcases (Bool.or_eq_true _ _).mp e.symm with h | h
        · exact absurd h (by decide +kernel)
        · have := of_decide_eq_true h
          show 2 ≤ m
          omega
      | _ => exact m1
    · have es : srt = .deep := by
        rw [sn_dec] at e
        obtain ⟨h, _⟩ := Bool.or_eq_false_iff.mp e.symm
        exact sn_inj (of_decide_eq_true ((Bool.not_eq_false' _).mp h))
      subst es
      refine e_call (a_cons (e_vx (v := .ref a) rfl) (a_cons (e_vx (v := .ref l) rfl) a_nil)) fun vs H2 i2 g2 os Q' q' => ⟨os.len, fun H' g' => q' _ H' (i2.grow g') g'.pure ?_⟩
      obtain ⟨k, rfl⟩ : ∃ k, m = k + 1 := ⟨m - 1, by omega⟩
      exact ⟨.str "z", .str _ (z5 (by decide +kernel)), .var (s := .deep) (show (_, _) ∈ vars from List.mem_of_getElem? (i := 6) rfl)⟩
  obtain ⟨m2, m3, nt⟩ := hgo rfl
  obtain ⟨k, rfl⟩ : ∃ k, m = k + 1 := ⟨m - 1, by omega⟩
  cases n with
  | zero => omega
  | succ n =>
  have T : ∀ {σ : L2.St} {H2 : Hp} {tb : TE} (s' : S), Gr p H H2 → σ[0]? = some (some (.ref a)) → σ[2]? = some (some (.ref l)) → σ[3]? = some (some (.int ((k + 1 : Nat) : Int))) → Ev p tb σ H2 (sx (.str (sn s'))) → Ev p (tCall (spTree n) [] E0 (tCons (tVar 0) (tCons tb (tCons (tVar 2) (tCons (tOp (rI0 fun i j => .int (i - j)) (tVar 3) (tC (.int 1))) tNil))))) σ H2 (str_ p s' k) := fun {σ H2 tb} s' g e0 e2 e3 hb =>
    x_tree hp (e_vx e0) hb (e_vx e2) (x_to (x_ii (g := fun i j => .int (i - j)) (i := ((k + 1 : Nat) : Int)) (j := 1) (e_vx e3) e_cx) (by
      show V.int (((k + 1 : Nat) : Int) - 1) = V.int ((k : Nat) : Int)
      congr 1
      omega)) (hN.gr g) (by omega) (by omega)
  refine q_ifS (p := p) (A := str_ p srt (k + 1)) i1 (is_sort (t := .hue) rfl) (fun e => ?_) (fun _ v H2 i2 g2 h2 => fin i2 (g1.trans g2) h2) fun e2 H2 i2 g12 => ?_
  · have es := sn_inj (of_decide_eq_true e)
    subst es
    refine e_tup (As := [sx (.str "tag"), sx (.str "Mix"), str_ p .int k]) (a_cons e_cx (a_cons e_cx (a_cons (T .int g1 rfl rfl rfl e_cx) a_nil))) (big (show 3 ≤ 100000 by decide)) fun vs b H1 iv g os nb hb => ?_
    obtain ⟨v1, ws1, rfl, e1, v2, ws2, rfl, e2, v3, ws3, rfl, ⟨d, hd, td⟩, rfl⟩ := os
    have kd : DatL p H1 [v1, v2, v3] [.str "tag", .str "Mix", d] := DatL.cons (by rw [show v1 = _ from e1]; exact .str _ (z5 (by decide +kernel))) (DatL.cons (by rw [show v2 = _ from e2]; exact .str _ (z5 (by decide +kernel))) (DatL.cons hd DatL.nil))
    exact ⟨_, .tup nb hb rfl (show 3 ≤ 100000 by decide) kd.2, .mix td⟩
  have g2 := g1.trans g12
  refine q_ifS (p := p) (A := str_ p srt (k + 1)) i2 (is_sort (t := .deep) rfl) (fun e => ?_) (fun _ v H3 i3 g3 h3 => fin i3 (g2.trans g3) h3) fun e3 H3 i3 g23 => ?_
  · have es := sn_inj (of_decide_eq_true e)
    subst es
    refine e_tup (As := [sx (.str "tag"), sx (.str "Nest"), str_ p .hue k, str_ p .bool k]) (a_cons e_cx (a_cons e_cx (a_cons (T .hue g2 rfl rfl rfl e_cx) (a_cons (T .bool g2 rfl rfl rfl e_cx) a_nil)))) (big (show 4 ≤ 100000 by decide)) fun vs b H1 iv g os nb hb => ?_
    obtain ⟨v1, ws1, rfl, e1, v2, ws2, rfl, e2, v3, ws3, rfl, ⟨d, hd, td⟩, v4, ws4, rfl, ⟨d4, hd4, td4⟩, rfl⟩ := os
    have kd : DatL p H1 [v1, v2, v3, v4] [.str "tag", .str "Nest", d, d4] := DatL.cons (by rw [show v1 = _ from e1]; exact .str _ (z5 (by decide +kernel))) (DatL.cons (by rw [show v2 = _ from e2]; exact .str _ (z5 (by decide +kernel))) (DatL.cons hd (DatL.cons hd4 DatL.nil)))
    exact ⟨_, .tup nb hb rfl (show 4 ≤ 100000 by decide) kd.2, .nest td td4⟩
  have g3 := g2.trans g23
  have pick : ∀ {σ : L2.St} {H4 : Hp} {n : Int} {tb tl : TE} {zs : List Str}, Ev p tl σ H4 (slx (zs.map V.str)) → Ev p tb σ H4 (si fun r => 0 ≤ r ∧ r < n) → n ≤ (zs.length : Int) → Ev p (tOp (rIx K) tl tb) σ H4 (ss fun z => z ∈ zs) := fun {σ H4 n tb tl zs} hl hb hn => e_ixL (n := n) (P := fun ws _ => ws = zs.map V.str) (hP := fun _ _ _ _ h => h) hl hb (fun ws H3 e => by rw [e, List.length_map]; exact hn) fun ws v H3 e hv => by
    rw [e] at hv
    obtain ⟨z, hz, rfl⟩ := List.mem_map.mp hv
    exact ⟨z, rfl, hz⟩
  refine q_ifj2 (b := decide (sn srt = sn .int)) i3 (is_sort (t := .int) rfl) (fun e4 H4 i4 g34 => ?_) fun e4 H4 i4 g34 => ?_
  · have es := sn_inj (of_decide_eq_true e4)
    subst es
    refine q_asg (p := p) (A := ss fun z => z ∈ (["add", "sub", "mul", "div", "mod", "div", "mod"] : List Str)) i4 (pick (x_lst (ws := (["add", "sub", "mul", "div", "mod", "div", "mod"] : List Str).map V.str) (a_cons e_cx (a_cons e_cx (a_cons e_cx (a_cons e_cx (a_cons e_cx (a_cons e_cx (a_cons e_cx a_nil))))))) (big (show 7 ≤ 100000 by decide))) (dr (n := 7) rfl (by decide) (by decide)) (by decide)) fun v H5 i5 g45 hv => ?_
    obtain ⟨z, rfl, hz⟩ := hv
    have hw : z ∈ ws5 ∧ z.length ≤ 100000 := by
      have f : (["add", "sub", "mul", "div", "mod", "div", "mod"] : List Str).all (fun z => decide (z ∈ ws5) && decide (z.length ≤ 100000)) = true := by decide +kernel
      obtain ⟨f1, f2⟩ := Bool.and_eq_true_iff.mp (List.all_eq_true.mp f z hz)
      exact ⟨of_decide_eq_true f1, of_decide_eq_true f2⟩
    have g5 := (g3.trans g34).trans g45
    exact s_ret (p := p) (A := str_ p .int (k + 1)) i5 (x_node (s' := .int) (fun d e td te => .two hw.1 td te) hw.2 (e_vx rfl) (T .int g5 rfl rfl rfl e_cx) (T .int g5 rfl rfl rfl e_cx)) fun v H6 i6 g6 h6 => fin i6 (g5.trans g6) h6
  have es : srt = .bool := by
    cases srt with
    | int => exact absurd rfl (of_decide_eq_false e4)
    | bool => rfl
    | task => exact absurd rfl nt
    | hue => exact absurd rfl (of_decide_eq_false e2)
    | deep => exact absurd rfl (of_decide_eq_false e3)
  subst es
  have g4 := g3.trans g34
  refine q_asg (p := p) (A := ss fun z => z ∈ (["less", "same", "and", "or", "not"] : List Str)) i4 (pick (x_lst (ws := (["less", "same", "and", "or", "not"] : List Str).map V.str) (a_cons e_cx (a_cons e_cx (a_cons e_cx (a_cons e_cx (a_cons e_cx a_nil))))) (big (show 5 ≤ 100000 by decide))) (dr (n := 5) rfl (by decide) (by decide)) (by decide)) fun v H5 i5 g45 hv => ?_
  obtain ⟨z, rfl, hz⟩ := hv
  have g5 := g4.trans g45
  have word : ∀ {σ : L2.St} {H6 : Hp} {y : Str}, σ[4]? = some (some (.str z)) → Tis p (tTest (tOp rEq (tVar 4) (tC (.str y)))) σ H6 (decide (V.str z = V.str y)) := fun e => k_test (x_eq (x := .str z) (e_vx e) e_cx rfl)
  refine q_ifS (p := p) (A := str_ p .bool (k + 1)) i5 (word (y := "not") rfl) (fun e => ?_) (fun _ v H6 i6 g6 h6 => fin i6 (g5.trans g6) h6) fun e5 H6 i6 g56 => ?_
  · refine e_tup (As := [sx (.str "not"), str_ p .bool k]) (a_cons e_cx (a_cons (T .bool g5 rfl rfl rfl e_cx) a_nil)) (big (show 2 ≤ 100000 by decide)) fun vs b H1 iv g os nb hb => ?_
    obtain ⟨v1, ws1, rfl, e1, v2, ws2, rfl, ⟨d, hd, td⟩, rfl⟩ := os
    have kd : DatL p H1 [v1, v2] [.str "not", d] := DatL.cons (by rw [show v1 = _ from e1]; exact .str _ (z5 (by decide +kernel))) (DatL.cons hd DatL.nil)
    exact ⟨_, .tup nb hb rfl (show 2 ≤ 100000 by decide) kd.2, .not td⟩
  have g6 := g5.trans g56
  have got : ∀ {σ : L2.St} {H7 : Hp} {y : Str}, σ[4]? = some (some (.str z)) → (valV (mergeK [] [((Sum.inr "less" : Key), V.str "int"), (Sum.inr "and", V.str "bool"), (Sum.inr "or", V.str "bool")]) (.inr z)).getD (.str "task") = .str y →
      Ev p (tDGet2 (tDisp [(tC (.str "less"), tC (.str "int")), (tC (.str "and"), tC (.str "bool")), (tC (.str "or"), tC (.str "bool"))]) (tVar 4) (tC (.str "task"))) σ H7 (sx (.str y)) := fun {σ H7 y} e4 ey H0 i0 g0 Q' q' pd hpd =>
    ⟨upd_same, [((Sum.inr "less" : Key), V.str "int"), (Sum.inr "and", V.str "bool"), (Sum.inr "or", V.str "bool")], rfl, by decide, pd, rfl, .inl ⟨_, .inl upd_same⟩, .str z, e4, _, DGet.k (k := .inr z) upd_same, by rw [ey]; exact q' _ _ ((i0.new hpd).upd (i0.ne hpd)) (Gr.mut (Gr.new hpd) hpd) rfl⟩
  have last : ∀ {H8 : Hp} {s' : S}, Iv p H8 → Gr p H H8 → (∀ d e, Tr k s' d → Tr k s' e → Tr (k + 1) .bool (.tup [.str z, d, e])) → z.length ≤ 100000 →
      tRet (tTup (tCons (tVar 4) (tCons (tCall (spTree n) [] E0 (tCons (tVar 0) (tCons (tVar 5) (tCons (tVar 2) (tCons (tOp (rI0 fun i j => .int (i - j)) (tVar 3) (tC (.int 1))) tNil))))) (tCons (tCall (spTree n) [] E0 (tCons (tVar 0) (tCons (tVar 5) (tCons (tVar 2) (tCons (tOp (rI0 fun i j => .int (i - j)) (tVar 3) (tC (.int 1))) tNil))))) tNil)))) { nx := fun _ H' => Q .non H', rt := Q } [some (.ref a), some (.str (sn .bool)), some (.ref l), some (.int ((k + 1 : Nat) : Int)), some (.str z), some (.str (sn s'))] H8 := fun {H8 s'} i8 g8 hw hz =>
    s_ret (p := p) (A := str_ p .bool (k + 1)) i8 (x_node (s' := s') hw hz (e_vx rfl) (T s' g8 rfl rfl rfl (e_vx rfl)) (T s' g8 rfl rfl rfl (e_vx rfl))) fun v H9 i9 g9 h9 => fin i9 (g8.trans g9) h9
  rcases List.mem_cons.mp hz with rfl | hz
  · refine q_asgx (p := p) (v := .str (sn .int)) i6 (got rfl (by decide +kernel)) fun H7 i7 g67 => ?_
    refine q_ifj2 (b := false) i7 (k_to (word (y := "same") rfl) (by decide +kernel)) (fun e => nomatch e) fun _ H8 i8 g78 => ?_
    exact last (s' := .int) i8 ((g6.trans g67).trans g78) (fun d e td te => .less td te) (z5 (by decide +kernel))
  rcases List.mem_cons.mp hz with rfl | hz
  · refine q_asgx (p := p) (v := .str (sn .task)) i6 (got rfl (by decide +kernel)) fun H7 i7 g67 => ?_
    refine q_ifj2 (b := true) i7 (k_to (word (y := "same") rfl) (by decide +kernel)) (fun _ H8 i8 g78 => ?_) fun e => nomatch e
    have g8 := (g6.trans g67).trans g78
    refine s_asg (A := ss fun z => z ∈ (["int", "bool", "task", "hue", "deep"] : List Str)) i8 (pick (n := 5) (x_lst (ws := (["int", "bool", "task", "hue", "deep"] : List Str).map V.str) (a_cons e_cx (a_cons e_cx (a_cons e_cx (a_cons e_cx (a_cons e_cx a_nil))))) (big (show 5 ≤ 100000 by decide))) ((e_draw (c := fun n => n = 5 ∨ n = 4) hp (e_vx rfl) (e_if (B := fun _ => True) ((k_test (x_ii (g := fun i j => .bl (decide (j < i))) (i := ((k + 1 : Nat) : Int)) (j := 3) (e_vx rfl) e_cx)).imp fun _ _ => trivial) (fun _ => e_c ⟨5, rfl, .inl rfl⟩) fun _ => e_c ⟨4, rfl, .inr rfl⟩) fun n hn => by omega).imp fun v _ ⟨r, e, n, hn, h0, h1⟩ => ⟨r, e, h0, by omega⟩) (by decide)) fun v H9 i9 g89 hv => ?_
    obtain ⟨y, rfl, hy⟩ := hv
    have sy : ∃ s' : S, y = sn s' := by
      rcases List.mem_cons.mp hy with e | hy
      · exact ⟨.int, e⟩
      rcases List.mem_cons.mp hy with e | hy
      · exact ⟨.bool, e⟩
      rcases List.mem_cons.mp hy with e | hy
      · exact ⟨.task, e⟩
      rcases List.mem_cons.mp hy with e | hy
      · exact ⟨.hue, e⟩
      · exact ⟨.deep, List.mem_singleton.mp hy⟩
    obtain ⟨s', rfl⟩ := sy
    exact last (s' := s') i9 (g8.trans g89) (fun d e td te => .same td te) (z5 (by decide +kernel))
  rcases List.mem_cons.mp hz with rfl | hz
  · refine q_asgx (p := p) (v := .str (sn .bool)) i6 (got rfl (by decide +kernel)) fun H7 i7 g67 => ?_
    refine q_ifj2 (b := false) i7 (k_to (word (y := "same") rfl) (by decide +kernel)) (fun e => nomatch e) fun _ H8 i8 g78 => ?_
    exact last (s' := .bool) i8 ((g6.trans g67).trans g78) (fun d e td te => .con (.inl rfl) td te) (z5 (by decide +kernel))
  rcases List.mem_cons.mp hz with rfl | hz
  · refine q_asgx (p := p) (v := .str (sn .bool)) i6 (got rfl (by decide +kernel)) fun H7 i7 g67 => ?_
    refine q_ifj2 (b := false) i7 (k_to (word (y := "same") rfl) (by decide +kernel)) (fun e => nomatch e) fun _ H8 i8 g78 => ?_
    exact last (s' := .bool) i8 ((g6.trans g67).trans g78) (fun d e td te => .con (.inr rfl) td te) (z5 (by decide +kernel))
  · rw [List.mem_singleton.mp hz] at e5
    exact absurd e5 (by decide +kernel)
theorem tree_all (E : En K mg) (F : Df K mg "_law_tree" s__law_tree) (c__law_draw : Ca P w K mg base 1 "_law_draw" spDraw) (c__law_leaf : Ca P w K mg base 7 "_law_leaf" spLeaf) (c__law_short : Ca P w K mg base 1 "_law_short" spShort) : ∀ n, Ca P w K mg base (8 + n) "_law_tree" (spTlow n)
  | 0 => ca_mk F sc__law_tree (fun _ _ _ _ _ _ us hl => match us, hl with | [_, _, _, _], _ => rfl) (fun _ _ _ _ h => h.elim) fun _ _ _ _ _ _ _ _ _ _ h => h.elim
  | n + 1 => ok_tree E F n c__law_draw c__law_leaf c__law_short (tree_all E F c__law_draw c__law_leaf c__law_short n)
end
end K12
namespace K12
open PySem PySem.Spec PyProof.Rows L2 Hk
/-! ### names, tables -/
def NmP : Pt (Str × S) where
  T p H v q := NmT p H v q
  gr := fun ⟨b, e, nb, hb⟩ g => ⟨b, e, nb, g _ _ nb hb⟩
  of := fun ⟨b, e, nb, hb⟩ k => ⟨b, e, k _ nb, hb⟩
  an := fun ⟨b, e, nb, hb⟩ hE => ⟨b, e, nb.and (ne_of_none hb hE).symm, hb⟩
def RvP : Pt (Str × S) where
  T p H v q := (skv p q.2).P v H
  gr := fun ⟨d, h, k⟩ g => ⟨d, h.gr g, k⟩
  of := fun ⟨d, h, k⟩ f => ⟨d, h.of f, k⟩
  an := fun ⟨d, h, k⟩ hE => ⟨d, h.and hE, k⟩
def RdP : Pt (Str × D) where
  T p H v q := Dat p H v q.2
  gr := fun h g => h.gr g
  of := fun h f => h.of f
  an := fun h hE => h.and hE
theorem nm_of {p : Vo} {H : Hp} {v : V} (h : (slP p NmP vars).P v H) : ∃ l, v = .ref l ∧ Nm p H l := by
  obtain ⟨l, ws, e, nl, h1, h2, h3⟩ := h
  exact ⟨l, e, ws, nl, h1, h2, h3⟩
theorem nm_to {p : Vo} {H : Hp} {l : Addr} (h : Nm p H l) : (slP p NmP vars).P (.ref l) H := by
  obtain ⟨ws, nl, h1, h2, h3⟩ := h
  exact ⟨l, ws, rfl, nl, h1, h2, h3⟩
/-! ### dicts of different names -/
theorem merge_new {κ : Type} [DecidableEq κ] : ∀ (more acc : List (κ × V)), (∀ x ∈ more, ∀ y ∈ acc, y.1 ≠ x.1) → (more.map (·.1)).Nodup → more.foldl (fun acc kv => putK acc kv.1 kv.2) acc = acc ++ more
  | [], acc, _, _ => (List.append_nil acc).symm
  | x :: more, acc, h, hn => by
    have hp : putK acc x.1 x.2 = acc ++ [x] := by
      unfold putK
      have e : (acc.any fun kv => decide (kv.1 = x.1)) = false := by
        rw [List.any_eq_false]
        intro y hy
        rw [decide_eq_false (h x List.mem_cons_self y hy)]
        exact Bool.false_ne_true
      rw [e]
      rfl
    rw [List.map_cons, List.nodup_cons] at hn
    rw [List.foldl_cons, hp, merge_new more (acc ++ [x]) (fun z hz y hy => ?_) hn.2, List.append_assoc]
    · rfl
    · rcases List.mem_append.mp hy with m | m
      · exact h z (List.mem_cons_of_mem _ hz) y m
      · rw [List.mem_singleton.mp m]
        exact fun e => hn.1 (e ▸ List.mem_map_of_mem hz)
theorem merge_nodup {ks : List Key} {us : List V} (hl : us.length = ks.length) (hn : ks.Nodup) : mergeK [] (ks.zip us) = ks.zip us := by
  have := merge_new (ks.zip us) [] (fun x _ y hy => (nomatch hy)) (by rw [List.map_fst_zip (by omega)]; exact hn)
  rw [List.nil_append] at this
  exact this
theorem val_zip : ∀ {ks : List Key} {us : List V} {i : Nat} {k : Key} {u : V}, ks.Nodup → ks[i]? = some k → us[i]? = some u → valV (ks.zip us) k = some u
  | [], _, _, _, _, _, h, _ => by cases h
  | _ :: _, [], _, _, _, _, _, h => by cases h
  | a :: ks, w :: us, 0, k, u, _, h1, h2 => by
    rw [List.zip_cons_cons, valV_pos (show (a, w).1 = k from Option.some.inj h1)]
    exact h2
  | a :: ks, w :: us, i + 1, k, u, hn, h1, h2 => by
    rw [List.nodup_cons] at hn
    rw [List.zip_cons_cons, valV_neg (show ¬ (a, w).1 = k from fun e => hn.1 (by
      have := List.mem_of_getElem? (show ks[i]? = some k from h1)
      rw [show a = k from e]
      exact this))]
    exact val_zip hn.2 h1 h2
def keys (es : List (Str × D)) : List Key := es.map fun e => Sum.inr e.1
/-- a dict that tells these -/
abbrev sTab (p : Vo) (es : List (Str × D)) : Sy p := sdict p (·.1) RdP es
theorem tab_of {p : Vo} {H : Hp} {t : Addr} {es : List (Str × D)} {tf : Str → D} (h : (sTab p es).P (.ref t) H) (hn : (keys es).Nodup) (hv : ∀ q ∈ vars, (q.1, tf q.1) ∈ es) : Tab H t tf := by
  obtain ⟨t', us, e, nt, ht, hl, hr⟩ := h
  cases e
  refine ⟨_, ht, fun q hq => ?_⟩
  obtain ⟨i, hi⟩ := List.getElem?_of_mem (hv q hq)
  have hlt : i < us.length := by
    rw [hl]
    exact (List.getElem?_eq_some_iff.mp hi).1
  have hu := List.getElem?_eq_getElem hlt
  refine ⟨us[i], ?_, Dat.non' (hr i _ _ hu hi)⟩
  have hk : (keys es)[i]? = some (Sum.inr q.1) := by
    unfold keys
    rw [List.getElem?_map, hi]
    rfl
  show valV (mergeK [] ((keys es).zip us)) (.inr q.1) = some us[i]
  rw [merge_nodup (by rw [hl]; unfold keys; rw [List.length_map]) hn]
  exact val_zip hn hk hu
/-! ### the table's data -/
def tfd (ds : List D) (z : Str) : D := (ds[vars.findIdx fun x => decide (x.1 = z)]?).getD .non
theorem idx_vars : ((List.range 7).all fun i => (vars[i]?).all fun q => decide ((vars.findIdx fun x => decide (x.1 = q.1)) = i)) = true := by decide +kernel
theorem tfd_at {ds : List D} {i : Nat} {q : Str × S} {d : D} (hq : vars[i]? = some q) (hd : ds[i]? = some d) : tfd ds q.1 = d := by
  have hi : i < 7 := (List.getElem?_eq_some_iff.mp hq).1
  have h := List.all_eq_true.mp idx_vars i (List.mem_range.mpr hi)
  rw [hq] at h
  have h : (vars.findIdx fun x => decide (x.1 = q.1)) = i := of_decide_eq_true h
  unfold tfd
  rw [h, hd]
  rfl
def tes (tf : Str → D) : List (Str × D) := vars.map fun q => (q.1, tf q.1)
theorem tes_keys (tf : Str → D) : keys (tes tf) = vars.map fun q => Sum.inr q.1 := by
  unfold keys tes
  rw [List.map_map]
  rfl
theorem tes_nodup (tf : Str → D) : (keys (tes tf)).Nodup := by
  rw [tes_keys]
  exact of_decide_eq_true (by decide +kernel : decide ((vars.map fun q => (Sum.inr q.1 : Key)).Nodup) = true)
theorem ds_pick {p : Vo} {H : Hp} : ∀ {us : List V} {qs : List (Str × S)}, us.length = qs.length → (∀ (i : Nat) (u : V) (q : Str × S), us[i]? = some u → qs[i]? = some q → RvP.T p H u q) →
    ∃ ds : List D, ds.length = us.length ∧ ∀ (i : Nat) (u : V) (q : Str × S) (d : D), us[i]? = some u → qs[i]? = some q → ds[i]? = some d → Dat p H u d ∧ Vk (bnd 0) q.2 d
  | [], _, _, _ => ⟨[], rfl, fun i u q d h => by cases h⟩
  | _ :: _, [], h, _ => by cases h
  | u :: us, q :: qs, hl, h => by
    obtain ⟨d, h1, h2⟩ := h 0 u q rfl rfl
    obtain ⟨ds, l, r⟩ := ds_pick (us := us) (qs := qs) (by rw [List.length_cons, List.length_cons] at hl; omega) fun i u q e1 e2 => h (i + 1) u q e1 e2
    refine ⟨d :: ds, by rw [List.length_cons, List.length_cons, l], fun i v r' e e1 e2 e3 => ?_⟩
    cases i with
    | zero =>
      rw [← Option.some.inj e1, ← Option.some.inj e2, ← Option.some.inj e3]
      exact ⟨h1, h2⟩
    | succ i => exact r i v r' e e1 e2 e3
theorem tab_mk {p : Vo} {H : Hp} {v : V} (h : (sdict p (·.1) RvP vars).P v H) : ∃ (tf : Str → D) (t : Addr), v = .ref t ∧ (sTab p (tes tf)).P (.ref t) H ∧ ∀ q ∈ vars, Vk (bnd 0) q.2 (tf q.1) := by
  obtain ⟨t, us, rfl, nt, ht, hl, hr⟩ := h
  obtain ⟨ds, l, r⟩ := ds_pick hl hr
  have at_ : ∀ (i : Nat) (q : Str × S), vars[i]? = some q → ∃ u d, us[i]? = some u ∧ ds[i]? = some d ∧ tfd ds q.1 = d ∧ Dat p H u d ∧ Vk (bnd 0) q.2 d := fun i q hq => by
    have h1 := (List.getElem?_eq_some_iff.mp hq).1
    have hu := List.getElem?_eq_getElem (show i < us.length by omega)
    have hd := List.getElem?_eq_getElem (show i < ds.length by omega)
    exact ⟨_, _, hu, hd, tfd_at hq hd, r i _ _ _ hu hq hd⟩
  refine ⟨tfd ds, t, rfl, ⟨t, us, rfl, nt, ?_, by unfold tes; rw [List.length_map, hl], fun i u e e1 e2 => ?_⟩, fun q hq => ?_⟩
  · rw [ht]
    show _ = some (HO.dK (mergeK [] ((keys (tes (tfd ds))).zip us)))
    rw [tes_keys]
  · unfold tes at e2
    rw [List.getElem?_map] at e2
    cases hq : vars[i]? with
    | none =>
      rw [hq] at e2
      cases e2
    | some q =>
      rw [hq] at e2
      obtain ⟨u', d, h1, h2, h3, h4, h5⟩ := at_ i q hq
      rw [e1] at h1
      rw [← Option.some.inj e2, Option.some.inj h1]
      show Dat p H u' (tfd ds q.1)
      rw [h3]
      exact h4
  · obtain ⟨i, hi⟩ := List.getElem?_of_mem hq
    obtain ⟨u', d, h1, h2, h3, h4, h5⟩ := at_ i q hi
    rw [h3]
    exact h5
/-! ### repr of the table -/
def tabD (tf : Str → D) : PyData := .dict (vars.map fun q => (PyData.str q.1, pdv (tf q.1)))
theorem sep_len : ((": " : Str).length) = 2 := by decide +kernel
theorem nm_len : vars.all (fun q => decide ((reprText q.1).length ≤ 100)) = true := by decide +kernel
theorem kv_ok (tf : Str → D) : ∀ (qs : List (Str × S)), (∀ q ∈ qs, Okd (pdv (tf q.1)) ∧ (reprText q.1).length ≤ 100) → PyData.showableKv (qs.map fun q => (PyData.str q.1, pdv (tf q.1))) = true ∧ PyData.depthKv (qs.map fun q => (PyData.str q.1, pdv (tf q.1))) ≤ 19 + 1 ∧
    ((PyData.shownKv (qs.map fun q => (PyData.str q.1, pdv (tf q.1)))).map (·.length)).sum ≤ 100200 * qs.length ∧ (PyData.shownKv (qs.map fun q => (PyData.str q.1, pdv (tf q.1)))).length = qs.length
  | [], _ => by
    simp only [List.map_nil, PyData.showableKv, PyData.depthKv, PyData.shownKv]
    exact ⟨trivial, by omega, by simp, rfl⟩
  | q :: qs, h => by
    obtain ⟨h1, h2, h3, h4⟩ := kv_ok tf qs fun x hx => h x (List.mem_cons_of_mem _ hx)
    obtain ⟨o, l⟩ := h q List.mem_cons_self
    have od := o.dp
    have ol := o.ln
    simp only [List.map_cons, PyData.showableKv, PyData.depthKv, PyData.shownKv, PyData.showable, PyData.depth, o.sh, h1, Bool.and_self, List.sum_cons, List.length_cons, h4]
    refine ⟨trivial, by omega, ?_, trivial⟩
    rw [strLen_append, strLen_append, sep_len]
    have : (PyData.str q.1).shown.length ≤ 100 := by
      simp only [PyData.shown]
      exact l
    omega
theorem tab_ok {tf : Str → D} (h : ∀ q ∈ vars, Vk (bnd 0) q.2 (tf q.1)) : (tabD tf).showable = true ∧ (tabD tf).depth ≤ 21 ∧ (tabD tf).shown.length ≤ sizeLine := by
  obtain ⟨h1, h2, h3, h4⟩ := kv_ok tf vars fun q hq => ⟨okd (n := 0) (by decide) (h q hq), of_decide_eq_true (List.all_eq_true.mp nm_len q hq)⟩
  unfold tabD
  simp only [PyData.showable, PyData.depth, PyData.shown]
  refine ⟨h1, by omega, ?_⟩
  have := dictText_len_le (PyData.shownKv (vars.map fun q => (PyData.str q.1, pdv (tf q.1))))
  have e : vars.length = 7 := rfl
  rw [h4] at this
  have := sizeLine_eq
  omega
end K12
namespace K12
open PySem PySem.Spec PyProof.Rows L2 Hk
section
variable {K : PySem.W.Frag} {f : Addr} {fd : FuncData}
theorem fun_ofK {x : Str} {st : Stmt} {kws : List (Str × V)} (F : FunD K x x (defArgs st) (defBody st) (defScope st) [] kws f fd) : Fun K x x st f fd := by
  obtain ⟨oc, od, dV, kV, doc, pm, an, cdv, ct, osl, rfl, lk, hcd, hD, _⟩ := F.ex
  rcases hD with ⟨_, rfl⟩ | ⟨e, _⟩
  · exact ⟨⟨oc, od, kV, doc, pm, an, cdv, ct, osl, rfl, lk, hcd⟩, F.kp⟩
  · exact absurd rfl e
theorem kb_eval0 (F : Fun K "evaluate" "evaluate" s_evaluate f fd) : KBn K fd PS 0 ["task", "values", "expression"] (fun _ ws => ws.reverse) (fun _ zs => zs.reverse) := by
  obtain ⟨oc, od, kV, doc, pm, an, cdv, ct, osl, rfl, lk, hcd⟩ := F.ex
  refine ⟨fun s us ws _ l1 l2 => ?_, fun _ z => z.reverse⟩
  match us, l1, ws, l2 with
  | [], _, [a, b, c], _ => exact .of_eq rfl
theorem b_eval (F : FunD K "evaluate" "evaluate" (defArgs s_evaluate) (defBody s_evaluate) (defScope s_evaluate) [] [("task", .str "")] f fd) : ∃ ds, Vals [.str ""] ds ∧ Binds K fd PS ds := by
  refine F.binds0 2 (List.cons_ne_nil _ _) rfl ?_
  intro D doc pm an cdv ct us ks l1 l2
  obtain ⟨a, b, rfl⟩ : ∃ a b, us = [a, b] := by
    match us, (show us.length = 2 from l1) with
    | [a, b], _ => exact ⟨a, b, rfl⟩
  obtain ⟨c, rfl⟩ : ∃ c, ks = [c] := by
    match ks, (show ks.length = 1 from l2) with
    | [c], _ => exact ⟨c, rfl⟩
  exact ⟨_, _, _, _, _, _, rfl, rfl, rfl⟩
end
/-! ### the law's own rules -/
section
variable {K : PySem.W.Frag} {p : Vo} {σ : L2.St} {H : Hp} {ta tb tc td te : TE} {tr : TA} {b : Addr}
theorem dat_pot {v : V} {d : D} {n : Nat} (i : Iv (Vo.of b) H) (h : Dat Vo.non H v d) (f : fl n d = true) : Dat (Vo.of b) H v d :=
  dat_in (fun a e => by
    cases (show b = a from Option.some.inj e)
    obtain ⟨⟨x, y, h, _⟩, _⟩ := i.pot b rfl
    exact ⟨_, h⟩) (fun x m => by cases m) n h f
/-- what is known of a tree and its table -/
structure Kn (es : List (Str × D)) (tf : Str → D) (own : Str) (s : S) (d : D) : Prop where
  tr : Tr 5 s d
  ow : own ∈ tks
  nd : (keys es).Nodup
  me : ∀ q ∈ vars, (q.1, tf q.1) ∈ es
  vk : ∀ q ∈ vars, Vk (bnd 0) q.2 (tf q.1)
theorem Kn.val {es : List (Str × D)} {tf : Str → D} {own : Str} {s : S} {d : D} (k : Kn es tf own s d) : Vk (bnd 5) s (den tf own 5 d) := tr_val k.vk k.ow k.tr
theorem core {es : List (Str × D)} {tf : Str → D} {own : Str} {s : S} {d : D} {v : V} {t : Addr} {E : XK} (k : Kn es tf own s d) (iv : Iv (Vo.of b) H) (hd : Dat (Vo.of b) H v d) (ht : (sTab (Vo.of b) es).P (.ref t) H) : Rv (Vo.of b) (fun H Q => spEval 5 [v, .ref t, .str own] H Q E) H (sdx (Vo.of b) (den tf own 5 d)) :=
  fun Q q => ⟨v, d, t, tf, own, s, rfl, k.ow, tab_of ht k.nd k.me, k.vk, hd.non', k.tr, fun r H' g' h' => q r H' (iv.grow g') g'.pure (dat_pot (iv.grow g') (n := 2) h' (fl_vk k.val))⟩
theorem stab_ref {es : List (Str × D)} {v : V} (h : (sTab p es).P v H) : ∃ t, v = .ref t := by
  obtain ⟨t, us, e, _⟩ := h
  exact ⟨t, e⟩
theorem x_reck {es : List (Str × D)} {tf : Str → D} {own : Str} {s : S} {d : D} (k : Kn es tf own s d) (ha : Ev (Vo.of b) ta σ H (sdx (Vo.of b) d)) (hb : Ev (Vo.of b) tb σ H (sTab (Vo.of b) es)) (hc : Ev (Vo.of b) tc σ H (sx (.str own))) :
    Ev (Vo.of b) (tCall (spEval 5) [] E0 (tCons ta (tCons tb (tCons tc tNil)))) σ H (sdx (Vo.of b) (den tf own 5 d)) := e_call (a_cons ha (a_cons hb (a_cons hc a_nil))) fun vs H1 iv g os => by
  obtain ⟨v, w1, rfl, hv, u, w2, rfl, hu, o, w3, rfl, ho, rfl⟩ := os
  obtain ⟨t, rfl⟩ := stab_ref hu
  obtain rfl : o = .str own := ho
  exact core k iv hv hu
theorem x_eval2 {es : List (Str × D)} {tf : Str → D} {s : S} {d : D} (k : Kn es tf "" s d) (ha : Ev (Vo.of b) ta σ H (sdx (Vo.of b) d)) (hb : Ev (Vo.of b) tb σ H (sTab (Vo.of b) es)) :
    Ev (Vo.of b) (tCall (spEval 5) [.str ""] E0 (tCons ta (tCons tb tNil))) σ H (sdx (Vo.of b) (den tf "" 5 d)) := fun H0 i0 g0 Q q =>
  ha H0 i0 g0 _ fun v H1 i1 g1 hv => hb H1 i1 (g0.trans g1) _ fun u H2 i2 g2 hu => by
    obtain ⟨t, rfl⟩ := stab_ref hu
    exact core (E := E0) k i2 ((sdx _ d).st _ _ _ g2 hv) hu Q fun r H3 i3 g3 hr => q r H3 i3 ((g1.trans g2).trans g3) hr
theorem x_evalN {es : List (Str × D)} {tf : Str → D} {own : Str} {s : S} {d : D} (k : Kn es tf own s d) (ha : Ev (Vo.of b) ta σ H (sdx (Vo.of b) d)) (hb : Ev (Vo.of b) tb σ H (sTab (Vo.of b) es)) (hc : Ev (Vo.of b) tc σ H (sx (.str own))) :
    Ev (Vo.of b) (tCallN 2 1 (spEval 5) (fun vs zs => vs ++ zs) E0 (tCons ta (tCons tb tNil)) (tCons tc tNil)) σ H (sdx (Vo.of b) (den tf own 5 d)) := fun H0 i0 g0 Q q =>
  ha H0 i0 g0 _ fun v H1 i1 g1 hv => hb H1 i1 (g0.trans g1) _ fun u H2 i2 g2 hu => hc H2 i2 ((g0.trans g1).trans g2) _ fun o H3 i3 g3 ho => by
    obtain ⟨t, rfl⟩ := stab_ref hu
    obtain rfl : o = .str own := ho
    exact ⟨rfl, rfl, core (E := E0) k i3 ((sdx _ d).st _ _ _ (g2.trans g3) hv) ((sTab _ es).st _ _ _ g3 hu) Q fun r H4 i4 g4 hr => q r H4 i4 (((g1.trans g2).trans g3).trans g4) hr⟩
theorem x_evalK {es : List (Str × D)} {tf : Str → D} {own : Str} {s : S} {d : D} (k : Kn es tf own s d) (ha : Ev (Vo.of b) ta σ H (sdx (Vo.of b) d)) (hb : Ev (Vo.of b) tb σ H (sTab (Vo.of b) es)) (hc : Ev (Vo.of b) tc σ H (sx (.str own))) :
    Ev (Vo.of b) (tCallN 0 3 (spEval 5) (fun _ zs => zs.reverse) E0 tNil (tCons tc (tCons tb (tCons ta tNil)))) σ H (sdx (Vo.of b) (den tf own 5 d)) := fun H0 i0 g0 Q q =>
  hc H0 i0 g0 _ fun o H1 i1 g1 ho => hb H1 i1 (g0.trans g1) _ fun u H2 i2 g2 hu => ha H2 i2 ((g0.trans g1).trans g2) _ fun v H3 i3 g3 hv => by
    obtain ⟨t, rfl⟩ := stab_ref hu
    obtain rfl : o = .str own := ho
    exact ⟨rfl, rfl, core (E := E0) k i3 hv ((sTab _ es).st _ _ _ g3 hu) Q fun r H4 i4 g4 hr => q r H4 i4 (((g1.trans g2).trans g3).trans g4) hr⟩
/-- texts of values -/
theorem x_reprV {s : S} {d : D} (h : Ev p te σ H (sdx p d)) (k : Vk (bnd 5) s d) : Ev p (tCB rReprP (tCons te tNil)) σ H (sx (.str (pdv d).shown)) := e_cb (a_cons h a_nil) fun vs H1 iv g os => by
  obtain ⟨v, us, rfl, hd, rfl⟩ := os
  have o := okd (Nat.le_refl 5) k
  exact rv iv rfl fun Q q => ⟨v, pdv d, rfl, (py_vk hd k).non', o.sh, o.nd, o.dp, big o.ln, q⟩
theorem zip_maps {α β γ : Type} (f : α → β) (g : α → γ) : ∀ l : List α, (l.map f).zip (l.map g) = l.map fun x => (f x, g x)
  | [] => rfl
  | x :: l => by rw [List.map_cons, List.map_cons, List.map_cons, List.zip_cons_cons, zip_maps f g l]
theorem x_reprTab {tf : Str → D} (h : Ev p te σ H (sTab p (tes tf))) (hV : ∀ q ∈ vars, Vk (bnd 0) q.2 (tf q.1)) : Ev p (tCB rReprD (tCons te tNil)) σ H (sx (.str (tabD tf).shown)) := e_cb (a_cons h a_nil) fun vs H1 iv g os => by
  obtain ⟨v, ws, rfl, ⟨t, us, rfl, nt, ht, hl, hr⟩, rfl⟩ := os
  obtain ⟨o1, o2, o3⟩ := tab_ok hV
  have l7 : (tes tf).length = vars.length := by unfold tes; rw [List.length_map]
  have lk : (keys (tes tf)).length = us.length := by unfold keys; rw [List.length_map, hl]
  have ht : H1 t = some (.dK ((keys (tes tf)).zip us)) := by
    rw [ht]
    show some (HO.dK (mergeK [] ((keys (tes tf)).zip us))) = _
    rw [merge_nodup lk.symm (tes_nodup tf)]
  have e : PyData.dict ((((keys (tes tf)).zip us).map fun kv => kD kv.1).zip (vars.map fun q => pdv (tf q.1))) = tabD tf := by
    have e1 : (((keys (tes tf)).zip us).map fun kv => kD kv.1) = vars.map fun q => PyData.str q.1 := by
      rw [show (fun kv : Key × V => kD kv.1) = kD ∘ Prod.fst from rfl, ← List.map_map, List.map_fst_zip (Nat.le_of_eq lk), tes_keys, List.map_map]
      rfl
    rw [e1, zip_maps]
    rfl
  refine rv iv rfl fun Q q => ⟨t, _, vars.map fun q => pdv (tf q.1), rfl, ht, ?_, fun i kv d h1 h2 => ?_, by rw [e]; exact o1, by rw [e]; omega, by rw [e]; exact o3, by rw [e]; exact q⟩
  · rw [List.length_zip, List.length_map, lk, hl, l7, Nat.min_self]
  · rw [List.getElem?_map] at h2
    cases hq : vars[i]? with
    | none =>
      rw [hq] at h2
      cases h2
    | some q =>
      rw [hq] at h2
      rw [← Option.some.inj h2]
      have hi := (List.getElem?_eq_some_iff.mp hq).1
      have hiu : i < us.length := by rw [hl, l7]; exact hi
      have hu : us[i]? = some (us[i]'hiu) := List.getElem?_eq_getElem hiu
      have he : (tes tf)[i]? = some (q.1, tf q.1) := by
        unfold tes
        rw [List.getElem?_map, hq]
        rfl
      have hk : (keys (tes tf))[i]? = some (Sum.inr q.1) := by
        unfold keys
        rw [List.getElem?_map, he]
        rfl
      have hz : ((keys (tes tf)).zip us)[i]? = some (Sum.inr q.1, us[i]'hiu) := by
        rw [List.getElem?_zip_eq_some]
        exact ⟨hk, hu⟩
      rw [hz] at h1
      rw [← Option.some.inj h1]
      exact (py_vk (hr i _ _ hu he) (hV q (List.mem_of_getElem? hq))).non'
end
end K12
namespace K12
open PySem PySem.Spec PyProof.Rows L2 Hk
def sorts7 : List Str := (["int", "int", "bool", "bool", "task", "hue", "deep"] : List String).map Str.ofString
def sAbc : Str := "abcdefz"
theorem name_at : ((List.range 7).all fun i => match vars[i]?, atI sAbc.cps.toList (0 + (i : Int)) with | some q, some c => decide (q.1 = ⟨#[c]⟩) | _, _ => false) = true := by decide +kernel
theorem sort_at : ((List.range 7).all fun i => match vars[i]?, sorts7[i]? with | some q, some c => decide (c = sn q.2) | _, _ => false) = true := by decide +kernel
theorem at_name {i : Nat} {q : Str × S} (h : vars[i]? = some q) : ∃ c, atI sAbc.cps.toList (0 + (i : Int)) = some c ∧ q.1 = ⟨#[c]⟩ := by
  have hi : i < 7 := (List.getElem?_eq_some_iff.mp h).1
  have f := List.all_eq_true.mp name_at i (List.mem_range.mpr hi)
  rw [h] at f
  cases e : atI sAbc.cps.toList (0 + (i : Int)) with
  | none =>
    rw [e] at f
    cases f
  | some c =>
    rw [e] at f
    exact ⟨c, rfl, of_decide_eq_true f⟩
theorem at_sort {i : Nat} {q : Str × S} (h : vars[i]? = some q) : sorts7[i]? = some (sn q.2) := by
  have hi : i < 7 := (List.getElem?_eq_some_iff.mp h).1
  have f := List.all_eq_true.mp sort_at i (List.mem_range.mpr hi)
  rw [h] at f
  cases e : sorts7[i]? with
  | none =>
    rw [e] at f
    cases f
  | some c =>
    rw [e] at f
    rw [of_decide_eq_true f]
/-! ### texts of values are texts -/
def okL (l : List Nat) : Bool := l.all fun c => decide (c < 0x110000)
theorem okL_app {a b : List Nat} (ha : okL a = true) (hb : okL b = true) : okL (a ++ b) = true := by
  unfold okL
  rw [List.all_append]
  exact Bool.and_eq_true_iff.mpr ⟨ha, hb⟩
theorem okL_it (i : Int) : okL (it i) = true := by
  unfold okL it
  rw [List.all_eq_true]
  intro c hc
  rw [PySem.Str.ofString_eq_toList, List.mem_map] at hc
  obtain ⟨x, _, rfl⟩ := hc
  exact decide_eq_true (by have := x.valid; rcases this with h | h <;> (unfold Char.toNat; omega))
theorem okL_hue {B : Nat} {d : D} (h : isHue B d) : okL (sg d) = true := by
  rcases h with rfl | ⟨i, rfl, _⟩
  · rw [sg_red]; decide +kernel
  · rw [sg_mix]
    exact okL_app (okL_app (by decide) (okL_app (by decide +kernel) (okL_app (by decide) (okL_it i)))) (by decide)
theorem txt_ok {B : Nat} {s : S} {d : D} (h : Vk B s d) : PyData.strOk (pdv d).shown = true := by
  have f : okL (sg d) = true := by
    cases s with
    | int =>
      obtain ⟨i, rfl, _⟩ := h
      rw [sg_int]
      exact okL_it i
    | bool =>
      obtain ⟨b, rfl⟩ := h
      show okL (PyData.bool b).shown.cps.toList = true
      rw [sg_bl]
      cases b <;> decide
    | task =>
      obtain ⟨z, hz, rfl⟩ := h
      have g : tks.all (fun z => okL (reprText z).cps.toList) = true := by decide +kernel
      show okL (PyData.str z).shown.cps.toList = true
      rw [sh_str]
      exact List.all_eq_true.mp g z hz
    | hue => exact okL_hue h
    | deep =>
      obtain ⟨u, b, hu, rfl⟩ := h
      rw [sg_nest hu]
      exact okL_app (okL_app (by decide) (okL_app (by decide +kernel) (okL_app (by decide) (okL_app (okL_hue hu) (okL_app (by decide) (by cases b <;> decide)))))) (by decide)
  unfold PyData.strOk
  rw [← Array.all_toList]
  exact f
section
variable {K : PySem.W.Frag} {p : Vo} {σ : L2.St} {H : Hp} {ta tb tc td te : TE} {tr : TA} {a b : Addr}
/-- the names -/
theorem x_names {v3 : V} (h3 : (slx (p := p) (sorts7.map V.str)).P v3 H) (e3 : σ[3]? = some (some v3)) (e12 : ∀ x, ((wipe σ [12]).set 12 (some x))[12]? = some (some x)) (e3' : ∀ x, ((wipe σ [12]).set 12 (some x))[3]? = some (some v3)) (hw : ∀ x, wipe ((wipe σ [12]).set 12 (some x)) [12] = wipe σ [12]) :
    Ev p (tLc (iRng1 (tCons (tC (.int 7)) tNil)) (gName 12) tYes (tTup (tCons (tOp (rIx K) (tC (.str sAbc)) (tVar 12)) (tCons (tOp (rIx K) (tVar 3) (tVar 12)) tNil))) [12]) σ H (slP p NmP vars) :=
  lcR_pt e_cx rfl (show 7 ≤ 100000 by decide) hw fun i D l H1 hi g hD => by
    have hq := List.getElem?_eq_getElem hi
    obtain ⟨c, hc, ec⟩ := at_name hq
    obtain ⟨b3, ws, rfl, nb, hb, rfl⟩ := (slx (p := p) (sorts7.map V.str)).st _ _ _ g h3
    refine e_tup (As := [sx (.str vars[i].1), sx (.str (sn vars[i].2))]) (a_cons ?_ (a_cons ?_ a_nil)) (big (show 2 ≤ 100000 by decide)) fun vs b H2 iv g2 os nb2 hb2 x ex => ?_
    · rw [ec]
      exact x_ixS e_cx (e_vx (e12 _)) (big (by decide +kernel)) hc
    · refine x_ixQ (xs := sorts7.map V.str) (v := .str (sn vars[i].2)) (B := sx (.ref b3)) (e_vx (e3' _)) (fun v H3 g3 e => ⟨b3, e, .inl (SqL.of (g3 b3 _ (nb.and (ne_of_none hb hD).symm) hb))⟩) (e_vx (e12 _)) (Hk.at_of (k := i) (by omega) ?_)
      rw [List.getElem?_map, at_sort hq]
      rfl
    · obtain ⟨v1, w1, rfl, h1, v2, w2, rfl, h2, rfl⟩ := os
      rw [show v1 = _ from h1, show v2 = _ from h2] at hb2
      rw [hq] at ex
      rw [← Option.some.inj ex]
      exact ⟨b, rfl, nb2, hb2⟩
/-- a target of two names -/
theorem g_two {x : V} {f : Str × S} {H' : Hp} {i j : Nat} {R : L2.St → Hp → Prop} (h : NmT p H' x f) (r : R ((σ.set i (some (.str f.1))).set j (some (.str (sn f.2)))) H') : gTup K 2 (gCons (gName i) (gCons (gName j) gNil)) x σ H' R := by
  obtain ⟨b, rfl, nb, hb⟩ := h
  exact ⟨b, _, rfl, SqT.of hb, rfl, _, _, rfl, _, _, rfl, rfl, r⟩
/-- the table's pairs -/
theorem x_pairs {v4 : V} (h4 : (slP p NmP vars).P v4 H) (hp : p.pot = some a) (e4 : σ[4]? = some (some v4)) (hw : ∀ x y, wipe (((wipe σ [13, 14]).set 13 (some x)).set 14 (some y)) [13, 14] = wipe σ [13, 14])
    (e2 : ∀ x y, (((wipe σ [13, 14]).set 13 (some x)).set 14 (some y))[2]? = some (some (.ref a))) (e13 : ∀ x y, (((wipe σ [13, 14]).set 13 (some x)).set 14 (some y))[13]? = some (some x)) (e14 : ∀ x y, (((wipe σ [13, 14]).set 13 (some x)).set 14 (some y))[14]? = some (some y)) :
    Ev p (tLc (iList K (tVar 4)) (gTup K 2 (gCons (gName 13) (gCons (gName 14) gNil))) tYes (tTup (tCons (tVar 13) (tCons (tCall (spPv 2) [] E0 (tCons (tVar 2) (tCons (tVar 14) tNil))) tNil))) [13, 14]) σ H (slP p (PairT (·.1) RvP) vars) :=
  lcL_pt (τ := fun _ f => ((wipe σ [13, 14]).set 13 (some (.str f.1))).set 14 (some (.str (sn f.2)))) (e_var e4 h4) rfl (show 7 ≤ 100000 by decide) (fun _ _ => hw _ _) (fun i x f H' R hf hT r => g_two hT r) fun i x f D l H1 hf g hD hT => by
    refine e_tup (As := [sx (.str f.1), skv _ f.2]) (a_cons (e_vx (e13 _ _)) (a_cons (x_pvV (n := 2) (s := f.2) (show (p.and D (.lst l)).pot = some a from hp) (e_vx (e2 _ _)) (e_vx (e14 _ _)) (by cases f.2 <;> decide)) a_nil)) (big (show 2 ≤ 100000 by decide)) fun vs b H2 iv g2 os nb2 hb2 y ey => ?_
    obtain ⟨v1, w1, rfl, h1, v2, w2, rfl, h2, rfl⟩ := os
    rw [show v1 = _ from h1] at hb2
    rw [hf] at ey
    rw [← Option.some.inj ey]
    exact ⟨b, v2, rfl, nb2, hb2, h2⟩
/-- the same backwards, from the table -/
theorem x_turned {v4 : V} {t : Addr} {tf : Str → D} (h4 : (slP p NmP vars).P v4 H) (h5 : (sTab p (tes tf)).P (.ref t) H) (e4 : σ[4]? = some (some v4)) (hw : ∀ x y, wipe (((wipe σ [13, 14]).set 13 (some x)).set 14 (some y)) [13, 14] = wipe σ [13, 14])
    (e5 : ∀ x y, (((wipe σ [13, 14]).set 13 (some x)).set 14 (some y))[5]? = some (some (.ref t))) (e13 : ∀ x y, (((wipe σ [13, 14]).set 13 (some x)).set 14 (some y))[13]? = some (some x)) :
    Ev p (tLc (iList K (tRevL K (tVar 4))) (gTup K 2 (gCons (gName 13) (gCons (gName 14) gNil))) tYes (tTup (tCons (tVar 13) (tCons (tDGet (tVar 5) (tVar 13)) tNil))) [13, 14]) σ H (slP p (PairT (·.1) RdP) (tes tf).reverse) :=
  lcL_pt (fs := vars.reverse) (τ := fun _ f => ((wipe σ [13, 14]).set 13 (some (.str f.1))).set 14 (some (.str (sn f.2)))) (x_rev (e_var e4 h4)) (by unfold tes; rw [List.length_reverse, List.length_reverse, List.length_map]) (by rw [List.length_reverse]; unfold tes; rw [List.length_map]; exact (show 7 ≤ 100000 by decide)) (fun _ _ => hw _ _) (fun i x f H' R hf hT r => g_two hT r) fun i x f D l H1 hf g hD hT => by
    have hm : f ∈ vars := List.mem_reverse.mp (List.mem_of_getElem? hf)
    obtain ⟨j, hj⟩ := List.getElem?_of_mem hm
    obtain ⟨t', us, e, nt, ht, hl, hr⟩ := (sTab p (tes tf)).st _ _ _ g h5
    cases e
    have he : (tes tf)[j]? = some (f.1, tf f.1) := by
      unfold tes
      rw [List.getElem?_map, hj]
      rfl
    have hju : j < us.length := by
      rw [hl]
      exact (List.getElem?_eq_some_iff.mp he).1
    have hu : us[j]? = some (us[j]'hju) := List.getElem?_eq_getElem hju
    have hk : (keys (tes tf))[j]? = some (Sum.inr f.1) := by
      unfold keys
      rw [List.getElem?_map, he]
      rfl
    have ht : H1 t = some (.dK ((keys (tes tf)).zip us)) := by
      rw [ht]
      show some (HO.dK (mergeK [] ((keys (tes tf)).zip us))) = _
      rw [merge_nodup (by unfold keys; rw [List.length_map, hl]) (tes_nodup tf)]
    have ed := hr j _ _ hu he
    have ne : D ≠ t := fun e => by
      rw [e, ht] at hD
      cases hD
    refine e_tup (As := [sx (.str f.1), sdx (p.and D (.lst l)) (tf f.1)]) (a_cons (e_vx (e13 _ _)) (a_cons (fun H2 i2 g2 Q q => ⟨.ref t, e5 _ _, .str f.1, e13 _ _, t, us[j]'hju, rfl, ?_, q _ H2 i2 (Gr.refl H2) ((Dat.and ed hD).gr g2)⟩) a_nil)) (big (show 2 ≤ 100000 by decide)) fun vs b H2 iv g2 os nb2 hb2 y ey => ?_
    · have := DGet.k (k := (Sum.inr f.1 : Key)) (g2 t _ (nt.and ne) ht)
      rw [val_zip (tes_nodup tf) hk hu] at this
      exact this
    · obtain ⟨v1, w1, rfl, h1, v2, w2, rfl, h2, rfl⟩ := os
      rw [show v1 = _ from h1] at hb2
      have hey : y = (f.1, tf f.1) := by
        unfold tes at ey
        rw [← List.map_reverse, List.getElem?_map, hf] at ey
        exact (Option.some.inj ey).symm
      rw [hey]
      exact ⟨b, v2, rfl, nb2, hb2, h2⟩
/-- a list of one -/
theorem x_one {α : Type} {X : Pt α} {e : α} (h : Ev p te σ H (syP p X (some e))) : Ev p (tLst (tCons te tNil)) σ H (slP p X [e]) :=
  e_lst (a_cons h a_nil) (big (show 1 ≤ 100000 by decide)) fun vs b H1 iv g os nb hb => by
    obtain ⟨v, ws, rfl, hv, rfl⟩ := os
    refine ⟨b, _, rfl, nb, hb, rfl, fun i u f h1 h2 => ?_⟩
    cases i with
    | zero =>
      rw [← Option.some.inj h1, ← Option.some.inj h2]
      exact hv e rfl
    | succ i => cases h1
theorem x_unused : Ev p (tTup (tCons (tC (.str "unused")) (tCons (tTup (tCons (tC (.str "Red")) tNil)) tNil))) σ H (syP p (PairT (·.1) RdP) (some (("unused" : Str), D.tup [.str "Red"]))) :=
  e_tup (As := [sx (.str "unused"), sdx p (.tup [.str "Red"])]) (a_cons e_cx (a_cons (e_tupD (ds := [.str "Red"]) (a_cons (d_str (z5 (by decide +kernel))) a_nil) (show 1 ≤ 100000 by decide)) a_nil)) (big (show 2 ≤ 100000 by decide)) fun vs b H1 iv g os nb hb e ee => by
    obtain ⟨v1, w1, rfl, h1, v2, w2, rfl, h2, rfl⟩ := os
    rw [show v1 = _ from h1] at hb
    rw [← Option.some.inj ee]
    exact ⟨b, v2, rfl, nb, hb, h2⟩
/-- a kind's name, drawn -/
def ssn (p : Vo) : Sy p := ⟨fun v _ => ∃ s : S, v = .str (sn s), fun _ _ _ _ h => h⟩
theorem sorts_in : ∀ z ∈ sorts7, ∃ s : S, z = sn s := by
  have f : sorts7.all (fun z => [S.int, S.bool, S.task, S.hue, S.deep].any fun s => decide (z = sn s)) = true := by decide +kernel
  intro z hz
  obtain ⟨s, _, h⟩ := List.any_eq_true.mp (List.all_eq_true.mp f z hz)
  exact ⟨s, of_decide_eq_true h⟩
theorem x_sortD {n : Int} (ha : Ev p ta σ H (slx (sorts7.map V.str))) (hb : Ev p tb σ H (si fun r => 0 ≤ r ∧ r < 7)) : Ev p (tOp (rIx K) ta tb) σ H (ssn p) :=
  e_ixL (n := 7) (P := fun ws _ => ws = sorts7.map V.str) (hP := fun _ _ _ _ h => h) ha hb (fun ws H3 e => by rw [e]; decide) fun ws v H3 e hv => by
    rw [e] at hv
    obtain ⟨z, hz, rfl⟩ := List.mem_map.mp hv
    obtain ⟨s, rfl⟩ := sorts_in z hz
    exact ⟨s, rfl⟩
def sTree (p : Vo) : Sy p := ⟨fun v H => ∃ d s, Dat p H v d ∧ Tr 5 s d, fun v H H' g ⟨d, s, h, t⟩ => ⟨d, s, h.gr g, t⟩⟩
theorem x_treeD (hp : p.pot = some a) (ha : Ev p ta σ H (sx (.ref a))) (hb : Ev p tb σ H (ssn p)) (hc : Ev p tc σ H (slP p NmP vars)) (hd : Ev p td σ H (si fun i => 1 ≤ i ∧ i ≤ 5)) : Ev p (tCall (spTree 5) [] E0 (tCons ta (tCons tb (tCons tc (tCons td tNil))))) σ H (sTree p) := e_callP hp (a_cons ha (a_cons hb (a_cons hc (a_cons hd a_nil)))) fun vs H1 g iv os => by
  obtain ⟨v1, ws1, rfl, e1, v2, ws2, rfl, ⟨s, rfl⟩, v3, ws3, rfl, h3, v4, ws4, rfl, ⟨i, rfl, i1, i5⟩, rfl⟩ := os
  obtain ⟨l, rfl, hN⟩ := nm_of h3
  rw [show v1 = _ from e1]
  have ei : i = ((i.toNat : Nat) : Int) := by omega
  refine ⟨⟨s, l, i.toNat, by rw [← ei], hN, by omega, by omega⟩, fun v H h => ?_⟩
  obtain ⟨d, hd, ht⟩ := h s i.toNat rfl (by rw [← ei]; rfl)
  exact ⟨d, s, hd, ht.le (by omega)⟩
/-- the texts of two -/
theorem x_texts {r : D} {s : S} {v11 : V} (k : Vk (bnd 5) s r) (h : (slDx p [r, r]).P v11 H) (e11 : σ[11]? = some (some v11)) (hw : ∀ x, wipe ((wipe σ [15]).set 15 (some x)) [15] = wipe σ [15]) (e15 : ∀ x, ((wipe σ [15]).set 15 (some x))[15]? = some (some x)) :
    Ev p (tLc (iList K (tVar 11)) (gName 15) tYes (tCB rReprP (tCons (tVar 15) tNil)) [15]) σ H (slDx p [.str (pdv r).shown, .str (pdv r).shown]) :=
  lcL_dat (es := [r, r]) (g := fun d => .str (pdv d).shown) (e_var e11 h) (show 2 ≤ 100000 by decide) hw fun x d E l H1 g hE hm hd => by
    have er : d = r := by
      rcases List.mem_cons.mp hm with e | e
      · exact e
      · exact List.mem_singleton.mp e
    subst er
    exact (x_reprV (s := s) (e_var (e15 x) hd) k).imp fun v H e => by
      rw [show v = _ from e]
      exact .str _ (okd (Nat.le_refl 5) k).ln
theorem sh_two {z : Str} (h : PyData.strOk z = true) : SeqAt.shaped (.list [.str z, .str z]) = true := by
  unfold SeqAt.shaped
  simp only [PyData.canLay0, PyData.canLayAll0, PyData.depth, PyData.depthAll, h]
  rfl
theorem x_two {z : Str} {v8 : V} (hz : PyData.strOk z = true) (h : Ev p ta σ H (slDx p [.str z, .str z])) (e8 : v8 = .str z) (hb : Ev p tb σ H (sx v8)) (hb2 : Ev p tc σ H (sx v8)) : Ev p (tOp (rEqX false) ta (tLst (tCons tb (tCons tc tNil)))) σ H (sx (.bl false)) := by
  subst e8
  refine e_op h (x_lst (ws := [.str z, .str z]) (a_cons hb (a_cons hb2 a_nil)) (big (show 2 ≤ 100000 by decide))) fun x y H1 iv g ⟨b1, ws1, ex, nb1, hb1, l1, r1⟩ ⟨b2, ws2, ey, nb2, hb2, e2⟩ => ?_
  have py : ∀ {v : V}, Dat p H1 v (.str z) → Py Vo.non H1 v (.str z) := fun h => by cases h; exact .str z
  have at2 : ∀ {ws : List V}, ws.length = 2 → (∀ (i : Nat) (v : V), ws[i]? = some v → Py Vo.non H1 v (.str z)) → ∀ (i : Nat) (v : V) (d : PyData), ws[i]? = some v → [PyData.str z, .str z][i]? = some d → Py Vo.non H1 v d := fun l k i v d h1 h2 => by
    have : d = .str z := by
      match i with
      | 0 => exact (Option.some.inj h2).symm
      | 1 => exact (Option.some.inj h2).symm
    rw [this]
    exact k i v h1
  subst e2
  refine rv iv (v := .bl false) rfl fun Q q => ⟨[.str z, .str z], [.str z, .str z], ⟨b1, ws1, ex, hb1, l1, at2 l1 fun i v h1 => ?_⟩, ⟨b2, _, ey, hb2, rfl, at2 rfl fun i v h1 => ?_⟩, sh_two hz, sh_two hz, ?_⟩
  · have hi := (List.getElem?_eq_some_iff.mp h1).1
    rw [l1] at hi
    match i, hi with
    | 0, _ => exact py (r1 0 v _ h1 rfl)
    | 1, _ => exact py (r1 1 v _ h1 rfl)
  · match i with
    | 0 => rw [← Option.some.inj h1]; exact .str z
    | 1 => rw [← Option.some.inj h1]; exact .str z
  · have e : PyData.eqvAll [PyData.str z, .str z] [.str z, .str z] = true := by
      simp only [PyData.eqvAll, PyData.eqv, beq_self_eq_true, Bool.and_self]
    show Q (.bl (!PyData.eqvAll [PyData.str z, .str z] [.str z, .str z])) H1
    rw [e]
    exact q
/-- the owners -/
def owns : List Str := (["", "ann", "x/0/k.0"] : List String).map Str.ofString
theorem owns_in : ∀ z ∈ owns, z ∈ tks := by
  have f : owns.all (fun z => decide (z ∈ tks)) = true := by decide +kernel
  exact fun z hz => of_decide_eq_true (List.all_eq_true.mp f z hz)
theorem x_owner (hb : Ev p tb σ H (si fun r => 0 ≤ r ∧ r < 3)) : Ev p (tOp (rIx K) (tLst (tCons (tC (.str "")) (tCons (tC (.str "ann")) (tCons (tC (.str "x/0/k.0")) tNil)))) tb) σ H (ss fun z => z ∈ tks) :=
  e_ixL (n := 3) (P := fun ws _ => ws = owns.map V.str) (hP := fun _ _ _ _ h => h) (x_lst (ws := owns.map V.str) (a_cons e_cx (a_cons e_cx (a_cons e_cx a_nil))) (big (show 3 ≤ 100000 by decide))) hb (fun ws H3 e => by rw [e]; decide) fun ws v H3 e hv => by
    rw [e] at hv
    obtain ⟨z, hz, rfl⟩ := List.mem_map.mp hv
    exact ⟨z, rfl, owns_in z hz⟩
end
end K12
namespace K12
open PySem PySem.Spec PyProof.Rows L2 Hk
section
variable {P : Program} {w : World} {K : PySem.W.Frag} {mg : Str → Option Value} {base : Heap} {p : Vo} {σ : L2.St} {H : Hp} {ta tb te : TE} {tr : TA} {a : Addr}
theorem x_min {c d e : Int → Prop} (ha : Ev p ta σ H (si c)) (hb : Ev p tb σ H (si d)) (he : ∀ i j, c i → d j → e (if j < i then j else i)) : Ev p (tCB (fun xs H Q => ∃ i j, xs = [.int i, .int j] ∧ Q (.int (if j < i then j else i)) H) (tCons ta (tCons tb tNil))) σ H (si e) := e_cb (a_cons ha (a_cons hb a_nil)) fun vs H1 iv g os => by
  obtain ⟨v, ws, rfl, ⟨i, rfl, hi⟩, v2, ws2, rfl, ⟨j, rfl, hj⟩, rfl⟩ := os
  exact rv iv ⟨_, rfl, he i j hi hj⟩ fun Q q => ⟨i, j, rfl, q⟩
theorem Gr.join {b : Addr} {H1 H2 : Hp} (g : Gr Vo.non H H1) (hb : H b = none) (g2 : Gr (Vo.of b) H1 H2) : Gr Vo.non H H2 := fun x o n h => g2 x o (nv_of fun e => by rw [e, h] at hb; cases hb) (g x o n h)
theorem Iv.pot1 {b : Addr} (h : Pot H b) : Iv (Vo.of b) H := ⟨fun x e => by
  cases (show b = x from Option.some.inj e)
  exact ⟨h, fun y hy => (nomatch hy)⟩, fun x hx => (nomatch hx)⟩
theorem q_forR {C : Int → Prop} {g : TG} {tb u : TS} {D : Ends} (iv : Iv p H) (h : Ev p te σ H (si C)) (hC : ∀ n, C n → 0 ≤ n ∧ n < 1000000) (Pv : Nat → L2.St → Hp → Prop) (h0 : ∀ H1, Iv p H1 → Gr p H H1 → Pv 0 σ H1)
    (hs : ∀ n, C n → ∀ i σ' H', i < n.toNat → Pv i σ' H' → g (.int (0 + (i : Nat))) σ' H' fun σ2 H2 => tb { D with nx := Pv (i + 1), ct := Pv (i + 1), bk := u D } σ2 H2) (hd : ∀ n, C n → ∀ σ' H', Pv n.toNat σ' H' → u D σ' H') : tSeq (tFor (iRng1 (tCons te tNil)) g tb) u D σ H :=
  h H iv (Gr.refl H) _ fun v H1 i1 g1 ⟨n, e, hn⟩ => ⟨n, by rw [e], by have := hC n hn; omega, by have := hC n hn; omega, for_range (lo := 0) (n := n.toNat) (D := { D with nx := u D }) Pv (h0 H1 i1 g1) (hs n hn) (hd n hn)⟩
def spLaw (K : PySem.W.Frag) : Sp := fun vs H Q _ => ∃ (a : Addr) (ns : List Int), vs = [.ref a] ∧ SqL K H a (ns.map V.int) ∧ ns.length ≤ 63 ∧ ∀ H', Q (.bl true) H'
def tesU (tf : Str → D) : List (Str × D) := (tes tf).reverse ++ [((("unused" : Str), D.tup [.str "Red"]) : Str × D)]
theorem tesU_nodup (tf : Str → D) : (keys (tesU tf)).Nodup := by
  have e : keys (tesU tf) = (vars.map fun q => (Sum.inr q.1 : Key)).reverse ++ [(Sum.inr ("unused" : Str) : Key)] := by
    unfold tesU keys
    rw [List.map_append, List.map_reverse]
    rw [show (tes tf).map (fun e => (Sum.inr e.1 : Key)) = vars.map fun q => Sum.inr q.1 from tes_keys tf]
    rfl
  rw [e]
  exact of_decide_eq_true (by decide +kernel : decide (((vars.map fun q => (Sum.inr q.1 : Key)).reverse ++ [(Sum.inr ("unused" : Str) : Key)]).Nodup) = true)
theorem ok_law {f : Addr} {fd : FuncData} {fE : Addr} {fdE : FuncData} (E : En K mg) (F : Fun K "law" "law" s_law f fd) (FD : FunD K "evaluate" "evaluate" (defArgs s_evaluate) (defBody s_evaluate) (defScope s_evaluate) [] [("task", .str "")] fE fdE) (hm_E : mg "evaluate" = some (.ref fE))
    (F_E : FnOk P w K mg base CX0 9 fE fdE PS (spEval 5)) (c__law_pot : Ca P w K mg base 1 "_law_pot" (spPot K)) (c__law_plain_value : Ca P w K mg base 6 "_law_plain_value" (spPv 2)) (c__law_tree : Ca P w K mg base 14 "_law_tree" (spTree 5)) (c__law_draw : Ca P w K mg base 1 "_law_draw" spDraw)
    (c_is_expression : Ca P w K mg base 11 "is_expression" (spD1 (form 5))) (c__law_reckoned : CaG P w K mg base 9 "_law_reckoned" (spEval 5)) : FnG P w K mg base 15 f fd ["_law_script"] (spLaw K) := by
  have kp_E := FD.kp
  have kb_E := kb_eval (fun_ofK FD)
  have kb_E0 := kb_eval0 (fun_ofK FD)
  obtain ⟨dsE, d_E, b_E⟩ := b_eval FD
  refine fnG_mk F sc_law (fun vs H Q E h => by obtain ⟨a, ns, rfl, _⟩ := h; rfl) (fun cdv A outer s H vs Q E' hg hr h => ?_)
  obtain ⟨sc, ns, rfl, hS, hn, q⟩ := h
  have hu1 : (A.deeper (envOfC "law" (defScope s_law) s.heap.objs.size f cdv)).units + 1 < cLine := by
    have := hr.un
    omega
  have hu64 : (A.deeper (envOfC "law" (defScope s_law) s.heap.objs.size f cdv)).units + 64 < cLine := by
    have := hr.un
    omega
  refine ⟨_, (pss_cons (ps_for PassesOwn.never rfl (pi_range1 (by rfl) (E.fr (x := "range") (by decide +kernel)) (pa_cons (pe_callB (call_max2 rfl) (by rfl) (E.fr (x := "max") (by decide +kernel)) (by decide +kernel) (pa_cons pe_int (pa_cons (pe_callB (call_min2 rfl) (by rfl) (E.fr (x := "min") (by decide +kernel)) (by decide +kernel) (pa_cons (pe_callB (lenU (K := K) rfl) (by rfl) (E.fr (x := "len") (by decide +kernel)) (by decide +kernel) (pa_cons (pv 0) pa_nil)) (pa_cons pe_int pa_nil))) pa_nil))) pa_nil)) (pg_name (i := 1) sc_law.nd rfl (Or.inl rfl)) (pss_cons (ps_set (i := 2) sc_law.nd rfl (Or.inr rfl) (pe_ca c__law_pot (hr.mono (by first | decide | omega)) (by rfl) (pa_cons (pv 0) (pa_cons (pv 1) pa_nil))))
      (pss_cons (ps_set (i := 3) sc_law.nd rfl (Or.inr rfl) (pe_lst (pa_cons pe_str (pa_cons pe_str (pa_cons pe_str (pa_cons pe_str (pa_cons pe_str (pa_cons pe_str (pa_cons pe_str pa_nil)))))))))
      (pss_cons (ps_setLc (i := 4) (own := [("_law_at", 12)]) (g := (gName 12)) (tt := tYes) rfl sc_law.nd rfl rfl (sw_true rfl rfl rfl (by decide +kernel)) (pi_range1 (by rfl) (E.fr (x := "range") (by decide +kernel)) (pa_cons pe_int pa_nil)) (blkOk_by (own := [("_law_at", 12)]) (N := ["_law_script", "_law_k", "_law_pot_here", "_law_sorts", "_law_names", "_law_table", "_law_tree_here", "_law_owner", "_law_due", "_law_before", "_law_turned", "_law_told", "_law_at", "_law_name", "_law_sort", "_law_one"]) (sc := defScope s_law) (by decide +kernel)) (fun _ _ _ _ _ => (pg_name (i := 12) sc_law.nd rfl (Or.inl rfl))) (fun _ _ _ _ _ => pts_nil) (fun _ _ _ _ _ => (pe_tup (pa_cons (pe_ix (ixU (K := K) rfl) pe_str (pv 12) (fun _ _ => rfl)) (pa_cons (pe_ix (ixU (K := K) rfl) (pv 3) (pv 12) (fun _ _ => rfl)) pa_nil)))))
      (pss_cons (ps_set (i := 5) sc_law.nd rfl (Or.inr rfl) (pe_callTy (dictU (K := K) rfl) (by rfl) (E.fr (x := "dict") (by decide +kernel)) (by decide +kernel) (pa_cons (pe_lc (own := [("_law_name", 13), ("_law_sort", 14)]) (g := (gTup K 2 (gCons (gName 13) (gCons (gName 14) gNil)))) (tt := tYes) rfl sc_law.nd (pi_list (pv 4)) (blkOk_by (own := [("_law_name", 13), ("_law_sort", 14)]) (N := ["_law_script", "_law_k", "_law_pot_here", "_law_sorts", "_law_names", "_law_table", "_law_tree_here", "_law_owner", "_law_due", "_law_before", "_law_turned", "_law_told", "_law_at", "_law_name", "_law_sort", "_law_one"]) (sc := defScope s_law) (by decide +kernel)) (fun _ _ _ _ _ => (pg_tup rfl (pgs_cons (pg_name (i := 13) sc_law.nd rfl (Or.inl rfl)) (pgs_cons (pg_name (i := 14) sc_law.nd rfl (Or.inl rfl)) pgs_nil)))) (fun _ _ _ _ _ => pts_nil) (fun _ _ _ _ _ => (pe_tup (pa_cons (pv 13) (pa_cons (pe_ca c__law_plain_value (hr.mono (by first | decide | omega)) (by rfl) (pa_cons (pv 2) (pa_cons (pv 14) pa_nil))) pa_nil))))) pa_nil)))
      (pss_cons (ps_set (i := 6) sc_law.nd rfl (Or.inl rfl) (pe_ca c__law_tree (hr.mono (by first | decide | omega)) (by rfl) (pa_cons (pv 2) (pa_cons (pe_ix (ixU (K := K) rfl) (pv 3) (pe_ca c__law_draw (hr.mono (by first | decide | omega)) (by rfl) (pa_cons (pv 2) (pa_cons pe_int pa_nil))) (fun _ _ => rfl)) (pa_cons (pv 4) (pa_cons (pe_op op_addU pe_int (pe_ca c__law_draw (hr.mono (by first | decide | omega)) (by rfl) (pa_cons (pv 2) (pa_cons pe_int pa_nil)))) pa_nil))))))
      (pss_cons (ps_if (pt_not (pt_val (pe_ca c_is_expression (hr.mono (by first | decide | omega)) (by rfl) (pa_cons (pv 6) pa_nil)))) (pss_one (ps_ret pe_bl)) pss_nil)
      (pss_cons (ps_set (i := 7) sc_law.nd rfl (Or.inl rfl) (pe_ix (ixU (K := K) rfl) (pe_lst (pa_cons pe_str (pa_cons pe_str (pa_cons pe_str pa_nil)))) (pe_ca c__law_draw (hr.mono (by first | decide | omega)) (by rfl) (pa_cons (pv 2) (pa_cons pe_int pa_nil))) (fun _ _ => rfl)))
      (pss_cons (ps_set (i := 8) sc_law.nd rfl (Or.inl rfl) (pe_callB (call_reprP hg hu64) (by rfl) (E.fr (x := "repr") (by decide +kernel)) (by decide +kernel) (pa_cons (pe_cg c__law_reckoned (by exact hg) (hr.mono (by first | decide | omega)) (by rfl) (pa_cons (pv 6) (pa_cons (pv 5) (pa_cons (pv 7) pa_nil)))) pa_nil)))
      (pss_cons (ps_set (i := 9) sc_law.nd rfl (Or.inl rfl) (pe_callB (call_reprD hg hu64) (by rfl) (E.fr (x := "repr") (by decide +kernel)) (by decide +kernel) (pa_cons (pv 5) pa_nil)))
      (pss_cons (ps_set (i := 10) sc_law.nd rfl (Or.inl rfl) (pe_callTy (dictU (K := K) rfl) (by rfl) (E.fr (x := "dict") (by decide +kernel)) (by decide +kernel) (pa_cons (pe_op op_addU (pe_lc (own := [("_law_name", 13), ("_law_sort", 14)]) (g := (gTup K 2 (gCons (gName 13) (gCons (gName 14) gNil)))) (tt := tYes) rfl sc_law.nd (pi_list (pe_revU (K := K) rfl (pv 4))) (blkOk_by (own := [("_law_name", 13), ("_law_sort", 14)]) (N := ["_law_script", "_law_k", "_law_pot_here", "_law_sorts", "_law_names", "_law_table", "_law_tree_here", "_law_owner", "_law_due", "_law_before", "_law_turned", "_law_told", "_law_at", "_law_name", "_law_sort", "_law_one"]) (sc := defScope s_law) (by decide +kernel)) (fun _ _ _ _ _ => (pg_tup rfl (pgs_cons (pg_name (i := 13) sc_law.nd rfl (Or.inl rfl)) (pgs_cons (pg_name (i := 14) sc_law.nd rfl (Or.inl rfl)) pgs_nil)))) (fun _ _ _ _ _ => pts_nil) (fun _ _ _ _ _ => (pe_tup (pa_cons (pv 13) (pa_cons (pe_dget hu1 (pv 5) (pv 13) (fun _ _ => rfl)) pa_nil))))) (pe_lst (pa_cons (pe_tup (pa_cons pe_str (pa_cons (pe_tup (pa_cons pe_str pa_nil)) pa_nil))) pa_nil))) pa_nil)))
      (pss_cons (ps_set (i := 11) sc_law.nd rfl (Or.inl rfl) (pe_lst (pa_cons (pe_callN F_E (hr.mono (by first | decide | omega)) (by rfl) hm_E kp_E kb_E pass0 (pa_cons (pv 6) (pa_cons (pv 5) pa_nil)) (pk_cons (pv 7) pk_nil)) (pa_cons (pe_callN0 F_E (hr.mono (by first | decide | omega)) (by rfl) hm_E kp_E kb_E0 pass0 (pk_cons (pv 7) (pk_cons (pv 10) (pk_cons (pv 6) pk_nil)))) pa_nil))))
      (pss_cons (ps_if (PW.pt (pw_or (pt_cmpR (op_neX hu64) (pe_lc (own := [("_law_one", 15)]) (g := (gName 15)) (tt := tYes) rfl sc_law.nd (pi_list (pv 11)) (blkOk_by (own := [("_law_one", 15)]) (N := ["_law_script", "_law_k", "_law_pot_here", "_law_sorts", "_law_names", "_law_table", "_law_tree_here", "_law_owner", "_law_due", "_law_before", "_law_turned", "_law_told", "_law_at", "_law_name", "_law_sort", "_law_one"]) (sc := defScope s_law) (by decide +kernel)) (fun _ _ _ _ _ => (pg_name (i := 15) sc_law.nd rfl (Or.inl rfl))) (fun _ _ _ _ _ => pts_nil) (fun _ _ _ _ _ => (pe_callB (call_reprP hg hu64) (by rfl) (E.fr (x := "repr") (by decide +kernel)) (by decide +kernel) (pa_cons (pv 15) pa_nil)))) (pe_lst (pa_cons (pv 8) (pa_cons (pv 8) pa_nil))) (nomark _)) (pw_or1 (pt_cmpR op_ne (pe_callB (call_reprD hg hu64) (by rfl) (E.fr (x := "repr") (by decide +kernel)) (by decide +kernel) (pa_cons (pv 5) pa_nil)) (pv 9) (nomark _))))) (pss_one (ps_ret pe_bl)) pss_nil)
      (pss_cons (ps_if (pt_cmpR op_ne (pe_callB (call_reprP hg hu64) (by rfl) (E.fr (x := "repr") (by decide +kernel)) (by decide +kernel) (pa_cons (pe_call F_E (hr.mono (by first | decide | omega)) (by rfl) hm_E kp_E b_E d_E pass0 (pa_cons (pv 6) (pa_cons (pv 5) pa_nil))) pa_nil)) (pe_callB (call_reprP hg hu64) (by rfl) (E.fr (x := "repr") (by decide +kernel)) (by decide +kernel) (pa_cons (pe_cg c__law_reckoned (by exact hg) (hr.mono (by first | decide | omega)) (by rfl) (pa_cons (pv 6) (pa_cons (pv 5) (pa_cons pe_str pa_nil)))) pa_nil)) (nomark _)) (pss_one (ps_ret pe_bl)) pss_nil)
      (pss_one (ps_if (pt_cmpR op_ne (pe_callB (call_reprP hg hu64) (by rfl) (E.fr (x := "repr") (by decide +kernel)) (by decide +kernel) (pa_cons (pe_callN F_E (hr.mono (by first | decide | omega)) (by rfl) hm_E kp_E kb_E pass0 (pa_cons (pv 6) (pa_cons (pv 10) pa_nil)) (pk_cons (pv 7) pk_nil)) pa_nil)) (pv 8) (nomark _)) (pss_one (ps_ret pe_bl)) pss_nil))))))))))))))))
      (pss_one (ps_ret pe_bl))), ?_⟩
  have seq : ∀ {H1}, Gr Vo.non H H1 → SqL K H1 sc (ns.map V.int) := fun {H1} g => by
    rcases hS with (h | ⟨o, h⟩) | h
    · exact .inl (.inl (g _ _ (nv_non _) h))
    · exact .inl (.inr ⟨o, g _ _ (nv_non _) h⟩)
    · exact .inr h
  refine q_forR (p := Vo.non) (C := fun n => 1 ≤ n ∧ n ≤ 8) (Iv.non H) (x_max (c := fun i => i = 1) (d := fun j => 0 ≤ j ∧ j ≤ 8) (e_ci rfl) (x_min (c := fun i => i = ((ns.map V.int).length : Int)) (d := fun j => j = 8) (e_sxi (x_lenQ (xs := ns.map V.int) (e_vx rfl) fun v H3 g e => ⟨sc, e, .inl (seq g)⟩) rfl) (e_ci rfl) fun i j hi hj => by
    show 0 ≤ (if j < i then j else i) ∧ (if j < i then j else i) ≤ 8
    split <;> omega) fun i j hi hj => by
    show 1 ≤ (if j > i then j else i) ∧ (if j > i then j else i) ≤ 8
    split <;> omega) (fun n hn => by omega) (fun _ σ' H' => ∃ (x1 x2 x3 x4 x5 x6 x7 x8 x9 x10 x11 x12 x13 x14 x15 : Option V), σ' = [some (.ref sc), x1, x2, x3, x4, x5, x6, x7, x8, x9, x10, x11, x12, x13, x14, x15] ∧ Gr Vo.non H H') (fun H3 i3 g23 => ⟨none, none, none, none, none, none, none, none, none, none, none, none, none, none, none, rfl, g23⟩) (fun n hn i σ' H' hi hP => ?_) fun n hn σ' H' hP => ?_
  rotate_left
  · obtain ⟨x1, x2, x3, x4, x5, x6, x7, x8, x9, x10, x11, x12, x13, x14, x15, rfl, g⟩ := hP
    exact q H'
  obtain ⟨x1, x2, x3, x4, x5, x6, x7, x8, x9, x10, x11, x12, x13, x14, x15, rfl, g⟩ := hP
  refine ⟨.ref sc, rfl, .int (0 + (i : Nat)), rfl, sc, ns, 0 + (i : Nat), rfl, seq g, by omega, by omega, fun b H4 g4 hb hP => ?_⟩
  have i4 := Iv.pot1 hP
  have hb0 : H b = none := g.free (nv_non b) hb
  have hp : (Vo.of b).pot = some b := rfl
  refine q_asg (p := Vo.of b) (A := slx (sorts7.map V.str)) i4 (x_lst (ws := sorts7.map V.str) (a_cons e_cx (a_cons e_cx (a_cons e_cx (a_cons e_cx (a_cons e_cx (a_cons e_cx (a_cons e_cx a_nil))))))) (big (show 7 ≤ 100000 by decide))) fun v3 H5 i5 g45 h3 => ?_
  refine q_asg (p := Vo.of b) (A := slP (Vo.of b) NmP vars) i5 (x_names h3 rfl (fun _ => rfl) (fun _ => rfl) fun _ => rfl) fun v4 H6 i6 g56 h4 => ?_
  refine q_asg (p := Vo.of b) (A := sdict (Vo.of b) (·.1) RvP vars) i6 (x_dict (x_pairs (a := b) h4 hp rfl (fun _ _ => rfl) (fun _ _ => rfl) (fun _ _ => rfl) fun _ _ => rfl)) fun v5 H7 i7 g67 h5 => ?_
  obtain ⟨tf, t, rfl, h5, hV⟩ := tab_mk h5
  have h3 := (slx (p := Vo.of b) (sorts7.map V.str)).st _ _ _ (g56.trans g67) h3
  have h4 := (slP (Vo.of b) NmP vars).st _ _ _ g67 h4
  refine q_asg (p := Vo.of b) (A := sTree (Vo.of b)) i7 (x_treeD hp (e_vx rfl) (x_sortD (n := 7) (e_var rfl h3) (e_drawN (n := 7) hp (e_vx rfl) e_cx (by decide) (by decide))) (e_var rfl h4) (e_addI (c := fun i => i = 1) (d := fun i => 0 ≤ i ∧ i < 5) (e_ci rfl) (e_drawN (n := 5) hp (e_vx rfl) e_cx (by decide) (by decide)) fun i j hi hj => by omega)) fun v6 H8 i8 g78 h6 => ?_
  obtain ⟨d, srt, h6, tr6⟩ := h6
  refine q_ifr (v := .bl false) (b := false) i8 (k_to (k_not (k_b (b := true) (x_call (ws := [v6]) (a_cons (e_vx rfl) a_nil) fun H9 g9 => by
    have := pu_D1 (f := form 5) (h6.gr g9).non'
    rw [tr_form tr6] at this
    exact this))) rfl) (fun _ => e_cx) (fun e => nomatch e) fun _ H9 i9 g89 => ?_
  refine q_asg (p := Vo.of b) (A := ss fun z => z ∈ tks) i9 (x_owner (e_drawN (n := 3) hp (e_vx rfl) e_cx (by decide) (by decide))) fun v7 H10 i10 g910 h7 => ?_
  obtain ⟨own, rfl, ho⟩ := h7
  have g710 := (g78.trans g89).trans g910
  have h4 := (slP (Vo.of b) NmP vars).st _ _ _ g710 h4
  have h5 := (sTab (Vo.of b) (tes tf)).st _ _ _ g710 h5
  have h6 : (sdx (Vo.of b) d).P v6 H10 := h6.gr (g89.trans g910)
  have mem : ∀ q ∈ vars, (q.1, tf q.1) ∈ tes tf := fun q hq => List.mem_map.mpr ⟨q, hq, rfl⟩
  have kn : Kn (tes tf) tf own srt d := ⟨tr6, ho, tes_nodup tf, mem, hV⟩
  have kn0 : Kn (tes tf) tf "" srt d := ⟨tr6, by decide +kernel, tes_nodup tf, mem, hV⟩
  have knU : Kn (tesU tf) tf own srt d := ⟨tr6, ho, tesU_nodup tf, fun q hq => List.mem_append_left _ (List.mem_reverse.mpr (mem q hq)), hV⟩
  refine q_asgx (p := Vo.of b) (v := .str (pdv (den tf own 5 d)).shown) i10 (x_reprV (x_reck kn (e_var rfl h6) (e_var rfl h5) (e_vx rfl)) kn.val) fun H11 i11 g11 => ?_
  refine q_asgx (p := Vo.of b) (v := .str (tabD tf).shown) i11 (x_reprTab (e_var rfl ((sTab (Vo.of b) (tes tf)).st _ _ _ g11 h5)) hV) fun H12 i12 g1112 => ?_
  have g12 := g11.trans g1112
  refine q_asg (p := Vo.of b) (A := sTab (Vo.of b) (tesU tf)) i12 (x_dict (x_catP (x_turned ((slP (Vo.of b) NmP vars).st _ _ _ g12 h4) ((sTab (Vo.of b) (tes tf)).st _ _ _ g12 h5) rfl (fun _ _ => rfl) (fun _ _ => rfl) fun _ _ => rfl) (x_one x_unused) (by unfold tes; rw [List.length_reverse, List.length_map]; exact (show 7 ≤ 1000 by decide)))) fun v10 H13 i13 g1213 h10 => ?_
  obtain ⟨tU, rfl⟩ := stab_ref h10
  have g13 := g12.trans g1213
  have h5 := (sTab (Vo.of b) (tes tf)).st _ _ _ g13 h5
  have h6 := (sdx (Vo.of b) d).st _ _ _ g13 h6
  refine q_asg (p := Vo.of b) (A := slDx (Vo.of b) [den tf own 5 d, den tf own 5 d]) i13 (e_lst (As := [sdx (Vo.of b) (den tf own 5 d), sdx (Vo.of b) (den tf own 5 d)]) (a_cons (x_evalN kn (e_var rfl h6) (e_var rfl h5) (e_vx rfl)) (a_cons (x_evalK knU (e_var rfl h6) (e_var rfl h10) (e_vx rfl)) a_nil)) (big (show 2 ≤ 100000 by decide)) fun vs c H1 iv g os nc hc => ?_) fun v11 H14 i14 g1314 h11 => ?_
  · obtain ⟨u1, w1, rfl, k1, u2, w2, rfl, k2, rfl⟩ := os
    exact ⟨c, _, rfl, nc, hc, DatL.cons k1 (DatL.cons k2 DatL.nil)⟩
  have h5 := (sTab (Vo.of b) (tes tf)).st _ _ _ g1314 h5
  have h6 := (sdx (Vo.of b) d).st _ _ _ g1314 h6
  have h10 := (sTab (Vo.of b) (tesU tf)).st _ _ _ g1314 h10
  refine q_ifr (v := .bl false) (b := false) i14 (k_to (k_or (k_test (x_two (z := (pdv (den tf own 5 d)).shown) (txt_ok kn.val) (x_texts kn.val h11 rfl (fun _ => rfl) fun _ => rfl) rfl (e_vx rfl) (e_vx rfl))) fun _ => k_test (x_ne (x := .str (tabD tf).shown) (y := .str (tabD tf).shown) (x_reprTab (e_var rfl h5) hV) (e_vx rfl) rfl)) (by rw [decide_eq_true rfl]; rfl)) (fun _ => e_cx) (fun e => nomatch e) fun _ H15 i15 g1415 => ?_
  have h5 := (sTab (Vo.of b) (tes tf)).st _ _ _ g1415 h5
  have h6 := (sdx (Vo.of b) d).st _ _ _ g1415 h6
  have h10 := (sTab (Vo.of b) (tesU tf)).st _ _ _ g1415 h10
  refine q_ifr (v := .bl false) (b := false) i15 (k_to (k_test (x_ne (x := .str (pdv (den tf "" 5 d)).shown) (y := .str (pdv (den tf "" 5 d)).shown) (x_reprV (x_eval2 kn0 (e_var rfl h6) (e_var rfl h5)) kn0.val) (x_reprV (x_reck kn0 (e_var rfl h6) (e_var rfl h5) e_cx) kn0.val) rfl)) (by rw [decide_eq_true rfl]; rfl)) (fun _ => e_cx) (fun e => nomatch e) fun _ H16 i16 g1516 => ?_
  have h6 := (sdx (Vo.of b) d).st _ _ _ g1516 h6
  have h10 := (sTab (Vo.of b) (tesU tf)).st _ _ _ g1516 h10
  refine s_ifr (v := .bl false) (b := false) i16 (k_to (k_test (x_ne (x := .str (pdv (den tf own 5 d)).shown) (y := .str (pdv (den tf own 5 d)).shown) (x_reprV (x_evalN knU (e_var rfl h6) (e_var rfl h10) (e_vx rfl)) kn.val) (e_vx rfl) rfl)) (by rw [decide_eq_true rfl]; rfl)) (fun _ => e_cx) (fun e => nomatch e) fun _ H17 i17 g1617 => ?_
  exact ⟨_, _, _, _, _, _, _, _, _, _, _, _, _, _, _, rfl, Gr.join (g.trans g4) hb0 (((((((((g45.trans g56).trans g67).trans g710)).trans g13).trans g1314).trans g1415).trans g1516).trans g1617)⟩
end
end K12
namespace K12
open PySem PySem.Spec PyProof.Rows L2 Hk
/-! ### what the top leaves -/
def dd_consists_of : He.DefD := ⟨("consists_of", none), "consists_of", "consists_of", defArgs s_consists_of, defBody s_consists_of, defScope s_consists_of, [], []⟩
def dd_is_name : He.DefD := ⟨("is_name", none), "is_name", "is_name", defArgs s_is_name, defBody s_is_name, defScope s_is_name, [], []⟩
def dd_is_tag : He.DefD := ⟨("is_tag", none), "is_tag", "is_tag", defArgs s_is_tag, defBody s_is_tag, defScope s_is_tag, [], []⟩
def dd_operands_of : He.DefD := ⟨("operands_of", none), "operands_of", "operands_of", defArgs s_operands_of, defBody s_operands_of, defScope s_operands_of, [], []⟩
def dd_has_levels : He.DefD := ⟨("has_levels", none), "has_levels", "has_levels", defArgs s_has_levels, defBody s_has_levels, defScope s_has_levels, [], []⟩
def dd_is_expression : He.DefD := ⟨("is_expression", none), "is_expression", "is_expression", defArgs s_is_expression, defBody s_is_expression, defScope s_is_expression, [], []⟩
def dd_add : He.DefD := ⟨("add", none), "add", "add", defArgs s_add, defBody s_add, defScope s_add, [], []⟩
def dd_subtract : He.DefD := ⟨("subtract", none), "subtract", "subtract", defArgs s_subtract, defBody s_subtract, defScope s_subtract, [], []⟩
def dd_multiply : He.DefD := ⟨("multiply", none), "multiply", "multiply", defArgs s_multiply, defBody s_multiply, defScope s_multiply, [], []⟩
def dd_divide : He.DefD := ⟨("divide", none), "divide", "divide", defArgs s_divide, defBody s_divide, defScope s_divide, [], []⟩
def dd_remainder : He.DefD := ⟨("remainder", none), "remainder", "remainder", defArgs s_remainder, defBody s_remainder, defScope s_remainder, [], []⟩
def dd_is_less : He.DefD := ⟨("is_less", none), "is_less", "is_less", defArgs s_is_less, defBody s_is_less, defScope s_is_less, [], []⟩
def dd_are_equal : He.DefD := ⟨("are_equal", none), "are_equal", "are_equal", defArgs s_are_equal, defBody s_are_equal, defScope s_are_equal, [], []⟩
def dd_conjunction : He.DefD := ⟨("conjunction", none), "conjunction", "conjunction", defArgs s_conjunction, defBody s_conjunction, defScope s_conjunction, [], []⟩
def dd_disjunction : He.DefD := ⟨("disjunction", none), "disjunction", "disjunction", defArgs s_disjunction, defBody s_disjunction, defScope s_disjunction, [], []⟩
def dd_operate : He.DefD := ⟨("operate", none), "operate", "operate", defArgs s_operate, defBody s_operate, defScope s_operate, [], []⟩
def dd_evaluate : He.DefD := ⟨("evaluate", none), "evaluate", "evaluate", defArgs s_evaluate, defBody s_evaluate, defScope s_evaluate, [], [("task", .str "")]⟩
def dd__law_pot : He.DefD := ⟨("_law_pot", none), "_law_pot", "_law_pot", defArgs s__law_pot, defBody s__law_pot, defScope s__law_pot, [], []⟩
def dd__law_draw : He.DefD := ⟨("_law_draw", none), "_law_draw", "_law_draw", defArgs s__law_draw, defBody s__law_draw, defScope s__law_draw, [], []⟩
def dd__law_choice : He.DefD := ⟨("_law_choice", none), "_law_choice", "_law_choice", defArgs s__law_choice, defBody s__law_choice, defScope s__law_choice, [], []⟩
def dd__law_plain_value : He.DefD := ⟨("_law_plain_value", none), "_law_plain_value", "_law_plain_value", defArgs s__law_plain_value, defBody s__law_plain_value, defScope s__law_plain_value, [], []⟩
def dd__law_leaf : He.DefD := ⟨("_law_leaf", none), "_law_leaf", "_law_leaf", defArgs s__law_leaf, defBody s__law_leaf, defScope s__law_leaf, [], []⟩
def dd__law_tree : He.DefD := ⟨("_law_tree", none), "_law_tree", "_law_tree", defArgs s__law_tree, defBody s__law_tree, defScope s__law_tree, [], []⟩
def dd__law_short : He.DefD := ⟨("_law_short", none), "_law_short", "_law_short", defArgs s__law_short, defBody s__law_short, defScope s__law_short, [], []⟩
def dd__law_reckoned : He.DefD := ⟨("_law_reckoned", none), "_law_reckoned", "_law_reckoned", defArgs s__law_reckoned, defBody s__law_reckoned, defScope s__law_reckoned, [], []⟩
def dd__law_of_two : He.DefD := ⟨("_law_of_two", none), "_law_of_two", "_law_of_two", defArgs s__law_of_two, defBody s__law_of_two, defScope s__law_of_two, [], []⟩
def dd_law : He.DefD := ⟨("law", none), "law", "law", defArgs s_law, defBody s_law, defScope s_law, [], []⟩
def fn : List He.DefD := [dd_consists_of, dd_is_name, dd_is_tag, dd_operands_of, dd_has_levels, dd_is_expression, dd_add, dd_subtract, dd_multiply, dd_divide, dd_remainder, dd_is_less, dd_are_equal, dd_conjunction, dd_disjunction, dd_operate, dd_evaluate, dd__law_pot, dd__law_draw, dd__law_choice, dd__law_plain_value, dd__law_leaf, dd__law_tree, dd__law_short, dd__law_reckoned, dd__law_of_two, dd_law]
def fa1 : List He.Fa := [.glo "consists_of", .glo "is_name", .glo "is_tag", .glo "operands_of", .glo "has_levels", .glo "is_expression", .glo "add", .glo "subtract", .glo "multiply", .glo "divide", .glo "remainder", .glo "is_less", .glo "are_equal", .glo "conjunction", .glo "disjunction", .glo "operate", .glo "evaluate", .glo "_law_pot", .glo "_law_draw", .glo "_law_choice", .glo "_law_plain_value", .glo "_law_leaf", .glo "_law_tree", .glo "_law_short", .glo "_law_reckoned", .glo "_law_of_two", .glo "law"]
def fa2 : List He.Fa := frees.map He.Fa.free
def fa3 : List He.Fa := [.str "SMALL_LETTERS" sSmall, .str "LARGE_LETTERS" sLarge, .int "LONGEST_WORD" 8, .int "LEVELS" 5, .int "TOO_LONG" tooLong, .glo "RESERVED", .glo "PAIR_OPERATORS", .glo "OPERATIONS"]
def loose1 : List PySem.Str := ["RESERVED", "SMALL_LETTERS", "LARGE_LETTERS", "LONGEST_WORD", "consists_of", "is_name", "is_tag", "LEVELS", "TOO_LONG", "PAIR_OPERATORS", "operands_of", "has_levels", "is_expression", "add", "subtract", "multiply", "divide"]
def loose2 : List PySem.Str := ["remainder", "is_less", "are_equal", "conjunction", "disjunction", "OPERATIONS", "operate", "evaluate", "_law_pot", "_law_draw", "_law_choice", "_law_plain_value", "_law_leaf", "_law_tree", "_law_short", "_law_reckoned", "_law_of_two"]
def tabs : List He.Tab := [(fun K => He.ga K "OPERATIONS", wsO)]
def exB (K : PySem.W.Frag) : Bool := He.tupB K "RESERVED" (wsR.map He.Dv.str) && (He.tupB K "PAIR_OPERATORS" (wsP.map He.Dv.str) && He.valsB K (He.ga K "OPERATIONS") ((wsO.zip fnO).map fun q => (q.1, He.Dv.glo q.2)))
def fas : List He.Fa := fa1 ++ fa2 ++ fa3
/-- the facts that the proof leans on, read off the heap behind the top -/
def hk12 : PySem.W.Hook where
  α := He.AlT × Bool
  obs := fun sh => (He.obsT fas fn tabs (He.frG sh.heap.get? (He.asD sh.heap.get? 4)), exB (He.frG sh.heap.get? (He.asD sh.heap.get? 4)))
  val := fun w => (He.valT fn tabs w, true)
  says := fun w hp => ∃ F : PySem.W.Frag, F.In hp ∧ He.SaysT fas fn tabs w F ∧ exB F = true
  of := fun _ _ z => ⟨_, He.frG_in, congrArg (fun y : He.AlT × Bool => y.1) z, congrArg (fun y : He.AlT × Bool => y.2) z⟩
  keeps := fun _ _ _ x kp => Exists.elim x fun F y => ⟨F, PySem.W.Frag.In.keeps y.1 kp, y.2⟩
abbrev R12 : PySem.W.OpenRow := PySem.W.OpenLaw.row PySem.Challenge.rw_heldover_k12_whole_values_of_expressions
def ob12 (sh : PySem.W.SharedT) : He.AlT × Bool := (He.obsT fas fn tabs (He.frG (HandSHeadRun.getT sh) (He.asD (HandSHeadRun.getT sh) 4)), exB (He.frG (HandSHeadRun.getT sh) (He.asD (HandSHeadRun.getT sh) 4)))
theorem ob12_eq (sh : PySem.W.SharedT) : ob12 sh = hk12.obs sh.abs := by
  have z : HandSHeadRun.getT sh = sh.abs.heap.get? := funext fun b => HandSHeadRun.getT_eq sh b
  unfold ob12
  rw [z]
  rfl
/-- a world that reads one question so -/
def wB (w : World) (b : Bool) : World := ⟨w.draws, { w.params with followText := fun s => if s = "special-get-raises" then b else w.params.followText s }⟩
theorem wB_eq (w : World) : wB w (w.params.followText "special-get-raises") = w := by
  obtain ⟨d, P⟩ := w
  obtain ⟨p1, p2, p3, p4, p5, ft, p7, p8, p9, p10, p11, p12, p13, p14, p15, p16, p17, p18, p19, p20, p21, p22, p23, p24, p25⟩ := P
  unfold wB
  have e : (fun s => if s = "special-get-raises" then ft "special-get-raises" else ft s) = ft := funext fun s => by
    by_cases h : s = "special-get-raises"
    · rw [if_pos h, h]
    · rw [if_neg h]
  show World.mk d _ = _
  congr 1
  show Params.mk p1 p2 p3 p4 p5 (fun s => if s = "special-get-raises" then ft "special-get-raises" else ft s) p7 p8 p9 p10 p11 p12 p13 p14 p15 p16 p17 p18 p19 p20 p21 p22 p23 p24 p25 = _
  rw [e]
theorem run12t (w : World) : HandSHeadRun.RunEq R12 (PySem.W.view R12.prog [37]) hk12 ob12 3000 (loose1 ++ loose2) (wB w true) := by
  intro os
  kernel_rfl
theorem run12f (w : World) : HandSHeadRun.RunEq R12 (PySem.W.view R12.prog [37]) hk12 ob12 3000 (loose1 ++ loose2) (wB w false) := by
  intro os
  kernel_rfl
theorem run12 (w : World) : HandSHeadRun.RunEq R12 (PySem.W.view R12.prog [37]) hk12 ob12 3000 (loose1 ++ loose2) w := by
  have h : ∀ b, HandSHeadRun.RunEq R12 (PySem.W.view R12.prog [37]) hk12 ob12 3000 (loose1 ++ loose2) (wB w b) := fun b => by
    cases b
    · exact run12f w
    · exact run12t w
  have := h (w.params.followText "special-get-raises")
  rw [wB_eq] at this
  exact this
end K12
namespace Hk
open PySem PySem.Spec PyProof.Rows L2
/-- the promise of the law's def, where nothing is being shown, at the heap behind the top: the script alone is tracked, and stays -/
theorem callG_end {P : Program} {w : World} {K : PySem.W.Frag} {mg mb : Str → Option Value} {k : Nat} {fa a : Addr} {fd : FuncData} {x : Str} {sp : Sp} {s : Shared} {us : List Value} {ns : List Int}
    (inK : K.In s.heap) (nG : s.heap.Ns mainGlobals mg) (nB : s.heap.Ns builtinsNs mb) (bB : ∀ y : Str, y ≠ "__name__" → mb y = bootBuiltins y) (nL : s.heap.NoLimit) (gn : s.gens = #[])
    (oa : s.heap.get? a = some { cls := .type "list", data := .seq us.toArray }) (ia : IntsAre us ns) (la : ns.length ≤ sizeLine) (room : Room k callerA)
    (F : ∀ base : Heap, K.In base → base.Ns mainGlobals mg → FnG P w K mg base k fa fd [x] sp) (bd : ∀ (s : Shared) (u : Value), BindsTo s fd ⟨[u], []⟩ [(x, u)])
    (due : ∀ H : Hp, SqL K H a (ns.map V.int) → sp [.ref a] H (fun v _ => v = .bl true) fun _ _ _ => False) :
    codeAny (model P w) callerA (.call (.ref fa) ⟨[.ref a], []⟩) (fun r s' => r = .ok (.ret (.bool true)) ∧ OldK s.heap s'.heap ∧ s'.os = s.os ∧ AllBare s'.gens) s := by
  have rel := vals_ints ia
  have go : ∀ H : Hp, (∀ b u, H b = some u → b = a ∧ u = .frz { cls := .type "list", data := .seq us.toArray } (.lst (ns.map V.int))) → (H a = none ∨ K.lookup a = none) → SqL K H a (ns.map V.int) →
      codeAny (model P w) callerA (.call (.ref fa) ⟨[.ref a], []⟩) (fun r s' => r = .ok (.ret (.bool true)) ∧ OldK s.heap s'.heap ∧ s'.os = s.os ∧ AllBare s'.gens) s := by
    intro H only lone sq
    have off : ∀ {b : Addr}, b ≠ a → H b = none := fun {b} n => by
      cases q : H b with
      | none => rfl
      | some u => exact absurd (only b u q).1 n
    have dic : ∀ {b : Addr} {m : Str → Option Value}, s.heap.Ns b m → (hidT s.heap H).Ns b m := fun {b m} ⟨o, es, ep, e, d, r⟩ => ⟨o, es, ep, hidT_get e (off fun z => by
      rw [z, oa] at e
      cases e
      cases (show Data.seq us.toArray _ = Data.dict es ep from d)), d, r⟩
    have inB : K.In (hidT s.heap H) := fun b o e => hidT_get (inK b o e) (by
      by_cases z : b = a
      · rcases lone with h | h
        · rw [z]
          exact h
        · rw [z, h] at e
          cases e
      · exact off z)
    have lim : (hidT s.heap H).NoLimit := by
      obtain ⟨mc, l1, l2⟩ := nL
      exact ⟨mc, dic l1, l2⟩
    have hok : HOk P w H s.heap := fun b u z => by
      obtain ⟨rfl, rfl⟩ := only b u z
      exact ⟨oa, by rw [List.length_map]; exact la, us, _, rel, oa⟩
    have e0 : Env0 P w K mg (hidT s.heap H) callerA [] s H := ⟨rfl, ⟨inB, dic nG, ⟨mb, dic nB, bB⟩, lim⟩, fun b o e => of_hidT e, Nat.le_of_eq (hidT_size _ _), trivial, fun b hb => (nomatch hb), hok, .of_eq gn⟩
    refine codeAny_mono ((F _ inB (dic nG)).run callerA [] s H ⟨[.ref a], []⟩ [.ref a] [.ref a] (fun v _ => v = .bl true) (fun _ _ _ => False) rfl room e0 (bd s (.ref a)) (.cons rfl .nil) (due H sq)) fun r s' h => ?_
    match r, h with
    | .error e, h => exact h.elim
    | .ok .next, h => exact h.elim
    | .ok .brk, h => exact h.elim
    | .ok .cont, h => exact h.elim
    | .ok (.ret u), ⟨v, H', os, bare, un, hok', ru, ev⟩ =>
      cases (show v = V.bl true from ev)
      cases (show u = Value.bool true from ru)
      refine ⟨rfl, OldK.of_keep fun b o e => ?_, os, bare⟩
      cases q : H b with
      | none => exact un.keep b o e q (fun z => (nomatch z)) (fun z => (nomatch z))
      | some t =>
        obtain ⟨rfl, rfl⟩ := only b t q
        rw [oa] at e
        cases e
        exact (hok' _ _ (un.frzs _ _ _ q)).1
  cases hk : K.lookup a with
  | some o =>
    have e := inK a o hk
    rw [oa] at e
    cases e
    exact go (fun _ => none) (fun b u z => (nomatch z)) (.inl rfl) (.inr ⟨_, us.toArray, _, hk, rfl, rfl, rfl, by rw [List.size_toArray, ia.length]; exact la, rel⟩)
  | none =>
    refine go (fun b => if b = a then some (.frz { cls := .type "list", data := .seq us.toArray } (.lst (ns.map V.int))) else none) (fun b u z => ?_) (.inr hk) (.inl (.inr ⟨_, if_pos rfl⟩))
    by_cases e : b = a
    · exact ⟨e, (Option.some.inj ((if_pos e).symm.trans z)).symm⟩
    · cases (if_neg e).symm.trans z
end Hk
namespace K12
open PySem PySem.Spec PyProof.Rows L2 Hk
section
variable {K : PySem.W.Frag} {h : Heap} {mg : Str → Option Value}
theorem df_of (X : K.In h) (G : h.Ns mainGlobals mg) (c : He.SaysD fas fn K) (x : Str) (st : Stmt) (i : Nat) (hd : fn[i]? = some ⟨(x, none), x, x, defArgs st, defBody st, defScope st, [], []⟩ := by rfl) (hg : fas[i]? = some (.glo x) := by rfl) : Df K mg x st := by
  obtain ⟨fd, F⟩ := c.def_ i hd
  exact ⟨He.fAd K (x, none), fd, fun_ofK F, He.glo_ok X G (c.fact i hg)⟩
theorem fas_free : ∀ {x : Str}, x ∈ frees → He.Fa.free x ∈ fas := fun {x} hx => List.mem_append_left _ (List.mem_append_right _ (show He.Fa.free x ∈ frees.map He.Fa.free from List.mem_map.mpr ⟨x, hx, rfl⟩))
theorem en_of (X : K.In h) (G : h.Ns mainGlobals mg) (c : He.SaysD fas fn K) (ex : exB K = true) : En K mg := by
  obtain ⟨x1, x23⟩ := Bool.and_eq_true_iff.mp ex
  obtain ⟨x2, x3⟩ := Bool.and_eq_true_iff.mp x23
  have s : ∀ {x z : Str} (j : Nat), fas[j]? = some (.str x z) → ∃ u, mg x = some u ∧ RelV (.str z) u := fun j e => by
    obtain ⟨t, m⟩ := He.str_ok X G (c.fact j e)
    exact ⟨_, m, t, rfl⟩
  have n : ∀ {x : Str} {z : Int} (j : Nat), fas[j]? = some (.int x z) → ∃ u, mg x = some u ∧ RelV (.int z) u := fun j e => by
    obtain ⟨t, m⟩ := He.int_ok X G (c.fact j e)
    exact ⟨_, m, t, rfl⟩
  have g : ∀ {x : Str} (j : Nat), fas[j]? = some (.glo x) → ∃ u, mg x = some u ∧ RelV (.ref (He.ga K x)) u := fun j e => ⟨_, He.glo_ok X G (c.fact j e), rfl⟩
  refine ⟨fun {x} hx => ?_, s 43 rfl, s 44 rfl, n 45 rfl, n 46 rfl, n 47 rfl, g 48 rfl, g 50 rfl, g 49 rfl, fun H => ?_, fun H => ?_⟩
  · obtain ⟨j, e⟩ := List.getElem?_of_mem (fas_free (List.elem_iff.mp hx))
    exact He.free_ok X G (c.fact j e)
  · have t := He.tupB_ok x1 H
    rw [List.map_map] at t
    exact t
  · have t := He.tupB_ok x2 H
    rw [List.map_map] at t
    exact t
theorem eval_all {P : Program} {w : World} {base : Heap} {f : Addr} {fd : FuncData} (E : En K mg) (F : Fun K "evaluate" "evaluate" s_evaluate f fd) (hm : mg "evaluate" = some (.ref f)) (c1 : Ca P w K mg base 3 "operands_of" spOps) (c2 : Ca P w K mg base 2 "operate" (spOper K)) : ∀ n, n ≤ 6 → FnOk P w K mg base CX0 (4 + n) f fd PS (spEval n)
  | 0, _ => ok_evaluate0 F
  | n + 1, h => ok_evaluate E F hm n (by omega) (eval_all E F hm c1 c2 n (by omega)) c1 c2
theorem reck_all {P : Program} {w : World} {base : Heap} (E : En K mg) (F : Df K mg "_law_reckoned" s__law_reckoned) (c1 : CaG P w K mg base 1 "_law_of_two" spTwo) : ∀ n, n ≤ 6 → CaG P w K mg base (4 + n) "_law_reckoned" (spEval n)
  | 0, _ => ok_reck0 F
  | n + 1, h => ok_reck E F n (by omega) (reck_all E F c1 n (by omega)) c1
theorem facts {P : Program} {w : World} {f : Addr} (X : K.In h) (G : h.Ns mainGlobals mg) (hfa : mg ("law" : Str) = some (.ref f)) (cT : He.SaysT fas fn tabs w K) (ex : exB K = true) :
    ∃ fd : FuncData, (∀ (s : Shared) (v : Value), BindsTo s fd ⟨[v], []⟩ [("_law_script", v)]) ∧ ∀ base : Heap, K.In base → base.Ns mainGlobals mg → FnG P w K mg base 15 f fd ["_law_script"] (spLaw K) := by
  have c := cT.d
  have E := en_of X G c ex
  obtain ⟨fd, F⟩ := c.def_ 26 (d := dd_law) rfl
  have e := hfa.symm.trans (He.glo_ok X G (c.fact 26 (f := .glo "law") rfl))
  cases e
  have b := FunD.bindsA (ps := ["_law_script"]) F fun _ _ _ _ _ _ us hl => match us, hl with | [_], _ => rfl
  refine ⟨fd, fun s v => b s [v] rfl, fun base _ _ => ?_⟩
  obtain ⟨fdE, FE⟩ := c.def_ 16 (d := dd_evaluate) rfl
  have gE := He.glo_ok X G (c.fact 16 (f := .glo "evaluate") rfl)
  have g_cons : Ca P w K mg base 1 "consists_of" spCons := ok_consists_of E (df_of X G c _ _ 0)
  have g_name := ok_is_name E (df_of X G c _ _ 1) g_cons
  have g_tag := ok_is_tag E (df_of X G c _ _ 2) g_cons
  have g_ops := ok_operands_of E (df_of X G c _ _ 3) g_tag
  have g_lev := has_all E (df_of X G c _ _ 4) g_name g_ops 6
  have g_expr := ok_is_expression E (df_of X G c _ _ 5) g_lev
  have o1 : Ca P w K mg base 1 "add" (spA fun i j => .int (i + j)) := ok_add (df_of X G c _ _ 6)
  have o2 : Ca P w K mg base 1 "subtract" (spA fun i j => .int (i - j)) := ok_subtract (df_of X G c _ _ 7)
  have o3 : Ca P w K mg base 1 "multiply" (spA fun i j => .int (i * j)) := ok_multiply (df_of X G c _ _ 8)
  have o4 : Ca P w K mg base 1 "divide" (spA fun i j => .int (if j = 0 then 0 else i.fdiv j)) := ok_divide (df_of X G c _ _ 9)
  have o5 : Ca P w K mg base 1 "remainder" (spA fun i j => .int (if j = 0 then 0 else i.fmod j)) := ok_remainder (df_of X G c _ _ 10)
  have o6 : Ca P w K mg base 1 "is_less" (spA fun i j => .bl (decide (i < j))) := ok_is_less (df_of X G c _ _ 11)
  have o7 : Ca P w K mg base 1 "are_equal" spE := ok_are_equal (df_of X G c _ _ 12)
  have o8 : Ca P w K mg base 1 "conjunction" (spB fun i j => i && j) := ok_conjunction (df_of X G c _ _ 13)
  have o9 : Ca P w K mg base 1 "disjunction" (spB fun i j => i || j) := ok_disjunction (df_of X G c _ _ 14)
  have gl : ∀ {x : Str} (i : Nat), fas[i]? = some (.glo x) → mg x = some (.ref (He.ga K x)) := fun i e => He.glo_ok X G (c.fact i e)
  have x3 := (Bool.and_eq_true_iff.mp (Bool.and_eq_true_iff.mp ex).2).2
  have nine : Nine P w K mg base := by
    refine ⟨fun q hq => ?_, held_of o1 (gl 6 rfl), held_of o2 (gl 7 rfl), held_of o3 (gl 8 rfl), held_of o4 (gl 9 rfl), held_of o5 (gl 10 rfl), held_of o6 (gl 11 rfl), held_of o7 (gl 12 rfl), held_of o8 (gl 13 rfl), held_of o9 (gl 14 rfl)⟩
    obtain ⟨u, e1, e2⟩ := He.valsB_ok x3 (q := (q.1, He.Dv.glo q.2)) (List.mem_map.mpr ⟨q, hq, rfl⟩)
    obtain ⟨es, n, kd⟩ := cT.tab 0
    exact ⟨es, n, u, kd.1, kd.lit, e1, e2⟩
  have g_operate := ok_operate E nine (df_of X G c _ _ 15)
  have g_eval := eval_all (P := P) (w := w) (base := base) E (fun_ofK FE) gE g_ops g_operate 5 (by omega)
  have g_pot : Ca P w K mg base 1 "_law_pot" (spPot K) := ok_pot E (df_of X G c _ _ 17)
  have g_draw : Ca P w K mg base 1 "_law_draw" spDraw := ok_draw E (df_of X G c _ _ 18)
  have g_choice := fun G' => ok_choice E (df_of X G c _ _ 19) G' g_draw
  have g_plain := plain_all E (df_of X G c _ _ 20) g_draw 3
  have g_leaf := ok_leaf E (df_of X G c _ _ 21) g_draw g_choice g_plain
  have g_short : Ca P w K mg base 1 "_law_short" spShort := ok_short (df_of X G c _ _ 23)
  have g_tree := tree_all E (df_of X G c _ _ 22) g_draw g_leaf g_short 6
  have g_two : CaG P w K mg base 1 "_law_of_two" spTwo := ok_of_two E (df_of X G c _ _ 25)
  have g_reck := reck_all E (df_of X G c _ _ 24) g_two 5 (by omega)
  exact ok_law E (fun_ofK F) FE gE g_eval g_pot g_plain g_tree g_draw g_expr g_reck
end
end K12
open PySem PySem.W PySem.Calls PyProof.Rows
theorem PySem.Challenge.cw_heldover_k12_whole_values_of_expressions_holds : PySem.Challenge.rw_heldover_k12_whole_values_of_expressions.Holds := by
  w_on; o_law
  refine HandSHeadRun.head_any (r := K12.R12) (q := view K12.R12.prog [37]) (H := K12.hk12) (ob := K12.ob12) (M := 3000) (loose := K12.loose1 ++ K12.loose2) (d := HandSHeadRun.topDef K12.R12.prog 37) (kwd := []) K12.ob12_eq
    (by kernel_rfl) (fun s => by kernel_rfl) K12.run12 (by kernel_rfl) (by kernel_rfl) (by kernel_rfl) (by rfl) (by first | assumption | decide +kernel) (by decide +kernel) ⟨rfl, rfl, rfl, rfl, rfl, by decide +kernel⟩ ?hw ?hc
  case hw => w_witness2
  case hc =>
    refine Att.attach_call (l := PySem.Challenge.rw_heldover_k12_whole_values_of_expressions) (n := 63) rfl (by kernel_rfl) fun w s₀ s₁ mg mb fa o pm cd doc a us ns G Y ho hd hcd hmg0 hobj hints hlen hg => ?_
    obtain ⟨K, KX, c, ex⟩ := Y
    have hmg : mg ("law" : PySem.Str) = some (.ref fa) := by
      have e : (HandSHeadRun.topDef K12.R12.prog 37).name = ("law" : PySem.Str) := by kernel_rfl
      rw [← e]
      exact hmg0
    obtain ⟨fd, hb, hF⟩ := K12.facts (P := (PySem.Challenge.rw_heldover_k12_whole_values_of_expressions).prog) (w := w) KX G.T.g hmg c ex
    exact Hk.callG_end KX G.T.g G.T.b G.T.builtins G.T.nolimit hg hobj hints (Nat.le_trans hlen (by decide)) ⟨rfl, by decide, by decide⟩ hF hb fun H hS => ⟨a, ns, rfl, hS, hlen, fun _ => rfl⟩
