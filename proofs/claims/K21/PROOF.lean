import PyProof.Rows.All
import Wide.All
import OpenK.AllK
import Wide.FinOn
import HandS.Base
import HandS.Call
import HandS.List
import HandS.Comp
import HandS.Ends
import HandS.Iter
import HandS.Text
import HandS.Words
import HandS.WordsList
import HandS.WideBits
import HandS.IsInst
import HandS.Codes
import HandS.DeepEq
import HandS.RaiseMore
import HandS.Star
import HandS.CallLocal
import HandS.Style
import HandS.Dict
import HandS.Defaults
import HandS.New
import KE.KExcSuper
import HandS.Exc
import HandS.ExcField
import HandS.ExcIs
import KE.KExcIs
import HandS.TupMul
import HandS.FStr
import HandS.TupAny
import KE.KUnpackStar
import HandS.WordsExc
import KE.IntTextText
import KE.KIntText
import PyProof.ReprBulk
import HandS.HeadHook2
import PyProof.Rows.StrSplitCount
import HandS.Head0
import HandS.Head1
import HandS.Head2
import HandS.HeadEnd
import HandS.HeadHook1
import PySem.Challenge.RW_heldover_k21_indexes_judged_and_written
set_option Elab.async false
set_option linter.all false
set_option maxRecDepth 100000
set_option maxHeartbeats 0
namespace Hk
open PySem PySem.Spec PyProof.Rows L2

/-! ### the pot: a list of two ints that a draw changes; all else grows only -/
def Pot (H : Hp) (a : Addr) : Prop := ∃ x y : Int, H a = some (.lst [.int x, .int y]) ∧ 0 ≤ x ∧ 0 ≤ y ∧ y < 2147483648
/-- what may change: the pot; objects that are being filled, with what they hold now -/
structure Vo where
  pot : Option Addr
  ex : List (Addr × HO)
def Vo.non : Vo := ⟨none, []⟩
def Vo.of (a : Addr) : Vo := ⟨some a, []⟩
def Vo.and (p : Vo) (D : Addr) (o : HO) : Vo := ⟨p.pot, (D, o) :: p.ex⟩
def Nv (p : Vo) (a : Addr) : Prop := p.pot ≠ some a ∧ ∀ x ∈ p.ex, x.1 ≠ a
structure Iv (p : Vo) (H : Hp) : Prop where
  pot : ∀ a, p.pot = some a → Pot H a ∧ ∀ x ∈ p.ex, x.1 ≠ a
  ex : ∀ x ∈ p.ex, H x.1 = some x.2
def Gr (p : Vo) (H H' : Hp) : Prop := ∀ a o, Nv p a → H a = some o → H' a = some o
variable {p : Vo} {H H' H1 H2 H3 : Hp}
theorem Gr.refl (H : Hp) : Gr p H H := fun _ _ _ h => h
theorem Gr.trans (a : Gr p H H1) (b : Gr p H1 H2) : Gr p H H2 := fun x o n h => b x o n (a x o n h)
theorem Gr.new {q : Addr} {o : HO} (h : H q = none) : Gr p H (upd H q o) := fun a u _ e => by
  rw [upd_ne (ne_of_none e h)]
  exact e
theorem Gr.mut {q : Addr} {o : HO} (e : Gr p H H') (h : H q = none) : Gr p H (upd H' q o) := fun a u n ha => by
  rw [upd_ne (ne_of_none ha h)]
  exact e a u n ha
theorem nv_non (a : Addr) : Nv Vo.non a := ⟨fun z => (nomatch z), fun x hx => (nomatch hx)⟩
theorem nv_of {a b : Addr} (h : a ≠ b) : Nv (Vo.of a) b := ⟨fun z => h (Option.some.inj z), fun x hx => (nomatch hx)⟩
theorem Nv.and {a D : Addr} {o : HO} (h : Nv p a) (d : D ≠ a) : Nv (p.and D o) a := ⟨h.1, fun x hx => by
  rcases List.mem_cons.mp hx with e | e
  · rw [e]; exact d
  · exact h.2 x e⟩
theorem Nv.back {a D : Addr} {o : HO} (h : Nv (p.and D o) a) : Nv p a := ⟨h.1, fun x hx => h.2 x (List.mem_cons_of_mem _ hx)⟩
theorem Nv.ne {a D : Addr} {o : HO} (h : Nv (p.and D o) a) : D ≠ a := h.2 (D, o) List.mem_cons_self
theorem Gr.pure (e : Gr Vo.non H H') : Gr p H H' := fun a o _ h => e a o (nv_non a) h
theorem Gr.free {q : Addr} (e : Gr p H H') (hq : Nv p q) (h : H' q = none) : H q = none := by
  cases h1 : H q with
  | none => rfl
  | some o =>
    rw [e q o hq h1] at h
    cases h
theorem Iv.non (H : Hp) : Iv Vo.non H := ⟨fun a e => (nomatch e), fun x hx => (nomatch hx)⟩
theorem Iv.grow (i : Iv p H) (e : Gr Vo.non H H') : Iv p H' := ⟨fun a ha => by
  obtain ⟨⟨x, y, h, r⟩, n⟩ := i.pot a ha
  exact ⟨⟨x, y, e a _ (nv_non a) h, r⟩, n⟩, fun x hx => e _ _ (nv_non _) (i.ex x hx)⟩
theorem Iv.ne {q : Addr} (i : Iv p H) (h : H q = Option.none) : Nv p q := by
  refine ⟨fun e => ?_, fun x hx e => ?_⟩
  · obtain ⟨⟨x, y, h', _⟩, _⟩ := i.pot q e
    rw [h'] at h
    cases h
  · have h' := i.ex x hx
    rw [e, h] at h'
    cases h'
theorem Iv.new {q : Addr} {o : HO} (i : Iv p H) (h : H q = Option.none) : Iv p (upd H q o) := i.grow (Gr.new h)
theorem Iv.upd {q : Addr} {o : HO} (i : Iv p H) (h : Nv p q) : Iv p (upd H q o) := by
  refine ⟨fun a ha => ?_, fun x hx => ?_⟩
  · obtain ⟨⟨x, y, h', r⟩, n⟩ := i.pot a ha
    refine ⟨⟨x, y, ?_, r⟩, n⟩
    rw [upd_ne (fun e => h.1 (by rw [← e]; exact ha))]
    exact h'
  · rw [upd_ne (h.2 x hx)]
    exact i.ex x hx
/-- one more object that is being filled -/
theorem Iv.and {D : Addr} {o : HO} (i : Iv p H) (h : H D = some o) (n : Nv p D) : Iv (p.and D o) H := by
  refine ⟨fun a ha => ?_, fun x hx => ?_⟩
  · obtain ⟨w, m⟩ := i.pot a ha
    refine ⟨w, fun x hx => ?_⟩
    rcases List.mem_cons.mp hx with e | e
    · rw [e]
      exact fun z => n.1 (by rw [show D = a from z]; exact ha)
    · exact m x e
  · rcases List.mem_cons.mp hx with e | e
    · rw [e]
      exact h
    · exact i.ex x e
theorem Iv.back {D : Addr} {o : HO} (i : Iv (p.and D o) H) : Iv p H := ⟨fun a ha => ⟨(i.pot a ha).1, fun x hx => (i.pot a ha).2 x (List.mem_cons_of_mem _ hx)⟩, fun x hx => i.ex x (List.mem_cons_of_mem _ hx)⟩
/-- behind a call that draws from the pot alone -/
theorem Iv.drawn {a : Addr} (i : Iv p H) (ha : p.pot = some a) (po : Pot H' a) (g : Gr (Vo.of a) H H') : Iv p H' := by
  refine ⟨fun b hb => ?_, fun x hx => g _ _ (nv_of fun e => (i.pot a ha).2 x hx e.symm) (i.ex x hx)⟩
  have e : b = a := Option.some.inj (hb.symm.trans ha)
  rw [e]
  exact ⟨po, (i.pot a ha).2⟩
theorem Gr.drawn {a : Addr} (ha : p.pot = some a) (g : Gr (Vo.of a) H H') : Gr p H H' := fun b o n h => g b o (nv_of fun e => n.1 (by rw [← e]; exact ha)) h
theorem Gr.of {a : Addr} (ha : p.pot = some a) (hx : p.ex = []) (g : Gr p H H') : Gr (Vo.of a) H H' := fun b o n h => g b o ⟨by rw [ha]; exact n.1, fun x m => by rw [hx] at m; exact (nomatch m)⟩ h

/-! ### what is said of a value, and stays -/
structure Sy (p : Vo) where
  P : V → Hp → Prop
  st : ∀ v H H', Gr p H H' → P v H → P v H'
def sx (v : V) : Sy p := ⟨fun x _ => x = v, fun _ _ _ _ h => h⟩
def si (C : Int → Prop) : Sy p := ⟨fun x _ => ∃ i, x = .int i ∧ C i, fun _ _ _ _ h => h⟩
def sb (B : Bool → Prop) : Sy p := ⟨fun x _ => ∃ b, x = .bl b ∧ B b, fun _ _ _ _ h => h⟩
def ss (C : Str → Prop) : Sy p := ⟨fun x _ => ∃ z, x = .str z ∧ C z, fun _ _ _ _ h => h⟩
def sl (C : List V → Hp → Prop) (hC : ∀ vs H H', Gr p H H' → C vs H → C vs H') : Sy p :=
  ⟨fun x H => ∃ a vs, x = .ref a ∧ Nv p a ∧ H a = some (.lst vs) ∧ C vs H, fun _ H H' e ⟨a, vs, h1, h2, h3, h4⟩ => ⟨a, vs, h1, h2, e a _ h2 h3, hC vs H H' e h4⟩⟩
def st (C : List V → Hp → Prop) (hC : ∀ vs H H', Gr p H H' → C vs H → C vs H') : Sy p :=
  ⟨fun x H => ∃ a vs, x = .ref a ∧ Nv p a ∧ H a = some (.tup vs) ∧ C vs H, fun _ H H' e ⟨a, vs, h1, h2, h3, h4⟩ => ⟨a, vs, h1, h2, e a _ h2 h3, hC vs H H' e h4⟩⟩
/-- a list, a tuple of just these -/
def slx (vs : List V) : Sy p := sl (fun x _ => x = vs) fun _ _ _ _ h => h
def stx (vs : List V) : Sy p := st (fun x _ => x = vs) fun _ _ _ _ h => h
/-- a list whose items all are so -/
def sla (A : Sy p) (n : Nat) : Sy p := sl (fun vs H => vs.length ≤ n ∧ ∀ v ∈ vs, A.P v H) fun _ H H' e h => ⟨h.1, fun v hv => A.st v H H' e (h.2 v hv)⟩
def slL (A : Sy p) (C : Nat → Prop) : Sy p := sl (fun vs H => C vs.length ∧ ∀ v ∈ vs, A.P v H) fun _ H H' e h => ⟨h.1, fun v hv => A.st v H H' e (h.2 v hv)⟩

def Ev (p : Vo) (te : TE) (σ : L2.St) (H : Hp) (A : Sy p) : Prop := ∀ H1, Iv p H1 → Gr p H H1 → ∀ Q : VK, (∀ v H2, Iv p H2 → Gr p H1 H2 → A.P v H2 → Q v H2) → te σ H1 Q
def EvT (p : Vo) (t : TT) (σ : L2.St) (H : Hp) (B : Bool → Prop) : Prop := ∀ H1, Iv p H1 → Gr p H H1 → ∀ Q : Bool → Hp → Prop, (∀ b H2, Iv p H2 → Gr p H1 H2 → B b → Q b H2) → t σ H1 Q
def Oks : List (Sy p) → List V → Hp → Prop
  | [], vs, _ => vs = []
  | A :: As, vs, H => ∃ v ws, vs = v :: ws ∧ A.P v H ∧ Oks As ws H
theorem Oks.st : ∀ {As : List (Sy p)} {vs : List V}, Gr p H H' → Oks As vs H → Oks As vs H'
  | [], _, _, h => h
  | A :: As, _, e, ⟨v, ws, h1, h2, h3⟩ => ⟨v, ws, h1, A.st v _ _ e h2, Oks.st e h3⟩
def EvA (p : Vo) (ta : TA) (σ : L2.St) (H : Hp) (As : List (Sy p)) : Prop := ∀ H1, Iv p H1 → Gr p H H1 → ∀ Q : List V → Hp → Prop, (∀ vs H2, Iv p H2 → Gr p H1 H2 → Oks As vs H2 → Q vs H2) → ta σ H1 Q
/-- an operation, a call upon values -/
def Rv (p : Vo) (r : Hp → VK → Prop) (H : Hp) (A : Sy p) : Prop := ∀ Q : VK, (∀ v H2, Iv p H2 → Gr p H H2 → A.P v H2 → Q v H2) → r H Q

section
variable {σ : L2.St} {ta tb te tx : TE} {t u : TT} {tr : TA} {A B C : Sy p} {As : List (Sy p)} {v x y z : V} {K : PySem.W.Frag}
theorem Ev.mono (h : Ev p te σ H A) (e : Gr p H H') : Ev p te σ H' A := fun H1 i g Q q => h H1 i (e.trans g) Q q
theorem Ev.imp (h : Ev p te σ H A) (e : ∀ v H, A.P v H → B.P v H) : Ev p te σ H B := fun H1 i g Q q => h H1 i g Q fun v H2 i2 g2 a => q v H2 i2 g2 (e v H2 a)
theorem EvT.imp {B B' : Bool → Prop} (h : EvT p t σ H B) (e : ∀ b, B b → B' b) : EvT p t σ H B' := fun H1 i g Q q => h H1 i g Q fun v H2 i2 g2 a => q v H2 i2 g2 (e v a)
theorem e_var {i : Nat} (h : σ[i]? = some (some v)) (a : A.P v H) : Ev p (tVar i) σ H A := fun H1 i1 g Q q => ⟨v, h, q v H1 i1 (Gr.refl H1) (A.st v H H1 g a)⟩
theorem e_vx {i : Nat} (h : σ[i]? = some (some v)) : Ev p (tVar i) σ H (sx v) := e_var h rfl
theorem e_c (a : A.P v H) : Ev p (tC v) σ H A := fun H1 i1 g Q q => q v H1 i1 (Gr.refl H1) (A.st v H H1 g a)
theorem e_cx : Ev p (tC v) σ H (sx v) := e_c rfl
theorem e_op {r : R2} (ha : Ev p ta σ H A) (hb : Ev p tb σ H B) (hr : ∀ x y H1, Iv p H1 → Gr p H H1 → A.P x H1 → B.P y H1 → Rv p (r x y) H1 C) : Ev p (tOp r ta tb) σ H C := fun H1 i g Q q =>
  ha H1 i g _ fun x H2 i2 g2 ax => hb H2 i2 (g.trans g2) _ fun y H3 i3 g3 by_ => hr x y H3 i3 ((g.trans g2).trans g3) (A.st x _ _ g3 ax) by_ Q fun w H4 i4 g4 c => q w H4 i4 ((g2.trans g3).trans g4) c
theorem e_un {r : V → Hp → VK → Prop} (ha : Ev p ta σ H A) (hr : ∀ x H1, Iv p H1 → Gr p H H1 → A.P x H1 → Rv p (r x) H1 C) : Ev p (tUn r ta) σ H C := fun H1 i g Q q =>
  ha H1 i g _ fun x H2 i2 g2 ax => hr x H2 i2 (g.trans g2) ax Q fun w H4 i4 g4 c => q w H4 i4 (g2.trans g4) c
theorem a_nil : EvA p tNil σ H [] := fun H1 i _ _ q => q [] H1 i (Gr.refl H1) rfl
theorem a_cons (h : Ev p te σ H A) (hr : EvA p tr σ H As) : EvA p (tCons te tr) σ H (A :: As) := fun H1 i g Q q =>
  h H1 i g _ fun x H2 i2 g2 ax => hr H2 i2 (g.trans g2) _ fun vs H3 i3 g3 os => q (x :: vs) H3 i3 (g2.trans g3) ⟨x, vs, rfl, A.st x _ _ g3 ax, os⟩
theorem e_cb {r : List V → Hp → VK → Prop} (h : EvA p tr σ H As) (hr : ∀ vs H1, Iv p H1 → Gr p H H1 → Oks As vs H1 → Rv p (r vs) H1 C) : Ev p (tCB r tr) σ H C := fun H1 i g Q q =>
  h H1 i g _ fun vs H2 i2 g2 os => hr vs H2 i2 (g.trans g2) os Q fun w H3 i3 g3 c => q w H3 i3 (g2.trans g3) c
theorem e_call {sp : Sp} {E : XK} (h : EvA p tr σ H As) (hr : ∀ vs H1, Iv p H1 → Gr p H H1 → Oks As vs H1 → Rv p (fun H Q => sp vs H Q E) H1 C) : Ev p (tCall sp [] E tr) σ H C := fun H1 i g Q q =>
  h H1 i g _ fun vs H2 i2 g2 os => by
    show sp (vs ++ []) H2 Q E
    rw [List.append_nil]
    exact hr vs H2 i2 (g.trans g2) os Q fun w H3 i3 g3 c => q w H3 i3 (g2.trans g3) c
theorem Oks.len : ∀ {As : List (Sy p)} {vs : List V} {H : Hp}, Oks As vs H → vs.length = As.length
  | [], _, _, h => by rw [h]; rfl
  | _ :: _, _, _, ⟨v, ws, h1, _, h3⟩ => by rw [h1, List.length_cons, Oks.len h3, List.length_cons]
theorem e_tup (h : EvA p tr σ H As) (hn : As.length ≤ sizeLine) (hr : ∀ vs a H1, Iv p H1 → Gr p H H1 → Oks As vs H1 → Nv p a → H1 a = some (.tup vs) → C.P (.ref a) H1) : Ev p (tTup tr) σ H C := fun H1 i g Q q =>
  h H1 i g _ fun vs H2 i2 g2 os => ⟨by rw [os.len]; exact hn, fun a ha => q _ _ (i2.new ha) (g2.trans (Gr.new ha)) (hr vs a _ (i2.new ha) ((g.trans g2).trans (Gr.new ha)) (os.st (Gr.new ha)) (i2.ne ha) upd_same)⟩
theorem e_lst (h : EvA p tr σ H As) (hn : As.length ≤ sizeLine) (hr : ∀ vs a H1, Iv p H1 → Gr p H H1 → Oks As vs H1 → Nv p a → H1 a = some (.lst vs) → C.P (.ref a) H1) : Ev p (tLst tr) σ H C := fun H1 i g Q q =>
  h H1 i g _ fun vs H2 i2 g2 os => ⟨by rw [os.len]; exact hn, fun a ha => q _ _ (i2.new ha) (g2.trans (Gr.new ha)) (hr vs a _ (i2.new ha) ((g.trans g2).trans (Gr.new ha)) (os.st (Gr.new ha)) (i2.ne ha) upd_same)⟩

/-! ### tests -/
theorem t_test {B : Bool → Prop} (h : Ev p te σ H (sb B)) : EvT p (tTest te) σ H B := fun H1 i g Q q => h H1 i g _ fun v H2 i2 g2 ⟨b, e, hb⟩ => ⟨b, e, q b H2 i2 g2 hb⟩
theorem t_b {B : Bool → Prop} (h : Ev p te σ H (sb B)) : EvT p (tB te) σ H B := fun H1 i g Q q => h H1 i g _ fun v H2 i2 g2 ⟨b, e, hb⟩ => ⟨b, e, q b H2 i2 g2 hb⟩
theorem EvT.mono {B : Bool → Prop} (h : EvT p t σ H B) (e : Gr p H H') : EvT p t σ H' B := fun H1 i g Q q => h H1 i (e.trans g) Q q
theorem t_and {B D E : Bool → Prop} (h : EvT p t σ H B) (h1 : B true → EvT p u σ H D) (e0 : B false → E false) (e1 : ∀ b, B true → D b → E b) : EvT p (tAnd t u) σ H E := fun H1 i g Q q => h H1 i g _ fun b H2 i2 g2 hb => by
  cases b with
  | true =>
    show u σ H2 Q
    exact h1 hb H2 i2 (g.trans g2) Q fun c H3 i3 g3 hc => q c H3 i3 (g2.trans g3) (e1 c hb hc)
  | false =>
    show Q false H2
    exact q false H2 i2 g2 (e0 hb)
theorem t_or {B D E : Bool → Prop} (h : EvT p t σ H B) (h1 : B false → EvT p u σ H D) (e0 : B true → E true) (e1 : ∀ b, B false → D b → E b) : EvT p (tOr t u) σ H E := fun H1 i g Q q => h H1 i g _ fun b H2 i2 g2 hb => by
  cases b with
  | false =>
    show u σ H2 Q
    exact h1 hb H2 i2 (g.trans g2) Q fun c H3 i3 g3 hc => q c H3 i3 (g2.trans g3) (e1 c hb hc)
  | true =>
    show Q true H2
    exact q true H2 i2 g2 (e0 hb)
theorem t_not {B : Bool → Prop} (h : EvT p t σ H B) : EvT p (tNot t) σ H (fun b => B (!b)) := fun H1 i g Q q => h H1 i g _ fun b H2 i2 g2 hb => q (!b) H2 i2 g2 (by show B (!(!b)); rw [Bool.not_not]; exact hb)
/-- known answers -/
abbrev Tis (p : Vo) (t : TT) (σ : L2.St) (H : Hp) (b : Bool) : Prop := EvT p t σ H (fun c => c = b)
theorem k_and {a b : Bool} (h : Tis p t σ H a) (h1 : a = true → Tis p u σ H b) : Tis p (tAnd t u) σ H (a && b) := t_and h (fun e => h1 e.symm) (fun e => by rw [← e]; rfl) fun c e d => by rw [← e, d]; rfl
theorem k_or {a b : Bool} (h : Tis p t σ H a) (h1 : a = false → Tis p u σ H b) : Tis p (tOr t u) σ H (a || b) := t_or h (fun e => h1 e.symm) (fun e => by rw [← e]; rfl) fun c e d => by rw [← e, d]; rfl
theorem k_not {a : Bool} (h : Tis p t σ H a) : Tis p (tNot t) σ H (!a) := (t_not h).imp fun b e => by rw [← e, Bool.not_not]
theorem k_to {a b : Bool} (h : Tis p t σ H a) (e : a = b) : Tis p t σ H b := by rw [← e]; exact h
theorem k_test {b : Bool} (h : Ev p te σ H (sx (.bl b))) : Tis p (tTest te) σ H b := t_test (h.imp fun v _ e => ⟨b, e, rfl⟩)
theorem k_b {b : Bool} (h : Ev p te σ H (sx (.bl b))) : Tis p (tB te) σ H b := t_b (h.imp fun v _ e => ⟨b, e, rfl⟩)
theorem e_if {B : Bool → Prop} (h : EvT p t σ H B) (h1 : B true → Ev p ta σ H A) (h2 : B false → Ev p tb σ H A) : Ev p (tIf t ta tb) σ H A := fun H1 i g Q q => h H1 i g _ fun b H2 i2 g2 hb => by
  cases b with
  | true =>
    show ta σ H2 Q
    exact h1 hb H2 i2 (g.trans g2) Q fun c H3 i3 g3 hc => q c H3 i3 (g2.trans g3) hc
  | false =>
    show tb σ H2 Q
    exact h2 hb H2 i2 (g.trans g2) Q fun c H3 i3 g3 hc => q c H3 i3 (g2.trans g3) hc
/-- and, or, not as values: exact -/
theorem x_and {a b : Bool} (h1 : Ev p ta σ H (sx (.bl a))) (h2 : a = true → Ev p tb σ H (sx (.bl b))) : Ev p (tAndV ta tb) σ H (sx (.bl (a && b))) := fun H1 i g Q q => h1 H1 i g _ fun v H2 i2 g2 e => ⟨a, e, by
  cases a with
  | true =>
    show tb σ H2 Q
    exact h2 rfl H2 i2 (g.trans g2) Q fun c H3 i3 g3 hc => q c H3 i3 (g2.trans g3) hc
  | false =>
    show Q (.bl false) H2
    exact q _ H2 i2 g2 rfl⟩
theorem x_or {a b : Bool} (h1 : Ev p ta σ H (sx (.bl a))) (h2 : a = false → Ev p tb σ H (sx (.bl b))) : Ev p (tOrV ta tb) σ H (sx (.bl (a || b))) := fun H1 i g Q q => h1 H1 i g _ fun v H2 i2 g2 e => ⟨a, e, by
  cases a with
  | false =>
    show tb σ H2 Q
    exact h2 rfl H2 i2 (g.trans g2) Q fun c H3 i3 g3 hc => q c H3 i3 (g2.trans g3) hc
  | true =>
    show Q (.bl true) H2
    exact q _ H2 i2 g2 rfl⟩
theorem x_not {a : Bool} (h1 : Ev p ta σ H (sx (.bl a))) : Ev p (tNotV ta) σ H (sx (.bl (!a))) := fun H1 i g Q q => h1 H1 i g _ fun v H2 i2 g2 e => ⟨a, e, q _ H2 i2 g2 rfl⟩
theorem x_to {w : V} (h : Ev p te σ H (sx v)) (e : v = w) : Ev p te σ H (sx w) := by rw [← e]; exact h
/-- a < b < c -/
theorem x_chain {r r' : R2} {tc : TE} {a b : Bool} (ha : Ev p ta σ H A) (hb : Ev p tb σ H B) (hc : a = true → Ev p tc σ H C)
    (hr : ∀ x y H1, Iv p H1 → Gr p H H1 → A.P x H1 → B.P y H1 → Rv p (r x y) H1 (sx (.bl a))) (hr' : a = true → ∀ y z H1, Iv p H1 → Gr p H H1 → B.P y H1 → C.P z H1 → Rv p (r' y z) H1 (sx (.bl b))) :
    Ev p (tChain r r' ta tb tc) σ H (sx (.bl (a && b))) := fun H1 i g Q q =>
  ha H1 i g _ fun x H2 i2 g2 ax => hb H2 i2 (g.trans g2) _ fun y H3 i3 g3 by_ => hr x y H3 i3 ((g.trans g2).trans g3) (A.st x _ _ g3 ax) by_ _ fun w H4 i4 g4 e => ⟨a, e, by
    cases a with
    | true =>
      show tc σ H4 fun z H5 => r' y z H5 Q
      exact hc rfl H4 i4 (((g.trans g2).trans g3).trans g4) _ fun z H5 i5 g5 cz => hr' rfl y z H5 i5 ((((g.trans g2).trans g3).trans g4).trans g5) (B.st y _ _ (g4.trans g5) by_) cz Q fun w H6 i6 g6 e => q w H6 i6 ((((g2.trans g3).trans g4).trans g5).trans g6) e
    | false =>
      show Q (.bl false) H4
      exact q _ H4 i4 ((g2.trans g3).trans g4) rfl⟩

/-! ### statements -/
variable {D : Ends} {tu tw : TS}
theorem s_asg {i : Nat} (iv : Iv p H) (h : Ev p te σ H A) (k : ∀ v H1, Iv p H1 → Gr p H H1 → A.P v H1 → D.nx (σ.set i (some v)) H1) : tAsg te (gName i) D σ H := h H iv (Gr.refl H) _ k
theorem s_ret (iv : Iv p H) (h : Ev p te σ H A) (k : ∀ v H1, Iv p H1 → Gr p H H1 → A.P v H1 → D.rt v H1) : tRet te D σ H := h H iv (Gr.refl H) _ k
theorem s_if {B : Bool → Prop} (iv : Iv p H) (h : EvT p t σ H B) (h1 : B true → ∀ H1, Iv p H1 → Gr p H H1 → tu D σ H1) (h2 : B false → ∀ H1, Iv p H1 → Gr p H H1 → tw D σ H1) : tIfS t tu tw D σ H := h H iv (Gr.refl H) _ fun b H1 i e hb => by
  cases b with
  | true =>
    show tu D σ H1
    exact h1 hb H1 i e
  | false =>
    show tw D σ H1
    exact h2 hb H1 i e
/-- with a known answer -/
theorem s_ifx {b : Bool} (iv : Iv p H) (h : Tis p t σ H b) (h1 : b = true → ∀ H1, Iv p H1 → Gr p H H1 → tu D σ H1) (h2 : b = false → ∀ H1, Iv p H1 → Gr p H H1 → tw D σ H1) : tIfS t tu tw D σ H :=
  s_if iv h (fun e => h1 e.symm) fun e => h2 e.symm
end

/-! ### operations -/
section
variable {x y : V} {K : PySem.W.Frag}
theorem rv (iv : Iv p H) {r : Hp → VK → Prop} {A : Sy p} {v : V} (a : A.P v H) (h : ∀ Q : VK, Q v H → r H Q) : Rv p r H A := fun Q q => h Q (q v H iv (Gr.refl H) a)
/-- a new object -/
theorem rv_new (iv : Iv p H) {r : Hp → VK → Prop} {A : Sy p} {o : HO} (a : ∀ q, Nv p q → H q = none → Iv p (upd H q o) → Gr p H (upd H q o) → A.P (.ref q) (upd H q o)) (h : ∀ Q : VK, (∀ q, H q = none → Q (.ref q) (upd H q o)) → r H Q) : Rv p r H A :=
  fun Q q => h Q fun a' ha => q _ _ (iv.new ha) (Gr.new ha) (a a' (iv.ne ha) ha (iv.new ha) (Gr.new ha))
end
end Hk
namespace Hk
open PySem PySem.Spec PyProof.Rows L2

/-! ### rules that take either of several readings -/
section
variable {X : Cx}
theorem OpR.or {f : Value → Value → Sem Value} {r r' : R2} (h : OpR X f r) (h' : OpR X f r') : OpR X f (fun x y H Q => r x y H Q ∨ r' x y H Q) := by
  intro pins s σ H x y v u Q I rx ry q
  rcases q with q | q
  · exact h pins s σ H x y v u Q I rx ry q
  · exact h' pins s σ H x y v u Q I rx ry q
def rAddS : R2 := fun x y H Q => ∃ i j, x = .str i ∧ y = .str j ∧ i.length + j.length ≤ sizeLine ∧ Q (.str (i ++ j)) H
def rAddI : R2 := fun x y H Q => ∃ i j, x = .int i ∧ y = .int j ∧ Q (.int (i + j)) H
def rAddU : R2 := fun x y H Q => rAddI x y H Q ∨ rAddS x y H Q ∨ rCat x y H Q
theorem op_addU : OpR X (binaryOp .Add) rAddU := OpR.or (show OpR X (binaryOp .Add) rAddI from op_add) (OpR.or (show OpR X (binaryOp .Add) rAddS from op_add_str) (show OpR X (binaryOp .Add) rCat from op_cat))
def rMulI : R2 := rI CMul fun i j => .int (i * j)
def rMulS : R2 := fun x y H Q => ∃ z n, x = .str z ∧ y = .int n ∧ MulOk z n ∧ Q (.str (Txt.mul z n)) H
theorem op_mulS : OpR X (binaryOp .Mult) rMulS := by
  intro pins s σ H x y v u Q I rx ry h
  obtain ⟨z, n, rfl, rfl, ok, q⟩ := h
  obtain ⟨t, rfl⟩ := rx
  obtain ⟨t', rfl⟩ := ry
  exact SB.mul ok fun t' k => ⟨.str _, H, I.tok _, ⟨_, rfl⟩, q⟩
def rMulU : R2 := fun x y H Q => rMulI x y H Q ∨ rMulS x y H Q
theorem op_mulU : OpR X (binaryOp .Mult) rMulU := OpR.or (show OpR X (binaryOp .Mult) rMulI from op_mul) op_mulS
def CPw (i j : Int) : Prop := 0 ≤ j ∧ (Builtin.Int.intBits i : Int) * j ≤ 2 ^ 27
def rPow : R2 := rI CPw fun i j => .int (i ^ j.toNat)
theorem op_powW : OpR X (binaryOp .Pow) rPow := opI fun _ _ _ _ _ _ _ hc q => pow_int hc.1 hc.2 q
def rLeI : R2 := fun x y H Q => ∃ i j, x = .int i ∧ y = .int j ∧ Q (.bl (decide (i ≤ j))) H
def rLeS : R2 := fun x y H Q => ∃ i j : Str, x = .str i ∧ y = .str j ∧ Q (.bl (!decide (j.cps.toList < i.cps.toList))) H
def rLeU : R2 := fun x y H Q => rLeI x y H Q ∨ rLeS x y H Q
theorem op_leU : OpR X (compareOp .LtE) rLeU := OpR.or (show OpR X (compareOp .LtE) rLeI from op_le) (show OpR X (compareOp .LtE) rLeS from op_le_str)
def rInS' : R2 := fun x y H Q => ∃ (c : Nat) (z : Str), x = .str ⟨#[c]⟩ ∧ y = .str z ∧ Q (.bl (decide (c ∈ z.cps.toList))) H
def rNinS' : R2 := fun x y H Q => ∃ (c : Nat) (z : Str), x = .str ⟨#[c]⟩ ∧ y = .str z ∧ Q (.bl (!decide (c ∈ z.cps.toList))) H
def rInU (K : PySem.W.Frag) : R2 := fun x y H Q => rInS' x y H Q ∨ rIn K false x y H Q
def rNinU (K : PySem.W.Frag) : R2 := fun x y H Q => rNinS' x y H Q ∨ rIn K true x y H Q
theorem op_inU : OpR X (compareOp .In) (rInU X.K) := OpR.or (show OpR X (compareOp .In) rInS' from op_in_sign) op_in_seq
theorem op_ninU : OpR X (compareOp .NotIn) (rNinU X.K) := OpR.or (show OpR X (compareOp .NotIn) rNinS' from op_notIn_sign) op_notIn_seq
def rSlU (K : PySem.W.Frag) : V → Option Int → Option Int → Hp → VK → Prop := fun x lo hi H Q => rSlT K x lo hi H Q ∨ rSlS x lo hi H Q
theorem sl_U : SlR X (rSlU X.K) := SlR.or sl_tup sl_str
def rDm : List V → Hp → VK → Prop := fun xs H Q => ∃ i j, xs = [.int i, .int j] ∧ (0 < j ∧ j < 1073741824) ∧ ∀ p, H p = none → Q (.ref p) (upd H p (.tup [.int (i / j), .int (i % j)]))
theorem call_divmodS : CallR X (.builtin "divmod") rDm := by
  intro pins s σ H xs us Q I r h
  obtain ⟨i, j, e, ⟨h1, h2⟩, q⟩ := h
  exact call_divmodW pins s σ H xs us Q I r ⟨i, j, e, ⟨h1, PyProof.noPylong_small (by omega)⟩, q⟩

/-! ### repr of a list, a tuple of truths and texts -/
inductive FlatD : V → PyData → Prop where
  | bl (b : Bool) : FlatD (.bl b) (.bool b)
  | str (x : Str) : FlatD (.str x) (.str x)
theorem flat_reads {h : Heap} {v : V} {u : Value} {d : PyData} (f : FlatD v d) (r : RelV v u) : Reads h u d [] := by
  cases f with
  | bl b => cases r; exact .bool b
  | str x => obtain ⟨t, rfl⟩ := r; exact .str x t
theorem flat_readsAll {h : Heap} : ∀ {vs : List V} {us : List Value} {ds : List PyData}, Paired FlatD vs ds → Vals vs us → ReadsAll h us ds []
  | _, _, _, .nil, .nil => .nil
  | _, _, _, .cons f k, .cons r q => .cons (as := []) (bs := []) (flat_reads f r) (flat_readsAll k q)
theorem flat_show {v : V} {d : PyData} (f : FlatD v d) : d.showable = true ∧ d.hasDict = false ∧ d.depth = 0 := by
  cases f <;> refine ⟨by simp only [PyData.showable], by simp only [PyData.hasDict], by simp only [PyData.depth]⟩
theorem flat_showAll : ∀ {vs : List V} {ds : List PyData}, Paired FlatD vs ds → PyData.showableAll ds = true ∧ PyData.hasDictAll ds = false ∧ PyData.depthAll ds = 0
  | _, _, .nil => ⟨by simp only [PyData.showableAll], by simp only [PyData.hasDictAll], by simp only [PyData.depthAll]⟩
  | _, _, .cons f k => by
    obtain ⟨a1, a2, a3⟩ := flat_show f
    obtain ⟨b1, b2, b3⟩ := flat_showAll k
    refine ⟨by simp only [PyData.showableAll, a1, b1, Bool.and_self], by simp only [PyData.hasDictAll, a2, b2, Bool.or_self], by simp only [PyData.depthAll, a3, b3] <;> rfl⟩
def rRepr (K : PySem.W.Frag) : List V → Hp → VK → Prop := fun xs H Q => ∃ (a : Addr) (vs : List V) (ds : List PyData), xs = [.ref a] ∧ Paired FlatD vs ds ∧
  ((SqL K H a vs ∧ (PyData.list ds).shown.length ≤ sizeLine ∧ Q (.str (PyData.list ds).shown) H) ∨ (SqT K H a vs ∧ (PyData.tuple ds).shown.length ≤ sizeLine ∧ Q (.str (PyData.tuple ds).shown) H))

theorem call_reprU (hg : X.A.guards = some []) (hu : X.A.units + 3 < cLine) : CallR X (.builtin "repr") (rRepr X.K) := by
  intro pins s σ H xs us Q I r h
  obtain ⟨a, vs, ds, rfl, f, h⟩ := h
  obtain ⟨u, rfl, rx⟩ := vals1 r
  cases (show u = Value.ref a from rx)
  obtain ⟨w1, w2, w3⟩ := flat_showAll f
  rcases h with ⟨hl, hz, q⟩ | ⟨ht, hz, q⟩
  · obtain ⟨its, rv, ⟨o, n, e1, e2, _, e4⟩, _⟩ := I.list hl
    have rd : Reads s.heap (.ref a) (.list ds) (a :: []) := .list e1 e2 e4 (by simpa using flat_readsAll f rv)
    refine repr_of_reads' rd (by simp only [PyData.showable, w1]) (PyData.noDict_hsm (by simp only [PyData.hasDict, w2])) hg ?_ (fun _ _ e => e) (fun h' t tk hk => ?_) hz
    · have e : (PyData.list ds).depth = 1 := by
        simp only [PyData.depth, w3]
      omega
    · exact ⟨.str _, H, I.kept hk, ⟨_, rfl⟩, q⟩
  · obtain ⟨its, rv, ⟨o, e1, e2, n, e4⟩, _⟩ := I.tuple ht
    have rd : Reads s.heap (.ref a) (.tuple ds) [] := .tuple e1 e2 e4 (by simpa using flat_readsAll f rv)
    refine repr_of_reads' rd (by simp only [PyData.showable, w1]) (PyData.noDict_hsm (by simp only [PyData.hasDict, w2])) hg ?_ (fun _ _ e => e) (fun h' t tk hk => ?_) hz
    · have e : (PyData.tuple ds).depth = 1 := by
        simp only [PyData.depth, w3]
      omega
    · exact ⟨.str _, H, I.kept hk, ⟨_, rfl⟩, q⟩
end

/-! ### a comprehension over a text -/
theorem lc_str {x : Str} {g : TG} {tt : TT} {te : TE} {vs : List Nat} {σ : L2.St} {H1 : Hp} {D : Addr} {Qd : Hp → Prop} (Pv : Nat → Hp → Prop) (h0 : Pv 0 (upd H1 D (.lst [])))
    (hs : ∀ i c H, x.cps.toList[i]? = some c → Pv i H → g (.str ⟨#[c]⟩) (wipe σ vs) H fun σ2 H2 => wipe σ2 vs = wipe σ vs ∧ tt σ2 H2 fun b H3 =>
      if b = true then te σ2 H3 fun y H4 => ∃ acc, H4 D = some (.lst acc) ∧ acc.length < sizeLine ∧ Pv (i + 1) (upd H4 D (.lst (acc ++ [y]))) else Pv (i + 1) H3) (hd : ∀ H, Pv x.cps.size H → Qd H) :
    ∃ W : Nat → Nat → Hp → Prop, (∃ m, W 0 m (upd H1 D (.lst []))) ∧ ∀ i m H, W i m H →
      ((Its x).stop i H ∧ Qd H) ∨ ((Its x).go i H ∧ ∃ Nx : Hp → Prop, (∀ H', Nx H' → ∃ m', m' < m ∧ W (i + 1) m' H') ∧ ∀ v H', (Its x).yld i H v H' → g v (wipe σ vs) H' fun σ2 H2 => wipe σ2 vs = wipe σ vs ∧ tt σ2 H2 fun b H3 =>
        if b = true then te σ2 H3 fun y H4 => ∃ acc, H4 D = some (.lst acc) ∧ acc.length < sizeLine ∧ Nx (upd H4 D (.lst (acc ++ [y]))) else Nx H3) := by
  refine ⟨fun i m H => m = x.cps.size - i ∧ i ≤ x.cps.size ∧ Pv i H, ⟨_, rfl, Nat.zero_le _, h0⟩, fun i m H hw => ?_⟩
  obtain ⟨em, hi, pw⟩ := hw
  by_cases hlt : i < x.cps.size
  · refine .inr ⟨hlt, Pv (i + 1), fun H' n => ⟨x.cps.size - (i + 1), by omega, rfl, hlt, n⟩, fun v H' hy => ?_⟩
    obtain ⟨rfl, c, hc, rfl⟩ := hy
    exact hs i c _ (by rw [Array.getElem?_toList]; exact hc) pw
  · have e : i = x.cps.size := by omega
    subst e
    exact .inl ⟨Nat.le_refl _, hd H pw⟩

/-! ### comprehensions, by what is said of the items made: the list that is made, turn by turn -/
section
variable {p : Vo} {σ : L2.St} {H : Hp} {K : PySem.W.Frag}
/-- C i acc H: the first i turns gave acc; it is not hurt by the list's own growing -/
structure Grows (p : Vo) (C : Nat → List V → Hp → Prop) : Prop where
  st : ∀ i acc H1 H2, Gr p H1 H2 → C i acc H1 → C i acc H2
/-- what stands behind i turns -/
def Cw (p : Vo) (H : Hp) (D : Addr) (C : Nat → List V → Hp → Prop) (i : Nat) (H' : Hp) : Prop :=
  Iv p H' ∧ H D = none ∧ Nv p D ∧ Gr p H H' ∧ ∃ acc, H' D = some (.lst acc) ∧ acc.length = i ∧ C i acc H'
/-- what an item's evaluation gives while the list at D is being made: said over one more object that may change -/
theorem cw_turn {C : Nat → List V → Hp → Prop} {D : Addr} (st : ∀ o i acc H1 H2, Gr (p.and D o) H1 H2 → C i acc H1 → C i acc H2) {i : Nat} {te : TE} {σ2 : L2.St} {A : ∀ q : Vo, Sy q} {H' : Hp} (w : Cw p H D C i H') (hi : i < 16000000)
    (he : ∀ o, Ev (p.and D o) te σ2 H (A (p.and D o)))
    (hc : ∀ acc y H1 o, Gr p H H1 → Iv (p.and D o) H1 → acc.length = i → C i acc H1 → (A (p.and D o)).P y H1 → C (i + 1) (acc ++ [y]) H1) :
    tYes σ2 H' fun b H3 => if b = true then te σ2 H3 fun y H4 => ∃ acc, H4 D = some (.lst acc) ∧ acc.length < sizeLine ∧ Cw p H D C (i + 1) (upd H4 D (.lst (acc ++ [y]))) else Cw p H D C (i + 1) H3 := by
  obtain ⟨iv, hD, nD, g, acc, ha, hl, c⟩ := w
  show te σ2 H' fun y H4 => ∃ acc, H4 D = some (.lst acc) ∧ acc.length < sizeLine ∧ Cw p H D C (i + 1) (upd H4 D (.lst (acc ++ [y])))
  have g1 : Gr (p.and D (.lst acc)) H H' := fun b o n h => g b o n.back h
  refine he (.lst acc) H' (iv.and ha nD) g1 _ fun y H4 i4 g4 ay => ?_
  have aD : H4 D = some (.lst acc) := i4.ex (D, .lst acc) List.mem_cons_self
  have g5 : Gr p H' H4 := fun b o n h => by
    by_cases e : D = b
    · rw [← e] at h ⊢
      rw [ha] at h
      rw [aD, ← h]
    · exact g4 b o (n.and e) h
  have g6 : Gr (p.and D (.lst acc)) H4 (upd H4 D (.lst (acc ++ [y]))) := fun b o n h => by
    rw [upd_ne n.ne.symm]
    exact h
  refine ⟨acc, aD, by rw [sizeLine_eq]; omega, i4.back.upd nD, hD, nD, (g.trans g5).mut hD, acc ++ [y], upd_same, by rw [List.length_append, hl]; rfl, ?_⟩
  exact st (.lst acc) _ _ _ _ g6 (hc acc y H4 (.lst acc) (g.trans g5) i4 hl (st (.lst acc) _ _ _ _ g4 c) ay)
theorem cw0 {C : Nat → List V → Hp → Prop} {D : Addr} (iv : Iv p H) (hD : H D = none) (c : C 0 [] (upd H D (.lst []))) : Cw p H D C 0 (upd H D (.lst [])) :=
  ⟨iv.new hD, hD, iv.ne hD, Gr.new hD, [], upd_same, rfl, c⟩
/-- the result: a new list of what C says -/
def sC (C : Nat → List V → Hp → Prop) (n : Nat) (st : ∀ acc H1 H2, Gr p H1 H2 → C n acc H1 → C n acc H2) : Sy p := sl (fun vs H => vs.length = n ∧ C n vs H) fun vs H1 H2 e h => ⟨h.1, st vs H1 H2 e h.2⟩

variable {te ta tb : TE} {tr : TA} {j : Nat} {vs : List Nat} {A : Nat → ∀ q : Vo, Sy q} {B : Sy p}
/-- over a text -/
theorem lcS {x : Str} (C : Nat → List V → Hp → Prop) (hx : Ev p ta σ H (sx (.str x))) (hz : x.cps.size < 16000000) (st : ∀ D o i acc H1 H2, Gr (p.and D o) H1 H2 → C i acc H1 → C i acc H2) (st' : ∀ acc H1 H2, Gr p H1 H2 → C x.cps.size acc H1 → C x.cps.size acc H2)
    (hw : ∀ x, wipe ((wipe σ vs).set j (some x)) vs = wipe σ vs) (c0 : ∀ H1, C 0 [] H1)
    (he : ∀ (i c : Nat) D o, x.cps.toList[i]? = some c → Ev (p.and D o) te ((wipe σ vs).set j (some (.str ⟨#[c]⟩))) H (A i (p.and D o)))
    (hc : ∀ (i c : Nat) acc y H1 D o, x.cps.toList[i]? = some c → Gr p H H1 → Iv (p.and D o) H1 → acc.length = i → C i acc H1 → (A i (p.and D o)).P y H1 → C (i + 1) (acc ++ [y]) H1) :
    Ev p (tLc (iStr ta) (gName j) tYes te vs) σ H (sC C x.cps.size st') := fun H0 i0 g0 Q q =>
  hx H0 i0 g0 _ fun v H1 i1 g1 e => ⟨x, e, fun D hD => lc_str (x := x) (Cw p H1 D C) (cw0 i1 hD (c0 _)) (fun i c H' hi w =>
    ⟨hw _, cw_turn (A := A i) (st D) w (by have := (List.getElem?_eq_some_iff.mp hi).1; rw [Array.length_toList] at this; omega) (fun o => (he i c D o hi).mono fun b ob n h => (g0.trans g1) b ob n.back h) fun acc y H2 o g2 i2 hl c2 ay => hc i c acc y H2 D o hi ((g0.trans g1).trans g2) i2 hl c2 ay⟩)
    fun H' w => q _ H' w.1 (g1.trans w.2.2.2.1) (by obtain ⟨_, _, nD, _, acc, ha, hl, c⟩ := w; exact ⟨D, acc, rfl, nD, ha, hl, c⟩)⟩
/-- over a tuple -/
theorem lcT {xs : List V} (C : Nat → List V → Hp → Prop) (hx : Ev p ta σ H B) (hB : ∀ v H1, Gr p H H1 → B.P v H1 → ∃ a, v = .ref a ∧ Nv p a ∧ H1 a = some (.tup xs)) (hz : xs.length < 16000000) (st : ∀ D o i acc H1 H2, Gr (p.and D o) H1 H2 → C i acc H1 → C i acc H2) (st' : ∀ acc H1 H2, Gr p H1 H2 → C xs.length acc H1 → C xs.length acc H2)
    (hw : ∀ x, wipe ((wipe σ vs).set j (some x)) vs = wipe σ vs) (c0 : ∀ H1, C 0 [] H1)
    (he : ∀ (i : Nat) (x : V) D o H1, Gr p H H1 → H1 D = none → xs[i]? = some x → Ev (p.and D o) te ((wipe σ vs).set j (some x)) H1 (A i (p.and D o)))
    (hc : ∀ (i : Nat) (x : V) acc y H1 D o, xs[i]? = some x → Gr p H H1 → Iv (p.and D o) H1 → acc.length = i → C i acc H1 → (A i (p.and D o)).P y H1 → C (i + 1) (acc ++ [y]) H1) :
    Ev p (tLc (iTup K ta) (gName j) tYes te vs) σ H (sC C xs.length st') := fun H0 i0 g0 Q q =>
  hx H0 i0 g0 _ fun v H1 i1 g1 bv => by
    obtain ⟨a, rfl, na, ha⟩ := hB v H1 (g0.trans g1) bv
    refine ⟨a, rfl, ⟨xs, SqT.of ha⟩, fun D hD => lc_tup (xs := xs) (Cw p H1 D C) (cw0 i1 hD (c0 _)) (fun i H' _ w => SqT.of (w.2.2.2.1 a _ na ha)) (fun i x H' hi w => ?_) fun H' w => q _ H' w.1 (g1.trans w.2.2.2.1) (by obtain ⟨_, _, nD, _, acc, ha, hl, c⟩ := w; exact ⟨D, acc, rfl, nD, ha, hl, c⟩)⟩
    exact ⟨hw _, cw_turn (A := A i) (st D) w (by have := (List.getElem?_eq_some_iff.mp hi).1; omega) (fun o => he i x D o H1 (g0.trans g1) hD hi) fun acc y H2 o g2 i2 hl c2 ay => hc i x acc y H2 D o hi ((g0.trans g1).trans g2) i2 hl c2 ay⟩
/-- over a list that stands still -/
theorem lcL {xs : List V} (C : Nat → List V → Hp → Prop) (hx : Ev p ta σ H B) (hB : ∀ v H1, Gr p H H1 → B.P v H1 → ∃ a, v = .ref a ∧ Nv p a ∧ H1 a = some (.lst xs)) (hz : xs.length < 16000000) (st : ∀ D o i acc H1 H2, Gr (p.and D o) H1 H2 → C i acc H1 → C i acc H2) (st' : ∀ acc H1 H2, Gr p H1 H2 → C xs.length acc H1 → C xs.length acc H2)
    (hw : ∀ x, wipe ((wipe σ vs).set j (some x)) vs = wipe σ vs) (c0 : ∀ H1, C 0 [] H1)
    (he : ∀ (i : Nat) (x : V) D o H1, Gr p H H1 → H1 D = none → xs[i]? = some x → Ev (p.and D o) te ((wipe σ vs).set j (some x)) H1 (A i (p.and D o)))
    (hc : ∀ (i : Nat) (x : V) acc y H1 D o, xs[i]? = some x → Gr p H H1 → Iv (p.and D o) H1 → acc.length = i → C i acc H1 → (A i (p.and D o)).P y H1 → C (i + 1) (acc ++ [y]) H1) :
    Ev p (tLc (iList K ta) (gName j) tYes te vs) σ H (sC C xs.length st') := fun H0 i0 g0 Q q =>
  hx H0 i0 g0 _ fun v H1 i1 g1 bv => by
    obtain ⟨a, rfl, na, ha⟩ := hB v H1 (g0.trans g1) bv
    refine ⟨a, rfl, ⟨xs, SqL.of ha⟩, fun D hD => lc_list (xs := xs) (Cw p H1 D C) (cw0 i1 hD (c0 _)) (fun i H' _ w => SqL.of (w.2.2.2.1 a _ na ha)) (fun i x H' hi w => ?_) fun H' w => q _ H' w.1 (g1.trans w.2.2.2.1) (by obtain ⟨_, _, nD, _, acc, ha, hl, c⟩ := w; exact ⟨D, acc, rfl, nD, ha, hl, c⟩)⟩
    exact ⟨hw _, cw_turn (A := A i) (st D) w (by have := (List.getElem?_eq_some_iff.mp hi).1; omega) (fun o => he i x D o H1 (g0.trans g1) hD hi) fun acc y H2 o g2 i2 hl c2 ay => hc i x acc y H2 D o hi ((g0.trans g1).trans g2) i2 hl c2 ay⟩
/-- over range(n) -/
theorem lcR {lo : Int} {n : Nat} (C : Nat → List V → Hp → Prop) {D : Addr} (st : ∀ o i acc H1 H2, Gr (p.and D o) H1 H2 → C i acc H1 → C i acc H2) (hz : n < 16000000)
    (hw : ∀ x, wipe ((wipe σ vs).set j (some x)) vs = wipe σ vs) (c0 : ∀ H1, C 0 [] H1) {H1 : Hp} (i1 : Iv p H1) (hD : H1 D = none)
    (he : ∀ i o, i < n → Ev (p.and D o) te ((wipe σ vs).set j (some (.int (lo + (i : Nat))))) H1 (A i (p.and D o)))
    (hc : ∀ i acc y H2 o, i < n → Gr p H1 H2 → Iv (p.and D o) H2 → acc.length = i → C i acc H2 → (A i (p.and D o)).P y H2 → C (i + 1) (acc ++ [y]) H2) {Qd : Hp → Prop} (hd : ∀ H', Cw p H1 D C n H' → Qd H') :
    ∃ W : Nat → Nat → Hp → Prop, (∃ m, W 0 m (upd H1 D (.lst []))) ∧ ∀ i m H, W i m H →
      ((Itr lo n).stop i H ∧ Qd H) ∨ ((Itr lo n).go i H ∧ ∃ Nx : Hp → Prop, (∀ H', Nx H' → ∃ m', m' < m ∧ W (i + 1) m' H') ∧ ∀ x H', (Itr lo n).yld i H x H' → gName j x (wipe σ vs) H' fun σ2 H2 => wipe σ2 vs = wipe σ vs ∧ tYes σ2 H2 fun b H3 =>
        if b = true then te σ2 H3 fun y H4 => ∃ acc, H4 D = some (.lst acc) ∧ acc.length < sizeLine ∧ Nx (upd H4 D (.lst (acc ++ [y]))) else Nx H3) :=
  lc_range (lo := lo) (n := n) (Cw p H1 D C) (cw0 i1 hD (c0 _)) (fun i H' hi w => ⟨hw _, cw_turn (A := A i) st w (by omega) (fun o => he i o hi) fun acc y H2 o g2 i2 hl c2 ay => hc i acc y H2 o hi g2 i2 hl c2 ay⟩) hd
theorem lcR1 {n : Int} (hn0 : 0 ≤ n) (hn : n < 16000000) (C : Nat → List V → Hp → Prop) (hx : Ev p ta σ H (sx (.int n))) (st : ∀ D o i acc H1 H2, Gr (p.and D o) H1 H2 → C i acc H1 → C i acc H2) (st' : ∀ acc H1 H2, Gr p H1 H2 → C n.toNat acc H1 → C n.toNat acc H2)
    (hw : ∀ x, wipe ((wipe σ vs).set j (some x)) vs = wipe σ vs) (c0 : ∀ H1, C 0 [] H1)
    (he : ∀ (i : Nat) D o H1, Gr p H H1 → H1 D = none → i < n.toNat → Ev (p.and D o) te ((wipe σ vs).set j (some (.int (0 + (i : Nat))))) H1 (A i (p.and D o)))
    (hc : ∀ i acc y H2 D o, i < n.toNat → Gr p H H2 → Iv (p.and D o) H2 → acc.length = i → C i acc H2 → (A i (p.and D o)).P y H2 → C (i + 1) (acc ++ [y]) H2) :
    Ev p (tLc (iRng1 (tCons ta tNil)) (gName j) tYes te vs) σ H (sC C n.toNat st') := fun H0 i0 g0 Q q =>
  hx H0 i0 g0 _ fun v H1 i1 g1 e => ⟨n, by rw [show v = .int n from e], by omega, by omega, fun D hD => lcR (lo := 0) (A := A) C (st D) (by omega) hw c0 i1 hD (fun i o hi => he i D o H1 (g0.trans g1) hD hi) (fun i acc y H2 o hi g2 i2 hl c2 ay => hc i acc y H2 D o hi ((g0.trans g1).trans g2) i2 hl c2 ay)
    fun H' w => q _ H' w.1 (g1.trans w.2.2.2.1) (by obtain ⟨_, _, nD, _, acc, ha, hl, c⟩ := w; exact ⟨D, acc, rfl, nD, ha, hl, c⟩)⟩
end

/-! ### defs by their names -/
/-- a def of the module that may be called by its name: it keeps the promise sp, by at most level k -/
structure Ca (P : Program) (w : World) (K : PySem.W.Frag) (mg : Str → Option Value) (base : Heap) (k : Nat) (x : Str) (sp : Sp) : Prop where
  ex : ∃ (f : Addr) (fd : FuncData) (ps : List Str), FnOk P w K mg base CX0 k f fd ps sp ∧ mg x = some (.ref f) ∧ PySem.W.keepIn K (.ref f) = true ∧ Binds K fd ps []
/-- a def as the top leaves it -/
structure Df (K : PySem.W.Frag) (mg : Str → Option Value) (x : Str) (st : Stmt) : Prop where
  ex : ∃ (f : Addr) (fd : FuncData), Fun K x x st f fd ∧ mg x = some (.ref f)
section
variable {X : Cx} {k : Nat} {x : Str} {sp : Sp} {p pos : Pos} {e : Expr} {es : List Expr} {t : TA}
theorem pe_ca (c : Ca X.prog X.w X.K X.mg X.base k x sp) (hr : Room k X.A) (hg : Gl X x) (ha : PA X (e :: es) t)
    (hdb : (x == ("__debug__" : Str)) = false := by decide) (he : starEach (e :: es) X.env = (false, eval e X.env) :: starEach es X.env := by rfl) (hpl : (backTo pos (starEach es X.env)).any (·.1) = false := by rfl) :
    PE X (.Call (.Name x p) (e :: es) [] pos) (tCall sp [] E0 t) := by
  obtain ⟨f, fd, ps, F, hm, kp, b⟩ := c.ex
  exact pe_call F hr hg hm kp b .nil pass0 ha hdb he hpl
theorem pe_ca0 (c : Ca X.prog X.w X.K X.mg X.base k x sp) (hr : Room k X.A) (hg : Gl X x) (hdb : (x == ("__debug__" : Str)) = false := by decide) : PE X (.Call (.Name x p) [] [] pos) (tCall sp [] E0 tNil) := by
  obtain ⟨f, fd, ps, F, hm, kp, b⟩ := c.ex
  exact pe_call0 F hr hg hm kp b .nil pass0 hdb
end
section
variable {P : Program} {w : World} {K : PySem.W.Frag} {mg : Str → Option Value} {base : Heap}
theorem ca_mk {x : Str} {st : Stmt} {N ps : List Str} {k : Nat} {sp : Sp} (F : Df K mg x st) (S : FnScope N ps (defScope st))
    (hb : ∀ (kV doc pm : Value) (an : Option Addr) (cdv ct : Value) (us : List Value), us.length = ps.length → bindArgs (PySem.W.fnOf x x (defArgs st) (defBody st) (defScope st) .none kV doc pm an cdv ct) ⟨us, []⟩ = pure (ps.zip us))
    (len : ∀ vs H Q E, sp vs H Q E → vs.length = ps.length)
    (hbody : ∀ (f : Addr) (cdv : Value) (A : Around) (outer : List Env) (s : Shared) (H : Hp) (vs : List V) (Q : VK) (E : XK), Room k (A.deeper (envOfC x (defScope st) s.heap.objs.size f cdv)) → sp vs H Q E →
      ∃ t, PSs (cxOf CX0 P w K mg base N x (defScope st) f cdv A outer s H E).nox (defBody st) t ∧ t { nx := fun _ H' => Q .non H', rt := Q } (start N vs) H) : Ca P w K mg base (k + 1) x sp := by
  obtain ⟨f, fd, F, hm⟩ := F.ex
  exact ⟨f, fd, ps, F.ok S len (fun cdv A outer s H vs Q E hr h => hbody f cdv A outer s H vs Q E hr h), hm, F.kp, F.binds hb⟩
end
end Hk
namespace Hk
open PySem PySem.Spec PyProof.Rows L2

def rLenK (K : PySem.W.Frag) : List V → Hp → VK → Prop := fun xs H Q => ∃ x n, xs = [x] ∧ LenV K x H n ∧ Q (.int n) H
section
variable {p : Vo} {σ : L2.St} {H : Hp} {K : PySem.W.Frag} {te ta tb tc : TE} {tr : TA} {j : Nat} {vs : List Nat} {B C : Sy p} {v x y : V}
/-! ### comprehensions with known items -/
theorem take_turn {ys acc : List V} {i : Nat} {y : V} (h : acc = ys.take i) (hy : ys[i]? = some y) : acc ++ [y] = ys.take (i + 1) := by
  rw [h, List.take_add_one, hy]
  rfl
theorem slx_of {ys : List V} {n : Nat} (hn : n = ys.length) {st} {v : V} {H1 : Hp} (h : (sC (p := p) (fun i acc _ => acc = ys.take i) n st).P v H1) : (slx (p := p) ys).P v H1 := by
  obtain ⟨a, ws, e1, e2, e3, e4, e5⟩ := h
  refine ⟨a, ws, e1, e2, e3, ?_⟩
  rw [e5, hn, List.take_length]
theorem lcSx {z : Str} (f : Nat → V) (hx : Ev p ta σ H (sx (.str z))) (hz : z.cps.size < 16000000) (hw : ∀ x, wipe ((wipe σ vs).set j (some x)) vs = wipe σ vs)
    (he : ∀ (c : Nat) (q : Vo) H1, c ∈ z.cps.toList → Ev q te ((wipe σ vs).set j (some (.str ⟨#[c]⟩))) H1 (sx (f c))) : Ev p (tLc (iStr ta) (gName j) tYes te vs) σ H (slx (z.cps.toList.map f)) :=
  (lcS (A := fun i q => ⟨fun y _ => (z.cps.toList.map f)[i]? = some y, fun _ _ _ _ h => h⟩) (fun i acc _ => acc = (z.cps.toList.map f).take i) hx hz (fun _ _ _ _ _ _ _ h => h) (fun _ _ _ _ h => h) hw (fun _ => rfl)
    (fun i c D o hi => (he c _ H (List.mem_of_getElem? hi)).imp fun y _ e => by rw [show y = f c from e, List.getElem?_map, hi]; rfl) (fun i c acc y H1 D o hi g iv hl ha hy => take_turn ha hy)).imp fun v H1 h => slx_of (by rw [List.length_map, Array.length_toList]) h
theorem lcTx {xs ys : List V} (hx : Ev p ta σ H B) (hB : ∀ v H1, Gr p H H1 → B.P v H1 → ∃ a, v = .ref a ∧ Nv p a ∧ H1 a = some (.tup xs)) (hz : xs.length < 16000000) (hl : ys.length = xs.length) (hw : ∀ x, wipe ((wipe σ vs).set j (some x)) vs = wipe σ vs)
    (he : ∀ (i : Nat) (x y : V) D o H1, Gr p H H1 → H1 D = none → xs[i]? = some x → ys[i]? = some y → Ev (p.and D o) te ((wipe σ vs).set j (some x)) H1 (sx y)) : Ev p (tLc (iTup K ta) (gName j) tYes te vs) σ H (slx ys) :=
  (lcT (A := fun i q => ⟨fun y _ => ys[i]? = some y, fun _ _ _ _ h => h⟩) (fun i acc _ => acc = ys.take i) hx hB hz (fun _ _ _ _ _ _ _ h => h) (fun _ _ _ _ h => h) hw (fun _ => rfl)
    (fun i x D o H1 g hD hi => by
      have h2 : i < ys.length := by rw [hl]; exact (List.getElem?_eq_some_iff.mp hi).1
      exact (he i x ys[i] D o H1 g hD hi (List.getElem?_eq_getElem h2)).imp fun y _ e => by rw [show y = ys[i] from e]; exact List.getElem?_eq_getElem h2) (fun i c acc y H1 D o hi g iv hl ha hy => take_turn ha hy)).imp fun v H1 h => slx_of hl.symm h
theorem lcLx {xs ys : List V} (hx : Ev p ta σ H B) (hB : ∀ v H1, Gr p H H1 → B.P v H1 → ∃ a, v = .ref a ∧ Nv p a ∧ H1 a = some (.lst xs)) (hz : xs.length < 16000000) (hl : ys.length = xs.length) (hw : ∀ x, wipe ((wipe σ vs).set j (some x)) vs = wipe σ vs)
    (he : ∀ (i : Nat) (x y : V) D o H1, Gr p H H1 → H1 D = none → xs[i]? = some x → ys[i]? = some y → Ev (p.and D o) te ((wipe σ vs).set j (some x)) H1 (sx y)) : Ev p (tLc (iList K ta) (gName j) tYes te vs) σ H (slx ys) :=
  (lcL (A := fun i q => ⟨fun y _ => ys[i]? = some y, fun _ _ _ _ h => h⟩) (fun i acc _ => acc = ys.take i) hx hB hz (fun _ _ _ _ _ _ _ h => h) (fun _ _ _ _ h => h) hw (fun _ => rfl)
    (fun i x D o H1 g hD hi => by
      have h2 : i < ys.length := by rw [hl]; exact (List.getElem?_eq_some_iff.mp hi).1
      exact (he i x ys[i] D o H1 g hD hi (List.getElem?_eq_getElem h2)).imp fun y _ e => by rw [show y = ys[i] from e]; exact List.getElem?_eq_getElem h2) (fun i c acc y H1 D o hi g iv hl ha hy => take_turn ha hy)).imp fun v H1 h => slx_of hl.symm h
theorem x_all {bs : List Bool} (h : Ev p ta σ H (slx (bs.map V.bl))) : Ev p (tCB (rAll K) (tCons ta tNil)) σ H (sx (.bl (bs.all id))) := e_cb (a_cons h a_nil) fun vs H1 iv g os => by
  obtain ⟨v, ws, rfl, ⟨a, zs, rfl, na, ha, rfl⟩, rfl⟩ := os
  exact rv iv rfl fun Q q => ⟨a, bs, rfl, SqL.of ha, q⟩

/-! ### operations on known values -/
theorem x_inS {c : Nat} {z : Str} (ha : Ev p ta σ H (sx (.str ⟨#[c]⟩))) (hb : Ev p tb σ H (sx (.str z))) : Ev p (tOp (rInU K) ta tb) σ H (sx (.bl (decide (c ∈ z.cps.toList)))) :=
  e_op ha hb fun x y H1 iv g ex ey => rv iv rfl fun Q q => .inl ⟨c, z, ex, ey, q⟩
/-- x in, not in a list or a tuple of flat things -/
theorem x_inQ {xs : List V} (ha : Ev p ta σ H (sx v)) (hv : flatV v = true) (hb : Ev p tb σ H B) (hB : ∀ v H1, Gr p H H1 → B.P v H1 → ∃ a, v = .ref a ∧ (SqL K H1 a xs ∨ SqT K H1 a xs)) (hf : xs.all flatV = true) : Ev p (tOp (rInU K) ta tb) σ H (sx (.bl (inV v xs))) :=
  e_op ha hb fun x y H1 iv g ex ey => by
    obtain ⟨a, rfl, h⟩ := hB y H1 g ey
    obtain rfl : x = v := ex
    exact rv iv rfl fun Q q => .inr ⟨a, xs, rfl, h, hv, hf, q⟩
theorem x_ninQ {xs : List V} (ha : Ev p ta σ H (sx v)) (hv : flatV v = true) (hb : Ev p tb σ H B) (hB : ∀ v H1, Gr p H H1 → B.P v H1 → ∃ a, v = .ref a ∧ (SqL K H1 a xs ∨ SqT K H1 a xs)) (hf : xs.all flatV = true) : Ev p (tOp (rNinU K) ta tb) σ H (sx (.bl (!inV v xs))) :=
  e_op ha hb fun x y H1 iv g ex ey => by
    obtain ⟨a, rfl, h⟩ := hB y H1 g ey
    obtain rfl : x = v := ex
    exact rv iv rfl fun Q q => .inr ⟨a, xs, rfl, h, hv, hf, q⟩
theorem x_eq (ha : Ev p ta σ H (sx x)) (hb : Ev p tb σ H (sx y)) (hs : scal x y = true) : Ev p (tOp rEq ta tb) σ H (sx (.bl (decide (x = y)))) :=
  e_op ha hb fun x' y' H1 iv g ex ey => by
    obtain rfl : x' = x := ex
    obtain rfl : y' = y := ey
    exact rv iv rfl fun Q q => ⟨hs, q⟩
theorem x_ne (ha : Ev p ta σ H (sx x)) (hb : Ev p tb σ H (sx y)) (hs : scal x y = true) : Ev p (tOp rNe ta tb) σ H (sx (.bl (!decide (x = y)))) :=
  e_op ha hb fun x' y' H1 iv g ex ey => by
    obtain rfl : x' = x := ex
    obtain rfl : y' = y := ey
    exact rv iv rfl fun Q q => ⟨hs, q⟩
theorem x_ii {g : Int → Int → V} {i j : Int} (ha : Ev p ta σ H (sx (.int i))) (hb : Ev p tb σ H (sx (.int j))) : Ev p (tOp (rI0 g) ta tb) σ H (sx (g i j)) :=
  e_op ha hb fun x' y' H1 iv gg ex ey => rv iv rfl fun Q q => ⟨i, j, ex, ey, q⟩
theorem x_ic {c : Int → Int → Prop} {g : Int → Int → V} {i j : Int} (ha : Ev p ta σ H (sx (.int i))) (hb : Ev p tb σ H (sx (.int j))) (hc : c i j) : Ev p (tOp (rI c g) ta tb) σ H (sx (g i j)) :=
  e_op ha hb fun x' y' H1 iv gg ex ey => rv iv rfl fun Q q => ⟨i, j, ex, ey, hc, q⟩
theorem x_addI {i j : Int} (ha : Ev p ta σ H (sx (.int i))) (hb : Ev p tb σ H (sx (.int j))) : Ev p (tOp rAddU ta tb) σ H (sx (.int (i + j))) :=
  e_op ha hb fun x' y' H1 iv gg ex ey => rv iv rfl fun Q q => .inl ⟨i, j, ex, ey, q⟩
theorem x_addS {i j : Str} (ha : Ev p ta σ H (sx (.str i))) (hb : Ev p tb σ H (sx (.str j))) (hz : i.length + j.length ≤ sizeLine) : Ev p (tOp rAddU ta tb) σ H (sx (.str (i ++ j))) :=
  e_op ha hb fun x' y' H1 iv gg ex ey => rv iv rfl fun Q q => .inr (.inl ⟨i, j, ex, ey, hz, q⟩)
theorem x_neg {i : Int} (ha : Ev p ta σ H (sx (.int i))) : Ev p (tUn (rU fun i => .int (-i)) ta) σ H (sx (.int (-i))) := e_un ha fun x H1 iv g e => rv iv rfl fun Q q => ⟨i, e, q⟩
theorem x_len {s : Str} (ha : Ev p ta σ H (sx (.str s))) (hz : s.length ≤ sizeLine) : Ev p (tCB (rLenK K) (tCons ta tNil)) σ H (sx (.int s.length)) := e_cb (a_cons ha a_nil) fun vs H1 iv g os => by
  obtain ⟨v, ws, rfl, rfl, rfl⟩ := os
  exact rv iv rfl fun Q q => ⟨_, _, rfl, ⟨hz, rfl⟩, q⟩
theorem x_lenQ {xs : List V} (ha : Ev p ta σ H B) (hB : ∀ v H1, Gr p H H1 → B.P v H1 → ∃ a, v = .ref a ∧ (SqL K H1 a xs ∨ SqT K H1 a xs)) : Ev p (tCB (rLenK K) (tCons ta tNil)) σ H (sx (.int xs.length)) := e_cb (a_cons ha a_nil) fun vs H1 iv g os => by
  obtain ⟨v, ws, rfl, hv, rfl⟩ := os
  obtain ⟨a, rfl, h⟩ := hB v H1 g hv
  exact rv iv rfl fun Q q => ⟨_, _, rfl, h.elim (fun h => .inl ⟨xs, h, rfl⟩) fun h => .inr ⟨xs, h, rfl⟩, q⟩
theorem x_isi {a b : String} {r : Bool} (ha : Ev p ta σ H (sx v)) (ht : ∀ H1, Gr p H H1 → TyX K H1 v (.type a)) (hr : kitB a b = some r) : Ev p (tCB (rIsi K) (tCons ta (tCons (tC (.ty b)) tNil))) σ H (sx (.bl r)) :=
  e_cb (a_cons ha (a_cons e_cx a_nil)) fun vs H1 iv g os => by
    obtain ⟨v', ws, rfl, ev, c, ws', rfl, ec, rfl⟩ := os
    obtain rfl : v' = v := ev
    obtain rfl : c = .ty b := ec
    exact rv iv rfl fun Q q => ⟨_, _, _, _, _, rfl, .ty b, ht H1 g, kit_ty hr, q⟩
theorem x_isN (ha : Ev p ta σ H (sx x)) : Ev p (tOp (fun x y H Q => y = .non ∧ Q (.bl (decide (x = .non))) H) ta (tC .non)) σ H (sx (.bl (decide (x = .non)))) :=
  e_op ha e_cx fun x' y' H1 iv g ex ey => by
    obtain rfl : x' = x := ex
    exact rv iv rfl fun Q q => ⟨ey, q⟩
/-- an item of a text, of a list, of a tuple -/
theorem x_ixS {s : Str} {i : Int} {c : Nat} (ha : Ev p ta σ H (sx (.str s))) (hb : Ev p tb σ H (sx (.int i))) (hz : s.length ≤ sizeLine) (hc : atI s.cps.toList i = some c) : Ev p (tOp (rIx K) ta tb) σ H (sx (.str ⟨#[c]⟩)) :=
  e_op ha hb fun x' y' H1 iv g ex ey => rv iv rfl fun Q q => .inr (.inr ⟨s, i, c, ex, ey, hz, hc, q⟩)
theorem x_ixQ {xs : List V} {i : Int} (ha : Ev p ta σ H B) (hB : ∀ v H1, Gr p H H1 → B.P v H1 → ∃ a, v = .ref a ∧ (SqL K H1 a xs ∨ SqT K H1 a xs)) (hb : Ev p tb σ H (sx (.int i))) (hc : atI xs i = some v) : Ev p (tOp (rIx K) ta tb) σ H (sx v) :=
  e_op ha hb fun x' y' H1 iv g ex ey => by
    obtain ⟨a, rfl, h⟩ := hB x' H1 g ex
    exact rv iv rfl fun Q q => h.elim (fun h => .inl ⟨a, xs, i, v, rfl, ey, h, hc, q⟩) fun h => .inr (.inl ⟨a, xs, i, v, rfl, ey, h, hc, q⟩)
/-- a part of a text -/
theorem x_slS {s : Str} {tl th : TO} {lo hi : Option Int} (ha : Ev p ta σ H (sx (.str s))) (hl : ∀ H (Q : Option Int → Hp → Prop), Q lo H → tl σ H Q) (hh : ∀ H (Q : Option Int → Hp → Prop), Q hi H → th σ H Q) (hz : s.length ≤ sizeLine) : Ev p (tSl (rSlU K) ta tl th) σ H (sx (.str (cutS s lo hi))) :=
  fun H1 i g Q q => ha H1 i g _ fun v H2 i2 g2 e => hl H2 _ (hh H2 _ (.inr ⟨s, e, hz, q _ H2 i2 g2 rfl⟩))
/-- a part of a tuple, not the whole of it: a new one -/
theorem x_slT {xs : List V} {tl th : TO} {lo hi : Option Int} (ha : Ev p ta σ H B) (hB : ∀ v H1, Gr p H H1 → B.P v H1 → ∃ a, v = .ref a ∧ SqT K H1 a xs) (hl : ∀ H (Q : Option Int → Hp → Prop), Q lo H → tl σ H Q) (hh : ∀ H (Q : Option Int → Hp → Prop), Q hi H → th σ H Q) (hn : ¬ (HT.sIx xs.length 0 lo = 0 ∧ HT.sIx xs.length xs.length hi = xs.length)) :
    Ev p (tSl (rSlU K) ta tl th) σ H (stx (cutV xs lo hi)) :=
  fun H1 i g Q q => ha H1 i g _ fun v H2 i2 g2 e => by
    obtain ⟨a, rfl, h⟩ := hB v H2 (g.trans g2) e
    exact hl H2 _ (hh H2 _ (.inl ⟨a, xs, rfl, h, hn, fun b hb => q _ _ (i2.new hb) (g2.trans (Gr.new hb)) ⟨b, _, rfl, i2.ne hb, upd_same, rfl⟩⟩))
theorem o_none {H : Hp} {Q : Option Int → Hp → Prop} (q : Q none H) : tNoPart σ H Q := q
theorem o_int {i : Int} {H : Hp} {Q : Option Int → Hp → Prop} (q : Q (some i) H) : tPart (tC (.int i)) σ H Q := ⟨i, rfl, q⟩
theorem o_var {i : Int} {k : Nat} (h : σ[k]? = some (some (.int i))) {H : Hp} {Q : Option Int → Hp → Prop} (q : Q (some i) H) : tPart (tVar k) σ H Q := ⟨.int i, h, i, rfl, q⟩
/-- a display, its items known -/
def xs_ : List V → List (Sy p) := List.map sx
theorem oks_x : ∀ {ws vs : List V} {H : Hp}, Oks (p := p) (ws.map sx) vs H → vs = ws
  | [], _, _, h => h
  | w :: ws, _, _, ⟨v, us, h1, h2, h3⟩ => by rw [h1, oks_x h3, show v = w from h2]
theorem x_lst {ws : List V} (h : EvA p tr σ H (ws.map sx)) (hn : ws.length ≤ sizeLine) : Ev p (tLst tr) σ H (slx ws) := e_lst h (by rw [List.length_map]; exact hn) fun vs a H1 iv g os na ha => ⟨a, vs, rfl, na, ha, oks_x os⟩
theorem x_tup {ws : List V} (h : EvA p tr σ H (ws.map sx)) (hn : ws.length ≤ sizeLine) : Ev p (tTup tr) σ H (stx ws) := e_tup h (by rw [List.length_map]; exact hn) fun vs a H1 iv g os na ha => ⟨a, vs, rfl, na, ha, oks_x os⟩
/-- a call of a def that keeps all: its answer known -/
def Pu (sp : Sp) (vs : List V) (H : Hp) (v : V) : Prop := ∀ (Q : VK) (E : XK), (∀ H', Gr Vo.non H H' → Q v H') → sp vs H Q E
theorem x_call {sp : Sp} {ws : List V} {v : V} (h : EvA p tr σ H (ws.map sx)) (hs : ∀ H1, Gr p H H1 → Pu sp ws H1 v) : Ev p (tCall sp [] E0 tr) σ H (sx v) := e_call h fun vs H1 iv g os => by
  rw [oks_x os]
  exact fun Q q => hs H1 g Q E0 fun H' e => q v H' (iv.grow e) e.pure rfl
theorem sq_l {xs : List V} : ∀ v H1, Gr p H H1 → (slx (p := p) xs).P v H1 → ∃ a, v = .ref a ∧ (SqL K H1 a xs ∨ SqT K H1 a xs) := fun v H1 _ ⟨a, ws, e1, _, e3, e4⟩ => ⟨a, e1, .inl (SqL.of (by rw [e3, e4]))⟩
theorem sq_t {xs : List V} : ∀ v H1, Gr p H H1 → (stx (p := p) xs).P v H1 → ∃ a, v = .ref a ∧ (SqL K H1 a xs ∨ SqT K H1 a xs) := fun v H1 _ ⟨a, ws, e1, _, e3, e4⟩ => ⟨a, e1, .inr (SqT.of (by rw [e3, e4]))⟩
theorem sq_k {xs : List V} {a : Addr} (h : ∀ H, SqT K H a xs) : ∀ v H1, Gr p H H1 → (sx (p := p) (.ref a)).P v H1 → ∃ a, v = .ref a ∧ (SqL K H1 a xs ∨ SqT K H1 a xs) := fun v H1 _ e => ⟨a, e, .inr (h H1)⟩
theorem sq_h {xs : List V} {a : Addr} (n : Nv p a) (h : H a = some (.tup xs)) : ∀ v H1, Gr p H H1 → (sx (p := p) (.ref a)).P v H1 → ∃ a, v = .ref a ∧ (SqL K H1 a xs ∨ SqT K H1 a xs) := fun v H1 g e => ⟨a, e, .inr (SqT.of (g a _ n h))⟩
end

/-! ### data -/
inductive D where
  | non | bl (b : Bool) | int (i : Int) | str (s : Str) | tup (ds : List D) | lst | dct
inductive Dat (p : Vo) (H : Hp) : V → D → Prop
  | non : Dat p H .non .non
  | bl (b : Bool) : Dat p H (.bl b) (.bl b)
  | int (i : Int) : Dat p H (.int i) (.int i)
  | str (s : Str) (hz : s.length ≤ 100000) : Dat p H (.str s) (.str s)
  | tup {a : Addr} {vs : List V} {ds : List D} (n : Nv p a) (h : H a = some (.tup vs)) (l : vs.length = ds.length) (hz : vs.length ≤ 100000) (r : ∀ (i : Nat) (v : V) (d : D), vs[i]? = some v → ds[i]? = some d → Dat p H v d) : Dat p H (.ref a) (.tup ds)
  | lst {a : Addr} {vs : List V} (n : Nv p a) (h : H a = some (.lst vs)) : Dat p H (.ref a) .lst
  | dct {a : Addr} {kvs : List (Key × V)} (n : Nv p a) (h : H a = some (.dK kvs)) : Dat p H (.ref a) .dct
theorem Dat.gr {p : Vo} {H H' : Hp} {v : V} {d : D} (x : Dat p H v d) (g : Gr p H H') : Dat p H' v d := by
  induction x with
  | non => exact .non
  | bl b => exact .bl b
  | int i => exact .int i
  | str s hz => exact .str s hz
  | tup n h l hz r ih => exact .tup n (g _ _ n h) l hz ih
  | lst n h => exact .lst n (g _ _ n h)
  | dct n h => exact .dct n (g _ _ n h)
theorem Dat.of {p q : Vo} {H : Hp} {v : V} {d : D} (x : Dat p H v d) (k : ∀ a, Nv p a → Nv q a) : Dat q H v d := by
  induction x with
  | non => exact .non
  | bl b => exact .bl b
  | int i => exact .int i
  | str s hz => exact .str s hz
  | tup n h l hz r ih => exact .tup (k _ n) h l hz ih
  | lst n h => exact .lst (k _ n) h
  | dct n h => exact .dct (k _ n) h
theorem Dat.non' {p : Vo} {H : Hp} {v : V} {d : D} (x : Dat p H v d) : Dat Vo.non H v d := x.of fun a _ => nv_non a
theorem Dat.and {p : Vo} {H : Hp} {v : V} {d : D} {E : Addr} {o : HO} (x : Dat p H v d) (e : H E = none) : Dat (p.and E o) H v d := by
  induction x with
  | non => exact .non
  | bl b => exact .bl b
  | int i => exact .int i
  | str s hz => exact .str s hz
  | tup n h l hz r ih => exact .tup (n.and (ne_of_none h e).symm) h l hz ih
  | lst n h => exact .lst (n.and (ne_of_none h e).symm) h
  | dct n h => exact .dct (n.and (ne_of_none h e).symm) h
theorem Dat.back {p : Vo} {H : Hp} {v : V} {d : D} {E : Addr} {o : HO} (x : Dat (p.and E o) H v d) : Dat p H v d := x.of fun a n => n.back
def D.ty : D → String
  | .non => "NoneType"
  | .bl _ => "bool"
  | .int _ => "int"
  | .str _ => "str"
  | .tup _ => "tuple"
  | .lst => "list"
  | .dct => "dict"
theorem Dat.tyx {p : Vo} {K : PySem.W.Frag} {H : Hp} {v : V} {d : D} (x : Dat p H v d) : TyX K H v (.type d.ty) := by
  cases x with
  | non => exact .base .non
  | bl b => exact .base (.bl b)
  | int i => exact .base (.int i)
  | str s hz => exact .base (.str s)
  | tup n h l hz r => exact .base (.tup h)
  | lst n h => exact .base (.lst h)
  | dct n h => exact .base (.dK h)
def D.isS : D → Bool
  | .str _ => true
  | _ => false
def D.isT : D → Bool
  | .tup _ => true
  | _ => false
def D.isB : D → Bool
  | .bl _ => true
  | _ => false
def D.isI : D → Bool
  | .int _ => true
  | .bl _ => true
  | _ => false
theorem kit_s (d : D) : kitB d.ty "str" = some d.isS := by cases d <;> (simp only [D.ty, D.isS]; decide +kernel)
theorem kit_t (d : D) : kitB d.ty "tuple" = some d.isT := by cases d <;> (simp only [D.ty, D.isT]; decide +kernel)
theorem kit_b (d : D) : kitB d.ty "bool" = some d.isB := by cases d <;> (simp only [D.ty, D.isB]; decide +kernel)
theorem kit_i (d : D) : kitB d.ty "int" = some d.isI := by cases d <;> (simp only [D.ty, D.isI]; decide +kernel)
/-- some datum | this datum -/
def sd (p : Vo) : Sy p := ⟨fun v H => ∃ d, Dat p H v d, fun v H H' g ⟨d, h⟩ => ⟨d, h.gr g⟩⟩
theorem x_isiD {p : Vo} {σ : L2.St} {H : Hp} {K : PySem.W.Frag} {ta : TE} {v : V} {d : D} {b : String} {r : Bool} (ha : Ev p ta σ H (sx v)) (hd : Dat p H v d) (hr : kitB d.ty b = some r) : Ev p (tCB (rIsi K) (tCons ta (tCons (tC (.ty b)) tNil))) σ H (sx (.bl r)) :=
  x_isi ha (fun H1 g => (hd.gr g).tyx) hr
end Hk
namespace Hk
open PySem PySem.Spec PyProof.Rows L2
section
variable {p : Vo} {σ : L2.St} {H : Hp} {K : PySem.W.Frag} {te ta tb tc : TE} {tr : TA} {j : Nat} {vs : List Nat} {B C : Sy p} {v x y : V}
theorem allS {z : Str} (f : Nat → Bool) (hx : Ev p ta σ H (sx (.str z))) (hz : z.length ≤ 100000) (hw : ∀ x, wipe ((wipe σ vs).set j (some x)) vs = wipe σ vs)
    (he : ∀ (c : Nat) (q : Vo) H1, c ∈ z.cps.toList → Ev q te ((wipe σ vs).set j (some (.str ⟨#[c]⟩))) H1 (sx (.bl (f c)))) : Ev p (tCB (rAll K) (tCons (tLc (iStr ta) (gName j) tYes te vs) tNil)) σ H (sx (.bl (z.cps.toList.all f))) := by
  have h := lcSx (vs := vs) (j := j) (te := te) (fun c => .bl (f c)) hx (by have : z.cps.size ≤ 100000 := hz; omega) hw he
  have e : z.cps.toList.map (fun c => V.bl (f c)) = (z.cps.toList.map f).map V.bl := by rw [List.map_map] <;> rfl
  rw [e] at h
  refine x_to (x_all h) ?_
  rw [List.all_map] <;> rfl
theorem allT {xs : List V} {ds : List D} (f : D → Bool) (hx : Ev p ta σ H B) (hB : ∀ v H1, Gr p H H1 → B.P v H1 → ∃ a, v = .ref a ∧ Nv p a ∧ H1 a = some (.tup xs)) (hz : xs.length ≤ 100000) (hl : xs.length = ds.length) (hw : ∀ x, wipe ((wipe σ vs).set j (some x)) vs = wipe σ vs)
    (he : ∀ (i : Nat) (x : V) (d : D) E o H1, Gr p H H1 → H1 E = none → xs[i]? = some x → ds[i]? = some d → Ev (p.and E o) te ((wipe σ vs).set j (some x)) H1 (sx (.bl (f d)))) : Ev p (tCB (rAll K) (tCons (tLc (iTup K ta) (gName j) tYes te vs) tNil)) σ H (sx (.bl (ds.all f))) := by
  have h := lcTx (K := K) (vs := vs) (j := j) (te := te) (ys := (ds.map f).map V.bl) hx hB (by omega) (by rw [List.length_map, List.length_map, hl]) hw fun i x y E o H1 g hE h1 h2 => by
    rw [List.getElem?_map, List.getElem?_map] at h2
    cases hd : ds[i]? with
    | none => rw [hd] at h2; cases h2
    | some d =>
      rw [hd] at h2
      have e : V.bl (f d) = y := Option.some.inj h2
      rw [← e]
      exact he i x d E o H1 g hE h1 hd
  refine x_to (x_all h) ?_
  rw [List.all_map] <;> rfl
theorem allL {xs : List V} {ds : List D} (f : D → Bool) (hx : Ev p ta σ H B) (hB : ∀ v H1, Gr p H H1 → B.P v H1 → ∃ a, v = .ref a ∧ Nv p a ∧ H1 a = some (.lst xs)) (hz : xs.length ≤ 100000) (hl : xs.length = ds.length) (hw : ∀ x, wipe ((wipe σ vs).set j (some x)) vs = wipe σ vs)
    (he : ∀ (i : Nat) (x : V) (d : D) E o H1, Gr p H H1 → H1 E = none → xs[i]? = some x → ds[i]? = some d → Ev (p.and E o) te ((wipe σ vs).set j (some x)) H1 (sx (.bl (f d)))) : Ev p (tCB (rAll K) (tCons (tLc (iList K ta) (gName j) tYes te vs) tNil)) σ H (sx (.bl (ds.all f))) := by
  have h := lcLx (K := K) (vs := vs) (j := j) (te := te) (ys := (ds.map f).map V.bl) hx hB (by omega) (by rw [List.length_map, List.length_map, hl]) hw fun i x y E o H1 g hE h1 h2 => by
    rw [List.getElem?_map, List.getElem?_map] at h2
    cases hd : ds[i]? with
    | none => rw [hd] at h2; cases h2
    | some d =>
      rw [hd] at h2
      have e : V.bl (f d) = y := Option.some.inj h2
      rw [← e]
      exact he i x d E o H1 g hE h1 hd
  refine x_to (x_all h) ?_
  rw [List.all_map] <;> rfl
theorem big {n : Nat} (h : n ≤ 100000) : n ≤ sizeLine := by rw [sizeLine_eq]; omega
theorem x_leI {i j : Int} (ha : Ev p ta σ H (sx (.int i))) (hb : Ev p tb σ H (sx (.int j))) : Ev p (tOp rLeU ta tb) σ H (sx (.bl (decide (i ≤ j)))) :=
  e_op ha hb fun x' y' H1 iv gg ex ey => rv iv rfl fun Q q => .inl ⟨i, j, ex, ey, q⟩
theorem x_leS {i j : Str} (ha : Ev p ta σ H (sx (.str i))) (hb : Ev p tb σ H (sx (.str j))) : Ev p (tOp rLeU ta tb) σ H (sx (.bl (!decide (j.cps.toList < i.cps.toList)))) :=
  e_op ha hb fun x' y' H1 iv gg ex ey => rv iv rfl fun Q q => .inr ⟨i, j, ex, ey, q⟩
/-- chains over known values -/
theorem x_chainI {r r' : R2} {i j k : Int} {g g' : Int → Int → Bool} (ha : Ev p ta σ H (sx (.int i))) (hb : Ev p tb σ H (sx (.int j))) (hc : Ev p tc σ H (sx (.int k)))
    (hr : ∀ H1, Iv p H1 → Rv p (r (.int i) (.int j)) H1 (sx (.bl (g i j)))) (hr' : ∀ H1, Iv p H1 → Rv p (r' (.int j) (.int k)) H1 (sx (.bl (g' j k)))) : Ev p (tChain r r' ta tb tc) σ H (sx (.bl (g i j && g' j k))) :=
  x_chain ha hb (fun _ => hc) (fun x y H1 iv gg ex ey => by rw [show x = _ from ex, show y = _ from ey]; exact hr H1 iv) fun _ y z H1 iv gg ey ez => by rw [show y = _ from ey, show z = _ from ez]; exact hr' H1 iv
theorem r_leI {i j : Int} {H1 : Hp} (iv : Iv p H1) : Rv p (rLeU (.int i) (.int j)) H1 (sx (.bl (decide (i ≤ j)))) := rv iv rfl fun Q q => .inl ⟨i, j, rfl, rfl, q⟩
theorem r_ltI {i j : Int} {H1 : Hp} (iv : Iv p H1) : Rv p (rI0 (fun i j => .bl (decide (i < j))) (.int i) (.int j)) H1 (sx (.bl (decide (i < j)))) := rv iv rfl fun Q q => ⟨i, j, rfl, rfl, q⟩
theorem r_leS {i j : Str} {H1 : Hp} (iv : Iv p H1) : Rv p (rLeU (.str i) (.str j)) H1 (sx (.bl (!decide (j.cps.toList < i.cps.toList)))) := rv iv rfl fun Q q => .inr ⟨i, j, rfl, rfl, q⟩
theorem x_chainS {r r' : R2} {i j k : Str} {g g' : Str → Str → Bool} (ha : Ev p ta σ H (sx (.str i))) (hb : Ev p tb σ H (sx (.str j))) (hc : Ev p tc σ H (sx (.str k)))
    (hr : ∀ H1, Iv p H1 → Rv p (r (.str i) (.str j)) H1 (sx (.bl (g i j)))) (hr' : ∀ H1, Iv p H1 → Rv p (r' (.str j) (.str k)) H1 (sx (.bl (g' j k)))) : Ev p (tChain r r' ta tb tc) σ H (sx (.bl (g i j && g' j k))) :=
  x_chain ha hb (fun _ => hc) (fun x y H1 iv gg ex ey => by rw [show x = _ from ex, show y = _ from ey]; exact hr H1 iv) fun _ y z H1 iv gg ey ez => by rw [show y = _ from ey, show z = _ from ez]; exact hr' H1 iv
/-- a chain as a test -/
theorem k_chain {r r' : R2} {a b : Bool} (h : Ev p (tChain r r' ta tb tc) σ H (sx (.bl (a && b)))) : Tis p (tTest (tChain r r' ta tb tc)) σ H (a && b) := k_test h
theorem x_ord {c : Nat} (ha : Ev p ta σ H (sx (.str ⟨#[c]⟩))) : Ev p (tCB (fun xs H Q => ∃ x : Str, xs = [.str x] ∧ x.length = 1 ∧ Q (.int (x.cps.getD 0 0 : Nat)) H) (tCons ta tNil)) σ H (sx (.int c)) := e_cb (a_cons ha a_nil) fun vs H1 iv g os => by
  obtain ⟨v, ws, rfl, rfl, rfl⟩ := os
  exact rv iv rfl fun Q q => ⟨⟨#[c]⟩, rfl, rfl, q⟩
/-- the ways of an if that end with a return each -/
theorem s_ifr {D : Ends} {t : TT} {te : TE} {b : Bool} {v : V} (iv : Iv p H) (h : Tis p t σ H b) (h1 : b = true → Ev p te σ H (sx v)) (k1 : b = true → ∀ H1, Iv p H1 → Gr p H H1 → D.rt v H1) (k2 : b = false → ∀ H1, Iv p H1 → Gr p H H1 → D.nx σ H1) : tIfS t (tRet te) tNext D σ H :=
  s_ifx iv h (fun e H1 i g => s_ret i ((h1 e).mono g) fun w H2 i2 g2 ew => by rw [show w = v from ew]; exact k1 e H2 i2 (g.trans g2)) fun e H1 i g => k2 e H1 i g
theorem s_retx {D : Ends} {te : TE} {v : V} (iv : Iv p H) (h : Ev p te σ H (sx v)) (k : ∀ H1, Iv p H1 → Gr p H H1 → D.rt v H1) : tRet te D σ H := s_ret iv h fun w H1 i g e => by rw [show w = v from e]; exact k H1 i g
/-- the same with what follows -/
theorem q_ifr {D : Ends} {t : TT} {te : TE} {u : TS} {b : Bool} {v : V} (iv : Iv p H) (h : Tis p t σ H b) (h1 : b = true → Ev p te σ H (sx v)) (k1 : b = true → ∀ H1, Iv p H1 → Gr p H H1 → D.rt v H1) (k2 : b = false → ∀ H1, Iv p H1 → Gr p H H1 → u D σ H1) : tSeq (tIfS t (tRet te) tNext) u D σ H :=
  s_ifr (D := { D with nx := u D }) iv h h1 k1 k2
theorem q_ifS {D : Ends} {t : TT} {te : TE} {u : TS} {b : Bool} {A : Sy p} (iv : Iv p H) (h : Tis p t σ H b) (h1 : b = true → Ev p te σ H A) (k1 : b = true → ∀ v H1, Iv p H1 → Gr p H H1 → A.P v H1 → D.rt v H1) (k2 : b = false → ∀ H1, Iv p H1 → Gr p H H1 → u D σ H1) : tSeq (tIfS t (tRet te) tNext) u D σ H :=
  s_ifx (D := { D with nx := u D }) iv h (fun e H1 i g => s_ret i ((h1 e).mono g) fun w H2 i2 g2 ew => k1 e w H2 i2 (g.trans g2) ew) fun e H1 i g => k2 e H1 i g
theorem q_asg {D : Ends} {te : TE} {u : TS} {i : Nat} {A : Sy p} (iv : Iv p H) (h : Ev p te σ H A) (k : ∀ v H1, Iv p H1 → Gr p H H1 → A.P v H1 → u D (σ.set i (some v)) H1) : tSeq (tAsg te (gName i)) u D σ H :=
  s_asg (D := { D with nx := u D }) iv h k
theorem q_asgx {D : Ends} {te : TE} {u : TS} {i : Nat} {v : V} (iv : Iv p H) (h : Ev p te σ H (sx v)) (k : ∀ H1, Iv p H1 → Gr p H H1 → u D (σ.set i (some v)) H1) : tSeq (tAsg te (gName i)) u D σ H :=
  q_asg iv h fun w H1 i g e => by rw [show w = v from e]; exact k H1 i g
theorem q_if {D : Ends} {t : TT} {tu tw u : TS} {B : Bool → Prop} (iv : Iv p H) (h : EvT p t σ H B) (h1 : B true → ∀ H1, Iv p H1 → Gr p H H1 → tu { D with nx := u D } σ H1) (h2 : B false → ∀ H1, Iv p H1 → Gr p H H1 → tw { D with nx := u D } σ H1) : tSeq (tIfS t tu tw) u D σ H :=
  s_if (D := { D with nx := u D }) iv h h1 h2
end

/-! ### the rules that read the written part, with it by name -/
section
variable {X : Cx} {K : PySem.W.Frag}
theorem inU (h : X.K = K) : OpR X (compareOp .In) (rInU K) := h ▸ op_inU
theorem ninU (h : X.K = K) : OpR X (compareOp .NotIn) (rNinU K) := h ▸ op_ninU
theorem slU (h : X.K = K) : SlR X (rSlU K) := h ▸ sl_U
theorem ixU (h : X.K = K) : IxR X (rIx K) := h ▸ ix_seq
theorem lenU (h : X.K = K) : CallR X (.builtin "len") (rLenK K) := h ▸ call_len
theorem isiU (h : X.K = K) : CallR X (.builtin "isinstance") (rIsi K) := h ▸ call_isi
theorem allU (hc : X.calm = true) (h : X.K = K) : CallR X (.builtin "all") (rAll K) := h ▸ cr_all hc
theorem sortedU (h : X.K = K) : CallR X (.builtin "sorted") (rSortedS K) := h ▸ cr_sortedS
def rTupK (K : PySem.W.Frag) : List V → Hp → VK → Prop := fun xs H Q => ∃ p ys, xs = [.ref p] ∧ ((SqL K H p ys ∧ ∀ l, H l = none → Q (.ref l) (upd H l (.tup ys))) ∨ (SqT K H p ys ∧ Q (.ref p) H))
theorem tupU (h : X.K = K) : CallR X (.type "tuple") (rTupK K) := h ▸ call_tuple_of
theorem reprK (hg : X.A.guards = some []) (hu : X.A.units + 3 < cLine) (h : X.K = K) : CallR X (.builtin "repr") (rRepr K) := h ▸ call_reprU hg hu
end

/-- a constant of the module, by what it holds -/
theorem pe_gc {X : Cx} {x : Str} {v : V} {pos : Pos} (hg : Gl X x) (h : ∃ u, X.mg x = some u ∧ RelV v u) (hd : (x == ("__debug__" : Str)) = false := by decide) : PE X (.Name x pos) (tC v) := by
  obtain ⟨u, hm, r⟩ := h
  exact pe_glob hg hm r hd
end Hk
namespace Hk
open PySem PySem.Spec PyProof.Rows L2
/-! ### defs that draw from the pot: promised over whatever else may change -/
def spP (Ar : Addr → List V → Vo → Hp → Prop) (A : List V → ∀ p : Vo, Sy p) : Sp := fun vs H Q _ => ∃ p a, p.pot = some a ∧ Iv p H ∧ Ar a vs p H ∧ ∀ v H', Iv p H' → Gr p H H' → (A vs p).P v H' → Q v H'
section
variable {p : Vo} {σ : L2.St} {H : Hp} {K : PySem.W.Frag} {te ta tb tc : TE} {tr : TA} {j : Nat} {vs : List Nat} {A B C : Sy p} {v x y : V} {a : Addr}
theorem e_callP {Ar : Addr → List V → Vo → Hp → Prop} {F : List V → ∀ p : Vo, Sy p} {As : List (Sy p)} (hp : p.pot = some a) (h : EvA p tr σ H As) (ho : ∀ vs H1, Gr p H H1 → Iv p H1 → Oks As vs H1 → Ar a vs p H1 ∧ ∀ v H2, (F vs p).P v H2 → B.P v H2) : Ev p (tCall (spP Ar F) [] E0 tr) σ H B := e_call h fun vs H1 iv g os Q q => by
  obtain ⟨h1, h2⟩ := ho vs H1 g iv os
  exact ⟨p, a, hp, iv, h1, fun v H' i' g' h' => q v H' i' g' (h2 v H' h')⟩
/-- a draw below n -/
def arD : Addr → List V → Vo → Hp → Prop := fun a vs _ _ => ∃ n : Int, vs = [.ref a, .int n] ∧ 0 < n ∧ n < 1073741824
def rsD : List V → ∀ p : Vo, Sy p := fun vs p => si fun r => ∃ n, vs[1]? = some (.int n) ∧ 0 ≤ r ∧ r < n
abbrev spDraw : Sp := spP arD rsD
theorem e_draw {c : Int → Prop} (hp : p.pot = some a) (ha : Ev p ta σ H (sx (.ref a))) (hb : Ev p tb σ H (si c)) (hc : ∀ n, c n → 0 < n ∧ n < 1073741824) : Ev p (tCall spDraw [] E0 (tCons ta (tCons tb tNil))) σ H (si fun r => ∃ n, c n ∧ 0 ≤ r ∧ r < n) :=
  e_callP hp (a_cons ha (a_cons hb a_nil)) fun vs H1 g iv os => by
    obtain ⟨v, ws, rfl, ev, v2, ws2, rfl, ⟨n, rfl, hn⟩, rfl⟩ := os
    obtain rfl : v = .ref a := ev
    refine ⟨⟨n, rfl, (hc n hn).1, (hc n hn).2⟩, fun w H2 ⟨r, e, m, em, h0, h1⟩ => ⟨r, e, n, hn, h0, ?_⟩⟩
    have : V.int n = .int m := Option.some.inj em
    cases this
    exact h1
theorem e_drawN {n : Int} (hp : p.pot = some a) (ha : Ev p ta σ H (sx (.ref a))) (hb : Ev p tb σ H (sx (.int n))) (h0 : 0 < n) (h1 : n < 1073741824) : Ev p (tCall spDraw [] E0 (tCons ta (tCons tb tNil))) σ H (si fun r => 0 ≤ r ∧ r < n) :=
  (e_draw (c := fun m => m = n) hp ha (hb.imp fun v _ e => ⟨n, e, rfl⟩) fun m e => by rw [e]; exact ⟨h0, h1⟩).imp fun v _ ⟨r, e, m, em, h⟩ => ⟨r, e, by rw [← em]; exact h⟩
/-! ### items by a drawn place -/
theorem at_of {α : Type} {xs : List α} {i : Int} {k : Nat} {v : α} (e : i = (k : Int)) (h : xs[k]? = some v) : atI xs i = some v := by
  rw [e]
  exact atI_nat h
theorem at_in {ws : List V} {i : Int} (h0 : 0 ≤ i) (h1 : i < (ws.length : Int)) : ∃ v ∈ ws, atI ws i = some v := by
  have hk : i.toNat < ws.length := by omega
  exact ⟨ws[i.toNat], List.getElem_mem hk, at_of (k := i.toNat) (by omega) (List.getElem?_eq_getElem hk)⟩
theorem e_ixL {n : Int} {P : List V → Hp → Prop} {hP} (ha : Ev p ta σ H (sl P hP)) (hb : Ev p tb σ H (si fun r => 0 ≤ r ∧ r < n)) (hn : ∀ ws H1, P ws H1 → n ≤ (ws.length : Int)) (hv : ∀ ws v H1, P ws H1 → v ∈ ws → C.P v H1) : Ev p (tOp (rIx K) ta tb) σ H C :=
  e_op ha hb fun x y H1 iv g ⟨b, ws, e, nb, hb, hw⟩ ⟨i, ei, h0, h1⟩ => by
    obtain ⟨v, hm, hat⟩ := at_in h0 (show i < (ws.length : Int) by have := hn ws H1 hw; omega)
    exact rv iv (hv ws v H1 hw hm) fun Q q => .inl ⟨b, ws, i, v, e, ei, SqL.of hb, hat, q⟩
theorem e_ixS {n : Int} {s : Str} (ha : Ev p ta σ H (sx (.str s))) (hb : Ev p tb σ H (si fun r => 0 ≤ r ∧ r < n)) (hn : n ≤ (s.length : Int)) (hz : s.length ≤ 100000) : Ev p (tOp (rIx K) ta tb) σ H (ss fun z => z.length = 1) :=
  e_op ha hb fun x y H1 iv g ex ⟨i, ei, h0, h1⟩ => by
    have el : s.cps.toList.length = s.length := by rw [Array.length_toList]; rfl
    have hk : i.toNat < s.cps.toList.length := by omega
    have hat : atI s.cps.toList i = some s.cps.toList[i.toNat] := at_of (k := i.toNat) (by omega) (List.getElem?_eq_getElem hk)
    exact rv iv ⟨_, rfl, rfl⟩ fun Q q => .inr (.inr ⟨s, i, _, ex, ei, big hz, hat, q⟩)
theorem e_addS {c d : Nat} (ha : Ev p ta σ H (ss fun z => z.length ≤ c)) (hb : Ev p tb σ H (ss fun z => z.length ≤ d)) (hz : c + d ≤ 100000) : Ev p (tOp rAddU ta tb) σ H (ss fun z => z.length ≤ c + d) :=
  e_op ha hb fun x y H1 iv g ⟨z, ez, hz1⟩ ⟨z', ez', hz2⟩ => rv iv ⟨z ++ z', rfl, by show (z ++ z').length ≤ c + d; rw [Str.length_append]; exact Nat.add_le_add hz1 hz2⟩ fun Q q => .inr (.inl ⟨z, z', ez, ez', big (Nat.le_trans (Nat.add_le_add hz1 hz2) hz), q⟩)
theorem e_slS {s : Str} {tl th : TO} {lo hi : Option Int} (ha : Ev p ta σ H (sx (.str s))) (hl : ∀ H (Q : Option Int → Hp → Prop), Q lo H → tl σ H Q) (hh : ∀ H (Q : Option Int → Hp → Prop), Q hi H → th σ H Q) (hz : s.length ≤ 100000) : Ev p (tSl (rSlU K) ta tl th) σ H (ss fun z => z.length ≤ s.length) :=
  (x_slS ha hl hh (big hz)).imp fun v _ e => ⟨_, e, by
    unfold cutS
    show (((s.cps.toList.drop _).take _).toArray).size ≤ _
    rw [List.size_toArray, List.length_take, List.length_drop, Array.length_toList]
    exact Nat.le_trans (Nat.min_le_right _ _) (Nat.sub_le _ _)⟩
theorem e_ssx {s : Str} {c : Str → Prop} (h : Ev p ta σ H (sx (.str s))) (hc : c s) : Ev p ta σ H (ss c) := h.imp fun v _ e => ⟨s, e, hc⟩
theorem e_sxi {i : Int} {c : Int → Prop} (h : Ev p ta σ H (sx (.int i))) (hc : c i) : Ev p ta σ H (si c) := h.imp fun v _ e => ⟨i, e, hc⟩
theorem e_addI {c d e : Int → Prop} (ha : Ev p ta σ H (si c)) (hb : Ev p tb σ H (si d)) (hc : ∀ i j, c i → d j → e (i + j)) : Ev p (tOp rAddU ta tb) σ H (si e) :=
  e_op ha hb fun x y H1 iv g ⟨i, ei, hi⟩ ⟨j, ej, hj⟩ => rv iv ⟨i + j, rfl, hc i j hi hj⟩ fun Q q => .inl ⟨i, j, ei, ej, q⟩
/-! ### data, many -/
/-- a list of n data -/
def slD (p : Vo) (c : Nat → Prop) : Sy p := sl (fun ws H => c ws.length ∧ ∀ v ∈ ws, (sd p).P v H) fun ws H H' e h => ⟨h.1, fun v hv => (sd p).st v H H' e (h.2 v hv)⟩
def EvD (p : Vo) (ta : TA) (σ : L2.St) (H : Hp) (n : Nat) : Prop := ∀ H1, Iv p H1 → Gr p H H1 → ∀ Q : List V → Hp → Prop, (∀ vs H2, Iv p H2 → Gr p H1 H2 → vs.length = n → (∀ v ∈ vs, (sd p).P v H2) → Q vs H2) → ta σ H1 Q
theorem d_nil : EvD p tNil σ H 0 := fun H1 i _ _ q => q [] H1 i (Gr.refl H1) rfl fun v h => (nomatch h)
theorem d_cons {n : Nat} (h : Ev p te σ H (sd p)) (hr : EvD p tr σ H n) : EvD p (tCons te tr) σ H (n + 1) := fun H1 i g Q q =>
  h H1 i g _ fun x H2 i2 g2 ax => hr H2 i2 (g.trans g2) _ fun vs H3 i3 g3 hl os => q (x :: vs) H3 i3 (g2.trans g3) (by rw [List.length_cons, hl]) fun v hv => by
    rcases List.mem_cons.mp hv with e | e
    · rw [e]
      exact (sd p).st x _ _ g3 ax
    · exact os v e
theorem ds_of {H : Hp} : ∀ {ws : List V}, (∀ v ∈ ws, ∃ d, Dat p H v d) → ∃ ds : List D, ws.length = ds.length ∧ ∀ (i : Nat) (v : V) (d : D), ws[i]? = some v → ds[i]? = some d → Dat p H v d
  | [], _ => ⟨[], rfl, fun i v d h => by cases h⟩
  | w :: ws, h => by
    obtain ⟨d0, h0⟩ := h w List.mem_cons_self
    obtain ⟨ds, hl, hr⟩ := ds_of (ws := ws) fun v hv => h v (List.mem_cons_of_mem _ hv)
    refine ⟨d0 :: ds, by rw [List.length_cons, List.length_cons, hl], fun i v d h1 h2 => ?_⟩
    cases i with
    | zero =>
      have e1 : w = v := Option.some.inj h1
      have e2 : d0 = d := Option.some.inj h2
      rw [← e1, ← e2]
      exact h0
    | succ i => exact hr i v d h1 h2
theorem d_lst {n : Nat} (h : EvD p tr σ H n) (hn : n ≤ 100000) : Ev p (tLst tr) σ H (slD p fun m => m = n) := fun H1 i g Q q =>
  h H1 i g _ fun vs H2 i2 g2 hl os => ⟨by rw [hl]; exact big hn, fun b hb => q _ _ (i2.new hb) (g2.trans (Gr.new hb)) ⟨b, vs, rfl, i2.ne hb, upd_same, hl, fun v hv => (sd p).st v _ _ (Gr.new hb) (os v hv)⟩⟩
theorem d_tup {n : Nat} (h : EvD p tr σ H n) (hn : n ≤ 100000) : Ev p (tTup tr) σ H (sd p) := fun H1 i g Q q =>
  h H1 i g _ fun vs H2 i2 g2 hl os => ⟨by rw [hl]; exact big hn, fun b hb => q _ _ (i2.new hb) (g2.trans (Gr.new hb)) (by
    obtain ⟨ds, l, r⟩ := ds_of os
    exact ⟨.tup ds, .tup (i2.ne hb) upd_same l (by omega) fun i v d h1 h2 => (r i v d h1 h2).gr (Gr.new hb)⟩)⟩
theorem d_int {i : Int} (h : Ev p te σ H (sx (.int i))) : Ev p te σ H (sd p) := h.imp fun v H e => ⟨.int i, by rw [show v = _ from e]; exact .int i⟩
theorem d_c {v : V} {d : D} (h : ∀ H, Dat p H v d) : Ev p (tC v) σ H (sd p) := e_c ⟨d, h H⟩
theorem d_i {i : Int} : Ev p (tC (.int i)) σ H (sd p) := d_c fun H => .int i
theorem d_b {b : Bool} : Ev p (tC (.bl b)) σ H (sd p) := d_c fun H => .bl b
theorem d_n : Ev p (tC .non) σ H (sd p) := d_c fun H => .non
theorem d_s {s : Str} (hz : s.length ≤ 100000) : Ev p (tC (.str s)) σ H (sd p) := d_c fun H => .str s hz
theorem d_ss {c : Nat} (h : Ev p te σ H (ss fun z => z.length ≤ c)) (hc : c ≤ 100000) : Ev p te σ H (sd p) := h.imp fun v H ⟨z, e, hz⟩ => ⟨.str z, by rw [e]; exact .str z (by omega)⟩
theorem d_l {n : Nat} (h : EvD p tr σ H n) (hn : n ≤ 100000) : Ev p (tLst tr) σ H (sd p) := (d_lst h hn).imp fun v H ⟨b, ws, e, nb, hb, _⟩ => ⟨.lst, by rw [e]; exact .lst nb hb⟩
theorem d_cat {c d e : Nat → Prop} (ha : Ev p ta σ H (slD p c)) (hb : Ev p tb σ H (slD p d)) (hc : ∀ n m, c n → d m → e (n + m) ∧ n + m ≤ 100000) : Ev p (tOp rAddU ta tb) σ H (slD p e) :=
  e_op ha hb fun x y H1 iv g ⟨b, ws, e1, nb, h1, hl, hw⟩ ⟨b', ws', e2, nb', h2, hl', hw'⟩ => rv_new iv (o := .lst (ws ++ ws')) (fun q nq hq i' g' => ⟨q, _, rfl, nq, upd_same, by rw [List.length_append]; exact (hc _ _ hl hl').1, fun v hv => by
    rcases List.mem_append.mp hv with m | m
    · exact (sd p).st v _ _ g' (hw v m)
    · exact (sd p).st v _ _ g' (hw' v m)⟩) fun Q q => .inr (.inr ⟨b, b', ws, ws', e1, e2, h1, h2, big (hc _ _ hl hl').2, q⟩)
theorem d_ix {n : Int} {c : Nat → Prop} (ha : Ev p ta σ H (slD p c)) (hb : Ev p tb σ H (si fun r => 0 ≤ r ∧ r < n)) (hn : ∀ m, c m → n ≤ (m : Int)) : Ev p (tOp (rIx K) ta tb) σ H (sd p) :=
  e_ixL ha hb (fun ws H1 h => hn _ h.1) fun ws v H1 h m => h.2 v m
theorem d_tuple {c : Nat → Prop} (ha : Ev p ta σ H (slD p c)) (hc : ∀ m, c m → m ≤ 100000) : Ev p (tCB (rTupK K) (tCons ta tNil)) σ H (sd p) := e_cb (a_cons ha a_nil) fun vs H1 iv g os => by
  obtain ⟨v, us, rfl, ⟨b, ws, rfl, nb, h1, hl, hw⟩, rfl⟩ := os
  refine rv_new iv (o := .tup ws) (fun q nq hq i' g' => ?_) fun Q q => ⟨b, ws, rfl, .inl ⟨SqL.of h1, q⟩⟩
  obtain ⟨ds, l, r⟩ := ds_of hw
  exact ⟨.tup ds, .tup nq upd_same l (hc _ hl) fun i v d h1 h2 => (r i v d h1 h2).gr g'⟩
theorem d_var {i : Nat} (h : σ[i]? = some (some v)) (a : (sd p).P v H) : Ev p (tVar i) σ H (sd p) := e_var h a
/-- a comprehension over a range whose items are data -/
theorem d_lcR {N : Nat} (hx : Ev p ta σ H (si fun n => 0 ≤ n ∧ n ≤ (N : Int))) (hN : N ≤ 100000) (hw : ∀ x, wipe ((wipe σ vs).set j (some x)) vs = wipe σ vs)
    (he : ∀ (i : Nat) D o H1, Gr p H H1 → H1 D = none → Ev (p.and D o) te ((wipe σ vs).set j (some (.int (0 + (i : Nat))))) H1 (sd (p.and D o))) : Ev p (tLc (iRng1 (tCons ta tNil)) (gName j) tYes te vs) σ H (slD p fun m => m ≤ N) := fun H0 i0 g0 Q q =>
  hx H0 i0 g0 _ fun v H1 i1 g1 ⟨n, ev, n0, n1⟩ => ⟨n, by rw [ev], by omega, by omega, fun D hD => lcR (lo := 0) (A := fun _ q => sd q) (fun _ acc H => ∀ v ∈ acc, ∃ d, Dat (p.and D (.lst [])) H v d) (fun o i acc H2 H3 g h v hv => by
      obtain ⟨d, hd⟩ := h v hv
      exact ⟨d, (Dat.gr (hd.of fun b (nb : Nv (p.and D (.lst [])) b) => (nb.back.and nb.ne : Nv (p.and D o) b)) g).of fun b (nb : Nv (p.and D o) b) => nb.back.and nb.ne⟩)
    (by omega) hw (fun _ v h => (nomatch h)) i1 hD (fun i o hi => he i D o H1 (g0.trans g1) hD) (fun i acc y H2 o hi g2 i2 hl ha hy v hv => by
      rcases List.mem_append.mp hv with m | m
      · exact ha v m
      · obtain rfl := List.mem_singleton.mp m
        obtain ⟨d, hd⟩ := hy
        exact ⟨d, hd.of fun b (nb : Nv (p.and D o) b) => nb.back.and nb.ne⟩)
    fun H' w => q _ H' w.1 (g1.trans w.2.2.2.1) (by
      obtain ⟨_, _, nD, _, acc, ha, hl, c⟩ := w
      exact ⟨D, acc, rfl, nD, ha, by omega, fun v hv => by obtain ⟨d, hd⟩ := c v hv; exact ⟨d, hd.back⟩⟩)⟩
/-- .. whose items are texts of one sign -/
theorem s_lcR {N : Nat} {P : Str → Prop} (hx : Ev p ta σ H (si fun n => 0 ≤ n ∧ n ≤ (N : Int))) (hN : N ≤ 100000) (hw : ∀ x, wipe ((wipe σ vs).set j (some x)) vs = wipe σ vs)
    (he : ∀ (i : Nat) D o H1, Gr p H H1 → H1 D = none → Ev (p.and D o) te ((wipe σ vs).set j (some (.int (0 + (i : Nat))))) H1 (ss P)) : Ev p (tLc (iRng1 (tCons ta tNil)) (gName j) tYes te vs) σ H (sl (fun ws _ => ws.length ≤ N ∧ ∃ zs : List Str, ws = zs.map V.str ∧ ∀ z ∈ zs, P z) fun _ _ _ _ h => h) := fun H0 i0 g0 Q q =>
  hx H0 i0 g0 _ fun v H1 i1 g1 ⟨n, ev, n0, n1⟩ => ⟨n, by rw [ev], by omega, by omega, fun D hD => lcR (lo := 0) (A := fun _ q => ss P) (fun _ acc _ => ∃ zs : List Str, acc = zs.map V.str ∧ ∀ z ∈ zs, P z) (fun o i acc H2 H3 g h => h)
    (by omega) hw (fun _ => ⟨[], rfl, fun z h => (nomatch h)⟩) i1 hD (fun i o hi => he i D o H1 (g0.trans g1) hD) (fun i acc y H2 o hi g2 i2 hl ha hy => by
      obtain ⟨zs, rfl, hz⟩ := ha
      obtain ⟨z, rfl, hp⟩ := hy
      exact ⟨zs ++ [z], by rw [List.map_append]; rfl, fun t ht => (List.mem_append.mp ht).elim (hz t) fun m => by rw [List.mem_singleton.mp m]; exact hp⟩)
    fun H' w => q _ H' w.1 (g1.trans w.2.2.2.1) (by
      obtain ⟨_, _, nD, _, acc, ha, hl, c⟩ := w
      exact ⟨D, acc, rfl, nD, ha, by omega, c⟩)⟩
/-- a new list is handed back: it was not there -/
theorem s_retN {D : Ends} {As : List (Sy p)} (iv : Iv p H) (h : EvA p tr σ H As) (hn : As.length ≤ 100000) (k : ∀ vs b H1, Iv p H1 → Gr p H H1 → H1 b = none → Oks As vs H1 → D.rt (.ref b) (upd H1 b (.lst vs))) : tRet (tLst tr) D σ H :=
  h H iv (Gr.refl H) _ fun vs H1 i1 g1 os => ⟨by rw [os.len]; exact big hn, fun b hb => k vs b H1 i1 g1 hb os⟩
/-- an if that only stores, what follows proved once -/
theorem q_ifj {D : Ends} {t : TT} {tu u : TS} {B : Bool → Prop} (Mid : L2.St → Hp → Prop) (iv : Iv p H) (h : EvT p t σ H B) (h1 : ∀ N : L2.St → Hp → Prop, (∀ σ' H', Mid σ' H' → N σ' H') → B true → ∀ H1, Iv p H1 → Gr p H H1 → tu { D with nx := N } σ H1) (h2 : B false → ∀ H1, Iv p H1 → Gr p H H1 → Mid σ H1) (k : ∀ σ' H', Mid σ' H' → u D σ' H') : tSeq (tIfS t tu tNext) u D σ H :=
  s_if (D := { D with nx := u D }) iv h (fun b H1 i g => h1 (u D) k b H1 i g) fun b H1 i g => k _ _ (h2 b H1 i g)
end
end Hk
namespace Hk
open PySem PySem.Spec PyProof.Rows L2
/-! ### promises that hold where nothing is being shown (repr marks what it stands in): no guard around -/
structure FnG (P : Program) (w : World) (K : PySem.W.Frag) (mg : Str → Option Value) (base : Heap) (k : Nat) (f : Addr) (fd : FuncData) (ps : List Str) (sp : Sp) : Prop where
  len : ∀ vs H Q E, sp vs H Q E → vs.length = ps.length
  run : ∀ (A : Around) (st : List Env) (s : Shared) (H : Hp) (ag : Args) (us : List Value) (vs : List V) (Q : VK) (E : XK), A.guards = some [] → Room k A → Env0 P w K mg base A st s H → BindsTo s fd ag (ps.zip us) → Vals vs us → sp vs H Q E →
    codeAny (model P w) A (.call (.ref f) ag) (CR CX0 st P w H s Q E) s
section
variable {P : Program} {w : World} {K : PySem.W.Frag} {mg : Str → Option Value} {base : Heap} {k : Nat}
theorem fnG_mk {x q : Str} {st : Stmt} {f : Addr} {fd : FuncData} {N ps : List Str} {sp : Sp} (F : Fun K x q st f fd) (S : FnScope N ps (defScope st)) (len : ∀ vs H Q E, sp vs H Q E → vs.length = ps.length)
    (body : ∀ (cdv : Value) (A : Around) (outer : List Env) (s : Shared) (H : Hp) (vs : List V) (Q : VK) (E : XK), (A.deeper (envOfC q (defScope st) s.heap.objs.size f cdv)).guards = some [] → Room k (A.deeper (envOfC q (defScope st) s.heap.objs.size f cdv)) → sp vs H Q E →
      ∃ t, PSs (cxOf CX0 P w K mg base N q (defScope st) f cdv A outer s H E).nox (defBody st) t ∧ t { nx := fun _ H' => Q .non H', rt := Q } (start N vs) H) : FnG P w K mg base (k + 1) f fd ps sp := by
  obtain ⟨oc, od, kV, doc, pm, an, cdv, ct, osl, rfl, lk, hcd⟩ := F.ex
  constructor
  · exact len
  intro A outer s H ag us vs Q E hgd room e0 hb rel hsp
  have inK : K.In s.heap := e0.mod.kin.keeps fun b o z => (e0.bs b o z).1
  have kinds : ∀ y ∈ ps.zip us, (defScope st).names.lookup y.1 = some .local ∨ ((defScope st).names.lookup y.1 = some .cell ∧ ((cellsFrom (s.heap.objs.size + 1) (defScope st).names []).lookup y.1).isSome = true) := by
    rintro ⟨n, v⟩ hy
    exact (S.par n (List.of_mem_zip hy).1).elim Or.inl fun z => Or.inr ⟨z, PySem.W.cellsFrom_some _ _ _ (.inl z)⟩
  apply codeAny_call_function room.depth (inK _ _ lk) rfl S.co S.gen rfl (PySem.W.codeRec_of inK hcd) (hb _ _ _ _ ?_)
  apply wpAny_newFunctionEnv_cells S.kind kinds
  intro env henv s1 ent
  cases henv
  have nolim : s.heap.NoLimit := e0.mod.nolimit.keeps fun b o z => (e0.bs b o z).1
  refine And.intro (nolim.keeps ent.toInCall.keep) (codeAny_func ?_)
  obtain ⟨t, pt, tq⟩ := body cdv A outer s H vs Q E hgd (room.deeper _) hsp
  have inv := inv_start (CX := CX0) (E := E) S room.hd e0 (len _ _ _ _ hsp) rel ent
  refine wpAny_mono (pt.nox.run [] s1 (start N vs) H _ inv tq) ?_ (fun e s' z => z)
  intro fl s' z
  match fl, z with
  | .ret u, ⟨v, σ', H', J, rv, qq⟩ => exact ⟨v, H', J.os, J.bare, J.base, J.hok, rv, qq⟩
  | .next, ⟨σ', H', J, qq⟩ => exact ⟨V.non, H', J.os, J.bare, J.base, J.hok, rfl, qq⟩
  | .brk, ⟨_, _, _, qq⟩ => exact qq.elim
  | .cont, ⟨_, _, _, qq⟩ => exact qq.elim
/-- such a def, by its name -/
structure CaG (P : Program) (w : World) (K : PySem.W.Frag) (mg : Str → Option Value) (base : Heap) (k : Nat) (x : Str) (sp : Sp) : Prop where
  ex : ∃ (f : Addr) (fd : FuncData) (ps : List Str), FnG P w K mg base k f fd ps sp ∧ mg x = some (.ref f) ∧ PySem.W.keepIn K (.ref f) = true ∧ Binds K fd ps []
theorem caG_mk {x : Str} {st : Stmt} {N ps : List Str} {sp : Sp} (F : Df K mg x st) (S : FnScope N ps (defScope st))
    (hb : ∀ (kV doc pm : Value) (an : Option Addr) (cdv ct : Value) (us : List Value), us.length = ps.length → bindArgs (PySem.W.fnOf x x (defArgs st) (defBody st) (defScope st) .none kV doc pm an cdv ct) ⟨us, []⟩ = pure (ps.zip us))
    (len : ∀ vs H Q E, sp vs H Q E → vs.length = ps.length)
    (body : ∀ (f : Addr) (cdv : Value) (A : Around) (outer : List Env) (s : Shared) (H : Hp) (vs : List V) (Q : VK) (E : XK), (A.deeper (envOfC x (defScope st) s.heap.objs.size f cdv)).guards = some [] → Room k (A.deeper (envOfC x (defScope st) s.heap.objs.size f cdv)) → sp vs H Q E →
      ∃ t, PSs (cxOf CX0 P w K mg base N x (defScope st) f cdv A outer s H E).nox (defBody st) t ∧ t { nx := fun _ H' => Q .non H', rt := Q } (start N vs) H) : CaG P w K mg base (k + 1) x sp := by
  obtain ⟨f, fd, F, hm⟩ := F.ex
  exact ⟨f, fd, ps, fnG_mk F S len fun cdv A outer s H vs Q E hgd hr h => body f cdv A outer s H vs Q E hgd hr h, hm, F.kp, F.binds hb⟩
end
section
variable {X : Cx} {k : Nat} {x : Str} {sp : Sp} {p pos : Pos} {e : Expr} {es : List Expr} {t : TA}
theorem pe_cg (c : CaG X.prog X.w X.K X.mg X.base k x sp) (hgd : X.A.guards = some []) (hr : Room k X.A) (hg : Gl X x) (ha : PA X (e :: es) t)
    (hdb : (x == ("__debug__" : Str)) = false := by decide) (he : starEach (e :: es) X.env = (false, eval e X.env) :: starEach es X.env := by rfl) (hpl : (backTo pos (starEach es X.env)).any (·.1) = false := by rfl) :
    PE X (.Call (.Name x p) (e :: es) [] pos) (tCall sp [] E0 t) := by
  obtain ⟨f, fd, ps, F, hm, kp, b⟩ := c.ex
  constructor
  intro pins s σ H Q I h
  refine wpAny_Call_Name_kw (ld_glob I hg hm ?_ hdb)
  apply PySem.W.callWith_K (h₀ := X.base) I.ok.mod.kin kp _ he hpl
  refine thn (ha.run pos pins s σ H _ I h) ?_
  rintro us s1 ⟨vs, H1, I1, rel, qq⟩
  refine ⟨I1.kIn, wpAny_call (codeAny_mono (F.run X.A X.stack s1 H1 ⟨us, []⟩ (us ++ []) (vs ++ []) Q E0 hgd hr I1.env0 (b s1 us I1.kIn ?_) (rel.append .nil) qq) ?_)⟩
  · have := F.len _ _ _ _ qq
    rw [← this, List.length_append, List.length_append, rel.length]
    rfl
  · intro r s' z
    match r, z with
    | .error e, z => exact z.elim
    | .ok (.ret u), z => exact I1.after z
    | .ok .next, z => exact z.elim
    | .ok .brk, z => exact z.elim
    | .ok .cont, z => exact z.elim
end
end Hk
namespace Hk
open PySem PySem.Spec PyProof.Rows L2
/-! ### values of tuples within tuples: repr, == -/
inductive Py (p : Vo) (H : Hp) : V → PyData → Prop
  | non : Py p H .non .none
  | bl (b : Bool) : Py p H (.bl b) (.bool b)
  | int (i : Int) : Py p H (.int i) (.int i)
  | str (x : Str) : Py p H (.str x) (.str x)
  | tup {a : Addr} {vs : List V} {ds : List PyData} (n : Nv p a) (h : H a = some (.tup vs)) (l : vs.length = ds.length) (r : ∀ (i : Nat) (v : V) (d : PyData), vs[i]? = some v → ds[i]? = some d → Py p H v d) : Py p H (.ref a) (.tuple ds)
theorem Py.gr {p : Vo} {H H' : Hp} {v : V} {d : PyData} (x : Py p H v d) (g : Gr p H H') : Py p H' v d := by
  induction x with
  | non => exact .non
  | bl b => exact .bl b
  | int i => exact .int i
  | str s => exact .str s
  | tup n h l r ih => exact .tup n (g _ _ n h) l ih
theorem Py.of {p q : Vo} {H : Hp} {v : V} {d : PyData} (x : Py p H v d) (k : ∀ a, Nv p a → Nv q a) : Py q H v d := by
  induction x with
  | non => exact .non
  | bl b => exact .bl b
  | int i => exact .int i
  | str s => exact .str s
  | tup n h l r ih => exact .tup (k _ n) h l ih
theorem Py.non' {p : Vo} {H : Hp} {v : V} {d : PyData} (x : Py p H v d) : Py Vo.non H v d := x.of fun a _ => nv_non a
theorem Py.and {p : Vo} {H : Hp} {v : V} {d : PyData} {E : Addr} {o : HO} (x : Py p H v d) (e : H E = none) : Py (p.and E o) H v d := by
  induction x with
  | non => exact .non
  | bl b => exact .bl b
  | int i => exact .int i
  | str s => exact .str s
  | tup n h l r ih => exact .tup (n.and (ne_of_none h e).symm) h l ih
theorem Py.back {p : Vo} {H : Hp} {v : V} {d : PyData} {E : Addr} {o : HO} (x : Py (p.and E o) H v d) : Py p H v d := x.of fun a n => n.back
theorem vals_at : ∀ {vs : List V} {us : List Value} {i : Nat} {u : Value}, Vals vs us → us[i]? = some u → ∃ v, vs[i]? = some v ∧ RelV v u
  | _, _, _, _, .nil, e => by cases e
  | _, _, 0, _, .cons r k, e => ⟨_, rfl, by rw [← Option.some.inj e]; exact r⟩
  | _, _, i + 1, _, .cons r k, e => vals_at (i := i) k e
theorem readsAll_at {h : Heap} : ∀ {us : List Value} {ds : List PyData}, us.length = ds.length → (∀ (i : Nat) (u : Value) (d : PyData), us[i]? = some u → ds[i]? = some d → Reads h u d []) → ReadsAll h us ds []
  | [], [], _, _ => .nil
  | [], _ :: _, l, _ => by cases l
  | _ :: _, [], l, _ => by cases l
  | u :: us, d :: ds, l, k => .cons (as := []) (bs := []) (k 0 u d rfl rfl) (readsAll_at (by rw [List.length_cons, List.length_cons] at l; omega) fun i u' d' h1 h2 => k (i + 1) u' d' h1 h2)
section
variable {X : Cx}
theorem Py.reads {pins : List (Addr × Obj)} {s : Shared} {σ : L2.St} {p : Vo} {H : Hp} {v : V} {d : PyData} (I : Inv X pins σ H s) (x : Py p H v d) : ∀ {u : Value}, RelV v u → Reads s.heap u d [] := by
  induction x with
  | non => intro u r; cases (show u = Value.none from r); exact .none
  | bl b => intro u r; cases (show u = Value.bool b from r); exact .bool b
  | int i => intro u r; obtain ⟨t, rfl⟩ := (show ∃ t, u = Value.int i t from r); exact .int i t
  | str z => intro u r; obtain ⟨t, rfl⟩ := (show ∃ t, u = Value.str z t from r); exact .str z t
  | tup n h l r ih =>
    intro u ru
    rename_i a vs ds
    cases (show u = Value.ref a from ru)
    obtain ⟨its, rv, ⟨o, e1, e2, n, e4⟩, _⟩ := I.tuple (SqT.of h)
    refine .tuple e1 e2 e4 ?_
    rw [List.toList_toArray]
    exact readsAll_at (rv.length.symm.trans l) fun i u d h1 h2 => by
      obtain ⟨v, hv, r'⟩ := vals_at rv h1
      exact ih i v d hv h2 r'
/-- the repr of such a value -/
def rReprP : List V → Hp → VK → Prop := fun xs H Q => ∃ (v : V) (d : PyData), xs = [v] ∧ Py Vo.non H v d ∧ d.showable = true ∧ d.hasDict = false ∧ d.depth ≤ 20 ∧ d.shown.length ≤ sizeLine ∧ Q (.str d.shown) H
theorem call_reprP (hg : X.A.guards = some []) (hu : X.A.units + 64 < cLine) : CallR X (.builtin "repr") rReprP := by
  intro pins s σ H xs us Q I r h
  obtain ⟨v, d, rfl, x, h1, h2, h3, h4, q⟩ := h
  obtain ⟨u, rfl, rx⟩ := vals1 r
  have rd := x.reads I rx
  cases x with
  | non =>
    cases (show u = Value.none from rx)
    exact PySem.P.repr_of_none ⟨.str _, H, I.tok _, ⟨_, rfl⟩, q⟩
  | bl b =>
    cases (show u = Value.bool b from rx)
    exact PySem.P.repr_of_bool ⟨.str _, H, I.tok _, ⟨_, rfl⟩, q⟩
  | int i =>
    obtain ⟨t, rfl⟩ := (show ∃ t, u = Value.int i t from rx)
    exact PySem.P.repr_of_int (of_decide_eq_true (by simpa only [PyData.showable] using h1)) ⟨.str _, H, I.tok _, ⟨_, rfl⟩, by simpa only [PyData.shown] using q⟩
  | str z =>
    obtain ⟨t, rfl⟩ := (show ∃ t, u = Value.str z t from rx)
    exact PySem.P.repr_of_str ⟨.str _, H, I.tok _, ⟨_, rfl⟩, by simpa only [PyData.shown] using q⟩ (by simpa only [PyData.shown] using h4)
  | @tup a vs ds n h l r =>
    cases (show u = Value.ref a from rx)
    refine repr_of_reads' rd h1 (PyData.noDict_hsm h2) hg ?_ (fun _ _ e => e) (fun h' t tk hk => ?_) h4
    · omega
    · exact ⟨.str _, H, I.kept hk, ⟨_, rfl⟩, q⟩
/-- == and != of two such values -/
def rEqP (b : Bool) : R2 := fun x y H Q => ∃ d d' : PyData, Py Vo.non H x d ∧ Py Vo.non H y d' ∧ SeqAt.shaped d = true ∧ SeqAt.shaped d' = true ∧ Q (.bl (if b then PyData.eqv d d' else !PyData.eqv d d')) H
theorem op_eqP (hu : X.A.units + 64 < cLine) : OpR X (compareOp .Eq) (rEqP true) := by
  intro pins s σ H x y v u Q I rx ry h
  obtain ⟨d, d', h1, h2, h3, h4, q⟩ := h
  exact SeqAt.compareEq_shaped (h1.reads I rx) (h2.reads I ry) h3 h4 hu ⟨.bl _, H, I, rfl, q⟩
theorem op_neP (hu : X.A.units + 64 < cLine) : OpR X (compareOp .NotEq) (rEqP false) := by
  intro pins s σ H x y v u Q I rx ry h
  obtain ⟨d, d', h1, h2, h3, h4, q⟩ := h
  exact SeqAt.compareNe_shaped (h1.reads I rx) (h2.reads I ry) h3 h4 hu ⟨.bl _, H, I, rfl, q⟩
end
end Hk
namespace Hk
open PySem PySem.Spec PyProof.Rows L2
/-! ### wide ints; lists of values by == -/
section
variable {X : Cx}
def CFdB (_ j : Int) : Prop := j ≠ 0 ∧ j.natAbs.log2 < 9000
def rFdB : R2 := rI CFdB fun i j => .int (i.fdiv j)
def rFmB : R2 := rI (fun _ j => j ≠ 0) fun i j => .int (i.fmod j)
def rMulB : R2 := rI CMulX fun i j => .int (i * j)
theorem op_fdivB : OpR X (binaryOp .FloorDiv) rFdB := opI fun _ _ _ _ _ _ _ hc q => floordiv_int hc.1 q (.inl (PyProof.noPylong_of_log2 hc.2))
theorem op_mulB : OpR X (binaryOp .Mult) rMulB := op_mulX
theorem op_fmB : OpR X (binaryOp .Mod) rFmB := op_modN
/-- a list of values -/
structure PyL (H : Hp) (v : V) (ds : List PyData) : Prop where
  ex : ∃ a vs, v = .ref a ∧ H a = some (.lst vs) ∧ vs.length = ds.length ∧ ∀ (i : Nat) (v : V) (d : PyData), vs[i]? = some v → ds[i]? = some d → Py Vo.non H v d
theorem PyL.reads {pins : List (Addr × Obj)} {s : Shared} {σ : L2.St} {H : Hp} {v : V} {ds : List PyData} (I : Inv X pins σ H s) (x : PyL H v ds) {u : Value} (ru : RelV v u) : ∃ as, Reads s.heap u (.list ds) as := by
  obtain ⟨a, vs, rfl, h, l, r⟩ := x.ex
  cases (show u = Value.ref a from ru)
  obtain ⟨its, rv, ⟨o, n, e1, e2, _, e4⟩, _⟩ := I.list (SqL.of h)
  refine ⟨a :: [], .list e1 e2 e4 ?_⟩
  rw [List.toList_toArray]
  exact readsAll_at (rv.length.symm.trans l) fun i u d h1 h2 => by
    obtain ⟨v, hv, r'⟩ := vals_at rv h1
    exact (r i v d hv h2).reads I r'
def rEqX (b : Bool) : R2 := fun x y H Q => ∃ ds es : List PyData, PyL H x ds ∧ PyL H y es ∧ SeqAt.shaped (.list ds) = true ∧ SeqAt.shaped (.list es) = true ∧ Q (.bl (if b then PyData.eqvAll ds es else !PyData.eqvAll ds es)) H
theorem op_eqX (hu : X.A.units + 64 < cLine) : OpR X (compareOp .Eq) (rEqX true) := by
  intro pins s σ H x y v u Q I rx ry h
  obtain ⟨ds, es, h1, h2, h3, h4, q⟩ := h
  obtain ⟨as, r1⟩ := h1.reads I rx
  obtain ⟨bs, r2⟩ := h2.reads I ry
  refine SeqAt.compareEq_shaped r1 r2 h3 h4 hu ⟨.bl _, H, I, rfl, ?_⟩
  simp only [PyData.eqv]
  exact q
theorem op_neX (hu : X.A.units + 64 < cLine) : OpR X (compareOp .NotEq) (rEqX false) := by
  intro pins s σ H x y v u Q I rx ry h
  obtain ⟨ds, es, h1, h2, h3, h4, q⟩ := h
  obtain ⟨as, r1⟩ := h1.reads I rx
  obtain ⟨bs, r2⟩ := h2.reads I ry
  refine SeqAt.compareNe_shaped r1 r2 h3 h4 hu ⟨.bl _, H, I, rfl, ?_⟩
  simp only [PyData.eqv]
  exact q
end
end Hk
namespace Hk
open PySem PySem.Spec PyProof.Rows L2
/-! ### this datum; a list of just these -/
def sdx (p : Vo) (d : D) : Sy p := ⟨fun v H => Dat p H v d, fun v H H' g h => h.gr g⟩
def DatL (p : Vo) (H : Hp) (ws : List V) (ds : List D) : Prop := ws.length = ds.length ∧ ∀ (i : Nat) (v : V) (d : D), ws[i]? = some v → ds[i]? = some d → Dat p H v d
theorem DatL.gr {p : Vo} {H H' : Hp} {ws : List V} {ds : List D} (x : DatL p H ws ds) (g : Gr p H H') : DatL p H' ws ds := ⟨x.1, fun i v d h1 h2 => (x.2 i v d h1 h2).gr g⟩
theorem DatL.of {p q : Vo} {H : Hp} {ws : List V} {ds : List D} (x : DatL p H ws ds) (k : ∀ a, Nv p a → Nv q a) : DatL q H ws ds := ⟨x.1, fun i v d h1 h2 => (x.2 i v d h1 h2).of k⟩
theorem DatL.nil {p : Vo} {H : Hp} : DatL p H [] [] := ⟨rfl, fun i v d h => by cases h⟩
theorem DatL.cons {p : Vo} {H : Hp} {v : V} {d : D} {ws : List V} {ds : List D} (h : Dat p H v d) (x : DatL p H ws ds) : DatL p H (v :: ws) (d :: ds) := by
  refine ⟨by rw [List.length_cons, List.length_cons, x.1], fun i u e h1 h2 => ?_⟩
  cases i with
  | zero =>
    rw [← Option.some.inj h1, ← Option.some.inj h2]
    exact h
  | succ i => exact x.2 i u e h1 h2
def slDx (p : Vo) (ds : List D) : Sy p := sl (fun ws H => DatL p H ws ds) fun ws H H' g h => h.gr g
section
variable {p : Vo} {σ : L2.St} {H : Hp} {K : PySem.W.Frag} {te ta tb : TE} {tr : TA} {j : Nat} {vs : List Nat} {A B C : Sy p}
theorem cw_turnL {C : Nat → List V → Hp → Prop} {D : Addr} (st : ∀ o i acc H1 H2, Gr (p.and D o) H1 H2 → C i acc H1 → C i acc H2) {i : Nat} {te : TE} {σ2 : L2.St} {A : ∀ q : Vo, Sy q} {H' : Hp} (w : Cw p H D C i H') (hi : i < 16000000)
    (he : ∀ l : List V, Ev (p.and D (.lst l)) te σ2 H (A (p.and D (.lst l))))
    (hc : ∀ acc y H1 (l : List V), Gr p H H1 → Iv (p.and D (.lst l)) H1 → acc.length = i → C i acc H1 → (A (p.and D (.lst l))).P y H1 → C (i + 1) (acc ++ [y]) H1) :
    tYes σ2 H' fun b H3 => if b = true then te σ2 H3 fun y H4 => ∃ acc, H4 D = some (.lst acc) ∧ acc.length < sizeLine ∧ Cw p H D C (i + 1) (upd H4 D (.lst (acc ++ [y]))) else Cw p H D C (i + 1) H3 := by
  obtain ⟨iv, hD, nD, g, acc, ha, hl, c⟩ := w
  show te σ2 H' fun y H4 => ∃ acc, H4 D = some (.lst acc) ∧ acc.length < sizeLine ∧ Cw p H D C (i + 1) (upd H4 D (.lst (acc ++ [y])))
  have g1 : Gr (p.and D (.lst acc)) H H' := fun b o n h => g b o n.back h
  refine he acc H' (iv.and ha nD) g1 _ fun y H4 i4 g4 ay => ?_
  have aD : H4 D = some (.lst acc) := i4.ex (D, .lst acc) List.mem_cons_self
  have g5 : Gr p H' H4 := fun b o n h => by
    by_cases e : D = b
    · rw [← e] at h ⊢
      rw [ha] at h
      rw [aD, ← h]
    · exact g4 b o (n.and e) h
  have g6 : Gr (p.and D (.lst acc)) H4 (upd H4 D (.lst (acc ++ [y]))) := fun b o n h => by
    rw [upd_ne n.ne.symm]
    exact h
  refine ⟨acc, aD, by rw [sizeLine_eq]; omega, i4.back.upd nD, hD, nD, (g.trans g5).mut hD, acc ++ [y], upd_same, by rw [List.length_append, hl]; rfl, ?_⟩
  exact st (.lst acc) _ _ _ _ g6 (hc acc y H4 acc (g.trans g5) i4 hl (st (.lst acc) _ _ _ _ g4 c) ay)
/-- a comprehension over a tuple, or a list, of data whose items are data -/
theorem turns {es : List D} {g : D → D} {xs : List V} {H2 : Hp} {D' : Addr} (hl : xs.length = es.length) (hz : xs.length ≤ 100000) (i2 : Iv p H2) (hD : H2 D' = none)
    (he : ∀ (i : Nat) (x : V) (d : D) (l : List V), xs[i]? = some x → es[i]? = some d → Ev (p.and D' (.lst l)) te ((wipe σ vs).set j (some x)) H2 (sdx (p.and D' (.lst l)) (g d))) (i : Nat) (x : V) (H' : Hp) (hi : xs[i]? = some x)
    (w : Cw p H2 D' (fun _ acc H => ∀ (m : Nat) (v : V) (d : D), acc[m]? = some v → (es.map g)[m]? = some d → Dat (p.and D' (.lst [])) H v d) i H') :
    tYes ((wipe σ vs).set j (some x)) H' fun b H3 => if b = true then te ((wipe σ vs).set j (some x)) H3 fun y H4 => ∃ acc, H4 D' = some (.lst acc) ∧ acc.length < sizeLine ∧ Cw p H2 D' (fun _ acc H => ∀ (m : Nat) (v : V) (d : D), acc[m]? = some v → (es.map g)[m]? = some d → Dat (p.and D' (.lst [])) H v d) (i + 1) (upd H4 D' (.lst (acc ++ [y])))
      else Cw p H2 D' (fun _ acc H => ∀ (m : Nat) (v : V) (d : D), acc[m]? = some v → (es.map g)[m]? = some d → Dat (p.and D' (.lst [])) H v d) (i + 1) H3 := by
  have hlt := (List.getElem?_eq_some_iff.mp hi).1
  refine cw_turnL (A := fun q => ⟨fun v H => ∀ d, (es.map g)[i]? = some d → Dat q H v d, fun v H H' g h d e => (h d e).gr g⟩) (fun o m acc H1 H2 gg h k v d e1 e2 => ?_) w (by omega) (fun o => ?_) fun acc y H1 lo g2 i2 hl ha hy m v d e1 e2 => ?_
  · exact (Dat.gr ((h k v d e1 e2).of fun b (nb : Nv (p.and D' (.lst [])) b) => (nb.back.and nb.ne : Nv (p.and D' o) b)) gg).of fun b (nb : Nv (p.and D' o) b) => nb.back.and nb.ne
  · have hd : es[i]? = some es[i] := List.getElem?_eq_getElem (by omega)
    refine (he i x _ o hi hd).imp fun v H hv d e => ?_
    rw [List.getElem?_map, hd] at e
    rw [← Option.some.inj e]
    exact hv
  · by_cases hm : m < acc.length
    · rw [List.getElem?_append_left hm] at e1
      exact ha m v d e1 e2
    · rw [List.getElem?_append_right (by omega)] at e1
      have : m - acc.length = 0 := by
        have := (List.getElem?_eq_some_iff.mp e1).1
        rw [List.length_singleton] at this
        omega
      rw [this] at e1
      rw [← Option.some.inj e1]
      have em : m = i := by omega
      rw [em] at e2
      exact (hy d e2).of fun b (nb : Nv (p.and D' (.lst lo)) b) => nb.back.and nb.ne
theorem turned {es : List D} {g : D → D} {xs : List V} {H2 H' : Hp} {D' : Addr} (hl : xs.length = es.length)
    (w : Cw p H2 D' (fun _ acc H => ∀ (m : Nat) (v : V) (d : D), acc[m]? = some v → (es.map g)[m]? = some d → Dat (p.and D' (.lst [])) H v d) xs.length H') : (slDx p (es.map g)).P (.ref D') H' := by
  obtain ⟨_, _, nD, _, acc, ha, hla, c⟩ := w
  exact ⟨D', acc, rfl, nD, ha, by rw [hla, List.length_map, hl], fun i v d h1 h2 => (c i v d h1 h2).back⟩
theorem lcT_dat {ts : TE} {es : List D} {g : D → D} (hx : Ev p ts σ H (sdx p (.tup es))) (hw : ∀ x, wipe ((wipe σ vs).set j (some x)) vs = wipe σ vs)
    (he : ∀ (x : V) (d : D) E (l : List V) H1, Gr p H H1 → H1 E = none → d ∈ es → Dat (p.and E (.lst l)) H1 x d → Ev (p.and E (.lst l)) te ((wipe σ vs).set j (some x)) H1 (sdx (p.and E (.lst l)) (g d))) : Ev p (tLc (iTup K ts) (gName j) tYes te vs) σ H (slDx p (es.map g)) := by
  intro H0 i0 g0 Q q
  refine hx H0 i0 g0 _ fun v H2 i2 g2 hv => ?_
  have hv : Dat p H2 v (.tup es) := hv
  cases hv with
  | @tup a xs ds na h l hz r =>
    refine ⟨a, rfl, ⟨xs, SqT.of h⟩, fun D' hD => lc_tup (xs := xs) (Cw p H2 D' _) (cw0 i2 hD fun m v d e => by cases e) (fun i H' _ w => SqT.of (w.2.2.2.1 a _ na h)) (fun i x H' hi w => ⟨hw _, turns l hz i2 hD (fun i x d o h1 h2 => he x d D' o H2 (g0.trans g2) hD (List.mem_of_getElem? h2) ((r i x d h1 h2).and hD)) i x H' hi w⟩) fun H' w => q _ H' w.1 (g2.trans w.2.2.2.1) (turned l w)⟩
theorem lcL_dat {ts : TE} {es : List D} {g : D → D} (hx : Ev p ts σ H (slDx p es)) (hes : es.length ≤ 100000) (hw : ∀ x, wipe ((wipe σ vs).set j (some x)) vs = wipe σ vs)
    (he : ∀ (x : V) (d : D) E (l : List V) H1, Gr p H H1 → H1 E = none → d ∈ es → Dat (p.and E (.lst l)) H1 x d → Ev (p.and E (.lst l)) te ((wipe σ vs).set j (some x)) H1 (sdx (p.and E (.lst l)) (g d))) : Ev p (tLc (iList K ts) (gName j) tYes te vs) σ H (slDx p (es.map g)) := by
  intro H0 i0 g0 Q q
  refine hx H0 i0 g0 _ fun v H2 i2 g2 hv => ?_
  obtain ⟨a, xs, rfl, na, h, l, r⟩ := hv
  refine ⟨a, rfl, ⟨xs, SqL.of h⟩, fun D' hD => lc_list (xs := xs) (Cw p H2 D' _) (cw0 i2 hD fun m v d e => by cases e) (fun i H' _ w => SqL.of (w.2.2.2.1 a _ na h)) (fun i x H' hi w => ⟨hw _, turns l (by omega) i2 hD (fun i x d o h1 h2 => he x d D' o H2 (g0.trans g2) hD (List.mem_of_getElem? h2) ((r i x d h1 h2).and hD)) i x H' hi w⟩) fun H' w => q _ H' w.1 (g2.trans w.2.2.2.1) (turned l w)⟩
/-- a new tuple of data -/
theorem dat_tupL {ws : List V} {ds : List D} {H1 : Hp} {a : Addr} (x : DatL p H1 ws ds) (hz : ws.length ≤ 100000) (i1 : Iv p H1) (ha : H1 a = none) : Dat p (upd H1 a (.tup ws)) (.ref a) (.tup ds) :=
  .tup (i1.ne ha) upd_same x.1 hz fun i v d h1 h2 => (x.2 i v d h1 h2).gr (Gr.new ha)
end
/-! ### a call of a local name that holds a def -/
def tCallH (i : Nat) (Hd : Addr → Sp → Prop) (t : TA) : TE := fun σ H Q => ∃ f sp, σ[i]? = some (some (.ref f)) ∧ Hd f sp ∧ t σ H fun vs H1 => sp vs H1 Q E0
section
variable {X : Cx} {k i : Nat} {x : Str} {p pos : Pos} {e : Expr} {es : List Expr} {t : TA}
theorem pe_callH {Hd : Addr → Sp → Prop} (A : ∀ f sp, Hd f sp → Held X.prog X.w X.K X.mg X.base k f sp) (hr : Room k X.A) (hN : X.N[i]? = some x) (hv : Vis X.env.scope x) (ha : PA X (e :: es) t)
    (hdb : (x == ("__debug__" : Str)) = false := by decide) (hcd : (x == ("__classdict__" : Str)) = false := by decide)
    (he : starEach (e :: es) X.env = (false, eval e X.env) :: starEach es X.env := by rfl) (hpl : (backTo pos (starEach es X.env)).any (·.1) = false := by rfl) : PE X (.Call (.Name x p) (e :: es) [] pos) (tCallH i Hd t) := by
  constructor
  intro pins s σ H Q I ⟨f, sp, hs, hd, ht⟩
  refine (pe_callA (S := fun a => if a = f then some sp else none) (fun f' sp' h => ?_) hr hN hv ha hdb hcd he hpl).run pins s σ H Q I ⟨f, sp, hs, if_pos rfl, ht⟩
  by_cases e : f' = f
  · have h2 : some sp = some sp' := (if_pos e).symm.trans h
    rw [e, ← Option.some.inj h2]
    exact A f sp hd
  · cases (if_neg e).symm.trans h
end
section
variable {P : Program} {w : World} {K : PySem.W.Frag} {mg : Str → Option Value} {base : Heap}
theorem held_of {k : Nat} {x : Str} {sp : Sp} {f : Addr} (c : Ca P w K mg base k x sp) (g : mg x = some (.ref f)) : Held P w K mg base k f sp := by
  obtain ⟨f', fd, ps, F, hm, kp, b⟩ := c.ex
  have e : f' = f := by
    have := hm.symm.trans g
    injection this with h
    injection h
  rw [← e]
  exact ⟨fd, ps, F, kp, b⟩
theorem ixD {X : Cx} {w : World} (h : X.K = K) (h2 : X.w = w) : IxR X (rIxD K w) := by
  subst h h2
  exact ix_kdict
end
end Hk
namespace Hk
open PySem PySem.Spec PyProof.Rows L2
/-! questions to a text that take nothing -/
section
variable {X : Cx} {o : Expr} {to : TE} {apos pos : Pos}
def rTx (f : Str → Bool) : V → List V → Hp → VK → Prop := fun x xs H Q => ∃ a, x = .str a ∧ xs = [] ∧ True ∧ Q (.bl (f a)) H
theorem mq_isascii : MtR X "str.isascii" (rTx Txt.isascii) :=
  mt0 (C := fun _ => True) (g := fun a => .bl (Txt.isascii a)) fun _ _ s _ _ h => PySem.SC.isascii (h _ s.toks rfl)
theorem mq_islower : MtR X "str.islower" (rTx Txt.islower) :=
  mt0 (C := fun _ => True) (g := fun a => .bl (Txt.islower a)) fun _ _ s _ _ h => PySem.SC.islower (h _ s.toks rfl)
theorem pe_isascii (ho : PE X o to) (hbase : attributeBase o "isascii" X.env (eval o X.env) = eval o X.env := by rfl) (hline : (apos.endLine == pos.line) = true := by rfl) :
    PE X (.Call (.Attribute o "isascii" apos) [] [] pos) (tM0 (rTx Txt.isascii) to) := pe_m0 F.slot_str_isascii F.type_str_isascii mq_isascii ho hbase hline
theorem pe_isalpha (ho : PE X o to) (hbase : attributeBase o "isalpha" X.env (eval o X.env) = eval o X.env := by rfl) (hline : (apos.endLine == pos.line) = true := by rfl) :
    PE X (.Call (.Attribute o "isalpha" apos) [] [] pos) (tM0 (rTx Txt.isalpha) to) := pe_m0 F.slot_str_isalpha F.type_str_isalpha mt_isalpha ho hbase hline
theorem pe_islower (ho : PE X o to) (hbase : attributeBase o "islower" X.env (eval o X.env) = eval o X.env := by rfl) (hline : (apos.endLine == pos.line) = true := by rfl) :
    PE X (.Call (.Attribute o "islower" apos) [] [] pos) (tM0 (rTx Txt.islower) to) := pe_m0 F.slot_str_islower F.type_str_islower mq_islower ho hbase hline
end
section
variable {p : Vo} {to : TE} {σ : L2.St} {H : Hp} {s : Str}
theorem x_tx {f : Str → Bool} (h : Ev p to σ H (sx (.str s))) : Ev p (tM0 (rTx f) to) σ H (sx (.bl (f s))) := fun H1 i g Q q =>
  h H1 i g _ fun v H2 i2 g2 e => ⟨⟨s, e⟩, s, e, rfl, trivial, q _ H2 i2 g2 rfl⟩
end
/-! a text of small letters, asked in another way -/
def az : List Nat := [97, 98, 99, 100, 101, 102, 103, 104, 105, 106, 107, 108, 109, 110, 111, 112, 113, 114, 115, 116, 117, 118, 119, 120, 121, 122]
def upT (c : Nat) : Bool := Unicode.isUpper c || Unicode.isTitle c
theorem az_one : ∀ c, c < 128 → (decide (c < 128) && (Unicode.isAlpha c && !upT c)) = decide (c ∈ az) := by decide +kernel
theorem az_low : ∀ c ∈ az, Unicode.isLower c = true := by decide +kernel
theorem az_lt : ∀ c ∈ az, c < 128 := by decide +kernel
theorem az_any (c : Nat) : (decide (c < 128) && (Unicode.isAlpha c && !upT c)) = decide (c ∈ az) := by
  by_cases h : c < 128
  · exact az_one c h
  · rw [decide_eq_false h, decide_eq_false fun e => h (az_lt c e)]; rfl
theorem az_all : ∀ l : List Nat, (l.all (fun c => decide (c < 128)) && (l.all Unicode.isAlpha && !l.any upT)) = l.all fun c => decide (c ∈ az)
  | [] => rfl
  | c :: r => by
    rw [List.all_cons, List.all_cons, List.any_cons, List.all_cons, ← az_all r, ← az_any c]
    generalize decide (c < 128) = a1
    generalize Unicode.isAlpha c = a2
    generalize upT c = a3
    generalize r.all (fun c => decide (c < 128)) = a4
    generalize r.all Unicode.isAlpha = a5
    generalize r.any upT = a6
    revert a1 a2 a3 a4 a5 a6
    decide
theorem az_text {s : Str} {r : Bool} (h : s.length > 0) : (Txt.isascii s && (Txt.isalpha s && (Txt.islower s && r))) = (s.cps.toList.all (fun c => decide (c ∈ az)) && r) := by
  have e := az_all s.cps.toList
  have hl : (s.cps.toList.all fun c => decide (c ∈ az)) = true → s.cps.toList.any Unicode.isLower = true := fun ha => by
    have h' : s.cps.toList ≠ [] := fun e' => by
      have : s.cps.toList.length = 0 := by rw [e']; rfl
      rw [Array.length_toList] at this
      exact absurd this (by have : s.length = s.cps.size := rfl; omega)
    obtain ⟨c, l, hc⟩ := List.exists_cons_of_ne_nil h'
    rw [hc, List.all_cons] at ha
    rw [hc, List.any_cons, az_low c (of_decide_eq_true (Bool.and_eq_true_iff.mp ha).1)]
    rfl
  rw [show Txt.isascii s = s.cps.toList.all (fun c => decide (c < 128)) from by unfold Txt.isascii; rw [← Array.all_toList],
    show Txt.isalpha s = s.cps.toList.all Unicode.isAlpha from by unfold Txt.isalpha; rw [← Array.all_toList, decide_eq_true h]; rfl,
    show Txt.islower s = (s.cps.toList.any Unicode.isLower && !s.cps.toList.any upT) from by unfold Txt.islower; rw [← Array.any_toList, ← Array.any_toList]; rfl]
  rw [← e] at hl ⊢
  revert hl
  generalize s.cps.toList.all (fun c => decide (c < 128)) = a1
  generalize s.cps.toList.all Unicode.isAlpha = a2
  generalize s.cps.toList.any Unicode.isLower = a3
  generalize s.cps.toList.any upT = a4
  revert a1 a2 a3 a4 r
  decide
end Hk
namespace Hk
open PySem PySem.Spec PyProof.Rows L2
/-! ### comprehensions, item by item -/
structure Pt (α : Type) where
  T : Vo → Hp → V → α → Prop
  gr : ∀ {p : Vo} {H H' : Hp} {v : V} {e : α}, T p H v e → Gr p H H' → T p H' v e
  of : ∀ {p q : Vo} {H : Hp} {v : V} {e : α}, T p H v e → (∀ a, Nv p a → Nv q a) → T q H v e
  an : ∀ {p : Vo} {H : Hp} {v : V} {e : α} {E : Addr} {o : HO}, T p H v e → H E = none → T (p.and E o) H v e
def syP {α : Type} (p : Vo) (X : Pt α) (e : Option α) : Sy p := ⟨fun v H => ∀ x, e = some x → X.T p H v x, fun v H H' g h x ex => X.gr (h x ex) g⟩
def slP {α : Type} (p : Vo) (X : Pt α) (es : List α) : Sy p := sl (fun ws H => ws.length = es.length ∧ ∀ (i : Nat) (v : V) (e : α), ws[i]? = some v → es[i]? = some e → X.T p H v e) fun ws H H' g h => ⟨h.1, fun i v e h1 h2 => X.gr (h.2 i v e h1 h2) g⟩
section
variable {α β : Type} {p : Vo} {σ : L2.St} {H : Hp} {K : PySem.W.Frag} {te ta tb : TE} {tr : TA} {j : Nat} {vs : List Nat} {X : Pt α} {Y : Pt β} {es : List α} {fs : List β}
abbrev CwP (p : Vo) (X : Pt α) (es : List α) (H2 : Hp) (D : Addr) (i : Nat) (H' : Hp) : Prop := Cw p H2 D (fun _ acc H => ∀ (m : Nat) (v : V) (e : α), acc[m]? = some v → es[m]? = some e → X.T (p.and D (.lst [])) H v e) i H'
theorem ptTurn {σ2 : L2.St} {H2 : Hp} {D : Addr} {i : Nat} {H' : Hp} (hz : i < 100000)
    (he : ∀ l : List V, Ev (p.and D (.lst l)) te σ2 H2 (syP (p.and D (.lst l)) X es[i]?)) (w : CwP p X es H2 D i H') :
    tYes σ2 H' fun b H3 => if b = true then te σ2 H3 fun y H4 => ∃ acc, H4 D = some (.lst acc) ∧ acc.length < sizeLine ∧ CwP p X es H2 D (i + 1) (upd H4 D (.lst (acc ++ [y]))) else CwP p X es H2 D (i + 1) H3 := by
  refine cw_turnL (A := fun q => syP q X es[i]?) (fun o m acc H1 H2 gg h k v e e1 e2 => ?_) w (by omega) (fun o => he o) fun acc y H1 lo g2 i2 hl ha hy m v e e1 e2 => ?_
  · exact X.of (X.gr (X.of (h k v e e1 e2) fun b (nb : Nv (p.and D (.lst [])) b) => (nb.back.and nb.ne : Nv (p.and D o) b)) gg) fun b (nb : Nv (p.and D o) b) => nb.back.and nb.ne
  · by_cases hm : m < acc.length
    · rw [List.getElem?_append_left hm] at e1
      exact ha m v e e1 e2
    · rw [List.getElem?_append_right (by omega)] at e1
      have : m - acc.length = 0 := by
        have := (List.getElem?_eq_some_iff.mp e1).1
        rw [List.length_singleton] at this
        omega
      rw [this] at e1
      rw [← Option.some.inj e1]
      have em : m = i := by omega
      rw [em] at e2
      exact X.of (hy e e2) fun b (nb : Nv (p.and D (.lst lo)) b) => nb.back.and nb.ne
theorem ptDone {H2 H' : Hp} {D : Addr} {n : Nat} (hn : n = es.length) (w : CwP p X es H2 D n H') : (slP p X es).P (.ref D) H' := by
  obtain ⟨_, _, nD, _, acc, ha, hla, c⟩ := w
  exact ⟨D, acc, rfl, nD, ha, by rw [hla, hn], fun i v e h1 h2 => X.of (c i v e h1 h2) fun b nb => nb.back⟩
/-- over range(n), n items -/
theorem lcR_pt {n : Int} (hx : Ev p ta σ H (sx (.int n))) (hn : n = (es.length : Int)) (hz : es.length ≤ 100000) (hw : ∀ x, wipe ((wipe σ vs).set j (some x)) vs = wipe σ vs)
    (he : ∀ (i : Nat) D (l : List V) H1, i < es.length → Gr p H H1 → H1 D = none → Ev (p.and D (.lst l)) te ((wipe σ vs).set j (some (.int (0 + (i : Nat))))) H1 (syP (p.and D (.lst l)) X es[i]?)) :
    Ev p (tLc (iRng1 (tCons ta tNil)) (gName j) tYes te vs) σ H (slP p X es) := fun H0 i0 g0 Q q =>
  hx H0 i0 g0 _ fun v H1 i1 g1 e => ⟨n, by rw [show v = .int n from e], by omega, by omega, fun D hD => lc_range (lo := 0) (n := n.toNat) (CwP p X es H1 D) (cw0 i1 hD fun m v e h => by cases h)
    (fun i H' hi w => ⟨hw _, ptTurn (by omega) (fun l => he i D l H1 (by omega) (g0.trans g1) hD) w⟩) fun H' w => q _ H' w.1 (g1.trans w.2.2.2.1) (ptDone (by omega) w)⟩
/-- over a list that stands still, by any target -/
theorem lcL_pt {g : TG} {τ : V → β → L2.St} (hx : Ev p ta σ H (slP p Y fs)) (hl : fs.length = es.length) (hz : es.length ≤ 100000) (hw : ∀ x f, wipe (τ x f) vs = wipe σ vs)
    (hg : ∀ (i : Nat) (x : V) (f : β) (H' : Hp) (R : L2.St → Hp → Prop), fs[i]? = some f → Y.T p H' x f → R (τ x f) H' → g x (wipe σ vs) H' R)
    (he : ∀ (i : Nat) (x : V) (f : β) D (l : List V) H1, fs[i]? = some f → Gr p H H1 → H1 D = none → Y.T (p.and D (.lst l)) H1 x f → Ev (p.and D (.lst l)) te (τ x f) H1 (syP (p.and D (.lst l)) X es[i]?)) :
    Ev p (tLc (iList K ta) g tYes te vs) σ H (slP p X es) := by
  intro H0 i0 g0 Q q
  refine hx H0 i0 g0 _ fun v H2 i2 g2 hv => ?_
  obtain ⟨a, xs, rfl, na, h, l, r⟩ := hv
  refine ⟨a, rfl, ⟨xs, SqL.of h⟩, fun D' hD => lc_list (xs := xs) (CwP p X es H2 D') (cw0 i2 hD fun m v e h => by cases h) (fun i H' _ w => SqL.of (w.2.2.2.1 a _ na h)) (fun i x H' hi w => ?_) fun H' w => q _ H' w.1 (g2.trans w.2.2.2.1) (ptDone (by omega) w)⟩
  have hi2 : i < fs.length := by
    have := (List.getElem?_eq_some_iff.mp hi).1
    omega
  have hf := List.getElem?_eq_getElem hi2
  refine hg i x _ H' _ hf (Y.gr (r i x _ hi hf) w.2.2.2.1) ⟨hw _ _, ptTurn (by omega) (fun lo => he i x _ D' lo H2 hf (g0.trans g2) hD (Y.an (r i x _ hi hf) hD)) w⟩
end
/-! ### dicts made of pairs -/
def rDictP (K : PySem.W.Frag) : List V → Hp → VK → Prop := fun xs H Q => ∃ (a : Addr) (ps : List Addr) (kvs : List (Key × V)), xs = [.ref a] ∧ SqL K H a (ps.map V.ref) ∧ Paired (fun p kv => SqT K H p [kV kv.1, kv.2]) ps kvs ∧
    ∀ p, H p = none → Q (.ref p) (upd H p (.dK (mergeK [] kvs)))
theorem dictU {X : Cx} {K : PySem.W.Frag} (h : X.K = K) (hc : X.calm = true := by rfl) : CallR X (.type "dict") (rDictP K) := by
  subst h
  exact call_dictP hc
/-- a pair of a name and a value -/
def PairT {α : Type} (nm : α → Str) (R : Pt α) : Pt α where
  T p H v e := ∃ b w, v = .ref b ∧ Nv p b ∧ H b = some (.tup [.str (nm e), w]) ∧ R.T p H w e
  gr := fun ⟨b, w, h1, h2, h3, h4⟩ g => ⟨b, w, h1, h2, g b _ h2 h3, R.gr h4 g⟩
  of := fun ⟨b, w, h1, h2, h3, h4⟩ k => ⟨b, w, h1, k b h2, h3, R.of h4 k⟩
  an := fun ⟨b, w, h1, h2, h3, h4⟩ hE => ⟨b, w, h1, h2.and (ne_of_none h3 hE).symm, h3, R.an h4 hE⟩
section
variable {α : Type} {p : Vo} {σ : L2.St} {H : Hp} {K : PySem.W.Frag} {te ta tb : TE} {tr : TA} {nm : α → Str} {R : Pt α} {es : List α}
theorem pairs_out {H : Hp} : ∀ (es : List α) (ws : List V), ws.length = es.length → (∀ (i : Nat) (v : V) (e : α), ws[i]? = some v → es[i]? = some e → (PairT nm R).T p H v e) →
    ∃ (ps : List Addr) (us : List V), ws = ps.map V.ref ∧ us.length = es.length ∧ Paired (fun p kv => SqT K H p [kV kv.1, kv.2]) ps ((es.map fun e => (Sum.inr (nm e) : Key)).zip us) ∧ ∀ (i : Nat) (u : V) (e : α), us[i]? = some u → es[i]? = some e → R.T p H u e
  | [], [], _, _ => ⟨[], [], rfl, rfl, .nil, fun i u e h => by cases h⟩
  | [], _ :: _, h, _ => by cases h
  | _ :: _, [], h, _ => by cases h
  | e :: es, w :: ws, hl, h => by
    obtain ⟨b, u, rfl, nb, hb, hr⟩ := h 0 w e rfl rfl
    obtain ⟨ps, us, e1, e2, e3, e4⟩ := pairs_out es ws (by rw [List.length_cons, List.length_cons] at hl; omega) fun i v e h1 h2 => h (i + 1) v e h1 h2
    refine ⟨b :: ps, u :: us, by rw [e1]; rfl, by rw [List.length_cons, List.length_cons, e2], .cons (SqT.of hb) e3, fun i v f h1 h2 => ?_⟩
    cases i with
    | zero =>
      rw [← Option.some.inj h1, ← Option.some.inj h2]
      exact hr
    | succ i => exact e4 i v f h1 h2
/-- a dict of these names -/
def sdict (p : Vo) (nm : α → Str) (R : Pt α) (es : List α) : Sy p := ⟨fun v H => ∃ (t : Addr) (us : List V), v = .ref t ∧ Nv p t ∧ H t = some (.dK (mergeK [] ((es.map fun e => (Sum.inr (nm e) : Key)).zip us))) ∧ us.length = es.length ∧ ∀ (i : Nat) (u : V) (e : α), us[i]? = some u → es[i]? = some e → R.T p H u e,
  fun v H H' g ⟨t, us, h1, h2, h3, h4, h5⟩ => ⟨t, us, h1, h2, g t _ h2 h3, h4, fun i u e e1 e2 => R.gr (h5 i u e e1 e2) g⟩⟩
theorem x_dict (ha : Ev p ta σ H (slP p (PairT nm R) es)) : Ev p (tCB (rDictP K) (tCons ta tNil)) σ H (sdict p nm R es) := e_cb (a_cons ha a_nil) fun vs H1 iv g os => by
  obtain ⟨v, us, rfl, ⟨b, ws, rfl, nb, h1, hl, hw⟩, rfl⟩ := os
  obtain ⟨ps, us, rfl, l2, pr, hr⟩ := pairs_out (K := K) es ws hl hw
  exact rv_new iv (o := .dK _) (fun q nq hq i' g' => ⟨q, us, rfl, nq, upd_same, l2, fun i u e e1 e2 => R.gr (hr i u e e1 e2) g'⟩) fun Q q => ⟨b, ps, _, rfl, SqL.of h1, pr, q⟩
/-- one more item -/
theorem x_catP {e : α} (ha : Ev p ta σ H (slP p R es)) (hb : Ev p tb σ H (slP p R [e])) (hz : es.length ≤ 1000) : Ev p (tOp rAddU ta tb) σ H (slP p R (es ++ [e])) :=
  e_op ha hb fun x y H1 iv g ⟨b, ws, e1, nb, h1, hl, hw⟩ ⟨b', ws', e2, nb', h2, hl', hw'⟩ => rv_new iv (o := .lst (ws ++ ws')) (fun q nq hq i' g' => ⟨q, _, rfl, nq, upd_same, by rw [List.length_append, List.length_append, hl, hl'], fun i v f e1 e2 => by
    by_cases hm : i < ws.length
    · rw [List.getElem?_append_left hm] at e1
      rw [List.getElem?_append_left (by omega)] at e2
      exact R.gr (hw i v f e1 e2) g'
    · rw [List.getElem?_append_right (by omega)] at e1 e2
      rw [hl] at e1
      exact R.gr (hw' _ v f e1 e2) g'⟩) fun Q q => .inr (.inr ⟨b, b', ws, ws', e1, e2, h1, h2, by
        rw [hl, hl']
        have := sizeLine_eq
        show es.length + 1 ≤ _
        omega, q⟩)
/-- backwards -/
theorem x_rev (ha : Ev p ta σ H (slP p R es)) : Ev p (tRevL K ta) σ H (slP p R es.reverse) := fun H0 i0 g0 Q q =>
  ha H0 i0 g0 _ fun v H1 i1 g1 ⟨b, ws, e, nb, h1, hl, hw⟩ => ⟨b, ws, e, SqL.of h1, fun c hc => q _ _ (i1.new hc) (g1.trans (Gr.new hc)) ⟨c, ws.reverse, rfl, i1.ne hc, upd_same, by rw [List.length_reverse, List.length_reverse, hl], fun i v f e1 e2 => by
    have h2 : i < ws.length := by
      have := (List.getElem?_eq_some_iff.mp e1).1
      rwa [List.length_reverse] at this
    rw [List.getElem?_reverse h2] at e1
    rw [List.getElem?_reverse (by omega), ← hl] at e2
    exact R.gr (hw _ v f e1 e2) (Gr.new hc)⟩⟩
end
/-! ### repr of a dict -/
def kD : Key → PyData
  | .inl i => .int i
  | .inr x => .str x
def rReprD : List V → Hp → VK → Prop := fun xs H Q => ∃ (a : Addr) (kvs : List (Key × V)) (ps : List PyData), xs = [.ref a] ∧ H a = some (.dK kvs) ∧ kvs.length = ps.length ∧ (∀ (i : Nat) (kv : Key × V) (d : PyData), kvs[i]? = some kv → ps[i]? = some d → Py Vo.non H kv.2 d) ∧
  (PyData.dict ((kvs.map fun kv => kD kv.1).zip ps)).showable = true ∧ (PyData.dict ((kvs.map fun kv => kD kv.1).zip ps)).depth ≤ 40 ∧ (PyData.dict ((kvs.map fun kv => kD kv.1).zip ps)).shown.length ≤ sizeLine ∧ Q (.str (PyData.dict ((kvs.map fun kv => kD kv.1).zip ps)).shown) H
theorem reads_keys {P : Program} {w : World} {h : Heap} : ∀ {es : List DictEntry} {vs : List (Key × Value)} {kvs : List (Key × V)}, Pairs (mixKind P w) es vs → KV kvs vs → ReadsAll h (es.map (·.key)) (kvs.map fun kv => kD kv.1) []
  | [], _, _, .nil, .nil => .nil
  | e :: es, kv :: vs, kw :: kvs, .cons h1 h2 h3, .cons r rs => by
    refine .cons (as := []) (bs := []) ?_ (reads_keys h3 rs)
    show Reads h e.key (kD kw.1) []
    rw [r.1]
    rcases keyIs_shape (show keyIs kv.1 e.key = true from h1) with ⟨i, t, e1, e2⟩ | ⟨x, t, e1, e2⟩
    · rw [e1, e2]; exact .int i t
    · rw [e1, e2]; exact .str x t
theorem kv_at {α : Type} : ∀ {kvs : List (α × V)} {vs : List (α × Value)} {i : Nat} {u : α × Value}, KV kvs vs → vs[i]? = some u → ∃ v, kvs[i]? = some v ∧ RelV v.2 u.2
  | _, _, _, _, .nil, e => by cases e
  | _, _, 0, _, .cons r k, e => ⟨_, rfl, by rw [← Option.some.inj e]; exact r.2⟩
  | _, _, i + 1, _, .cons r k, e => kv_at (i := i) k e
theorem pairs_at {P : Program} {w : World} : ∀ {es : List DictEntry} {vs : List (Key × Value)} {i : Nat} {u : Value}, Pairs (mixKind P w) es vs → (es.map (·.val))[i]? = some u → ∃ kv, vs[i]? = some kv ∧ kv.2 = u
  | [], _, _, _, .nil, e => by cases e
  | e :: es, kv :: vs, 0, u, .cons h1 h2 h3, h => ⟨kv, rfl, by rw [← h2]; exact Option.some.inj h⟩
  | e :: es, kv :: vs, i + 1, u, .cons h1 h2 h3, h => pairs_at (i := i) h3 h
section
variable {X : Cx}
theorem call_reprD (hg : X.A.guards = some []) (hu : X.A.units + 64 < cLine) : CallR X (.builtin "repr") rReprD := by
  intro pins s σ H xs us Q I r h
  obtain ⟨a, kvs, ps, rfl, hH, hl, hp, h1, h3, h4, q⟩ := h
  obtain ⟨u, rfl, rx⟩ := vals1 r
  cases (show u = Value.ref a from rx)
  obtain ⟨hz, hsm, vs, rel, o, es, ep, e1, e2, e3, e4, e5, e6⟩ := dk_of I.hok hH
  have lk : es.toList.length = kvs.length := by rw [e5.length, ← rel.length]
  have rd : Reads s.heap (.ref a) (.dict ((kvs.map fun kv => kD kv.1).zip ps)) (a :: [] ++ []) := by
    refine .dict e1 e2.1 e3 ?_ ?_
    · rw [List.map_fst_zip (by rw [List.length_map, hl]; exact Nat.le_refl _)]
      exact reads_keys e5 rel
    · rw [List.map_snd_zip (by rw [List.length_map, hl]; exact Nat.le_refl _)]
      refine readsAll_at (by rw [List.length_map, lk, hl]) fun i u d h1 h2 => ?_
      obtain ⟨kv, ek, eu⟩ := pairs_at e5 h1
      obtain ⟨v, ev, rv⟩ := kv_at rel ek
      rw [eu] at rv
      exact (hp i v d ev h2).reads I rv
  refine repr_of_reads' rd h1 (fun _ hm => ?_) hg ?_ (fun _ _ e => e) (fun h' t tk hk => ?_) h4
  · have : sysModules = a := by simpa using hm
    rw [← this] at hsm
    exact absurd (beq_self_eq_true sysModules) (by rw [hsm]; exact Bool.false_ne_true)
  · omega
  · exact ⟨.str _, H, I.kept hk, ⟨_, rfl⟩, q⟩
end
/-! ### a call by keywords alone -/
section
variable {X : Cx} {CX : CXT} {k : Nat} {f : Addr} {fd : FuncData} {ps ks : List Str} {sp : Sp} {E : XK} {x : Str} {p pos : Pos} {kws : List Keyword} {tk : TA} {g : List Value → List Value → List Value} {gV : List V → List V → List V}
theorem pe_callN0 (F : FnOk X.prog X.w X.K X.mg X.base CX k f fd ps sp) (hr : Room k X.A) (hg : Gl X x) (hm : X.mg x = some (.ref f)) (hk : PySem.W.keepIn X.K (.ref f) = true) (hb : KBn X.K fd ps 0 ks g gV) (hx : Passes CX X E)
    (hkw : PK X kws tk) (hall : (backToKw pos (keywordEach kws X.env)).all (·.1.isSome) = true := by rfl) (hks : (backToKw pos (keywordEach kws X.env)).filterMap (·.1) = ks := by rfl)
    (hdb : (x == ("__debug__" : Str)) = false := by decide)
    (hpl : ((backTo pos (starEach [] X.env)).any (·.1) || (backToKw pos (keywordEach kws X.env)).any (·.1.isNone)) = false := by rfl) :
    PE X (.Call (.Name x p) [] kws pos) (tCallN 0 ks.length sp gV E tNil tk) := by
  refine ⟨fun pins s σ H Q I h => ?_⟩
  refine wpAny_Call_Name_kw (ld_glob I hg hm ?_ hdb)
  refine PySem.W.callWith_KW0 (h₀ := X.base) I.ok.mod.kin hk hall ?_ hpl
  refine thn (hkw.run pos pins s σ H _ I h) fun ws s2 ⟨zs, H2, I2, rz, l1, l2, q2⟩ => ⟨I2.kIn, ?_⟩
  rw [hks]
  exact run_fnN (us := []) (vs := []) F hr hb hx I2 .nil rz rfl l2 q2
end
end Hk
namespace Hk
open PySem PySem.Spec PyProof.Rows L2
theorem pe_revU {X : Cx} {K : PySem.W.Frag} {e : Expr} {te : TE} {k : Nat} {p1 p2 p3 pos : Pos} (h : X.K = K) (he : PE X e te) : PE X (.Subscript e (.Slice none none (some (.UnaryOp .USub (.Constant (.int 1) k p1) p2)) p3) pos) (tRevL K te) := h ▸ pe_revL he
end Hk
/-! An own error: class E(B), class B(ValueError), whose __init__ says super().__init__(a text) and keeps its argument. -/
namespace PySem
namespace HkE
open PySem.W PySem.Calls PyProof.Rows PySem.HandSPX
/-- the text of __init__(self, value): super().__init__(z); self.value = value -/
def iA (p1 p2 : Pos) : Arguments := { posonlyargs := [], args := [{ arg := "self", annotation := none, pos := p1 }, { arg := "value", annotation := none, pos := p2 }], vararg := none, kwonlyargs := [], kw_defaults := [], kwarg := none, defaults := [] }
def iB (z : Str) (k : Nat) (q0 q1 q2 q3 q4 q5 q6 q7 q8 q9 : Pos) : List Stmt := [.Expr (.Call (.Attribute (.Call (.Name "super" q0) [] [] q1) "__init__" q2) [.Constant (.str z) k q3] [] q4) q5, .Assign [.Attribute (.Name "self" q6) "value" q7] (.Name "value" q8) q9]
def iS : Scope := { kind := .function, names := [(PySem.Str.ofString "self", .local), (PySem.Str.ofString "value", .local), (PySem.Str.ofString "__class__", .free), (PySem.Str.ofString "super", .globalImplicit)], isGenerator := false, isCoroutine := false, more := [] }
/-- what the written part says of the class at C, of its __init__ at fI -/
structure ErrTxt (K : Frag) (file : Str) (C fI : Addr) : Prop where
  cls : ∃ nm q N bs bm sn sub ab col dd k0 k1 k2 k3 k5, K.lookup C = some (excClassObj nm q C N bs bm true sn sub ab col dd k0 k1 k2 k3 k5 "ValueError.__new__") ∧ refsVE bm = true
  sa : findIn K (.ref C) "__setattr__" = some (some (.builtin "object.__setattr__"))
  noN : findIn K (.ref C) "value" = some none
  iC : findIn K (.ref C) "__init__" = some (some (.ref fI))
  tC : typeIn K (.ref fI) = some (.type "function")
  kC : keepIn K (.ref C) = true
  exC : subIn K (.ref C) (.type "BaseException") = some true
  exV : subIn K (.ref C) (.type "ValueError") = some true
  own : mroIn K C (.ref C) = some true
  sup : ks_superIn K C C "__init__" = some (some (.builtin "ValueError.__init__"))
  tyC : typeIn K (.ref C) = some (.type "type")
  hdC : hasDictIn K C = true
  noA : nsIn K cStatics "thirdparty.any" = some none
  fn : ∃ (oc : Value) (od : Option Addr) (qual : Str) (doc pm : Value) (an : Option Addr) (cda cc : Addr) (ct : Value) (osl : Array (Option Value)) (z : Str) (k : Nat) (p1 p2 q0 q1 q2 q3 q4 q5 q6 q7 q8 q9 : Pos) (ccl cl : Value) (cdd cld : Option Addr) (vs : Array Value) (ccs csl : Array (Option Value)) (tf : Tok),
    K.lookup fI = some ⟨oc, od, .func (ksFn "__init__" qual (iA p1 p2) (iB z k q0 q1 q2 q3 q4 q5 q6 q7 q8 q9) iS .none .none doc pm an (.ref cda) ct cc), osl⟩ ∧ codeIn K (.ref cda) qual = true ∧
    K.lookup cda = some ⟨ccl, cdd, .fields vs, ccs⟩ ∧ vs[2]? = some (.str file tf) ∧ K.lookup cc = some ⟨cl, cld, .cell (some (.ref C)), csl⟩ ∧ (q2.endLine == q4.line) = true
theorem len1 (v : Value) : [v].length ≤ sizeLine := by
  rw [sizeLine_eq]
  exact (by decide : 1 ≤ 16777216)
theorem in_but {K : Frag} {h h' : Heap} {x : Addr} (X : K.In h) (hx : K.lookup x = none) (k : ∀ b o, b ≠ x → h.get? b = some o → h'.get? b = some o) : K.In h' := fun a o e =>
  k a o (fun z => by rw [z, hx] at e; cases e) (X a o e)
theorem call_line {o : Expr} {name : Str} {apos pos : Pos} {args : List Expr} {env : Env} (hf : methodCallForm (args.length + 0) (backTo pos (starEach args env)) [] = true) (hl : (apos.endLine == pos.line) = true) :
    eval (.Call (.Attribute o name apos) args [] pos) env = (do
      let ov ← attributeBase o name env (eval o env)
      standAt apos.atName
      let (f, first) ← holding [ov] (getMethod ov name (do return (← importBound o env).getD true))
      callWith pos f first (backTo pos (starEach args env)) []) := by
  show (do
    let ov ← attributeBase o name env (eval o env)
    standAt apos.atName
    methodCall o name apos pos env ov (args.length + 0) (backTo pos (starEach args env)) []) = _
  unfold methodCall
  rw [hf]
  unfold calleeOf methodCallPos
  rw [hl]
  rfl
/-- what __init__ leaves of a fresh error at x -/
structure Done (h h' : Heap) (x C dx t1 : Addr) (v : Value) : Prop where
  keep : ∀ b o, b ≠ x → h.get? b = some o → h'.get? b = some o
  obj : h'.get? x = some { cls := .ref C, dict := some dx, data := .fields #[.ref t1, .none, .none, .none, .bool false, .none] }
  dbig : h.objs.size ≤ dx
  dne : dx ≠ x
  ns : h'.Ns1 dx (fun y => if y = "value" then some v else none)
section
variable {prog : Program} {w : World} {A : Around} {E : Value → Shared → Prop} {R : Result → Shared → Prop} {s : Shared} {K : Frag} {mg mb : Str → Option Value} {C fI : Addr}
theorem err_init (T : ErrTxt K prog.main.file C fI) {x t0 : Addr} {v : Value} (X : K.In s.heap) (hlim : s.heap.NoLimit) (G : s.heap.Ns mainGlobals mg) (hs : mg "super" = none) (Bn : s.heap.Ns builtinsNs mb) (hb : mb "super" = bootBuiltins "super")
    (hx : s.heap.get? x = some (HandSPX.excO C t0)) (hnx : K.lookup x = none) (hroom : A.depth < recursionLimit) (htop : (prog.main.scope.names.lookup ("super" : Str)).isSome = false)
    (hq : ∀ h' tk dx t1, Done s.heap h' x C dx t1 v → R (.ok (.ret .none)) { s with heap := h', toks := tk }) :
    codeAny (model prog w) A (.call (.ref fI) ⟨[.ref x, v], []⟩) R s := by
  obtain ⟨hh, g, d, tk0, os⟩ := s
  obtain ⟨oc, od, qual, doc, pm, an, cda, cc, ct, osl, z, kz, p1, p2, q0, q1, q2, q3, q4, q5, q6, q7, q8, q9, ccl, cl, cdd, cld, vs, ccs, csl, tf, ho, hcd, hcode, hvs, hcell, hline⟩ := T.fn
  obtain ⟨nm, q, N, bs, bm, sn, sub, ab, col, dd, k0, k1, k2, k3, k5, hC, hbm⟩ := T.cls
  have hcl : clsIn K C = some { name := nm, bases := bs, mro := .ref C :: bm, ns := N, qualname := q, hasDict := true, slotNames := sn, subclasses := sub, abstract := ab, collection := col, hasDel := false } := by unfold clsIn; rw [hC] <;> rfl
  refine ks_codeAny_call_defAt (fd := ksFn "__init__" qual (iA p1 p2) (iB z kz q0 q1 q2 q3 q4 q5 q6 q7 q8 q9) iS .none .none doc pm an (.ref cda) ct cc) (body := iB z kz q0 q1 q2 q3 q4 q5 q6 q7 q8 q9) (binds := [("self", .ref x), ("value", v)]) hroom (X _ _ ho) rfl hlim (codeRec_of X hcd) rfl (BindsTo.of_eq (by first | rfl | with_unfolding_all rfl)) (show ∀ y ∈ iS.names, y.2 ≠ .cell by decide) (fun y hy => ?loc) (fun h₁ hn k => ?_) rfl rfl rfl
  case loc =>
    rcases List.mem_cons.mp hy with e | hy
    · rw [e]; rfl
    · rw [List.mem_singleton.mp hy]; rfl
  have hxL : hh.objs.size ≠ x := Nat.ne_of_gt (Heap.lt_size hx)
  have X₁ : K.In h₁ := X.keeps k
  have hx₁ := k _ _ hx
  refine ks_wpAt_execs_cons (ks_wpAt_Expr_any (ks_wpAt_MethodCall (pl := _) ?_ (call_line (show methodCallForm 1 [(false, eval (.Constant (.str z) kz q3) _)] [] = true from rfl) hline)))
  refine ks_wpAt_super_base (env := ksEnv qual iS hh.objs.size fI (.ref cda) cc) rfl rfl (by decide) rfl (X₁ _ _ ho) rfl rfl rfl (X₁ _ _ hcode) rfl hvs (beq_self_eq_true _) htop ?_
  refine ks_loadName_global rfl rfl (loadGlobal_builtin (env := ksEnv qual iS hh.objs.size fI (.ref cda) cc) (G.keeps k) hs (Bn.keeps k) (hb.trans PyProof.Rows.Boot.super) ⟨rfl, ?_⟩)
  refine wpAny_loadName_free rfl rfl rfl ⟨_, X₁ _ _ hcell, rfl⟩ ?_
  refine wpAny_loadName_local (v := .ref x) rfl rfl hn (by first | rfl | with_unfolding_all rfl | kernel_rfl) ?_
  refine ks_wpAny_isType_cls (X₁ _ _ hC) rfl ⟨rfl, ?_⟩
  refine ks_wpAny_call_super (X₁ _ _ hC) rfl hx₁ rfl (fun c e => nomatch e) (looks_mroIn X₁ T.own) (fun h₂ e₂ k₂ => ?_)
  have X₂ : K.In h₂ := X₁.keeps k₂
  have I₂ : InstAt h₂ x (HandSPX.excO C t0) C none := ⟨k₂ _ _ hx₁, rfl, rfl, trivial⟩
  have hmro : Looks (model prog w) h₂ (mroOf (.ref C)) (.ref C :: bm) := fun A Q E s k q => wpAny_bind ((looks_clsIn X₂ hcl) A _ E s k (wpAny_pure q))
  have hsup : alongIn K "__init__" (((Value.ref C :: bm).dropWhile (· != .ref C)).drop 1) = some (some (.builtin "ValueError.__init__")) := by
    have := T.sup
    unfold ks_superIn at this
    rw [hcl] at this
    exact this
  refine kxs_getMethod kxs_ValueError e₂ (looks_opaque X₂ T.noA) hmro rfl X₂ hsup (I₂.type.andThen (looks_subIn X₂ T.exV)) (ks_ne X₂ I₂ hcl) (by decide) ?_
  have hu : (h₂.push (kxs_mw "ValueError.__init__" x)).get? h₂.objs.size = some (kxs_mw "ValueError.__init__" x) := Heap.get?_push_at rfl rfl
  have k₃ : ∀ b o, h₂.get? b = some o → (h₂.push (kxs_mw "ValueError.__init__" x)).get? b = some o := fun b o e => Heap.get?_push_of_some _ e
  show wpAny _ _ (callWith q4 (.ref h₂.objs.size) [] ((false, eval (.Constant (.str z) kz q3) _) :: []) []) _ _ _
  refine kxs_callWith (i := "ValueError.__init__") (x := x) rfl (evalArgs_plain (spliced_cons (wpAny_Constant_str (spliced_nil ⟨hu, ?_⟩))))
  have hx₃ := k₃ _ _ (k₂ _ _ hx₁)
  have hC₃ := k₃ _ _ (X₂ _ _ hC)
  refine wpAny_call (codeAny_of_tree ?_)
  show wpAny _ _ (callAny (.ref h₂.objs.size) ⟨_, []⟩) _ _ _
  simp only [callAny]
  refine wpAny_bind (wpAny_load hu ?_)
  simp only [kxs_mw, show (Value.type "method-wrapper" == Value.type "method" || Value.type "method-wrapper" == Value.type "builtin_function_or_method" || Value.type "method-wrapper" == Value.type "method-wrapper") = true by decide, if_true]
  refine KFB.if_so (by decide) ?_
  refine wpAny_bind (check_bound_init F.excBase_ValueError.toExcCallFacts hC₃ hx₃ rfl ?_)
  refine wpAny_bind (wpAny_pure (wpAny_pure ?_))
  refine ⟨plainId_quiet F.excBase_ValueError.init.plain _, codeAny_builtin F.excBase_ValueError.initEntry ?_⟩
  refine exc_init_tree (cls := .ref C) (t0 := t0) (dv := none) (c2 := .none) (c3 := .none) (b4 := .bool false) hx₃ (len1 _) fun h₄ k₄ hx₄ _ => ?_
  have old : ∀ b o, b ≠ x → hh.get? b = some o → h₄.get? b = some o := fun b o hb e => k₄ b o hb (k₃ b o (k₂ b o (k b o e)))
  have X₄ : K.In h₄ := in_but X hnx old
  have hn₄ : h₄.Ns hh.objs.size (fun y => List.lookup y ([(("self" : Str), Value.ref x), ("value", v)] : List (Str × Value)).reverse) := hn.at fun o e => k₄ _ _ hxL (k₃ _ _ (k₂ _ _ e))
  show _root_.PySem.wpAt _ _ _ (execs _ _) _ _ _
  refine ks_wpAt_execs_cons (wpAt_of_wpAny (plainObj_wpAny_Assign_Attribute ?_))
  refine wpAny_Name (wpAny_loadName_local (v := v) rfl rfl hn₄ (by first | rfl | with_unfolding_all rfl | kernel_rfl) ?_) (by decide)
  refine wpAny_Name (wpAny_loadName_local (v := .ref x) rfl rfl hn₄ (by first | rfl | with_unfolding_all rfl | kernel_rfl) ?_) (by decide)
  refine set_plain X₄ (ox := HandSPX.excO C h₂.objs.size.succ) (od := none) ⟨?hx, rfl, rfl, trivial⟩ T.sa ?_
  case hx =>
    have e : (h₂.push (kxs_mw "ValueError.__init__" x)).objs.size = h₂.objs.size.succ := by rw [Heap.size_push]
    rw [e] at hx₄
    exact hx₄
  have hz : hh.objs.size ≤ h₄.objs.size := Nat.le_of_lt hn₄.lt
  refine exc_osa X₄ hx₄ hcl (show refsVE (.ref C :: bm) = true from hbm) rfl T.noN (fun h₅ tk₅ dx k₅ dn dne hx₅ hn₅ => ?_)
  exact wpAt_of_wpAny (wpAny_execs_nil (hq h₅ tk₅ dx _ ⟨fun b o hb e => k₅ b o hb (old b o hb e), hx₅, Nat.le_trans hz dn, dne, hn₅⟩))
/-- a made error -/
structure Made (h h' : Heap) (e C d : Addr) (v : Value) : Prop where
  keep : ∀ b o, h.get? b = some o → h'.get? b = some o
  new : h.objs.size ≤ e
  obj : ∃ oe vs, h'.get? e = some oe ∧ oe.cls = .ref C ∧ oe.dict = some d ∧ oe.data = .fields vs ∧ vs[1]? = some .none
  dbig : h.objs.size ≤ d
  dne : d ≠ e
  ns : h'.Ns1 d (fun y => if y = "value" then some v else none)
theorem err_made (T : ErrTxt K prog.main.file C fI) {v : Value} (X : K.In s.heap) (hlim : s.heap.NoLimit) (G : s.heap.Ns mainGlobals mg) (hs : mg "super" = none) (Bn : s.heap.Ns builtinsNs mb) (hb : mb "super" = bootBuiltins "super")
    (hroom : A.depth + 1 < recursionLimit) (htop : (prog.main.scope.names.lookup ("super" : Str)).isSome = false)
    (hq : ∀ h' tk e d, Made s.heap h' e C d v → R (.ok (.ret (.ref e))) { s with heap := h', toks := tk }) :
    codeAny (model prog w) A (.call (.ref C) ⟨[v], []⟩) R s := by
  obtain ⟨nm, q, N, bs, bm, sn, sub, ab, col, dd, k0, k1, k2, k3, k5, hC, hbm⟩ := T.cls
  obtain ⟨hp, g, dr, tk, os⟩ := s
  have k : ∀ b o, hp.get? b = some o → ((hp.push (kdv_tup [v])).push (HandSPX.excO C hp.objs.size)).get? b = some o := fun b o e => Heap.get?_push_of_some _ (Heap.get?_push_of_some _ e)
  have hget : ((hp.push (kdv_tup [v])).push (HandSPX.excO C hp.objs.size)).get? (hp.objs.size + 1) = some (HandSPX.excO C hp.objs.size) := by heap_get
  have hnx : K.lookup (hp.objs.size + 1) = none := by
    cases e : K.lookup (hp.objs.size + 1) with
    | none => rfl
    | some o => exact absurd (Nat.lt_of_succ_lt (Heap.lt_size (show hp.get? (hp.objs.size + 1) = some o from X _ _ e))) (Nat.lt_irrefl _)
  refine HandSPX.call_own F.excBase_ValueError (fun X => HandSPX.refsVE_contains X bm hbm) (X _ _ hC) (looks_findIn X T.iC) (fun self => bind_fn X self T.tC) (len1 v) ?_
  refine err_init (s := ⟨(hp.push (kdv_tup [v])).push (HandSPX.excO C hp.objs.size), g, dr, tk, os⟩) T (X.keeps k) (hlim.keeps k) (G.keeps k) hs (Bn.keeps k) hb hget hnx ?_ htop fun h' tk' dx t1 ⟨k', hx, dn, dne, hns⟩ => ?_
  · show A.depth + 1 < recursionLimit
    exact hroom
  · have old : ∀ b o, hp.get? b = some o → h'.get? b = some o := fun b o e => k' b o (Nat.ne_of_lt (Nat.lt_succ_of_lt (Heap.lt_size e))) (k b o e)
    have z : hp.objs.size + 1 + 1 ≤ dx := by
      first
        | (simpa only [Heap.size_push] using dn)
        | exact dn
        | (have q := dn; rw [Heap.size_push, Heap.size_push] at q; exact q)
    exact ⟨rfl, hq h' tk' (hp.objs.size + 1) dx ⟨old, Nat.le_succ _, ⟨_, _, hx, rfl, rfl, rfl, rfl⟩, Nat.le_trans (Nat.le_trans (Nat.le_succ _) (Nat.le_succ _)) z, dne, hns⟩⟩
end
end HkE
end PySem
namespace Hk
open PySem PySem.Spec PyProof.Rows L2
theorem relO_val {v : V} {v' : Value} (r : RelV v v') (f : Str) : RelO (List.lookup f [(("value" : Str), v)]) (if f = "value" then some v' else none) := by
  by_cases hw : f = "value"
  · subst hw
    rw [if_pos rfl, show List.lookup ("value" : Str) [(("value" : Str), v)] = some v from by simp [List.lookup]]
    exact r
  · rw [if_neg hw, show List.lookup f [(("value" : Str), v)] = none from by
      have qw : (f == ("value" : Str)) = false := by simpa using hw
      simp [List.lookup, qw]]
    trivial
section
variable {X : Cx} {C fI : Addr} {x : Str}
/-- E(e) -/
def tMkE (C : Addr) (ta : TA) : L2.St → Hp → XK → Prop := fun σ H Q => ta σ H fun vs H1 => ∃ v, vs = [v] ∧ ∀ d, H1 d = none → Q (.ref C) (some d) (upd H1 d (.xd [(("value" : Str), v)]))
theorem pmk_err {a : Expr} {ta : TA} {p pos : Pos} {k : Nat} (T : PySem.HkE.ErrTxt X.K X.prog.main.file C fI) (hs : X.mg "super" = none) (htop : (X.prog.main.scope.names.lookup ("super" : Str)).isSome = false) (hr : Room k X.A) (ha : PA X [a] ta) (hg : Gl X x) (hm : X.mg x = some (.ref C))
    (hdb : (x == ("__debug__" : Str)) = false := by decide) (he : starEach (a :: []) X.env = (false, eval a X.env) :: starEach [] X.env := by rfl) (hpl : (backTo pos (starEach [] X.env)).any (·.1) = false := by rfl) :
    PMk X (.Call (.Name x p) [a] [] pos) (tMkE C ta) := by
  intro pins s σ H Q I h
  refine wpAny_Call_Name_kw (ld_glob I hg hm ?_ hdb)
  refine PySem.W.callWith_K (h₀ := X.base) I.ok.mod.kin T.kC (thn (ha.run pos pins s σ H _ I h) fun us s1 hh => ?_) he hpl
  obtain ⟨vs, H1, I1, r1, v, ev, q1⟩ := hh
  subst ev
  refine ⟨I1.kIn, ?_⟩
  cases r1 with
  | cons rv rn =>
    rename_i v' us'
    cases rn
    show wpAny _ _ (call (.ref C) [v']) _ _ _
    have hlim := I1.nolimit
    obtain ⟨mb, hB, hBb⟩ := I1.mod.blt
    have kk := I1.kIn
    have G := I1.mod.glob.keeps I1.bk
    have Bn := hB.keeps I1.bk
    obtain ⟨hp, g, dr, tk, os⟩ := s1
    refine wpAny_call (PySem.HkE.err_made T kk hlim G hs Bn (hBb _ (by decide)) (by have := hr.dp; omega) htop fun h' tk' e d M => ?_)
    show MkP X pins σ Q (.ref e) ⟨h', g, dr, tk', os⟩
    obtain ⟨oe, fv, hoe, hc, hd, hdat, h1⟩ := M.obj
    have hns := M.ns
    obtain ⟨G', g1, g2⟩ := restrict h' fun b => decide (b ≠ e)
    have gk : ∀ b, b ≠ e → G'.get? b = h'.get? b := fun b hb => g1 b (decide_eq_true hb)
    have ge : G'.get? e = none := g2 e (by simp)
    have old : ∀ b o, hp.get? b = some o → G'.get? b = some o := fun b o q => (gk b (Nat.ne_of_lt (Nat.lt_of_lt_of_le (Heap.lt_size q) M.new))).trans (M.keep b o q)
    have ob : ObjOk X.prog X.w (upd H1 d (.xd [(("value" : Str), v)])) G' d (.xd [(("value" : Str), v)]) := ⟨_, hns.at (fun o q => (gk d M.dne).trans q), fun f => relO_val rv f⟩
    have J : Inv X pins σ (upd H1 d (.xd [(("value" : Str), v)])) ⟨G', g, dr, tk', os⟩ := I1.laid (t' := tk') old M.dbig ob
    refine ⟨e, oe, fv, ⟨G', g, dr, tk', os⟩, _, .ref C, some d, rfl, J, fun b o q => ?_, ge, hoe, ⟨hc, hd⟩, hdat, h1, ?_, rfl, I1.bare, raises_own T.exC T.tyC, q1 d (I1.hok.fresh M.dbig)⟩
    · by_cases hb : b = e
      · have q' : G'.get? b = some o := q
        rw [hb, ge] at q'; cases q'
      · exact (gk b hb).symm.trans q
    · rw [upd_ne (Ne.symm M.dne)]
      exact I1.hok.fresh M.new
/-- raise E(e) -/
def tRaiseE (C : Addr) (W : WX) (ta : TA) : TS := fun _ σ H => tMkE C ta σ H fun cls d H' => W cls d σ H'
theorem ps_raiseE {a : Expr} {ta : TA} {W : WX} {p pos pos2 : Pos} {k : Nat} (hc : X.calm = true) (T : PySem.HkE.ErrTxt X.K X.prog.main.file C fI) (hs : X.mg "super" = none) (htop : (X.prog.main.scope.names.lookup ("super" : Str)).isSome = false) (hr : Room k X.A) (tk : Takes X W) (ha : PA X [a] ta) (hg : Gl X x) (hm : X.mg x = some (.ref C))
    (hdb : (x == ("__debug__" : Str)) = false := by decide) (he : starEach (a :: []) X.env = (false, eval a X.env) :: starEach [] X.env := by rfl) (hpl : (backTo pos (starEach [] X.env)).any (·.1) = false := by rfl) :
    PS X (.Raise (some (.Call (.Name x p) [a] [] pos)) none pos2) (tRaiseE C W ta) := ps_raise hc tk (pmk_err T hs htop hr ha hg hm hdb he hpl)
/-- e.value, e the error that the suite holds (at a; its class cls, its dict d) -/
def tValE (C : Addr) (a : Addr) (cls : Value) (d : Option Addr) (te : TE) : TE := fun σ H Q => te σ H fun x H1 => x = .ref a ∧ cls = .ref C ∧ ∃ (dd : Addr) (v : V), d = some dd ∧ H1 dd = some (.xd [(("value" : Str), v)]) ∧ Q v H1
theorem pe_valE {a : Addr} {oe : Obj} {cls : Value} {d : Option Addr} {pn : List (Addr × Obj)} {e : Expr} {te : TE} {pos : Pos} (T : PySem.HkE.ErrTxt X.K X.prog.main.file C fI) (EC : ExcC X.K C) (hz : Zc cls d oe) (hf : ∃ vs, oe.data = .fields vs) (he : PE (X.suite a ((a, oe) :: pn)) e te)
    (hb : attributeBase e "value" X.env (eval e X.env) = eval e X.env := by rfl) :
    PE (X.suite a ((a, oe) :: pn)) (.Attribute e "value" pos) (tValE C a cls d te) := by
  refine ⟨fun pins s σ H Q I h => ?_⟩
  refine attr_of hb (thn (he.run pins s σ H _ I h) fun u s1 hh => ?_)
  obtain ⟨x, H1, I1, rx, ex, ec, dd, v, ed, ea, q⟩ := hh
  subst ex
  obtain rfl : u = Value.ref a := rx
  subst ec
  subst ed
  obtain ⟨ha, _⟩ := I1.pin (a, oe) (List.mem_append_left _ List.mem_cons_self)
  obtain ⟨vs, hd⟩ := hf
  have hx : ObjOk X.prog X.w H1 s1.heap dd (.xd [(("value" : Str), v)]) := I1.hok dd _ ea
  obtain ⟨mA, hns, hr⟩ := hx
  obtain ⟨od, ho, hl⟩ := lookIn_ns hns
  have l : List.lookup ("value" : Str) [(("value" : Str), v)] = some v := by simp [List.lookup]
  obtain ⟨u, hu, ru⟩ := RelO.some_of (v := v) (o := mA "value") (by rw [← l]; exact hr "value")
  have J : PySem.W.InstAt s1.heap a oe C (some od) := ⟨ha, hz.1, by unfold PySem.W.notCls; rw [hd] <;> rfl, by rw [hz.2]; exact ho⟩
  exact HandSPX.exc_get I1.kIn J EC.hg EC.hk EC.hs (PySem.W.findObj_own T.hdC T.noN rfl (by rw [hl, hu])) (handed_of ru) ⟨v, H1, I1.tok _, ru, q⟩
/-- isinstance(e, c), isinstance(e, (c1, ..)): e the error that the suite holds, a dict d -/
def rIsE1 (K : PySem.W.Frag) (D a dd : Addr) : List V → Hp → VK → Prop := fun xs H Q => ∃ (c : V) (u : Value) (b : Bool) (fs : List (Str × V)), xs = [.ref a, c] ∧ ClsV c u ∧ H dd = some (.xd fs) ∧ PySem.W.kitOne K (.ref D) u = some b ∧ Q (.bl b) H
def rIsET (K : PySem.W.Frag) (D a dd : Addr) : List V → Hp → VK → Prop := fun xs H Q => ∃ (tp : Addr) (cs : List V) (us : List Value) (b : Bool) (fs : List (Str × V)), xs = [.ref a, .ref tp] ∧ H tp = some (.tup cs) ∧ Paired ClsV cs us ∧ H dd = some (.xd fs) ∧ PySem.W.kitAny K (.ref D) us = some b ∧ Q (.bl b) H
theorem inst_suite {a D dd : Addr} {oe : Obj} {pn : List (Addr × Obj)} {pins : List (Addr × Obj)} {s : Shared} {σ : L2.St} {H : Hp} {fs : List (Str × V)} (I : Inv (X.suite a ((a, oe) :: pn)) pins σ H s) (hz : Zc (.ref D) (some dd) oe) (hf : ∃ vs, oe.data = .fields vs) (hd : H dd = some (.xd fs)) : ∃ od, PySem.W.InstAt s.heap a oe D (some od) := by
  obtain ⟨hget, _⟩ := I.pin (a, oe) (List.mem_append.mpr (.inl List.mem_cons_self))
  obtain ⟨vs, hv⟩ := hf
  obtain ⟨mA, hns, _⟩ := (show ObjOk X.prog X.w H s.heap dd (.xd fs) from I.hok dd _ hd)
  obtain ⟨od, ho, _⟩ := lookIn_ns hns
  exact ⟨od, hget, hz.1, by unfold PySem.W.notCls; rw [hv] <;> rfl, by rw [hz.2]; exact ho⟩
theorem cls_some {K : PySem.W.Frag} {D : Addr} (C : ExcC K D) : (PySem.W.clsIn K D).isSome = true := by
  cases e : PySem.W.clsIn K D with
  | some cd => rfl
  | none =>
    have := C.hd
    unfold PySem.W.hasDictIn at this
    rw [e] at this
    cases this
theorem call_isE1 {a D dd : Addr} {oe : Obj} {pn : List (Addr × Obj)} (C : ExcC X.K D) (hz : Zc (.ref D) (some dd) oe) (hf : ∃ vs, oe.data = .fields vs) : CallR (X.suite a ((a, oe) :: pn)) (.builtin "isinstance") (rIsE1 X.K D a dd) := by
  intro pins s σ H xs us Q I r h
  obtain ⟨c, u, b, fs, rfl, k, hd, e, q⟩ := h
  obtain ⟨u1, u2, rfl, r1, r2⟩ := vals2 r
  cases (show u1 = Value.ref a from r1)
  have e2 := k.eq r2
  subst e2
  obtain ⟨od, J⟩ := inst_suite I hz hf hd
  exact PySem.W.kia_one (PySem.W.kitx_exc (cls_some C) C.hg C.hk C.hs C.ha C.hn C.ht C.hm) I.kIn J e (fun z => nomatch z) fun tk => ⟨.bl b, H, I.tok tk, rfl, q⟩
theorem call_isET {a D dd : Addr} {oe : Obj} {pn : List (Addr × Obj)} (C : ExcC X.K D) (hz : Zc (.ref D) (some dd) oe) (hf : ∃ vs, oe.data = .fields vs) : CallR (X.suite a ((a, oe) :: pn)) (.builtin "isinstance") (rIsET X.K D a dd) := by
  intro pins s σ H xs us Q I r h
  obtain ⟨tp, cs, ws, b, fs, rfl, hT, k, hd, e, q⟩ := h
  obtain ⟨u1, u2, rfl, r1, r2⟩ := vals2 r
  cases (show u1 = Value.ref a from r1)
  cases (show u2 = Value.ref tp from r2)
  obtain ⟨od, J⟩ := inst_suite I hz hf hd
  obtain ⟨_, its, rv, o, h1, h2, n, h3⟩ := (show ObjOk X.prog X.w H s.heap tp (.tup cs) from I.hok tp _ hT)
  have e3 := ClsV.all k rv
  subst e3
  obtain ⟨oc, od', dt, sl⟩ := o
  simp only at h2 h3
  subst h2 h3
  exact PySem.W.kia_tup (PySem.W.kitx_exc (cls_some C) C.hg C.hk C.hs C.ha C.hn C.ht C.hm) I.kIn J h1 e (fun z => nomatch z) fun tk => ⟨.bl b, H, I.tok tk, rfl, q⟩
end
end Hk
/-! ### unpack a list into one name and the rest -/
namespace PySem.W
open PySem PySem.Spec PySem.Calls PyProof.Rows
section
variable {prog : Program} {w : World} {A : Around} {E : Value → Shared → Prop} {s : Shared} {env : Env} {elts : List Expr} {k : Nat} {pos : Pos}
theorem kun_starH {l : Addr} {items : Array Value} {n i : Nat} {first mids lasts : List Value} {Q : List Value → Shared → Prop} (hl : s.heap.IsList l items) (hh : A.handled = none) (hi : i < n) (hn : n ≤ items.size + 1) (hz : items.size ≤ 16384)
    (h1 : items.toList.take i = first) (h2 : (items.toList.drop i).take (items.size + 1 - n) = mids) (h3 : (items.toList.drop i).drop (items.size + 1 - n) = lasts)
    (h : ∀ (h₂ : Heap) tk, (∀ b o, s.heap.get? b = some o → h₂.get? b = some o) → Q (first ++ [.ref h₂.objs.size] ++ lasts) { s with heap := h₂.push { cls := .type "list", data := .seq mids.toArray }, toks := tk }) : wpAny (model prog w) A (unpackItems (.ref l) n (some i)) Q E s := by
  subst h1 h2 h3
  have hlt : l ≠ s.heap.objs.size := by obtain ⟨o, ho, _⟩ := hl; exact Nat.ne_of_lt (Heap.lt_size ho)
  have hll : l < s.heap.objs.size := by obtain ⟨o, ho, _⟩ := hl; exact Heap.lt_size ho
  unfold unpackItems
  refine wpAny_bind ?_
  unfold notIterableAtAll
  refine wpAny_bind (wpAny_specialOf hl.typeIs slot_list_iter.lookup ?_)
  refine wpAny_pure ?_
  simp only [Bool.false_eq_true, if_false]
  refine wpAny_bind (wpAny_holding (wpAny_pyIter_list hl ?_))
  refine wpAny_bind (wpAny_holding (kun_draw hlt i 0 _ _ ⟨_, Heap.get?_push_size _ rfl, rfl, rfl⟩ (hl.push _) (by omega) fun h₁ hit₁ hs₁ => ?_))
  have hl₁ : h₁.IsList l items := (hl.push _).extBut hs₁.extBut hlt
  rw [Nat.zero_add] at hit₁
  have hit₁' := hit₁
  obtain ⟨oi, hoi, _⟩ := hit₁'
  have hl₁' := hl₁
  obtain ⟨ol, hol, _⟩ := hl₁'
  rw [List.drop_zero]
  have hfl : (items.toList.take i).length = i := by rw [List.length_take, Array.length_toList]; omega
  rw [if_neg (show ¬ ((items.toList.take i).length < i) by rw [hfl]; omega)]
  refine wpAny_bind (wpAny_holding (kun_collect (s := { s with heap := h₁ }) (T := "list_iterator") (.inr (.inr (.inl rfl))) (Walks.list (A := A.in1) hh s.heap.objs.size l hlt items) (fun j u st => st.1.typeIs) (k := i) (by omega) ⟨hit₁, hl₁⟩ (Heap.lt_size hoi) (Heap.lt_size hol) (fun h₂ tk hk => ?_) (by rw [sizeLine_eq]; omega)))
  have hrl : (items.toList.drop i).length = items.size - i := by rw [List.length_drop, Array.length_toList]
  have hmid : (items.toList.drop i).length - (n - 1 - i) = items.size + 1 - n := by rw [hrl]; omega
  show wpAny _ _ (if (items.toList.drop i).length < n - 1 - i then _ else _) _ _ _
  rw [if_neg (by rw [hrl]; omega)]
  show wpAny _ _ (newList ((items.toList.drop i).take ((items.toList.drop i).length - (n - 1 - i))) >>= fun d => pure (items.toList.take i ++ [d] ++ (items.toList.drop i).drop ((items.toList.drop i).length - (n - 1 - i)))) _ _ _
  rw [hmid]
  have he : Heap.ExtBut s.heap.objs.size s.heap h₂ := fun b o hb e => hk b o hb (hs₁.extBut b o hb (Heap.get?_push_of_some _ e))
  exact wpAny_bind (wpAny_newList (wpAny_pure (h h₂ tk fun b o e => he b o (Nat.ne_of_lt (Heap.lt_size e)) e)) (by rw [List.length_take, hrl, sizeLine_eq]; omega))
theorem kun_assignH {l : Addr} {items : Array Value} {n i : Nat} {first mids lasts : List Value} {Q : Unit → Shared → Prop} (hl : s.heap.IsList l items) (hh : A.handled = none) (hlen : (assignEach elts env).length = n) (hstar : (assignEach elts env).findIdx? (·.1) = some i)
    (hi : i < n) (hn : n ≤ items.size + 1) (hz : items.size ≤ 16384) (h1 : items.toList.take i = first) (h2 : (items.toList.drop i).take (items.size + 1 - n) = mids) (h3 : (items.toList.drop i).drop (items.size + 1 - n) = lasts)
    (h : ∀ (h₂ : Heap) tk, (∀ b o, s.heap.get? b = some o → h₂.get? b = some o) → wpAny (model prog w) A (assignInOrder ((assignEach elts env).map (·.2)) (first ++ [.ref h₂.objs.size] ++ lasts)) Q E { s with heap := h₂.push { cls := .type "list", data := .seq mids.toArray }, toks := tk }) :
    wpAny (model prog w) A (assign (.Tuple elts k pos) env (.ref l)) Q E s := by
  rw [assign_Tuple]
  refine wpAny_bind (wpAny_standAt ?_)
  unfold unpack
  rw [hlen, hstar]
  exact wpAny_bind (wpAny_holding (kun_starH hl hh hi hn hz h1 h2 h3 h))
end
end PySem.W
namespace Hk
open PySem PySem.Spec PyProof.Rows L2
section
variable {X : Cx} {pos : Pos}
/-- (a, *b) = a list -/
def gStar (K : PySem.W.Frag) (t u : TG) : TG := fun v σ H Q => ∃ a x xs, v = .ref a ∧ SqL K H a (x :: xs) ∧ xs.length ≤ 16000 ∧ ∀ p, H p = none → t x σ (upd H p (.lst xs)) fun σ' H' => u (.ref p) σ' H' Q
theorem pg_star {e1 e2 : Expr} {k : Nat} {t u : TG} (hc : X.calm = true) (h1 : PG X e1 t) (h2 : PG X e2 u) {q : Pos}
    (hn : (assignEach [e1, .Starred e2 q] X.env).length = 2 := by rfl) (hst : (assignEach [e1, .Starred e2 q] X.env).findIdx? (·.1) = some 1 := by rfl)
    (hm : (assignEach [e1, .Starred e2 q] X.env).map (·.2) = [assign e1 X.env, assign e2 X.env] := by rfl) : PG X (.Tuple [e1, .Starred e2 q] k pos) (gStar X.K t u) := by
  refine ⟨fun pins s σ H v w Q I r hw => ?_⟩
  obtain ⟨a, x, xs, e1, hq, hl, hw⟩ := hw
  subst e1
  cases r
  obtain ⟨its, rv, ht, hz⟩ := I.list hq
  have hlen := rv.length
  cases rv with
  | @cons _ y _ ys rx rxs =>
    have hly := rxs.length
    refine PySem.W.kun_assignH (n := 2) (i := 1) (first := [y]) (mids := ys) (lasts := []) ht.isList (I.ok.hd hc) hn hst (by omega) (by simp) (by simp; omega) (by simp) (by simp) (by simp) fun h₂ tk hk => ?_
    have I2 : Inv X pins σ H { s with heap := h₂, toks := tk } := I.kept hk
    have I3 : Inv X pins σ (upd H h₂.objs.size (.lst xs)) { s with heap := h₂.push { cls := .type "list", data := .seq ys.toArray }, toks := tk } := I2.laid (t' := tk) (o := .lst xs) (fun b ob q => Heap.get?_push_of_some _ q) (Nat.le_refl _) ⟨by rw [sizeLine_eq]; omega, ys, 0, rxs, Heap.get?_push_size _ rfl⟩
    rw [hm]
    refine assignInOrder_cons (thn (h1.run pins _ σ _ x y _ I3 rx (hw _ (I2.hok.fresh (Nat.le_refl _)))) fun _ s1 ⟨σ1, H1, I1, q1⟩ => ?_)
    exact assignInOrder_cons (thn (h2.run pins s1 σ1 H1 (.ref h₂.objs.size) (.ref h₂.objs.size) _ I1 rfl q1) fun _ s2 ⟨σ2, H2, J2, q2⟩ => assignInOrder_nil ⟨σ2, H2, J2, q2⟩)
end
/-! ### xs.append(x) -/
section
variable {X : Cx} {o e : Expr} {to te : TE} {apos pos : Pos}
def tApp (to te : TE) : TE := fun σ H Q => to σ H fun x H1 => ∃ a xs0, x = .ref a ∧ H1 a = some (.lst xs0) ∧ te σ H1 fun y H2 => ∃ xs, H2 a = some (.lst xs) ∧ xs.length < sizeLine ∧ Q .non (upd H2 a (.lst (xs ++ [y])))
theorem pe_app (ho : PE X o to) (he : PE X e te) (hs : starEach [e] X.env = [(false, eval e X.env)] := by rfl) (hbase : attributeBase o "append" X.env (eval o X.env) = eval o X.env := by rfl) (hline : (apos.endLine == pos.line) = true := by rfl) :
    PE X (.Call (.Attribute o "append" apos) [e] [] pos) (tApp to te) := by
  refine ⟨fun pins s σ H Q I h => ?_⟩
  refine PySem.Call_method1 hbase hs hline (thn (ho.run pins s σ H _ I h) fun v s1 ⟨x, H1, I1, r1, q1⟩ => ?_)
  obtain ⟨a, xs0, rfl, ha, q1⟩ := q1
  cases (show v = Value.ref a from r1)
  obtain ⟨z, its, n, r, hl, e0⟩ := I1.lstM ha
  refine ⟨"list", _, F.plainAttrs_list, F.slot_list_append, F.type_list_append, ⟨_, e0, rfl⟩, ?_, Calls.callWith_builtin rfl (Calls.evalArgs_plain (Calls.spliced_cons ?_))⟩
  · intro b hb
    cases hb
    exact ⟨_, e0, rfl⟩
  · exact thn (he.run pins s1 σ H1 _ I1 q1) fun u s2 ⟨y, H2, I2, r2, xs, hx, hlt, q2⟩ => Calls.spliced_nil (mt_append pins s2 σ H2 (.ref a) [y] _ [u] Q I2 (show RelV (.ref a) (.ref a) from rfl) (.cons r2 .nil) ⟨a, xs, y, rfl, rfl, hx, hlt, q2⟩)
end
end Hk
/-! ### a tuple of two, turned round -/
namespace L2.HT
open PySem PySem.Spec PyProof.Rows
section
variable {prog : Program} {w : World} {A : Around} {E : Value → Shared → Prop} {s : Shared}
theorem getItem_tuple_rev2 {t sl : Addr} {a b : Value} {Q : Value → Shared → Prop} (ht : IsTup s.heap t #[a, b]) {u : Tok} (hs : s.heap.IsSliceOf sl .none .none (.int (-1) u))
    (h : Q (.ref s.heap.objs.size) { s with heap := s.heap.push { cls := .type "tuple", data := .seq #[b, a] } }) : wpAny (model prog w) A (getItem (.ref t) (.ref sl)) Q E s := by
  have htake : sizeOk (.seq (#[b, a] : Array Value)) := by
    show (#[b, a] : Array Value).size ≤ sizeLine
    rw [sizeLine_eq]
    simp
  obtain ⟨os, hos, hcs, hds⟩ := id hs
  have hTs : s.TypeIs (.ref sl) "slice" := ⟨os, hos, hcs⟩
  unfold getItem
  try with_reducible refine wpAny_holding ?_
  first | refine wpAny_bind (wpAny_pure ?_) | skip
  refine wpAny_bind (wpAny_sequenceKey ht.typeIs (by decide) ?_)
  refine wpAny_bind (wpAny_callSpecial?_slot (name := Str.ofString "__getitem__") ht.typeIs PyProof.Rows.slot_tuple_getitem
    (wpAny_call_entry PyProof.Rows.slot_tuple_getitem ht.typeIs entry_tuple_getitem ?_ (args_tuple_getitem _ _)))
  show wpAny _ _ (Builtin.Tuple.tupleItemsOf (.ref t) >>= _) _ _ s
  refine wpAny_bind (tupleItemsOf_ ht ?_)
  refine wpAny_bind (wpAny_typeOf hTs ?_)
  rw [if_pos (by decide)]
  have ap : ∀ {A' : Around} {E' : Value → Shared → Prop} {Q : Int × Int × Nat → Shared → Prop}, Q (1, -1, 2) s → wpAny (model prog w) A' (Builtin.Slice.sliceApplied (.ref sl) (pure (2 : Int))) Q E' s := fun {A' E' Q} h => by
    unfold Builtin.Slice.sliceApplied Builtin.Slice.sliceFields
    refine wpAny_bind (wpAny_bind (wpAny_field hos hds (x := .none) rfl (wpAny_bind (wpAny_field hos hds (x := .none) rfl (wpAny_bind (wpAny_field hos hds (x := .int (-1) u) rfl (wpAny_pure ?_)))))))
    refine wpAny_bind (slicePart_int ?_)
    show wpAny _ _ (if ((-1 : Int) == 0) = true then _ else _) _ _ s
    rw [if_neg (by decide)]
    refine wpAny_bind (slicePart_none (wpAny_bind (slicePart_none (wpAny_bind (wpAny_pure ?_)))))
    exact wpAny_pure h
  refine wpAny_bind (ap ?_)
  first
    | exact wpAny_bind (m := Builtin.Tuple.tupleExact _) (wpAny_newObj_type (wpAny_pure ⟨_, rfl, wpAny_pure h⟩) htake)
    | exact wpAny_bind (m := Builtin.Tuple.tupleExact _) (wpAny_newObj_type (wpAny_bind (wpAny_pure (wpAny_pure ⟨_, rfl, wpAny_pure h⟩))) htake)
    | exact wpAny_bind (wpAny_bind (m := Builtin.Tuple.tupleExact _) (wpAny_newObj_type (wpAny_pure (wpAny_pure ⟨_, rfl, wpAny_pure h⟩)) htake))
    | exact wpAny_bind (wpAny_bind (m := Builtin.Tuple.tupleExact _) (wpAny_newObj_type (wpAny_pure ⟨_, rfl, wpAny_pure h⟩) htake))
end
end L2.HT
namespace Hk
open PySem PySem.Spec PyProof.Rows L2
section
variable {X : Cx} {pos : Pos}
def tRev2 (K : PySem.W.Frag) (te : TE) : TE := fun σ H Q => te σ H fun x H1 => ∃ a y z, x = .ref a ∧ SqT K H1 a [y, z] ∧ ∀ p, H1 p = none → Q (.ref p) (upd H1 p (.tup [z, y]))
theorem pe_rev2 {e : Expr} {te : TE} {k : Nat} {p1 p2 p3 pos : Pos} (he : PE X e te) : PE X (.Subscript e (.Slice none none (some (.UnaryOp .USub (.Constant (.int 1) k p1) p2)) p3) pos) (tRev2 X.K te) := by
  refine ⟨fun pins s σ H Q I h => ?_⟩
  refine Subscript_ (thn (he.run pins s σ H _ I h) fun v s1 ⟨x, H1, I1, r1, q1⟩ => ?_)
  obtain ⟨a, y, z, ex, hx, q⟩ := q1
  subst ex
  cases r1
  have hst : PO X (some (.UnaryOp .USub (.Constant (.int 1) k p1) p2)) (tPart (tUn (rU fun i => .int (-i)) (tC (.int 1)))) := po_some (pe_un un_neg pe_int)
  refine wpAny_Slice (thn (po_none.run pins s1 σ H1 (fun o H2 => o = none ∧ H2 = H1) I1 ⟨rfl, rfl⟩) fun vl s2 ⟨l, H2, I2, pl, el, e2⟩ => ?_)
  subst el e2
  refine thn (po_none.run pins s2 σ H2 (fun o H3 => o = none ∧ H3 = H2) I2 ⟨rfl, rfl⟩) fun vu s3 ⟨u, H3, I3, pu, eu, e3⟩ => ?_
  subst eu e3
  refine thn (hst.run pins s3 σ H3 (fun o H4 => o = some (-1) ∧ H4 = H3) I3 ⟨1, rfl, -1, rfl, rfl, rfl⟩) fun vs s4 ⟨o, H4, I4, ps, eo, e4⟩ => ?_
  subst eo e4
  have I5 : Inv X pins σ H4 { s4 with heap := s4.heap.push { cls := .type "slice", data := .fields #[vl, vu, vs] } } := I4.kept (t' := s4.toks) fun b ob q => Heap.get?_push_of_some _ q
  obtain ⟨its, r, ht, hz⟩ := I5.tuple hx
  cases pl
  cases pu
  cases ps with
  | int i t =>
  cases r with
  | @cons _ y' _ ys ry rys =>
  cases rys with
  | @cons _ z' _ zs rz rzs =>
  cases rzs
  show wpAny (model X.prog X.w) X.A (subscriptTail e (.Slice none none (some (.UnaryOp .USub (.Constant (.int 1) k p1) p2)) p3) (.ref a) (.ref s4.heap.objs.size)) (EP X pins σ Q) X.xe { s4 with heap := s4.heap.push { cls := .type "slice", data := .fields #[.none, .none, .int (-1) t] } }
  refine tail_any (ops := [.ref a, .ref s4.heap.objs.size]) ht.typeIs (PyProof.Rows.slot_tuple_getitem.lookup) ?_ (by with_unfolding_all rfl)
  refine L2.HT.getItem_tuple_rev2 (a := y') (b := z') ht (u := t) (Heap.IsSliceOf.new _ .none .none (.int (-1) t)) ?_
  refine ⟨.ref _, _, I5.laid (t' := s4.toks) (o := .tup [z, y]) (fun b ob q => Heap.get?_push_of_some _ q) (Nat.le_refl _) ?_, rfl, q _ (I5.hok.fresh (Nat.le_refl _))⟩
  exact ⟨by rw [sizeLine_eq]; exact Nat.le_of_ble_eq_true rfl, [z', y'], .cons rz (.cons ry .nil), IsTup.new _ _⟩
/-- a tuple, many times -/
def rRepB (K : PySem.W.Frag) : R2 := fun x y H Q => ∃ l k xs, x = .ref l ∧ y = .int k ∧ SqT K H l xs ∧ xs ≠ [] ∧ 2 ≤ k ∧ k ≤ 2000 ∧ xs.length ≤ 1000 ∧ ∀ p, H p = none → Q (.ref p) (upd H p (.tup (List.replicate k.toNat xs).flatten))
theorem op_repB {K : PySem.W.Frag} (hK : X.K = K) : OpR X (binaryOp .Mult) (rRepB K) := by
  subst hK
  intro pins s σ H x y v u Q I rx ry h
  obtain ⟨l, k, xs, rfl, rfl, hT, hne, h1, h2, hz, q⟩ := h
  cases rx
  obtain ⟨t, rfl⟩ := ry
  obtain ⟨its, r, ⟨⟨cls, dd, data, sl⟩, ho, hc, n, hd⟩, hs⟩ := I.tuple hT
  simp only at hc hd
  subst hc hd
  have hle : its.length = xs.length := r.length.symm
  have hi : its.toArray.isEmpty = false := by
    cases its with
    | nil => exact absurd (List.eq_nil_of_length_eq_zero hle.symm) hne
    | cons a b => rfl
  have hsz0 : its.toArray.size = xs.length := by rw [List.size_toArray, hle]
  have hm : ((its.toArray.size : Nat) : Int) * k ≤ 2000000 := by
    rw [hsz0]
    have a1 : ((xs.length : Nat) : Int) * k ≤ 1000 * k := Int.mul_le_mul_of_nonneg_right (by omega) (by omega)
    omega
  have flen : (List.replicate k.toNat its).flatten.length ≤ sizeLine := by
    rw [PyProof.Rows.lm_len_rep_flat, hle, sizeLine_eq]
    have a1 : k.toNat * xs.length ≤ 2000 * 1000 := Nat.mul_le_mul (by omega) hz
    omega
  have c0 : (decide (k < -(2 ^ 63)) || decide (k ≥ 2 ^ 63)) = false := by
    rw [decide_eq_false (by omega), decide_eq_false (by omega)] <;> rfl
  have c1 : (its.toArray.isEmpty || k == 1) = false := by
    rw [hi, Bool.false_or]
    exact beq_eq_false_iff_ne.mpr (by omega)
  have c2 : (decide (k ≤ 0) || its.toArray.isEmpty) = false := by
    rw [hi, Bool.or_false]
    exact decide_eq_false (by omega)
  have c4 : Builtin.Tuple.tupleTooMany (((its.toArray.size : Nat) : Int) * k) = false := by
    unfold Builtin.Tuple.tupleTooMany
    rw [sizeLine_eq]
    exact decide_eq_false (by omega)
  refine wpAny_binaryOp_repeat_ref (T := "tuple") (U := "int") (by decide) ⟨_, ho, rfl⟩ (fun s' => typeIs_int s' k t) noFill_tuple_mul F.fills_int_mul F.slot_int_rmul repeat_tuple F.slot_int_index.lookup
    (call_meets F.slot_int_rmul (typeIs_int s k t) F.entry_int_rmul (F.args_int_rmul_2 _ _) (int_rmul_tuple k t l its.toArray n dd sl)
      ⟨ho, rfl, ⟨_, ho, rfl⟩, call_meets F.slot_tuple_mul ⟨_, ho, rfl⟩ F.entry_tuple_mul (F.args_tuple_mul_2 _ _) (tuple_mulW l its.toArray n dd sl k t c0 c1 c2 (by omega) c4 (by rw [size_rep, List.size_toArray]; exact flen)) ⟨ho, ?_⟩⟩)
  rw [size_rep]
  exact ⟨.ref s.heap.objs.size, _, I.laid (t' := s.toks) (o := .tup (List.replicate k.toNat xs).flatten) (fun b ob q => Heap.get?_push_of_some _ q) (Nat.le_refl _) ⟨by rw [PyProof.Rows.lm_len_rep_flat, ← hle, ← PyProof.Rows.lm_len_rep_flat]; exact flen, _, Vals.rep r k.toNat, IsTup.new _ _⟩, rfl, q _ (I.hok.fresh (Nat.le_refl _))⟩
theorem repU {K : PySem.W.Frag} (_ : X.K = K) : OpR X (binaryOp .Mult) rRep := op_rep
theorem listU {K : PySem.W.Frag} (h : X.K = K) : CallR X (.type "list") (fun xs H Q => ∃ p ys, xs = [.ref p] ∧ (SqL K H p ys ∨ SqT K H p ys) ∧ ∀ l, H l = none → Q (.ref l) (upd H l (.lst ys))) := h ▸ call_list_of
def rSlW (K : PySem.W.Frag) : V → Option Int → Option Int → Hp → VK → Prop := fun x lo hi H Q => rSlU K x lo hi H Q ∨ rSlL K x lo hi H Q
theorem slW {K : PySem.W.Frag} (h : X.K = K) : SlR X (rSlW K) := h ▸ SlR.or sl_U sl_list
theorem catA {K : PySem.W.Frag} (h : X.K = K) : OpR X (binaryOp .Add) (rCatA K) := h ▸ op_catA
theorem pe_rev2U {K : PySem.W.Frag} {e : Expr} {te : TE} {k : Nat} {p1 p2 p3 pos : Pos} (h : X.K = K) (he : PE X e te) : PE X (.Subscript e (.Slice none none (some (.UnaryOp .USub (.Constant (.int 1) k p1) p2)) p3) pos) (tRev2 K te) := h ▸ pe_rev2 he
end
end Hk
namespace Hk
open PySem PySem.Spec PyProof.Rows L2
/-! ### data with lists and dicts within: repr -/
inductive Rp (p : Vo) (H : Hp) : V → PyData → Prop
  | non : Rp p H .non .none
  | bl (b : Bool) : Rp p H (.bl b) (.bool b)
  | int (i : Int) : Rp p H (.int i) (.int i)
  | str (x : Str) : Rp p H (.str x) (.str x)
  | tup {a : Addr} {vs : List V} {ds : List PyData} (n : Nv p a) (h : H a = some (.tup vs)) (l : vs.length = ds.length) (r : ∀ (i : Nat) (v : V) (d : PyData), vs[i]? = some v → ds[i]? = some d → Rp p H v d) : Rp p H (.ref a) (.tuple ds)
  | lst {a : Addr} {vs : List V} {ds : List PyData} (n : Nv p a) (m : a ≠ sysModules) (h : H a = some (.lst vs)) (l : vs.length = ds.length) (r : ∀ (i : Nat) (v : V) (d : PyData), vs[i]? = some v → ds[i]? = some d → Rp p H v d) : Rp p H (.ref a) (.list ds)
  | dct {a : Addr} {kvs : List (Key × V)} {ps : List PyData} (n : Nv p a) (h : H a = some (.dK kvs)) (l : kvs.length = ps.length) (r : ∀ (i : Nat) (kv : Key × V) (d : PyData), kvs[i]? = some kv → ps[i]? = some d → Rp p H kv.2 d) : Rp p H (.ref a) (.dict ((kvs.map fun kv => kD kv.1).zip ps))
theorem Rp.gr {p : Vo} {H H' : Hp} {v : V} {d : PyData} (x : Rp p H v d) (g : Gr p H H') : Rp p H' v d := by
  induction x with
  | non => exact .non
  | bl b => exact .bl b
  | int i => exact .int i
  | str s => exact .str s
  | tup n h l r ih => exact .tup n (g _ _ n h) l ih
  | lst n m h l r ih => exact .lst n m (g _ _ n h) l ih
  | dct n h l r ih => exact .dct n (g _ _ n h) l ih
theorem Rp.of {p q : Vo} {H : Hp} {v : V} {d : PyData} (x : Rp p H v d) (k : ∀ a, Nv p a → Nv q a) : Rp q H v d := by
  induction x with
  | non => exact .non
  | bl b => exact .bl b
  | int i => exact .int i
  | str s => exact .str s
  | tup n h l r ih => exact .tup (k _ n) h l ih
  | lst n m h l r ih => exact .lst (k _ n) m h l ih
  | dct n h l r ih => exact .dct (k _ n) h l ih
theorem Rp.non' {p : Vo} {H : Hp} {v : V} {d : PyData} (x : Rp p H v d) : Rp Vo.non H v d := x.of fun a _ => nv_non a
theorem Rp.and {p : Vo} {H : Hp} {v : V} {d : PyData} {E : Addr} {o : HO} (x : Rp p H v d) (e : H E = none) : Rp (p.and E o) H v d := by
  induction x with
  | non => exact .non
  | bl b => exact .bl b
  | int i => exact .int i
  | str s => exact .str s
  | tup n h l r ih => exact .tup (n.and (ne_of_none h e).symm) h l ih
  | lst n m h l r ih => exact .lst (n.and (ne_of_none h e).symm) m h l ih
  | dct n h l r ih => exact .dct (n.and (ne_of_none h e).symm) h l ih
theorem Rp.back {p : Vo} {H : Hp} {v : V} {d : PyData} {E : Addr} {o : HO} (x : Rp (p.and E o) H v d) : Rp p H v d := x.of fun a n => n.back
/-! the same, less told: data whose lists and dicts are not looked into -/
mutual
def sD : PyData → D
  | .none => .non
  | .bool b => .bl b
  | .int i => .int i
  | .str s => .str s
  | .tuple ds => .tup (sDs ds)
  | .list _ => .lst
  | .dict _ => .dct
def sDs : List PyData → List D
  | [] => []
  | d :: ds => sD d :: sDs ds
end
theorem sDs_map : ∀ ds : List PyData, sDs ds = ds.map sD
  | [] => rfl
  | d :: ds => by
    show sD d :: sDs ds = _
    rw [sDs_map ds]; rfl
mutual
def smallD : PyData → Bool
  | .str s => decide (s.length ≤ 100000)
  | .tuple ds => decide (ds.length ≤ 100000) && smallDs ds
  | _ => true
def smallDs : List PyData → Bool
  | [] => true
  | d :: ds => smallD d && smallDs ds
end
theorem small_at : ∀ {ds : List PyData} {i : Nat} {d : PyData}, smallDs ds = true → ds[i]? = some d → smallD d = true
  | [], _, _, _, e => by cases e
  | x :: xs, 0, d, h, e => by
    have := (Bool.and_eq_true_iff.mp (show (smallD x && smallDs xs) = true from h)).1
    rwa [Option.some.inj e] at this
  | x :: xs, i + 1, d, h, e => small_at (ds := xs) (i := i) (Bool.and_eq_true_iff.mp (show (smallD x && smallDs xs) = true from h)).2 e
theorem Rp.dat {p : Vo} {H : Hp} {v : V} {d : PyData} (x : Rp p H v d) : smallD d = true → Dat p H v (sD d) := by
  induction x with
  | non => exact fun _ => .non
  | bl b => exact fun _ => .bl b
  | int i => exact fun _ => .int i
  | str s => exact fun h => .str s (of_decide_eq_true h)
  | @tup a vs ds n h l r ih =>
    intro hz
    obtain ⟨h1, h2⟩ := Bool.and_eq_true_iff.mp (show (decide (ds.length ≤ 100000) && smallDs ds) = true from hz)
    show Dat p H (.ref a) (.tup (sDs ds))
    rw [sDs_map]
    refine .tup n h (by rw [List.length_map]; exact l) (by rw [l]; exact of_decide_eq_true h1) fun i v d e1 e2 => ?_
    rw [List.getElem?_map] at e2
    cases e3 : ds[i]? with
    | none => rw [e3] at e2; cases e2
    | some d' =>
      rw [e3] at e2
      rw [← Option.some.inj e2]
      exact ih i v d' e1 e3 (small_at h2 e3)
  | lst n m h l r ih => exact fun _ => .lst n h
  | dct n h l r ih => exact fun _ => .dct n h
/-- the addresses of what is shown -/
theorem readsAll_ex {h : Heap} : ∀ {us : List Value} {ds : List PyData}, us.length = ds.length → (∀ (i : Nat) (u : Value) (d : PyData), us[i]? = some u → ds[i]? = some d → ∃ as, Reads h u d as ∧ sysModules ∉ as) → ∃ as, ReadsAll h us ds as ∧ sysModules ∉ as
  | [], [], _, _ => ⟨[], .nil, fun h => nomatch h⟩
  | [], _ :: _, l, _ => by cases l
  | _ :: _, [], l, _ => by cases l
  | u :: us, d :: ds, l, k => by
    obtain ⟨as, r1, n1⟩ := k 0 u d rfl rfl
    obtain ⟨bs, r2, n2⟩ := readsAll_ex (us := us) (ds := ds) (by rw [List.length_cons, List.length_cons] at l; omega) fun i u' d' h1 h2 => k (i + 1) u' d' h1 h2
    exact ⟨as ++ bs, .cons r1 r2, fun hm => (List.mem_append.mp hm).elim n1 n2⟩
section
variable {X : Cx}
theorem Rp.reads {pins : List (Addr × Obj)} {s : Shared} {σ : L2.St} {p : Vo} {H : Hp} {v : V} {d : PyData} (I : Inv X pins σ H s) (x : Rp p H v d) : ∀ {u : Value}, RelV v u → ∃ as, Reads s.heap u d as ∧ sysModules ∉ as := by
  induction x with
  | non => intro u r; cases (show u = Value.none from r); exact ⟨[], .none, fun h => nomatch h⟩
  | bl b => intro u r; cases (show u = Value.bool b from r); exact ⟨[], .bool b, fun h => nomatch h⟩
  | int i => intro u r; obtain ⟨t, rfl⟩ := (show ∃ t, u = Value.int i t from r); exact ⟨[], .int i t, fun h => nomatch h⟩
  | str z => intro u r; obtain ⟨t, rfl⟩ := (show ∃ t, u = Value.str z t from r); exact ⟨[], .str z t, fun h => nomatch h⟩
  | tup n h l r ih =>
    intro u ru
    rename_i a vs ds
    cases (show u = Value.ref a from ru)
    obtain ⟨its, rv, ⟨o, e1, e2, n, e4⟩, _⟩ := I.tuple (SqT.of h)
    obtain ⟨as, ra, na⟩ := readsAll_ex (h := s.heap) (rv.length.symm.trans l) fun i u d h1 h2 => by
      obtain ⟨v, hv, r'⟩ := vals_at rv h1
      exact ih i v d hv h2 r'
    exact ⟨as, .tuple e1 e2 e4 (by rw [List.toList_toArray]; exact ra), na⟩
  | lst n m h l r ih =>
    intro u ru
    rename_i a vs ds
    cases (show u = Value.ref a from ru)
    obtain ⟨z, its, n, rv, hl, e0⟩ := I.lstM h
    obtain ⟨as, ra, na⟩ := readsAll_ex (h := s.heap) (rv.length.symm.trans l) fun i u d h1 h2 => by
      obtain ⟨v, hv, r'⟩ := vals_at rv h1
      exact ih i v d hv h2 r'
    exact ⟨a :: as, .list e0 rfl rfl (by rw [List.toList_toArray]; exact ra), fun hm => (List.mem_cons.mp hm).elim (fun e => m e.symm) na⟩
  | dct n h hl r ih =>
    intro u ru
    rename_i a kvs ps
    cases (show u = Value.ref a from ru)
    obtain ⟨hz, hsm, vs, rel, o, es, ep, e1, e2, e3, e4, e5, e6⟩ := dk_of I.hok h
    have lk : es.toList.length = kvs.length := by rw [e5.length, ← rel.length]
    obtain ⟨as, ra, na⟩ := readsAll_ex (h := s.heap) (us := es.toList.map (·.val)) (ds := ps) (by rw [List.length_map, lk, hl]) fun i u d h1 h2 => by
      obtain ⟨kv, ek, eu⟩ := pairs_at e5 h1
      obtain ⟨v, ev, rv⟩ := kv_at rel ek
      rw [eu] at rv
      exact ih i v d ev h2 rv
    refine ⟨a :: [] ++ as, .dict e1 e2.1 e3 ?_ ?_, fun hm => ?_⟩
    · rw [List.map_fst_zip (by rw [List.length_map, hl]; exact Nat.le_refl _)]
      exact reads_keys e5 rel
    · rw [List.map_snd_zip (by rw [List.length_map, hl]; exact Nat.le_refl _)]
      exact ra
    · rcases List.mem_append.mp hm with hm | hm
      · have : sysModules = a := by simpa using hm
        rw [← this] at hsm
        exact absurd (beq_self_eq_true sysModules) (by rw [hsm]; exact Bool.false_ne_true)
      · exact na hm
/-- the repr of such a value -/
def rReprR : List V → Hp → VK → Prop := fun xs H Q => ∃ (v : V) (d : PyData), xs = [v] ∧ Rp Vo.non H v d ∧ d.showable = true ∧ d.depth ≤ 40 ∧ d.shown.length ≤ sizeLine ∧ Q (.str d.shown) H
theorem call_reprR (hg : X.A.guards = some []) (hu : X.A.units + 64 < cLine) : CallR X (.builtin "repr") rReprR := by
  intro pins s σ H xs us Q I r h
  obtain ⟨v, d, rfl, x, h1, h3, h4, q⟩ := h
  obtain ⟨u, rfl, rx⟩ := vals1 r
  obtain ⟨as, rd, na⟩ := x.reads I rx
  have go : ∀ a, u = .ref a → wpAny (model X.prog X.w) X.A (call (.builtin "repr") [u]) (EP X pins σ Q) X.xe s := fun a e => by
    subst e
    exact repr_of_reads' rd h1 (fun _ => na) hg (by omega) (fun _ _ e => e) (fun h' t tk hk => ⟨.str _, H, I.kept hk, ⟨_, rfl⟩, q⟩) h4
  cases x with
  | non =>
    cases (show u = Value.none from rx)
    exact PySem.P.repr_of_none ⟨.str _, H, I.tok _, ⟨_, rfl⟩, q⟩
  | bl b =>
    cases (show u = Value.bool b from rx)
    exact PySem.P.repr_of_bool ⟨.str _, H, I.tok _, ⟨_, rfl⟩, q⟩
  | int i =>
    obtain ⟨t, rfl⟩ := (show ∃ t, u = Value.int i t from rx)
    exact PySem.P.repr_of_int (of_decide_eq_true (by simpa only [PyData.showable] using h1)) ⟨.str _, H, I.tok _, ⟨_, rfl⟩, by simpa only [PyData.shown] using q⟩
  | str z =>
    obtain ⟨t, rfl⟩ := (show ∃ t, u = Value.str z t from rx)
    exact PySem.P.repr_of_str ⟨.str _, H, I.tok _, ⟨_, rfl⟩, by simpa only [PyData.shown] using q⟩ (by simpa only [PyData.shown] using h4)
  | tup n h l r => exact go _ rx
  | lst n m h l r => exact go _ rx
  | dct n h l r => exact go _ rx
/-- a tuple that is no empty one -/
def rNe0 (K : PySem.W.Frag) : R2 := fun x y H Q => ∃ a b xs, x = .ref a ∧ y = .ref b ∧ SqT K H a xs ∧ SqT K H b [] ∧ Q (.bl (!decide (xs.length = 0))) H
theorem op_ne0 (hu : X.A.units + 64 < cLine) : OpR X (compareOp .NotEq) (rNe0 X.K) := by
  intro pins s σ H x y v u Q I rx ry h
  obtain ⟨a, b, xs, rfl, rfl, ha, hb, q⟩ := h
  cases rx
  cases ry
  obtain ⟨its, rv, t1, _⟩ := I.tuple ha
  obtain ⟨its2, rv2, t2, _⟩ := I.tuple hb
  cases rv2
  obtain ⟨o1, a1, a2, n1, a4⟩ := t1
  obtain ⟨o2, b1, b2, n2, b4⟩ := t2
  refine SeqAt.RcNeAt.tuples (e := fun _ => true) ⟨o1, a1, a2, n1, a4⟩ ⟨o2, b1, b2, n2, b4⟩ (by omega) (fun j j1 j2 => by simp at j2) _ _ _ _ ⟨.bl (!decide (xs.length = 0)), H, I, ?_, q⟩
  have hl := rv.length
  cases its with
  | nil => cases rv; rfl
  | cons y ys =>
    cases rv
    rfl
end
end Hk
namespace Hk
open PySem PySem.Spec PyProof.Rows L2
/-! ### defs of one parameter that are called by keyword too, and that may raise -/
structure CaK (CX : CXT) (P : Program) (w : World) (K : PySem.W.Frag) (mg : Str → Option Value) (base : Heap) (k : Nat) (x kw : Str) (sp : Sp) : Prop where
  ex : ∃ (f : Addr) (fd : FuncData), FnOk P w K mg base CX k f fd [kw] sp ∧ mg x = some (.ref f) ∧ PySem.W.keepIn K (.ref f) = true ∧ Binds K fd [kw] [] ∧ KBn K fd [kw] 0 [kw] (fun _ ws => ws) (fun _ zs => zs)
section
variable {P : Program} {w : World} {K : PySem.W.Frag} {mg : Str → Option Value} {base : Heap} {k : Nat} {sp : Sp}
theorem kb_one {x kw : Str} {st : Stmt} {f : Addr} {fd : FuncData} (F : Fun K x x st f fd)
    (hk : ∀ (kV doc pm : Value) (an : Option Addr) (cdv ct u : Value), bindArgs (PySem.W.fnOf x x (defArgs st) (defBody st) (defScope st) .none kV doc pm an cdv ct) ⟨[], [(kw, u)]⟩ = pure [(kw, u)]) : KBn K fd [kw] 0 [kw] (fun _ ws => ws) (fun _ zs => zs) := by
  obtain ⟨oc, od, kV, doc, pm, an, cdv, ct, osl, rfl, lk, hcd⟩ := F.ex
  refine ⟨fun s us ws _ l1 l2 => ?_, fun _ z => z⟩
  match us, l1, ws, l2 with
  | [], _, [a], _ => exact .of_eq (hk _ _ _ _ _ _ _)
theorem CaK.ca {x kw : Str} (c : CaK CX0 P w K mg base k x kw sp) : Ca P w K mg base k x sp := by
  obtain ⟨f, fd, F, m, kp, b, _⟩ := c.ex
  exact ⟨f, fd, _, F, m, kp, b⟩
theorem cak_mk {x kw : Str} {st : Stmt} {N : List Str} (F : Df K mg x st) (S : FnScope N [kw] (defScope st))
    (hb : ∀ (kV doc pm : Value) (an : Option Addr) (cdv ct : Value) (us : List Value), us.length = [kw].length → bindArgs (PySem.W.fnOf x x (defArgs st) (defBody st) (defScope st) .none kV doc pm an cdv ct) ⟨us, []⟩ = pure ([kw].zip us))
    (hk : ∀ (kV doc pm : Value) (an : Option Addr) (cdv ct u : Value), bindArgs (PySem.W.fnOf x x (defArgs st) (defBody st) (defScope st) .none kV doc pm an cdv ct) ⟨[], [(kw, u)]⟩ = pure [(kw, u)])
    (len : ∀ vs H Q E, sp vs H Q E → vs.length = [kw].length)
    (hbody : ∀ (f : Addr) (cdv : Value) (A : Around) (outer : List Env) (s : Shared) (H : Hp) (vs : List V) (Q : VK) (E : XK), Room k (A.deeper (envOfC x (defScope st) s.heap.objs.size f cdv)) → sp vs H Q E →
      ∃ t, PSs (cxOf CX0 P w K mg base N x (defScope st) f cdv A outer s H E).nox (defBody st) t ∧ t { nx := fun _ H' => Q .non H', rt := Q } (start N vs) H) : CaK CX0 P w K mg base (k + 1) x kw sp := by
  obtain ⟨f, fd, F, hm⟩ := F.ex
  exact ⟨f, fd, F.ok S len (fun cdv A outer s H vs Q E hr h => hbody f cdv A outer s H vs Q E hr h), hm, F.kp, F.binds hb, kb_one F hk⟩
theorem cax_mk {x kw : Str} {st : Stmt} {N : List Str} (F : Df K mg x st) (S : FnScope N [kw] (defScope st))
    (hb : ∀ (kV doc pm : Value) (an : Option Addr) (cdv ct : Value) (us : List Value), us.length = [kw].length → bindArgs (PySem.W.fnOf x x (defArgs st) (defBody st) (defScope st) .none kV doc pm an cdv ct) ⟨us, []⟩ = pure ([kw].zip us))
    (hk : ∀ (kV doc pm : Value) (an : Option Addr) (cdv ct u : Value), bindArgs (PySem.W.fnOf x x (defArgs st) (defBody st) (defScope st) .none kV doc pm an cdv ct) ⟨[], [(kw, u)]⟩ = pure [(kw, u)])
    (len : ∀ vs H Q E, sp vs H Q E → vs.length = [kw].length)
    (hbody : ∀ (f : Addr) (cdv : Value) (A : Around) (outer : List Env) (s : Shared) (H : Hp) (vs : List V) (Q : VK) (E : XK), Room k (A.deeper (envOfC x (defScope st) s.heap.objs.size f cdv)) → sp vs H Q E →
      ∃ t, PSs (cxOf (L2.CX P w) P w K mg base N x (defScope st) f cdv A outer s H E) (defBody st) t ∧ t { nx := fun _ H' => Q .non H', rt := Q } (start N vs) H) : CaK (L2.CX P w) P w K mg base (k + 1) x kw sp := by
  obtain ⟨f, fd, F, hm⟩ := F.ex
  exact ⟨f, fd, F.okX S len (fun cdv A outer s H vs Q E hr h => hbody f cdv A outer s H vs Q E hr h), hm, F.kp, F.binds hb, kb_one F hk⟩
end
section
variable {X : Cx} {CX : CXT} {k i : Nat} {x kw : Str} {sp : Sp} {p pos : Pos} {e : Expr} {es : List Expr} {t : TA} {kws : List Keyword}
theorem pe_cx (c : CaK CX X.prog X.w X.K X.mg X.base k x kw sp) (hx : Passes CX X E0) (hr : Room k X.A) (hg : Gl X x) (ha : PA X (e :: es) t)
    (hdb : (x == ("__debug__" : Str)) = false := by decide) (he : starEach (e :: es) X.env = (false, eval e X.env) :: starEach es X.env := by rfl) (hpl : (backTo pos (starEach es X.env)).any (·.1) = false := by rfl) :
    PE X (.Call (.Name x p) (e :: es) [] pos) (tCall sp [] E0 t) := by
  obtain ⟨f, fd, F, hm, kp, b, _⟩ := c.ex
  exact pe_call F hr hg hm kp b .nil hx ha hdb he hpl
theorem pe_cxk (c : CaK CX X.prog X.w X.K X.mg X.base k x kw sp) (hx : Passes CX X E0) (hr : Room k X.A) (hg : Gl X x) (hkw : PK X kws t)
    (hall : (backToKw pos (keywordEach kws X.env)).all (·.1.isSome) = true := by rfl) (hks : (backToKw pos (keywordEach kws X.env)).filterMap (·.1) = [kw] := by rfl) (hdb : (x == ("__debug__" : Str)) = false := by decide)
    (hpl : ((backTo pos (starEach [] X.env)).any (·.1) || (backToKw pos (keywordEach kws X.env)).any (·.1.isNone)) = false := by rfl) :
    PE X (.Call (.Name x p) [] kws pos) (tCallN 0 1 sp (fun _ zs => zs) E0 tNil t) := by
  obtain ⟨f, fd, F, hm, kp, b, kb⟩ := c.ex
  exact pe_callN0 F hr hg hm kp kb hx hkw hall hks hdb hpl
/-- a local name that holds a def that may raise -/
structure HeldX (P : Program) (w : World) (K : PySem.W.Frag) (mg : Str → Option Value) (base : Heap) (k : Nat) (f : Addr) (sp : Sp) : Prop where
  ex : ∃ (fd : FuncData) (ps : List Str), FnOk P w K mg base (L2.CX P w) k f fd ps sp ∧ PySem.W.keepIn K (.ref f) = true ∧ Binds K fd ps []
def tCallX (i : Nat) (Hd : Addr → Sp → Prop) (W : WX) (t : TA) : TE := fun σ H Q => ∃ f sp, σ[i]? = some (some (.ref f)) ∧ Hd f sp ∧ t σ H fun vs H1 => sp vs H1 Q (WE W σ)
theorem pe_callX {Hd : Addr → Sp → Prop} {W : WX} (A : ∀ f sp, Hd f sp → HeldX X.prog X.w X.K X.mg X.base k f sp) (tk : Takes X W) (hr : Room k X.A) (hN : X.N[i]? = some x) (hv : Vis X.env.scope x) (ha : PA X (e :: es) t)
    (hdb : (x == ("__debug__" : Str)) = false := by decide) (hcd : (x == ("__classdict__" : Str)) = false := by decide)
    (he : starEach (e :: es) X.env = (false, eval e X.env) :: starEach es X.env := by rfl) (hpl : (backTo pos (starEach es X.env)).any (·.1) = false := by rfl) : PE X (.Call (.Name x p) (e :: es) [] pos) (tCallX i Hd W t) := by
  refine ⟨fun pins s σ H Q I h => ?_⟩
  obtain ⟨f, sp, hs, hd, ht⟩ := h
  obtain ⟨fd, ps, F, kp, b⟩ := (A f sp hd).ex
  refine wpAny_Call_Name_kw (thn ((pe_var (pos := p) hN hv hdb hcd).run pins s σ H (fun v H1 => v = .ref f ∧ H1 = H) I ⟨.ref f, hs, rfl, rfl⟩) fun u s1 ⟨v, H1, I1, r1, q1⟩ => ?_)
  obtain ⟨rfl, rfl⟩ := q1
  cases r1
  refine PySem.W.callWith_K (h₀ := X.base) I.ok.mod.kin kp (thn (ha.run pos pins s1 σ _ _ I1 ht) fun us s2 ⟨vs, H2, I2, r, q⟩ => ⟨I2.kIn, ?_⟩) he hpl
  exact run_fnS F hr b (passAt tk σ) I2 r q
end
end Hk
namespace Hk
open PySem PySem.Spec PyProof.Rows L2
section
variable {α β : Type} {p : Vo} {σ : L2.St} {H : Hp} {K : PySem.W.Frag} {te ta tb : TE} {tr : TA} {j : Nat} {vs : List Nat} {X : Pt α} {Y : Pt β} {es : List α} {fs : List β} {B : Sy p}
/-- a tuple whose items all are so -/
def AllT (Y : Pt β) (p : Vo) (H : Hp) (v : V) (fs : List β) : Prop := ∃ a xs, v = .ref a ∧ Nv p a ∧ H a = some (.tup xs) ∧ xs.length = fs.length ∧ ∀ (i : Nat) (x : V) (f : β), xs[i]? = some x → fs[i]? = some f → Y.T p H x f
theorem AllT.gr {H' : Hp} {v : V} (h : AllT Y p H v fs) (g : Gr p H H') : AllT Y p H' v fs := by
  obtain ⟨a, xs, h1, h2, h3, h4, h5⟩ := h
  exact ⟨a, xs, h1, h2, g a _ h2 h3, h4, fun i x f e1 e2 => Y.gr (h5 i x f e1 e2) g⟩
def stP (p : Vo) (Y : Pt β) (fs : List β) : Sy p := ⟨fun v H => AllT Y p H v fs, fun _ _ _ g h => h.gr g⟩
/-- over a tuple, by any target -/
theorem lcT_pt {g : TG} {τ : V → β → L2.St} (hx : Ev p ta σ H B) (hB : ∀ v H1, Gr p H H1 → B.P v H1 → AllT Y p H1 v fs) (hl : fs.length = es.length) (hz : es.length ≤ 100000) (hw : ∀ x f, wipe (τ x f) vs = wipe σ vs)
    (hg : ∀ (i : Nat) (x : V) (f : β) (H' : Hp) (R : L2.St → Hp → Prop), fs[i]? = some f → Y.T p H' x f → R (τ x f) H' → g x (wipe σ vs) H' R)
    (he : ∀ (i : Nat) (x : V) (f : β) D (l : List V) H1, fs[i]? = some f → Gr p H H1 → H1 D = none → Y.T (p.and D (.lst l)) H1 x f → Ev (p.and D (.lst l)) te (τ x f) H1 (syP (p.and D (.lst l)) X es[i]?)) :
    Ev p (tLc (iTup K ta) g tYes te vs) σ H (slP p X es) := by
  intro H0 i0 g0 Q q
  refine hx H0 i0 g0 _ fun v H2 i2 g2 hv => ?_
  obtain ⟨a, xs, rfl, na, h, l, r⟩ := hB v H2 (g0.trans g2) hv
  refine ⟨a, rfl, ⟨xs, SqT.of h⟩, fun D' hD => lc_tup (xs := xs) (CwP p X es H2 D') (cw0 i2 hD fun m v e h => by cases h) (fun i H' _ w => SqT.of (w.2.2.2.1 a _ na h)) (fun i x H' hi w => ?_) fun H' w => q _ H' w.1 (g2.trans w.2.2.2.1) (ptDone (by omega) w)⟩
  have hi2 : i < fs.length := by
    have := (List.getElem?_eq_some_iff.mp hi).1
    omega
  have hf := List.getElem?_eq_getElem hi2
  refine hg i x _ H' _ hf (Y.gr (r i x _ hi hf) w.2.2.2.1) ⟨hw _ _, ptTurn (by omega) (fun lo => he i x _ D' lo H2 hf (g0.trans g2) hD (Y.an (r i x _ hi hf) hD)) w⟩
end
/-- exact values; data -/
def Px : Pt V := ⟨fun _ _ v e => v = e, fun h _ => h, fun h _ => h, fun h _ => h⟩
def Pd : Pt D := ⟨fun p H v d => Dat p H v d, fun h g => Dat.gr h g, fun h k => Dat.of h k, fun h e => Dat.and h e⟩
def Pr : Pt PyData := ⟨fun p H v d => Rp p H v d, fun h g => Rp.gr h g, fun h k => Rp.of h k, fun h e => Rp.and h e⟩
section
variable {p : Vo} {σ : L2.St} {H : Hp} {K : PySem.W.Frag} {te ta tb : TE} {tr : TA} {ws : List V}
theorem slx_px {v : V} {H1 : Hp} (h : (slP p Px ws).P v H1) : (slx (p := p) ws).P v H1 := by
  obtain ⟨a, us, h1, h2, h3, h4, h5⟩ := h
  refine ⟨a, us, h1, h2, h3, ?_⟩
  refine List.ext_getElem? fun i => ?_
  by_cases hi : i < us.length
  · have e1 := List.getElem?_eq_getElem hi
    have e2 := List.getElem?_eq_getElem (l := ws) (by omega : i < ws.length)
    rw [e1, e2, h5 i _ _ e1 e2]
  · rw [List.getElem?_eq_none (by omega), List.getElem?_eq_none (by omega)]
theorem px_slx {v : V} {H1 : Hp} (h : (slx (p := p) ws).P v H1) : (slP p Px ws).P v H1 := by
  obtain ⟨a, us, h1, h2, h3, h4⟩ := h
  refine ⟨a, us, h1, h2, h3, by rw [h4], fun i v e e1 e2 => ?_⟩
  rw [h4, e2] at e1
  exact (Option.some.inj e1).symm
theorem e_px {v : V} {o : Option V} (h : Ev p te σ H (sx v)) (ho : o = some v) : Ev p te σ H (syP p Px o) := h.imp fun w H1 e x ex => by
  rw [ho] at ex
  show w = x
  rw [← Option.some.inj ex]
  exact e
/-! f-strings -/
theorem x_fmtS {s : Str} (h : Ev p te σ H (sx (.str s))) (hz : s.length ≤ sizeLine) : Ev p (tFmt te) σ H (sx (.str s)) := fun H1 i g Q q => h H1 i g _ fun v H2 i2 g2 e => .inl ⟨s, e, hz, q _ H2 i2 g2 rfl⟩
theorem x_fmtI {n : Int} (h : Ev p te σ H (sx (.int n))) (hz : n.natAbs.log2 < 1920) : Ev p (tFmt te) σ H (sx (.str (toString n))) := fun H1 i g Q q => h H1 i g _ fun v H2 i2 g2 e => .inr ⟨n, e, hz, q _ H2 i2 g2 rfl⟩
def EvJ (p : Vo) (ts : List TE) (acc : Str) (σ : L2.St) (H : Hp) (out : Str) : Prop := ∀ H1, Iv p H1 → Gr p H H1 → ∀ Q : Str → Hp → Prop, (∀ H2, Iv p H2 → Gr p H1 H2 → Q out H2) → tJs ts acc σ H1 Q
theorem j_nil {acc : Str} : EvJ p [] acc σ H acc := fun H1 i _ Q q => q H1 i (Gr.refl H1)
theorem j_cons {t : TE} {ts : List TE} {acc y out : Str} (h : Ev p t σ H (sx (.str y))) (hz : (acc ++ y).length ≤ sizeLine) (r : EvJ p ts (acc ++ y) σ H out) : EvJ p (t :: ts) acc σ H out := fun H1 i g Q q =>
  h H1 i g _ fun v H2 i2 g2 e => ⟨y, e, hz, r H2 i2 (g.trans g2) Q fun H3 i3 g3 => q H3 i3 (g2.trans g3)⟩
theorem x_joined {ts : List TE} {out : Str} (h : EvJ p ts Str.empty σ H out) : Ev p (fun σ H Q => tJs ts Str.empty σ H fun out H1 => Q (.str out) H1) σ H (sx (.str out)) := fun H1 i g Q q => h H1 i g _ fun H2 i2 g2 => q _ H2 i2 g2 rfl
/-! join, split, partition -/
def rJoin (K : PySem.W.Frag) : V → List V → Hp → VK → Prop := fun x xs H Q => ∃ a p, ∃ ys : List Str, x = .str a ∧ xs = [.ref p] ∧ (SqL K H p (ys.map V.str) ∨ SqT K H p (ys.map V.str)) ∧
      (ys.map (·.length)).sum + ys.length * a.length ≤ 16777216 ∧ Q (.str (Txt.join a ys)) H
theorem x_join {a : Str} {ys : List Str} (ha : Ev p ta σ H (sx (.str a))) (hb : Ev p tb σ H (slx (ys.map V.str))) (hz : (ys.map (·.length)).sum + ys.length * a.length ≤ 16777216) : Ev p (tM1 (rJoin K) ta tb) σ H (sx (.str (Txt.join a ys))) := fun H1 i g Q q =>
  ha H1 i g _ fun v H2 i2 g2 e => ⟨⟨a, e⟩, hb H2 i2 (g.trans g2) _ fun y H3 i3 g3 ⟨b, us, e1, nb, h, eu⟩ => ⟨a, b, ys, e, by rw [e1], .inl (SqL.of (by rw [h, eu])), hz, q _ H3 i3 (g2.trans g3) rfl⟩⟩
def rSplit : V → List V → Hp → VK → Prop := fun x xs H Q => ∃ a b, x = .str a ∧ xs = [.str b] ∧ (b.length == 0) = false ∧ a.length + 2 ≤ sizeLine ∧ rNewStrs (Txt.split a b) H Q
theorem x_split {a b : Str} (ha : Ev p ta σ H (sx (.str a))) (hb : Ev p tb σ H (sx (.str b))) (hz : a.length ≤ 100000) (h0 : (b.length == 0) = false) : Ev p (tM1 rSplit ta tb) σ H (slx ((Txt.split a b).map V.str)) := fun H1 i g Q q =>
  ha H1 i g _ fun v H2 i2 g2 e => ⟨⟨a, e⟩, hb H2 i2 (g.trans g2) _ fun y H3 i3 g3 ey => ⟨a, b, e, by rw [show y = _ from ey], h0, by rw [sizeLine_eq]; omega, fun c hc => q _ _ (i3.new hc) ((g2.trans g3).trans (Gr.new hc)) ⟨c, _, rfl, i3.ne hc, upd_same, rfl⟩⟩⟩
def rPart : V → List V → Hp → VK → Prop := fun x xs H Q => ∃ a b, x = .str a ∧ xs = [.str b] ∧ (b.length == 0) = false ∧ a.length ≤ sizeLine ∧
      ∀ p, H p = none → Q (.ref p) (upd H p (.tup [.str (Txt.partition a b).1, .str (Txt.partition a b).2.1, .str (Txt.partition a b).2.2]))
theorem x_part {a b : Str} (ha : Ev p ta σ H (sx (.str a))) (hb : Ev p tb σ H (sx (.str b))) (hz : a.length ≤ 100000) (h0 : (b.length == 0) = false) : Ev p (tM1 rPart ta tb) σ H (stx [.str (Txt.partition a b).1, .str (Txt.partition a b).2.1, .str (Txt.partition a b).2.2]) := fun H1 i g Q q =>
  ha H1 i g _ fun v H2 i2 g2 e => ⟨⟨a, e⟩, hb H2 i2 (g.trans g2) _ fun y H3 i3 g3 ey => ⟨a, b, e, by rw [show y = _ from ey], h0, by rw [sizeLine_eq]; omega, fun c hc => q _ _ (i3.new hc) ((g2.trans g3).trans (Gr.new hc)) ⟨c, _, rfl, i3.ne hc, upd_same, rfl⟩⟩⟩
end
section
variable {X : Cx} {o e : Expr} {to te : TE} {apos pos : Pos} {K : PySem.W.Frag}
theorem pe_joinU (hK : X.K = K) (ho : PE X o to) (he : PE X e te) (hs : starEach [e] X.env = [(false, eval e X.env)] := by rfl) (hbase : attributeBase o "join" X.env (eval o X.env) = eval o X.env := by rfl) (hline : (apos.endLine == pos.line) = true := by rfl) :
    PE X (.Call (.Attribute o "join" apos) [e] [] pos) (tM1 (rJoin K) to te) := hK ▸ pe_join ho he hs hbase hline
theorem pe_splitU (ho : PE X o to) (he : PE X e te) (hs : starEach [e] X.env = [(false, eval e X.env)] := by rfl) (hbase : attributeBase o "split" X.env (eval o X.env) = eval o X.env := by rfl) (hline : (apos.endLine == pos.line) = true := by rfl) :
    PE X (.Call (.Attribute o "split" apos) [e] [] pos) (tM1 rSplit to te) := pe_split ho he hs hbase hline
theorem pe_partU (ho : PE X o to) (he : PE X e te) (hs : starEach [e] X.env = [(false, eval e X.env)] := by rfl) (hbase : attributeBase o "partition" X.env (eval o X.env) = eval o X.env := by rfl) (hline : (apos.endLine == pos.line) = true := by rfl) :
    PE X (.Call (.Attribute o "partition" apos) [e] [] pos) (tM1 rPart to te) := pe_partition ho he hs hbase hline
end
end Hk
namespace Hk
open PySem PySem.Spec PyProof.Rows L2
section
variable {X : Cx} {K : PySem.W.Frag} {pos : Pos}
theorem slLU (h : X.K = K) : SlR X (rSlL K) := h ▸ sl_list
theorem ne0U (hu : X.A.units + 64 < cLine) (h : X.K = K) : OpR X (compareOp .NotEq) (rNe0 K) := h ▸ op_ne0 hu
theorem pg_starU {e1 e2 : Expr} {k : Nat} {t u : TG} (h : X.K = K) (hc : X.calm = true) (h1 : PG X e1 t) (h2 : PG X e2 u) {q : Pos}
    (hn : (assignEach [e1, .Starred e2 q] X.env).length = 2 := by rfl) (hst : (assignEach [e1, .Starred e2 q] X.env).findIdx? (·.1) = some 1 := by rfl)
    (hm : (assignEach [e1, .Starred e2 q] X.env).map (·.2) = [assign e1 X.env, assign e2 X.env] := by rfl) : PG X (.Tuple [e1, .Starred e2 q] k pos) (gStar K t u) := h ▸ pg_star hc h1 h2 hn hst hm
/-- == of data without dicts -/
def rEqR : R2 := fun x y H Q => ∃ d d' : PyData, Rp Vo.non H x d ∧ Rp Vo.non H y d' ∧ SeqAt.shaped d = true ∧ SeqAt.shaped d' = true ∧ Q (.bl (PyData.eqv d d')) H
theorem op_eqR (hu : X.A.units + 64 < cLine) : OpR X (compareOp .Eq) rEqR := by
  intro pins s σ H x y v u Q I rx ry h
  obtain ⟨d, d', h1, h2, h3, h4, q⟩ := h
  obtain ⟨as, r1, _⟩ := h1.reads I rx
  obtain ⟨bs, r2, _⟩ := h2.reads I ry
  exact SeqAt.compareEq_shaped r1 r2 h3 h4 hu ⟨.bl _, H, I, rfl, q⟩
end
end Hk
namespace Hk
open PySem PySem.Spec PyProof.Rows L2
section
variable {p : Vo} {σ : L2.St} {H : Hp} {K : PySem.W.Frag} {te ta tb : TE} {tr : TA} {ws us : List V}
/-- a row of known values -/
def EvX (p : Vo) (tr : TA) (σ : L2.St) (H : Hp) (ws : List V) : Prop := ∀ H1, Iv p H1 → Gr p H H1 → ∀ Q : List V → Hp → Prop, (∀ H2, Iv p H2 → Gr p H1 H2 → Q ws H2) → tr σ H1 Q
theorem xa_nil : EvX p tNil σ H [] := fun H1 i _ Q q => q H1 i (Gr.refl H1)
theorem xa_cons {w : V} (h : Ev p te σ H (sx w)) (hr : EvX p tr σ H ws) : EvX p (tCons te tr) σ H (w :: ws) := fun H1 i g Q q =>
  h H1 i g _ fun v H2 i2 g2 e => hr H2 i2 (g.trans g2) _ fun H3 i3 g3 => by
    rw [show v = w from e]
    exact q H3 i3 (g2.trans g3)
theorem xa_star {B : Sy p} (h : Ev p te σ H B) (hB : ∀ v H1, Gr p H H1 → B.P v H1 → ∃ a, v = .ref a ∧ (SqL K H1 a us ∨ SqT K H1 a us)) (hr : EvX p tr σ H ws) : EvX p (StX.tStar K te tr) σ H (us ++ ws) := fun H1 i g Q q =>
  h H1 i g _ fun v H2 i2 g2 b => by
    obtain ⟨a, rfl, hs⟩ := hB v H2 (g.trans g2) b
    exact ⟨a, us, rfl, hs.symm, hr H2 i2 (g.trans g2) _ fun H3 i3 g3 => q H3 i3 (g2.trans g3)⟩
theorem xx_lst (h : EvX p tr σ H ws) (hz : ws.length ≤ sizeLine) : Ev p (tLst tr) σ H (slx ws) := fun H1 i g Q q =>
  h H1 i g _ fun H2 i2 g2 => ⟨hz, fun b hb => q _ _ (i2.new hb) (g2.trans (Gr.new hb)) ⟨b, ws, rfl, i2.ne hb, upd_same, rfl⟩⟩
theorem xx_tup (h : EvX p tr σ H ws) (hz : ws.length ≤ sizeLine) : Ev p (tTup tr) σ H (stx ws) := fun H1 i g Q q =>
  h H1 i g _ fun H2 i2 g2 => ⟨hz, fun b hb => q _ _ (i2.new hb) (g2.trans (Gr.new hb)) ⟨b, ws, rfl, i2.ne hb, upd_same, rfl⟩⟩
end
end Hk
namespace Hk
open PySem PySem.Spec PyProof.Rows L2
section
variable {α : Type} {p : Vo} {σ : L2.St} {H : Hp} {K : PySem.W.Frag} {te ta tb : TE} {tr : TA} {Y : Pt α} {es fs : List α}
/-- a row of things that are so -/
def AllL (Y : Pt α) (p : Vo) (H : Hp) (vs : List V) (es : List α) : Prop := vs.length = es.length ∧ ∀ (i : Nat) (v : V) (e : α), vs[i]? = some v → es[i]? = some e → Y.T p H v e
theorem AllL.gr {H' : Hp} {vs : List V} (h : AllL Y p H vs es) (g : Gr p H H') : AllL Y p H' vs es := ⟨h.1, fun i v e e1 e2 => Y.gr (h.2 i v e e1 e2) g⟩
theorem AllL.nil : AllL Y p H [] [] := ⟨rfl, fun i v e h => by cases h⟩
theorem AllL.cons {v : V} {e : α} {vs : List V} (h : Y.T p H v e) (hr : AllL Y p H vs es) : AllL Y p H (v :: vs) (e :: es) := by
  refine ⟨by rw [List.length_cons, List.length_cons, hr.1], fun i w f e1 e2 => ?_⟩
  cases i with
  | zero =>
    rw [← Option.some.inj e1, ← Option.some.inj e2]
    exact h
  | succ i => exact hr.2 i w f e1 e2
theorem AllL.app {vs ws : List V} (h : AllL Y p H vs es) (hr : AllL Y p H ws fs) : AllL Y p H (vs ++ ws) (es ++ fs) := by
  refine ⟨by rw [List.length_append, List.length_append, h.1, hr.1], fun i w f e1 e2 => ?_⟩
  by_cases hi : i < vs.length
  · rw [List.getElem?_append_left hi] at e1
    rw [List.getElem?_append_left (by rw [← h.1]; exact hi)] at e2
    exact h.2 i w f e1 e2
  · rw [List.getElem?_append_right (by omega)] at e1
    rw [List.getElem?_append_right (by rw [← h.1]; omega), ← h.1] at e2
    exact hr.2 _ w f e1 e2
def EvL (Y : Pt α) (p : Vo) (tr : TA) (σ : L2.St) (H : Hp) (es : List α) : Prop := ∀ H1, Iv p H1 → Gr p H H1 → ∀ Q : List V → Hp → Prop, (∀ vs H2, Iv p H2 → Gr p H1 H2 → AllL Y p H2 vs es → Q vs H2) → tr σ H1 Q
theorem la_nil : EvL Y p tNil σ H [] := fun H1 i _ Q q => q [] H1 i (Gr.refl H1) .nil
/-- one thing that is so -/
def syY (p : Vo) (Y : Pt α) (e : α) : Sy p := ⟨fun v H => Y.T p H v e, fun v H H' g h => Y.gr h g⟩
theorem la_cons {e : α} (h : Ev p te σ H (syY p Y e)) (hr : EvL Y p tr σ H es) : EvL Y p (tCons te tr) σ H (e :: es) := fun H1 i g Q q =>
  h H1 i g _ fun v H2 i2 g2 hv => hr H2 i2 (g.trans g2) _ fun vs H3 i3 g3 hl => q (v :: vs) H3 i3 (g2.trans g3) (.cons (Y.gr hv g3) hl)
theorem la_star (h : Ev p te σ H (slP p Y es)) (hr : EvL Y p tr σ H fs) : EvL Y p (StX.tStar K te tr) σ H (es ++ fs) := fun H1 i g Q q =>
  h H1 i g _ fun v H2 i2 g2 ⟨a, us, e1, na, ha, hl⟩ => ⟨a, us, e1, .inr (SqL.of ha), hr H2 i2 (g.trans g2) _ fun ws H3 i3 g3 hw => q (us ++ ws) H3 i3 (g2.trans g3) (AllL.app (AllL.gr hl g3) hw)⟩
theorem l_tup (h : EvL Y p tr σ H es) (hz : es.length ≤ 1000000) : Ev p (tTup tr) σ H (stP p Y es) := fun H1 i g Q q =>
  h H1 i g _ fun vs H2 i2 g2 hl => ⟨by rw [hl.1, sizeLine_eq]; omega, fun b hb => q _ _ (i2.new hb) (g2.trans (Gr.new hb)) ⟨b, vs, rfl, i2.ne hb, upd_same, AllL.gr hl (Gr.new hb)⟩⟩
theorem l_lst (h : EvL Y p tr σ H es) (hz : es.length ≤ 1000000) : Ev p (tLst tr) σ H (slP p Y es) := fun H1 i g Q q =>
  h H1 i g _ fun vs H2 i2 g2 hl => ⟨by rw [hl.1, sizeLine_eq]; omega, fun b hb => q _ _ (i2.new hb) (g2.trans (Gr.new hb)) ⟨b, vs, rfl, i2.ne hb, upd_same, AllL.gr hl (Gr.new hb)⟩⟩
theorem stP_dat {p : Vo} {ds : List D} {v : V} {H : Hp} (hz : ds.length ≤ 100000) (h : (stP p Pd ds).P v H) : Dat p H v (.tup ds) := by
  obtain ⟨a, xs, rfl, na, ha, hl, hr⟩ := h
  exact .tup na ha hl (by omega) hr
theorem dat_stP {p : Vo} {ds : List D} {v : V} {H : Hp} (h : Dat p H v (.tup ds)) : (stP p Pd ds).P v H := by
  cases h with
  | tup na ha hl hz hr => exact ⟨_, _, rfl, na, ha, hl, hr⟩
theorem stP_rp {p : Vo} {ds : List PyData} {v : V} {H : Hp} (h : (stP p Pr ds).P v H) : Rp p H v (.tuple ds) := by
  obtain ⟨a, xs, rfl, na, ha, hl, hr⟩ := h
  exact .tup na ha hl hr
theorem slP_rp {p : Vo} (hp : ∀ a, Nv p a → a ≠ sysModules) {ds : List PyData} {v : V} {H : Hp} (h : (slP p Pr ds).P v H) : Rp p H v (.list ds) := by
  obtain ⟨a, xs, rfl, na, ha, hl, hr⟩ := h
  exact .lst na (hp a na) ha hl hr
end
end Hk
namespace Hk
open PySem PySem.NumText PyProof PyProof.Rows L2 TL
/-! ### numbers, written and read -/
def numStr (i : Int) : Str := Str.ofString (toString i)
def DigS (s : Str) : Prop := AllDigits s.cps.toList ∧ s.cps.toList ≠ []
def valS (s : Str) : Nat := digitsVal s.cps.toList
/-- no 0 ahead of another sign -/
def Canon (l : List Nat) : Prop := l = [48] ∨ l.headD 0 ≠ 48
theorem back_of : ∀ {cs : List Nat}, AllDigits cs → (cs.map Char.ofNat).map Char.toNat = cs
  | [], _ => rfl
  | c :: cs, h => by
    have hc := h.head
    have e : (Char.ofNat c).toNat = c := by
      have : ∀ d : Nat, d < 10 → (Char.ofNat (48 + d)).toNat = 48 + d := by decide
      have := this (c - 48) (by omega)
      rwa [show 48 + (c - 48) = c by omega] at this
    rw [List.map_cons, List.map_cons, e, back_of h.tail]
theorem num_val {cs : List Nat} (h : AllDigits cs) : (numStr ((digitsVal cs : Nat) : Int)).cps.toList = match cs.dropWhile (· == 48) with
    | [] => [48]
    | c :: r => c :: r := by
  unfold numStr
  rw [PySem.W.KIN.signs_num, toDigits_all cs h]
  have hs : ∀ {l : List Nat}, AllDigits l → AllDigits (l.dropWhile (· == 48)) := fun {l} hl c hc => hl c ((List.dropWhile_suffix _).subset hc)
  have := hs h
  revert this
  cases cs.dropWhile (· == 48) with
  | nil => intro _; rfl
  | cons c r => intro h'; exact back_of h'
theorem num_canon {cs : List Nat} (h : AllDigits cs) (hn : cs ≠ []) : (numStr ((digitsVal cs : Nat) : Int)).cps.toList = cs ↔ Canon cs := by
  rw [num_val h]
  cases cs with
  | nil => exact absurd rfl hn
  | cons c r =>
    by_cases e : c = 48
    · subst e
      rw [List.dropWhile_cons, if_pos (by decide)]
      constructor
      · intro q
        left
        cases hr : r.dropWhile (· == 48) with
        | nil =>
          rw [hr] at q
          exact q.symm
        | cons d t =>
          rw [hr] at q
          have h1 : (d :: t).length ≤ r.length := by rw [← hr]; exact (List.dropWhile_suffix _).length_le
          have h2 := congrArg List.length (show d :: t = 48 :: r from q)
          rw [List.length_cons (a := 48)] at h2
          omega
      · intro q
        rcases q with q | q
        · have : r = [] := (List.cons.inj q).2
          rw [this]; rfl
        · exact absurd rfl q
    · rw [List.dropWhile_cons, if_neg (by rw [beq_iff_eq]; exact e)]
      exact ⟨fun _ => .inr e, fun _ => rfl⟩
theorem num_eq {s : Str} (h : DigS s) : numStr ((valS s : Nat) : Int) = s ↔ Canon s.cps.toList := by
  rw [← num_canon h.1 h.2]
  exact ⟨fun e => by rw [show digitsVal s.cps.toList = valS s from rfl, e], fun e => ext_tl e⟩
theorem int_val {s : Str} (h : DigS s) (hz : s.length ≤ 4300) : intText? s = some ((valS s : Nat) : Int) := intText_digits h.1 h.2 hz
theorem canon_one {c : Nat} : Canon [c] := by
  by_cases e : c = 48
  · exact .inl (by rw [e])
  · exact .inr e
theorem val_one {c : Nat} (h : 48 ≤ c ∧ c ≤ 57) : digitsVal [c] = c - 48 := by show 0 * 10 + (c - 48) = c - 48; omega
theorem val_lt : ∀ {l : List Nat}, AllDigits l → digitsVal l < 10 ^ l.length := fun {l} h => by
  have key : ∀ (l : List Nat), AllDigits l → ∀ a, l.foldl (fun acc c => acc * 10 + (c - 48)) a < (a + 1) * 10 ^ l.length := by
    intro l
    induction l with
    | nil => intro _ a; show a < (a + 1) * 10 ^ 0; omega
    | cons c r ih =>
      intro h a
      have hc := h.head
      have := ih h.tail (a * 10 + (c - 48))
      refine Nat.lt_of_lt_of_le this ?_
      rw [List.length_cons, Nat.pow_succ]
      have : a * 10 + (c - 48) + 1 ≤ (a + 1) * 10 := by omega
      calc (a * 10 + (c - 48) + 1) * 10 ^ r.length ≤ (a + 1) * 10 * 10 ^ r.length := Nat.mul_le_mul_right _ this
        _ = (a + 1) * (10 ^ r.length * 10) := by rw [Nat.mul_assoc, Nat.mul_comm 10]
  have := key l h 0
  rw [Nat.zero_add, Nat.one_mul] at this
  exact this
/-- a number below ten, written -/
theorem num_one {n : Int} (h0 : 0 ≤ n) (h1 : n ≤ 9) : (numStr n).cps.toList = [48 + n.toNat] := by
  obtain ⟨m, rfl⟩ := Int.eq_ofNat_of_zero_le h0
  show tl (Str.ofString (toString ((m : Nat) : Int))) = _
  rw [tl_num, numL_lt (by omega)]
  rfl
/-- a number's signs are digits, and stand for it -/
theorem num_digs (m : Nat) : DigS (numStr (m : Int)) := by
  have e : (numStr (m : Int)).cps.toList = (Nat.toDigits 10 m).map Char.toNat := PySem.W.KIN.signs_num m
  refine ⟨fun c hc => ?_, ?_⟩
  · rw [e] at hc
    obtain ⟨ch, hch, e⟩ := List.mem_map.mp hc
    have r := digit_range (Nat.isDigit_of_mem_toDigits (by decide) (by decide) hch)
    rw [← e]
    exact r
  · rw [e]
    intro q
    have := List.map_eq_nil_iff.mp q
    exact absurd this (Nat.toDigits_ne_nil)
theorem num_back (m : Nat) : valS (numStr (m : Int)) = m := by
  unfold valS
  rw [show (numStr (m : Int)).cps.toList = (Nat.toDigits 10 m).map Char.toNat from PySem.W.KIN.signs_num m]
  exact PySem.W.KIN.val_back m
theorem num_canon' (m : Nat) : Canon (numStr (m : Int)).cps.toList := (num_eq (num_digs m)).mp (by rw [num_back])
/-! ### parts of a text -/
theorem par_back {S : List Nat} : ∀ {l acc a b : List Nat}, par S acc l = some (a, b) → acc ++ l = a ++ S ++ b
  | [], acc, a, b, h => by cases h
  | c :: r, acc, a, b, h => by
    cases hp : pre S (c :: r) with
    | true =>
      rw [par_hit hp] at h
      have e := Option.some.inj h
      have e1 : acc = a := congrArg Prod.fst e
      have e2 : (c :: r).drop S.length = b := congrArg Prod.snd e
      have ht : (c :: r).take S.length = S := eq_of_beq hp
      have := List.take_append_drop S.length (c :: r)
      rw [ht, e2] at this
      rw [← this, e1, List.append_assoc]
    | false =>
      rw [par_miss hp] at h
      have := par_back h
      rw [List.append_assoc] at this
      exact this
theorem part_back {w y : Str} (hy : tl y ≠ []) (h : (Txt.partition w y).2.2.cps.toList ≠ []) : w = (Txt.partition w y).1 ++ y ++ (Txt.partition w y).2.2 := by
  have e := partition_par w y hy
  cases hp : par (tl y) [] (tl w) with
  | none =>
    rw [hp] at e
    rw [e] at h
    exact absurd rfl h
  | some q =>
    obtain ⟨a, b⟩ := q
    rw [hp] at e
    have := par_back hp
    rw [List.nil_append] at this
    rw [e]
    refine ext_tl ?_
    rw [tl_append, tl_append]
    exact this
end Hk
namespace Hk
open PySem PySem.Spec PyProof.Rows L2
theorem cut_to {xs : List V} {k : Nat} (h : k ≤ xs.length) : cutV xs none (some (k : Int)) = xs.take k := by
  unfold cutV
  rw [HT.sIx_none, HT.sIx_nat]
  show (xs.drop 0).take (min k xs.length - 0) = _
  rw [List.drop_zero, Nat.sub_zero, Nat.min_eq_left h]
theorem cut_from {xs : List V} {k : Nat} : cutV xs (some (k : Int)) none = xs.drop k := by
  unfold cutV
  rw [HT.sIx_none, HT.sIx_nat]
  rw [List.take_of_length_le (by rw [List.length_drop]; omega)]
  by_cases h : k ≤ xs.length
  · rw [Nat.min_eq_left h]
  · rw [Nat.min_eq_right (by omega), List.drop_length, List.drop_eq_nil_of_le (by omega)]
section
variable {α : Type} {p : Vo} {σ : L2.St} {H : Hp} {K : PySem.W.Frag} {te ta tb : TE} {tr : TA} {Y : Pt α} {es fs : List α} {B : Sy p}
theorem AllL.take {vs : List V} (h : AllL Y p H vs es) (k : Nat) : AllL Y p H (vs.take k) (es.take k) := by
  refine ⟨by rw [List.length_take, List.length_take, h.1], fun i v e e1 e2 => ?_⟩
  rw [List.getElem?_take] at e1 e2
  by_cases hi : i < k
  · rw [if_pos hi] at e1 e2
    exact h.2 i v e e1 e2
  · rw [if_neg hi] at e1
    cases e1
theorem AllL.drop {vs : List V} (h : AllL Y p H vs es) (k : Nat) : AllL Y p H (vs.drop k) (es.drop k) := by
  refine ⟨by rw [List.length_drop, List.length_drop, h.1], fun i v e e1 e2 => ?_⟩
  rw [List.getElem?_drop] at e1 e2
  exact h.2 _ v e e1 e2
theorem x_takeY {k : Nat} {th : TO} (ha : Ev p ta σ H (slP p Y es)) (hk : k ≤ es.length) (hh : ∀ H (Q : Option Int → Hp → Prop), Q (some (k : Int)) H → th σ H Q) : Ev p (tSl (rSlL K) ta tNoPart th) σ H (slP p Y (es.take k)) :=
  fun H1 i g Q q => ha H1 i g _ fun v H2 i2 g2 ⟨a, us, e, na, h, hl⟩ => hh H2 _ ⟨a, us, e, SqL.of h, fun b hb => q _ _ (i2.new hb) (g2.trans (Gr.new hb)) ⟨b, _, rfl, i2.ne hb, upd_same, by
    have hl : AllL Y p H2 us es := hl
    rw [cut_to (by rw [hl.1]; exact hk)]
    exact (hl.take k).gr (Gr.new hb)⟩⟩
theorem x_dropY {k : Nat} {tl : TO} (ha : Ev p ta σ H (slP p Y es)) (hh : ∀ H (Q : Option Int → Hp → Prop), Q (some (k : Int)) H → tl σ H Q) : Ev p (tSl (rSlL K) ta tl tNoPart) σ H (slP p Y (es.drop k)) :=
  fun H1 i g Q q => ha H1 i g _ fun v H2 i2 g2 ⟨a, us, e, na, h, hl⟩ => hh H2 _ ⟨a, us, e, SqL.of h, fun b hb => q _ _ (i2.new hb) (g2.trans (Gr.new hb)) ⟨b, _, rfl, i2.ne hb, upd_same, by
    have hl : AllL Y p H2 us es := hl
    rw [cut_from]
    exact (hl.drop k).gr (Gr.new hb)⟩⟩
theorem x_catY (ha : Ev p ta σ H (slP p Y es)) (hb : Ev p tb σ H (slP p Y fs)) (hz : es.length + fs.length ≤ 100000) : Ev p (tOp rAddU ta tb) σ H (slP p Y (es ++ fs)) :=
  e_op ha hb fun x y H1 iv g ⟨b, ws, e1, nb, h1, hl⟩ ⟨b', ws', e2, nb', h2, hl'⟩ => rv_new iv (o := .lst (ws ++ ws')) (fun q nq hq i' g' => ⟨q, _, rfl, nq, upd_same, (AllL.app (show AllL Y p H1 ws es from hl) hl').gr g'⟩) fun Q q => .inr (.inr ⟨b, b', ws, ws', e1, e2, h1, h2, by rw [hl.1, hl'.1, sizeLine_eq]; omega, q⟩)
theorem x_tupY (ha : Ev p ta σ H (slP p Y es)) : Ev p (tCB (rTupK K) (tCons ta tNil)) σ H (stP p Y es) := e_cb (a_cons ha a_nil) fun vs H1 iv g os => by
  obtain ⟨v, us, rfl, ⟨b, ws, rfl, nb, h1, hl⟩, rfl⟩ := os
  exact rv_new iv (o := .tup ws) (fun q nq hq i' g' => ⟨q, ws, rfl, nq, upd_same, (show AllL Y p H1 ws es from hl).gr g'⟩) fun Q q => ⟨b, ws, rfl, .inl ⟨SqL.of h1, q⟩⟩
def rListK (K : PySem.W.Frag) : List V → Hp → VK → Prop := fun xs H Q => ∃ p ys, xs = [.ref p] ∧ (SqL K H p ys ∨ SqT K H p ys) ∧ ∀ l, H l = none → Q (.ref l) (upd H l (.lst ys))
theorem x_listY (ha : Ev p ta σ H (stP p Y es)) : Ev p (tCB (rListK K) (tCons ta tNil)) σ H (slP p Y es) := e_cb (a_cons ha a_nil) fun vs H1 iv g os => by
  obtain ⟨v, us, rfl, ⟨b, ws, rfl, nb, h1, hl⟩, rfl⟩ := os
  exact rv_new iv (o := .lst ws) (fun q nq hq i' g' => ⟨q, ws, rfl, nq, upd_same, (show AllL Y p H1 ws es from hl).gr g'⟩) fun Q q => ⟨b, ws, rfl, .inr (SqT.of h1), q⟩
/-- an item by a drawn place; by a known one; of a tuple -/
def syO (p : Vo) (Y : Pt α) (C : α → Prop) : Sy p := ⟨fun v H => ∃ e, C e ∧ Y.T p H v e, fun v H H' g ⟨e, c, h⟩ => ⟨e, c, Y.gr h g⟩⟩
theorem AllL.at {vs : List V} {i : Int} (h : AllL Y p H vs es) (h0 : 0 ≤ i) (h1 : i < (es.length : Int)) : ∃ v e, atI vs i = some v ∧ es[i.toNat]? = some e ∧ Y.T p H v e := by
  have hk : i.toNat < es.length := by omega
  have hk' : i.toNat < vs.length := by rw [h.1]; exact hk
  have e1 := List.getElem?_eq_getElem hk'
  have e2 := List.getElem?_eq_getElem hk
  exact ⟨vs[i.toNat], es[i.toNat], at_of (k := i.toNat) (by omega) e1, e2, h.2 _ _ _ e1 e2⟩
theorem x_ixO {n : Int} (ha : Ev p ta σ H (slP p Y es)) (hb : Ev p tb σ H (si fun r => 0 ≤ r ∧ r < n)) (hn : n ≤ (es.length : Int)) : Ev p (tOp (rIx K) ta tb) σ H (syO p Y fun e => e ∈ es) :=
  e_op ha hb fun x y H1 iv g ⟨b, ws, e, nb, h, hl⟩ ⟨i, ei, h0, h1⟩ => by
    obtain ⟨v, d, hat, hd, hy⟩ := AllL.at (show AllL Y p H1 ws es from hl) h0 (by omega)
    exact rv iv ⟨d, List.mem_of_getElem? hd, hy⟩ fun Q q => .inl ⟨b, ws, i, v, e, ei, SqL.of h, hat, q⟩
theorem x_ixY {i : Int} {d : α} (ha : Ev p ta σ H (slP p Y es)) (hb : Ev p tb σ H (sx (.int i))) (h0 : 0 ≤ i) (hd : es[i.toNat]? = some d) : Ev p (tOp (rIx K) ta tb) σ H (syY p Y d) :=
  e_op ha hb fun x y H1 iv g ⟨b, ws, e, nb, h, hl⟩ ei => by
    have hlt := (List.getElem?_eq_some_iff.mp hd).1
    obtain ⟨v, d', hat, hd', hy⟩ := AllL.at (show AllL Y p H1 ws es from hl) h0 (by omega)
    rw [hd] at hd'
    rw [← Option.some.inj hd'] at hy
    exact rv iv hy fun Q q => .inl ⟨b, ws, i, v, e, ei, SqL.of h, hat, q⟩
theorem x_ixT {i : Int} {d : α} (ha : Ev p ta σ H (stP p Y es)) (hb : Ev p tb σ H (sx (.int i))) (h0 : 0 ≤ i) (hd : es[i.toNat]? = some d) : Ev p (tOp (rIx K) ta tb) σ H (syY p Y d) :=
  e_op ha hb fun x y H1 iv g ⟨b, ws, e, nb, h, hl⟩ ei => by
    have hlt := (List.getElem?_eq_some_iff.mp hd).1
    obtain ⟨v, d', hat, hd', hy⟩ := AllL.at (show AllL Y p H1 ws es from hl) h0 (by omega)
    rw [hd] at hd'
    rw [← Option.some.inj hd'] at hy
    exact rv iv hy fun Q q => .inr (.inl ⟨b, ws, i, v, e, ei, SqT.of h, hat, q⟩)
theorem x_lenT (ha : Ev p ta σ H (stP p Y es)) : Ev p (tCB (rLenK K) (tCons ta tNil)) σ H (sx (.int es.length)) := e_cb (a_cons ha a_nil) fun vs H1 iv g os => by
  obtain ⟨v, ws, rfl, ⟨b, us, rfl, nb, h, hl⟩, rfl⟩ := os
  exact rv iv (show V.int us.length = V.int es.length by rw [hl.1]) fun Q q => ⟨_, _, rfl, .inr ⟨us, SqT.of h, rfl⟩, q⟩
theorem x_lenY (ha : Ev p ta σ H (slP p Y es)) : Ev p (tCB (rLenK K) (tCons ta tNil)) σ H (sx (.int es.length)) := e_cb (a_cons ha a_nil) fun vs H1 iv g os => by
  obtain ⟨v, ws, rfl, ⟨b, us, rfl, nb, h, hl⟩, rfl⟩ := os
  exact rv iv (show V.int us.length = V.int es.length by rw [hl.1]) fun Q q => ⟨_, _, rfl, .inl ⟨us, SqL.of h, rfl⟩, q⟩
/-- t + u of tuples -/
theorem x_catT (ha : Ev p ta σ H (stP p Y es)) (hb : Ev p tb σ H (stP p Y fs)) (hz : es.length + fs.length ≤ 100000) : Ev p (tOp (rCatA K) ta tb) σ H (stP p Y (es ++ fs)) :=
  e_op ha hb fun x y H1 iv g ⟨b, ws, e1, nb, h1, hl⟩ ⟨b', ws', e2, nb', h2, hl'⟩ Q q => by
    have hl : AllL Y p H1 ws es := hl
    have hl' : AllL Y p H1 ws' fs := hl'
    refine ⟨b, b', ws, ws', e1, e2, SqT.of h1, SqT.of h2, by rw [hl.1, hl'.1, sizeLine_eq]; omega, fun z => ?_, fun _ z => ?_, fun _ _ c hc => ?_⟩
    · refine q _ H1 iv (Gr.refl H1) ⟨b', ws', rfl, nb', h2, ?_⟩
      have : es = [] := List.eq_nil_of_length_eq_zero (by rw [← hl.1, z]; rfl)
      rw [this]
      exact hl'
    · refine q _ H1 iv (Gr.refl H1) ⟨b, ws, rfl, nb, h1, ?_⟩
      have : fs = [] := List.eq_nil_of_length_eq_zero (by rw [← hl'.1, z]; rfl)
      rw [this, List.append_nil]
      exact hl
    · exact q _ _ (iv.new hc) (Gr.new hc) ⟨c, _, rfl, iv.ne hc, upd_same, (hl.app hl').gr (Gr.new hc)⟩
end
/-! ### how large data are -/
theorem bulk_app : ∀ xs ys : List PyData, PyData.bulkAll (xs ++ ys) = PyData.bulkAll xs + PyData.bulkAll ys
  | [], ys => by simp only [List.nil_append, PyData.bulkAll]; omega
  | x :: xs, ys => by
    simp only [List.cons_append, PyData.bulkAll]
    rw [bulk_app xs ys]
    omega
theorem bulk_mem {d : PyData} : ∀ {xs : List PyData}, d ∈ xs → d.bulk + 1 ≤ PyData.bulkAll xs
  | [], h => nomatch h
  | x :: xs, h => by
    simp only [PyData.bulkAll]
    rcases List.mem_cons.mp h with e | e
    · rw [e]; omega
    · have := bulk_mem e
      omega
theorem bulk_take (k : Nat) (xs : List PyData) : PyData.bulkAll (xs.take k) + PyData.bulkAll (xs.drop k) = PyData.bulkAll xs := by
  rw [← bulk_app, List.take_append_drop]
theorem bulk_len : ∀ xs : List PyData, xs.length ≤ PyData.bulkAll xs
  | [] => Nat.zero_le _
  | x :: xs => by
    simp only [PyData.bulkAll, List.length_cons]
    have := bulk_len xs
    omega
mutual
theorem bulk_small : ∀ d : PyData, d.bulk ≤ 100000 → smallD d = true
  | .none, _ => rfl
  | .bool _, _ => rfl
  | .int _, _ => rfl
  | .str s, h => decide_eq_true (by simp only [PyData.bulk] at h; exact h)
  | .tuple ds, h => by
    simp only [PyData.bulk] at h
    have := bulk_len ds
    exact Bool.and_eq_true_iff.mpr ⟨decide_eq_true (by omega), bulk_smalls ds h⟩
  | .list _, _ => rfl
  | .dict _, _ => rfl
theorem bulk_smalls : ∀ ds : List PyData, PyData.bulkAll ds ≤ 100000 → smallDs ds = true
  | [], _ => rfl
  | d :: ds, h => by
    simp only [PyData.bulkAll] at h
    exact Bool.and_eq_true_iff.mpr ⟨bulk_small d (by omega), bulk_smalls ds (by omega)⟩
end
/-- data that can be shown -/
structure Gd (N k : Nat) (d : PyData) : Prop where
  lv : d.leavesShort 40 = true
  sh : d.showable = true
  bk : d.bulk ≤ N
  dp : d.depth ≤ k
structure Gds (N k : Nat) (ds : List PyData) : Prop where
  al : ∀ d ∈ ds, d.leavesShort 40 = true ∧ d.showable = true ∧ d.depth ≤ k
  bk : PyData.bulkAll ds ≤ N
theorem Gd.mono {N k N' k' : Nat} {d : PyData} (h : Gd N k d) (h1 : N ≤ N') (h2 : k ≤ k') : Gd N' k' d := ⟨h.lv, h.sh, Nat.le_trans h.bk h1, Nat.le_trans h.dp h2⟩
theorem Gds.mono {N k N' k' : Nat} {d : List PyData} (h : Gds N k d) (h1 : N ≤ N') (h2 : k ≤ k') : Gds N' k' d := ⟨fun d hd => ⟨(h.al d hd).1, (h.al d hd).2.1, Nat.le_trans (h.al d hd).2.2 h2⟩, Nat.le_trans h.bk h1⟩
theorem lvs_all : ∀ {ds : List PyData}, (∀ d ∈ ds, d.leavesShort 40 = true) → PyData.leavesShortAll 40 ds = true
  | [], _ => by simp only [PyData.leavesShortAll]
  | d :: ds, h => by
    simp only [PyData.leavesShortAll, Bool.and_eq_true]
    exact ⟨h d List.mem_cons_self, lvs_all fun e he => h e (List.mem_cons_of_mem _ he)⟩
theorem all_lvs : ∀ {ds : List PyData}, PyData.leavesShortAll 40 ds = true → ∀ d ∈ ds, d.leavesShort 40 = true
  | [], _ => fun d h => nomatch h
  | x :: ds, h => fun d hd => by
    simp only [PyData.leavesShortAll, Bool.and_eq_true] at h
    rcases List.mem_cons.mp hd with e | e
    · rw [e]; exact h.1
    · exact all_lvs h.2 d e
theorem shs_all : ∀ {ds : List PyData}, (∀ d ∈ ds, d.showable = true) → PyData.showableAll ds = true
  | [], _ => by simp only [PyData.showableAll]
  | d :: ds, h => by
    simp only [PyData.showableAll, Bool.and_eq_true]
    exact ⟨h d List.mem_cons_self, shs_all fun e he => h e (List.mem_cons_of_mem _ he)⟩
theorem all_shs : ∀ {ds : List PyData}, PyData.showableAll ds = true → ∀ d ∈ ds, d.showable = true
  | [], _ => fun d h => nomatch h
  | x :: ds, h => fun d hd => by
    simp only [PyData.showableAll, Bool.and_eq_true] at h
    rcases List.mem_cons.mp hd with e | e
    · rw [e]; exact h.1
    · exact all_shs h.2 d e
theorem dps_all {k : Nat} : ∀ {ds : List PyData}, (∀ d ∈ ds, d.depth ≤ k) → PyData.depthAll ds ≤ k
  | [], _ => by simp only [PyData.depthAll]; omega
  | d :: ds, h => by
    simp only [PyData.depthAll]
    have := h d List.mem_cons_self
    have := dps_all fun e he => h e (List.mem_cons_of_mem _ he)
    omega
theorem all_dps {k : Nat} : ∀ {ds : List PyData}, PyData.depthAll ds ≤ k → ∀ d ∈ ds, d.depth ≤ k
  | [], _ => fun d h => nomatch h
  | x :: ds, h => fun d hd => by
    simp only [PyData.depthAll] at h
    rcases List.mem_cons.mp hd with e | e
    · rw [e]; omega
    · exact all_dps (by omega) d e
theorem Gds.tup {N k : Nat} {ds : List PyData} (h : Gds N k ds) : Gd N (k + 1) (.tuple ds) := by
  refine ⟨?_, ?_, ?_, ?_⟩
  · simp only [PyData.leavesShort]; exact lvs_all fun d hd => (h.al d hd).1
  · simp only [PyData.showable]; exact shs_all fun d hd => (h.al d hd).2.1
  · simp only [PyData.bulk]; exact h.bk
  · simp only [PyData.depth]; exact Nat.succ_le_succ (dps_all fun d hd => (h.al d hd).2.2)
theorem Gds.lst {N k : Nat} {ds : List PyData} (h : Gds N k ds) : Gd N (k + 1) (.list ds) := by
  refine ⟨?_, ?_, ?_, ?_⟩
  · simp only [PyData.leavesShort]; exact lvs_all fun d hd => (h.al d hd).1
  · simp only [PyData.showable]; exact shs_all fun d hd => (h.al d hd).2.1
  · simp only [PyData.bulk]; exact h.bk
  · simp only [PyData.depth]; exact Nat.succ_le_succ (dps_all fun d hd => (h.al d hd).2.2)
theorem Gd.items {N k : Nat} {ds : List PyData} (h : Gd N (k + 1) (.tuple ds)) : Gds N k ds := by
  have h1 := h.lv
  have h2 := h.sh
  have h3 := h.bk
  have h4 := h.dp
  simp only [PyData.leavesShort] at h1
  simp only [PyData.showable] at h2
  simp only [PyData.bulk] at h3
  simp only [PyData.depth] at h4
  exact ⟨fun d hd => ⟨all_lvs h1 d hd, all_shs h2 d hd, all_dps (by omega) d hd⟩, h3⟩
theorem Gds.nil {k : Nat} : Gds 0 k [] := ⟨fun d h => absurd h List.not_mem_nil, by rw [PyData.bulkAll]; exact Nat.le_refl _⟩
theorem Gds.cons {N M k : Nat} {d : PyData} {ds : List PyData} (h : Gd N k d) (hs : Gds M k ds) : Gds (N + 1 + M) k (d :: ds) := by
  refine ⟨fun e he => ?_, ?_⟩
  · rcases List.mem_cons.mp he with q | q
    · rw [q]; exact ⟨h.lv, h.sh, h.dp⟩
    · exact hs.al e q
  · simp only [PyData.bulkAll]
    have := h.bk
    have := hs.bk
    omega
theorem Gds.app {N M k : Nat} {xs ys : List PyData} (h : Gds N k xs) (hs : Gds M k ys) : Gds (N + M) k (xs ++ ys) := by
  refine ⟨fun e he => (List.mem_append.mp he).elim (h.al e) (hs.al e), ?_⟩
  rw [bulk_app]
  have := h.bk
  have := hs.bk
  omega
theorem Gds.take {N k : Nat} {xs : List PyData} (h : Gds N k xs) (m : Nat) : Gds N k (xs.take m) := ⟨fun d hd => h.al d (List.mem_of_mem_take hd), by have := bulk_take m xs; have := h.bk; omega⟩
theorem Gds.drop {N k : Nat} {xs : List PyData} (h : Gds N k xs) (m : Nat) : Gds N k (xs.drop m) := ⟨fun d hd => h.al d (List.mem_of_mem_drop hd), by have := bulk_take m xs; have := h.bk; omega⟩
theorem Gds.mem {N k : Nat} {xs : List PyData} (h : Gds N k xs) {d : PyData} (hd : d ∈ xs) : Gd N k d := ⟨(h.al d hd).1, (h.al d hd).2.1, by have := bulk_mem hd; have := h.bk; omega, (h.al d hd).2.2⟩
theorem Gd.fits {N k : Nat} {d : PyData} (h : Gd N k d) (hN : N ≤ 300000) : d.shown.length ≤ sizeLine := by
  have h1 := PyData.shown_le_bulk 40 (by decide) d h.lv
  have h2 := h.bk
  have : (40 + 2) * d.bulk ≤ (40 + 2) * 300000 := Nat.mul_le_mul_left _ (by omega)
  rw [sizeLine_eq]
  omega
/-! repr -/
section
variable {p : Vo} {σ : L2.St} {H : Hp} {ta : TE}
theorem x_repr {N k : Nat} {v : V} {d : PyData} (ha : Ev p ta σ H (sx v)) (hv : ∀ H1, Gr p H H1 → Rp p H1 v d) (hg : Gd N k d) (hN : N ≤ 300000) (hk : k ≤ 40) : Ev p (tCB rReprR (tCons ta tNil)) σ H (sx (.str d.shown)) := e_cb (a_cons ha a_nil) fun vs H1 iv g os => by
  obtain ⟨w, us, rfl, rfl, rfl⟩ := os
  exact rv iv rfl fun Q q => ⟨_, d, rfl, (hv H1 g).non', hg.sh, Nat.le_trans hg.dp hk, hg.fits hN, q⟩
theorem x_reprS {N k : Nat} {d : PyData} (ha : Ev p ta σ H (syY p Pr d)) (hg : Gd N k d) (hN : N ≤ 300000) (hk : k ≤ 40) : Ev p (tCB rReprR (tCons ta tNil)) σ H (sx (.str d.shown)) := e_cb (a_cons (A := syY p Pr d) ha a_nil) fun vs H1 iv g os => by
  obtain ⟨w, us, rfl, hw, rfl⟩ := os
  exact rv iv rfl fun Q q => ⟨w, d, rfl, (show Rp p H1 w d from hw).non', hg.sh, Nat.le_trans hg.dp hk, hg.fits hN, q⟩
end
end Hk
namespace Hk
open PySem PySem.Spec PyProof.Rows L2
section
variable {α : Type} {p : Vo} {σ : L2.St} {H : Hp} {K : PySem.W.Frag} {te ta tb : TE} {tr : TA} {j : Nat} {vs : List Nat} {Y : Pt α} {es fs : List α} {R : List α → Prop} {C : α → Prop}
/-- a list, a tuple of some such things -/
def sE (p : Vo) (Y : Pt α) (R : List α → Prop) : Sy p := ⟨fun v H => ∃ es, R es ∧ (slP p Y es).P v H, fun v H H' g ⟨es, r, h⟩ => ⟨es, r, (slP p Y es).st v H H' g h⟩⟩
def sET (p : Vo) (Y : Pt α) (R : List α → Prop) : Sy p := ⟨fun v H => ∃ es, R es ∧ (stP p Y es).P v H, fun v H H' g ⟨es, r, h⟩ => ⟨es, r, (stP p Y es).st v H H' g h⟩⟩
theorem lcR_ex {N0 N : Nat} (hx : Ev p ta σ H (si fun n => (N0 : Int) ≤ n ∧ n ≤ (N : Int))) (hN : N ≤ 100000) (hw : ∀ x, wipe ((wipe σ vs).set j (some x)) vs = wipe σ vs)
    (he : ∀ (i : Nat) D (l : List V) H1, Gr p H H1 → H1 D = none → Ev (p.and D (.lst l)) te ((wipe σ vs).set j (some (.int (0 + (i : Nat))))) H1 (syO (p.and D (.lst l)) Y C)) :
    Ev p (tLc (iRng1 (tCons ta tNil)) (gName j) tYes te vs) σ H (sE p Y fun es => N0 ≤ es.length ∧ es.length ≤ N ∧ ∀ e ∈ es, C e) := fun H0 i0 g0 Q q =>
  hx H0 i0 g0 _ fun v H1 i1 g1 ⟨n, ev, n0, n1⟩ => ⟨n, by rw [ev], by omega, by omega, fun D hD => lc_range (lo := 0) (n := n.toNat)
    (Cw p H1 D fun i acc H => ∃ es : List α, (∀ e ∈ es, C e) ∧ AllL Y (p.and D (.lst [])) H acc es) (cw0 i1 hD ⟨[], (fun e h => nomatch h), .nil⟩)
    (fun i H' hi w => ⟨hw _, cw_turnL (A := fun q => syO q Y C) (fun o m acc H2 H3 gg ⟨es, hc, ha⟩ => ⟨es, hc, ha.1, fun m v e e1 e2 => Y.of (Y.gr (Y.of (ha.2 m v e e1 e2) fun b (nb : Nv (p.and D (.lst [])) b) => (nb.back.and nb.ne : Nv (p.and D o) b)) gg) fun b (nb : Nv (p.and D o) b) => nb.back.and nb.ne⟩) w (by omega) (fun l => he i D l H1 (g0.trans g1) hD)
      fun acc y H2 lo g2 i2 hl ⟨es, hc, ha⟩ ⟨e, ce, hy⟩ => ⟨es ++ [e], (fun x hx => (List.mem_append.mp hx).elim (hc x) fun m => by rw [List.mem_singleton.mp m]; exact ce), ha.app (.cons (Y.of hy fun b (nb : Nv (p.and D (.lst lo)) b) => nb.back.and nb.ne) .nil)⟩⟩)
    fun H' w => q _ H' w.1 (g1.trans w.2.2.2.1) (by
      obtain ⟨_, _, nD, _, acc, ha, hl, es, hc, hA⟩ := w
      have h1 := hA.1
      exact ⟨es, ⟨by omega, by omega, hc⟩, D, acc, rfl, nD, ha, hA.1, fun i v e e1 e2 => Y.of (hA.2 i v e e1 e2) fun b nb => nb.back⟩)⟩
theorem x_tupE (ha : Ev p ta σ H (sE p Y R)) : Ev p (tCB (rTupK K) (tCons ta tNil)) σ H (sET p Y R) := e_cb (a_cons ha a_nil) fun vs H1 iv g os => by
  obtain ⟨v, us, rfl, ⟨es, r, b, ws, rfl, nb, h1, hl⟩, rfl⟩ := os
  exact rv_new iv (o := .tup ws) (fun q nq hq i' g' => ⟨es, r, q, ws, rfl, nq, upd_same, (show AllL Y p H1 ws es from hl).gr g'⟩) fun Q q => ⟨b, ws, rfl, .inl ⟨SqL.of h1, q⟩⟩
theorem x_catTE (ha : Ev p ta σ H (stP p Y es)) (hb : Ev p tb σ H (sET p Y R)) (hz : ∀ fs, R fs → es.length + fs.length ≤ 100000) : Ev p (tOp (rCatA K) ta tb) σ H (sET p Y fun gs => ∃ fs, R fs ∧ gs = es ++ fs) :=
  e_op ha hb fun x y H1 iv g ⟨b, ws, e1, nb, h1, hl⟩ ⟨fs, r, b', ws', e2, nb', h2, hl'⟩ Q q => by
    have hl : AllL Y p H1 ws es := hl
    have hl' : AllL Y p H1 ws' fs := hl'
    have := hz fs r
    refine ⟨b, b', ws, ws', e1, e2, SqT.of h1, SqT.of h2, by rw [hl.1, hl'.1, sizeLine_eq]; omega, fun z => ?_, fun _ z => ?_, fun _ _ c hc => ?_⟩
    · refine q _ H1 iv (Gr.refl H1) ⟨_, ⟨fs, r, rfl⟩, b', ws', rfl, nb', h2, ?_⟩
      have : es = [] := List.eq_nil_of_length_eq_zero (by rw [← hl.1, z]; rfl)
      rw [this]
      exact hl'
    · refine q _ H1 iv (Gr.refl H1) ⟨_, ⟨fs, r, rfl⟩, b, ws, rfl, nb, h1, ?_⟩
      have : fs = [] := List.eq_nil_of_length_eq_zero (by rw [← hl'.1, z]; rfl)
      rw [this, List.append_nil]
      exact hl
    · exact q _ _ (iv.new hc) (Gr.new hc) ⟨_, ⟨fs, r, rfl⟩, c, _, rfl, iv.ne hc, upd_same, (hl.app hl').gr (Gr.new hc)⟩
/-- ints of a kind; texts of a kind -/
def Pi_ (c : Int → Prop) : Pt Unit := ⟨fun _ _ v _ => ∃ i, v = .int i ∧ c i, fun h _ => h, fun h _ => h, fun h _ => h⟩
def Ps_ : Pt Str := ⟨fun _ _ v z => v = .str z, fun h _ => h, fun h _ => h, fun h _ => h⟩
theorem y_int {c : Int → Prop} (h : Ev p te σ H (si c)) : Ev p te σ H (syY p (Pi_ c) ()) := h
theorem int_y {c : Int → Prop} {D : Unit → Prop} (h : Ev p te σ H (syO p (Pi_ c) D)) : Ev p te σ H (si c) := h.imp fun v _ ⟨_, _, h⟩ => h
/-- items of some such list, of some such tuple, by a drawn place -/
theorem x_ixE {n : Int} (ha : Ev p ta σ H (sE p Y R)) (hb : Ev p tb σ H (si fun r => 0 ≤ r ∧ r < n)) (hn : ∀ es, R es → n ≤ (es.length : Int)) : Ev p (tOp (rIx K) ta tb) σ H (syO p Y fun e => ∃ es, R es ∧ e ∈ es) :=
  e_op ha hb fun x y H1 iv g ⟨es, r, b, ws, e, nb, h, hl⟩ ⟨i, ei, h0, h1⟩ => by
    have := hn es r
    obtain ⟨v, d, hat, hd, hy⟩ := AllL.at (show AllL Y p H1 ws es from hl) h0 (by omega)
    exact rv iv ⟨d, ⟨es, r, List.mem_of_getElem? hd⟩, hy⟩ fun Q q => .inl ⟨b, ws, i, v, e, ei, SqL.of h, hat, q⟩
/-- ''.join of some texts -/
theorem x_joinE {a : Str} {R : List Str → Prop} (ha : Ev p ta σ H (sx (.str a))) (hb : Ev p tb σ H (sE p Ps_ R)) (hz : ∀ ys, R ys → (ys.map (·.length)).sum + ys.length * a.length ≤ 16777216) : Ev p (tM1 (rJoin K) ta tb) σ H (ss fun z => ∃ ys, R ys ∧ z = Txt.join a ys) := fun H1 i g Q q =>
  ha H1 i g _ fun v H2 i2 g2 e => ⟨⟨a, e⟩, hb H2 i2 (g.trans g2) _ fun y H3 i3 g3 ⟨ys, r, b, us, e1, nb, h, hl⟩ => by
    have hl : AllL Ps_ p H3 us ys := hl
    have eu : us = ys.map V.str := by
      refine List.ext_getElem? fun i => ?_
      rw [List.getElem?_map]
      by_cases hi : i < us.length
      · have a1 := List.getElem?_eq_getElem hi
        have a2 := List.getElem?_eq_getElem (l := ys) (by rw [← hl.1]; exact hi)
        rw [a1, a2, show us[i] = .str ys[i] from hl.2 i _ _ a1 a2]
        rfl
      · rw [List.getElem?_eq_none (by omega), List.getElem?_eq_none (by rw [← hl.1]; omega)]
        rfl
    exact ⟨a, b, ys, e, by rw [e1], .inl (SqL.of (by rw [h, eu])), hz ys r, q _ H3 i3 (g2.trans g3) ⟨_, rfl, ys, r, rfl⟩⟩⟩
end
end Hk
namespace K21
open PySem PySem.Spec PyProof.Rows L2 Hk
def top (i : Nat) : Stmt := PySem.Challenge.pw_heldover_k21_indexes_judged_and_written.main.body.getD i (.Pass ⟨0, 0, 0, 0⟩)
abbrev s_is_integer : Stmt := top 13
theorem sc_is_integer : FnScope ["value"] ["value"] (defScope s_is_integer) := ⟨rfl, rfl, rfl, by decide +kernel, rfl, by decide +kernel, by decide +kernel⟩
abbrev s_consists_of : Stmt := top 14
theorem sc_consists_of : FnScope ["text", "signs", "sign"] ["text", "signs"] (defScope s_consists_of) := ⟨rfl, rfl, rfl, by decide +kernel, rfl, by decide +kernel, by decide +kernel⟩
abbrev s_is_name : Stmt := top 15
theorem sc_is_name : FnScope ["value"] ["value"] (defScope s_is_name) := ⟨rfl, rfl, rfl, by decide +kernel, rfl, by decide +kernel, by decide +kernel⟩
abbrev s_is_decimal : Stmt := top 16
theorem sc_is_decimal : FnScope ["text", "most"] ["text", "most"] (defScope s_is_decimal) := ⟨rfl, rfl, rfl, by decide +kernel, rfl, by decide +kernel, by decide +kernel⟩
abbrev s_is_label : Stmt := top 17
theorem sc_is_label : FnScope ["value"] ["value"] (defScope s_is_label) := ⟨rfl, rfl, rfl, by decide +kernel, rfl, by decide +kernel, by decide +kernel⟩
abbrev s_is_epoch : Stmt := top 22
theorem sc_is_epoch : FnScope ["value"] ["value"] (defScope s_is_epoch) := ⟨rfl, rfl, rfl, by decide +kernel, rfl, by decide +kernel, by decide +kernel⟩
abbrev s_is_part : Stmt := top 23
theorem sc_is_part : FnScope ["value"] ["value"] (defScope s_is_part) := ⟨rfl, rfl, rfl, by decide +kernel, rfl, by decide +kernel, by decide +kernel⟩
abbrev s_is_index : Stmt := top 24
theorem sc_is_index : FnScope ["value", "part"] ["value"] (defScope s_is_index) := ⟨rfl, rfl, rfl, by decide +kernel, rfl, by decide +kernel, by decide +kernel⟩
abbrev s_index_text : Stmt := top 25
theorem sc_index_text : FnScope ["index", "parts", "label", "number"] ["index"] (defScope s_index_text) := ⟨rfl, rfl, rfl, by decide +kernel, rfl, by decide +kernel, by decide +kernel⟩
abbrev s_parse_index : Stmt := top 26
theorem sc_parse_index : FnScope ["text", "words", "epoch", "parts", "index", "part"] ["text"] (defScope s_parse_index) := ⟨rfl, rfl, rfl, by decide +kernel, rfl, by decide +kernel, by decide +kernel⟩
abbrev s_is_part_text : Stmt := top 27
theorem sc_is_part_text : FnScope ["text", "label", "_", "number"] ["text"] (defScope s_is_part_text) := ⟨rfl, rfl, rfl, by decide +kernel, rfl, by decide +kernel, by decide +kernel⟩
abbrev s_parsed_part : Stmt := top 28
theorem sc_parsed_part : FnScope ["text", "label", "_", "number"] ["text"] (defScope s_parsed_part) := ⟨rfl, rfl, rfl, by decide +kernel, rfl, by decide +kernel, by decide +kernel⟩
abbrev s__law_pot : Stmt := top 30
theorem sc__law_pot : FnScope ["_law_script", "_law_k", "_law_cell"] ["_law_script", "_law_k"] (defScope s__law_pot) := ⟨rfl, rfl, rfl, by decide +kernel, rfl, by decide +kernel, by decide +kernel⟩
abbrev s__law_draw : Stmt := top 31
theorem sc__law_draw : FnScope ["_law_pot_here", "_law_many", "_law_digit"] ["_law_pot_here", "_law_many"] (defScope s__law_draw) := ⟨rfl, rfl, rfl, by decide +kernel, rfl, by decide +kernel, by decide +kernel⟩
abbrev s__law_reserved : Stmt := top 32
theorem sc__law_reserved : FnScope ["_law_some", "_law_more"] [] (defScope s__law_reserved) := ⟨rfl, rfl, rfl, by decide +kernel, rfl, by decide +kernel, by decide +kernel⟩
abbrev s__law_is_label : Stmt := top 33
theorem sc__law_is_label : FnScope ["_law_thing", "_law_small", "_law_letter"] ["_law_thing"] (defScope s__law_is_label) := ⟨rfl, rfl, rfl, by decide +kernel, rfl, by decide +kernel, by decide +kernel⟩
abbrev s__law_is_whole : Stmt := top 34
theorem sc__law_is_whole : FnScope ["_law_thing", "_law_most"] ["_law_thing", "_law_most"] (defScope s__law_is_whole) := ⟨rfl, rfl, rfl, by decide +kernel, rfl, by decide +kernel, by decide +kernel⟩
abbrev s__law_is_right : Stmt := top 35
theorem sc__law_is_right : FnScope ["_law_thing", "_law_part"] ["_law_thing"] (defScope s__law_is_right) := ⟨rfl, rfl, rfl, by decide +kernel, rfl, by decide +kernel, by decide +kernel⟩
abbrev s__law_text : Stmt := top 36
theorem sc__law_text : FnScope ["_law_row", "_law_label_here", "_law_number"] ["_law_row"] (defScope s__law_text) := ⟨rfl, rfl, rfl, by decide +kernel, rfl, by decide +kernel, by decide +kernel⟩
abbrev s__law_read : Stmt := top 37
theorem sc__law_read : FnScope ["_law_note", "_law_words", "_law_found", "_law_word", "_law_label_here", "_law_dot", "_law_number", "_law_row", "_law_letter"] ["_law_note"] (defScope s__law_read) := ⟨rfl, rfl, rfl, by decide +kernel, rfl, by decide +kernel, by decide +kernel⟩
abbrev s__law_label : Stmt := top 38
theorem sc__law_label : FnScope ["_law_pot_here", "_law_size", "_law_word", "_law_k"] ["_law_pot_here"] (defScope s__law_label) := ⟨rfl, rfl, rfl, by decide +kernel, rfl, by decide +kernel, by decide +kernel⟩
abbrev s__law_index : Stmt := top 39
theorem sc__law_index : FnScope ["_law_pot_here", "_law_epoch", "_law_k"] ["_law_pot_here"] (defScope s__law_index) := ⟨rfl, rfl, rfl, by decide +kernel, rfl, by decide +kernel, by decide +kernel⟩
abbrev s__law_deep : Stmt := top 40
theorem sc__law_deep : FnScope ["_law_many", "_law_found", "_law_turn"] ["_law_many"] (defScope s__law_deep) := ⟨rfl, rfl, rfl, by decide +kernel, rfl, by decide +kernel, by decide +kernel⟩
abbrev s__law_odd : Stmt := top 41
theorem sc__law_odd : FnScope ["_law_pot_here", "_law_words", "_law_some"] ["_law_pot_here"] (defScope s__law_odd) := ⟨rfl, rfl, rfl, by decide +kernel, rfl, by decide +kernel, by decide +kernel⟩
abbrev s__law_bent : Stmt := top 42
theorem sc__law_bent : FnScope ["_law_pot_here", "_law_row", "_law_items", "_law_at", "_law_way", "_law_part"] ["_law_pot_here", "_law_row"] (defScope s__law_bent) := ⟨rfl, rfl, rfl, by decide +kernel, rfl, by decide +kernel, by decide +kernel⟩
abbrev s__law_bent_text : Stmt := top 43
theorem sc__law_bent_text : FnScope ["_law_pot_here", "_law_note", "_law_at", "_law_way", "_law_sign", "_law_words", "_law_spot", "_law_more"] ["_law_pot_here", "_law_note"] (defScope s__law_bent_text) := ⟨rfl, rfl, rfl, by decide +kernel, rfl, by decide +kernel, by decide +kernel⟩
abbrev s__law_told : Stmt := top 44
theorem sc__law_told : FnScope ["_law_deed", "_law_thing", "_law_told_here", "e", "_law_other"] ["_law_deed", "_law_thing"] (defScope s__law_told) := ⟨rfl, rfl, rfl, by decide +kernel, rfl, by decide +kernel, by decide +kernel⟩
abbrev s__law_judged_right : Stmt := top 45
theorem sc__law_judged_right : FnScope ["_law_thing", "_law_kept", "_law_due", "_law_told_here"] ["_law_thing"] (defScope s__law_judged_right) := ⟨rfl, rfl, rfl, by decide +kernel, rfl, by decide +kernel, by decide +kernel⟩
abbrev s__law_read_right : Stmt := top 46
theorem sc__law_read_right : FnScope ["_law_note", "_law_due", "_law_told_here"] ["_law_note"] (defScope s__law_read_right) := ⟨rfl, rfl, rfl, by decide +kernel, rfl, by decide +kernel, by decide +kernel⟩
abbrev s__law_long_right : Stmt := top 47
theorem sc__law_long_right : FnScope ["_law_pot_here", "_law_row", "_law_deep_here", "_law_some", "_law_words", "_law_one"] ["_law_pot_here"] (defScope s__law_long_right) := ⟨rfl, rfl, rfl, by decide +kernel, rfl, by decide +kernel, by decide +kernel⟩
abbrev s__law_right : Stmt := top 48
theorem sc__law_right : FnScope ["_law_pot_here", "_law_row", "_law_note", "_law_things", "_law_texts", "_law_turn", "_law_last", "_law_thing", "_law_one"] ["_law_pot_here"] (defScope s__law_right) := ⟨rfl, rfl, rfl, by decide +kernel, rfl, by decide +kernel, by decide +kernel⟩
abbrev s_law : Stmt := top 49
theorem sc_law : FnScope ["_law_script", "_law_k"] ["_law_script"] (defScope s_law) := ⟨rfl, rfl, rfl, by decide +kernel, rfl, by decide +kernel, by decide +kernel⟩
def wsR : List Str := (["add", "and", "ask", "become", "bool", "both", "break", "call", "case", "div", "door", "else", "false", "function", "if", "int", "key", "kind", "less", "local", "loop", "match", "mod", "module", "mul", "not", "on", "or", "raise", "receive", "return", "same", "self", "send", "set", "since", "sleep", "start", "sub", "task", "true", "try", "uses"] : List String).map Str.ofString
def sSmall : Str := "abcdefghijklmnopqrstuvwxyz"
def sDig : Str := "0123456789"
def frees : List Str := (["all", "isinstance", "len", "abs", "max", "min", "divmod", "repr", "int", "str", "bool", "tuple", "range", "list", "super", "ValueError"] : List String).map Str.ofString
structure En (K : PySem.W.Frag) (mg : Str → Option Value) : Prop where
  fr : ∀ {x : Str}, frees.elem x = true → mg x = none
  c_digits : ∃ u, mg "DIGITS" = some u ∧ RelV (.str sDig) u
  c_longest_word : ∃ u, mg "LONGEST_WORD" = some u ∧ RelV (.int 8) u
  c_label_digits : ∃ u, mg "LABEL_DIGITS" = some u ∧ RelV (.int 2) u
  c_greatest_epoch : ∃ u, mg "GREATEST_EPOCH" = some u ∧ RelV (.int (10 ^ 9)) u
  c_greatest_number : ∃ u, mg "GREATEST_NUMBER" = some u ∧ RelV (.int 9) u
  c_epoch_digits : ∃ u, mg "EPOCH_DIGITS" = some u ∧ RelV (.int 10) u
  c_reserved : ∃ u, mg "RESERVED" = some u ∧ RelV (.ref (He.ga K "RESERVED")) u
  t_reserved : ∀ H, SqT K H (He.ga K "RESERVED") (wsR.map V.str)
end K21
namespace K21
open PySem PySem.Spec PyProof.Rows L2 Hk
section
variable {P : Program} {w : World} {K : PySem.W.Frag} {mg : Str → Option Value} {base : Heap}
def allIn (t z : Str) : Bool := t.cps.toList.all fun c => decide (c ∈ z.cps.toList)
def spCons : Sp := fun vs H Q _ => ∃ t z : Str, vs = [.str t, .str z] ∧ t.length ≤ 100000 ∧ ∀ H', Gr Vo.non H H' → Q (.bl (allIn t z)) H'
theorem ok_consists_of (E : En K mg) (F : Df K mg "consists_of" s_consists_of) : Ca P w K mg base 1 "consists_of" spCons := by
  refine ca_mk F sc_consists_of (fun _ _ _ _ _ _ us hl => match us, hl with | [_, _], _ => rfl) (fun vs H Q E h => by obtain ⟨t, z, rfl, _⟩ := h; rfl) (fun f cdv A outer s H vs Q E' hr h => ?_)
  obtain ⟨t, z, rfl, hz, q⟩ := h
  refine ⟨_, (pss_one (ps_ret (pe_callB (allU (K := K) rfl rfl) (by rfl) (E.fr (x := "all") (by decide +kernel)) (by decide +kernel) (pa_cons (pe_lc (own := [("sign", 2)]) (g := (gName 2)) (tt := tYes) rfl sc_consists_of.nd (pi_str (pv 0)) (blkOk_by (own := [("sign", 2)]) (N := ["text", "signs", "sign"]) (sc := defScope s_consists_of) (by decide +kernel)) (fun _ _ _ _ _ => (pg_name (i := 2) sc_consists_of.nd rfl (Or.inl rfl))) (fun _ _ _ _ _ => pts_nil) (fun _ _ _ _ _ => (pe_cmpR (inU (K := K) rfl) (pv 2) (pv 1) (by rfl)))) pa_nil)))), ?_⟩
  exact s_ret (Iv.non H) (allS (fun c => decide (c ∈ z.cps.toList)) (e_vx rfl) hz (fun _ => rfl) fun c q H1 hc => x_inS (e_vx rfl) (e_vx rfl)) fun v H1 _ g e => by
    rw [show v = _ from e]
    exact q H1 g
end
end K21
namespace K21
open PySem PySem.Spec PyProof.Rows L2 Hk
section
variable {P : Program} {w : World} {K : PySem.W.Frag} {mg : Str → Option Value} {base : Heap}
def spD1 (f : D → Bool) : Sp := fun vs H Q _ => ∃ v d, vs = [v] ∧ Dat Vo.non H v d ∧ ∀ H', Gr Vo.non H H' → Q (.bl (f d)) H'
theorem spD1_len {f : D → Bool} : ∀ vs H Q E, spD1 f vs H Q E → vs.length = 1 := fun vs H Q E h => by obtain ⟨v, d, rfl, _⟩ := h; rfl
theorem pu_D1 {f : D → Bool} {v : V} {d : D} {H : Hp} (h : Dat Vo.non H v d) : Pu (spD1 f) [v] H (.bl (f d)) := fun Q E k => ⟨v, d, rfl, h, k⟩
theorem pu_cons {t z : Str} {H : Hp} (h : t.length ≤ 100000) : Pu spCons [.str t, .str z] H (.bl (allIn t z)) := fun Q E k => ⟨t, z, rfl, h, k⟩
theorem dat_str {p : Vo} {H : Hp} {v : V} {d : D} (h : Dat p H v d) (e : d.isS = true) : ∃ s, v = .str s ∧ d = .str s ∧ s.length ≤ 100000 := by
  cases h with
  | str s hz => exact ⟨s, rfl, rfl, hz⟩
  | _ => cases e
def lenIn (s : Str) : Bool := decide ((1 : Int) ≤ (s.length : Int)) && decide ((s.length : Int) ≤ 8)
def isName (s : Str) : Bool := lenIn s && (allIn s sSmall && !inV (.str s) (wsR.map V.str))
def nameD : D → Bool
  | .str s => isName s
  | _ => false
theorem nameD_no {d : D} (h : d.isS = false) : nameD d = false := by cases d <;> first | rfl | cases h
theorem flat_strs (ws : List Str) : (ws.map V.str).all flatV = true := by
  rw [List.all_map]
  exact List.all_eq_true.mpr fun _ _ => rfl
theorem small_az : sSmall.cps.toList = az := by decide +kernel
theorem name_asked {s : Str} {r : Bool} (h : lenIn s = true) : (Txt.isascii s && (Txt.isalpha s && (Txt.islower s && r))) = (allIn s sSmall && r) := by
  have hp : s.length > 0 := by
    have := of_decide_eq_true (Bool.and_eq_true_iff.mp h).1
    omega
  rw [az_text hp]
  show _ = ((s.cps.toList.all fun c => decide (c ∈ sSmall.cps.toList)) && r)
  rw [small_az]
theorem ok_is_name (E : En K mg) (F : Df K mg "is_name" s_is_name) (c_consists_of : Ca P w K mg base 1 "consists_of" spCons) : Ca P w K mg base 2 "is_name" (spD1 nameD) := by
  refine ca_mk F sc_is_name (fun _ _ _ _ _ _ us hl => match us, hl with | [_], _ => rfl) spD1_len (fun f cdv A outer s H vs Q E' hr h => ?_)
  obtain ⟨v, d, rfl, hd, q⟩ := h
  refine ⟨_, (pss_cons (ps_if (PW.pt (pw_or (pt_not (pt_val (pe_callB (isiU (K := K) rfl) (by rfl) (E.fr (x := "isinstance") (by decide +kernel)) (by decide +kernel) (pa_cons (pv 0) (pa_cons (pe_bltn (by rfl) (E.fr (x := "str") (by decide +kernel)) (by decide +kernel) (show RelV (.ty "str") (.type "str") from rfl)) pa_nil))))) (pw_or1 (pt_not (pt_chain op_leU op_leU pe_int (pe_callB (lenU (K := K) rfl) (by rfl) (E.fr (x := "len") (by decide +kernel)) (by decide +kernel) (pa_cons (pv 0) pa_nil)) (pe_gc (by rfl) E.c_longest_word)))))) (pss_one (ps_ret pe_bl)) pss_nil)
      (pss_one (ps_ret (pe_and (pe_isascii (pv 0)) (pe_and (pe_isalpha (pv 0)) (pe_and (pe_islower (pv 0)) (pe_one (pe_cmpR (ninU (K := K) rfl) (pv 0) (pe_gc (by rfl) E.c_reserved) (by rfl))))))))), ?_⟩
  cases hS : d.isS with
  | false =>
    refine q_ifr (v := .bl false) (Iv.non H) (k_to (k_or (b := true) (k_not (k_b (x_isiD (e_vx rfl) hd (kit_s d)))) fun e => absurd e (by rw [hS]; decide)) (b := true) (by rw [hS]; rfl)) (fun _ => e_cx) (fun _ H1 _ g => ?_) (fun e => nomatch e)
    have := q H1 g
    rw [nameD_no hS] at this
    exact this
  | true =>
    obtain ⟨s, rfl, rfl, hz⟩ := dat_str hd hS
    refine q_ifr (v := .bl false) (b := !(lenIn s)) (Iv.non H) (k_to (k_or (k_not (k_b (x_isiD (e_vx rfl) hd (kit_s _)))) fun _ => k_not (k_chain (x_chainI (i := 1) (k := 8) (g := fun i j => decide (i ≤ j)) (g' := fun i j => decide (i ≤ j)) e_cx (x_len (e_vx rfl) (big hz)) e_cx (fun H1 iv => r_leI iv) (fun H1 iv => r_leI iv)))) rfl) (fun _ => e_cx) (fun e H1 _ g => ?_) (fun e H1 i1 g => ?_)
    · have := q H1 g
      rw [show nameD (.str s) = false from by show (lenIn s && _) = false; rw [(Bool.not_eq_true' _).mp e]; rfl] at this
      exact this
    · have hl : lenIn s = true := by cases hh : lenIn s <;> rw [hh] at e <;> first | rfl | cases e
      refine s_retx i1 (x_and (x_tx (s := s) (e_vx rfl)) fun _ => x_and (x_tx (s := s) (e_vx rfl)) fun _ => x_and (x_tx (s := s) (e_vx rfl)) fun _ => x_ninQ (v := .str s) (e_vx rfl) rfl e_cx (sq_k E.t_reserved) (flat_strs _)) fun H2 _ g2 => ?_
      have := q H2 (g.trans g2)
      rw [name_asked hl]
      rw [show nameD (.str s) = (allIn s sSmall && !inV (.str s) (wsR.map V.str)) from by show (lenIn s && _) = _; rw [hl]; rfl] at this
      exact this
end
end K21
namespace K21
open PySem PySem.Spec PyProof.Rows L2 Hk
section
variable {P : Program} {w : World} {K : PySem.W.Frag} {mg : Str → Option Value} {base : Heap}
def hd0 (s : Str) : Nat := s.cps.toList.headD 0
theorem at0 {s : Str} (h : 1 ≤ s.length) : atI s.cps.toList 0 = some (hd0 s) := by
  refine atI_nat (j := 0) ?_
  have e : s.cps.toList.length = s.length := by rw [Array.length_toList]; rfl
  unfold hd0
  cases hh : s.cps.toList with
  | nil => rw [hh] at e; rw [← e] at h; exact absurd h (by decide)
  | cons a r => rfl
theorem lenIn_1 {s : Str} (h : lenIn s = true) : 1 ≤ s.length := by
  unfold lenIn at h
  simp only [Bool.and_eq_true, decide_eq_true_eq] at h
  omega
theorem cutS_len (s : Str) (lo hi : Option Int) : (cutS s lo hi).length ≤ s.length := by
  unfold cutS
  show (((s.cps.toList.drop _).take _).toArray).size ≤ _
  rw [List.size_toArray, List.length_take, List.length_drop, Array.length_toList]
  exact Nat.le_trans (Nat.min_le_right _ _) (Nat.sub_le _ _)
def lenTo (s : Str) (m : Int) : Bool := decide ((1 : Int) ≤ (s.length : Int)) && decide ((s.length : Int) ≤ m)
def isDec (s : Str) (m : Int) : Bool := (lenTo s m && allIn s sDig) && (decide (V.str s = V.str "0") || !decide (V.str ⟨#[hd0 s]⟩ = V.str "0"))
def spDec : Sp := fun vs H Q _ => ∃ (t : Str) (m : Int), vs = [.str t, .int m] ∧ t.length ≤ 100000 ∧ ∀ H', Gr Vo.non H H' → Q (.bl (isDec t m)) H'
theorem pu_dec {t : Str} {m : Int} {H : Hp} (h : t.length ≤ 100000) : Pu spDec [.str t, .int m] H (.bl (isDec t m)) := fun Q E k => ⟨t, m, rfl, h, k⟩
theorem ok_is_decimal (E : En K mg) (F : Df K mg "is_decimal" s_is_decimal) (c_consists_of : Ca P w K mg base 1 "consists_of" spCons) : Ca P w K mg base 2 "is_decimal" spDec := by
  refine ca_mk F sc_is_decimal (fun _ _ _ _ _ _ us hl => match us, hl with | [_, _], _ => rfl) (fun vs H Q E h => by obtain ⟨t, z, rfl, _⟩ := h; rfl) (fun f cdv A outer s H vs Q E' hr h => ?_)
  obtain ⟨t, m, rfl, hz, q⟩ := h
  refine ⟨_, (pss_cons (ps_if (PW.pt (pw_or (pt_not (pt_chain op_leU op_leU pe_int (pe_callB (lenU (K := K) rfl) (by rfl) (E.fr (x := "len") (by decide +kernel)) (by decide +kernel) (pa_cons (pv 0) pa_nil)) (pv 1))) (pw_or1 (pt_not (pt_val (pe_ca c_consists_of (hr.mono (by first | decide | omega)) (by rfl) (pa_cons (pv 0) (pa_cons (pe_gc (by rfl) E.c_digits) pa_nil)))))))) (pss_one (ps_ret pe_bl)) pss_nil)
      (pss_one (ps_ret (pe_or (pe_cmpR op_eq (pv 0) pe_str (nomark _)) (pe_one (pe_cmpR op_ne (pe_ix (ixU (K := K) rfl) (pv 0) pe_int (fun _ _ => rfl)) pe_str (nomark _))))))), ?_⟩
  refine q_ifr (v := .bl false) (b := !(lenTo t m) || !(allIn t sDig)) (Iv.non H) (k_or (k_not (k_chain (x_chainI (i := 1) (k := m) (g := fun i j => decide (i ≤ j)) (g' := fun i j => decide (i ≤ j)) e_cx (x_len (e_vx rfl) (big hz)) (e_vx rfl) (fun H1 iv => r_leI iv) (fun H1 iv => r_leI iv)))) fun _ => k_not (k_b (x_call (a_cons (e_vx rfl) (a_cons e_cx a_nil)) fun H2 g2 => pu_cons hz))) (fun _ => e_cx) (fun e H1 _ g => ?_) (fun e H1 i1 g => ?_)
  · have := q H1 g
    rw [show isDec t m = false from by
      unfold isDec
      cases h1 : lenTo t m <;> cases h2 : allIn t sDig <;> rw [h1, h2] at e <;> first | rfl | cases e] at this
    exact this
  · have h12 : lenTo t m = true ∧ allIn t sDig = true := by
      cases h1 : lenTo t m <;> cases h2 : allIn t sDig <;> rw [h1, h2] at e <;> first | exact ⟨rfl, rfl⟩ | cases e
    have l1 : 1 ≤ t.length := by
      have h := h12.1
      unfold lenTo at h
      simp only [Bool.and_eq_true, decide_eq_true_eq] at h
      omega
    refine s_retx i1 (x_or (x_eq (x := .str t) (y := .str "0") (e_vx rfl) e_cx rfl) fun _ => x_ne (x := .str ⟨#[hd0 t]⟩) (y := .str "0") (x_ixS (c := hd0 t) (e_vx rfl) e_cx (big hz) (at0 l1)) e_cx rfl) fun H2 _ g2 => ?_
    have := q H2 (g.trans g2)
    unfold isDec at this
    rw [h12.1, h12.2] at this
    exact this
def labS (s : Str) : Bool := isDec s 2 && !decide (V.str s = V.str "0")
def labelD (d : D) : Bool := nameD d || match d with
  | .str s => labS s
  | _ => false
theorem ok_is_label (E : En K mg) (F : Df K mg "is_label" s_is_label) (c_is_name : Ca P w K mg base 2 "is_name" (spD1 nameD)) (c_is_decimal : Ca P w K mg base 2 "is_decimal" spDec) : Ca P w K mg base 3 "is_label" (spD1 labelD) := by
  refine ca_mk F sc_is_label (fun _ _ _ _ _ _ us hl => match us, hl with | [_], _ => rfl) spD1_len (fun f cdv A outer s H vs Q E' hr h => ?_)
  obtain ⟨v, d, rfl, hd, q⟩ := h
  refine ⟨_, (pss_cons (ps_if (pt_val (pe_ca c_is_name (hr.mono (by first | decide | omega)) (by rfl) (pa_cons (pv 0) pa_nil))) (pss_one (ps_ret pe_bl)) pss_nil)
      (pss_one (ps_ret (pe_and (pe_callB (isiU (K := K) rfl) (by rfl) (E.fr (x := "isinstance") (by decide +kernel)) (by decide +kernel) (pa_cons (pv 0) (pa_cons (pe_bltn (by rfl) (E.fr (x := "str") (by decide +kernel)) (by decide +kernel) (show RelV (.ty "str") (.type "str") from rfl)) pa_nil))) (pe_and (pe_ca c_is_decimal (hr.mono (by first | decide | omega)) (by rfl) (pa_cons (pv 0) (pa_cons (pe_gc (by rfl) E.c_label_digits) pa_nil))) (pe_one (pe_cmpR op_ne (pv 0) pe_str (nomark _)))))))), ?_⟩
  refine q_ifr (v := .bl true) (b := nameD d) (Iv.non H) (k_b (x_call (a_cons (e_vx rfl) a_nil) fun H2 g2 => pu_D1 (hd.gr g2))) (fun _ => e_cx) (fun e H1 _ g => ?_) (fun e H1 i1 g => ?_)
  · have := q H1 g
    rw [show labelD d = true from by unfold labelD; rw [e]; rfl] at this
    exact this
  · have hd1 := hd.gr g
    cases hS : d.isS with
    | false =>
      refine s_retx i1 (x_to (x_and (b := false) (x_isiD (e_vx rfl) hd1 (kit_s d)) fun e => absurd e (by rw [hS]; decide)) (w := .bl false) (by rw [hS]; rfl)) fun H2 _ g2 => ?_
      have := q H2 (g.trans g2)
      rw [show labelD d = false from by unfold labelD; rw [e]; cases d <;> first | rfl | cases hS] at this
      exact this
    | true =>
      obtain ⟨s, rfl, rfl, hz⟩ := dat_str hd hS
      refine s_retx i1 (x_to (x_and (x_isiD (e_vx rfl) hd1 (kit_s _)) fun _ => x_and (x_call (a_cons (e_vx rfl) (a_cons e_cx a_nil)) fun H2 g2 => pu_dec (m := 2) hz) fun _ => x_ne (x := .str s) (y := .str "0") (e_vx rfl) e_cx rfl) (w := .bl (labS s)) rfl) fun H2 _ g2 => ?_
      have := q H2 (g.trans g2)
      rw [show labelD (.str s) = labS s from by unfold labelD; rw [e]; rfl] at this
      exact this
end
end K21
namespace K21
open PySem PySem.Spec PyProof.Rows L2 Hk
section
variable {P : Program} {w : World} {K : PySem.W.Frag} {mg : Str → Option Value} {base : Heap}
def intD : D → Bool
  | .int _ => true
  | _ => false
def wholeD (m : Int) : D → Bool
  | .int i => decide (0 ≤ i) && decide (i ≤ m)
  | _ => false
def partD : D → Bool
  | .tup [a, b] => labelD a && wholeD 9 b
  | _ => false
def idxD : D → Bool
  | .tup (e :: p :: ps) => wholeD (10 ^ 9) e && (p :: ps).all partD
  | _ => false
theorem dat_intD {p : Vo} {H : Hp} {v : V} {d : D} (h : Dat p H v d) (e : intD d = true) : ∃ i, v = .int i ∧ d = .int i := by
  cases h with
  | int i => exact ⟨i, rfl, rfl⟩
  | _ => cases e
theorem dat_tupD {p : Vo} {H : Hp} {v : V} {d : D} (h : Dat p H v d) (e : d.isT = true) : ∃ ds, d = .tup ds := by
  cases h with
  | tup n h l hz r => exact ⟨_, rfl⟩
  | _ => cases e
theorem intD_isI (d : D) : (d.isI && !d.isB) = intD d := by cases d <;> rfl
theorem ok_is_integer (E : En K mg) (F : Df K mg "is_integer" s_is_integer) : Ca P w K mg base 1 "is_integer" (spD1 intD) := by
  refine ca_mk F sc_is_integer (fun _ _ _ _ _ _ us hl => match us, hl with | [_], _ => rfl) spD1_len (fun f cdv A outer s H vs Q E' hr h => ?_)
  obtain ⟨v, d, rfl, hd, q⟩ := h
  refine ⟨_, (pss_one (ps_ret (pe_and (pe_callB (isiU (K := K) rfl) (by rfl) (E.fr (x := "isinstance") (by decide +kernel)) (by decide +kernel) (pa_cons (pv 0) (pa_cons (pe_bltn (by rfl) (E.fr (x := "int") (by decide +kernel)) (by decide +kernel) (show RelV (.ty "int") (.type "int") from rfl)) pa_nil))) (pe_one (pe_not (pe_callB (isiU (K := K) rfl) (by rfl) (E.fr (x := "isinstance") (by decide +kernel)) (by decide +kernel) (pa_cons (pv 0) (pa_cons (pe_bltn (by rfl) (E.fr (x := "bool") (by decide +kernel)) (by decide +kernel) (show RelV (.ty "bool") (.type "bool") from rfl)) pa_nil)))))))), ?_⟩
  refine s_retx (Iv.non H) (x_to (x_and (x_isiD (e_vx rfl) hd (kit_i d)) fun _ => x_not (x_isiD (e_vx rfl) hd (kit_b d))) (w := .bl (intD d)) (by rw [intD_isI])) fun H2 _ g2 => q H2 g2
theorem x_whole {p : Vo} {σ : L2.St} {H : Hp} {i m : Int} {ta tb : TE} (ha : Ev p ta σ H (sx (.int i))) (hb : Ev p tb σ H (sx (.int m))) : Ev p (tChain rLeU rLeU (tC (.int 0)) ta tb) σ H (sx (.bl (wholeD m (.int i)))) :=
  x_chainI (i := 0) (j := i) (k := m) (g := fun i j => decide (i ≤ j)) (g' := fun i j => decide (i ≤ j)) e_cx ha hb (fun H1 iv => r_leI iv) fun H1 iv => r_leI iv
theorem whole_no {m : Int} {d : D} (h : intD d = false) : wholeD m d = false := by cases d <;> first | rfl | cases h
theorem ok_is_epoch (E : En K mg) (F : Df K mg "is_epoch" s_is_epoch) (c_is_integer : Ca P w K mg base 1 "is_integer" (spD1 intD)) : Ca P w K mg base 2 "is_epoch" (spD1 (wholeD (10 ^ 9))) := by
  refine ca_mk F sc_is_epoch (fun _ _ _ _ _ _ us hl => match us, hl with | [_], _ => rfl) spD1_len (fun f cdv A outer s H vs Q E' hr h => ?_)
  obtain ⟨v, d, rfl, hd, q⟩ := h
  refine ⟨_, (pss_one (ps_ret (pe_and (pe_ca c_is_integer (hr.mono (by first | decide | omega)) (by rfl) (pa_cons (pv 0) pa_nil)) (pe_one (pe_chain op_leU op_leU pe_int (pv 0) (pe_gc (by rfl) E.c_greatest_epoch)))))), ?_⟩
  cases hI : intD d with
  | false => exact s_retx (Iv.non H) (x_to (x_and (b := false) (x_call (a_cons (e_vx rfl) a_nil) fun H2 g2 => pu_D1 (hd.gr g2)) fun e => absurd e (by rw [hI]; decide)) (w := .bl (wholeD (10 ^ 9) d)) (by rw [hI, whole_no hI]; rfl)) fun H2 _ g2 => q H2 g2
  | true =>
    obtain ⟨i, rfl, rfl⟩ := dat_intD hd hI
    exact s_retx (Iv.non H) (x_to (x_and (x_call (a_cons (e_vx rfl) a_nil) fun H2 g2 => pu_D1 (hd.gr g2)) fun e => x_whole (e_vx rfl) e_cx) (w := .bl (wholeD (10 ^ 9) (.int i))) rfl) fun H2 _ g2 => q H2 g2
theorem part_noT {d : D} (h : d.isT = false) : partD d = false := by cases d <;> first | rfl | cases h
theorem part_len {ds : List D} (h : ds.length ≠ 2) : partD (.tup ds) = false := by
  cases ds with
  | nil => rfl
  | cons a r =>
    cases r with
    | nil => rfl
    | cons b r =>
      cases r with
      | nil => exact absurd rfl h
      | cons c r => rfl
theorem two_of {α : Type} {ds : List α} (h : ds.length = 2) : ∃ a b, ds = [a, b] := by
  cases ds with
  | nil => cases h
  | cons a r =>
    cases r with
    | nil => cases h
    | cons b r =>
      cases r with
      | nil => exact ⟨a, b, rfl⟩
      | cons c r => cases h
theorem ok_is_part (E : En K mg) (F : Df K mg "is_part" s_is_part) (c_is_integer : Ca P w K mg base 1 "is_integer" (spD1 intD)) (c_is_label : Ca P w K mg base 3 "is_label" (spD1 labelD)) : Ca P w K mg base 4 "is_part" (spD1 partD) := by
  refine ca_mk F sc_is_part (fun _ _ _ _ _ _ us hl => match us, hl with | [_], _ => rfl) spD1_len (fun f cdv A outer s H vs Q E' hr h => ?_)
  obtain ⟨v, d, rfl, hd, q⟩ := h
  refine ⟨_, (pss_cons (ps_if (PW.pt (pw_or (pt_not (pt_val (pe_callB (isiU (K := K) rfl) (by rfl) (E.fr (x := "isinstance") (by decide +kernel)) (by decide +kernel) (pa_cons (pv 0) (pa_cons (pe_bltn (by rfl) (E.fr (x := "tuple") (by decide +kernel)) (by decide +kernel) (show RelV (.ty "tuple") (.type "tuple") from rfl)) pa_nil))))) (pw_or (pt_cmpR op_ne (pe_callB (lenU (K := K) rfl) (by rfl) (E.fr (x := "len") (by decide +kernel)) (by decide +kernel) (pa_cons (pv 0) pa_nil)) pe_int (nomark _)) (pw_or1 (pt_not (pt_val (pe_ca c_is_label (hr.mono (by first | decide | omega)) (by rfl) (pa_cons (pe_ix (ixU (K := K) rfl) (pv 0) pe_int (fun _ _ => rfl)) pa_nil)))))))) (pss_one (ps_ret pe_bl)) pss_nil)
      (pss_one (ps_ret (pe_and (pe_ca c_is_integer (hr.mono (by first | decide | omega)) (by rfl) (pa_cons (pe_ix (ixU (K := K) rfl) (pv 0) pe_int (fun _ _ => rfl)) pa_nil)) (pe_one (pe_chain op_leU op_leU pe_int (pe_ix (ixU (K := K) rfl) (pv 0) pe_int (fun _ _ => rfl)) (pe_gc (by rfl) E.c_greatest_number))))))), ?_⟩
  cases hT : d.isT with
  | false =>
    refine q_ifr (v := .bl false) (b := true) (Iv.non H) (k_to (k_or (b := true) (k_not (k_b (x_isiD (e_vx rfl) hd (kit_t d)))) fun e => absurd e (by rw [hT]; decide)) (by rw [hT]; rfl)) (fun _ => e_cx) (fun _ H1 _ g => ?_) (fun e => nomatch e)
    have := q H1 g
    rw [part_noT hT] at this
    exact this
  | true =>
    obtain ⟨ds, rfl⟩ := dat_tupD hd hT
    cases hd with
    | @tup a xs _ na ha hl hz r =>
    have isq : ∀ {H1}, Gr Vo.non H H1 → ∀ v H2, Gr Vo.non H1 H2 → (sx (p := Vo.non) (.ref a)).P v H2 → ∃ a, v = .ref a ∧ (SqL K H2 a xs ∨ SqT K H2 a xs) := fun g v H2 g2 e => ⟨a, e, .inr (SqT.of ((g.trans g2) a _ na ha))⟩
    have hd' : Dat Vo.non H (.ref a) (.tup ds) := .tup na ha hl hz r
    by_cases h2 : ds.length = 2
    · obtain ⟨d0, d1, rfl⟩ := two_of h2
      obtain ⟨x0, x1, rfl⟩ := two_of (hl.trans rfl)
      have r0 := r 0 x0 d0 rfl rfl
      have r1 := r 1 x1 d1 rfl rfl
      refine q_ifr (v := .bl false) (b := !(labelD d0)) (Iv.non H) (k_to (k_or (k_not (k_b (x_isiD (e_vx rfl) hd' (kit_t _)))) fun _ => k_or (k_test (x_ne (x := .int 2) (y := .int 2) (x_lenQ (xs := [x0, x1]) (e_vx rfl) (isq (Gr.refl H))) e_cx rfl)) fun _ => k_not (k_b (x_call (a_cons (x_ixQ (xs := [x0, x1]) (e_vx rfl) (isq (Gr.refl H)) e_cx (atI_nat (j := 0) rfl)) a_nil) fun H2 g2 => pu_D1 (r0.gr g2)))) rfl) (fun _ => e_cx) (fun e H1 _ g => ?_) fun e H1 i1 g => ?_
      · have := q H1 g
        rw [show partD (.tup [d0, d1]) = false from by show (labelD d0 && _) = false; rw [(Bool.not_eq_true' _).mp e]; rfl] at this
        exact this
      · have el : labelD d0 = true := by cases hh : labelD d0 <;> rw [hh] at e <;> first | rfl | cases e
        have at1 : ∀ {σ : L2.St} {H2}, σ[0]? = some (some (.ref a)) → Gr Vo.non H1 H2 → Ev Vo.non (tOp (rIx K) (tVar 0) (tC (.int 1))) σ H2 (sx x1) := fun {σ H2} hs g2 => x_ixQ (xs := [x0, x1]) (e_vx hs) (isq (g.trans g2)) e_cx (atI_nat (j := 1) rfl)
        have fin : ∀ H2, Gr Vo.non H1 H2 → Q (.bl (wholeD 9 d1)) H2 := fun H2 g2 => by
          have := q H2 (g.trans g2)
          rw [show partD (.tup [d0, d1]) = wholeD 9 d1 from by show (labelD d0 && _) = _; rw [el]; rfl] at this
          exact this
        cases hI : intD d1 with
        | false => exact s_retx i1 (x_to (x_and (b := false) (x_call (a_cons (at1 rfl (Gr.refl H1)) a_nil) fun H2 g2 => pu_D1 (r1.gr (g.trans g2))) fun e => absurd e (by rw [hI]; decide)) (w := .bl (wholeD 9 d1)) (by rw [hI, whole_no hI]; rfl)) fun H2 _ g2 => fin H2 g2
        | true =>
          obtain ⟨i, rfl, rfl⟩ := dat_intD r1 hI
          exact s_retx i1 (x_to (x_and (x_call (a_cons (at1 rfl (Gr.refl H1)) a_nil) fun H2 g2 => pu_D1 (r1.gr (g.trans g2))) fun e => x_whole (at1 rfl (Gr.refl H1)) e_cx) (w := .bl (wholeD 9 (.int i))) rfl) fun H2 _ g2 => fin H2 g2
    · refine q_ifr (v := .bl false) (b := true) (Iv.non H) (k_to (k_or (b := true) (k_not (k_b (x_isiD (e_vx rfl) hd' (kit_t _)))) fun _ => k_to (k_or (a := true) (b := true) (k_to (k_test (x_ne (x := .int ((xs.length : Nat) : Int)) (y := .int 2) (x_lenQ (xs := xs) (e_vx rfl) (isq (Gr.refl H))) e_cx rfl)) (by rw [decide_eq_false fun e => h2 (by have := V.int.inj e; omega)]; rfl)) fun e => nomatch e) rfl) rfl) (fun _ => e_cx) (fun _ H1 _ g => ?_) (fun e => nomatch e)
      have := q H1 g
      rw [part_len h2] at this
      exact this
end
end K21
namespace K21
open PySem PySem.Spec PyProof.Rows L2 Hk
section
variable {P : Program} {w : World} {K : PySem.W.Frag} {mg : Str → Option Value} {base : Heap}
theorem cut1 {x : V} {xs : List V} : cutV (x :: xs) (some 1) none = xs := by
  have h1 : HT.sIx (x :: xs).length 0 (some 1) = 1 := by
    rw [show (some (1 : Int)) = some ((1 : Nat) : Int) from rfl, HT.sIx_nat, List.length_cons]
    omega
  have h2 : HT.sIx (x :: xs).length (x :: xs).length none = (x :: xs).length := rfl
  unfold cutV
  rw [h1, h2]
  show xs.take _ = xs
  rw [List.take_of_length_le (by rw [List.length_cons]; omega)]
theorem cut1_ne {x : V} {xs : List V} : ¬ (HT.sIx (x :: xs).length 0 (some 1) = 0 ∧ HT.sIx (x :: xs).length (x :: xs).length none = (x :: xs).length) := by
  have h1 : HT.sIx (x :: xs).length 0 (some 1) = 1 := by
    rw [show (some (1 : Int)) = some ((1 : Nat) : Int) from rfl, HT.sIx_nat, List.length_cons]
    omega
  rw [h1]
  exact fun h => absurd h.1 (by decide)
theorem idx_noT {d : D} (h : d.isT = false) : idxD d = false := by cases d <;> first | rfl | cases h
theorem idx_len {ds : List D} (h : ds.length < 2) : idxD (.tup ds) = false := by
  cases ds with
  | nil => rfl
  | cons a r =>
    cases r with
    | nil => rfl
    | cons b r => rw [List.length_cons, List.length_cons] at h; omega
theorem more_of {α : Type} {ds : List α} (h : ¬ ds.length < 2) : ∃ a b r, ds = a :: b :: r := by
  cases ds with
  | nil => exact absurd (show ([] : List α).length < 2 from Nat.le_of_ble_eq_true rfl) h
  | cons a r =>
    cases r with
    | nil => exact absurd (show [a].length < 2 from Nat.le_of_ble_eq_true rfl) h
    | cons b r => exact ⟨a, b, r, rfl⟩
theorem k_is_index (E : En K mg) (F : Df K mg "is_index" s_is_index) (c_is_epoch : Ca P w K mg base 2 "is_epoch" (spD1 (wholeD (10 ^ 9)))) (c_is_part : Ca P w K mg base 4 "is_part" (spD1 partD)) : CaK CX0 P w K mg base 5 "is_index" "value" (spD1 idxD) := by
  refine cak_mk F sc_is_index (fun _ _ _ _ _ _ us hl => match us, hl with | [_], _ => rfl) (fun _ _ _ _ _ _ _ => rfl) spD1_len (fun f cdv A outer s H vs Q E' hr h => ?_)
  obtain ⟨v, d, rfl, hd, q⟩ := h
  refine ⟨_, (pss_cons (ps_if (PW.pt (pw_or (pt_not (pt_val (pe_callB (isiU (K := K) rfl) (by rfl) (E.fr (x := "isinstance") (by decide +kernel)) (by decide +kernel) (pa_cons (pv 0) (pa_cons (pe_bltn (by rfl) (E.fr (x := "tuple") (by decide +kernel)) (by decide +kernel) (show RelV (.ty "tuple") (.type "tuple") from rfl)) pa_nil))))) (pw_or (pt_cmpR op_lt (pe_callB (lenU (K := K) rfl) (by rfl) (E.fr (x := "len") (by decide +kernel)) (by decide +kernel) (pa_cons (pv 0) pa_nil)) pe_int (nomark _)) (pw_or1 (pt_not (pt_val (pe_ca c_is_epoch (hr.mono (by first | decide | omega)) (by rfl) (pa_cons (pe_ix (ixU (K := K) rfl) (pv 0) pe_int (fun _ _ => rfl)) pa_nil)))))))) (pss_one (ps_ret pe_bl)) pss_nil)
      (pss_one (ps_ret (pe_callB (allU (K := K) rfl rfl) (by rfl) (E.fr (x := "all") (by decide +kernel)) (by decide +kernel) (pa_cons (pe_lc (own := [("part", 1)]) (g := (gName 1)) (tt := tYes) rfl sc_is_index.nd (pi_tup (pe_slice (slU (K := K) rfl) (pv 0) (po_some pe_int) po_none)) (blkOk_by (own := [("part", 1)]) (N := ["value", "part"]) (sc := defScope s_is_index) (by decide +kernel)) (fun _ _ _ _ _ => (pg_name (i := 1) sc_is_index.nd rfl (Or.inl rfl))) (fun _ _ _ _ _ => pts_nil) (fun _ _ _ _ _ => (pe_ca c_is_part (hr.mono (by first | decide | omega)) (by rfl) (pa_cons (pv 1) pa_nil)))) pa_nil))))), ?_⟩
  cases hT : d.isT with
  | false =>
    refine q_ifr (v := .bl false) (b := true) (Iv.non H) (k_to (k_or (b := true) (k_not (k_b (x_isiD (e_vx rfl) hd (kit_t d)))) fun e => absurd e (by rw [hT]; decide)) (by rw [hT]; rfl)) (fun _ => e_cx) (fun _ H1 _ g => ?_) (fun e => nomatch e)
    have := q H1 g
    rw [idx_noT hT] at this
    exact this
  | true =>
    obtain ⟨ds, rfl⟩ := dat_tupD hd hT
    cases hd with
    | @tup a xs _ na ha hl hz r =>
    have isq : ∀ {H1}, Gr Vo.non H H1 → ∀ v H2, Gr Vo.non H1 H2 → (sx (p := Vo.non) (.ref a)).P v H2 → ∃ a, v = .ref a ∧ (SqL K H2 a xs ∨ SqT K H2 a xs) := fun g v H2 g2 e => ⟨a, e, .inr (SqT.of ((g.trans g2) a _ na ha))⟩
    have hd' : Dat Vo.non H (.ref a) (.tup ds) := .tup na ha hl hz r
    by_cases h2 : ds.length < 2
    · refine q_ifr (v := .bl false) (b := true) (Iv.non H) (k_to (k_or (b := true) (k_not (k_b (x_isiD (e_vx rfl) hd' (kit_t _)))) fun _ => k_to (k_or (a := true) (b := true) (k_to (k_test (x_ii (i := ((xs.length : Nat) : Int)) (j := 2) (x_lenQ (xs := xs) (e_vx rfl) (isq (Gr.refl H))) e_cx)) (decide_eq_true (by omega))) fun e => nomatch e) rfl) rfl) (fun _ => e_cx) (fun _ H1 _ g => ?_) (fun e => nomatch e)
      have := q H1 g
      rw [idx_len h2] at this
      exact this
    · obtain ⟨d0, d1, dr, rfl⟩ := more_of h2
      obtain ⟨x0, x1, xr, rfl⟩ := more_of (ds := xs) (by rw [hl]; exact h2)
      have r0 := r 0 x0 d0 rfl rfl
      refine q_ifr (v := .bl false) (b := !(wholeD (10 ^ 9) d0)) (Iv.non H) (k_to (k_or (k_not (k_b (x_isiD (e_vx rfl) hd' (kit_t _)))) fun _ => k_or (a := false) (k_to (k_test (x_ii (i := (((x0 :: x1 :: xr).length : Nat) : Int)) (j := 2) (x_lenQ (xs := x0 :: x1 :: xr) (e_vx rfl) (isq (Gr.refl H))) e_cx)) (decide_eq_false (by rw [List.length_cons, List.length_cons]; omega))) fun _ => k_not (k_b (x_call (a_cons (x_ixQ (xs := x0 :: x1 :: xr) (e_vx rfl) (isq (Gr.refl H)) e_cx (atI_nat (j := 0) rfl)) a_nil) fun H2 g2 => pu_D1 (r0.gr g2)))) rfl) (fun _ => e_cx) (fun e H1 _ g => ?_) fun e H1 i1 g => ?_
      · have := q H1 g
        rw [show idxD (.tup (d0 :: d1 :: dr)) = false from by show (wholeD (10 ^ 9) d0 && _) = false; rw [(Bool.not_eq_true' _).mp e]; rfl] at this
        exact this
      · have el : wholeD (10 ^ 9) d0 = true := by cases hh : wholeD (10 ^ 9) d0 <;> rw [hh] at e <;> first | rfl | cases e
        refine s_retx i1 (allT (K := K) (B := stx (cutV (x0 :: x1 :: xr) (some 1) none)) (xs := x1 :: xr) (ds := d1 :: dr) partD (x_slT (lo := some 1) (hi := none) (e_vx rfl) (fun v H2 g2 e => ⟨a, e, SqT.of ((g.trans g2) a _ na ha)⟩) (fun _ _ q => o_int q) (fun _ _ q => o_none q) cut1_ne) (fun v H2 g2 ⟨b, ws, e1, e2, e3, e4⟩ => ⟨b, e1, e2, by rw [e3, e4, cut1]⟩) (by rw [List.length_cons] at hz; omega) (by rw [List.length_cons, List.length_cons] at hl; exact Nat.succ.inj hl) (fun _ => rfl) fun i x d E o H7 g7 hE h1 h2 => x_call (a_cons (e_vx rfl) a_nil) fun H8 g8 => pu_D1 (((r (i + 1) x d h1 h2).gr (g.trans g7)).and hE |>.gr g8 |>.non')) fun H2 _ g2 => ?_
        have := q H2 (g.trans g2)
        rw [show idxD (.tup (d0 :: d1 :: dr)) = (d1 :: dr).all partD from by show (wholeD (10 ^ 9) d0 && _) = _; rw [el]; rfl] at this
        exact this
end
end K21
namespace K21
open PySem PySem.Spec PyProof.Rows L2 Hk
def partS : D → Str
  | .tup [.str l, .int n] => ((Str.empty ++ l) ++ ".") ++ numStr n
  | _ => ""
def epS : D → Str
  | .int i => numStr i
  | _ => ""
def idxText : D → Str
  | .tup (e :: ps) => Txt.join " " (epS e :: ps.map partS)
  | _ => ""
theorem whole_shape {m : Int} {d : D} (h : wholeD m d = true) : ∃ i : Int, d = .int i ∧ 0 ≤ i ∧ i ≤ m := by
  cases d with
  | int i =>
    obtain ⟨h1, h2⟩ := Bool.and_eq_true_iff.mp (show (decide (0 ≤ i) && decide (i ≤ m)) = true from h)
    exact ⟨i, rfl, of_decide_eq_true h1, of_decide_eq_true h2⟩
  | _ => cases h
theorem label_str {d : D} (h : labelD d = true) : ∃ s, d = .str s ∧ s.length ≤ 8 := by
  cases d with
  | str s =>
    refine ⟨s, rfl, ?_⟩
    rcases (Bool.or_eq_true _ _).mp (show (isName s || labS s) = true from h) with h | h
    · have := (Bool.and_eq_true_iff.mp (show (lenIn s && _) = true from h)).1
      unfold lenIn at this
      simp only [Bool.and_eq_true, decide_eq_true_eq] at this
      omega
    · have h1 := (Bool.and_eq_true_iff.mp (show (isDec s 2 && _) = true from h)).1
      have h2 := (Bool.and_eq_true_iff.mp (Bool.and_eq_true_iff.mp (show ((lenTo s 2 && allIn s sDig) && _) = true from h1)).1).1
      unfold lenTo at h2
      simp only [Bool.and_eq_true, decide_eq_true_eq] at h2
      omega
  | _ => cases (show false = true from h)
theorem part_shape {d : D} (h : partD d = true) : ∃ (l : Str) (n : Int), d = .tup [.str l, .int n] ∧ labelD (.str l) = true ∧ l.length ≤ 8 ∧ 0 ≤ n ∧ n ≤ 9 := by
  cases d with
  | tup ds =>
    by_cases h2 : ds.length = 2
    · obtain ⟨a, b, rfl⟩ := two_of h2
      obtain ⟨ha, hb⟩ := Bool.and_eq_true_iff.mp (show (labelD a && wholeD 9 b) = true from h)
      obtain ⟨s, rfl, hs⟩ := label_str ha
      obtain ⟨n, rfl, n0, n1⟩ := whole_shape hb
      exact ⟨s, n, rfl, ha, hs, n0, n1⟩
    · rw [part_len h2] at h
      cases h
  | _ => cases h
theorem idx_shape {d : D} (h : idxD d = true) : ∃ (e : Int) (p : D) (ps : List D), d = .tup (.int e :: p :: ps) ∧ 0 ≤ e ∧ e ≤ 10 ^ 9 ∧ ∀ q ∈ p :: ps, partD q = true := by
  cases hT : d.isT with
  | false => rw [idx_noT hT] at h; cases h
  | true =>
    cases d with
    | tup ds =>
      by_cases h2 : ds.length < 2
      · rw [idx_len h2] at h; cases h
      · obtain ⟨a, b, r, rfl⟩ := more_of h2
        obtain ⟨ha, hb⟩ := Bool.and_eq_true_iff.mp (show (wholeD (10 ^ 9) a && (b :: r).all partD) = true from h)
        obtain ⟨e, rfl, e0, e1⟩ := whole_shape ha
        exact ⟨e, b, r, rfl, e0, e1, List.all_eq_true.mp hb⟩
    | _ => cases hT
theorem numStr_len {n : Int} (h0 : 0 ≤ n) (h1 : n ≤ 9) : (numStr n).length = 1 := by
  rw [TL.len_tl]
  show ((numStr n).cps.toList).length = 1
  rw [num_one h0 h1]
  rfl
theorem numStr_len10 {n : Int} (h0 : 0 ≤ n) (h1 : n ≤ 10 ^ 9) : (numStr n).length ≤ 10 := by
  obtain ⟨m, rfl⟩ := Int.eq_ofNat_of_zero_le h0
  rw [TL.len_tl]
  show ((numStr ((m : Nat) : Int)).cps.toList).length ≤ 10
  rw [show (numStr ((m : Nat) : Int)).cps.toList = (Nat.toDigits 10 m).map Char.toNat from PySem.W.KIN.signs_num m, List.length_map]
  exact PyProof.Rows.digits10_le (by decide) (by omega)
theorem log_small {n : Int} (h0 : 0 ≤ n) (h1 : n ≤ 10 ^ 9) : n.natAbs.log2 < 1920 := by
  by_cases hn : n.natAbs = 0
  · rw [hn]; decide
  · exact Nat.lt_of_lt_of_le ((Nat.log2_lt hn (k := 40)).mpr (by omega)) (by decide)
theorem len3 (a b c : Str) : ((Str.empty ++ a) ++ b ++ c).length = a.length + b.length + c.length := by
  rw [Str.length_append, Str.length_append, Str.length_append]
  show 0 + a.length + b.length + c.length = _
  omega
theorem partS_len {d : D} (h : partD d = true) : (partS d).length ≤ 10 := by
  obtain ⟨l, n, rfl, _, hl, n0, n1⟩ := part_shape h
  show (((Str.empty ++ l) ++ ".") ++ numStr n).length ≤ 10
  rw [len3, numStr_len n0 n1]
  have : (("." : Str)).length = 1 := rfl
  omega
theorem sum_le {α : Type} {c : Nat} (f : α → Nat) : ∀ (xs : List α), (∀ x ∈ xs, f x ≤ c) → (xs.map f).sum ≤ xs.length * c
  | [], _ => Nat.zero_le _
  | x :: xs, h => by
    rw [List.map_cons, List.sum_cons, List.length_cons, Nat.succ_mul]
    have := h x List.mem_cons_self
    have := sum_le f xs fun y hy => h y (List.mem_cons_of_mem _ hy)
    omega
theorem x_strI {p : Vo} {σ : L2.St} {H : Hp} {ta : TE} {i : Int} (ha : Ev p ta σ H (sx (.int i))) (hz : i.natAbs.log2 < 1920) : Ev p (tCB (fun xs H Q => ∃ i, xs = [.int i] ∧ i.natAbs.log2 < 1920 ∧ Q (.str (toString i)) H) (tCons ta tNil)) σ H (sx (.str (toString i))) := e_cb (a_cons ha a_nil) fun vs H1 iv g os => by
  obtain ⟨v, ws, rfl, rfl, rfl⟩ := os
  exact rv iv rfl fun Q q => ⟨i, rfl, hz, q⟩
/-- what an error brings along -/
def Rs (C : Addr) (v : V) (H : Hp) (E : XK) : Prop := ∀ H' d, Gr Vo.non H H' → H' d = none → E (.ref C) (some d) (upd H' d (.xd [(("value" : Str), v)]))
def spText (C : Addr) : Sp := fun vs H Q E => ∃ v d, vs = [v] ∧ Dat Vo.non H v d ∧ (idxD d = true → ∀ H', Gr Vo.non H H' → Q (.str (idxText d)) H') ∧ (idxD d = false → Rs C v H E)
structure Er (P : Program) (K : PySem.W.Frag) (mg : Str → Option Value) (C fI : Addr) : Prop where
  T : PySem.HkE.ErrTxt K P.main.file C fI
  m : mg "InvalidIndex" = some (.ref C)
  hs : mg "super" = none
  top : (P.main.scope.names.lookup ("super" : Str)).isSome = false
section
variable {P : Program} {w : World} {K : PySem.W.Frag} {mg : Str → Option Value} {base : Heap} {C fI : Addr}
/-- raise InvalidIndex(x) -/
theorem s_raiseE {p : Vo} {σ : L2.St} {H : Hp} {D : Ends} {te : TE} {v : V} {W : WX} (iv : Iv p H) (h : Ev p te σ H (sx v)) (k : ∀ H1 d, Gr p H H1 → H1 d = none → W (.ref C) (some d) σ (upd H1 d (.xd [(("value" : Str), v)]))) : tRaiseE C W (tCons te tNil) D σ H :=
  h H iv (Gr.refl H) _ fun w H1 i1 g1 e => ⟨w, rfl, fun d hd => by
    rw [show w = v from e]
    exact k H1 d g1 hd⟩
theorem ok_index_text (E : En K mg) (R : Er P K mg C fI) (F : Df K mg "index_text" s_index_text) (c_is_index : Ca P w K mg base 5 "is_index" (spD1 idxD)) : CaK (L2.CX P w) P w K mg base 7 "index_text" "index" (spText C) := by
  refine cax_mk F sc_index_text (fun _ _ _ _ _ _ us hl => match us, hl with | [_], _ => rfl) (fun _ _ _ _ _ _ _ => rfl) (fun vs H Q E h => by obtain ⟨v, d, rfl, _⟩ := h; rfl) (fun f cdv A outer s H vs Q E' hr h => ?_)
  obtain ⟨v, d, rfl, hd, q, qr⟩ := h
  refine ⟨_, (pss_cons (ps_if (pt_not (pt_val (pe_ca c_is_index (hr.mono (by first | decide | omega)) (by rfl) (pa_cons (pv 0) pa_nil)))) (pss_one (ps_raiseE (k := 6) rfl R.T R.hs R.top (hr.mono (by first | decide | omega)) (takes_of rfl rfl rfl rfl) (pa_cons (pv 0) pa_nil) (by rfl) R.m)) pss_nil)
      (pss_cons (ps_setLc (i := 1) (own := [("label", 2), ("number", 3)]) (g := (gTup K 2 (gCons (gName 2) (gCons (gName 3) gNil)))) (tt := tYes) rfl sc_index_text.nd rfl rfl (sw_true rfl rfl rfl (by decide +kernel)) (pi_tup (pe_slice (slU (K := K) rfl) (pv 0) (po_some pe_int) po_none)) (blkOk_by (own := [("label", 2), ("number", 3)]) (N := ["index", "parts", "label", "number"]) (sc := defScope s_index_text) (by decide +kernel)) (fun _ _ _ _ _ => (pg_tup rfl (pgs_cons (pg_name (i := 2) sc_index_text.nd rfl (Or.inl rfl)) (pgs_cons (pg_name (i := 3) sc_index_text.nd rfl (Or.inl rfl)) pgs_nil)))) (fun _ _ _ _ _ => pts_nil) (fun _ _ _ _ _ => (pe_joined (.cons (pe_fmt (pv 2)) (.cons pe_str (.cons (pe_fmt (pv 3)) .nil))))))
      (pss_one (ps_ret (pe_joinU (K := K) rfl pe_str (pe_lst (pa_cons (pe_callTy call_str_int (by rfl) (E.fr (x := "str") (by decide +kernel)) (by decide +kernel) (pa_cons (pe_ix (ixU (K := K) rfl) (pv 0) pe_int (fun _ _ => rfl)) pa_nil)) (StX.pa_star (pv 1) pa_nil)))))))), ?_⟩
  refine q_if (p := Vo.non) (B := fun b => b = !(idxD d)) (Iv.non H) (k_not (k_b (x_call (a_cons (e_vx rfl) a_nil) fun H2 g2 => pu_D1 (hd.gr g2)))) (fun e H1 i1 g1 => ?_) fun e H1 i1 g1 => ?_
  · exact s_raiseE (p := Vo.non) (v := v) i1 (e_vx rfl) fun H2 d2 g2 h2 => qr (by cases hh : idxD d <;> rw [hh] at e <;> first | rfl | cases e) H2 d2 (g1.trans g2) h2
  · have el : idxD d = true := by cases hh : idxD d <;> rw [hh] at e <;> first | rfl | cases e
    obtain ⟨ep, d1, dr, rfl, e0, e1, hps⟩ := idx_shape el
    cases hd with
    | @tup a xs _ na ha hl hz r =>
    obtain ⟨x0, x1, xr, rfl⟩ := more_of (ds := xs) (by rw [hl, List.length_cons, List.length_cons]; omega)
    have r0 := r 0 x0 (.int ep) rfl rfl
    cases r0 with
    | int _ =>
    have hlen : (d1 :: dr).length ≤ 100000 := by
      simp only [List.length_cons] at hl hz ⊢
      omega
    have h1 : Ev Vo.non (tLc (iTup K (tSl (rSlU K) (tVar 0) (tPart (tC (.int 1))) tNoPart)) (gTup K 2 (gCons (gName 2) (gCons (gName 3) gNil))) tYes (fun σ H Q => tJs [tFmt (tVar 2), tC (.str "."), tFmt (tVar 3)] Str.empty σ H fun out H1 => Q (.str out) H1) [2, 3]) [some (V.ref a), none, none, none] H1 (slP Vo.non Px ((d1 :: dr).map fun d => V.str (partS d))) :=
      lcT_pt (Y := Pd) (fs := d1 :: dr) (B := stx (cutV (V.int ep :: x1 :: xr) (some 1) none)) (τ := fun x f => match f with
          | .tup [.str l, .int n] => [some (V.ref a), none, some (.str l), some (.int n)]
          | _ => [some (V.ref a), none, none, none])
        (x_slT (lo := some 1) (hi := none) (e_vx rfl) (fun v H2 g2 e => ⟨a, e, SqT.of ((g1.trans g2) a _ na ha)⟩) (fun _ _ q => o_int q) (fun _ _ q => o_none q) cut1_ne)
        (fun v H2 g2 ⟨b, ws, f1, f2, f3, f4⟩ => ⟨b, x1 :: xr, f1, f2, by rw [f3, f4, cut1], by simp only [List.length_cons] at hl ⊢; omega, fun i x f hx hf => (r (i + 1) x f hx hf).gr (g1.trans g2)⟩)
        (by rw [List.length_map]) (by rw [List.length_map]; exact hlen)
        (fun x f => by
          split <;> rfl)
        (fun i x f H' R' hf hx hR => by
          obtain ⟨l, n, rfl, _⟩ := part_shape (hps f (List.mem_of_getElem? hf))
          have hx : Dat Vo.non H' x (.tup [.str l, .int n]) := hx
          cases hx with
          | @tup b ys _ nb hb hlb hzb rb =>
            obtain ⟨y0, y1, rfl⟩ := two_of (hlb.trans rfl)
            have s0 := rb 0 y0 _ rfl rfl
            have s1 := rb 1 y1 _ rfl rfl
            cases s0
            cases s1
            exact ⟨b, _, rfl, SqT.of hb, rfl, _, _, rfl, _, _, rfl, rfl, hR⟩)
        (fun i x f E l H2 hf g2 hE hx => by
          obtain ⟨s, n, rfl, _, hs, n0, n1⟩ := part_shape (hps f (List.mem_of_getElem? hf))
          refine e_px (v := .str (partS (.tup [.str s, .int n]))) (x_joined (j_cons (y := s) (x_fmtS (e_vx rfl) (big (by omega))) (big (by rw [Str.length_append]; show 0 + s.length ≤ _; omega)) (j_cons (y := ".") e_cx (big (by rw [Str.length_append, Str.length_append]; show 0 + s.length + 1 ≤ _; omega)) (j_cons (y := numStr n) (x_fmtI (e_vx rfl) (log_small n0 (by omega))) (big (by
            have := len3 s "." (numStr n)
            rw [numStr_len n0 n1] at this
            rw [this]
            show s.length + 1 + 1 ≤ _
            omega)) j_nil)))) ?_
          rw [List.getElem?_map, hf]
          rfl)
    refine q_asg i1 h1 fun v2 H2 i2 g2 hv2 => ?_
    have hv3 := slx_px hv2
    obtain ⟨b, ws, rfl, nb, hb, rfl⟩ := hv3
    refine s_retx i2 (x_join (K := K) (a := " ") (ys := epS (.int ep) :: (d1 :: dr).map partS) e_cx ?_ ?_) fun H3 _ g3 => q el H3 ((g1.trans g2).trans g3)
    · have e2 : ((epS (.int ep) :: (d1 :: dr).map partS).map V.str) = V.str (numStr ep) :: (((d1 :: dr).map fun d => V.str (partS d)) ++ []) := by
        rw [List.map_cons, List.map_map, List.append_nil]
        rfl
      rw [e2]
      refine xx_lst (xa_cons (x_strI (x_ixQ (xs := V.int ep :: x1 :: xr) (e_vx rfl) (fun v H3 g3 e => ⟨a, e, .inr (SqT.of (((g1.trans g2).trans g3) a _ na ha))⟩) e_cx (atI_nat (j := 0) rfl)) (log_small e0 e1)) (xa_star (B := sx (.ref b)) (e_vx rfl) (fun v H3 g3 e => ⟨b, e, .inl (SqL.of (g3 b _ nb hb))⟩) xa_nil)) ?_
      rw [sizeLine_eq, List.length_cons, List.length_append, List.length_map]
      show (d1 :: dr).length + 0 + 1 ≤ _
      omega
    · rw [List.map_cons, List.sum_cons, List.length_cons, List.map_map, List.length_map]
      have h2 := sum_le (c := 10) (fun d => (partS d).length) (d1 :: dr) fun d hd => partS_len (hps d hd)
      have h3 := numStr_len10 e0 e1
      have h4 : (" " : Str).length = 1 := rfl
      rw [h4]
      show (numStr ep).length + ((d1 :: dr).map fun d => (partS d).length).sum + _ ≤ _
      omega
end
end K21
namespace K21
open PySem PySem.Spec PyProof.Rows L2 Hk
section
variable {p : Vo} {σ : L2.St} {H : Hp} {K : PySem.W.Frag} {te ta tb : TE} {tr : TA} {D : Ends} {u : TS}
theorem q_tup3 {x y z : V} {i j k : Nat} (iv : Iv p H) (h : Ev p te σ H (stx [x, y, z])) (kk : ∀ H1, Iv p H1 → Gr p H H1 → u D (((σ.set i (some x)).set j (some y)).set k (some z)) H1) : tSeq (tAsg te (gTup K 3 (gCons (gName i) (gCons (gName j) (gCons (gName k) gNil))))) u D σ H :=
  h H iv (Gr.refl H) _ fun v H1 i1 g1 ⟨a, ws, e, na, ha, ew⟩ => ⟨a, ws, e, SqT.of ha, by rw [ew]; rfl, x, [y, z], ew, y, [z], rfl, z, [], rfl, rfl, kk H1 i1 g1⟩
theorem q_two {A B : Sy p} {i j : Nat} (iv : Iv p H) (h : EvA p tr σ H [A, B]) (kk : ∀ x y H1, Iv p H1 → Gr p H H1 → A.P x H1 → B.P y H1 → u D ((σ.set i (some x)).set j (some y)) H1) : tSeq (tPar i j tr) u D σ H :=
  h H iv (Gr.refl H) _ fun vs H1 i1 g1 ⟨x, w1, e1, hx, y, w2, e2, hy, e3⟩ => ⟨x, y, by rw [e1, e2, e3], kk x y H1 i1 g1 hx hy⟩
theorem x_intS {a : Str} {n : Int} (ha : Ev p ta σ H (sx (.str a))) (hn : PySem.intText? a = some n) (hz : a.length ≤ 640) : Ev p (tCB (fun xs H Q => ∃ a n, xs = [.str a] ∧ PySem.intText? a = some n ∧ a.length ≤ 640 ∧ Q (.int n) H) (tCons ta tNil)) σ H (sx (.int n)) := e_cb (a_cons ha a_nil) fun vs H1 iv g os => by
  obtain ⟨v, ws, rfl, rfl, rfl⟩ := os
  exact rv iv rfl fun Q q => ⟨a, n, rfl, hn, hz, q⟩
end
def pLab (w : Str) : Str := (Txt.partition w ".").1
def pDot (w : Str) : Str := (Txt.partition w ".").2.1
def pNum (w : Str) : Str := (Txt.partition w ".").2.2
def wOk (w : Str) : Bool := labelD (.str (pLab w)) && isDec (pNum w) 1
def parD (w : Str) : D := .tup [.str (pLab w), .int ((valS (pNum w) : Nat) : Int)]
theorem part_lens (w : Str) : (pLab w).length ≤ w.length ∧ (pNum w).length ≤ w.length := by
  have e := TL.partition_par w "." (by decide +kernel)
  unfold pLab pNum
  cases hp : TL.par (TL.tl ".") [] (TL.tl w) with
  | none =>
    rw [hp] at e
    rw [e]
    exact ⟨Nat.le_refl _, Nat.zero_le _⟩
  | some q =>
    obtain ⟨a, b⟩ := q
    rw [hp] at e
    have h := congrArg List.length (par_back hp)
    rw [List.nil_append, List.length_append, List.length_append] at h
    rw [e]
    rw [TL.len_tl w]
    show a.toArray.size ≤ _ ∧ b.toArray.size ≤ _
    rw [List.size_toArray, List.size_toArray]
    omega
theorem dig_mem : ∀ c, c ∈ sDig.cps.toList ↔ 48 ≤ c ∧ c ≤ 57 := by
  intro c
  rw [show sDig.cps.toList = [48, 49, 50, 51, 52, 53, 54, 55, 56, 57] from by decide +kernel]
  simp only [List.mem_cons, List.not_mem_nil, or_false]
  omega
theorem allIn_dig {s : Str} : allIn s sDig = true ↔ PySem.NumText.AllDigits s.cps.toList := by
  unfold allIn
  rw [List.all_eq_true]
  exact ⟨fun h c hc => (dig_mem c).mp (of_decide_eq_true (h c hc)), fun h c hc => decide_eq_true ((dig_mem c).mpr (h c hc))⟩
theorem isDec_dig {s : Str} {m : Int} (h : isDec s m = true) : DigS s ∧ 1 ≤ s.length ∧ (s.length : Int) ≤ m := by
  have h2 := Bool.and_eq_true_iff.mp (Bool.and_eq_true_iff.mp (show ((lenTo s m && allIn s sDig) && _) = true from h)).1
  have h1 := h2.1
  unfold lenTo at h1
  simp only [Bool.and_eq_true, decide_eq_true_eq] at h1
  refine ⟨⟨allIn_dig.mp h2.2, fun e => ?_⟩, by omega, h1.2⟩
  have := TL.len_tl s
  rw [show TL.tl s = s.cps.toList from rfl, e] at this
  simp at this
  omega
section
variable {P : Program} {w : World} {K : PySem.W.Frag} {mg : Str → Option Value} {base : Heap}
def spPT : Sp := fun vs H Q _ => ∃ t : Str, vs = [.str t] ∧ t.length ≤ 100000 ∧ ∀ H', Gr Vo.non H H' → Q (.bl (wOk t)) H'
def spPP : Sp := fun vs H Q _ => ∃ (p : Vo) (t : Str), vs = [.str t] ∧ Iv p H ∧ t.length ≤ 100000 ∧ wOk t = true ∧ ∀ v H', Iv p H' → Gr p H H' → Dat p H' v (parD t) → Q v H'
theorem ok_is_part_text (E : En K mg) (F : Df K mg "is_part_text" s_is_part_text) (c_is_label : Ca P w K mg base 3 "is_label" (spD1 labelD)) (c_is_decimal : Ca P w K mg base 2 "is_decimal" spDec) : Ca P w K mg base 4 "is_part_text" spPT := by
  refine ca_mk F sc_is_part_text (fun _ _ _ _ _ _ us hl => match us, hl with | [_], _ => rfl) (fun vs H Q E h => by obtain ⟨t, rfl, _⟩ := h; rfl) (fun f cdv A outer s H vs Q E' hr h => ?_)
  obtain ⟨t, rfl, hz, q⟩ := h
  refine ⟨_, (pss_cons (ps_asg (pe_partU (pv 0) pe_str) (pg_tup rfl (pgs_cons (pg_name (i := 1) sc_is_part_text.nd rfl (Or.inl rfl)) (pgs_cons (pg_name (i := 2) sc_is_part_text.nd rfl (Or.inl rfl)) (pgs_cons (pg_name (i := 3) sc_is_part_text.nd rfl (Or.inl rfl)) pgs_nil)))))
      (pss_one (ps_ret (pe_and (pe_ca c_is_label (hr.mono (by first | decide | omega)) (by rfl) (pa_cons (pv 1) pa_nil)) (pe_one (pe_ca c_is_decimal (hr.mono (by first | decide | omega)) (by rfl) (pa_cons (pv 3) (pa_cons pe_int pa_nil)))))))), ?_⟩
  obtain ⟨l1, l2⟩ := part_lens t
  refine q_tup3 (x := .str (pLab t)) (y := .str (pDot t)) (z := .str (pNum t)) (Iv.non H) (x_part (e_vx rfl) e_cx hz rfl) fun H1 i1 g1 => ?_
  exact s_retx i1 (x_and (x_call (a_cons (e_vx rfl) a_nil) fun H2 g2 => pu_D1 (.str _ (by omega))) fun _ => x_call (a_cons (e_vx rfl) (a_cons e_cx a_nil)) fun H2 g2 => pu_dec (m := 1) (by omega)) fun H2 _ g2 => q H2 (g1.trans g2)
theorem ok_parsed_part (E : En K mg) (F : Df K mg "parsed_part" s_parsed_part) : Ca P w K mg base 1 "parsed_part" spPP := by
  refine ca_mk F sc_parsed_part (fun _ _ _ _ _ _ us hl => match us, hl with | [_], _ => rfl) (fun vs H Q E h => by obtain ⟨p, t, rfl, _⟩ := h; rfl) (fun f cdv A outer s H vs Q E' hr h => ?_)
  obtain ⟨p, t, rfl, i0, hz, hw, q⟩ := h
  refine ⟨_, (pss_cons (ps_asg (pe_partU (pv 0) pe_str) (pg_tup rfl (pgs_cons (pg_name (i := 1) sc_parsed_part.nd rfl (Or.inl rfl)) (pgs_cons (pg_name (i := 2) sc_parsed_part.nd rfl (Or.inl rfl)) (pgs_cons (pg_name (i := 3) sc_parsed_part.nd rfl (Or.inl rfl)) pgs_nil)))))
      (pss_one (ps_ret (pe_tup (pa_cons (pv 1) (pa_cons (pe_callTy call_int_str (by rfl) (E.fr (x := "int") (by decide +kernel)) (by decide +kernel) (pa_cons (pv 3) pa_nil)) pa_nil)))))), ?_⟩
  obtain ⟨l1, l2⟩ := part_lens t
  obtain ⟨h1, h2, h3⟩ := isDec_dig (Bool.and_eq_true_iff.mp hw).2
  refine q_tup3 (x := .str (pLab t)) (y := .str (pDot t)) (z := .str (pNum t)) i0 (x_part (e_vx rfl) e_cx hz rfl) fun H1 i1 g1 => ?_
  refine s_ret i1 (l_tup (Y := Pd) (es := [.str (pLab t), .int ((valS (pNum t) : Nat) : Int)]) (la_cons (Ev.imp (A := sx (.str (pLab t))) (e_vx rfl) fun v H2 e => by rw [show v = _ from e]; exact .str _ (by omega)) (la_cons (Ev.imp (A := sx (.int ((valS (pNum t) : Nat) : Int))) (x_intS (e_vx rfl) (int_val h1 (by omega)) (by omega)) fun v H2 e => by rw [show v = _ from e]; exact .int _) la_nil)) (Nat.le_of_ble_eq_true rfl)) fun v H2 i2 g2 hv => q v H2 i2 (g1.trans g2) (stP_dat (Nat.le_of_ble_eq_true rfl) hv)
end
end K21
namespace K21
open PySem PySem.Spec PyProof.Rows L2 Hk
section
variable {p : Vo} {σ : L2.St} {H : Hp} {K : PySem.W.Frag} {te ta tb : TE} {tr : TA} {D : Ends} {u : TS}
theorem q_star {w : V} {ws : List V} {i j : Nat} (iv : Iv p H) (h : Ev p te σ H (slx (w :: ws))) (hz : ws.length ≤ 16000) (kk : ∀ b H1, Iv p H1 → Gr p H H1 → Nv p b → H1 b = some (.lst ws) → u D ((σ.set i (some w)).set j (some (.ref b))) H1) : tSeq (tAsg te (gStar K (gName i) (gName j))) u D σ H :=
  h H iv (Gr.refl H) _ fun v H1 i1 g1 ⟨a, vs, e, na, ha, ew⟩ => ⟨a, w, ws, e, SqL.of (by rw [ha, ew]), hz, fun b hb => kk b _ (i1.new hb) (g1.trans (Gr.new hb)) (i1.ne hb) upd_same⟩
theorem k_truL {a : Addr} {xs : List V} (ha : Ev p ta σ H (sx (.ref a))) (h : ∀ H1, Gr p H H1 → SqL K H1 a xs) : Tis p (fun σ H Q => ta σ H fun x H' => ∃ k, TruV K x H' k ∧ Q k H') σ H (!xs.isEmpty) := fun H1 i g Q q =>
  ha H1 i g _ fun v H2 i2 g2 e => by
    rw [show v = .ref a from e]
    exact ⟨_, .inl ⟨xs, h H2 (g.trans g2), rfl⟩, q _ H2 i2 g2 rfl⟩
end
def wordsOf (t : Str) : List Str := Txt.split t " "
theorem spl_ne (S : List Nat) : ∀ (l acc : List Nat) (k : Nat), TL.spl S k acc l ≠ []
  | [], acc, k => by rw [TL.spl_nil]; exact List.cons_ne_nil _ _
  | c :: r, acc, 0 => by
    show (if TL.pre S (c :: r) = true then _ else _) ≠ []
    split
    · exact List.cons_ne_nil _ _
    · exact spl_ne S r _ 0
  | _ :: r, acc, k + 1 => spl_ne S r acc k
theorem words_ne (t : Str) : wordsOf t ≠ [] := fun e => by
  have h := TL.split_spl t " " (by decide +kernel) (TL.kind_ok (by decide +kernel))
  rw [show Txt.split t " " = wordsOf t from rfl, e] at h
  exact spl_ne _ _ _ _ h.symm
theorem words_len (t : Str) : (wordsOf t).length ≤ t.length + 2 := split_le t " "
theorem join_mem {y : Str} : ∀ {ws : List Str} {w : Str}, w ∈ ws → w.length ≤ (Str.join y ws).length
  | [], _, h => nomatch h
  | [x], w, h => by rw [List.mem_singleton.mp h]; exact Nat.le_refl _
  | x :: z :: r, w, h => by
    show w.length ≤ (x ++ y ++ Str.join y (z :: r)).length
    rw [Str.length_append, Str.length_append]
    rcases List.mem_cons.mp h with e | e
    · rw [e]; omega
    · have := join_mem (y := y) e
      omega
theorem word_len {t w : Str} (h : w ∈ wordsOf t) : w.length ≤ t.length := by
  have := join_mem (y := " ") h
  rw [show Str.join " " (wordsOf t) = t from PySem.StrLaws.join_split t " "] at this
  exact this
def epD (w : Str) : D := .int ((valS w : Nat) : Int)
def parseW : List Str → Option D
  | [] => none
  | e :: ps => if (!ps.isEmpty && (isDec e 10 && ps.all wOk)) && idxD (.tup (epD e :: ps.map parD)) then some (.tup (epD e :: ps.map parD)) else none
theorem parseW_c (e : Str) (ps : List Str) : parseW (e :: ps) = if (!ps.isEmpty && (isDec e 10 && ps.all wOk)) && idxD (.tup (epD e :: ps.map parD)) then some (.tup (epD e :: ps.map parD)) else none := rfl
def parseV : D → Option D
  | .str t => parseW (wordsOf t)
  | _ => none
/-- what an error brings along, where more may change -/
def Rp' (p : Vo) (C : Addr) (v : V) (H : Hp) (E : XK) : Prop := ∀ H' d, Iv p H' → Gr p H H' → H' d = none → E (.ref C) (some d) (upd H' d (.xd [(("value" : Str), v)]))
def spParse (C : Addr) : Sp := fun vs H Q E => ∃ (p : Vo) (v : V) (d : D), vs = [v] ∧ Iv p H ∧ Dat p H v d ∧ (∀ t, d = .str t → t.length ≤ 15000) ∧ (∀ r, parseV d = some r → ∀ w H', Iv p H' → Gr p H H' → Dat p H' w r → Q w H') ∧ (parseV d = none → Rp' p C v H E)
section
variable {P : Program} {w : World} {K : PySem.W.Frag} {mg : Str → Option Value} {base : Heap} {C fI : Addr}
theorem s_raiseI {p : Vo} {σ : L2.St} {H : Hp} {D : Ends} {te : TE} {v : V} {W : WX} (iv : Iv p H) (h : Ev p te σ H (sx v)) (k : ∀ H1 d, Iv p H1 → Gr p H H1 → H1 d = none → W (.ref C) (some d) σ (upd H1 d (.xd [(("value" : Str), v)]))) : tRaiseE C W (tCons te tNil) D σ H :=
  h H iv (Gr.refl H) _ fun w H1 i1 g1 e => ⟨w, rfl, fun d hd => by
    rw [show w = v from e]
    exact k H1 d i1 g1 hd⟩
theorem ok_parse_index (E : En K mg) (R : Er P K mg C fI) (F : Df K mg "parse_index" s_parse_index) (c_is_index : Ca P w K mg base 5 "is_index" (spD1 idxD)) (c_is_decimal : Ca P w K mg base 2 "is_decimal" spDec) (c_is_part_text : Ca P w K mg base 4 "is_part_text" spPT) (c_parsed_part : Ca P w K mg base 1 "parsed_part" spPP) : CaK (L2.CX P w) P w K mg base 7 "parse_index" "text" (spParse C) := by
  refine cax_mk F sc_parse_index (fun _ _ _ _ _ _ us hl => match us, hl with | [_], _ => rfl) (fun _ _ _ _ _ _ _ => rfl) (fun vs H Q E h => by obtain ⟨p, v, d, rfl, _⟩ := h; rfl) (fun f cdv A outer s H vs Q E' hr h => ?_)
  obtain ⟨p, v, d, rfl, i0, hd, hz, q, qr⟩ := h
  refine ⟨_, (pss_cons (ps_if (pt_not (pt_val (pe_callB (isiU (K := K) rfl) (by rfl) (E.fr (x := "isinstance") (by decide +kernel)) (by decide +kernel) (pa_cons (pv 0) (pa_cons (pe_bltn (by rfl) (E.fr (x := "str") (by decide +kernel)) (by decide +kernel) (show RelV (.ty "str") (.type "str") from rfl)) pa_nil))))) (pss_one (ps_raiseE (k := 6) rfl R.T R.hs R.top (hr.mono (by first | decide | omega)) (takes_of rfl rfl rfl rfl) (pa_cons (pv 0) pa_nil) (by rfl) R.m)) pss_nil)
      (pss_cons (ps_set (i := 1) sc_parse_index.nd rfl (Or.inl rfl) (pe_splitU (pv 0) pe_str))
      (pss_cons (ps_asg (pv 1) (pg_starU (K := K) rfl rfl (pg_name (i := 2) sc_parse_index.nd rfl (Or.inl rfl)) (pg_name (i := 3) sc_parse_index.nd rfl (Or.inl rfl))))
      (pss_cons (ps_if (PW.pt (pw_or (pt_not (pt_truth (pv 3) (by intro _; rfl))) (pw_or (pt_not (pt_val (pe_ca c_is_decimal (hr.mono (by first | decide | omega)) (by rfl) (pa_cons (pv 2) (pa_cons (pe_gc (by rfl) E.c_epoch_digits) pa_nil))))) (pw_or1 (pt_not (pt_val (pe_callB (allU (K := K) rfl rfl) (by rfl) (E.fr (x := "all") (by decide +kernel)) (by decide +kernel) (pa_cons (pe_lc (own := [("part", 5)]) (g := (gName 5)) (tt := tYes) rfl sc_parse_index.nd (pi_list (pv 3)) (blkOk_by (own := [("part", 5)]) (N := ["text", "words", "epoch", "parts", "index", "part"]) (sc := defScope s_parse_index) (by decide +kernel)) (fun _ _ _ _ _ => (pg_name (i := 5) sc_parse_index.nd rfl (Or.inl rfl))) (fun _ _ _ _ _ => pts_nil) (fun _ _ _ _ _ => (pe_ca c_is_part_text (hr.mono (by first | decide | omega)) (by rfl) (pa_cons (pv 5) pa_nil)))) pa_nil)))))))) (pss_one (ps_raiseE (k := 6) rfl R.T R.hs R.top (hr.mono (by first | decide | omega)) (takes_of rfl rfl rfl rfl) (pa_cons (pv 0) pa_nil) (by rfl) R.m)) pss_nil)
      (pss_cons (ps_set (i := 4) sc_parse_index.nd rfl (Or.inl rfl) (pe_tup (pa_cons (pe_callTy call_int_str (by rfl) (E.fr (x := "int") (by decide +kernel)) (by decide +kernel) (pa_cons (pv 2) pa_nil)) (StX.pa_star (pe_lc (own := [("part", 5)]) (g := (gName 5)) (tt := tYes) rfl sc_parse_index.nd (pi_list (pv 3)) (blkOk_by (own := [("part", 5)]) (N := ["text", "words", "epoch", "parts", "index", "part"]) (sc := defScope s_parse_index) (by decide +kernel)) (fun _ _ _ _ _ => (pg_name (i := 5) sc_parse_index.nd rfl (Or.inl rfl))) (fun _ _ _ _ _ => pts_nil) (fun _ _ _ _ _ => (pe_ca c_parsed_part (hr.mono (by first | decide | omega)) (by rfl) (pa_cons (pv 5) pa_nil)))) pa_nil))))
      (pss_cons (ps_if (pt_not (pt_val (pe_ca c_is_index (hr.mono (by first | decide | omega)) (by rfl) (pa_cons (pv 4) pa_nil)))) (pss_one (ps_raiseE (k := 6) rfl R.T R.hs R.top (hr.mono (by first | decide | omega)) (takes_of rfl rfl rfl rfl) (pa_cons (pv 0) pa_nil) (by rfl) R.m)) pss_nil)
      (pss_one (ps_ret (pv 4))))))))), ?_⟩
  refine q_if (p := p) (B := fun b => b = !(d.isS)) i0 (k_not (k_b (x_isiD (e_vx rfl) hd (kit_s d)))) (fun e H1 i1 g1 => ?_) fun e H1 i1 g1 => ?_
  · refine s_raiseI (p := p) (v := v) i1 (e_vx rfl) fun H2 d2 i2 g2 h2 => qr ?_ H2 d2 i2 (g1.trans g2) h2
    cases d <;> first | rfl | cases e
  · have hS : d.isS = true := by cases hh : d.isS <;> rw [hh] at e <;> first | rfl | cases e
    obtain ⟨t, rfl, rfl, hz0⟩ := dat_str hd hS
    have ht := hz t rfl
    refine q_asg (A := slx ((wordsOf t).map V.str)) i1 (x_split (e_vx rfl) e_cx hz0 rfl) fun v2 H2 i2 g2 hv2 => ?_
    obtain ⟨e0, ps, hw⟩ := List.exists_cons_of_ne_nil (words_ne t)
    rw [hw] at hv2
    have hps : ps.length ≤ 15001 := by have := words_len t; rw [hw, List.length_cons] at this; omega
    have hl0 : e0.length ≤ 15000 := Nat.le_trans (word_len (by rw [hw]; exact List.mem_cons_self)) ht
    have hlp : ∀ w ∈ ps, w.length ≤ 15000 := fun w hm => Nat.le_trans (word_len (t := t) (by rw [hw]; exact List.mem_cons_of_mem _ hm)) ht
    have g12 := g1.trans g2
    refine q_star (w := .str e0) (ws := ps.map V.str) i2 (e_var (A := slx (V.str e0 :: ps.map V.str)) rfl hv2) (by rw [List.length_map]; omega) fun b H3 i3 g3 nb hb => ?_
    have g13 := g12.trans g3
    have seqb : ∀ {H4}, Gr p H3 H4 → H4 b = some (.lst (ps.map V.str)) := fun g => g b _ nb hb
    refine q_if (p := p) (B := fun c => c = !(!ps.isEmpty && (isDec e0 10 && ps.all wOk))) i3 ?_ (fun e H4 i4 g4 => ?_) fun e H4 i4 g4 => ?_
    · refine k_to (k_or (k_not (k_truL (xs := ps.map V.str) (e_vx rfl) fun H4 g4 => SqL.of (seqb g4))) fun _ => k_or (k_not (k_b (x_call (a_cons (e_vx rfl) (a_cons e_cx a_nil)) fun H4 g4 => pu_dec (m := 10) (by omega)))) fun _ => k_not (k_b (x_all (bs := ps.map wOk) (lcLx (xs := ps.map V.str) (B := sx (.ref b)) (e_vx rfl) (fun v H4 g4 e => ⟨b, e, nb, seqb g4⟩) (by rw [List.length_map]; omega) (by rw [List.length_map, List.length_map, List.length_map]) (fun _ => rfl) fun i x y D o H4 g4 hD hx hy => ?_)))) ?_
      · rw [List.getElem?_map] at hx
        rw [List.getElem?_map, List.getElem?_map] at hy
        cases hi : ps[i]? with
        | none => rw [hi] at hx; cases hx
        | some w0 =>
          rw [hi] at hx hy
          have ex : V.str w0 = x := Option.some.inj hx
          have ey : V.bl (wOk w0) = y := Option.some.inj hy
          rw [← ex, ← ey]
          have := hlp w0 (List.mem_of_getElem? hi)
          exact x_call (a_cons (e_vx rfl) a_nil) fun H5 g5 Q' E'' k' => ⟨w0, rfl, by omega, k'⟩
      · rw [List.isEmpty_map, List.all_map]
        show (!(!ps.isEmpty) || (!(isDec e0 10) || !(ps.all wOk))) = _
        cases ps.isEmpty <;> cases isDec e0 10 <;> cases ps.all wOk <;> rfl
    · refine s_raiseI (p := p) (v := .str t) i4 (e_vx rfl) fun H5 d5 i5 g5 h5 => qr ?_ H5 d5 i5 ((g13.trans g4).trans g5) h5
      have hc : (!ps.isEmpty && (isDec e0 10 && ps.all wOk)) = false := by cases hh : (!ps.isEmpty && (isDec e0 10 && ps.all wOk)) <;> rw [hh] at e <;> first | rfl | cases e
      show parseW (wordsOf t) = none
      rw [hw, parseW_c, hc]
      rfl
    · have hc : (!ps.isEmpty && (isDec e0 10 && ps.all wOk)) = true := by cases hh : (!ps.isEmpty && (isDec e0 10 && ps.all wOk)) <;> rw [hh] at e <;> first | rfl | cases e
      obtain ⟨c1, c23⟩ := Bool.and_eq_true_iff.mp hc
      obtain ⟨c2, c3⟩ := Bool.and_eq_true_iff.mp c23
      obtain ⟨f1, f2, f3⟩ := isDec_dig c2
      have g14 := g13.trans g4
      refine q_asg (A := stP p Pd (epD e0 :: (ps.map parD ++ []))) i4 (l_tup (la_cons (Ev.imp (A := sx (.int ((valS e0 : Nat) : Int))) (x_intS (e_vx rfl) (int_val f1 (by omega)) (by omega)) fun v H5 e => by rw [show v = _ from e]; exact .int _) (la_star (lcL_pt (Y := Px) (fs := ps.map V.str) (τ := fun x _ => [some (.str t), some v2, some (.str e0), some (.ref b), none, some x]) (e_var (A := slP p Px (ps.map V.str)) rfl (px_slx ⟨b, _, rfl, nb, seqb g4, rfl⟩)) (by rw [List.length_map, List.length_map]) (by rw [List.length_map]; omega) (fun x f => rfl) (fun i x f H' R' hf hx hR => hR) fun i x f D l H5 hf g5 hD hx => ?_) la_nil)) (by rw [List.length_cons, List.length_append, List.length_map]; show ps.length + 0 + 1 ≤ _; omega)) fun v6 H6 i6 g6 hv6 => ?_
      · rw [List.getElem?_map] at hf
        cases hi : ps[i]? with
        | none => rw [hi] at hf; cases hf
        | some w0 =>
          rw [hi] at hf
          have ef : V.str w0 = f := Option.some.inj hf
          have ex : x = V.str w0 := (show x = f from hx).trans ef.symm
          have hm := List.mem_of_getElem? hi
          have := hlp w0 hm
          rw [List.getElem?_map, hi]
          refine e_call (a_cons (e_vx rfl) a_nil) fun vs H6 iv g6 os Q' q' => ?_
          obtain ⟨y, us, rfl, ey, rfl⟩ := os
          refine ⟨_, w0, by rw [show y = x from ey, ex], iv, by omega, List.all_eq_true.mp c3 w0 hm, fun v H7 i7 g7 h7 => q' v H7 i7 g7 fun z ez => ?_⟩
          rw [← Option.some.inj ez]
          exact h7
      · rw [List.append_nil] at hv6
        have hd6 : Dat p H6 v6 (.tup (epD e0 :: ps.map parD)) := stP_dat (by rw [List.length_cons, List.length_map]; omega) hv6
        have g16 := g14.trans g6
        have hpw : parseW (wordsOf t) = if idxD (.tup (epD e0 :: ps.map parD)) then some (.tup (epD e0 :: ps.map parD)) else none := by
          rw [hw, parseW_c, hc]
          rfl
        refine q_if (p := p) (B := fun c => c = !(idxD (.tup (epD e0 :: ps.map parD)))) i6 (k_not (k_b (x_call (a_cons (e_vx rfl) a_nil) fun H7 g7 => pu_D1 (hd6.gr g7).non'))) (fun e H7 i7 g7 => ?_) fun e H7 i7 g7 => ?_
        · have hx : idxD (.tup (epD e0 :: ps.map parD)) = false := by cases hh : idxD (.tup (epD e0 :: ps.map parD)) <;> rw [hh] at e <;> first | rfl | cases e
          refine s_raiseI (p := p) (v := .str t) i7 (e_vx rfl) fun H8 d8 i8 g8 h8 => qr ?_ H8 d8 i8 ((g16.trans g7).trans g8) h8
          show parseW (wordsOf t) = none
          rw [hpw, hx]
          rfl
        · have hx : idxD (.tup (epD e0 :: ps.map parD)) = true := by cases hh : idxD (.tup (epD e0 :: ps.map parD)) <;> rw [hh] at e <;> first | rfl | cases e
          refine s_retx i7 (e_vx rfl) fun H8 i8 g8 => q _ ?_ v6 H8 i8 ((g16.trans g7).trans g8) (hd6.gr (g7.trans g8))
          show parseW (wordsOf t) = _
          rw [hpw, hx]
          rfl
end
end K21
namespace K21
open PySem PySem.Spec PyProof.Rows L2 Hk
section
variable {P : Program} {w : World} {K : PySem.W.Frag} {mg : Str → Option Value} {base : Heap}
theorem x_int1 {p : Vo} {σ : L2.St} {H : Hp} {ta : TE} {c : Int → Prop} (ha : Ev p ta σ H (si c)) : Ev p (tCB (fun xs H Q => (∃ i, xs = [.int i] ∧ Q (.int i) H) ∨ ∃ k : Bool, xs = [.bl k] ∧ Q (.int (if k then 1 else 0)) H) (tCons ta tNil)) σ H (si c) := e_cb (a_cons ha a_nil) fun vs H1 iv g os => by
  obtain ⟨v, ws, rfl, ⟨i, rfl, hi⟩, rfl⟩ := os
  exact rv iv ⟨i, rfl, hi⟩ fun Q q => .inl ⟨i, rfl, q⟩
theorem e_i2 {p : Vo} {σ : L2.St} {H : Hp} {ta tb : TE} {c d e : Int → Prop} {r : R2} (ha : Ev p ta σ H (si c)) (hb : Ev p tb σ H (si d)) (hr : ∀ i j H1, Iv p H1 → c i → d j → Rv p (r (.int i) (.int j)) H1 (si e)) : Ev p (tOp r ta tb) σ H (si e) :=
  e_op ha hb fun x y H1 iv g ⟨i, ei, hi⟩ ⟨j, ej, hj⟩ => by rw [ei, ej]; exact hr i j H1 iv hi hj
theorem r_mul {p : Vo} {i j : Int} {H1 : Hp} {e : Int → Prop} (iv : Iv p H1) (hc : CMul i j) (he : e (i * j)) : Rv p (rMulU (.int i) (.int j)) H1 (si e) := rv iv ⟨_, rfl, he⟩ fun Q q => .inl ⟨i, j, rfl, rfl, hc, q⟩
theorem r_add {p : Vo} {i j : Int} {H1 : Hp} {e : Int → Prop} (iv : Iv p H1) (he : e (i + j)) : Rv p (rAddU (.int i) (.int j)) H1 (si e) := rv iv ⟨_, rfl, he⟩ fun Q q => .inl ⟨i, j, rfl, rfl, q⟩
theorem r_ic {p : Vo} {c : Int → Int → Prop} {g : Int → Int → Int} {i j : Int} {H1 : Hp} {e : Int → Prop} (iv : Iv p H1) (hc : c i j) (he : e (g i j)) : Rv p (rI c (fun i j => .int (g i j)) (.int i) (.int j)) H1 (si e) := rv iv ⟨_, rfl, he⟩ fun Q q => ⟨i, j, rfl, rfl, hc, q⟩
theorem r_i0 {p : Vo} {g : Int → Int → Int} {i j : Int} {H1 : Hp} {e : Int → Prop} (iv : Iv p H1) (he : e (g i j)) : Rv p (rI0 (fun i j => .int (g i j)) (.int i) (.int j)) H1 (si e) := rv iv ⟨_, rfl, he⟩ fun Q q => ⟨i, j, rfl, rfl, q⟩
theorem e_ci {p : Vo} {σ : L2.St} {H : Hp} {i : Int} {c : Int → Prop} (h : c i) : Ev p (tC (.int i)) σ H (si c) := e_c ⟨i, rfl, h⟩
/-- % by a written positive number -/
theorem e_mod {p : Vo} {σ : L2.St} {H : Hp} {ta tb : TE} {m : Int} {c : Int → Prop} (ha : Ev p ta σ H (si c)) (hb : Ev p tb σ H (sx (.int m))) (h0 : 0 < m) : Ev p (tOp (rI (fun _ j => 0 < j) fun i j => .int (i % j)) ta tb) σ H (si fun i => 0 ≤ i ∧ i < m) :=
  e_i2 (d := fun j => j = m) ha (hb.imp fun v _ e => ⟨m, e, rfl⟩) fun i j H1 iv _ ej => by
    subst ej
    exact r_ic (g := fun i j => i % j) iv h0 ⟨Int.emod_nonneg _ (by omega), Int.emod_lt_of_pos _ h0⟩
theorem mul_small {i j : Int} (h0 : 0 ≤ i) (h1 : i < 2147483648) : CMul i j := .inl ⟨by omega, by omega⟩
theorem ok_draw (E : En K mg) (F : Df K mg "_law_draw" s__law_draw) : Ca P w K mg base 1 "_law_draw" spDraw := by
  refine ca_mk F sc__law_draw (fun _ _ _ _ _ _ us hl => match us, hl with | [_, _], _ => rfl) (fun vs H Q E h => by obtain ⟨p, a, _, _, ⟨n, rfl, _⟩, _⟩ := h; rfl) (fun f cdv A outer s H vs Q E' hr h => ?_)
  obtain ⟨p, a, hp, iv, ⟨n, rfl, n0, n1⟩, q⟩ := h
  obtain ⟨⟨x, y, hxy, x0, y0, y1⟩, hex⟩ := iv.pot a hp
  refine ⟨_, (pss_cons (ps_if (pt_cmpR op_gt (pe_ix (ixU (K := K) rfl) (pv 0) pe_int (fun _ _ => rfl)) pe_int (nomark _)) (pss_cons (ps_asg (pe_callB call_divmodS (by rfl) (E.fr (x := "divmod") (by decide +kernel)) (by decide +kernel) (pa_cons (pe_ix (ixU (K := K) rfl) (pv 0) pe_int (fun _ _ => rfl)) (pa_cons (pv 1) pa_nil))) (pg_tup rfl (pgs_cons (pg_sub (pv 0) pe_int set_list) (pgs_cons (pg_name (i := 2) sc__law_draw.nd rfl (Or.inl rfl)) pgs_nil))))
      (pss_one (ps_ret (pv 2)))) pss_nil)
      (pss_cons (ps_asg (pe_op op_mod (pe_callTy call_int1 (by rfl) (E.fr (x := "int") (by decide +kernel)) (by decide +kernel) (pa_cons (pe_op op_addU (pe_op op_mulU (pe_ix (ixU (K := K) rfl) (pv 0) pe_int (fun _ _ => rfl)) pe_int) pe_int) pa_nil)) pe_int) (pg_sub (pv 0) pe_int set_list))
      (pss_one (ps_ret (pe_op op_mod (pe_callTy call_int1 (by rfl) (E.fr (x := "int") (by decide +kernel)) (by decide +kernel) (pa_cons (pe_op op_fdiv (pe_op op_mod (pe_callTy call_int1 (by rfl) (E.fr (x := "int") (by decide +kernel)) (by decide +kernel) (pa_cons (pe_op op_mulU (pe_ix (ixU (K := K) rfl) (pv 0) pe_int (fun _ _ => rfl)) (pe_ix (ixU (K := K) rfl) (pv 0) pe_int (fun _ _ => rfl))) pa_nil)) pe_int) pe_int) pa_nil)) (pv 1)))))), ?_⟩
  have isq : ∀ {H0}, Gr Vo.non H H0 → ∀ v H1, Gr Vo.non H0 H1 → (sx (p := Vo.non) (.ref a)).P v H1 → ∃ a, v = .ref a ∧ (SqL K H1 a [.int x, .int y] ∨ SqT K H1 a [.int x, .int y]) := fun g0 v H1 g e => ⟨a, e, .inl (SqL.of ((g0.trans g) a _ (nv_non a) hxy))⟩
  -- behind all: the pot holds x', y'
  have fin : ∀ {H1 : Hp} (x' y' r : Int), Gr Vo.non H H1 → 0 ≤ x' → 0 ≤ y' → y' < 2147483648 → 0 ≤ r → r < n → ∀ {H2 : Hp}, Gr Vo.non (upd H1 a (.lst [.int x', .int y'])) H2 → Q (.int r) H2 := fun {H1} x' y' r g1 hx hy hy' h0 h1 {H2} g2 => by
    have po : Pot (upd H1 a (.lst [.int x', .int y'])) a := ⟨x', y', upd_same, hx, hy, hy'⟩
    have ga : Gr (Vo.of a) H (upd H1 a (.lst [.int x', .int y'])) := fun b o nb hb => by
      rw [upd_ne (show b ≠ a from fun e => nb.1 (by rw [e]; rfl))]
      exact g1 b o (nv_non b) hb
    exact q _ H2 ((iv.drawn hp po ga).grow g2) ((Gr.drawn hp ga).trans g2.pure) ⟨r, rfl, n, rfl, h0, h1⟩
  refine q_if (p := Vo.non) (B := fun b => b = decide ((0 : Int) < x)) (Iv.non H) (k_test (x_ii (i := x) (j := 0) (x_ixQ (xs := [.int x, .int y]) (e_vx rfl) (isq (Gr.refl H)) e_cx (atI_nat (j := 0) rfl)) e_cx)) (fun _ H1 i1 g1 => ?_) fun _ H1 i1 g1 => ?_
  · have hd : Ev Vo.non (tCB rDm (tCons (tOp (rIx K) (tVar 0) (tC (.int 0))) (tCons (tVar 1) tNil))) [some (.ref a), some (.int n), none] H1 (stx [.int (x / n), .int (x % n)]) := e_cb (a_cons (x_ixQ (xs := [.int x, .int y]) (e_vx rfl) (isq g1) e_cx (atI_nat (j := 0) rfl)) (a_cons (e_vx rfl) a_nil)) fun vs H2 iv2 g2 os => by
      obtain ⟨v, ws, rfl, e1, v2, ws2, rfl, e2, rfl⟩ := os
      exact rv_new iv2 (fun b nb hb i' g' => ⟨b, _, rfl, nb, upd_same, rfl⟩) fun Q q => ⟨x, n, by rw [show v = _ from e1, show v2 = _ from e2], ⟨n0, n1⟩, q⟩
    refine hd H1 i1 (Gr.refl H1) _ fun v H2 _ g2 hv => ?_
    obtain ⟨b, ws, rfl, _, hb, rfl⟩ := hv
    have g12 := g1.trans g2
    refine ⟨b, _, rfl, SqT.of hb, rfl, .int (x / n), [.int (x % n)], rfl, .ref a, rfl, a, [.int x, .int y], 0, 0, rfl, rfl, g12 a _ (nv_non a) hxy, rfl, .int (x % n), [], rfl, rfl, ?_⟩
    refine ⟨.int (x % n), rfl, ?_⟩
    exact fin (x / n) y (x % n) g12 (Int.ediv_nonneg x0 (by omega)) y0 y1 (Int.emod_nonneg _ (by omega)) (Int.emod_lt_of_pos _ n0) (Gr.refl _)
  · have h1 : Ev Vo.non (tOp (rI (fun _ j => 0 < j) fun i j => .int (i % j)) (tCB (fun xs H Q => (∃ i, xs = [.int i] ∧ Q (.int i) H) ∨ ∃ k : Bool, xs = [.bl k] ∧ Q (.int (if k then 1 else 0)) H) (tCons (tOp rAddU (tOp rMulU (tOp (rIx K) (tVar 0) (tC (.int 1))) (tC (.int 48271))) (tC (.int 30011))) tNil)) (tC (.int 2147483647))) [some (.ref a), some (.int n), none] H1 (si fun i => 0 ≤ i ∧ i < 2147483647) :=
      e_mod (c := fun _ => True) (x_int1 (e_i2 (c := fun _ => True) (d := fun _ => True) (e_i2 (c := fun i => i = y) (d := fun _ => True) ((x_ixQ (xs := [.int x, .int y]) (e_vx rfl) (isq g1) e_cx (atI_nat (j := 1) rfl)).imp fun v _ e => ⟨y, e, rfl⟩) (e_ci trivial) fun i j H2 iv ei _ => r_mul iv (mul_small (by rw [ei]; exact y0) (by rw [ei]; exact y1)) trivial) (e_ci trivial) fun i j H2 iv _ _ => r_add iv trivial)) e_cx (by decide)
    refine h1 H1 i1 (Gr.refl H1) _ fun v H2 _ g2 hv => ?_
    obtain ⟨y', rfl, z0, z1⟩ := hv
    have g12 := g1.trans g2
    refine ⟨.ref a, rfl, a, [.int x, .int y], 1, 1, rfl, rfl, g12 a _ (nv_non a) hxy, rfl, ?_⟩
    have isq2 : ∀ v H3, Gr Vo.non (upd H2 a (.lst [.int x, .int y'])) H3 → (sx (p := Vo.non) (.ref a)).P v H3 → ∃ a, v = .ref a ∧ (SqL K H3 a [.int x, .int y'] ∨ SqT K H3 a [.int x, .int y']) := fun v H3 g e => ⟨a, e, .inl (SqL.of (g a _ (nv_non a) upd_same))⟩
    have rd : ∀ {σ : L2.St}, σ[0]? = some (some (.ref a)) → Ev Vo.non (tOp (rIx K) (tVar 0) (tC (.int 1))) σ (upd H2 a (.lst [.int x, .int y'])) (si fun i => i = y') := fun hσ => (x_ixQ (xs := [.int x, .int y']) (e_vx hσ) isq2 e_cx (atI_nat (j := 1) rfl)).imp fun v _ e => ⟨y', e, rfl⟩
    refine s_ret (p := Vo.non) (A := si fun i => 0 ≤ i ∧ i < n) (Iv.non _) (e_mod (c := fun _ => True) (x_int1 (e_i2 (c := fun i => 0 ≤ i ∧ i < 2147483629) (d := fun j => j = 11) (e_mod (c := fun _ => True) (x_int1 (e_i2 (rd rfl) (rd rfl) fun i j H3 iv ei ej => r_mul iv (mul_small (by rw [ei]; exact z0) (by rw [ei]; omega)) trivial)) e_cx (by decide)) (e_ci rfl) fun i j H3 iv ei ej => r_ic (g := fun i j => i / j) iv (by rw [ej]; exact ⟨by decide, by decide⟩) trivial)) (e_vx rfl) n0) fun v H3 _ g3 hv => ?_
    obtain ⟨r, rfl, r0, r1⟩ := hv
    exact fin x y' r g12 x0 z0 (by omega) r0 r1 g3
end
end K21
namespace K21
open PySem PySem.Spec PyProof.Rows L2 Hk
def spPot (K : PySem.W.Frag) : Sp := fun vs H Q _ => ∃ (p : Vo) (sc : Addr) (ns : List Int) (k : Int), vs = [.ref sc, .int k] ∧ Iv p H ∧ (∀ H', Gr p H H' → SqL K H' sc (ns.map V.int)) ∧ 0 ≤ k ∧ k ≤ 1000 ∧ ∀ b H', Iv p H' → Gr p H H' → H b = none → Pot H' b → Q (.ref b) H'
section
variable {P : Program} {w : World} {K : PySem.W.Frag} {mg : Str → Option Value} {base : Heap}
theorem x_abs {p : Vo} {σ : L2.St} {H : Hp} {ta : TE} {c : Int → Prop} {e : Int → Prop} (ha : Ev p ta σ H (si c)) (he : ∀ i, c i → e (if i < 0 then -i else i)) : Ev p (tCB (fun xs H Q => ∃ i, xs = [.int i] ∧ Q (.int (if i < 0 then -i else i)) H) (tCons ta tNil)) σ H (si e) := e_cb (a_cons ha a_nil) fun vs H1 iv g os => by
  obtain ⟨v, ws, rfl, ⟨i, rfl, hi⟩, rfl⟩ := os
  exact rv iv ⟨_, rfl, he i hi⟩ fun Q q => ⟨i, rfl, q⟩
theorem x_max {p : Vo} {σ : L2.St} {H : Hp} {ta tb : TE} {c d e : Int → Prop} (ha : Ev p ta σ H (si c)) (hb : Ev p tb σ H (si d)) (he : ∀ i j, c i → d j → e (if j > i then j else i)) : Ev p (tCB (fun xs H Q => ∃ i j, xs = [.int i, .int j] ∧ Q (.int (if j > i then j else i)) H) (tCons ta (tCons tb tNil))) σ H (si e) := e_cb (a_cons ha (a_cons hb a_nil)) fun vs H1 iv g os => by
  obtain ⟨v, ws, rfl, ⟨i, rfl, hi⟩, v2, ws2, rfl, ⟨j, rfl, hj⟩, rfl⟩ := os
  exact rv iv ⟨_, rfl, he i j hi hj⟩ fun Q q => ⟨i, j, rfl, q⟩
theorem pw18 : CPw 10 18 := ⟨by decide, by decide +kernel⟩
theorem e_sub {p : Vo} {σ : L2.St} {H : Hp} {ta tb : TE} {c d : Int → Prop} (ha : Ev p ta σ H (si c)) (hb : Ev p tb σ H (si d)) : Ev p (tOp (rI0 fun i j => .int (i - j)) ta tb) σ H (si fun _ => True) := e_i2 ha hb fun i j H1 iv _ _ => r_i0 (g := fun i j => i - j) iv trivial
theorem ok_pot (E : En K mg) (F : Df K mg "_law_pot" s__law_pot) : Ca P w K mg base 1 "_law_pot" (spPot K) := by
  refine ca_mk F sc__law_pot (fun _ _ _ _ _ _ us hl => match us, hl with | [_, _], _ => rfl) (fun vs H Q E h => by obtain ⟨p, sc, ns, k, rfl, _⟩ := h; rfl) (fun f cdv A outer s H vs Q E' hr h => ?_)
  obtain ⟨p, sc, ns, k, rfl, i0, hS, k0, k1, q⟩ := h
  refine ⟨_, (pss_cons (ps_set (i := 2) sc__law_pot.nd rfl (Or.inl rfl) (pe_ifExp (pt_cmpR op_lt (pv 1) (pe_callB (lenU (K := K) rfl) (by rfl) (E.fr (x := "len") (by decide +kernel)) (by decide +kernel) (pa_cons (pv 0) pa_nil)) (nomark _)) (pe_callB call_abs (by rfl) (E.fr (x := "abs") (by decide +kernel)) (by decide +kernel) (pa_cons (pe_ix (ixU (K := K) rfl) (pv 0) (pv 1) (fun _ _ => rfl)) pa_nil)) pe_int))
      (pss_one (ps_ret (pe_lst (pa_cons (pe_callB (call_max2 rfl) (by rfl) (E.fr (x := "max") (by decide +kernel)) (by decide +kernel) (pa_cons pe_int (pa_cons (pe_op op_sub (pv 2) (pe_op op_powW pe_int pe_int)) pa_nil))) (pa_cons (pe_op op_mod (pe_callTy call_int1 (by rfl) (E.fr (x := "int") (by decide +kernel)) (by decide +kernel) (pa_cons (pe_op op_addU (pe_op op_addU (pe_op op_mulU (pe_op op_mod (pe_callTy call_int1 (by rfl) (E.fr (x := "int") (by decide +kernel)) (by decide +kernel) (pa_cons (pv 2) pa_nil)) pe_int) pe_int) (pe_op op_mulU pe_int (pv 1))) pe_int) pa_nil)) pe_int) pa_nil)))))), ?_⟩
  have sq : ∀ {H1}, Gr p H H1 → ∀ v H2, Gr p H1 H2 → (sx (p := p) (.ref sc)).P v H2 → ∃ a, v = .ref a ∧ (SqL K H2 a (ns.map V.int) ∨ SqT K H2 a (ns.map V.int)) := fun {H1} g v H2 g2 e => ⟨sc, e, .inl (hS H2 (g.trans g2))⟩
  refine q_asg (A := si fun i => 0 ≤ i) i0 (e_if (B := fun b => b = decide (k < ((ns.map V.int).length : Int))) (k_test (x_ii (i := k) (j := ((ns.map V.int).length : Int)) (e_vx rfl) (x_lenQ (xs := ns.map V.int) (e_vx rfl) (sq (Gr.refl H))))) (fun b => ?_) fun _ => e_ci (Int.le_refl 0)) fun v H1 i1 g1 hv => ?_
  · have hk : k < ((ns.map V.int).length : Int) := of_decide_eq_true b.symm
    obtain ⟨v, hm, hat⟩ := at_in k0 hk
    obtain ⟨n, _, rfl⟩ := List.mem_map.mp hm
    exact x_abs (c := fun _ => True) ((x_ixQ (xs := ns.map V.int) (e_vx rfl) (sq (Gr.refl H)) (e_vx rfl) hat).imp fun v _ e => ⟨n, e, trivial⟩) fun i _ => by
      show 0 ≤ (if i < 0 then -i else i)
      split <;> omega
  · obtain ⟨c, rfl, hc⟩ := hv
    have e1 : ∀ {σ : L2.St}, σ[2]? = some (some (.int c)) → Ev p (tCB (fun xs H Q => ∃ i j, xs = [.int i, .int j] ∧ Q (.int (if j > i then j else i)) H) (tCons (tC (.int 0)) (tCons (tOp (rI0 fun i j => .int (i - j)) (tVar 2) (tOp rPow (tC (.int 10)) (tC (.int 18)))) tNil))) σ H1 (si fun i => 0 ≤ i) := fun hs =>
      x_max (c := fun i => i = 0) (d := fun _ => True) (e_ci rfl) (e_sub (c := fun _ => True) (d := fun _ => True) (e_sxi (e_vx hs) trivial) (e_i2 (c := fun i => i = 10) (d := fun j => j = 18) (e_ci rfl) (e_ci rfl) fun i j H1 iv ei ej => by rw [ei, ej]; exact r_ic (g := fun i j => i ^ j.toNat) iv pw18 trivial)) fun i j ei _ => by
        show 0 ≤ (if j > i then j else i)
        split <;> omega
    refine s_retN (p := p) (As := [si fun i => 0 ≤ i, si fun i => 0 ≤ i ∧ i < 2147483647]) i1 (a_cons (e1 rfl) (a_cons (e_mod (c := fun _ => True) (x_int1 (e_addI (c := fun _ => True) (d := fun _ => True) (e_addI (c := fun _ => True) (d := fun _ => True) (e_i2 (c := fun i => 0 ≤ i ∧ i < 2147483579) (d := fun j => j = 44021) (e_mod (c := fun _ => True) (x_int1 (e_sxi (e_vx rfl) trivial)) e_cx (by decide)) (e_ci rfl) fun i j H2 iv ei ej => r_mul iv (mul_small ei.1 (by omega)) trivial) (e_i2 (c := fun i => i = 6151) (d := fun j => j = k) (e_ci rfl) (e_sxi (e_vx rfl) rfl) fun i j H2 iv ei ej => r_mul iv (by rw [ei]; exact mul_small (by decide) (by decide)) trivial) fun _ _ _ _ => trivial) (e_ci trivial) fun _ _ _ _ => trivial)) e_cx (by decide)) a_nil)) (Nat.le_of_ble_eq_true rfl) fun vs b H2 i2 g2 hb os => ?_
    obtain ⟨v1, ws1, rfl, ⟨x, rfl, hx⟩, v2, ws2, rfl, ⟨y, rfl, hy⟩, rfl⟩ := os
    have g12 := g1.trans g2
    exact q b _ (i2.new hb) (g12.trans (Gr.new hb)) (g12.free (i2.ne hb) hb) ⟨x, y, upd_same, hx, hy.1, by omega⟩
end
end K21
namespace K21
open PySem PySem.Spec PyProof.Rows L2 Hk
section
variable {p : Vo} {σ : L2.St} {H : Hp} {K : PySem.W.Frag} {te ta tb : TE} {tr : TA} {D : Ends} {u tw : TS} {B : Sy p} {g : TG}
/-- for over a tuple, over a list, over range(n) -/
theorem q_forT (iv : Iv p H) (h : Ev p te σ H B) (k : ∀ v H1, Iv p H1 → Gr p H H1 → B.P v H1 → ∃ a xs, ∃ Pv : Nat → L2.St → Hp → Prop, v = .ref a ∧ Nv p a ∧ H1 a = some (.tup xs) ∧ Pv 0 σ H1 ∧ (∀ i σ' H', Pv i σ' H' → Gr p H1 H') ∧
    (∀ i x σ' H', xs[i]? = some x → Pv i σ' H' → g x σ' H' fun σ2 H2 => tw { D with nx := Pv (i + 1), ct := Pv (i + 1), bk := u D } σ2 H2) ∧ (∀ σ' H', Pv xs.length σ' H' → u D σ' H')) : tSeq (tFor (iTup K te) g tw) u D σ H :=
  h H iv (Gr.refl H) _ fun v H1 i1 g1 hv => by
    obtain ⟨a, xs, Pv, rfl, na, ha, h0, hg, hs, hd⟩ := k v H1 i1 g1 hv
    exact ⟨a, rfl, ⟨xs, SqT.of ha⟩, for_tup (xs := xs) (D := { D with nx := u D }) Pv h0 (fun i σ' H' _ hp => SqT.of (hg i σ' H' hp a _ na ha)) hs hd⟩
theorem q_forL (iv : Iv p H) (h : Ev p te σ H B) (k : ∀ v H1, Iv p H1 → Gr p H H1 → B.P v H1 → ∃ a xs, ∃ Pv : Nat → L2.St → Hp → Prop, v = .ref a ∧ Nv p a ∧ H1 a = some (.lst xs) ∧ Pv 0 σ H1 ∧ (∀ i σ' H', Pv i σ' H' → Gr p H1 H') ∧
    (∀ i x σ' H', xs[i]? = some x → Pv i σ' H' → g x σ' H' fun σ2 H2 => tw { D with nx := Pv (i + 1), ct := Pv (i + 1), bk := u D } σ2 H2) ∧ (∀ σ' H', Pv xs.length σ' H' → u D σ' H')) : tSeq (tFor (iList K te) g tw) u D σ H :=
  h H iv (Gr.refl H) _ fun v H1 i1 g1 hv => by
    obtain ⟨a, xs, Pv, rfl, na, ha, h0, hg, hs, hd⟩ := k v H1 i1 g1 hv
    exact ⟨a, rfl, ⟨xs, SqL.of ha⟩, for_list (xs := xs) (D := { D with nx := u D }) Pv h0 (fun i σ' H' _ hp => SqL.of (hg i σ' H' hp a _ na ha)) hs hd⟩
theorem q_forR {n : Int} (iv : Iv p H) (h : Ev p te σ H (sx (.int n))) (h0 : 0 ≤ n) (h1 : n < 1000000) (Pv : Nat → L2.St → Hp → Prop) (hp : ∀ H1, Iv p H1 → Gr p H H1 → Pv 0 σ H1)
    (hs : ∀ i σ' H', i < n.toNat → Pv i σ' H' → g (.int (0 + (i : Nat))) σ' H' fun σ2 H2 => tw { D with nx := Pv (i + 1), ct := Pv (i + 1), bk := u D } σ2 H2) (hd : ∀ σ' H', Pv n.toNat σ' H' → u D σ' H') : tSeq (tFor (iRng1 (tCons te tNil)) g tw) u D σ H :=
  h H iv (Gr.refl H) _ fun v H1 i1 g1 e => ⟨n, by rw [show v = _ from e], by omega, by omega, for_range (lo := 0) (n := n.toNat) (D := { D with nx := u D }) Pv (hp H1 i1 g1) hs hd⟩
end
section
variable {P : Program} {w : World} {K : PySem.W.Frag} {mg : Str → Option Value} {base : Heap}
def spRes : Sp := fun vs H Q _ => ∃ p : Vo, vs = [] ∧ Iv p H ∧ ∀ v H', Iv p H' → Gr p H H' → (slx (p := p) (wsR.map V.str)).P v H' → Q v H'
def w1 : Str := "add and ask become bool both break call case div door else false function if int key kind less"
def w2 : Str := "local loop match mod module mul not on or raise receive return same self send set since sleep"
def w3 : List Str := (["start", "sub", "task", "true", "try", "uses"] : List String).map Str.ofString
theorem split_ok : Txt.split w1 " " ++ Txt.split w2 " " ++ w3 = wsR := by decide +kernel
theorem x_catL {p : Vo} {σ : L2.St} {H : Hp} {ta tb : TE} {xs ys : List V} (ha : Ev p ta σ H (slx xs)) (hb : Ev p tb σ H (slx ys)) (hz : xs.length + ys.length ≤ 100000) : Ev p (tOp rAddU ta tb) σ H (slx (xs ++ ys)) :=
  e_op ha hb fun x y H1 iv g ⟨b, ws, e1, nb, h1, ew⟩ ⟨b', ws', e2, nb', h2, ew'⟩ => rv_new iv (o := .lst (ws ++ ws')) (fun q nq hq i' g' => ⟨q, _, rfl, nq, upd_same, by rw [ew, ew']⟩) fun Q q => .inr (.inr ⟨b, b', ws, ws', e1, e2, h1, h2, by rw [ew, ew']; exact big hz, q⟩)
theorem ok_reserved (E : En K mg) (F : Df K mg "_law_reserved" s__law_reserved) : Ca P w K mg base 1 "_law_reserved" spRes := by
  refine ca_mk F sc__law_reserved (fun _ _ _ _ _ _ us hl => match us, hl with | [], _ => rfl) (fun vs H Q E h => by obtain ⟨p, rfl, _⟩ := h; rfl) (fun f cdv A outer s H vs Q E' hr h => ?_)
  obtain ⟨p, rfl, i0, q⟩ := h
  refine ⟨_, (pss_cons (ps_set (i := 0) sc__law_reserved.nd rfl (Or.inl rfl) pe_str)
      (pss_cons (ps_set (i := 1) sc__law_reserved.nd rfl (Or.inl rfl) pe_str)
      (pss_one (ps_ret (pe_op op_addU (pe_op op_addU (pe_splitU (pv 0) pe_str) (pe_splitU (pv 1) pe_str)) (pe_lst (pa_cons pe_str (pa_cons pe_str (pa_cons pe_str (pa_cons pe_str (pa_cons pe_str (pa_cons pe_str pa_nil)))))))))))), ?_⟩
  refine q_asgx (v := .str w1) i0 e_cx fun H1 i1 g1 => ?_
  refine q_asgx (v := .str w2) i1 e_cx fun H2 i2 g2 => ?_
  refine s_ret i2 (x_catL (x_catL (x_split (e_vx rfl) e_cx (by decide +kernel) rfl) (x_split (e_vx rfl) e_cx (by decide +kernel) rfl) (by decide +kernel)) (x_lst (ws := w3.map V.str) (a_cons e_cx (a_cons e_cx (a_cons e_cx (a_cons e_cx (a_cons e_cx (a_cons e_cx a_nil)))))) (big (by decide +kernel))) (by decide +kernel)) fun v H3 i3 g3 hv => q v H3 i3 ((g1.trans g2).trans g3) ?_
  have e : ((Txt.split w1 " ").map V.str ++ (Txt.split w2 " ").map V.str) ++ w3.map V.str = wsR.map V.str := by rw [← List.map_append, ← List.map_append, split_ok]
  rw [← e]
  exact hv
theorem x_res {p : Vo} {σ : L2.St} {H : Hp} : Ev p (tCall spRes [] E0 tNil) σ H (slx (wsR.map V.str)) := e_call a_nil fun vs H1 iv g os Q q => by
  obtain rfl : vs = [] := os
  exact ⟨p, rfl, iv, fun v H' i' g' h => q v H' i' g' h⟩
/-! the law's own reading of labels -/
theorem small_mem : ∀ c, c ∈ sSmall.cps.toList → ¬ (48 ≤ c ∧ c ≤ 57) := by
  rw [show sSmall.cps.toList = [97, 98, 99, 100, 101, 102, 103, 104, 105, 106, 107, 108, 109, 110, 111, 112, 113, 114, 115, 116, 117, 118, 119, 120, 121, 122] from by decide +kernel]
  intro c hc
  simp only [List.mem_cons, List.not_mem_nil, or_false] at hc
  omega
theorem strV_eq {s t : Str} : decide (V.str s = V.str t) = decide (s.cps.toList = t.cps.toList) := by
  by_cases h : s.cps.toList = t.cps.toList
  · rw [decide_eq_true h, decide_eq_true (by rw [TL.ext_tl h])]
  · rw [decide_eq_false h, decide_eq_false fun e => h (by rw [V.str.inj e])]
def hz (s : Str) : Bool := decide (V.str ⟨#[hd0 s]⟩ = V.str "0")
def lawLab (s : Str) : Bool := lenIn s && if allIn s sDig then (decide ((s.length : Int) ≤ 2) && !(hz s)) else (allIn s sSmall && !inV (.str s) (wsR.map V.str))
theorem ne_nil {s : Str} (h : 1 ≤ s.length) : s.cps.toList ≠ [] := fun e => by
  have := TL.len_tl s
  rw [show TL.tl s = s.cps.toList from rfl, e] at this
  simp at this
  omega
theorem lab_eq (s : Str) : lawLab s = labelD (.str s) := by
  unfold lawLab
  show _ = (isName s || labS s)
  cases hl : lenIn s with
  | false =>
    have h2 : labS s = false := by
      unfold labS isDec
      cases h3 : lenTo s 2 with
      | false => rfl
      | true =>
        exfalso
        unfold lenTo at h3
        unfold lenIn at hl
        simp only [Bool.and_eq_true, decide_eq_true_eq] at h3
        rw [decide_eq_true (show (1 : Int) ≤ (s.length : Int) by omega), decide_eq_true (show (s.length : Int) ≤ 8 by omega)] at hl
        cases hl
    unfold isName
    rw [hl, h2]
    rfl
  | true =>
    have h1 := lenIn_1 hl
    have hn := ne_nil h1
    obtain ⟨c, r, hc⟩ := List.exists_cons_of_ne_nil hn
    unfold isName
    rw [hl]
    cases hd : allIn s sDig with
    | true =>
      have hs : allIn s sSmall = false := by
        cases hh : allIn s sSmall with
        | false => rfl
        | true =>
          exfalso
          have a1 := allIn_dig.mp hd c (by rw [hc]; exact List.mem_cons_self)
          have a2 : c ∈ sSmall.cps.toList := of_decide_eq_true (List.all_eq_true.mp hh c (by rw [hc]; exact List.mem_cons_self))
          exact small_mem c a2 a1
      rw [hs, if_pos rfl]
      unfold labS isDec lenTo hz
      rw [hd, decide_eq_true (show (1 : Int) ≤ (s.length : Int) by omega), strV_eq, strV_eq]
      have e3 : (⟨#[hd0 s]⟩ : Str).cps.toList = [c] := by
        unfold hd0
        rw [hc]
        rfl
      rw [e3, hc]
      rw [show ("0" : Str).cps.toList = [48] from rfl]
      by_cases q : c = 48
      · subst q
        by_cases z : r = []
        · subst z
          have : decide ([48] = ([48] : List Nat)) = true := rfl
          rw [this]
          cases decide ((s.length : Int) ≤ 2) <;> rfl
        · rw [decide_eq_false (p := (48 :: r : List Nat) = [48]) fun e => z (List.cons.inj e).2, decide_eq_true (p := ([48] : List Nat) = [48]) rfl]
          cases decide ((s.length : Int) ≤ 2) <;> rfl
      · rw [decide_eq_false (p := (c :: r : List Nat) = [48]) fun e => q (List.cons.inj e).1, decide_eq_false (p := ([c] : List Nat) = [48]) fun e => q (List.cons.inj e).1]
        cases decide ((s.length : Int) ≤ 2) <;> rfl
    | false =>
      have h2 : labS s = false := by
        unfold labS isDec
        rw [hd, Bool.and_false, Bool.false_and, Bool.false_and]
      rw [h2, if_neg (by decide), Bool.or_false]
theorem not_len {s : Str} : lenIn s = !(!(lenIn s)) := (Bool.not_not _).symm
theorem ok_is_labelR (E : En K mg) (F : Df K mg "_law_is_label" s__law_is_label) (c__law_reserved : Ca P w K mg base 1 "_law_reserved" spRes) : Ca P w K mg base 2 "_law_is_label" (spD1 labelD) := by
  refine ca_mk F sc__law_is_label (fun _ _ _ _ _ _ us hl => match us, hl with | [_], _ => rfl) spD1_len (fun f cdv A outer s H vs Q E' hr h => ?_)
  obtain ⟨v, d, rfl, hd, q⟩ := h
  refine ⟨_, (pss_cons (ps_if (PW.pt (pw_or (pt_not (pt_val (pe_callB (isiU (K := K) rfl) (by rfl) (E.fr (x := "isinstance") (by decide +kernel)) (by decide +kernel) (pa_cons (pv 0) (pa_cons (pe_bltn (by rfl) (E.fr (x := "str") (by decide +kernel)) (by decide +kernel) (show RelV (.ty "str") (.type "str") from rfl)) pa_nil))))) (pw_or1 (pt_not (pt_chain op_leU op_leU pe_int (pe_callB (lenU (K := K) rfl) (by rfl) (E.fr (x := "len") (by decide +kernel)) (by decide +kernel) (pa_cons (pv 0) pa_nil)) pe_int))))) (pss_one (ps_ret pe_bl)) pss_nil)
      (pss_cons (ps_if (pt_val (pe_callB (allU (K := K) rfl rfl) (by rfl) (E.fr (x := "all") (by decide +kernel)) (by decide +kernel) (pa_cons (pe_lc (own := [("_law_letter", 2)]) (g := (gName 2)) (tt := tYes) rfl sc__law_is_label.nd (pi_str (pv 0)) (blkOk_by (own := [("_law_letter", 2)]) (N := ["_law_thing", "_law_small", "_law_letter"]) (sc := defScope s__law_is_label) (by decide +kernel)) (fun _ _ _ _ _ => (pg_name (i := 2) sc__law_is_label.nd rfl (Or.inl rfl))) (fun _ _ _ _ _ => pts_nil) (fun _ _ _ _ _ => (pe_cmpR (inU (K := K) rfl) (pv 2) pe_str (by rfl)))) pa_nil))) (pss_one (ps_ret (pe_and (pe_cmpR op_leU (pe_callB (lenU (K := K) rfl) (by rfl) (E.fr (x := "len") (by decide +kernel)) (by decide +kernel) (pa_cons (pv 0) pa_nil)) pe_int (nomark _)) (pe_one (pe_cmpR op_ne (pe_ix (ixU (K := K) rfl) (pv 0) pe_int (fun _ _ => rfl)) pe_str (nomark _)))))) pss_nil)
      (pss_cons (ps_set (i := 1) sc__law_is_label.nd rfl (Or.inl rfl) (pe_callB (allU (K := K) rfl rfl) (by rfl) (E.fr (x := "all") (by decide +kernel)) (by decide +kernel) (pa_cons (pe_lc (own := [("_law_letter", 2)]) (g := (gName 2)) (tt := tYes) rfl sc__law_is_label.nd (pi_str (pv 0)) (blkOk_by (own := [("_law_letter", 2)]) (N := ["_law_thing", "_law_small", "_law_letter"]) (sc := defScope s__law_is_label) (by decide +kernel)) (fun _ _ _ _ _ => (pg_name (i := 2) sc__law_is_label.nd rfl (Or.inl rfl))) (fun _ _ _ _ _ => pts_nil) (fun _ _ _ _ _ => (pe_cmpR (inU (K := K) rfl) (pv 2) pe_str (by rfl)))) pa_nil)))
      (pss_one (ps_ret (pe_and (pv 1) (pe_one (pe_cmpR (ninU (K := K) rfl) (pv 0) (pe_ca0 c__law_reserved (hr.mono (by first | decide | omega)) (by rfl)) (by rfl))))))))), ?_⟩
  cases hS : d.isS with
  | false =>
    refine q_ifr (v := .bl false) (b := true) (Iv.non H) (k_to (k_or (b := true) (k_not (k_b (x_isiD (e_vx rfl) hd (kit_s d)))) fun e => absurd e (by rw [hS]; decide)) (by rw [hS]; rfl)) (fun _ => e_cx) (fun _ H1 _ g => ?_) (fun e => nomatch e)
    have := q H1 g
    rw [show labelD d = false from by cases d <;> first | rfl | cases hS] at this
    exact this
  | true =>
    obtain ⟨s, rfl, rfl, hz0⟩ := dat_str hd hS
    rw [← lab_eq] at q
    refine q_ifr (v := .bl false) (b := !(lenIn s)) (Iv.non H) (k_to (k_or (k_not (k_b (x_isiD (e_vx rfl) hd (kit_s _)))) fun _ => k_not (k_chain (x_chainI (i := 1) (k := 8) (g := fun i j => decide (i ≤ j)) (g' := fun i j => decide (i ≤ j)) e_cx (x_len (e_vx rfl) (big hz0)) e_cx (fun H1 iv => r_leI iv) (fun H1 iv => r_leI iv)))) rfl) (fun _ => e_cx) (fun e H1 _ g => ?_) (fun e H1 i1 g => ?_)
    · have := q H1 g
      rw [show lawLab s = false from by show (lenIn s && _) = false; rw [(Bool.not_eq_true' _).mp e]; rfl] at this
      exact this
    · have hl : lenIn s = true := by cases hh : lenIn s <;> rw [hh] at e <;> first | rfl | cases e
      refine q_ifr (v := .bl (decide ((s.length : Int) ≤ 2) && !(hz s))) (b := allIn s sDig) i1 (k_b (allS (fun c => decide (c ∈ sDig.cps.toList)) (e_vx rfl) hz0 (fun _ => rfl) fun c q H2 hc => x_inS (e_vx rfl) e_cx)) (fun _ => x_and (x_leI (x_len (e_vx rfl) (big hz0)) e_cx) fun _ => x_ne (x := .str ⟨#[hd0 s]⟩) (y := .str "0") (x_ixS (c := hd0 s) (e_vx rfl) e_cx (big hz0) (at0 (lenIn_1 hl))) e_cx rfl) (fun e2 H2 _ g2 => ?_) fun e2 H2 i2 g2 => ?_
      · have := q H2 (g.trans g2)
        rw [show lawLab s = (decide ((s.length : Int) ≤ 2) && !(hz s)) from by unfold lawLab; rw [hl, e2]; rfl] at this
        exact this
      · refine q_asgx (v := .bl (allIn s sSmall)) i2 (allS (fun c => decide (c ∈ sSmall.cps.toList)) (e_vx rfl) hz0 (fun _ => rfl) fun c q H2 hc => x_inS (e_vx rfl) e_cx) fun H3 i3 g3 => ?_
        refine s_retx i3 (x_and (e_vx rfl) fun _ => x_ninQ (v := .str s) (e_vx rfl) rfl x_res sq_l (flat_strs _)) fun H4 _ g4 => ?_
        have := q H4 (((g.trans g2).trans g3).trans g4)
        rw [show lawLab s = (allIn s sSmall && !inV (.str s) (wsR.map V.str)) from by unfold lawLab; rw [hl, e2]; rfl] at this
        exact this
end
end K21
namespace K21
open PySem PySem.Spec PyProof.Rows L2 Hk
section
variable {P : Program} {w : World} {K : PySem.W.Frag} {mg : Str → Option Value} {base : Heap}
def spWh : Sp := fun vs H Q _ => ∃ v d m, vs = [v, .int m] ∧ Dat Vo.non H v d ∧ ∀ H', Gr Vo.non H H' → Q (.bl (wholeD m d)) H'
theorem pu_wh {v : V} {d : D} {m : Int} {H : Hp} (h : Dat Vo.non H v d) : Pu spWh [v, .int m] H (.bl (wholeD m d)) := fun Q E k => ⟨v, d, m, rfl, h, k⟩
theorem ok_is_whole (E : En K mg) (F : Df K mg "_law_is_whole" s__law_is_whole) : Ca P w K mg base 1 "_law_is_whole" spWh := by
  refine ca_mk F sc__law_is_whole (fun _ _ _ _ _ _ us hl => match us, hl with | [_, _], _ => rfl) (fun vs H Q E h => by obtain ⟨v, d, m, rfl, _⟩ := h; rfl) (fun f cdv A outer s H vs Q E' hr h => ?_)
  obtain ⟨v, d, m, rfl, hd, q⟩ := h
  refine ⟨_, (pss_one (ps_ret (pe_and (pe_callB (isiU (K := K) rfl) (by rfl) (E.fr (x := "isinstance") (by decide +kernel)) (by decide +kernel) (pa_cons (pv 0) (pa_cons (pe_bltn (by rfl) (E.fr (x := "int") (by decide +kernel)) (by decide +kernel) (show RelV (.ty "int") (.type "int") from rfl)) pa_nil))) (pe_and (pe_not (pe_callB (isiU (K := K) rfl) (by rfl) (E.fr (x := "isinstance") (by decide +kernel)) (by decide +kernel) (pa_cons (pv 0) (pa_cons (pe_bltn (by rfl) (E.fr (x := "bool") (by decide +kernel)) (by decide +kernel) (show RelV (.ty "bool") (.type "bool") from rfl)) pa_nil)))) (pe_one (pe_chain op_leU op_leU pe_int (pv 0) (pv 1))))))), ?_⟩
  cases hI : intD d with
  | false =>
    rw [whole_no hI] at q
    cases hB : d.isI with
    | false => exact s_retx (Iv.non H) (x_to (x_and (b := false) (x_isiD (e_vx rfl) hd (kit_i d)) fun e => absurd e (by rw [hB]; decide)) (w := .bl false) (by rw [hB]; rfl)) fun H2 _ g2 => q H2 g2
    | true =>
      have hb : d.isB = true := by
        have := intD_isI d
        rw [hI, hB] at this
        cases hb : d.isB with
        | true => rfl
        | false => rw [hb] at this; cases this
      exact s_retx (Iv.non H) (x_to (x_and (x_isiD (e_vx rfl) hd (kit_i d)) fun _ => x_and (b := false) (x_not (x_isiD (e_vx rfl) hd (kit_b d))) fun e => absurd e (by rw [hb]; decide)) (w := .bl false) (by rw [hB, hb]; rfl)) fun H2 _ g2 => q H2 g2
  | true =>
    obtain ⟨i, rfl, rfl⟩ := dat_intD hd hI
    exact s_retx (Iv.non H) (x_to (x_and (x_isiD (e_vx rfl) hd (kit_i _)) fun _ => x_and (x_not (x_isiD (e_vx rfl) hd (kit_b _))) fun _ => x_whole (e_vx rfl) (e_vx rfl)) (w := .bl (wholeD m (.int i))) rfl) fun H2 _ g2 => q H2 g2
theorem pw9 : CPw 10 9 := ⟨by decide, by decide +kernel⟩
theorem x_pow9 {p : Vo} {σ : L2.St} {H : Hp} : Ev p (tOp rPow (tC (.int 10)) (tC (.int 9))) σ H (sx (.int (10 ^ 9))) := x_to (x_ic (i := 10) (j := 9) e_cx e_cx pw9) rfl
theorem all_of {α : Type} {f : α → Bool} {xs : List α} (h : ∀ (i : Nat) (x : α), xs[i]? = some x → f x = true) : xs.all f = true := List.all_eq_true.mpr fun x hx => by
  obtain ⟨i, e⟩ := List.getElem?_of_mem hx
  exact h i x e
theorem all_no {α : Type} {f : α → Bool} {xs : List α} {i : Nat} {x : α} (h : xs[i]? = some x) (e : f x = false) : xs.all f = false := by
  cases hh : xs.all f with
  | false => rfl
  | true => rw [List.all_eq_true.mp hh x (List.mem_of_getElem? h)] at e; cases e
theorem ok_is_right (E : En K mg) (F : Df K mg "_law_is_right" s__law_is_right) (c__law_is_label : Ca P w K mg base 2 "_law_is_label" (spD1 labelD)) (c__law_is_whole : Ca P w K mg base 1 "_law_is_whole" spWh) : Ca P w K mg base 3 "_law_is_right" (spD1 idxD) := by
  refine ca_mk F sc__law_is_right (fun _ _ _ _ _ _ us hl => match us, hl with | [_], _ => rfl) spD1_len (fun f cdv A outer s H vs Q E' hr h => ?_)
  obtain ⟨v, d, rfl, hd, q⟩ := h
  refine ⟨_, (pss_cons (ps_if (PW.pt (pw_or (pt_not (pt_val (pe_callB (isiU (K := K) rfl) (by rfl) (E.fr (x := "isinstance") (by decide +kernel)) (by decide +kernel) (pa_cons (pv 0) (pa_cons (pe_bltn (by rfl) (E.fr (x := "tuple") (by decide +kernel)) (by decide +kernel) (show RelV (.ty "tuple") (.type "tuple") from rfl)) pa_nil))))) (pw_or (pt_cmpR op_lt (pe_callB (lenU (K := K) rfl) (by rfl) (E.fr (x := "len") (by decide +kernel)) (by decide +kernel) (pa_cons (pv 0) pa_nil)) pe_int (nomark _)) (pw_or1 (pt_not (pt_val (pe_ca c__law_is_whole (hr.mono (by first | decide | omega)) (by rfl) (pa_cons (pe_ix (ixU (K := K) rfl) (pv 0) pe_int (fun _ _ => rfl)) (pa_cons (pe_op op_powW pe_int pe_int) pa_nil))))))))) (pss_one (ps_ret pe_bl)) pss_nil)
      (pss_cons (ps_for PassesOwn.never rfl (pi_tup (pe_slice (slU (K := K) rfl) (pv 0) (po_some pe_int) po_none)) (pg_name (i := 1) sc__law_is_right.nd rfl (Or.inl rfl)) (pss_cons (ps_if (PW.pt (pw_or (pt_not (pt_val (pe_callB (isiU (K := K) rfl) (by rfl) (E.fr (x := "isinstance") (by decide +kernel)) (by decide +kernel) (pa_cons (pv 1) (pa_cons (pe_bltn (by rfl) (E.fr (x := "tuple") (by decide +kernel)) (by decide +kernel) (show RelV (.ty "tuple") (.type "tuple") from rfl)) pa_nil))))) (pw_or1 (pt_cmpR op_ne (pe_callB (lenU (K := K) rfl) (by rfl) (E.fr (x := "len") (by decide +kernel)) (by decide +kernel) (pa_cons (pv 1) pa_nil)) pe_int (nomark _))))) (pss_one (ps_ret pe_bl)) pss_nil)
      (pss_one (ps_if (PW.pt (pw_or (pt_not (pt_val (pe_ca c__law_is_label (hr.mono (by first | decide | omega)) (by rfl) (pa_cons (pe_ix (ixU (K := K) rfl) (pv 1) pe_int (fun _ _ => rfl)) pa_nil)))) (pw_or1 (pt_not (pt_val (pe_ca c__law_is_whole (hr.mono (by first | decide | omega)) (by rfl) (pa_cons (pe_ix (ixU (K := K) rfl) (pv 1) pe_int (fun _ _ => rfl)) (pa_cons pe_int pa_nil)))))))) (pss_one (ps_ret pe_bl)) pss_nil))))
      (pss_one (ps_ret pe_bl)))), ?_⟩
  cases hT : d.isT with
  | false =>
    refine q_ifr (v := .bl false) (b := true) (Iv.non H) (k_to (k_or (b := true) (k_not (k_b (x_isiD (e_vx rfl) hd (kit_t d)))) fun e => absurd e (by rw [hT]; decide)) (by rw [hT]; rfl)) (fun _ => e_cx) (fun _ H1 _ g => ?_) (fun e => nomatch e)
    have := q H1 g
    rw [idx_noT hT] at this
    exact this
  | true =>
    obtain ⟨ds, rfl⟩ := dat_tupD hd hT
    cases hd with
    | @tup a xs _ na ha hl hz r =>
    have isq : ∀ {H1}, Gr Vo.non H H1 → ∀ v H2, Gr Vo.non H1 H2 → (sx (p := Vo.non) (.ref a)).P v H2 → ∃ a, v = .ref a ∧ (SqL K H2 a xs ∨ SqT K H2 a xs) := fun g v H2 g2 e => ⟨a, e, .inr (SqT.of ((g.trans g2) a _ na ha))⟩
    have hd' : Dat Vo.non H (.ref a) (.tup ds) := .tup na ha hl hz r
    by_cases h2 : ds.length < 2
    · refine q_ifr (v := .bl false) (b := true) (Iv.non H) (k_to (k_or (b := true) (k_not (k_b (x_isiD (e_vx rfl) hd' (kit_t _)))) fun _ => k_to (k_or (a := true) (b := true) (k_to (k_test (x_ii (i := ((xs.length : Nat) : Int)) (j := 2) (x_lenQ (xs := xs) (e_vx rfl) (isq (Gr.refl H))) e_cx)) (decide_eq_true (by omega))) fun e => nomatch e) rfl) rfl) (fun _ => e_cx) (fun _ H1 _ g => ?_) (fun e => nomatch e)
      have := q H1 g
      rw [idx_len h2] at this
      exact this
    · obtain ⟨d0, d1, dr, rfl⟩ := more_of h2
      obtain ⟨x0, x1, xr, rfl⟩ := more_of (ds := xs) (by rw [hl]; exact h2)
      have r0 := r 0 x0 d0 rfl rfl
      refine q_ifr (v := .bl false) (b := !(wholeD (10 ^ 9) d0)) (Iv.non H) (k_to (k_or (k_not (k_b (x_isiD (e_vx rfl) hd' (kit_t _)))) fun _ => k_or (a := false) (k_to (k_test (x_ii (i := (((x0 :: x1 :: xr).length : Nat) : Int)) (j := 2) (x_lenQ (xs := x0 :: x1 :: xr) (e_vx rfl) (isq (Gr.refl H))) e_cx)) (decide_eq_false (by rw [List.length_cons, List.length_cons]; omega))) fun _ => k_not (k_b (x_call (a_cons (x_ixQ (xs := x0 :: x1 :: xr) (e_vx rfl) (isq (Gr.refl H)) e_cx (atI_nat (j := 0) rfl)) (a_cons x_pow9 a_nil)) fun H2 g2 => pu_wh (r0.gr g2)))) rfl) (fun _ => e_cx) (fun e H1 _ g => ?_) fun e H1 i1 g => ?_
      · have := q H1 g
        rw [show idxD (.tup (d0 :: d1 :: dr)) = false from by show (wholeD (10 ^ 9) d0 && _) = false; rw [(Bool.not_eq_true' _).mp e]; rfl] at this
        exact this
      · have el : wholeD (10 ^ 9) d0 = true := by cases hh : wholeD (10 ^ 9) d0 <;> rw [hh] at e <;> first | rfl | cases e
        rw [show idxD (.tup (d0 :: d1 :: dr)) = (d1 :: dr).all partD from by show (wholeD (10 ^ 9) d0 && _) = _; rw [el]; rfl] at q
        refine q_forT (B := stx (cutV (x0 :: x1 :: xr) (some 1) none)) i1 (x_slT (lo := some 1) (hi := none) (e_vx rfl) (fun v H2 g2 e => ⟨a, e, SqT.of ((g.trans g2) a _ na ha)⟩) (fun _ _ q => o_int q) (fun _ _ q => o_none q) cut1_ne) fun v H2 i2 g2 hv => ?_
        obtain ⟨b, ws, e1, nb, hb, ew⟩ := hv
        rw [cut1] at ew
        refine ⟨b, x1 :: xr, fun i σ' H' => Iv Vo.non H' ∧ Gr Vo.non H2 H' ∧ (∃ o, σ' = [some (V.ref a), o]) ∧ ∀ j x, j < i → (d1 :: dr)[j]? = some x → partD x = true, e1, nb, by rw [hb, ew], ⟨i2, Gr.refl H2, ⟨_, rfl⟩, fun j x hj => absurd hj (Nat.not_lt_zero _)⟩, fun i σ' H' h => h.2.1, fun i x σ' H' hx h => ?_, fun σ' H' h => ?_⟩
        · obtain ⟨i3, g3, ⟨o, rfl⟩, hall⟩ := h
          have hil : i < (d1 :: dr).length := by
            have := (List.getElem?_eq_some_iff.mp hx).1
            simp only [List.length_cons] at this hl ⊢
            omega
          have hdx : (d1 :: dr)[i]? = some (d1 :: dr)[i] := List.getElem?_eq_getElem hil
          generalize (d1 :: dr)[i] = dx at hdx
          have gg := (g.trans g2).trans g3
          have rx : Dat Vo.non H' x dx := (r (i + 1) x dx hx hdx).gr gg
          show tSeq _ _ _ [some (V.ref a), some x] H'
          have bad : partD dx = false → ∀ {H4}, Gr Vo.non H' H4 → Q (.bl false) H4 := fun hp {H4} g4 => by
            have := q H4 (gg.trans g4)
            rw [all_no hdx hp] at this
            exact this
          cases hT : dx.isT with
          | false => exact q_ifr (v := .bl false) (b := true) i3 (k_to (k_or (b := true) (k_not (k_b (x_isiD (e_vx rfl) rx (kit_t dx)))) fun e => absurd e (by rw [hT]; decide)) (by rw [hT]; rfl)) (fun _ => e_cx) (fun _ H4 _ g4 => bad (part_noT hT) g4) (fun e => nomatch e)
          | true =>
            obtain ⟨es, rfl⟩ := dat_tupD rx hT
            cases rx with
            | @tup c ys _ nc hc hlc hzc rc =>
            have isq2 : ∀ {H1}, Gr Vo.non H' H1 → ∀ v H2, Gr Vo.non H1 H2 → (sx (p := Vo.non) (.ref c)).P v H2 → ∃ a, v = .ref a ∧ (SqL K H2 a ys ∨ SqT K H2 a ys) := fun g v H2 g2 e => ⟨c, e, .inr (SqT.of ((g.trans g2) c _ nc hc))⟩
            have rx' : Dat Vo.non H' (.ref c) (.tup es) := .tup nc hc hlc hzc rc
            by_cases h22 : es.length = 2
            · obtain ⟨f0, f1, rfl⟩ := two_of h22
              obtain ⟨y0, y1, rfl⟩ := two_of (hlc.trans rfl)
              have s0 := rc 0 y0 f0 rfl rfl
              have s1 := rc 1 y1 f1 rfl rfl
              refine q_ifr (v := .bl false) (b := false) i3 (k_to (k_or (k_not (k_b (x_isiD (e_vx rfl) rx' (kit_t _)))) fun _ => k_test (x_ne (x := .int 2) (y := .int 2) (x_lenQ (xs := [y0, y1]) (e_vx rfl) (isq2 (Gr.refl H'))) e_cx rfl)) rfl) (fun e => nomatch e) (fun e => nomatch e) fun _ H4 i4 g4 => ?_
              refine s_ifr (v := .bl false) (b := !(labelD f0) || !(wholeD 9 f1)) i4 (k_or (k_not (k_b (x_call (a_cons (x_ixQ (xs := [y0, y1]) (e_vx rfl) (isq2 g4) e_cx (atI_nat (j := 0) rfl)) a_nil) fun H5 g5 => pu_D1 (s0.gr (g4.trans g5))))) fun _ => k_not (k_b (x_call (a_cons (x_ixQ (xs := [y0, y1]) (e_vx rfl) (isq2 g4) e_cx (atI_nat (j := 1) rfl)) (a_cons e_cx a_nil)) fun H5 g5 => pu_wh (m := 9) (s1.gr (g4.trans g5))))) (fun _ => e_cx) (fun e H5 _ g5 => bad ?_ (g4.trans g5)) fun e H5 i5 g5 => ?_
              · show (labelD f0 && wholeD 9 f1) = false
                revert e
                cases labelD f0 <;> cases wholeD 9 f1 <;> first | exact fun _ => rfl | exact fun e => nomatch e
              · refine ⟨i5, (g3.trans g4).trans g5, ⟨_, rfl⟩, fun j z hj hz => ?_⟩
                by_cases hji : j < i
                · exact hall j z hji hz
                · have : j = i := by omega
                  rw [this, hdx] at hz
                  rw [← Option.some.inj hz]
                  show (labelD f0 && wholeD 9 f1) = true
                  revert e
                  cases labelD f0 <;> cases wholeD 9 f1 <;> first | exact fun _ => rfl | exact fun e => nomatch e
            · exact q_ifr (v := .bl false) (b := true) i3 (k_to (k_or (b := true) (k_not (k_b (x_isiD (e_vx rfl) rx' (kit_t _)))) fun _ => k_to (k_test (x_ne (x := .int ((ys.length : Nat) : Int)) (y := .int 2) (x_lenQ (xs := ys) (e_vx rfl) (isq2 (Gr.refl H'))) e_cx rfl)) (by rw [decide_eq_false fun e => h22 (by have := V.int.inj e; omega)]; rfl)) rfl) (fun _ => e_cx) (fun _ H4 _ g4 => bad (part_len h22) g4) (fun e => nomatch e)
        · obtain ⟨i3, g3, _, hall⟩ := h
          refine s_retx i3 e_cx fun H4 _ g4 => ?_
          have := q H4 (((g.trans g2).trans g3).trans g4)
          rw [all_of fun j x hj => hall j x (by have := (List.getElem?_eq_some_iff.mp hj).1; simp only [List.length_cons] at this hl ⊢; omega) hj] at this
          exact this
end
end K21
namespace K21
open PySem PySem.Spec PyProof.Rows L2 Hk
section
variable {P : Program} {w : World} {K : PySem.W.Frag} {mg : Str → Option Value} {base : Heap}
theorem empty_app (s : Str) : Str.empty ++ s = s := TL.ext_tl (by rw [TL.tl_append]; rfl)
theorem partS_eq (l : Str) (n : Int) : partS (.tup [.str l, .int n]) = (l ++ ".") ++ numStr n := by
  show ((Str.empty ++ l) ++ ".") ++ numStr n = _
  rw [empty_app]
def spTxt : Sp := fun vs H Q _ => ∃ v d, vs = [v] ∧ Dat Vo.non H v d ∧ idxD d = true ∧ ∀ H', Gr Vo.non H H' → Q (.str (idxText d)) H'
theorem pu_txt {v : V} {d : D} {H : Hp} (h : Dat Vo.non H v d) (hi : idxD d = true) : Pu spTxt [v] H (.str (idxText d)) := fun Q E k => ⟨v, d, rfl, h, hi, k⟩
theorem ok_law_text (E : En K mg) (F : Df K mg "_law_text" s__law_text) : Ca P w K mg base 1 "_law_text" spTxt := by
  refine ca_mk F sc__law_text (fun _ _ _ _ _ _ us hl => match us, hl with | [_], _ => rfl) (fun vs H Q E h => by obtain ⟨v, d, rfl, _⟩ := h; rfl) (fun f cdv A outer s H vs Q E' hr h => ?_)
  obtain ⟨v, d, rfl, hd, hi, q⟩ := h
  refine ⟨_, (pss_one (ps_ret (pe_joinU (K := K) rfl pe_str (pe_op op_addU (pe_lst (pa_cons (pe_callTy call_str_int (by rfl) (E.fr (x := "str") (by decide +kernel)) (by decide +kernel) (pa_cons (pe_ix (ixU (K := K) rfl) (pv 0) pe_int (fun _ _ => rfl)) pa_nil)) pa_nil)) (pe_lc (own := [("_law_label_here", 1), ("_law_number", 2)]) (g := (gTup K 2 (gCons (gName 1) (gCons (gName 2) gNil)))) (tt := tYes) rfl sc__law_text.nd (pi_tup (pe_slice (slU (K := K) rfl) (pv 0) (po_some pe_int) po_none)) (blkOk_by (own := [("_law_label_here", 1), ("_law_number", 2)]) (N := ["_law_row", "_law_label_here", "_law_number"]) (sc := defScope s__law_text) (by decide +kernel)) (fun _ _ _ _ _ => (pg_tup rfl (pgs_cons (pg_name (i := 1) sc__law_text.nd rfl (Or.inl rfl)) (pgs_cons (pg_name (i := 2) sc__law_text.nd rfl (Or.inl rfl)) pgs_nil)))) (fun _ _ _ _ _ => pts_nil) (fun _ _ _ _ _ => (pe_op op_addU (pe_op op_addU (pv 1) pe_str) (pe_callTy call_str_int (by rfl) (E.fr (x := "str") (by decide +kernel)) (by decide +kernel) (pa_cons (pv 2) pa_nil))))))))), ?_⟩
  obtain ⟨ep, d1, dr, rfl, e0, e1, hps⟩ := idx_shape hi
  cases hd with
  | @tup a xs _ na ha hl hz r =>
  obtain ⟨x0, x1, xr, rfl⟩ := more_of (ds := xs) (by rw [hl, List.length_cons, List.length_cons]; omega)
  have r0 := r 0 x0 (.int ep) rfl rfl
  cases r0 with
  | int _ =>
  have hlen : (d1 :: dr).length ≤ 99999 := by
    simp only [List.length_cons] at hl hz ⊢
    omega
  have h1 : Ev Vo.non (tLc (iTup K (tSl (rSlU K) (tVar 0) (tPart (tC (.int 1))) tNoPart)) (gTup K 2 (gCons (gName 1) (gCons (gName 2) gNil))) tYes (tOp rAddU (tOp rAddU (tVar 1) (tC (.str "."))) (tCB (fun xs H Q => ∃ i, xs = [.int i] ∧ i.natAbs.log2 < 1920 ∧ Q (.str (toString i)) H) (tCons (tVar 2) tNil))) [1, 2]) [some (V.ref a), none, none] H (slP Vo.non Px ((d1 :: dr).map fun d => V.str (partS d))) :=
    lcT_pt (Y := Pd) (fs := d1 :: dr) (B := stx (cutV (V.int ep :: x1 :: xr) (some 1) none)) (τ := fun x f => match f with
        | .tup [.str l, .int n] => [some (V.ref a), some (.str l), some (.int n)]
        | _ => [some (V.ref a), none, none])
      (x_slT (lo := some 1) (hi := none) (e_vx rfl) (fun v H2 g2 e => ⟨a, e, SqT.of (g2 a _ na ha)⟩) (fun _ _ q => o_int q) (fun _ _ q => o_none q) cut1_ne)
      (fun v H2 g2 ⟨b, ws, f1, f2, f3, f4⟩ => ⟨b, x1 :: xr, f1, f2, by rw [f3, f4, cut1], by simp only [List.length_cons] at hl ⊢; omega, fun i x f hx hf => (r (i + 1) x f hx hf).gr g2⟩)
      (by rw [List.length_map]) (by rw [List.length_map]; omega)
      (fun x f => by
        split <;> rfl)
      (fun i x f H' R' hf hx hR => by
        obtain ⟨l, n, rfl, _⟩ := part_shape (hps f (List.mem_of_getElem? hf))
        have hx : Dat Vo.non H' x (.tup [.str l, .int n]) := hx
        cases hx with
        | @tup b ys _ nb hb hlb hzb rb =>
          obtain ⟨y0, y1, rfl⟩ := two_of (hlb.trans rfl)
          have s0 := rb 0 y0 _ rfl rfl
          have s1 := rb 1 y1 _ rfl rfl
          cases s0
          cases s1
          exact ⟨b, _, rfl, SqT.of hb, rfl, _, _, rfl, _, _, rfl, rfl, hR⟩)
      (fun i x f E l H2 hf g2 hE hx => by
        obtain ⟨s, n, rfl, _, hs, n0, n1⟩ := part_shape (hps f (List.mem_of_getElem? hf))
        refine e_px (v := .str (partS (.tup [.str s, .int n]))) (x_to (x_addS (i := s ++ ".") (j := numStr n) (x_addS (i := s) (j := ".") (e_vx rfl) e_cx (big (by show s.length + 1 ≤ _; omega))) (x_strI (e_vx rfl) (log_small n0 (by omega))) (big (by rw [Str.length_append, numStr_len n0 n1]; show s.length + 1 + 1 ≤ _; omega))) (by rw [partS_eq])) ?_
        rw [List.getElem?_map, hf]
        rfl)
  have h2 := x_catL (x_lst (ws := [V.str (numStr ep)]) (a_cons (x_strI (x_ixQ (K := K) (xs := V.int ep :: x1 :: xr) (e_vx (σ := [some (V.ref a), none, none]) (i := 0) rfl) (fun v H3 g3 e => ⟨a, e, .inr (SqT.of (g3 a _ na ha))⟩) e_cx (atI_nat (j := 0) rfl)) (log_small e0 e1)) a_nil) (big (Nat.le_of_ble_eq_true rfl))) (h1.imp fun v H3 h => slx_px h) (by rw [List.length_map]; show 1 + _ ≤ _; omega)
  refine s_retx (Iv.non H) (x_join (K := K) (a := " ") (ys := epS (.int ep) :: (d1 :: dr).map partS) e_cx ?_ ?_) fun H3 _ g3 => q H3 g3
  · have e2 : ((epS (.int ep) :: (d1 :: dr).map partS).map V.str) = [V.str (numStr ep)] ++ ((d1 :: dr).map fun d => V.str (partS d)) := by
      rw [List.map_cons, List.map_map]
      rfl
    rw [e2]
    exact h2
  · rw [List.map_cons, List.sum_cons, List.length_cons, List.map_map, List.length_map]
    have h2 := sum_le (c := 10) (fun d => (partS d).length) (d1 :: dr) fun d hd => partS_len (hps d hd)
    have h3 := numStr_len10 e0 e1
    have h4 : (" " : Str).length = 1 := rfl
    rw [h4]
    show (numStr ep).length + ((d1 :: dr).map fun d => (partS d).length).sum + _ ≤ _
    omega
end
end K21
namespace K21
open PySem PySem.Spec PyProof.Rows L2 Hk
/-! ### two readings of a text, one -/
theorem len_toList (s : Str) : s.cps.toList.length = s.length := by rw [Array.length_toList]; rfl
def nOk (w : Str) : Bool := decide ((pNum w).length = 1) && allIn (pNum w) sDig
theorem one_sign {s : Str} (h : s.length = 1) : ∃ c, s = ⟨#[c]⟩ := by
  have e := len_toList s
  rw [h] at e
  match hc : s.cps.toList, e with
  | [c], _ => exact ⟨c, TL.ext_tl hc⟩
theorem canon_dec {s : Str} (h : DigS s) (h1 : 1 ≤ s.length) {m : Int} (h2 : (s.length : Int) ≤ m) : isDec s m = true ↔ Hk.Canon s.cps.toList := by
  unfold isDec lenTo
  rw [decide_eq_true (show (1 : Int) ≤ (s.length : Int) by omega), decide_eq_true h2, allIn_dig.mpr h.1, strV_eq, strV_eq]
  show ((true && (true && true)) && (decide (s.cps.toList = [48]) || !decide ([hd0 s] = [48]))) = true ↔ (s.cps.toList = [48] ∨ s.cps.toList.headD 0 ≠ 48)
  have e : ([hd0 s] = ([48] : List Nat)) ↔ s.cps.toList.headD 0 = 48 := ⟨fun q => (List.cons.inj q).1, fun q => by unfold hd0; rw [q]⟩
  by_cases q1 : s.cps.toList = [48]
  · rw [decide_eq_true q1]
    exact ⟨fun _ => .inl q1, fun _ => rfl⟩
  · rw [decide_eq_false q1]
    by_cases q2 : s.cps.toList.headD 0 = 48
    · rw [decide_eq_true (e.mpr q2)]
      refine Iff.intro (fun q => absurd q (by decide)) fun q => ?_
      rcases q with q | q
      · exact absurd q q1
      · exact absurd q2 q
    · rw [decide_eq_false fun q => q2 (e.mp q)]
      exact ⟨fun _ => .inr q2, fun _ => rfl⟩
theorem nOk_dec (w : Str) : nOk w = isDec (pNum w) 1 := by
  unfold nOk
  generalize pNum w = s
  by_cases h1 : s.length = 1
  · rw [decide_eq_true h1, Bool.true_and]
    cases hd : allIn s sDig with
    | true =>
      have hn := ne_nil (s := s) (by omega)
      have := (canon_dec (s := s) (m := 1) ⟨allIn_dig.mp hd, hn⟩ (by omega) (by omega)).mpr (by
        obtain ⟨c, rfl⟩ := one_sign h1
        exact canon_one)
      rw [this]
    | false =>
      unfold isDec
      rw [hd, Bool.and_false, Bool.false_and]
  · rw [decide_eq_false h1]
    cases hh : isDec s 1 with
    | false => rfl
    | true =>
      obtain ⟨_, a, b⟩ := isDec_dig hh
      exfalso
      omega
theorem nOk_part {w : Str} (h : nOk w = true) : partS (parD w) = w := by
  obtain ⟨h1, h2⟩ := Bool.and_eq_true_iff.mp (show (decide ((pNum w).length = 1) && allIn (pNum w) sDig) = true from h)
  have h1 := of_decide_eq_true h1
  have hd : DigS (pNum w) := ⟨allIn_dig.mp h2, ne_nil (by omega)⟩
  have e1 : numStr ((valS (pNum w) : Nat) : Int) = pNum w := (num_eq hd).mpr (by
    obtain ⟨c, hc⟩ := one_sign h1
    rw [hc]
    exact canon_one)
  show partS (.tup [.str (pLab w), .int ((valS (pNum w) : Nat) : Int)]) = w
  rw [partS_eq, e1]
  exact (part_back (w := w) (y := ".") (by decide +kernel) hd.2).symm
theorem idx_parts {e : D} {ps : List D} (h : idxD (.tup (e :: ps)) = true) : ps ≠ [] ∧ ∀ q ∈ ps, partD q = true := by
  obtain ⟨i, p, r, e1, _, _, hq⟩ := idx_shape h
  have e2 : e :: ps = .int i :: p :: r := D.tup.inj e1
  have e3 := (List.cons.inj e2).2
  rw [e3]
  exact ⟨List.cons_ne_nil _ _, hq⟩
theorem text_iff {t e0 : Str} {ps : List Str} (hw : wordsOf t = e0 :: ps) (hn : ∀ w ∈ ps, nOk w = true) (hp : ps ≠ []) : idxText (.tup (epD e0 :: ps.map parD)) = t ↔ numStr ((valS e0 : Nat) : Int) = e0 := by
  have e1 : (ps.map parD).map partS = ps := by
    rw [List.map_map]
    have : ∀ (l : List Str), (∀ w ∈ l, nOk w = true) → l.map (partS ∘ parD) = l := fun l => by
      induction l with
      | nil => intro _; rfl
      | cons w l ih =>
        intro h
        rw [List.map_cons, ih fun z hz => h z (List.mem_cons_of_mem _ hz)]
        show partS (parD w) :: l = _
        rw [nOk_part (h w List.mem_cons_self)]
    exact this ps hn
  have e2 : idxText (.tup (epD e0 :: ps.map parD)) = Str.join " " (numStr ((valS e0 : Nat) : Int) :: ps) := by
    show Txt.join " " (numStr ((valS e0 : Nat) : Int) :: (ps.map parD).map partS) = _
    rw [e1, TL.join_eq]
  have e3 : t = Str.join " " (e0 :: ps) := by
    have := PySem.StrLaws.join_split t " "
    rw [show Txt.split t " " = e0 :: ps from hw] at this
    exact this.symm
  obtain ⟨p0, pr, rfl⟩ := List.exists_cons_of_ne_nil hp
  rw [e2]
  refine ⟨fun h => ?_, fun h => by rw [h]; exact e3.symm⟩
  have h' : numStr ((valS e0 : Nat) : Int) ++ " " ++ Str.join " " (p0 :: pr) = e0 ++ " " ++ Str.join " " (p0 :: pr) := h.trans e3
  have h2 := congrArg TL.tl h'
  rw [TL.tl_append, TL.tl_append, TL.tl_append, TL.tl_append, List.append_assoc, List.append_assoc] at h2
  exact TL.ext_tl (List.append_cancel_right h2)
/-- the program's reading and the law's -/
theorem parse_law {t e0 : Str} {ps : List Str} (hw : wordsOf t = e0 :: ps) (hd : DigS e0) (hl : e0.length ≤ 10) (hn : ∀ w ∈ ps, nOk w = true) :
    parseW (wordsOf t) = if idxD (.tup (epD e0 :: ps.map parD)) && decide (V.str (idxText (.tup (epD e0 :: ps.map parD))) = V.str t) then some (.tup (epD e0 :: ps.map parD)) else none := by
  rw [hw, parseW_c]
  cases hi : idxD (.tup (epD e0 :: ps.map parD)) with
  | false => rw [Bool.and_false, Bool.false_and]
  | true =>
    obtain ⟨hp, hq⟩ := idx_parts hi
    have h1 : ps.isEmpty = false := by cases ps with | nil => exact absurd (List.map_nil (f := parD)) hp | cons _ _ => rfl
    have hp' : ps ≠ [] := fun e => hp (by rw [e]; rfl)
    have h2 : ps.all wOk = true := List.all_eq_true.mpr fun w hm => by
      have a := hq (parD w) (List.mem_map.mpr ⟨w, hm, rfl⟩)
      have b := (Bool.and_eq_true_iff.mp (show (labelD (.str (pLab w)) && wholeD 9 _) = true from a)).1
      show (labelD (.str (pLab w)) && isDec (pNum w) 1) = true
      rw [b, ← nOk_dec, hn w hm]
      rfl
    have hlen : 1 ≤ e0.length := by
      have := len_toList e0
      have h3 := hd.2
      cases hc : e0.cps.toList with
      | nil => exact absurd hc h3
      | cons c r => rw [hc, List.length_cons] at this; omega
    have h3 : isDec e0 10 = decide (V.str (idxText (.tup (epD e0 :: ps.map parD))) = V.str t) := by
      have a := canon_dec hd hlen (m := 10) (by omega)
      have b := (text_iff hw hn hp').trans (num_eq hd)
      by_cases c : Hk.Canon e0.cps.toList
      · rw [a.mpr c, decide_eq_true (by rw [b.mpr c])]
      · have : isDec e0 10 = false := by cases hh : isDec e0 10 with | false => rfl | true => exact absurd (a.mp hh) c
        rw [this, decide_eq_false fun q => c (b.mp (V.str.inj q))]
    rw [h1, h2, ← h3, Bool.and_true, Bool.true_and]
    cases isDec e0 10 <;> rfl
end K21
namespace K21
open PySem PySem.Spec PyProof.Rows L2 Hk
section
variable {p : Vo} {σ : L2.St} {H : Hp} {K : PySem.W.Frag} {te ta tb : TE} {tr : TA} {D : Ends} {u : TS} {A : Sy p}
/-- over one more object, whatever it holds -/
theorem nv_and {b a : Addr} {o o' : HO} (h : Nv (p.and b o) a) : Nv (p.and b o') a := h.back.and h.ne
theorem gr_and {H' : Hp} {b : Addr} {o o' : HO} (g : Gr (p.and b o) H H') : Gr (p.and b o') H H' := fun a u n h => g a u (nv_and n) h
/-- what was there before the object stays -/
theorem gr_out {H0 H' : Hp} {b : Addr} {o : HO} (g0 : Gr p H0 H) (hb : H0 b = none) (g : Gr (p.and b o) H H') : Gr p H0 H' := fun a u n h => g a u (n.and (ne_of_none h hb).symm) (g0 a u n h)
theorem upd_and {b : Addr} {o o' : HO} : Gr (p.and b o) H (upd H b o') := fun a u n h => by
  rw [upd_ne n.ne.symm]
  exact h
/-- xs.append(x) -/
theorem s_app {b : Addr} {acc : List V} {i : Nat} {B : ∀ q : Vo, Sy q} (nb : Nv p b) (iv : Iv p H) (hb : H b = some (.lst acc)) (hs : σ[i]? = some (some (.ref b))) (hz : acc.length ≤ 100000) (h : Ev (p.and b (.lst acc)) te σ H (B _))
    (k : ∀ y H2, Iv p H2 → Gr (p.and b (.lst acc)) H H2 → H2 b = some (.lst acc) → (B (p.and b (.lst acc))).P y H2 → D.nx σ (upd H2 b (.lst (acc ++ [y])))) : tDrop (tApp (tVar i) te) D σ H :=
  ⟨.ref b, hs, b, acc, rfl, hb, h H (iv.and hb nb) (Gr.refl H) _ fun y H2 i2 g2 hy => by
    have h2 : H2 b = some (.lst acc) := i2.ex (b, .lst acc) List.mem_cons_self
    exact ⟨acc, h2, by rw [sizeLine_eq]; omega, k y H2 i2.back g2 h2 hy⟩⟩
theorem x_ninS {c : Nat} {z : Str} (ha : Ev p ta σ H (sx (.str ⟨#[c]⟩))) (hb : Ev p tb σ H (sx (.str z))) : Ev p (tOp (rNinU K) ta tb) σ H (sx (.bl (!decide (c ∈ z.cps.toList)))) :=
  e_op ha hb fun x y H1 iv g ex ey => rv iv rfl fun Q q => .inl ⟨c, z, ex, ey, q⟩
/-- a new list: it was not there -/
def sF (p : Vo) (H0 : Hp) (ws : List V) : Sy p := ⟨fun v H3 => ∃ b, v = .ref b ∧ Nv p b ∧ H0 b = none ∧ H3 b = some (.lst ws), fun v H H' g ⟨b, e, nb, hn, hb⟩ => ⟨b, e, nb, hn, g b _ nb hb⟩⟩
theorem x_lstF {ws : List V} (h : EvX p tr σ H ws) (hz : ws.length ≤ sizeLine) : Ev p (tLst tr) σ H (sF p H ws) := fun H1 i g Q q =>
  h H1 i g _ fun H2 i2 g2 => ⟨hz, fun b hb => q _ _ (i2.new hb) (g2.trans (Gr.new hb)) ⟨b, rfl, i2.ne hb, (g.trans g2).free (i2.ne hb) hb, upd_same⟩⟩
theorem x_tupD {es : List Hk.D} (ha : Ev p ta σ H (slP p Pd es)) (hz : es.length ≤ 100000) : Ev p (tCB (rTupK K) (tCons ta tNil)) σ H (sdx p (.tup es)) := e_cb (a_cons ha a_nil) fun vs H1 iv g os => by
  obtain ⟨v, us, rfl, ⟨b, ws, rfl, nb, h1, hl, hw⟩, rfl⟩ := os
  exact rv_new iv (o := .tup ws) (fun q nq hq i' g' => .tup nq upd_same hl (by omega) fun i v d e1 e2 => (show Dat p H1 v d from hw i v d e1 e2).gr g') fun Q q => ⟨b, ws, rfl, .inl ⟨SqL.of h1, q⟩⟩
theorem x_slL {xs : List V} {B : Sy p} {tl th : TO} {lo hi : Option Int} (ha : Ev p ta σ H B) (hB : ∀ v H1, Gr p H H1 → B.P v H1 → ∃ a, v = .ref a ∧ SqL K H1 a xs) (hl : ∀ H (Q : Option Int → Hp → Prop), Q lo H → tl σ H Q) (hh : ∀ H (Q : Option Int → Hp → Prop), Q hi H → th σ H Q) :
    Ev p (tSl (rSlL K) ta tl th) σ H (slx (cutV xs lo hi)) :=
  fun H1 i g Q q => ha H1 i g _ fun v H2 i2 g2 e => by
    obtain ⟨a, rfl, h⟩ := hB v H2 (g.trans g2) e
    exact hl H2 _ (hh H2 _ ⟨a, xs, rfl, h, fun b hb => q _ _ (i2.new hb) (g2.trans (Gr.new hb)) ⟨b, _, rfl, i2.ne hb, upd_same, rfl⟩⟩)
end
section
variable {P : Program} {w : World} {K : PySem.W.Frag} {mg : Str → Option Value} {base : Heap}
def OptD (p : Vo) (H : Hp) (v : V) : Option D → Prop
  | some r => Dat p H v r
  | none => v = .non
def spRead : Sp := fun vs H Q _ => ∃ (p : Vo) (t : Str), vs = [.str t] ∧ Iv p H ∧ t.length ≤ 15000 ∧ ∀ v H', Iv p H' → Gr p H H' → OptD p H' v (parseW (wordsOf t)) → Q v H'
theorem parse_no {t e0 : Str} {ps : List Str} (hw : wordsOf t = e0 :: ps) (h : isDec e0 10 = false ∨ ∃ w ∈ ps, nOk w = false) : parseW (wordsOf t) = none := by
  rw [hw, parseW_c]
  have : (!ps.isEmpty && (isDec e0 10 && ps.all wOk)) = false := by
    rcases h with h | ⟨w, hm, h⟩
    · rw [h, Bool.false_and, Bool.and_false]
    · have : ps.all wOk = false := by
        obtain ⟨i, hi⟩ := List.getElem?_of_mem hm
        exact all_no hi (by show (_ && isDec (pNum w) 1) = false; rw [← nOk_dec, h, Bool.and_false])
      rw [this, Bool.and_false, Bool.and_false]
  rw [this]
  rfl
theorem ok_law_read (E : En K mg) (F : Df K mg "_law_read" s__law_read) (c__law_is_right : Ca P w K mg base 3 "_law_is_right" (spD1 idxD)) (c__law_text : Ca P w K mg base 1 "_law_text" spTxt) : Ca P w K mg base 4 "_law_read" spRead := by
  refine ca_mk F sc__law_read (fun _ _ _ _ _ _ us hl => match us, hl with | [_], _ => rfl) (fun vs H Q E h => by obtain ⟨p, t, rfl, _⟩ := h; rfl) (fun f cdv A outer s H vs Q E' hr h => ?_)
  obtain ⟨p, t, rfl, i0, ht, q⟩ := h
  refine ⟨_, (pss_cons (ps_set (i := 1) sc__law_read.nd rfl (Or.inl rfl) (pe_splitU (pv 0) pe_str))
      (pss_cons (ps_if (PW.pt (pw_or (pt_cmpR op_eq (pe_ix (ixU (K := K) rfl) (pv 1) pe_int (fun _ _ => rfl)) pe_str (nomark _)) (pw_or (pt_not (pt_val (pe_callB (allU (K := K) rfl rfl) (by rfl) (E.fr (x := "all") (by decide +kernel)) (by decide +kernel) (pa_cons (pe_lc (own := [("_law_letter", 8)]) (g := (gName 8)) (tt := tYes) rfl sc__law_read.nd (pi_str (pe_ix (ixU (K := K) rfl) (pv 1) pe_int (fun _ _ => rfl))) (blkOk_by (own := [("_law_letter", 8)]) (N := ["_law_note", "_law_words", "_law_found", "_law_word", "_law_label_here", "_law_dot", "_law_number", "_law_row", "_law_letter"]) (sc := defScope s__law_read) (by decide +kernel)) (fun _ _ _ _ _ => (pg_name (i := 8) sc__law_read.nd rfl (Or.inl rfl))) (fun _ _ _ _ _ => pts_nil) (fun _ _ _ _ _ => (pe_cmpR (inU (K := K) rfl) (pv 8) pe_str (by rfl)))) pa_nil)))) (pw_or1 (pt_cmpR op_gt (pe_callB (lenU (K := K) rfl) (by rfl) (E.fr (x := "len") (by decide +kernel)) (by decide +kernel) (pa_cons (pe_ix (ixU (K := K) rfl) (pv 1) pe_int (fun _ _ => rfl)) pa_nil)) pe_int (nomark _)))))) (pss_one (ps_ret pe_non)) pss_nil)
      (pss_cons (ps_set (i := 2) sc__law_read.nd rfl (Or.inl rfl) (pe_lst (pa_cons (pe_callTy call_int_str (by rfl) (E.fr (x := "int") (by decide +kernel)) (by decide +kernel) (pa_cons (pe_ix (ixU (K := K) rfl) (pv 1) pe_int (fun _ _ => rfl)) pa_nil)) pa_nil)))
      (pss_cons (ps_for PassesOwn.never rfl (pi_list (pe_slice (slLU (K := K) rfl) (pv 1) (po_some pe_int) po_none)) (pg_name (i := 3) sc__law_read.nd rfl (Or.inl rfl)) (pss_cons (ps_asg (pe_partU (pv 3) pe_str) (pg_tup rfl (pgs_cons (pg_name (i := 4) sc__law_read.nd rfl (Or.inl rfl)) (pgs_cons (pg_name (i := 5) sc__law_read.nd rfl (Or.inl rfl)) (pgs_cons (pg_name (i := 6) sc__law_read.nd rfl (Or.inl rfl)) pgs_nil)))))
      (pss_cons (ps_if (PW.pt (pw_or (pt_cmpR op_ne (pe_callB (lenU (K := K) rfl) (by rfl) (E.fr (x := "len") (by decide +kernel)) (by decide +kernel) (pa_cons (pv 6) pa_nil)) pe_int (nomark _)) (pw_or1 (pt_cmpR (ninU (K := K) rfl) (pv 6) pe_str (by rfl))))) (pss_one (ps_ret pe_non)) pss_nil)
      (pss_one (ps_expr (pe_app (pv 2) (pe_tup (pa_cons (pv 4) (pa_cons (pe_callTy call_int_str (by rfl) (E.fr (x := "int") (by decide +kernel)) (by decide +kernel) (pa_cons (pv 6) pa_nil)) pa_nil)))))))))
      (pss_cons (ps_set (i := 7) sc__law_read.nd rfl (Or.inl rfl) (pe_callTy (tupU (K := K) rfl) (by rfl) (E.fr (x := "tuple") (by decide +kernel)) (by decide +kernel) (pa_cons (pv 2) pa_nil)))
      (pss_one (ps_ret (pe_ifExp (PW.pt (pw_and (pt_val (pe_ca c__law_is_right (hr.mono (by first | decide | omega)) (by rfl) (pa_cons (pv 7) pa_nil))) (pw_and1 (pt_cmpR op_eq (pe_ca c__law_text (hr.mono (by first | decide | omega)) (by rfl) (pa_cons (pv 7) pa_nil)) (pv 0) (nomark _))))) (pv 7) pe_non)))))))), ?_⟩
  refine q_asg (A := slx ((wordsOf t).map V.str)) i0 (x_split (e_vx rfl) e_cx (by omega) rfl) fun v1 H1 i1 g1 hv1 => ?_
  obtain ⟨e0, ps, hw⟩ := List.exists_cons_of_ne_nil (words_ne t)
  rw [hw] at hv1
  obtain ⟨a, ws, rfl, na, ha, rfl⟩ := hv1
  have hps : ps.length ≤ 15001 := by have := words_len t; rw [hw, List.length_cons] at this; omega
  have hl0 : e0.length ≤ 15000 := Nat.le_trans (word_len (by rw [hw]; exact List.mem_cons_self)) ht
  have hlp : ∀ w ∈ ps, w.length ≤ 15000 := fun w hm => Nat.le_trans (word_len (t := t) (by rw [hw]; exact List.mem_cons_of_mem _ hm)) ht
  have isq : ∀ {H2}, Gr p H1 H2 → ∀ v H3, Gr p H2 H3 → (sx (p := p) (.ref a)).P v H3 → ∃ a, v = .ref a ∧ (SqL K H3 a (V.str e0 :: ps.map V.str) ∨ SqT K H3 a (V.str e0 :: ps.map V.str)) := fun g2 v H3 g3 e => ⟨a, e, .inl (SqL.of ((g2.trans g3) a _ na ha))⟩
  have w0 : ∀ {σ : L2.St} {H2}, σ[1]? = some (some (.ref a)) → Gr p H1 H2 → Ev p (tOp (rIx K) (tVar 1) (tC (.int 0))) σ H2 (sx (.str e0)) := fun hs g2 => x_ixQ (xs := V.str e0 :: ps.map V.str) (e_vx hs) (isq g2) e_cx (atI_nat (j := 0) rfl)
  refine q_ifr (v := .non) (b := decide (V.str e0 = V.str "") || (!(allIn e0 sDig) || decide ((10 : Int) < (e0.length : Int)))) i1 (k_or (k_test (x_eq (x := .str e0) (y := .str "") (w0 rfl (Gr.refl H1)) e_cx rfl)) fun _ => k_or (k_not (k_b (allS (fun c => decide (c ∈ sDig.cps.toList)) (w0 rfl (Gr.refl H1)) (by omega) (fun _ => rfl) fun c q H2 hc => x_inS (e_vx rfl) e_cx))) fun _ => k_test (x_ii (i := (e0.length : Int)) (j := 10) (x_len (w0 rfl (Gr.refl H1)) (big (by omega))) e_cx)) (fun _ => e_cx) (fun e H2 i2 g2 => ?_) fun e H2 i2 g2 => ?_
  · refine q .non H2 i2 (g1.trans g2) ?_
    rw [parse_no hw (.inl ?_)]
    · rfl
    · cases hd : isDec e0 10 with
      | false => rfl
      | true =>
        exfalso
        obtain ⟨f1, f2, f3⟩ := isDec_dig hd
        rw [allIn_dig.mpr f1.1, decide_eq_false (show ¬ (10 : Int) < (e0.length : Int) by omega), decide_eq_false fun z => f1.2 (by rw [V.str.inj z]; rfl)] at e
        cases e
  have hdig : allIn e0 sDig = true ∧ e0.length ≤ 10 ∧ e0 ≠ "" := by
    refine ⟨?_, ?_, fun z => ?_⟩
    · cases hh : allIn e0 sDig with
      | true => rfl
      | false => rw [hh, Bool.not_false, Bool.true_or, Bool.or_true] at e; cases e
    · by_cases hh : (10 : Int) < (e0.length : Int)
      · rw [decide_eq_true hh, Bool.or_true, Bool.or_true] at e; cases e
      · omega
    · rw [decide_eq_true (by rw [z]), Bool.true_or] at e; cases e
  obtain ⟨d1, d2, d3⟩ := hdig
  have f1 : DigS e0 := ⟨allIn_dig.mp d1, fun z => d3 (TL.ext_tl z)⟩
  have g12 := g1.trans g2
  -- found
  refine q_asg (A := sF p H2 [.int ((valS e0 : Nat) : Int)]) i2 (x_lstF (xa_cons (x_intS (w0 rfl g2) (int_val f1 (by omega)) (by omega)) xa_nil) (by rw [sizeLine_eq]; exact Nat.le_of_ble_eq_true rfl)) fun v3 H3 i3 g3 hv3 => ?_
  obtain ⟨b, rfl, nb, hn, hb⟩ := hv3
  have g23 := g2.trans g3
  have nba : Nv (p.and b (.lst [V.int ((valS e0 : Nat) : Int)])) a := na.and fun z => by
    have := g2 a _ na ha
    rw [← z, hn] at this
    cases this
  have bad : ∀ {H'}, Gr (p.and b (.lst [V.int ((valS e0 : Nat) : Int)])) H3 H' → Gr p H H' := fun g => g12.trans (gr_out g3 hn g)
  refine q_forL (p := p.and b (.lst [V.int ((valS e0 : Nat) : Int)])) (B := slx (cutV (V.str e0 :: ps.map V.str) (some 1) none)) (i3.and hb nb) (x_slL (K := K) (B := sx (.ref a)) (xs := V.str e0 :: ps.map V.str) (lo := some 1) (hi := none) (e_vx rfl) (fun v H4 g4 e => ⟨a, e, SqL.of (g4 a _ nba (g23 a _ na ha))⟩) (fun _ _ q => o_int q) (fun _ _ q => o_none q)) fun v4 H4 i4 g4 hv4 => ?_
  obtain ⟨c, ws, rfl, nc, hc, ew⟩ := hv4
  rw [cut1] at ew
  subst ew
  have hb4 : H4 b = some (.lst [V.int ((valS e0 : Nat) : Int)]) := i4.ex (b, _) List.mem_cons_self
  refine ⟨c, ps.map V.str, fun i σ' H' => Iv p H' ∧ Gr (p.and b (.lst [V.int ((valS e0 : Nat) : Int)])) H4 H' ∧ (∃ o3 o4 o5 o6, σ' = [some (V.str t), some (V.ref a), some (V.ref b), o3, o4, o5, o6, none, none]) ∧ (∀ (j : Nat) w, j < i → ps[j]? = some w → nOk w = true) ∧ ∃ acc, H' b = some (.lst acc) ∧ AllL Pd (p.and b (.lst [V.int ((valS e0 : Nat) : Int)])) H' acc (epD e0 :: (ps.take i).map parD),
    rfl, nc, hc, ⟨i4.back, Gr.refl H4, ⟨_, _, _, _, rfl⟩, fun j w hj => absurd hj (Nat.not_lt_zero _), _, hb4, .cons (.int _) .nil⟩, fun i σ' H' h => h.2.1, fun i x σ' H' hx h => ?_, fun σ' H' h => ?_⟩
  · obtain ⟨i5, g5, ⟨o3, o4, o5, o6, rfl⟩, hall, acc, hacc, hA⟩ := h
    rw [List.getElem?_map] at hx
    cases hi : ps[i]? with
    | none => rw [hi] at hx; cases hx
    | some w0 =>
    rw [hi] at hx
    have ex : V.str w0 = x := Option.some.inj hx
    subst ex
    have hm := List.mem_of_getElem? hi
    have hlw := hlp w0 hm
    obtain ⟨l1, l2⟩ := part_lens w0
    show tSeq _ _ _ [some (V.str t), some (V.ref a), some (V.ref b), some (V.str w0), o4, o5, o6, none, none] H'
    refine q_tup3 (p := p) (x := .str (pLab w0)) (y := .str (pDot w0)) (z := .str (pNum w0)) i5 (x_part (e_vx rfl) e_cx (by omega) rfl) fun H5 i6 g6 => ?_
    show tSeq _ _ _ [some (V.str t), some (V.ref a), some (V.ref b), some (V.str w0), some (.str (pLab w0)), some (.str (pDot w0)), some (.str (pNum w0)), none, none] H5
    have g46 : Gr (p.and b (.lst [V.int ((valS e0 : Nat) : Int)])) H4 H5 := g5.trans fun a o n h => g6 a o n.back h
    have h5b : H5 b = some (.lst acc) := g6 b _ nb hacc
    refine q_ifr (p := p) (v := .non) (b := !(nOk w0)) i6 ?_ (fun _ => e_cx) (fun e H6 i7 g7 => ?_) fun e H6 i7 g7 => ?_
    · by_cases hlen : (pNum w0).length = 1
      · obtain ⟨ch, hch⟩ := one_sign hlen
        refine k_to (k_or (k_test (x_ne (x := .int (((pNum w0).length : Nat) : Int)) (y := .int 1) (x_len (e_vx rfl) (big (by omega))) e_cx rfl)) fun _ => k_test (x_ninS (c := ch) (x_to (e_vx (v := .str (pNum w0)) rfl) (by rw [hch])) e_cx)) ?_
        unfold nOk
        rw [hlen, decide_eq_true (p := V.int ((1 : Nat) : Int) = V.int 1) rfl, decide_eq_true (p := (1 : Nat) = 1) rfl, hch]
        show (false || !decide (ch ∈ sDig.cps.toList)) = !(true && ([ch].all fun c => decide (c ∈ sDig.cps.toList)))
        rw [List.all_cons, List.all_nil, Bool.and_true]
        rfl
      · refine k_to (k_or (b := true) (k_test (x_ne (x := .int (((pNum w0).length : Nat) : Int)) (y := .int 1) (x_len (e_vx rfl) (big (by omega))) e_cx rfl)) fun z => ?_) ?_
        · exfalso
          rw [decide_eq_false fun q => hlen (by have := V.int.inj q; omega)] at z
          cases z
        · unfold nOk
          rw [decide_eq_false hlen, Bool.false_and, Bool.or_true]
          rfl
    · refine q .non H6 i7 ((bad (g4.trans g46)).trans g7) ?_
      rw [parse_no hw (.inr ⟨w0, hm, by cases hh : nOk w0 <;> rw [hh] at e <;> first | rfl | cases e⟩)]
      rfl
    · have hok : nOk w0 = true := by cases hh : nOk w0 <;> rw [hh] at e <;> first | rfl | cases e
      obtain ⟨k1, k2⟩ := Bool.and_eq_true_iff.mp (show (decide ((pNum w0).length = 1) && allIn (pNum w0) sDig) = true from hok)
      have k1 := of_decide_eq_true k1
      have kd : DigS (pNum w0) := ⟨allIn_dig.mp k2, ne_nil (by omega)⟩
      have h6b : H6 b = some (.lst acc) := g7 b _ nb h5b
      have hal : acc.length ≤ 16000 := by
        rw [hA.1, List.length_cons, List.length_map, List.length_take]
        omega
      refine s_app (p := p) (B := fun q => stP q Pd [.str (pLab w0), .int ((valS (pNum w0) : Nat) : Int)]) nb i7 h6b rfl (by omega) (l_tup (Y := Pd) (es := [.str (pLab w0), .int ((valS (pNum w0) : Nat) : Int)]) (la_cons (Ev.imp (A := sx (.str (pLab w0))) (e_vx rfl) fun v H2 e => by rw [show v = _ from e]; exact .str _ (by omega)) (la_cons (Ev.imp (A := sx (.int ((valS (pNum w0) : Nat) : Int))) (x_intS (e_vx rfl) (int_val kd (by omega)) (by omega)) fun v H2 e => by rw [show v = _ from e]; exact .int _) la_nil)) (Nat.le_of_ble_eq_true rfl)) fun y H7 i8 g8 h7b hy => ?_
      have g8' : Gr (p.and b (.lst [V.int ((valS e0 : Nat) : Int)])) H6 H7 := gr_and g8
      have g7' : Gr (p.and b (.lst [V.int ((valS e0 : Nat) : Int)])) H5 H6 := fun a o n h => g7 a o n.back h
      have g6' : Gr (p.and b (.lst [V.int ((valS e0 : Nat) : Int)])) H' H5 := fun a o n h => g6 a o n.back h
      refine ⟨i8.upd nb, ((g46.trans g7').trans g8').trans upd_and, ⟨_, _, _, _, rfl⟩, fun j z hj hz => ?_, acc ++ [y], upd_same, ?_⟩
      · by_cases hji : j < i
        · exact hall j z hji hz
        · have : j = i := by omega
          rw [this, hi] at hz
          rw [← Option.some.inj hz]
          exact hok
      · rw [List.take_add_one, hi, List.map_append, ← List.cons_append]
        refine AllL.app ((((hA.gr g6').gr g7').gr g8').gr upd_and) (.cons ?_ .nil)
        have : Dat (p.and b (.lst acc)) H7 y (parD w0) := stP_dat (Nat.le_of_ble_eq_true rfl) hy
        exact (this.of fun a n => nv_and n).gr upd_and
  · obtain ⟨i5, g5, ⟨o3, o4, o5, o6, rfl⟩, hall, acc, hacc, hA⟩ := h
    rw [List.length_map] at hall hA
    rw [List.take_length] at hA
    have hn' : ∀ w ∈ ps, nOk w = true := fun w hm => by
      obtain ⟨j, hj⟩ := List.getElem?_of_mem hm
      exact hall j w (List.getElem?_eq_some_iff.mp hj).1 hj
    have hA' : AllL Pd p H' acc (epD e0 :: ps.map parD) := ⟨hA.1, fun i v d e1 e2 => (show Dat _ H' v d from hA.2 i v d e1 e2).back⟩
    refine q_asg (p := p) i5 (x_tupD (K := K) (es := epD e0 :: ps.map parD) (e_var (A := slP p Pd (epD e0 :: ps.map parD)) rfl ⟨b, acc, rfl, nb, hacc, hA'⟩) (by rw [List.length_cons, List.length_map]; omega)) fun v6 H6 i6 g6 hv6 => ?_
    have hd6 : Dat p H6 v6 (.tup (epD e0 :: ps.map parD)) := hv6
    refine s_ret (p := p) (A := ⟨fun v H => OptD p H v (parseW (wordsOf t)), fun v H H' g h => by
      revert h
      cases parseW (wordsOf t) with
      | none => exact fun h => h
      | some r => exact fun h => Dat.gr h g⟩) i6 (e_if (B := fun c => c = (idxD (.tup (epD e0 :: ps.map parD)) && decide (V.str (idxText (.tup (epD e0 :: ps.map parD))) = V.str t))) (k_and (k_b (x_call (a_cons (e_vx rfl) a_nil) fun H7 g7 => pu_D1 (hd6.gr g7).non')) fun hi => k_test (x_eq (x := .str (idxText (.tup (epD e0 :: ps.map parD)))) (y := .str t) (x_call (a_cons (e_vx rfl) a_nil) fun H7 g7 => pu_txt (hd6.gr g7).non' hi) (e_vx rfl) rfl)) (fun hc => ?_) fun hc => ?_) fun v H7 i7 g7 h7 => q v H7 i7 (((bad (g4.trans g5)).trans g6).trans g7) h7
    · refine e_var rfl ?_
      show OptD p H6 v6 (parseW (wordsOf t))
      rw [parse_law hw f1 d2 hn', ← hc]
      exact hd6
    · refine e_c ?_
      show OptD p H6 .non (parseW (wordsOf t))
      rw [parse_law hw f1 d2 hn', ← hc]
      rfl
end
end K21
namespace K21
open PySem PySem.Spec PyProof.Rows L2 Hk
/-! ### drawn labels, drawn indexes -/
theorem nums_ok : (List.range 99).all (fun i => labelD (.str (numStr (1 + (i : Nat))))) = true := by decide +kernel
theorem num_label {r : Int} (h0 : 0 ≤ r) (h1 : r < 99) : labelD (.str (numStr (1 + r))) = true := by
  have := List.all_eq_true.mp nums_ok r.toNat (List.mem_range.mpr (by omega))
  rwa [show ((r.toNat : Nat) : Int) = r by omega] at this
theorem tl_join0 : ∀ zs : List Str, (Txt.join "" zs).cps.toList = (zs.map fun z => z.cps.toList).flatten := fun zs => by
  rw [TL.join_eq]
  show TL.tl (Str.join "" zs) = _
  rw [TL.tl_join]
  induction zs with
  | nil => rfl
  | cons z zs ih =>
    cases zs with
    | nil => simp [TL.joinL]
    | cons y r =>
      show TL.tl z ++ ([] ++ TL.joinL [] ((y :: r).map TL.tl)) = _
      rw [List.nil_append]
      rw [show TL.joinL [] ((y :: r).map TL.tl) = ((y :: r).map fun z => z.cps.toList).flatten from ih]
      rfl
/-- one small letter -/
def Let (z : Str) : Prop := ∃ c, z.cps.toList = [c] ∧ c ∈ sSmall.cps.toList
theorem joined_small : ∀ {zs : List Str}, (∀ z ∈ zs, Let z) → allIn (Txt.join "" zs) sSmall = true ∧ (Txt.join "" zs).length = zs.length := fun {zs} h => by
  have key : ∀ zs : List Str, (∀ z ∈ zs, Let z) → ((zs.map fun z => z.cps.toList).flatten.all fun c => decide (c ∈ sSmall.cps.toList)) = true ∧ (zs.map fun z => z.cps.toList).flatten.length = zs.length := by
    intro zs
    induction zs with
    | nil => intro _; exact ⟨rfl, rfl⟩
    | cons z zs ih =>
      intro h
      obtain ⟨a, b⟩ := ih fun y hy => h y (List.mem_cons_of_mem _ hy)
      obtain ⟨c, hc, hm⟩ := h z List.mem_cons_self
      rw [List.map_cons, List.flatten_cons, hc]
      refine ⟨?_, ?_⟩
      · rw [List.all_append, a, List.all_cons, decide_eq_true hm]
        rfl
      · rw [List.length_append, b]
        show 1 + zs.length = zs.length + 1
        omega
  obtain ⟨a, b⟩ := key zs h
  refine ⟨?_, ?_⟩
  · unfold allIn
    rw [tl_join0]
    exact a
  · rw [← len_toList, tl_join0]
    exact b
theorem word_label {s : Str} (h1 : allIn s sSmall = true) (h2 : 1 ≤ s.length) (h3 : s.length ≤ 8) (h4 : inV (.str s) (wsR.map V.str) = false) : labelD (.str s) = true := by
  show (isName s || labS s) = true
  unfold isName lenIn
  rw [decide_eq_true (show (1 : Int) ≤ (s.length : Int) by omega), decide_eq_true (show (s.length : Int) ≤ 8 by omega), h1, h4]
  rfl
def ar1 : Addr → List V → Vo → Hp → Prop := fun a vs _ _ => vs = [.ref a]
abbrev spLabel : Sp := spP ar1 fun _ p => ss fun z => labelD (.str z) = true
section
variable {P : Program} {w : World} {K : PySem.W.Frag} {mg : Str → Option Value} {base : Heap} {p : Vo} {σ : L2.St} {H : Hp} {ta tb te : TE} {tr : TA} {a : Addr}
theorem len1 : ∀ {A : List V → ∀ p : Vo, Sy p} vs H Q E, spP ar1 A vs H Q E → vs.length = 1 := fun {A} vs H Q E h => by obtain ⟨p, a, _, _, e, _⟩ := h; rw [show vs = _ from e]; rfl
theorem e_call1 {A : List V → ∀ p : Vo, Sy p} {B : Sy p} (hp : p.pot = some a) (ha : Ev p ta σ H (sx (.ref a))) (hB : ∀ v H, (A [.ref a] p).P v H → B.P v H) : Ev p (tCall (spP ar1 A) [] E0 (tCons ta tNil)) σ H B :=
  e_callP hp (a_cons ha a_nil) fun vs H1 g iv os => by
    obtain ⟨v, ws, rfl, ev, rfl⟩ := os
    obtain rfl : v = .ref a := ev
    exact ⟨rfl, fun v H2 h => hB v H2 h⟩
theorem ok_label (E : En K mg) (F : Df K mg "_law_label" s__law_label) (c__law_draw : Ca P w K mg base 1 "_law_draw" spDraw) (c__law_reserved : Ca P w K mg base 1 "_law_reserved" spRes) : Ca P w K mg base 2 "_law_label" spLabel := by
  refine ca_mk F sc__law_label (fun _ _ _ _ _ _ us hl => match us, hl with | [_], _ => rfl) (len1) (fun f cdv A outer s H vs Q E' hr h => ?_)
  obtain ⟨p, a, hp, iv, e, q⟩ := h
  obtain rfl : vs = [.ref a] := e
  refine ⟨_, (pss_cons (ps_if (pt_cmpR op_eq (pe_ca c__law_draw (hr.mono (by first | decide | omega)) (by rfl) (pa_cons (pv 0) (pa_cons pe_int pa_nil))) pe_int (nomark _)) (pss_one (ps_ret (pe_callTy call_str_int (by rfl) (E.fr (x := "str") (by decide +kernel)) (by decide +kernel) (pa_cons (pe_op op_addU pe_int (pe_ca c__law_draw (hr.mono (by first | decide | omega)) (by rfl) (pa_cons (pv 0) (pa_cons pe_int pa_nil)))) pa_nil)))) pss_nil)
      (pss_cons (ps_set (i := 1) sc__law_label.nd rfl (Or.inl rfl) (pe_ix (ixU (K := K) rfl) (pe_lst (pa_cons pe_int (pa_cons pe_int (pa_cons pe_int (pa_cons pe_int pa_nil))))) (pe_ca c__law_draw (hr.mono (by first | decide | omega)) (by rfl) (pa_cons (pv 0) (pa_cons pe_int pa_nil))) (fun _ _ => rfl)))
      (pss_cons (ps_set (i := 2) sc__law_label.nd rfl (Or.inl rfl) (pe_joinU (K := K) rfl pe_str (pe_lc (own := [("_law_k", 3)]) (g := (gName 3)) (tt := tYes) rfl sc__law_label.nd (pi_range1 (by rfl) (E.fr (x := "range") (by decide +kernel)) (pa_cons (pv 1) pa_nil)) (blkOk_by (own := [("_law_k", 3)]) (N := ["_law_pot_here", "_law_size", "_law_word", "_law_k"]) (sc := defScope s__law_label) (by decide +kernel)) (fun _ _ _ _ _ => (pg_name (i := 3) sc__law_label.nd rfl (Or.inl rfl))) (fun _ _ _ _ _ => pts_nil) (fun _ _ _ _ _ => (pe_ix (ixU (K := K) rfl) pe_str (pe_ca c__law_draw (hr.mono (by first | decide | omega)) (by rfl) (pa_cons (pv 0) (pa_cons pe_int pa_nil))) (fun _ _ => rfl))))))
      (pss_one (ps_ret (pe_ifExp (pt_cmpR (ninU (K := K) rfl) (pv 2) (pe_ca0 c__law_reserved (hr.mono (by first | decide | omega)) (by rfl)) (by rfl)) (pv 2) pe_str)))))), ?_⟩
  refine q_if (B := fun _ => True) iv (t_test (e_op (C := sb fun _ => True) (e_drawN hp (e_vx rfl) e_cx (n := 3) (by decide) (by decide)) e_cx fun x y H1 i1 g1 ⟨i, ei, _⟩ ey => rv i1 ⟨decide (V.int i = V.int 0), rfl, trivial⟩ fun Q q => by rw [ei, show y = _ from ey]; exact ⟨rfl, q⟩)) (fun _ H1 i1 g1 => ?_) fun _ H1 i1 g1 => ?_
  · refine s_ret (A := ss fun z => labelD (.str z) = true) i1 ?_ fun v H2 i2 g2 h => q v H2 i2 (g1.trans g2) h
    exact e_cb (a_cons (e_addI (c := fun i => i = 1) (d := fun r => 0 ≤ r ∧ r < 99) (e := fun i => ∃ r, i = 1 + r ∧ 0 ≤ r ∧ r < 99) (e_ci rfl) (e_drawN hp (e_vx rfl) e_cx (by decide) (by decide)) fun i j ei ej => ⟨j, by rw [ei], ej⟩) a_nil) fun vs H2 i2 g2 os => by
      obtain ⟨v, ws, rfl, ⟨i, rfl, r, rfl, r0, r1⟩, rfl⟩ := os
      exact rv i2 ⟨numStr (1 + r), rfl, num_label r0 r1⟩ fun Q q => ⟨1 + r, rfl, log_small (by omega) (by omega), q⟩
  · refine q_asg (A := si fun n => n = 1 ∨ n = 2 ∨ n = 8) i1 ((x_ixO (K := K) (Y := Px) (es := [V.int 1, V.int 1, V.int 2, V.int 8]) (n := 4) ((x_lst (ws := [V.int 1, V.int 1, V.int 2, V.int 8]) (a_cons e_cx (a_cons e_cx (a_cons e_cx (a_cons e_cx a_nil)))) (by rw [sizeLine_eq]; exact Nat.le_of_ble_eq_true rfl)).imp fun v _ h => px_slx h) (e_drawN hp (e_vx rfl) e_cx (by decide) (by decide)) (by decide)).imp fun v _ ⟨x, hx, e⟩ => by
      have e : v = x := e
      simp only [List.mem_cons, List.not_mem_nil, or_false] at hx
      rcases hx with h | h | h | h
      · exact ⟨1, e.trans h, .inl rfl⟩
      · exact ⟨1, e.trans h, .inl rfl⟩
      · exact ⟨2, e.trans h, .inr (.inl rfl)⟩
      · exact ⟨8, e.trans h, .inr (.inr rfl)⟩) fun v H2 i2 g12 hv => ?_
    obtain ⟨n, rfl, hn⟩ := hv
    have g2 := g1.trans g12
    refine q_asg (A := ss fun z => allIn z sSmall = true ∧ 1 ≤ z.length ∧ z.length ≤ 8) i2 ((x_joinE (K := K) (a := "") (R := fun es => 1 ≤ es.length ∧ es.length ≤ 8 ∧ ∀ z ∈ es, Let z) e_cx (lcR_ex (N0 := 1) (N := 8) (C := Let) (e_var (A := si fun m => ((1 : Nat) : Int) ≤ m ∧ m ≤ ((8 : Nat) : Int)) rfl ⟨n, rfl, by omega⟩) (by decide) (fun _ => rfl) fun i D l H3 g3 hD => ?_) fun ys ⟨h1, h2, h3⟩ => ?_).imp fun v _ ⟨z, e, ys, ⟨h1, h2, h3⟩, ez⟩ => ?_) fun v H3 i3 g23 hv => ?_
    · refine e_op e_cx (e_drawN (p := p.and D (.lst l)) (n := 26) hp (e_vx rfl) e_cx (by decide) (by decide)) fun x y H4 i4 g4 ex ⟨r, ey, r0, r1⟩ => ?_
      have hk : r.toNat < sSmall.cps.toList.length := by rw [show sSmall.cps.toList.length = 26 from by decide +kernel]; omega
      have hat : atI sSmall.cps.toList r = some sSmall.cps.toList[r.toNat] := at_of (k := r.toNat) (by omega) (List.getElem?_eq_getElem hk)
      exact rv i4 ⟨⟨#[sSmall.cps.toList[r.toNat]]⟩, ⟨_, rfl, List.getElem_mem hk⟩, rfl⟩ fun Q q => .inr (.inr ⟨sSmall, r, _, ex, ey, big (by decide +kernel), hat, q⟩)
    · have hs : ∀ (zs : List Str), (∀ z ∈ zs, Let z) → (zs.map (·.length)).sum = zs.length := fun zs => by
        induction zs with
        | nil => intro _; rfl
        | cons z zs ih =>
          intro h
          obtain ⟨c, hc, _⟩ := h z List.mem_cons_self
          have := len_toList z
          rw [hc] at this
          rw [List.map_cons, List.sum_cons, ih fun y hy => h y (List.mem_cons_of_mem _ hy), List.length_cons, ← this]
          show 1 + _ = _
          omega
      rw [hs ys h3, show ("" : Str).length = 0 from rfl]
      omega
    · obtain ⟨a1, a2⟩ := joined_small h3
      exact ⟨z, e, by rw [ez]; exact a1, by rw [ez, a2]; exact h1, by rw [ez, a2]; exact h2⟩
    · obtain ⟨z, rfl, z1, z2, z3⟩ := hv
      have g3 := g2.trans g23
      refine s_ret (A := ss fun z => labelD (.str z) = true) i3 (e_if (B := fun b => b = !inV (.str z) (wsR.map V.str)) (k_test (x_ninQ (v := .str z) (e_vx rfl) rfl x_res sq_l (flat_strs _))) (fun h => e_ssx (e_vx rfl) (word_label z1 z2 z3 (by cases hh : inV (.str z) (wsR.map V.str) <;> rw [hh] at h <;> first | rfl | cases h))) fun _ => e_ssx e_cx (by decide +kernel)) fun v H4 i4 g4 h => q v H4 i4 (g3.trans g4) h
/-- a right index, not a large one -/
def Row (r : PyData) : Prop := ∃ (e : Int) (ps : List PyData), r = .tuple (.int e :: ps) ∧ 0 ≤ e ∧ e ≤ 10 ^ 9 ∧ idxD (sD r) = true ∧ Gd 200 2 r ∧ (idxText (sD r)).length ≤ 100
abbrev spIndex : Sp := spP ar1 fun _ p => syO p Pr Row
/-- a part of one -/
def PartP (d : PyData) : Prop := ∃ (l : Str) (n : Int), d = .tuple [.str l, .int n] ∧ labelD (.str l) = true ∧ 0 ≤ n ∧ n ≤ 9
end
end K21
namespace K21
open PySem PySem.Spec PyProof.Rows L2 Hk
theorem small_lt : ∀ c ∈ sSmall.cps.toList, c < 128 := by
  intro c hc
  rw [show sSmall.cps.toList = [97, 98, 99, 100, 101, 102, 103, 104, 105, 106, 107, 108, 109, 110, 111, 112, 113, 114, 115, 116, 117, 118, 119, 120, 121, 122] from by decide +kernel] at hc
  simp only [List.mem_cons, List.not_mem_nil, or_false] at hc
  omega
/-- what signs a label has -/
theorem label_signs {s : Str} (h : labelD (.str s) = true) : ∀ c ∈ s.cps.toList, (97 ≤ c ∧ c ≤ 122) ∨ (48 ≤ c ∧ c ≤ 57) := by
  intro c hc
  rcases (Bool.or_eq_true _ _).mp (show (isName s || labS s) = true from h) with h | h
  · have h2 := (Bool.and_eq_true_iff.mp (Bool.and_eq_true_iff.mp (show (lenIn s && (allIn s sSmall && _)) = true from h)).2).1
    have hm : c ∈ sSmall.cps.toList := of_decide_eq_true (List.all_eq_true.mp h2 c hc)
    left
    rw [show sSmall.cps.toList = [97, 98, 99, 100, 101, 102, 103, 104, 105, 106, 107, 108, 109, 110, 111, 112, 113, 114, 115, 116, 117, 118, 119, 120, 121, 122] from by decide +kernel] at hm
    simp only [List.mem_cons, List.not_mem_nil, or_false] at hm
    omega
  · have h1 := (Bool.and_eq_true_iff.mp (show (isDec s 2 && _) = true from h)).1
    exact .inr ((isDec_dig h1).1.1 c hc)
theorem g_str {s : Str} {N : Nat} (h : ∀ c ∈ s.cps.toList, c < 16 ^ 8) (hz : s.length ≤ N) : Gd N 0 (.str s) := by
  refine ⟨?_, ?_, ?_, ?_⟩
  · simp only [PyData.leavesShort]
    exact List.all_eq_true.mpr fun c hc => decide_eq_true (h c hc)
  · simp only [PyData.showable]
  · simp only [PyData.bulk]; exact hz
  · simp only [PyData.depth]; omega
theorem g_int {i : Int} (h0 : i.natAbs.log2 < 1920) (h1 : (numStr i).length ≤ 40) : Gd 0 0 (.int i) := by
  refine ⟨?_, ?_, ?_, ?_⟩
  · simp only [PyData.leavesShort, PyData.shown]
    exact decide_eq_true h1
  · simp only [PyData.showable]
    exact decide_eq_true h0
  · simp only [PyData.bulk]; omega
  · simp only [PyData.depth]; omega
theorem g_bool (b : Bool) : Gd 0 0 (.bool b) := ⟨by simp only [PyData.leavesShort], by simp only [PyData.showable], by simp only [PyData.bulk]; omega, by simp only [PyData.depth]; omega⟩
theorem g_none : Gd 0 0 .none := ⟨by simp only [PyData.leavesShort], by simp only [PyData.showable], by simp only [PyData.bulk]; omega, by simp only [PyData.depth]; omega⟩
theorem g_part {d : PyData} (h : PartP d) : Gd 10 1 d := by
  obtain ⟨l, n, rfl, hl, n0, n1⟩ := h
  obtain ⟨s, es, hz⟩ := label_str hl
  have e : l = s := D.str.inj es
  subst e
  have a := g_str (s := l) (N := 8) (fun c hc => by have := label_signs hl c hc; omega) hz
  have b := g_int (i := n) (log_small n0 (by omega)) (by rw [numStr_len n0 n1]; decide)
  exact (Gds.tup (Gds.cons a (Gds.cons b Gds.nil))).mono (by omega) (by omega)
theorem g_epoch {e : Int} (h0 : 0 ≤ e) (h1 : e ≤ 10 ^ 9) : Gd 0 0 (.int e) := g_int (log_small h0 h1) (Nat.le_trans (numStr_len10 h0 h1) (by decide))
theorem g_parts : ∀ {ps : List PyData}, (∀ d ∈ ps, PartP d) → Gds (11 * ps.length) 1 ps
  | [], _ => Gds.nil
  | d :: ps, h => (Gds.cons (g_part (h d List.mem_cons_self)) (g_parts fun e he => h e (List.mem_cons_of_mem _ he))).mono (by rw [List.length_cons]; omega) (Nat.le_refl _)
theorem join_len (a : Str) (ys : List Str) : (Txt.join a ys).length ≤ (ys.map (·.length)).sum + ys.length * a.length := by
  show (Builtin.Str.glued a ys).length ≤ _
  rw [size_glued]
  exact Nat.add_le_add_left (Nat.mul_le_mul_right _ (by omega)) _
theorem part_sD {d : PyData} (h : PartP d) : partD (sD d) = true := by
  obtain ⟨l, n, rfl, hl, n0, n1⟩ := h
  show (labelD (.str l) && (decide (0 ≤ n) && decide (n ≤ 9))) = true
  rw [hl, decide_eq_true n0, decide_eq_true n1]
  rfl
theorem row_of {e : Int} {ps : List PyData} (h0 : 0 ≤ e) (h1 : e ≤ 10 ^ 9) (hp : ps ≠ []) (hl : ps.length ≤ 5) (h : ∀ d ∈ ps, PartP d) : Row (.tuple (.int e :: ps)) := by
  have es : sD (.tuple (.int e :: ps)) = .tup (.int e :: ps.map sD) := by
    show D.tup (.int e :: sDs ps) = _
    rw [sDs_map]
  have hi : idxD (sD (.tuple (.int e :: ps))) = true := by
    rw [es]
    obtain ⟨p0, pr, rfl⟩ := List.exists_cons_of_ne_nil hp
    show ((decide (0 ≤ e) && decide (e ≤ 10 ^ 9)) && (sD p0 :: pr.map sD).all partD) = true
    rw [decide_eq_true h0, decide_eq_true h1]
    exact List.all_eq_true.mpr fun q hq => by
      obtain ⟨d, hd, rfl⟩ := List.mem_map.mp (show q ∈ (p0 :: pr).map sD from hq)
      exact part_sD (h d hd)
  refine ⟨e, ps, rfl, h0, h1, hi, ?_, ?_⟩
  · exact (Gds.tup (Gds.cons ((g_epoch h0 h1).mono (Nat.le_refl _) (by omega)) (g_parts h))).mono (by omega) (Nat.le_refl _)
  · rw [es]
    show (Txt.join " " (numStr e :: (ps.map sD).map partS)).length ≤ 100
    have j := join_len " " (numStr e :: (ps.map sD).map partS)
    have s1 := sum_le (c := 10) (fun d => (partS d).length) (ps.map sD) fun d hd => by
      obtain ⟨x, hx, rfl⟩ := List.mem_map.mp hd
      exact partS_len (part_sD (h x hx))
    have s2 := numStr_len10 h0 h1
    rw [List.map_cons, List.sum_cons, List.length_cons, List.length_map, List.length_map, show (" " : Str).length = 1 from rfl] at j
    rw [List.length_map] at s1
    rw [show ((ps.map sD).map partS).map (·.length) = (ps.map sD).map fun d => (partS d).length from by rw [List.map_map]; rfl] at j
    omega
section
variable {P : Program} {w : World} {K : PySem.W.Frag} {mg : Str → Option Value} {base : Heap} {p : Vo} {σ : L2.St} {H : Hp} {ta tb te : TE} {tr : TA} {a : Addr}
theorem ok_index (E : En K mg) (F : Df K mg "_law_index" s__law_index) (c__law_draw : Ca P w K mg base 1 "_law_draw" spDraw) (c__law_label : Ca P w K mg base 2 "_law_label" spLabel) : Ca P w K mg base 3 "_law_index" spIndex := by
  refine ca_mk F sc__law_index (fun _ _ _ _ _ _ us hl => match us, hl with | [_], _ => rfl) (len1) (fun f cdv A outer s H vs Q E' hr h => ?_)
  obtain ⟨p, a, hp, iv, e, q⟩ := h
  obtain rfl : vs = [.ref a] := e
  refine ⟨_, (pss_cons (ps_set (i := 1) sc__law_index.nd rfl (Or.inl rfl) (pe_ix (ixU (K := K) rfl) (pe_lst (pa_cons pe_int (pa_cons pe_int (pa_cons pe_int (pa_cons pe_int (pa_cons (pe_op op_powW pe_int pe_int) (pa_cons (pe_ca c__law_draw (hr.mono (by first | decide | omega)) (by rfl) (pa_cons (pv 0) (pa_cons (pe_op op_powW pe_int pe_int) pa_nil))) pa_nil))))))) (pe_ca c__law_draw (hr.mono (by first | decide | omega)) (by rfl) (pa_cons (pv 0) (pa_cons pe_int pa_nil))) (fun _ _ => rfl)))
      (pss_one (ps_ret (pe_op (catA (K := K) rfl) (pe_tup (pa_cons (pv 1) pa_nil)) (pe_callTy (tupU (K := K) rfl) (by rfl) (E.fr (x := "tuple") (by decide +kernel)) (by decide +kernel) (pa_cons (pe_lc (own := [("_law_k", 2)]) (g := (gName 2)) (tt := tYes) rfl sc__law_index.nd (pi_range1 (by rfl) (E.fr (x := "range") (by decide +kernel)) (pa_cons (pe_op op_addU pe_int (pe_ca c__law_draw (hr.mono (by first | decide | omega)) (by rfl) (pa_cons (pv 0) (pa_cons pe_int pa_nil)))) pa_nil)) (blkOk_by (own := [("_law_k", 2)]) (N := ["_law_pot_here", "_law_epoch", "_law_k"]) (sc := defScope s__law_index) (by decide +kernel)) (fun _ _ _ _ _ => (pg_name (i := 2) sc__law_index.nd rfl (Or.inl rfl))) (fun _ _ _ _ _ => pts_nil) (fun _ _ _ _ _ => (pe_tup (pa_cons (pe_ca c__law_label (hr.mono (by first | decide | omega)) (by rfl) (pa_cons (pv 0) pa_nil)) (pa_cons (pe_ca c__law_draw (hr.mono (by first | decide | omega)) (by rfl) (pa_cons (pv 0) (pa_cons pe_int pa_nil))) pa_nil))))) pa_nil)))))), ?_⟩
  let ci : Int → Prop := fun i => 0 ≤ i ∧ i ≤ 10 ^ 9
  refine q_asg (A := si ci) iv (int_y (D := fun e => e ∈ [(), (), (), (), (), ()]) (x_ixO (Y := Pi_ ci) (es := [(), (), (), (), (), ()]) (n := 6) (l_lst (la_cons (y_int (e_ci ⟨by decide, by decide⟩)) (la_cons (y_int (e_ci ⟨by decide, by decide⟩)) (la_cons (y_int (e_ci ⟨by decide, by decide⟩)) (la_cons (y_int (e_ci ⟨by decide, by decide⟩)) (la_cons (y_int (x_pow9.imp fun v _ e => ⟨10 ^ 9, e, by decide, by decide⟩)) (la_cons (y_int ((e_drawN (n := 10 ^ 9) hp (e_vx rfl) x_pow9 (by decide) (by decide)).imp fun v _ ⟨r, e, r0, r1⟩ => ⟨r, e, r0, by omega⟩)) la_nil)))))) (by decide)) (e_drawN hp (e_vx rfl) e_cx (by decide) (by decide)) (by decide))) fun v H1 i1 g1 hv => ?_
  obtain ⟨e, rfl, e0, e1⟩ := hv
  refine s_ret i1 (x_catTE (Y := Pr) (es := [PyData.int e]) (R := fun es => 1 ≤ es.length ∧ es.length ≤ 5 ∧ ∀ d ∈ es, PartP d) (l_tup (la_cons (Ev.imp (A := sx (.int e)) (e_vx rfl) fun v H2 ev => by rw [show v = _ from ev]; exact .int e) la_nil) (Nat.le_of_ble_eq_true rfl)) (x_tupE (lcR_ex (N0 := 1) (N := 5) (C := PartP) ((e_addI (c := fun i => i = 1) (d := fun r => 0 ≤ r ∧ r < 5) (e := fun i => 1 ≤ i ∧ i ≤ 5) (e_ci rfl) (e_drawN hp (e_vx rfl) e_cx (by decide) (by decide)) fun i j ei ej => by omega)) (by decide) (fun _ => rfl) fun i D l H2 g2 hD => ?_)) fun fs h => by rw [List.length_singleton]; omega) fun v H2 i2 g2 ⟨gs, ⟨fs, ⟨h1, h2, h3⟩, eg⟩, hv⟩ => q v H2 i2 (g1.trans g2) ⟨.tuple gs, ?_, stP_rp hv⟩
  · refine fun H3 i3 g3 Q' q' => ?_
    refine (e_tup (C := syO (p.and D (.lst l)) Pr PartP) (a_cons (A := ss fun z => labelD (.str z) = true) (e_call1 (p := p.and D (.lst l)) hp (e_vx rfl) fun v H h => h) (a_cons (e_drawN (p := p.and D (.lst l)) (n := 10) hp (e_vx rfl) e_cx (by decide) (by decide)) a_nil)) (by rw [sizeLine_eq]; exact Nat.le_of_ble_eq_true rfl) fun vs b H4 i4 g4 os nb hb => ?_) H3 i3 g3 Q' q'
    obtain ⟨x, w1, rfl, ⟨z, rfl, hz⟩, y, w2, rfl, ⟨m, rfl, m0, m1⟩, rfl⟩ := os
    refine ⟨.tuple [.str z, .int m], ⟨z, m, rfl, hz, m0, by omega⟩, .tup nb hb rfl fun i v d e1 e2 => ?_⟩
    match i, e1, e2 with
    | 0, e1, e2 => rw [← Option.some.inj e1, ← Option.some.inj e2]; exact .str z
    | 1, e1, e2 => rw [← Option.some.inj e1, ← Option.some.inj e2]; exact .int m
  · rw [eg]
    exact row_of (ps := fs) e0 e1 (fun z => by subst z; exact absurd h1 (by decide)) h2 h3
end
end K21
namespace K21
open PySem PySem.Spec PyProof.Rows L2 Hk
section
variable {P : Program} {w : World} {K : PySem.W.Frag} {mg : Str → Option Value} {base : Heap} {p : Vo} {σ : L2.St} {H : Hp} {ta tb te : TE} {tr : TA} {a : Addr}
def spDeep : Sp := fun vs H Q _ => ∃ (p : Vo) (n : Int), vs = [.int n] ∧ Iv p H ∧ 1 ≤ n ∧ n ≤ 2000 ∧ ∀ v H', Iv p H' → Gr p H H' → (∃ x, Dat p H' v (.tup [x])) → Q v H'
theorem ok_deep (E : En K mg) (F : Df K mg "_law_deep" s__law_deep) : Ca P w K mg base 1 "_law_deep" spDeep := by
  refine ca_mk F sc__law_deep (fun _ _ _ _ _ _ us hl => match us, hl with | [_], _ => rfl) (fun vs H Q E h => by obtain ⟨p, n, rfl, _⟩ := h; rfl) (fun f cdv A outer s H vs Q E' hr h => ?_)
  obtain ⟨p, n, rfl, i0, n0, n1, q⟩ := h
  refine ⟨_, (pss_cons (ps_set (i := 1) sc__law_deep.nd rfl (Or.inl rfl) (pe_tup pa_nil))
      (pss_cons (ps_for PassesOwn.never rfl (pi_range1 (by rfl) (E.fr (x := "range") (by decide +kernel)) (pa_cons (pv 0) pa_nil)) (pg_name (i := 2) sc__law_deep.nd rfl (Or.inl rfl)) (pss_one (ps_set (i := 1) sc__law_deep.nd rfl (Or.inl rfl) (pe_tup (pa_cons (pv 1) pa_nil)))))
      (pss_one (ps_ret (pv 1))))), ?_⟩
  refine q_asg (A := stP p Pd []) i0 (l_tup la_nil (Nat.zero_le _)) fun v H1 i1 g1 hv => ?_
  have hd : Dat p H1 v (.tup []) := stP_dat (Nat.zero_le _) hv
  refine q_forR (p := p) (n := n) i1 (e_vx rfl) (by omega) (by omega) (fun i σ' H' => Iv p H' ∧ Gr p H1 H' ∧ ∃ v d o, σ' = [some (.int n), some v, o] ∧ Dat p H' v d ∧ (1 ≤ i → ∃ x, d = .tup [x])) (fun H2 i2 g2 => ⟨i2, g2, v, _, _, rfl, hd.gr g2, fun h => absurd h (by decide)⟩) (fun i σ' H' hi h => ?_) fun σ' H' h => ?_
  · obtain ⟨i2, g2, v2, d2, o, rfl, hd2, _⟩ := h
    refine s_asg (p := p) (A := stP p Pd [d2]) i2 (l_tup (la_cons (e_var rfl hd2) la_nil) (Nat.le_of_ble_eq_true rfl)) fun v3 H3 i3 g3 hv3 => ?_
    exact ⟨i3, g2.trans g3, v3, .tup [d2], _, rfl, stP_dat (Nat.le_of_ble_eq_true rfl) hv3, fun _ => ⟨d2, rfl⟩⟩
  · obtain ⟨i2, g2, v2, d2, o, rfl, hd2, hx⟩ := h
    obtain ⟨x, rfl⟩ := hx (by omega)
    exact s_retx (p := p) i2 (e_vx rfl) fun H3 i3 g3 => q v2 H3 i3 ((g1.trans g2).trans g3) ⟨x, hd2.gr g3⟩
theorem x_deep {n : Int} (ha : Ev p ta σ H (sx (.int n))) (h0 : 1 ≤ n) (h1 : n ≤ 2000) : Ev p (tCall spDeep [] E0 (tCons ta tNil)) σ H (syO p Pd fun d => ∃ x, d = .tup [x]) := e_call (a_cons ha a_nil) fun vs H1 iv g os Q q => by
  obtain ⟨v, ws, rfl, rfl, rfl⟩ := os
  exact ⟨p, n, rfl, iv, h0, h1, fun v H' i' g' ⟨x, h⟩ => q v H' i' g' ⟨_, ⟨x, rfl⟩, h⟩⟩
/-! odd things -/
/-- no list that is made stands where the modules' dict does -/
def Sm (p : Vo) : Prop := ∀ a, Nv p a → a ≠ sysModules
theorem Sm.and {D : Addr} {o : HO} (h : Sm p) : Sm (p.and D o) := fun a n => h a n.back
/-- an odd thing -/
def Odd (d : PyData) : Prop := Gd 60 2 d
def arS : Addr → List V → Vo → Hp → Prop := fun a vs p _ => vs = [.ref a] ∧ Sm p
abbrev spOdd : Sp := spP arS fun _ p => syO p Pr Odd
theorem y_none : Ev p (tC .non) σ H (syY p Pr .none) := e_c .non
theorem y_bool {b : Bool} : Ev p (tC (.bl b)) σ H (syY p Pr (.bool b)) := e_c (.bl b)
theorem y_i {i : Int} : Ev p (tC (.int i)) σ H (syY p Pr (.int i)) := e_c (.int i)
theorem y_x {i : Int} (h : Ev p te σ H (sx (.int i))) : Ev p te σ H (syY p Pr (.int i)) := h.imp fun v _ e => by rw [show v = _ from e]; exact .int i
theorem y_s {z : Str} : Ev p (tC (.str z)) σ H (syY p Pr (.str z)) := e_c (.str z)
theorem y_tup {es : List PyData} (h : EvL Pr p tr σ H es) (hz : es.length ≤ 1000000) : Ev p (tTup tr) σ H (syY p Pr (.tuple es)) := (l_tup h hz).imp fun v _ h => stP_rp h
theorem y_lst {es : List PyData} (hs : Sm p) (h : EvL Pr p tr σ H es) (hz : es.length ≤ 1000000) : Ev p (tLst tr) σ H (syY p Pr (.list es)) := (l_lst h hz).imp fun v _ h => slP_rp hs h
theorem y_dict : Ev p tDNewK σ H (syY p Pr (.dict [])) := fun H1 i g Q q b hb => q _ _ (i.new hb) (Gr.new hb) (.dct (kvs := []) (ps := []) (i.ne hb) upd_same rfl fun i kv d e => by cases e)
def wds : List Str := (["", "0", "01", "00", "100", "A", "ninesigns", "loop", "a b", "a.1", " ", "-1", "1_0", "task", "Red"] : List String).map Str.ofString
def odd1 : List PyData := wds.map PyData.str
def odd2 : List PyData := [.none, .bool true, .bool false, .int (-1), .int 10, .int (10 ^ 9 + 1), .int (10 ^ 30), .tuple [], .list [], .dict [], .tuple [.str "a"], .tuple [.str "a", .int 0], .list [.str "a", .int 0]]
def odd3 : List PyData := [.tuple [.str "a", .int 10], .tuple [.str "a", .int (-1)], .tuple [.str "a", .int 0, .int 0], .tuple [.str "a", .str "0"], .tuple [.int 0, .str "a"], .tuple [.str "0", .int 1], .tuple [.str "a", .none], .tuple [.tuple [.str "a", .int 0]]]
def odd4 : List PyData := [.dict [(.str "a", .int 0)], .tuple [.str "a", .bool true]]
def gdB (d : PyData) : Bool := d.leavesShort 40 && (d.showable && (decide (d.bulk ≤ 60) && decide (d.depth ≤ 2)))
theorem gd_of {d : PyData} (h : gdB d = true) : Odd d := by
  obtain ⟨h1, h2⟩ := Bool.and_eq_true_iff.mp h
  obtain ⟨h2, h3⟩ := Bool.and_eq_true_iff.mp h2
  obtain ⟨h3, h4⟩ := Bool.and_eq_true_iff.mp h3
  exact ⟨h1, h2, of_decide_eq_true h3, of_decide_eq_true h4⟩
theorem odd_all : (odd1 ++ (odd2 ++ (odd3 ++ odd4))).all gdB = true := by decide +kernel
theorem pw30 : CPw 10 30 := ⟨by decide, by decide +kernel⟩
theorem y_dict1 : Ev p (tDisp [(tC (.str "a"), tC (.int 0))]) σ H (syY p Pr (.dict [(.str "a", .int 0)])) := fun H1 i g Q q b hb => by
  refine ⟨upd_same, [(.inr "a", .int 0)], rfl, by decide, ?_⟩
  rw [upd_upd]
  exact q _ _ (i.new hb) (Gr.new hb) (.dct (kvs := [(.inr "a", .int 0)]) (ps := [.int 0]) (i.ne hb) upd_same rfl fun j kv d e1 e2 => by
    cases j with
    | zero => rw [← Option.some.inj e1, ← Option.some.inj e2]; exact .int 0
    | succ j => cases e1)
theorem ok_odd (E : En K mg) (F : Df K mg "_law_odd" s__law_odd) (c__law_draw : Ca P w K mg base 1 "_law_draw" spDraw) : Ca P w K mg base 2 "_law_odd" spOdd := by
  refine ca_mk F sc__law_odd (fun _ _ _ _ _ _ us hl => match us, hl with | [_], _ => rfl) (fun vs H Q E h => by obtain ⟨p, a, _, _, e, _⟩ := h; rw [show vs = _ from e.1]; rfl) (fun f cdv A outer s H vs Q E' hr h => ?_)
  obtain ⟨p, a, hp, iv, ⟨e, hs⟩, q⟩ := h
  obtain rfl : vs = [.ref a] := e
  refine ⟨_, (pss_cons (ps_set (i := 1) sc__law_odd.nd rfl (Or.inl rfl) (pe_lst (pa_cons pe_str (pa_cons pe_str (pa_cons pe_str (pa_cons pe_str (pa_cons pe_str (pa_cons pe_str (pa_cons pe_str (pa_cons pe_str (pa_cons pe_str (pa_cons pe_str (pa_cons pe_str (pa_cons pe_str (pa_cons pe_str (pa_cons pe_str (pa_cons pe_str pa_nil)))))))))))))))))
      (pss_cons (ps_set (i := 2) sc__law_odd.nd rfl (Or.inl rfl) (pe_op op_addU (pv 1) (pe_lst (pa_cons pe_non (pa_cons pe_bl (pa_cons pe_bl (pa_cons (pe_un un_neg pe_int) (pa_cons pe_int (pa_cons (pe_op op_addU (pe_op op_powW pe_int pe_int) pe_int) (pa_cons (pe_op op_powW pe_int pe_int) (pa_cons (pe_tup pa_nil) (pa_cons (pe_lst pa_nil) (pa_cons pe_dnewK (pa_cons (pe_tup (pa_cons pe_str pa_nil)) (pa_cons (pe_tup (pa_cons pe_str (pa_cons pe_int pa_nil))) (pa_cons (pe_lst (pa_cons pe_str (pa_cons pe_int pa_nil))) pa_nil))))))))))))))))
      (pss_cons (ps_set (i := 2) sc__law_odd.nd rfl (Or.inl rfl) (pe_op op_addU (pv 2) (pe_lst (pa_cons (pe_tup (pa_cons pe_str (pa_cons pe_int pa_nil))) (pa_cons (pe_tup (pa_cons pe_str (pa_cons (pe_un un_neg pe_int) pa_nil))) (pa_cons (pe_tup (pa_cons pe_str (pa_cons pe_int (pa_cons pe_int pa_nil)))) (pa_cons (pe_tup (pa_cons pe_str (pa_cons pe_str pa_nil))) (pa_cons (pe_tup (pa_cons pe_int (pa_cons pe_str pa_nil))) (pa_cons (pe_tup (pa_cons pe_str (pa_cons pe_int pa_nil))) (pa_cons (pe_tup (pa_cons pe_str (pa_cons pe_non pa_nil))) (pa_cons (pe_tup (pa_cons (pe_tup (pa_cons pe_str (pa_cons pe_int pa_nil))) pa_nil)) pa_nil)))))))))))
      (pss_cons (ps_set (i := 2) sc__law_odd.nd rfl (Or.inl rfl) (pe_op op_addU (pv 2) (pe_lst (pa_cons (pe_disp (pps_cons pe_str pe_int pps_nil) rfl rfl (List.cons_ne_nil _ _) (Nat.le_of_ble_eq_true rfl)) (pa_cons (pe_tup (pa_cons pe_str (pa_cons pe_bl pa_nil))) pa_nil)))))
      (pss_one (ps_ret (pe_ix (ixU (K := K) rfl) (pv 2) (pe_ca c__law_draw (hr.mono (by first | decide | omega)) (by rfl) (pa_cons (pv 0) (pa_cons (pe_callB (lenU (K := K) rfl) (by rfl) (E.fr (x := "len") (by decide +kernel)) (by decide +kernel) (pa_cons (pv 2) pa_nil)) pa_nil))) (fun _ _ => rfl)))))))), ?_⟩
  refine q_asg (A := slP p Pr odd1) iv (l_lst (la_cons y_s (la_cons y_s (la_cons y_s (la_cons y_s (la_cons y_s (la_cons y_s (la_cons y_s (la_cons y_s (la_cons y_s (la_cons y_s (la_cons y_s (la_cons y_s (la_cons y_s (la_cons y_s (la_cons y_s la_nil))))))))))))))) (by decide +kernel)) fun v1 H1 i1 g1 h1 => ?_
  refine q_asg (A := slP p Pr (odd1 ++ odd2)) i1 (x_catY (e_var rfl h1) (l_lst (la_cons y_none (la_cons y_bool (la_cons y_bool (la_cons (y_x (x_neg (i := 1) e_cx)) (la_cons y_i (la_cons (y_x (x_addI (i := 10 ^ 9) (j := 1) x_pow9 e_cx)) (la_cons (y_x (x_to (x_ic (i := 10) (j := 30) e_cx e_cx pw30) rfl)) (la_cons (y_tup la_nil (by decide)) (la_cons (y_lst hs la_nil (by decide)) (la_cons y_dict (la_cons (y_tup (la_cons y_s la_nil) (by decide +kernel)) (la_cons (y_tup (la_cons y_s (la_cons y_i la_nil)) (by decide +kernel)) (la_cons (y_lst hs (la_cons y_s (la_cons y_i la_nil)) (by decide +kernel)) la_nil))))))))))))) (by decide +kernel)) (by decide +kernel)) fun v2 H2 i2 g12 h2 => ?_
  refine q_asg (A := slP p Pr ((odd1 ++ odd2) ++ odd3)) i2 (x_catY (e_var rfl h2) (l_lst (la_cons (y_tup (la_cons y_s (la_cons y_i la_nil)) (by decide +kernel)) (la_cons (y_tup (la_cons y_s (la_cons (y_x (x_neg (i := 1) e_cx)) la_nil)) (by decide +kernel)) (la_cons (y_tup (la_cons y_s (la_cons y_i (la_cons y_i la_nil))) (by decide +kernel)) (la_cons (y_tup (la_cons y_s (la_cons y_s la_nil)) (by decide +kernel)) (la_cons (y_tup (la_cons y_i (la_cons y_s la_nil)) (by decide +kernel)) (la_cons (y_tup (la_cons y_s (la_cons y_i la_nil)) (by decide +kernel)) (la_cons (y_tup (la_cons y_s (la_cons y_none la_nil)) (by decide +kernel)) (la_cons (y_tup (la_cons (y_tup (la_cons y_s (la_cons y_i la_nil)) (by decide +kernel)) la_nil) (by decide +kernel)) la_nil)))))))) (by decide +kernel)) (by decide +kernel)) fun v3 H3 i3 g23 h3 => ?_
  refine q_asg (A := slP p Pr (((odd1 ++ odd2) ++ odd3) ++ odd4)) i3 (x_catY (e_var rfl h3) (l_lst (la_cons y_dict1 (la_cons (y_tup (la_cons y_s (la_cons y_bool la_nil)) (by decide +kernel)) la_nil)) (by decide +kernel)) (by decide +kernel)) fun v4 H4 i4 g34 h4 => ?_
  have hl : (((odd1 ++ odd2) ++ odd3) ++ odd4).length = 38 := by decide +kernel
  refine s_ret i4 (x_ixO (K := K) (n := 38) (e_var rfl h4) (e_drawN hp (e_vx rfl) (x_to (x_lenY (e_var rfl h4)) (by rw [hl]; rfl)) (by decide) (by decide)) (by rw [hl]; decide)) fun v5 H5 i5 g45 ⟨d, hd, h5⟩ => q v5 H5 i5 ((((g1.trans g12).trans g23).trans g34).trans g45) ⟨d, ?_, h5⟩
  rw [List.append_assoc, List.append_assoc] at hd
  exact gd_of (List.all_eq_true.mp odd_all d hd)
theorem e_odd {B : Sy p} (hp : p.pot = some a) (hs : Sm p) (ha : Ev p ta σ H (sx (.ref a))) (hB : ∀ v H d, Odd d → Rp p H v d → B.P v H) : Ev p (tCall spOdd [] E0 (tCons ta tNil)) σ H B :=
  e_callP hp (a_cons ha a_nil) fun vs H1 g iv os => by
    obtain ⟨v, ws, rfl, ev, rfl⟩ := os
    obtain rfl : v = .ref a := ev
    exact ⟨⟨rfl, hs⟩, fun v H2 ⟨d, hd, h⟩ => hB v H2 d hd h⟩
end
end K21
namespace K21
open PySem PySem.Spec PyProof.Rows L2 Hk
section
variable {P : Program} {w : World} {K : PySem.W.Frag} {mg : Str → Option Value} {base : Heap} {p : Vo} {σ : L2.St} {H : Hp} {ta tb te : TE} {tr : TA} {a : Addr}
theorem rp_stP {v : V} {ds : List PyData} (h : Rp p H v (.tuple ds)) : (stP p Pr ds).P v H := by
  cases h with
  | tup n h l r => exact ⟨_, _, rfl, n, h, l, r⟩
def Pq (C : PyData → Prop) : Pt Unit := ⟨fun p H v _ => ∃ d, C d ∧ Rp p H v d, fun ⟨d, c, h⟩ g => ⟨d, c, h.gr g⟩, fun ⟨d, c, h⟩ k => ⟨d, c, h.of k⟩, fun ⟨d, c, h⟩ e => ⟨d, c, h.and e⟩⟩
theorem x_rev2 {α : Type} {Y : Pt α} {x y : α} (ha : Ev p ta σ H (stP p Y [x, y])) : Ev p (tRev2 K ta) σ H (stP p Y [y, x]) := fun H1 i g Q q =>
  ha H1 i g _ fun v H2 i2 g2 ⟨b, us, e, nb, h, hl⟩ => by
    have hl : AllL Y p H2 us [x, y] := hl
    obtain ⟨u0, u1, rfl⟩ := two_of (hl.1.trans rfl)
    exact ⟨b, u0, u1, e, SqT.of h, fun c hc => q _ _ (i2.new hc) (g2.trans (Gr.new hc)) ⟨c, _, rfl, i2.ne hc, upd_same, AllL.gr (.cons (hl.2 1 u1 y rfl rfl) (.cons (hl.2 0 u0 x rfl rfl) .nil)) (Gr.new hc)⟩⟩
theorem x_catEE {α : Type} {Y : Pt α} {R1 R2 : List α → Prop} (ha : Ev p ta σ H (sET p Y R1)) (hb : Ev p tb σ H (sET p Y R2)) (hz : ∀ es fs, R1 es → R2 fs → es.length + fs.length ≤ 100000) : Ev p (tOp (rCatA K) ta tb) σ H (sET p Y fun gs => ∃ es fs, R1 es ∧ R2 fs ∧ gs = es ++ fs) :=
  e_op ha hb fun x y H1 iv g ⟨es, r1, b, ws, e1, nb, h1, hl⟩ ⟨fs, r2, b', ws', e2, nb', h2, hl'⟩ Q q => by
    have hl : AllL Y p H1 ws es := hl
    have hl' : AllL Y p H1 ws' fs := hl'
    have := hz es fs r1 r2
    refine ⟨b, b', ws, ws', e1, e2, SqT.of h1, SqT.of h2, by rw [hl.1, hl'.1, sizeLine_eq]; omega, fun z => ?_, fun _ z => ?_, fun _ _ c hc => ?_⟩
    · refine q _ H1 iv (Gr.refl H1) ⟨_, ⟨es, fs, r1, r2, rfl⟩, b', ws', rfl, nb', h2, ?_⟩
      have : es = [] := List.eq_nil_of_length_eq_zero (by rw [← hl.1, z]; rfl)
      rw [this]
      exact hl'
    · refine q _ H1 iv (Gr.refl H1) ⟨_, ⟨es, fs, r1, r2, rfl⟩, b, ws, rfl, nb, h1, ?_⟩
      have : fs = [] := List.eq_nil_of_length_eq_zero (by rw [← hl'.1, z]; rfl)
      rw [this, List.append_nil]
      exact hl
    · exact q _ _ (iv.new hc) (Gr.new hc) ⟨_, ⟨es, fs, r1, r2, rfl⟩, c, _, rfl, iv.ne hc, upd_same, (hl.app hl').gr (Gr.new hc)⟩
theorem o_add {k : Nat} {i : Nat} (h : σ[i]? = some (some (.int (k : Int)))) (H : Hp) (Q : Option Int → Hp → Prop) (q : Q (some ((k + 1 : Nat) : Int)) H) : tPart (tOp rAddU (tVar i) (tC (.int 1))) σ H Q :=
  ⟨.int (k : Int), h, .inl ⟨(k : Int), 1, rfl, rfl, (k : Int) + 1, rfl, by rw [show (k : Int) + 1 = ((k + 1 : Nat) : Int) by omega]; exact q⟩⟩
/-- a part in the midst -/
theorem g_mid {N M : Nat} {ds es : List PyData} (h : Gds N 5 ds) (he : Gds M 5 es) (k m : Nat) (hkm : k ≤ m) : Gds (N + M) 5 (ds.take k ++ es ++ ds.drop m) := by
  refine ⟨fun d hd => ?_, ?_⟩
  · rcases List.mem_append.mp hd with hd | hd
    · rcases List.mem_append.mp hd with hd | hd
      · exact h.al d (List.mem_of_mem_take hd)
      · exact he.al d hd
    · exact h.al d (List.mem_of_mem_drop hd)
  · rw [bulk_app, bulk_app]
    have h1 := bulk_take m ds
    have h2 := bulk_take k (ds.take m)
    rw [List.take_take, Nat.min_eq_left hkm] at h2
    have := h.bk
    have := he.bk
    omega
abbrev arB (N : Nat) : Addr → List V → Vo → Hp → Prop := fun a vs p H => ∃ v ds, vs = [.ref a, v] ∧ Sm p ∧ Rp p H v (.tuple ds) ∧ ds ≠ [] ∧ Gds N 5 ds
def spBent : Sp := fun vs H Q E => ∃ N, N ≤ 20000 ∧ spP (arB N) (fun _ p => syO p Pr (Gd (3 * N + 200) 6)) vs H Q E
theorem ok_bent (E : En K mg) (F : Df K mg "_law_bent" s__law_bent) (c__law_draw : Ca P w K mg base 1 "_law_draw" spDraw) (c__law_odd : Ca P w K mg base 2 "_law_odd" spOdd) (c__law_index : Ca P w K mg base 3 "_law_index" spIndex) : Ca P w K mg base 4 "_law_bent" spBent := by
  refine ca_mk F sc__law_bent (fun _ _ _ _ _ _ us hl => match us, hl with | [_, _], _ => rfl) (fun vs H Q E h => by obtain ⟨N, _, p, a, _, _, ⟨v, ds, rfl, _⟩, _⟩ := h; rfl) (fun f cdv A outer s H vs Q E' hr h => ?_)
  obtain ⟨N, hN, p, a, hp, iv, ⟨v, ds, rfl, hs, hv, hne, hg⟩, q⟩ := h
  refine ⟨_, (pss_cons (ps_par (i := 2) (j := 3) rfl sc__law_bent.nd rfl rfl (by decide) rfl rfl (pa_cons (pe_callTy (listU (K := K) rfl) (by rfl) (E.fr (x := "list") (by decide +kernel)) (by decide +kernel) (pa_cons (pv 1) pa_nil)) (pa_cons (pe_ca c__law_draw (hr.mono (by first | decide | omega)) (by rfl) (pa_cons (pv 0) (pa_cons (pe_callB (lenU (K := K) rfl) (by rfl) (E.fr (x := "len") (by decide +kernel)) (by decide +kernel) (pa_cons (pv 1) pa_nil)) pa_nil))) pa_nil)) rfl)
      (pss_cons (ps_par (i := 4) (j := 5) rfl sc__law_bent.nd rfl rfl (by decide) rfl rfl (pa_cons (pe_ca c__law_draw (hr.mono (by first | decide | omega)) (by rfl) (pa_cons (pv 0) (pa_cons pe_int pa_nil))) (pa_cons (pe_ix (ixU (K := K) rfl) (pv 2) (pv 3) (fun _ _ => rfl)) pa_nil)) rfl)
      (pss_cons (ps_if (pt_cmpR op_eq (pv 4) pe_int (nomark _)) (pss_one (ps_ret (pe_callTy (tupU (K := K) rfl) (by rfl) (E.fr (x := "tuple") (by decide +kernel)) (by decide +kernel) (pa_cons (pe_op op_addU (pe_slice (slLU (K := K) rfl) (pv 2) po_none (po_some (pv 3))) (pe_slice (slLU (K := K) rfl) (pv 2) (po_some (pe_op op_addU (pv 3) pe_int)) po_none)) pa_nil)))) pss_nil)
      (pss_cons (ps_if (pt_cmpR op_eq (pv 4) pe_int (nomark _)) (pss_one (ps_ret (pe_callTy (tupU (K := K) rfl) (by rfl) (E.fr (x := "tuple") (by decide +kernel)) (by decide +kernel) (pa_cons (pe_op op_addU (pe_op op_addU (pe_slice (slLU (K := K) rfl) (pv 2) po_none (po_some (pv 3))) (pe_lst (pa_cons (pe_ca c__law_odd (hr.mono (by first | decide | omega)) (by rfl) (pa_cons (pv 0) pa_nil)) pa_nil))) (pe_slice (slLU (K := K) rfl) (pv 2) (po_some (pv 3)) po_none)) pa_nil)))) pss_nil)
      (pss_cons (ps_if (PW.pt (pw_and (pt_cmpR op_eq (pv 4) pe_int (nomark _)) (pw_and (pt_val (pe_callB (isiU (K := K) rfl) (by rfl) (E.fr (x := "isinstance") (by decide +kernel)) (by decide +kernel) (pa_cons (pv 5) (pa_cons (pe_bltn (by rfl) (E.fr (x := "tuple") (by decide +kernel)) (by decide +kernel) (show RelV (.ty "tuple") (.type "tuple") from rfl)) pa_nil)))) (pw_and1 (pt_cmpR op_eq (pe_callB (lenU (K := K) rfl) (by rfl) (E.fr (x := "len") (by decide +kernel)) (by decide +kernel) (pa_cons (pv 5) pa_nil)) pe_int (nomark _)))))) (pss_cons (ps_set (i := 5) sc__law_bent.nd rfl (Or.inl rfl) (pe_ix (ixU (K := K) rfl) (pe_lst (pa_cons (pe_tup (pa_cons (pe_ca c__law_odd (hr.mono (by first | decide | omega)) (by rfl) (pa_cons (pv 0) pa_nil)) (pa_cons (pe_ix (ixU (K := K) rfl) (pv 5) pe_int (fun _ _ => rfl)) pa_nil))) (pa_cons (pe_tup (pa_cons (pe_ix (ixU (K := K) rfl) (pv 5) pe_int (fun _ _ => rfl)) (pa_cons (pe_ca c__law_odd (hr.mono (by first | decide | omega)) (by rfl) (pa_cons (pv 0) pa_nil)) pa_nil))) (pa_cons (pe_callTy (listU (K := K) rfl) (by rfl) (E.fr (x := "list") (by decide +kernel)) (by decide +kernel) (pa_cons (pv 5) pa_nil)) (pa_cons (pe_rev2U (K := K) rfl (pv 5)) pa_nil))))) (pe_ca c__law_draw (hr.mono (by first | decide | omega)) (by rfl) (pa_cons (pv 0) (pa_cons pe_int pa_nil))) (fun _ _ => rfl)))
      (pss_one (ps_ret (pe_callTy (tupU (K := K) rfl) (by rfl) (E.fr (x := "tuple") (by decide +kernel)) (by decide +kernel) (pa_cons (pe_op op_addU (pe_op op_addU (pe_slice (slLU (K := K) rfl) (pv 2) po_none (po_some (pv 3))) (pe_lst (pa_cons (pv 5) pa_nil))) (pe_slice (slLU (K := K) rfl) (pv 2) (po_some (pe_op op_addU (pv 3) pe_int)) po_none)) pa_nil))))) pss_nil)
      (pss_cons (ps_if (pt_cmpR op_eq (pv 4) pe_int (nomark _)) (pss_one (ps_ret (pv 2))) pss_nil)
      (pss_cons (ps_if (pt_cmpR op_eq (pv 4) pe_int (nomark _)) (pss_one (ps_ret (pe_op (catA (K := K) rfl) (pe_tup (pa_cons (pe_ix (ixU (K := K) rfl) (pe_ca c__law_index (hr.mono (by first | decide | omega)) (by rfl) (pa_cons (pv 0) pa_nil)) pe_int (fun _ _ => rfl)) pa_nil)) (pe_callTy (tupU (K := K) rfl) (by rfl) (E.fr (x := "tuple") (by decide +kernel)) (by decide +kernel) (pa_cons (pe_slice (slLU (K := K) rfl) (pv 2) (po_some pe_int) po_none) pa_nil))))) pss_nil)
      (pss_cons (ps_if (pt_cmpR op_eq (pv 4) pe_int (nomark _)) (pss_one (ps_ret (pe_callTy (tupU (K := K) rfl) (by rfl) (E.fr (x := "tuple") (by decide +kernel)) (by decide +kernel) (pa_cons (pe_op op_addU (pe_op op_addU (pe_slice (slLU (K := K) rfl) (pv 2) po_none (po_some (pv 3))) (pe_lst (pa_cons (pv 5) (pa_cons (pv 5) pa_nil)))) (pe_slice (slLU (K := K) rfl) (pv 2) (po_some (pe_op op_addU (pv 3) pe_int)) po_none)) pa_nil)))) pss_nil)
      (pss_one (ps_ret (pe_callTy (tupU (K := K) rfl) (by rfl) (E.fr (x := "tuple") (by decide +kernel)) (by decide +kernel) (pa_cons (pe_op op_addU (pe_op op_addU (pe_slice (slLU (K := K) rfl) (pv 2) po_none (po_some (pv 3))) (pe_lst (pa_cons (pe_ca c__law_odd (hr.mono (by first | decide | omega)) (by rfl) (pa_cons (pv 0) pa_nil)) pa_nil))) (pe_slice (slLU (K := K) rfl) (pv 2) (po_some (pe_op op_addU (pv 3) pe_int)) po_none)) pa_nil)))))))))))), ?_⟩
  have hlen : ds.length ≤ N := Nat.le_trans (bulk_len ds) hg.bk
  have hpos : 0 < ds.length := List.length_pos_iff.mpr hne
  refine q_two (A := slP p Pr ds) (B := si fun r => 0 ≤ r ∧ r < (ds.length : Int)) iv (a_cons (x_listY (K := K) (e_var (A := stP p Pr ds) rfl (rp_stP hv))) (a_cons (e_drawN hp (e_vx rfl) (x_lenT (K := K) (e_var (A := stP p Pr ds) rfl (rp_stP hv))) (by omega) (by omega)) a_nil)) fun xi xa H1 i1 g1 hi ha => ?_
  obtain ⟨at_, rfl, a0, a1⟩ := ha
  obtain ⟨k, rfl⟩ := Int.eq_ofNat_of_zero_le a0
  have hk : k < ds.length := by omega
  have hdk : ds[k]? = some ds[k] := List.getElem?_eq_getElem hk
  generalize ds[k] = part at hdk
  have hpm := List.mem_of_getElem? hdk
  have gp := hg.mem hpm
  refine q_two (A := si fun r => 0 ≤ r ∧ r < 8) (B := syY p Pr part) i1 (a_cons (e_drawN hp (e_vx rfl) e_cx (by decide) (by decide)) (a_cons (x_ixY (K := K) (i := (k : Int)) (e_var (A := slP p Pr ds) rfl hi) (e_vx rfl) (Int.natCast_nonneg _) (by rw [Int.toNat_natCast]; exact hdk)) a_nil)) fun xw xp H2 i2 g12 hw hp2 => ?_
  obtain ⟨way, rfl, w0, w1⟩ := hw
  have hi2 := (slP p Pr ds).st _ _ _ g12 hi
  have g2 := g1.trans g12
  have hp2 : Rp p H2 xp part := hp2
  have fin : ∀ {H3 : Hp}, Gr p H2 H3 → ∀ v H4, Iv p H4 → Gr p H3 H4 → (syO p Pr (Gd (3 * N + 200) 6)).P v H4 → Q v H4 := fun g3 v H4 i4 g4 h => q v H4 i4 ((g2.trans g3).trans g4) h
  have tkS : ∀ {σ : L2.St} {H3 : Hp}, σ[2]? = some (some xi) → σ[3]? = some (some (.int (k : Int))) → Gr p H2 H3 → Ev p (tSl (rSlL K) (tVar 2) tNoPart (tPart (tVar 3))) σ H3 (slP p Pr (ds.take k)) := fun h2 h3 g => x_takeY (e_var (A := slP p Pr ds) h2 ((slP p Pr ds).st _ _ _ g hi2)) (by omega) fun H Q q => o_var h3 q
  have drS : ∀ {σ : L2.St} {H3 : Hp}, σ[2]? = some (some xi) → σ[3]? = some (some (.int (k : Int))) → Gr p H2 H3 → Ev p (tSl (rSlL K) (tVar 2) (tPart (tOp rAddU (tVar 3) (tC (.int 1)))) tNoPart) σ H3 (slP p Pr (ds.drop (k + 1))) := fun h2 h3 g => x_dropY (e_var (A := slP p Pr ds) h2 ((slP p Pr ds).st _ _ _ g hi2)) fun H Q q => o_add h3 H Q q
  have drK : ∀ {σ : L2.St} {H3 : Hp}, σ[2]? = some (some xi) → σ[3]? = some (some (.int (k : Int))) → Gr p H2 H3 → Ev p (tSl (rSlL K) (tVar 2) (tPart (tVar 3)) tNoPart) σ H3 (slP p Pr (ds.drop k)) := fun h2 h3 g => x_dropY (e_var (A := slP p Pr ds) h2 ((slP p Pr ds).st _ _ _ g hi2)) fun H Q q => o_var h3 q
  have lt : ∀ m, (ds.take m).length ≤ 20000 := fun m => by rw [List.length_take]; omega
  have ld : ∀ m, (ds.drop m).length ≤ 20000 := fun m => by rw [List.length_drop]; omega
  -- one thing put in
  have put : ∀ {σ : L2.St} {H3 : Hp} {tx : TE} {C : PyData → Prop} {M m : Nat} {td : TE}, σ[2]? = some (some xi) → σ[3]? = some (some (.int (k : Int))) → Gr p H2 H3 → k ≤ m → Ev p td σ H3 (slP p Pr (ds.drop m)) → Ev p tx σ H3 (syO p Pr C) → (∀ d, C d → Gd M 5 d) → M + 1 ≤ N + 200 →
      Ev p (tCB (rTupK K) (tCons (tOp rAddU (tOp rAddU (tSl (rSlL K) (tVar 2) tNoPart (tPart (tVar 3))) (tLst (tCons tx tNil))) td) tNil)) σ H3 (syO p Pr (Gd (3 * N + 200) 6)) := by
    intro σ H3 tx C M m td h2 h3 g hkm htd htx hC hM H4 i4 g4 Q' q'
    have hdx : Ev p (tLst (tCons tx tNil)) σ H3 (sE p Pr fun es => ∃ d, C d ∧ es = [d]) := e_lst (a_cons htx a_nil) (by rw [sizeLine_eq]; exact Nat.le_of_ble_eq_true rfl) fun vs b H5 i5 g5 os nb hb => by
      obtain ⟨x, ws, rfl, ⟨d, cd, hx⟩, rfl⟩ := os
      exact ⟨[d], ⟨d, cd, rfl⟩, b, [x], rfl, nb, hb, (AllL.cons hx .nil : AllL Pr p H5 [x] [d])⟩
    have h1 : Ev p (tOp rAddU (tSl (rSlL K) (tVar 2) tNoPart (tPart (tVar 3))) (tLst (tCons tx tNil))) σ H3 (sE p Pr fun es => ∃ d, C d ∧ es = ds.take k ++ [d]) := e_op (tkS h2 h3 g) hdx fun x y H5 i5 g5 ⟨b, ws, e1, nb, hb1, hl⟩ ⟨es, ⟨d, cd, ees⟩, b', ws', e2, nb', hb2, hl'⟩ => by
      have hl : AllL Pr p H5 ws (ds.take k) := hl
      have hl' : AllL Pr p H5 ws' es := hl'
      have := lt k
      exact rv_new i5 (o := .lst (ws ++ ws')) (fun c nc hc i' g' => ⟨_, ⟨d, cd, rfl⟩, c, _, rfl, nc, upd_same, (hl.app (ees ▸ hl')).gr g'⟩) fun Q q => .inr (.inr ⟨b, b', ws, ws', e1, e2, hb1, hb2, by rw [hl.1, hl'.1, ees, sizeLine_eq, List.length_singleton]; omega, q⟩)
    have h2 : Ev p (tOp rAddU (tOp rAddU (tSl (rSlL K) (tVar 2) tNoPart (tPart (tVar 3))) (tLst (tCons tx tNil))) td) σ H3 (sE p Pr fun es => ∃ d, C d ∧ es = ds.take k ++ [d] ++ ds.drop m) := e_op h1 htd fun x y H5 i5 g5 ⟨es, ⟨d, cd, ees⟩, b, ws, e1, nb, hb1, hl⟩ ⟨b', ws', e2, nb', hb2, hl'⟩ => by
      have hl : AllL Pr p H5 ws es := hl
      have hl' : AllL Pr p H5 ws' (ds.drop m) := hl'
      have := lt k
      have := ld m
      exact rv_new i5 (o := .lst (ws ++ ws')) (fun c nc hc i' g' => ⟨_, ⟨d, cd, rfl⟩, c, _, rfl, nc, upd_same, (AllL.app (ees ▸ hl) hl').gr g'⟩) fun Q q => .inr (.inr ⟨b, b', ws, ws', e1, e2, hb1, hb2, by rw [hl.1, hl'.1, ees, sizeLine_eq, List.length_append, List.length_singleton]; omega, q⟩)
    refine (Ev.imp (B := syO p Pr (Gd (3 * N + 200) 6)) (x_tupE (K := K) h2) fun v H5 ⟨es, ⟨d, cd, ees⟩, hv⟩ => ⟨.tuple es, ?_, stP_rp hv⟩) H4 i4 g4 Q' q'
    rw [ees]
    exact (Gds.tup (g_mid hg ((Gds.cons (hC d cd) Gds.nil).mono (N' := N + 200) (by omega) (Nat.le_refl _)) k m hkm)).mono (by omega) (Nat.le_refl _)
  have odd5 : ∀ d, Odd d → Gd 60 5 d := fun d h => Gd.mono h (Nat.le_refl _) (by decide)
  have oddE : ∀ {σ : L2.St} {H3 : Hp}, σ[0]? = some (some (.ref a)) → Ev p (tCall spOdd [] E0 (tCons (tVar 0) tNil)) σ H3 (syO p Pr Odd) := fun h => e_odd hp hs (e_vx h) fun v H d hd h => ⟨d, hd, h⟩
  have wayT : ∀ {σ : L2.St} {H3 : Hp} (m : Int), σ[4]? = some (some (.int way)) → Tis p (tTest (tOp rEq (tVar 4) (tC (.int m)))) σ H3 (decide (V.int way = V.int m)) := fun m h => k_test (x_eq (x := .int way) (y := .int m) (e_vx h) e_cx rfl)
  refine q_ifS (A := syO p Pr (Gd (3 * N + 200) 6)) i2 (wayT 0 rfl) (fun _ => Ev.imp (A := stP p Pr (ds.take k ++ ds.drop (k + 1))) (x_tupY (K := K) (x_catY (tkS rfl rfl (Gr.refl H2)) (drS rfl rfl (Gr.refl H2)) (by have := lt k; have := ld (k + 1); omega))) fun v H3 h => ⟨_, ?_, stP_rp h⟩) (fun _ v H3 i3 g3 h => fin (Gr.refl H2) v H3 i3 g3 h) fun _ H3 i3 g3 => ?_
  · have := g_mid hg (M := 0) Gds.nil k (k + 1) (by omega)
    rw [List.append_nil] at this
    exact (Gds.tup this).mono (by omega) (Nat.le_refl _)
  refine q_ifS (A := syO p Pr (Gd (3 * N + 200) 6)) i3 (wayT 1 rfl) (fun _ => put rfl rfl g3 (Nat.le_refl k) (drK rfl rfl g3) (oddE rfl) odd5 (by omega)) (fun _ v H4 i4 g4 h => fin g3 v H4 i4 g4 h) fun _ H4 i4 g34 => ?_
  have g4 := g3.trans g34
  -- a part made new
  refine q_if (p := p) (B := fun b => b = true → ∃ x y, part = .tuple [x, y]) i4 ?_ (fun hb H5 i5 g45 => ?_) fun _ H5 i5 g45 => ?_
  · have hpd : Dat p H4 xp (sD part) := (hp2.gr g4).dat (bulk_small part (by have := gp.bk; omega))
    refine t_and (B := fun _ => True) (D := fun b => b = true → ∃ x y, part = .tuple [x, y]) ((wayT 2 rfl).imp fun _ _ => trivial) (fun _ => ?_) (fun _ h => nomatch h) fun b _ h => h
    cases hT : (sD part).isT with
    | false => exact t_and (B := fun b => b = false) (D := fun _ => True) (k_to (k_b (x_isiD (e_vx rfl) hpd (kit_t _))) hT) (fun h => nomatch h) (fun _ h => nomatch h) fun b h => nomatch h
    | true =>
      obtain ⟨es, rfl⟩ : ∃ es, part = .tuple es := by
        cases part with
        | tuple es => exact ⟨es, rfl⟩
        | none => cases hT
        | bool b => cases hT
        | int i => cases hT
        | str z => cases hT
        | list es => cases hT
        | dict kvs => cases hT
      refine t_and (B := fun _ => True) (D := fun b => b = decide (V.int es.length = V.int 2)) ((k_b (x_isiD (e_vx rfl) hpd (kit_t _))).imp fun _ _ => trivial) (fun _ => k_test (x_eq (x := .int es.length) (y := .int 2) (x_lenT (K := K) (Y := Pr) (es := es) (e_var (A := stP p Pr es) rfl (rp_stP (hp2.gr g4)))) e_cx rfl)) (fun _ h => nomatch h) fun b _ h hb => ?_
      rw [hb] at h
      have h2 : V.int es.length = V.int 2 := of_decide_eq_true h.symm
      have h3 : es.length = 2 := by have := V.int.inj h2; omega
      obtain ⟨x, y, rfl⟩ := two_of h3
      exact ⟨x, y, rfl⟩
  · obtain ⟨x, y, rfl⟩ := hb rfl
    have g5 := g4.trans g45
    have gi := Gd.items (k := 4) gp
    have gx := gi.mem (d := x) List.mem_cons_self
    have gy := gi.mem (d := y) (List.mem_cons_of_mem _ List.mem_cons_self)
    have bxy : x.bulk + 1 + (y.bulk + 1) ≤ N := by
      have := gi.bk
      simp only [PyData.bulkAll] at this
      omega
    let C : PyData → Prop := fun d => Gd (N + 100) 5 d
    have pT : ∀ {σ : L2.St} {H6 : Hp}, σ[5]? = some (some xp) → Gr p H5 H6 → Ev p (tVar 5) σ H6 (stP p Pr [x, y]) := fun h g => e_var h (rp_stP (hp2.gr (g5.trans g)))
    have pair : ∀ {d e : PyData} {M1 M2 : Nat}, Gd M1 4 d → Gd M2 4 e → M1 + 1 + (M2 + 1) ≤ N + 100 → C (.tuple [d, e]) := fun hd he hM => (Gds.tup (Gds.cons hd (Gds.cons he Gds.nil))).mono (by omega) (Nat.le_refl _)
    have two : ∀ {σ : L2.St} {H6 : Hp} {t1 t2 : TE} {C1 C2 : PyData → Prop}, Ev p t1 σ H6 (syO p Pr C1) → Ev p t2 σ H6 (syO p Pr C2) → (∀ d e, C1 d → C2 e → C (.tuple [d, e])) → Ev p (tTup (tCons t1 (tCons t2 tNil))) σ H6 (syY p (Pq C) ()) := fun h1 h2 hC => e_tup (a_cons h1 (a_cons h2 a_nil)) (by rw [sizeLine_eq]; exact Nat.le_of_ble_eq_true rfl) fun vs b H7 i7 g7 os nb hb => by
      obtain ⟨v1, w1, rfl, ⟨d, cd, h1⟩, v2, w2, rfl, ⟨e, ce, h2⟩, rfl⟩ := os
      exact ⟨.tuple [d, e], hC d e cd ce, stP_rp ⟨b, [v1, v2], rfl, nb, hb, (AllL.cons h1 (AllL.cons h2 .nil) : AllL Pr p H7 [v1, v2] [d, e])⟩⟩
    have one : ∀ {σ : L2.St} {H6 : Hp} {t : TE} {d : PyData}, Ev p t σ H6 (syY p Pr d) → Ev p t σ H6 (syO p Pr fun e => e = d) := fun h => h.imp fun v H hv => ⟨_, rfl, hv⟩
    have at0 : ∀ {σ : L2.St} {H6 : Hp}, σ[5]? = some (some xp) → Gr p H5 H6 → Ev p (tOp (rIx K) (tVar 5) (tC (.int 0))) σ H6 (syY p Pr x) := fun h g => x_ixT (i := 0) (pT h g) e_cx (by decide) rfl
    have at1 : ∀ {σ : L2.St} {H6 : Hp}, σ[5]? = some (some xp) → Gr p H5 H6 → Ev p (tOp (rIx K) (tVar 5) (tC (.int 1))) σ H6 (syY p Pr y) := fun h g => x_ixT (i := 1) (pT h g) e_cx (by decide) rfl
    refine q_asg (A := syO p Pr C) i5 (Ev.imp (A := syO p (Pq C) fun e => e ∈ [(), (), (), ()]) (x_ixO (K := K) (n := 4) (l_lst (la_cons (two (oddE rfl) (one (at1 rfl (Gr.refl H5))) fun d e hd he => by
        rw [he]
        exact pair (Gd.mono hd (Nat.le_refl _) (by decide)) ⟨gy.lv, gy.sh, Nat.le_refl _, gy.dp⟩ (by omega)) (la_cons (two (one (at0 rfl (Gr.refl H5))) (oddE rfl) fun d e hd he => by
        rw [hd]
        exact pair ⟨gx.lv, gx.sh, Nat.le_refl _, gx.dp⟩ (Gd.mono he (Nat.le_refl _) (by decide)) (by omega)) (la_cons (Ev.imp (A := slP p Pr [x, y]) (x_listY (K := K) (pT rfl (Gr.refl H5))) fun v H6 h => ⟨_, ?_, slP_rp hs h⟩) (la_cons (Ev.imp (A := stP p Pr [y, x]) (x_rev2 (K := K) (pT rfl (Gr.refl H5))) fun v H6 h => ⟨_, ?_, stP_rp h⟩) la_nil)))) (by decide)) (e_drawN hp (e_vx rfl) e_cx (by decide) (by decide)) (by decide)) fun v H6 ⟨_, _, d, hd, h⟩ => ⟨d, hd, h⟩) fun xq H6 i6 g56 hq => ?_
    · exact (Gds.lst (Gds.cons (N := x.bulk) ⟨gx.lv, gx.sh, Nat.le_refl _, gx.dp⟩ (Gds.cons (N := y.bulk) ⟨gy.lv, gy.sh, Nat.le_refl _, gy.dp⟩ Gds.nil))).mono (by omega) (Nat.le_refl _)
    · exact pair (M1 := y.bulk) (M2 := x.bulk) ⟨gy.lv, gy.sh, Nat.le_refl _, gy.dp⟩ ⟨gx.lv, gx.sh, Nat.le_refl _, gx.dp⟩ (by omega)
    · have g6 := g5.trans g56
      exact s_ret i6 (put (C := C) (M := N + 100) rfl rfl g6 (Nat.le_succ k) (drS rfl rfl g6) (e_var rfl hq) (fun d h => h) (by omega)) fun v H7 i7 g7 h => fin g6 v H7 i7 g7 h
  have g5 := g4.trans g45
  have hi5 := (slP p Pr ds).st _ _ _ g5 hi2
  refine q_ifS (A := syO p Pr (Gd (3 * N + 200) 6)) i5 (wayT 3 rfl) (fun _ => e_var rfl ⟨.list ds, (Gds.lst hg).mono (by omega) (Nat.le_refl _), slP_rp hs hi5⟩) (fun _ v H6 i6 g6 h => fin g5 v H6 i6 g6 h) fun _ H6 i6 g56 => ?_
  have g6 := g5.trans g56
  refine q_ifS (A := syO p Pr (Gd (3 * N + 200) 6)) i6 (wayT 4 rfl) (fun _ => ?_) (fun _ v H7 i7 g7 h => fin g6 v H7 i7 g7 h) fun _ H7 i7 g67 => ?_
  · have hix : Ev p (tOp (rIx K) (tCall spIndex [] E0 (tCons (tVar 0) tNil)) (tC (.int 0))) [some (.ref a), some v, some xi, some (.int (k : Int)), some (.int way), some xp] H6 (syO p Pr fun d => ∃ e : Int, d = .int e ∧ 0 ≤ e ∧ e ≤ 10 ^ 9) :=
      e_op (e_call1 (B := syO p Pr Row) hp (e_vx rfl) fun v H h => h) e_cx fun x y H8 i8 g8 ⟨d, ⟨e, ps, ed, e0, e1, _⟩, hd⟩ ey => by
        subst ed
        obtain ⟨b, us, e2, nb, hb, hl⟩ := rp_stP hd
        have hl : AllL Pr p H8 us (.int e :: ps) := hl
        obtain ⟨u, d', hat, hd', hy⟩ := AllL.at hl (i := 0) (by decide) (by rw [List.length_cons]; omega)
        have hd'' : (.int e : PyData) = d' := Option.some.inj hd'
        subst hd''
        exact rv i8 ⟨_, ⟨e, rfl, e0, e1⟩, hy⟩ fun Q q => .inr (.inl ⟨b, us, 0, u, e2, ey, SqT.of hb, hat, q⟩)
    have hl1 : Ev p (tTup (tCons (tOp (rIx K) (tCall spIndex [] E0 (tCons (tVar 0) tNil)) (tC (.int 0))) tNil)) [some (.ref a), some v, some xi, some (.int (k : Int)), some (.int way), some xp] H6 (sET p Pr fun es => ∃ e : Int, es = [.int e] ∧ 0 ≤ e ∧ e ≤ 10 ^ 9) := e_tup (a_cons hix a_nil) (by rw [sizeLine_eq]; exact Nat.le_of_ble_eq_true rfl) fun vs b H8 i8 g8 os nb hb => by
      obtain ⟨x, ws, rfl, ⟨d, ⟨e, ed, e0, e1⟩, hx⟩, rfl⟩ := os
      exact ⟨[.int e], ⟨e, rfl, e0, e1⟩, b, [x], rfl, nb, hb, (AllL.cons (ed ▸ hx) .nil : AllL Pr p H8 [x] [.int e])⟩
    refine Ev.imp (A := sET p Pr fun gs => ∃ es fs, (∃ e : Int, es = [.int e] ∧ 0 ≤ e ∧ e ≤ 10 ^ 9) ∧ fs = ds.drop 1 ∧ gs = es ++ fs) (x_catEE (K := K) (R2 := fun fs => fs = ds.drop 1) hl1 (Ev.imp (A := stP p Pr (ds.drop 1)) (x_tupY (K := K) (x_dropY (k := 1) (e_var (A := slP p Pr ds) rfl ((slP p Pr ds).st _ _ _ g56 hi5)) fun H Q q => o_int q)) fun v H h => ⟨_, rfl, h⟩) fun es fs ⟨e, ee, _⟩ ef => by have := ld 1; rw [ee, ef, List.length_singleton]; omega) fun v H8 ⟨gs, ⟨es, fs, ⟨e, ee, e0, e1⟩, ef, eg⟩, hv⟩ => ⟨.tuple gs, ?_, stP_rp hv⟩
    rw [eg, ee, ef]
    exact (Gds.tup (Gds.cons ((g_epoch e0 e1).mono (Nat.le_refl _) (by decide)) (hg.drop 1))).mono (by omega) (Nat.le_refl _)
  have g7 := g6.trans g67
  have hp7 : Rp p H7 xp part := hp2.gr g7
  refine q_ifS (A := syO p Pr (Gd (3 * N + 200) 6)) i7 (wayT 5 rfl) (fun _ => Ev.imp (A := stP p Pr (ds.take k ++ [part, part] ++ ds.drop (k + 1))) (x_tupY (K := K) (x_catY (x_catY (tkS rfl rfl g7) (l_lst (la_cons (e_var rfl hp7) (la_cons (e_var rfl hp7) la_nil)) (Nat.le_of_ble_eq_true rfl)) (by have := lt k; show _ + 2 ≤ _; omega)) (drS rfl rfl g7) (by have := lt k; have := ld (k + 1); rw [List.length_append]; show _ + 2 + _ ≤ _; omega))) fun v H8 h => ⟨_, ?_, stP_rp h⟩) (fun _ v H8 i8 g8 h => fin g7 v H8 i8 g8 h) fun _ H8 i8 g78 => ?_
  · have hb := bulk_mem hpm
    have := hg.bk
    have h2 : Gds (2 * N) 5 [part, part] := by
      refine ⟨fun d hd => ?_, ?_⟩
      · simp only [List.mem_cons, List.not_mem_nil, or_false] at hd
        rcases hd with h | h <;> (rw [h]; exact hg.al part hpm)
      · simp only [PyData.bulkAll]
        omega
    exact (Gds.tup (g_mid hg h2 k (k + 1) (by omega))).mono (by omega) (Nat.le_refl _)
  have g8 := g7.trans g78
  exact s_ret i8 (put (C := Odd) (M := 60) rfl rfl g8 (Nat.le_succ k) (drS rfl rfl g8) (oddE rfl) odd5 (by omega)) fun v H9 i9 g9 h => fin g8 v H9 i9 g9 h
end
end K21
namespace K21
open PySem PySem.Spec PyProof.Rows L2 Hk
/-! ### bent texts -/
structure GT (N : Nat) (z : Str) : Prop where
  ln : z.length ≤ N
  ch : ∀ c ∈ z.cps.toList, c < 16 ^ 8
theorem GT.mono {N M : Nat} {z : Str} (h : GT N z) (hm : N ≤ M) : GT M z := ⟨Nat.le_trans h.ln hm, h.ch⟩
theorem GT.app {N M : Nat} {x y : Str} (h : GT N x) (k : GT M y) : GT (N + M) (x ++ y) := by
  refine ⟨by rw [Str.length_append]; exact Nat.add_le_add h.ln k.ln, fun c hc => ?_⟩
  rw [show (x ++ y).cps.toList = x.cps.toList ++ y.cps.toList from TL.tl_append x y] at hc
  exact (List.mem_append.mp hc).elim (h.ch c) (k.ch c)
theorem GT.cut {N : Nat} {x : Str} (h : GT N x) (lo hi : Option Int) : GT N (cutS x lo hi) := by
  refine ⟨Nat.le_trans (cutS_len _ _ _) h.ln, fun c hc => ?_⟩
  unfold cutS at hc
  exact h.ch c (List.mem_of_mem_drop (List.mem_of_mem_take hc))
def wl (ws : List Str) : Nat := (ws.map fun w => w.length + 1).sum
theorem wl_cons (w : Str) (ws : List Str) : wl (w :: ws) = w.length + 1 + wl ws := by
  unfold wl
  rw [List.map_cons, List.sum_cons]
theorem wl_app : ∀ xs ys : List Str, wl (xs ++ ys) = wl xs + wl ys
  | [], ys => by show wl ys = 0 + _; omega
  | x :: xs, ys => by
    rw [List.cons_append, wl_cons, wl_cons, wl_app xs ys]
    omega
theorem wl_sum : ∀ ys : List Str, (ys.map (·.length)).sum + ys.length * 1 = wl ys
  | [] => rfl
  | y :: ys => by
    have := wl_sum ys
    rw [wl_cons, List.map_cons, List.sum_cons, List.length_cons]
    omega
theorem join_wl : ∀ {ws : List Str}, ws ≠ [] → (Str.join " " ws).length + 1 = wl ws
  | [], h => absurd rfl h
  | [x], _ => by
    show x.length + 1 = wl [x]
    rw [wl_cons]
    rfl
  | x :: z :: r, _ => by
    show (x ++ " " ++ Str.join " " (z :: r)).length + 1 = _
    have := join_wl (ws := z :: r) (List.cons_ne_nil _ _)
    rw [Str.length_append, Str.length_append, wl_cons, ← this]
    show x.length + 1 + _ + 1 = _
    omega
theorem words_wl (t : Str) : wl (wordsOf t) = t.length + 1 := by
  rw [← join_wl (words_ne t)]
  rw [show Str.join " " (wordsOf t) = t from PySem.StrLaws.join_split t " "]
theorem join_chars {y : Str} {c : Nat} : ∀ {ws : List Str} {w : Str}, w ∈ ws → c ∈ w.cps.toList → c ∈ (Str.join y ws).cps.toList
  | [], _, h, _ => nomatch h
  | [x], w, h, hc => by rw [List.mem_singleton.mp h] at hc; exact hc
  | x :: z :: r, w, h, hc => by
    show c ∈ TL.tl (x ++ y ++ Str.join y (z :: r))
    rw [TL.tl_append, TL.tl_append]
    rcases List.mem_cons.mp h with e | e
    · rw [e] at hc
      exact List.mem_append_left _ (List.mem_append_left _ hc)
    · exact List.mem_append_right _ (join_chars (y := y) e hc)
theorem chars_join {y : Str} {c : Nat} : ∀ {ws : List Str}, c ∈ (Str.join y ws).cps.toList → c ∈ y.cps.toList ∨ ∃ w ∈ ws, c ∈ w.cps.toList
  | [], h => by cases h
  | [x], h => .inr ⟨x, List.mem_cons_self, h⟩
  | x :: z :: r, h => by
    have h : c ∈ TL.tl (x ++ y ++ Str.join y (z :: r)) := h
    rw [TL.tl_append, TL.tl_append] at h
    rcases List.mem_append.mp h with h | h
    · rcases List.mem_append.mp h with h | h
      · exact .inr ⟨x, List.mem_cons_self, h⟩
      · exact .inl h
    · rcases chars_join (ws := z :: r) h with h | ⟨w, hw, h⟩
      · exact .inl h
      · exact .inr ⟨w, List.mem_cons_of_mem _ hw, h⟩
theorem word_chars {t w : Str} {c : Nat} (h : w ∈ wordsOf t) (hc : c ∈ w.cps.toList) : c ∈ t.cps.toList := by
  have := join_chars (y := " ") h hc
  rwa [show Str.join " " (wordsOf t) = t from PySem.StrLaws.join_split t " "] at this
/-- one word more, or another one -/
theorem bent_join {t z : Str} {N k m : Nat} (h : GT N t) (hz : GT 6 z) (hm : m = k ∨ m = k + 1) : GT (2 * N + 10) (Txt.join " " ((wordsOf t).take k ++ [z] ++ (wordsOf t).drop m)) := by
  rw [TL.join_eq]
  have e1 := words_wl t
  have e2 : wl ((wordsOf t).take m) + wl ((wordsOf t).drop m) = wl (wordsOf t) := by rw [← wl_app, List.take_append_drop]
  have e3 : wl ((wordsOf t).take k) ≤ wl ((wordsOf t).take m) := by
    have : (wordsOf t).take k = ((wordsOf t).take m).take k := by rw [List.take_take, Nat.min_eq_left (by omega)]
    rw [this]
    have e := wl_app (((wordsOf t).take m).take k) (((wordsOf t).take m).drop k)
    rw [List.take_append_drop] at e
    omega
  have e4 := join_wl (ws := (wordsOf t).take k ++ [z] ++ (wordsOf t).drop m) (by simp)
  rw [wl_app, wl_app, wl_cons] at e4
  have e5 : wl [] = 0 := rfl
  have hl := h.ln
  have hzl := hz.ln
  refine ⟨by omega, fun c hc => ?_⟩
  rcases chars_join hc with hc | ⟨w, hw, hc⟩
  · have : c = 32 := by simpa using (show c ∈ ([32] : List Nat) from hc)
    rw [this]; decide
  · rcases List.mem_append.mp hw with hw | hw
    · rcases List.mem_append.mp hw with hw | hw
      · exact h.ch c (word_chars (List.mem_of_mem_take hw) hc)
      · rw [List.mem_singleton.mp hw] at hc
        exact hz.ch c hc
    · exact h.ch c (word_chars (List.mem_of_mem_drop hw) hc)
def gtB (N : Nat) (z : Str) : Bool := decide (z.length ≤ N) && z.cps.toList.all fun c => decide (c < 16 ^ 8)
theorem gt_of {N : Nat} {z : Str} (h : gtB N z = true) : GT N z := by
  obtain ⟨h1, h2⟩ := Bool.and_eq_true_iff.mp h
  exact ⟨of_decide_eq_true h1, fun c hc => of_decide_eq_true (List.all_eq_true.mp h2 c hc)⟩
def mores : List Str := (["", "0", "a.0", "a", ".0", "a.", "a.00", "00.1", "7.7", "loop.0", "a.10"] : List String).map Str.ofString
theorem mores_ok : mores.all (gtB 6) = true := by decide +kernel
def signs : Str := "0123456789. -+_aAz\n"
theorem signs_ok : gtB 19 signs = true ∧ signs.length = 19 := by decide +kernel
section
variable {P : Program} {w : World} {K : PySem.W.Frag} {mg : Str → Option Value} {base : Heap} {p : Vo} {σ : L2.St} {H : Hp} {ta tb te : TE} {tr : TA} {a : Addr}
theorem x_dropD {α : Type} {Y : Pt α} {es : List α} {k : Nat} {tl : TE} (ha : Ev p ta σ H (slP p Y es)) (hh : Ev p tl σ H (si fun i => i = (k : Int) ∨ i = (k : Int) + 1)) : Ev p (tSl (rSlL K) ta (tPart tl) tNoPart) σ H (sE p Y fun fs => ∃ m, (m = k ∨ m = k + 1) ∧ fs = es.drop m) :=
  fun H1 i g Q q => ha H1 i g _ fun v H2 i2 g2 hv => hh H2 i2 (g.trans g2) _ fun x H3 i3 g3 ⟨j, ex, hj⟩ => by
    obtain ⟨b, us, e, nb, h, hl⟩ := (slP p Y es).st _ _ _ g3 hv
    have hl : AllL Y p H3 us es := hl
    obtain ⟨m, hm, rfl⟩ : ∃ m : Nat, (m = k ∨ m = k + 1) ∧ j = (m : Int) := by
      rcases hj with hj | hj
      · exact ⟨k, .inl rfl, hj⟩
      · exact ⟨k + 1, .inr rfl, by omega⟩
    exact ⟨(m : Int), ex, b, us, e, SqL.of h, fun c hc => q _ _ (i3.new hc) ((g2.trans g3).trans (Gr.new hc)) ⟨_, ⟨m, hm, rfl⟩, c, _, rfl, i3.ne hc, upd_same, by
      rw [cut_from]
      exact (hl.drop m).gr (Gr.new hc)⟩⟩
theorem x_catYE {α : Type} {Y : Pt α} {es : List α} {R : List α → Prop} (ha : Ev p ta σ H (slP p Y es)) (hb : Ev p tb σ H (sE p Y R)) (hz : ∀ fs, R fs → es.length + fs.length ≤ 100000) : Ev p (tOp rAddU ta tb) σ H (sE p Y fun gs => ∃ fs, R fs ∧ gs = es ++ fs) :=
  e_op ha hb fun x y H1 iv g ⟨b, ws, e1, nb, h1, hl⟩ ⟨fs, r, b', ws', e2, nb', h2, hl'⟩ => by
    have hl : AllL Y p H1 ws es := hl
    have hl' : AllL Y p H1 ws' fs := hl'
    have := hz fs r
    exact rv_new iv (o := .lst (ws ++ ws')) (fun c nc hc i' g' => ⟨_, ⟨fs, r, rfl⟩, c, _, rfl, nc, upd_same, (hl.app hl').gr g'⟩) fun Q q => .inr (.inr ⟨b, b', ws, ws', e1, e2, h1, h2, by rw [hl.1, hl'.1, sizeLine_eq]; omega, q⟩)
theorem slx_ps {ws : List Str} {v : V} {H1 : Hp} (h : (slx (p := p) (ws.map V.str)).P v H1) : (slP p Ps_ ws).P v H1 := by
  obtain ⟨b, us, h1, h2, h3, h4⟩ := h
  refine ⟨b, us, h1, h2, h3, by rw [h4, List.length_map], fun i v e e1 e2 => ?_⟩
  rw [h4, List.getElem?_map, e2] at e1
  exact (Option.some.inj e1).symm
abbrev arT (N : Nat) : Addr → List V → Vo → Hp → Prop := fun a vs p H => ∃ z, vs = [.ref a, .str z] ∧ GT N z
def spBT : Sp := fun vs H Q E => ∃ N, N ≤ 5000 ∧ spP (arT N) (fun _ p => ss (GT (2 * N + 10))) vs H Q E
theorem ok_bent_text (E : En K mg) (F : Df K mg "_law_bent_text" s__law_bent_text) (c__law_draw : Ca P w K mg base 1 "_law_draw" spDraw) : Ca P w K mg base 2 "_law_bent_text" spBT := by
  refine ca_mk F sc__law_bent_text (fun _ _ _ _ _ _ us hl => match us, hl with | [_, _], _ => rfl) (fun vs H Q E h => by obtain ⟨N, _, p, a, _, _, ⟨z, rfl, _⟩, _⟩ := h; rfl) (fun f cdv A outer s H vs Q E' hr h => ?_)
  obtain ⟨N, hN, p, a, hp, iv, ⟨t, rfl, ht⟩, q⟩ := h
  refine ⟨_, (pss_cons (ps_par (i := 2) (j := 3) rfl sc__law_bent_text.nd rfl rfl (by decide) rfl rfl (pa_cons (pe_ca c__law_draw (hr.mono (by first | decide | omega)) (by rfl) (pa_cons (pv 0) (pa_cons (pe_op op_addU (pe_callB (lenU (K := K) rfl) (by rfl) (E.fr (x := "len") (by decide +kernel)) (by decide +kernel) (pa_cons (pv 1) pa_nil)) pe_int) pa_nil))) (pa_cons (pe_ca c__law_draw (hr.mono (by first | decide | omega)) (by rfl) (pa_cons (pv 0) (pa_cons pe_int pa_nil))) pa_nil)) rfl)
      (pss_cons (ps_set (i := 4) sc__law_bent_text.nd rfl (Or.inl rfl) (pe_ix (ixU (K := K) rfl) pe_str (pe_ca c__law_draw (hr.mono (by first | decide | omega)) (by rfl) (pa_cons (pv 0) (pa_cons pe_int pa_nil))) (fun _ _ => rfl)))
      (pss_cons (ps_if (pt_cmpR op_eq (pv 3) pe_int (nomark _)) (pss_one (ps_ret (pe_op op_addU (pe_slice (slU (K := K) rfl) (pv 1) po_none (po_some (pv 2))) (pe_slice (slU (K := K) rfl) (pv 1) (po_some (pe_op op_addU (pv 2) pe_int)) po_none)))) pss_nil)
      (pss_cons (ps_if (pt_cmpR op_eq (pv 3) pe_int (nomark _)) (pss_one (ps_ret (pe_op op_addU (pe_op op_addU (pe_slice (slU (K := K) rfl) (pv 1) po_none (po_some (pv 2))) (pv 4)) (pe_slice (slU (K := K) rfl) (pv 1) (po_some (pv 2)) po_none)))) pss_nil)
      (pss_cons (ps_if (pt_cmpR op_eq (pv 3) pe_int (nomark _)) (pss_one (ps_ret (pe_op op_addU (pe_op op_addU (pe_slice (slU (K := K) rfl) (pv 1) po_none (po_some (pv 2))) (pv 4)) (pe_slice (slU (K := K) rfl) (pv 1) (po_some (pe_op op_addU (pv 2) pe_int)) po_none)))) pss_nil)
      (pss_cons (ps_set (i := 5) sc__law_bent_text.nd rfl (Or.inl rfl) (pe_splitU (pv 1) pe_str))
      (pss_cons (ps_set (i := 6) sc__law_bent_text.nd rfl (Or.inl rfl) (pe_ca c__law_draw (hr.mono (by first | decide | omega)) (by rfl) (pa_cons (pv 0) (pa_cons (pe_callB (lenU (K := K) rfl) (by rfl) (E.fr (x := "len") (by decide +kernel)) (by decide +kernel) (pa_cons (pv 5) pa_nil)) pa_nil))))
      (pss_cons (ps_set (i := 7) sc__law_bent_text.nd rfl (Or.inl rfl) (pe_ix (ixU (K := K) rfl) (pe_lst (pa_cons pe_str (pa_cons pe_str (pa_cons pe_str (pa_cons pe_str (pa_cons pe_str (pa_cons pe_str (pa_cons pe_str (pa_cons pe_str (pa_cons pe_str (pa_cons pe_str (pa_cons pe_str pa_nil)))))))))))) (pe_ca c__law_draw (hr.mono (by first | decide | omega)) (by rfl) (pa_cons (pv 0) (pa_cons pe_int pa_nil))) (fun _ _ => rfl)))
      (pss_one (ps_ret (pe_joinU (K := K) rfl pe_str (pe_op op_addU (pe_op op_addU (pe_slice (slLU (K := K) rfl) (pv 5) po_none (po_some (pv 6))) (pe_lst (pa_cons (pv 7) pa_nil))) (pe_slice (slLU (K := K) rfl) (pv 5) (po_some (pe_op op_sub (pe_op op_addU (pv 6) pe_int) (pe_ca c__law_draw (hr.mono (by first | decide | omega)) (by rfl) (pa_cons (pv 0) (pa_cons pe_int pa_nil))))) po_none))))))))))))), ?_⟩
  have hz := ht.ln
  have ltb : t.length ≤ sizeLine := big (by omega)
  refine q_two (A := si fun r => ∃ n, n = (t.length : Int) + 1 ∧ 0 ≤ r ∧ r < n) (B := si fun r => 0 ≤ r ∧ r < 4) iv (a_cons (e_draw (c := fun n => n = (t.length : Int) + 1) hp (e_vx rfl) (e_addI (c := fun i => i = (t.length : Int)) (d := fun j => j = 1) (e_sxi (x_len (e_vx rfl) ltb) rfl) (e_ci rfl) fun i j ei ej => by rw [ei, ej]) fun n e => by rw [e]; omega) (a_cons (e_drawN hp (e_vx rfl) e_cx (by decide) (by decide)) a_nil)) fun xa xw H1 i1 g1 ha hw => ?_
  obtain ⟨at_, rfl, _, rfl, a0, a1⟩ := ha
  obtain ⟨k, rfl⟩ := Int.eq_ofNat_of_zero_le a0
  obtain ⟨way, rfl, _⟩ := hw
  refine q_asg (A := ss (GT 1)) i1 (Ev.imp (A := ss fun z => ∃ c ∈ signs.cps.toList, z = ⟨#[c]⟩) (e_op e_cx (e_drawN (n := 19) hp (e_vx rfl) e_cx (by decide) (by decide)) fun x y H2 i2 g2 ex ⟨r, ey, r0, r1⟩ => by
    have hk : r.toNat < signs.cps.toList.length := by rw [len_toList, signs_ok.2]; omega
    have hat : atI signs.cps.toList r = some signs.cps.toList[r.toNat] := at_of (k := r.toNat) (by omega) (List.getElem?_eq_getElem hk)
    exact rv i2 ⟨⟨#[signs.cps.toList[r.toNat]]⟩, rfl, _, List.getElem_mem hk, rfl⟩ fun Q q => .inr (.inr ⟨signs, r, _, ex, ey, big (by rw [signs_ok.2]; decide), hat, q⟩)) fun v H2 ⟨z, e, c, hc, ez⟩ => ⟨z, e, ?_⟩) fun v3 H2 i2 g12 h3 => ?_
  · rw [ez]
    refine ⟨Nat.le_refl _, fun d hd => ?_⟩
    have : d = c := by simpa using (show d ∈ ([c] : List Nat) from hd)
    rw [this]
    exact (gt_of signs_ok.1).ch c hc
  obtain ⟨sg, rfl, hsg⟩ := h3
  have g2 := g1.trans g12
  have wayT : ∀ {σ : L2.St} {H3 : Hp} (m : Int), σ[3]? = some (some (.int way)) → Tis p (tTest (tOp rEq (tVar 3) (tC (.int m)))) σ H3 (decide (V.int way = V.int m)) := fun m h => k_test (x_eq (x := .int way) (y := .int m) (e_vx h) e_cx rfl)
  have fin : ∀ {H3 : Hp}, Gr p H H3 → ∀ v H4, Iv p H4 → Gr p H3 H4 → (ss (p := p) (GT (2 * N + 10))).P v H4 → Q v H4 := fun g3 v H4 i4 g4 h => q v H4 i4 (g3.trans g4) h
  have to : ∀ {σ : L2.St} {H3 : Hp}, σ[1]? = some (some (.str t)) → σ[2]? = some (some (.int (k : Int))) → Ev p (tSl (rSlU K) (tVar 1) tNoPart (tPart (tVar 2))) σ H3 (ss (GT N)) := fun h1 h2 => e_ssx (x_slS (lo := none) (hi := some (k : Int)) (e_vx h1) (fun _ _ q => o_none q) (fun _ _ q => o_var h2 q) ltb) (ht.cut _ _)
  have from0 : ∀ {σ : L2.St} {H3 : Hp}, σ[1]? = some (some (.str t)) → σ[2]? = some (some (.int (k : Int))) → Ev p (tSl (rSlU K) (tVar 1) (tPart (tVar 2)) tNoPart) σ H3 (ss (GT N)) := fun h1 h2 => e_ssx (x_slS (lo := some (k : Int)) (hi := none) (e_vx h1) (fun _ _ q => o_var h2 q) (fun _ _ q => o_none q) ltb) (ht.cut _ _)
  have from1 : ∀ {σ : L2.St} {H3 : Hp}, σ[1]? = some (some (.str t)) → σ[2]? = some (some (.int (k : Int))) → Ev p (tSl (rSlU K) (tVar 1) (tPart (tOp rAddU (tVar 2) (tC (.int 1)))) tNoPart) σ H3 (ss (GT N)) := fun h1 h2 => e_ssx (x_slS (lo := some ((k + 1 : Nat) : Int)) (hi := none) (e_vx h1) (fun H Q q => o_add h2 H Q q) (fun _ _ q => o_none q) ltb) (ht.cut _ _)
  have add : ∀ {σ : L2.St} {H3 : Hp} {t1 t2 : TE} {M1 M2 : Nat}, Ev p t1 σ H3 (ss (GT M1)) → Ev p t2 σ H3 (ss (GT M2)) → M1 + M2 ≤ 100000 → Ev p (tOp rAddU t1 t2) σ H3 (ss (GT (M1 + M2))) := fun h1 h2 hM => e_op h1 h2 fun x y H4 i4 g4 ⟨z1, e1, k1⟩ ⟨z2, e2, k2⟩ => rv i4 ⟨z1 ++ z2, rfl, k1.app k2⟩ fun Q q => .inr (.inl ⟨z1, z2, e1, e2, big (by have := k1.ln; have := k2.ln; omega), q⟩)
  have wk : ∀ {σ : L2.St} {H3 : Hp} {t1 : TE} {M : Nat}, Ev p t1 σ H3 (ss (GT M)) → M ≤ 2 * N + 10 → Ev p t1 σ H3 (ss (GT (2 * N + 10))) := fun h hM => h.imp fun v _ ⟨z, e, hz⟩ => ⟨z, e, hz.mono hM⟩
  refine q_ifS (A := ss (GT (2 * N + 10))) i2 (wayT 0 rfl) (fun _ => wk (add (to rfl rfl) (from1 rfl rfl) (by omega)) (by omega)) (fun _ v H3 i3 g3 h => fin g2 v H3 i3 g3 h) fun _ H3 i3 g23 => ?_
  have g3 := g2.trans g23
  refine q_ifS (A := ss (GT (2 * N + 10))) i3 (wayT 1 rfl) (fun _ => wk (add (add (to rfl rfl) (e_ssx (e_vx rfl) hsg) (by omega)) (from0 rfl rfl) (by omega)) (by omega)) (fun _ v H4 i4 g4 h => fin g3 v H4 i4 g4 h) fun _ H4 i4 g34 => ?_
  have g4 := g3.trans g34
  refine q_ifS (A := ss (GT (2 * N + 10))) i4 (wayT 2 rfl) (fun _ => wk (add (add (to rfl rfl) (e_ssx (e_vx rfl) hsg) (by omega)) (from1 rfl rfl) (by omega)) (by omega)) (fun _ v H5 i5 g5 h => fin g4 v H5 i5 g5 h) fun _ H5 i5 g45 => ?_
  have g5 := g4.trans g45
  have hwl : (wordsOf t).length ≤ 5002 := by have := words_len t; omega
  have hwp : 0 < (wordsOf t).length := List.length_pos_iff.mpr (words_ne t)
  refine q_asg (A := slP p Ps_ (wordsOf t)) i5 ((x_split (e_vx rfl) e_cx (by omega) rfl).imp fun v H h => slx_ps h) fun vw H6 i6 g56 hvw => ?_
  have g6 := g5.trans g56
  refine q_asg (A := si fun r => 0 ≤ r ∧ r < ((wordsOf t).length : Int)) i6 (e_drawN hp (e_vx rfl) (x_lenY (K := K) (e_var rfl hvw)) (by omega) (by omega)) fun vs H7 i7 g67 hvs => ?_
  obtain ⟨sp, rfl, s0, s1⟩ := hvs
  obtain ⟨m, rfl⟩ := Int.eq_ofNat_of_zero_le s0
  have g7 := g6.trans g67
  refine q_asg (A := syO p Ps_ fun z => z ∈ mores) i7 (x_ixO (K := K) (n := 11) (l_lst (la_cons (e_c rfl) (la_cons (e_c rfl) (la_cons (e_c rfl) (la_cons (e_c rfl) (la_cons (e_c rfl) (la_cons (e_c rfl) (la_cons (e_c rfl) (la_cons (e_c rfl) (la_cons (e_c rfl) (la_cons (e_c rfl) (la_cons (e_c rfl) la_nil))))))))))) (by decide +kernel)) (e_drawN hp (e_vx rfl) e_cx (by decide) (by decide)) (by decide +kernel)) fun vm H8 i8 g78 hvm => ?_
  obtain ⟨z, hzm, ez⟩ := hvm
  obtain rfl : vm = .str z := ez
  have hz6 : GT 6 z := gt_of (List.all_eq_true.mp mores_ok z hzm)
  have g8 := g7.trans g78
  have hw8 := (slP p Ps_ (wordsOf t)).st _ _ _ (g67.trans g78) hvw
  have ltk : ((wordsOf t).take m).length ≤ 5002 := by rw [List.length_take]; omega
  have ldm : ∀ j, ((wordsOf t).drop j).length ≤ 5002 := fun j => by rw [List.length_drop]; omega
  refine s_ret (A := ss (GT (2 * N + 10))) i8 (Ev.imp (x_joinE (K := K) (a := " ") (R := fun ys => ∃ fs, (∃ j, (j = m ∨ j = m + 1) ∧ fs = (wordsOf t).drop j) ∧ ys = ((wordsOf t).take m ++ [z]) ++ fs) e_cx (x_catYE (x_catY (x_takeY (k := m) (e_var (A := slP p Ps_ (wordsOf t)) rfl hw8) (by omega) fun H Q q => o_var rfl q) (l_lst (la_cons (e_var rfl rfl) la_nil) (Nat.le_of_ble_eq_true rfl)) (by show _ + 1 ≤ _; omega)) (x_dropD (K := K) (k := m) (e_var (A := slP p Ps_ (wordsOf t)) rfl hw8) (e_i2 (c := fun i => i = (m : Int) + 1) (d := fun r => 0 ≤ r ∧ r < 2) (e_addI (c := fun i => i = (m : Int)) (d := fun j => j = 1) (e_sxi (e_vx rfl) rfl) (e_ci rfl) fun i j ei ej => by rw [ei, ej]) (e_drawN hp (e_vx rfl) e_cx (by decide) (by decide)) fun i j H9 iv ei ej => r_i0 (g := fun i j => i - j) iv (by omega))) fun fs ⟨j, _, e⟩ => by rw [e, List.length_append]; have := ldm j; show _ + 1 + _ ≤ _; omega) fun ys ⟨fs, ⟨j, hj, ef⟩, ey⟩ => ?_) fun v H9 ⟨y, e, ys, ⟨fs, ⟨j, hj, ef⟩, ey⟩, ez⟩ => ⟨y, e, ?_⟩) fun v H9 i9 g9 h => fin g8 v H9 i9 g9 h
  · have hwl2 := words_wl t
    have e2 : wl ((wordsOf t).take m) ≤ wl (wordsOf t) := by
      have e := wl_app ((wordsOf t).take m) ((wordsOf t).drop m)
      rw [List.take_append_drop] at e
      omega
    have e3 : wl ((wordsOf t).drop j) ≤ wl (wordsOf t) := by
      have e := wl_app ((wordsOf t).take j) ((wordsOf t).drop j)
      rw [List.take_append_drop] at e
      omega
    have := wl_sum ys
    rw [show (" " : Str).length = 1 from rfl, this, ey, ef, wl_app, wl_app, wl_cons]
    have := hz6.ln
    show _ + (z.length + 1 + 0) + _ ≤ _
    omega
  · rw [ez, ey, ef]
    exact bent_join ht hz6 hj
end
end K21
namespace K21
open PySem PySem.Spec PyProof.Rows L2 Hk
/-! ### what a def tells, or how it refuses -/
structure Ex (P : Program) (K : PySem.W.Frag) (mg : Str → Option Value) (C fI A1 A2 A3 A4 A5 A6 : Addr) : Prop where
  er : Er P K mg C fI
  ec : ExcC K C
  exm : PySem.W.exmOne K (.ref C) (.ref C) = some true
  m1 : mg "InvalidEpoch" = some (.ref A1)
  m2 : mg "InvalidStory" = some (.ref A2)
  m3 : mg "LimitError" = some (.ref A3)
  m4 : mg "MissingError" = some (.ref A4)
  m5 : mg "StateError" = some (.ref A5)
  m6 : mg "HeldoverError" = some (.ref A6)
  k6 : PySem.W.kitOne K (.ref C) (.ref A6) = some true
  kv : PySem.W.kitOne K (.ref C) (.type "ValueError") = some true
  kn : PySem.W.kitAny K (.ref C) [.ref A1, .ref A2, .ref A3, .ref A4, .ref A5] = some false
def tsR (K : PySem.W.Frag) (C A1 A2 A3 A4 A5 A6 a dd : Addr) : TS :=
  tSeq (tAsg (tCB (rIsET K C a dd) (tCons (tVar 3) (tCons (tTup (tCons (tC (.ref A1)) (tCons (tC (.ref A2)) (tCons (tC (.ref A3)) (tCons (tC (.ref A4)) (tCons (tC (.ref A5)) tNil)))))) tNil))) (gName 4))
    (tAsg (tLst (tCons (tC (.str "refused")) (tCons (tValE C a (.ref C) (some dd) (tVar 3)) (tCons (tCB (rIsE1 K C a dd) (tCons (tVar 3) (tCons (tC (.ref A6)) tNil))) (tCons (tCB (rIsE1 K C a dd) (tCons (tVar 3) (tCons (tC (.ty "ValueError")) tNil))) (tCons (tVar 4) tNil)))))) (gName 2))
def tsE (K : PySem.W.Frag) (C A1 A2 A3 A4 A5 A6 : Addr) : Addr → Value → Option Addr → TS := fun a cls d D σ H => ∃ dd, cls = .ref C ∧ d = some dd ∧ tsR K C A1 A2 A3 A4 A5 A6 a dd D σ H
section
variable {P : Program} {w : World} {K : PySem.W.Frag} {mg : Str → Option Value} {base : Heap} {C fI A1 A2 A3 A4 A5 A6 : Addr}
def spTold (P : Program) (w : World) (K : PySem.W.Frag) (mg : Str → Option Value) (base : Heap) (C : Addr) : Sp := fun vs H Q _ => ∃ (p : Vo) (f : Addr) (sp : Sp) (v : V) (A : Sy p) (RE : Prop), vs = [.ref f, v] ∧ HeldX P w K mg base 7 f sp ∧ Iv p H ∧
  (∀ H1, Iv p H1 → Gr p H H1 → ∀ (Q' : VK) (E' : XK), (∀ x H', Iv p H' → Gr p H1 H' → A.P x H' → Q' x H') → (∀ H' d, Iv p H' → Gr p H1 H' → H' d = none → RE → E' (.ref C) (some d) (upd H' d (.xd [(("value" : Str), v)]))) → sp [v] H1 Q' E') ∧
  ∀ r H', Iv p H' → Gr p H H' → (∃ b, r = .ref b ∧ Nv p b ∧ ((∃ x, H' b = some (.lst [.str "told", x]) ∧ A.P x H') ∨ (RE ∧ H' b = some (.lst [.str "refused", v, .bl true, .bl true, .bl false])))) → Q r H'
theorem sc_told : FnScope ["_law_deed", "_law_thing", "_law_told_here", "e", "_law_other"] ["_law_deed", "_law_thing"] (defScope s__law_told) := ⟨rfl, rfl, rfl, by decide +kernel, rfl, by decide +kernel, by decide +kernel⟩
theorem ok_told (E : En K mg) (X : Ex P K mg C fI A1 A2 A3 A4 A5 A6) (F : Df K mg "_law_told" s__law_told) : Ca P w K mg base 8 "_law_told" (spTold P w K mg base C) := by
  refine ca_mk F sc_told (fun _ _ _ _ _ _ us hl => match us, hl with | [_, _], _ => rfl) (fun vs H Q E h => by obtain ⟨p, f, sp, v, A, RE, rfl, _⟩ := h; rfl) (fun f0 cdv A0 outer s H vs Q E' hr h => ?_)
  obtain ⟨p, f, sp, v, A, RE, rfl, hf, i0, hd, q⟩ := h
  refine ⟨_, (pss_cons (ps_set (i := 2) sc_told.nd rfl (Or.inl rfl) (pe_lst (pa_cons pe_str pa_nil)))
    (pss_cons (ps_try_as (i := 3) (c := .ref C) (ts := tsE K C A1 A2 A3 A4 A5 A6) (Wout := fun _ _ _ _ => False) rfl rfl sc_told.nd rfl rfl ⟨by rfl, by decide, .inl X.er.m⟩ takes0
      (fun W pn xe tk hp => pss_one (ps_set (i := 2) sc_told.nd rfl (Or.inl rfl) (pe_lst (pa_cons pe_str (pa_cons (pe_callX (i := 0) (Hd := fun f sp => HeldX P w K mg base 7 f sp) (fun _ _ h => h) tk (hr.mono (by first | decide | omega)) (by rfl) (Or.inl rfl) (pa_cons (pv 1) pa_nil)) pa_nil)))))
      (fun a oe cls d pn hz hfl => ⟨fun pins s σ H D I h => by
        obtain ⟨dd, e1, e2, h⟩ := h
        subst e1 e2
        exact PSs.run (t := tsR K C A1 A2 A3 A4 A5 A6 a dd) (pss_cons (ps_set (i := 4) sc_told.nd rfl (Or.inl rfl) (pe_callB (call_isET X.ec hz hfl) (by rfl) (E.fr (x := "isinstance") (by decide +kernel)) (by decide +kernel) (pa_cons (pv 3) (pa_cons (pe_tup (pa_cons (pe_gc (by rfl) ⟨_, X.m1, rfl⟩) (pa_cons (pe_gc (by rfl) ⟨_, X.m2, rfl⟩) (pa_cons (pe_gc (by rfl) ⟨_, X.m3, rfl⟩) (pa_cons (pe_gc (by rfl) ⟨_, X.m4, rfl⟩) (pa_cons (pe_gc (by rfl) ⟨_, X.m5, rfl⟩) pa_nil)))))) pa_nil)))) (pss_one (ps_set (i := 2) sc_told.nd rfl (Or.inl rfl) (pe_lst (pa_cons pe_str (pa_cons (pe_valE X.er.T X.ec hz hfl (pv 3)) (pa_cons (pe_callB (call_isE1 X.ec hz hfl) (by rfl) (E.fr (x := "isinstance") (by decide +kernel)) (by decide +kernel) (pa_cons (pv 3) (pa_cons (pe_gc (by rfl) ⟨_, X.m6, rfl⟩) pa_nil))) (pa_cons (pe_callB (call_isE1 X.ec hz hfl) (by rfl) (E.fr (x := "isinstance") (by decide +kernel)) (by decide +kernel) (pa_cons (pv 3) (pa_cons (pe_bltn (by rfl) (E.fr (x := "ValueError") (by decide +kernel)) (by decide +kernel) (show RelV (.ty "ValueError") (.type "ValueError") from rfl)) pa_nil))) (pa_cons (pv 4) pa_nil))))))))) pins s σ H D I h⟩))
    (pss_one (ps_ret (pv 2))))), ?_⟩
  refine q_asg (A := slx [.str "none"]) i0 (x_lst (ws := [V.str "none"]) (a_cons e_cx a_nil) (by rw [sizeLine_eq]; exact Nat.le_of_ble_eq_true rfl)) fun v2 H1 i1 g1 _ => ?_
  refine ⟨f, sp, rfl, hf, v, rfl, ?_⟩
  refine hd H1 i1 g1 _ _ (fun x H2 i2 g2 hx => ?_) fun H2 d i2 g2 hn re => ?_
  · refine ⟨by rw [sizeLine_eq]; exact Nat.le_of_ble_eq_true rfl, fun b hb => ?_⟩
    exact ⟨.ref b, rfl, q _ _ (i2.new hb) ((g1.trans g2).trans (Gr.new hb)) ⟨b, rfl, i2.ne hb, .inl ⟨x, upd_same, A.st x _ _ (Gr.new hb) hx⟩⟩⟩
  · refine ⟨true, X.exm, fun _ a ha => ⟨d, rfl, rfl, ?_⟩, fun h => nomatch h⟩
    have nd := i2.ne hn
    have i3 := i2.new (o := .xd [(("value" : Str), v)]) hn
    have g13 := (g1.trans g2).trans (Gr.new (p := p) (o := .xd [(("value" : Str), v)]) hn)
    have hdd : ∀ {H4}, Gr p (upd H2 d (.xd [(("value" : Str), v)])) H4 → H4 d = some (.xd [(("value" : Str), v)]) := fun g => g d _ nd upd_same
    refine q_asgx (v := .bl false) i3 (e_cb (a_cons (e_vx (v := .ref a) rfl) (a_cons (x_tup (ws := [V.ref A1, V.ref A2, V.ref A3, V.ref A4, V.ref A5]) (a_cons e_cx (a_cons e_cx (a_cons e_cx (a_cons e_cx (a_cons e_cx a_nil))))) (by rw [sizeLine_eq]; exact Nat.le_of_ble_eq_true rfl)) a_nil)) fun vs H4 i4 g4 os => by
      obtain ⟨x1, w1, rfl, rfl, x2, w2, rfl, ⟨tp, us, rfl, nt, ht, rfl⟩, rfl⟩ := os
      exact rv i4 rfl fun Q q => ⟨tp, _, _, false, _, rfl, ht, .cons (.own A1) (.cons (.own A2) (.cons (.own A3) (.cons (.own A4) (.cons (.own A5) .nil)))), hdd g4, X.kn, q⟩) fun H4 i4 g4 => ?_
    have is1 : ∀ {σ : L2.St} {c : V} {u : Value}, σ[3]? = some (some (.ref a)) → ClsV c u → PySem.W.kitOne K (.ref C) u = some true → Ev p (tCB (rIsE1 K C a d) (tCons (tVar 3) (tCons (tC c) tNil))) σ H4 (sx (.bl true)) := fun {σ c u} h3 hc hk => e_cb (a_cons (e_vx h3) (a_cons (e_cx (v := c)) a_nil)) fun vs H5 i5 g5 os => by
      obtain ⟨x1, w1, rfl, rfl, x2, w2, rfl, rfl, rfl⟩ := os
      exact rv i5 rfl fun Q q => ⟨_, u, true, _, rfl, hc, hdd (g4.trans g5), hk, q⟩
    have val : ∀ {σ : L2.St}, σ[3]? = some (some (.ref a)) → Ev p (tValE C a (.ref C) (some d) (tVar 3)) σ H4 (sx v) := fun h3 H5 i5 g5 Q q => ⟨.ref a, h3, rfl, rfl, d, v, rfl, hdd (g4.trans g5), q v H5 i5 (Gr.refl H5) rfl⟩
    refine s_asg (A := slx [.str "refused", v, .bl true, .bl true, .bl false]) i4 (x_lst (ws := [V.str "refused", v, .bl true, .bl true, .bl false]) (a_cons e_cx (a_cons (val rfl) (a_cons (is1 rfl (.own A6) X.k6) (a_cons (is1 rfl (.ty "ValueError") X.kv) (a_cons (e_vx rfl) a_nil))))) (by rw [sizeLine_eq]; exact Nat.le_of_ble_eq_true rfl)) fun vr H5 i5 g5 hr => ?_
    obtain ⟨b, us, rfl, nb, hb, rfl⟩ := hr
    exact ⟨.ref b, rfl, q _ _ i5 ((g13.trans g4).trans g5) ⟨b, rfl, nb, .inr ⟨re, hb⟩⟩⟩
end
end K21
namespace K21
open PySem PySem.Spec PyProof.Rows L2 Hk
theorem partS_chars {d : D} (h : partD d = true) : ∀ c ∈ (partS d).cps.toList, c < 16 ^ 8 := by
  obtain ⟨l, n, rfl, hl, _, n0, n1⟩ := part_shape h
  intro c hc
  rw [partS_eq] at hc
  have hc : c ∈ TL.tl ((l ++ ".") ++ numStr n) := hc
  rw [TL.tl_append, TL.tl_append] at hc
  rcases List.mem_append.mp hc with hc | hc
  · rcases List.mem_append.mp hc with hc | hc
    · have := label_signs hl c hc
      omega
    · have : c = 46 := by simpa using (show c ∈ ([46] : List Nat) from hc)
      rw [this]; decide
  · have hc : c ∈ (numStr n).cps.toList := hc
    rw [num_one n0 n1] at hc
    have := List.mem_singleton.mp hc
    omega
theorem text_good {d : D} (h : idxD d = true) {N : Nat} (hN : ∀ ds, d = .tup ds → ds.length ≤ N) : GT (11 * N + 10) (idxText d) := by
  obtain ⟨e, p, ps, rfl, e0, e1, hq⟩ := idx_shape h
  have hl := hN _ rfl
  show GT _ (Txt.join " " (numStr e :: (p :: ps).map partS))
  rw [TL.join_eq]
  have j := join_wl (ws := numStr e :: (p :: ps).map partS) (List.cons_ne_nil _ _)
  rw [wl_cons] at j
  have w : ∀ (l : List D), (∀ q ∈ l, partD q = true) → wl (l.map partS) ≤ 11 * l.length := fun l => by
    induction l with
    | nil => intro _; exact Nat.zero_le _
    | cons q l ih =>
      intro hq
      rw [List.map_cons, wl_cons, List.length_cons]
      have := ih fun z hz => hq z (List.mem_cons_of_mem _ hz)
      have := partS_len (hq q List.mem_cons_self)
      omega
  have w1 := w (p :: ps) hq
  have n1 := numStr_len10 e0 e1
  rw [List.length_cons] at hl
  refine ⟨by omega, fun c hc => ?_⟩
  rcases chars_join hc with hc | ⟨z, hz, hc⟩
  · have : c = 32 := by simpa using (show c ∈ ([32] : List Nat) from hc)
    rw [this]; decide
  · rcases List.mem_cons.mp hz with ez | hz
    · rw [ez] at hc
      obtain ⟨m, rfl⟩ := Int.eq_ofNat_of_zero_le e0
      have := (num_digs m).1 c hc
      omega
    · obtain ⟨q, hqm, rfl⟩ := List.mem_map.mp hz
      exact partS_chars (hq q hqm) c hc
theorem gt_gd {N : Nat} {z : Str} (h : GT N z) : Gd N 0 (.str z) := g_str h.ch h.ln
def refD (d : PyData) : PyData := .list [.str "refused", d, .bool true, .bool true, .bool false]
def tolD (d : PyData) : PyData := .list [.str "told", d]
theorem w_good : Gd 10 0 (.str "refused") ∧ Gd 10 0 (.str "told") := ⟨g_str (fun c hc => of_decide_eq_true (List.all_eq_true.mp (show ("refused" : Str).cps.toList.all (fun c => decide (c < 16 ^ 8)) = true by decide +kernel) c hc)) (by decide +kernel), g_str (fun c hc => of_decide_eq_true (List.all_eq_true.mp (show ("told" : Str).cps.toList.all (fun c => decide (c < 16 ^ 8)) = true by decide +kernel) c hc)) (by decide +kernel)⟩
theorem ref_good {N k : Nat} {d : PyData} (h : Gd N k d) : Gd (N + 50) (k + 1) (refD d) :=
  (Gds.lst (Gds.cons (w_good.1.mono (Nat.le_refl _) (Nat.zero_le _)) (Gds.cons h (Gds.cons ((g_bool true).mono (Nat.le_refl _) (Nat.zero_le _)) (Gds.cons ((g_bool true).mono (Nat.le_refl _) (Nat.zero_le _)) (Gds.cons ((g_bool false).mono (Nat.le_refl _) (Nat.zero_le _)) Gds.nil)))))).mono (by omega) (Nat.le_refl _)
theorem tol_good {N k : Nat} {d : PyData} (h : Gd N k d) : Gd (N + 50) (k + 1) (tolD d) := (Gds.lst (Gds.cons (w_good.2.mono (Nat.le_refl _) (Nat.zero_le _)) (Gds.cons h Gds.nil))).mono (by omega) (Nat.le_refl _)
section
variable {P : Program} {w : World} {K : PySem.W.Frag} {mg : Str → Option Value} {base : Heap} {C fI A1 A2 A3 A4 A5 A6 : Addr} {p : Vo} {σ : L2.St} {H : Hp} {ta tb te : TE} {tr : TA}
theorem x_callK {sp : Sp} {v r : V} (h : EvA p tr σ H [sx v]) (hs : ∀ H1, Gr p H H1 → Pu sp [v] H1 r) : Ev p (tCallN 0 1 sp (fun _ zs => zs) E0 tNil tr) σ H (sx r) := fun H1 i g Q q =>
  h H1 i g _ fun vs H2 i2 g2 ⟨x, ws, e1, ex, e2⟩ => by
    obtain rfl : x = v := ex
    refine ⟨rfl, by rw [e1, e2]; rfl, ?_⟩
    show sp vs H2 Q E0
    rw [e1, e2]
    exact hs H2 (g.trans g2) Q E0 fun H' e => q r H' (i2.grow e) (g2.trans e.pure) rfl
/-- told: the answer, or what is refused -/
theorem x_told {f : Addr} {sp : Sp} {v : V} {A : Sy p} {RE : Prop} {B : Sy p} (hf : HeldX P w K mg base 7 f sp) (ha : Ev p ta σ H (sx v))
    (hd : ∀ H1, Iv p H1 → Gr p H H1 → ∀ (Q' : VK) (E' : XK), (∀ x H', Iv p H' → Gr p H1 H' → A.P x H' → Q' x H') → (∀ H' d, Iv p H' → Gr p H1 H' → H' d = none → RE → E' (.ref C) (some d) (upd H' d (.xd [(("value" : Str), v)]))) → sp [v] H1 Q' E')
    (hB : ∀ b H1, Gr p H H1 → Nv p b → ((∃ x, H1 b = some (.lst [.str "told", x]) ∧ A.P x H1) ∨ (RE ∧ H1 b = some (.lst [.str "refused", v, .bl true, .bl true, .bl false]))) → B.P (.ref b) H1) :
    Ev p (tCall (spTold P w K mg base C) [] E0 (tCons (tC (.ref f)) (tCons ta tNil))) σ H B := e_call (a_cons e_cx (a_cons ha a_nil)) fun vs H1 iv g os Q q => by
  obtain ⟨x, ws, rfl, rfl, y, us, rfl, rfl, rfl⟩ := os
  refine ⟨p, f, sp, _, A, RE, rfl, hf, iv, fun H2 i2 g2 => hd H2 i2 (g.trans g2), fun r H' i' g' ⟨b, er, nb, h⟩ => ?_⟩
  rw [er]
  exact q _ H' i' g' (hB b H' (g.trans g') nb h)
theorem rp_ref {b : Addr} {v : V} {d : PyData} (hs : Sm p) (nb : Nv p b) (hb : H b = some (.lst [.str "refused", v, .bl true, .bl true, .bl false])) (hv : Rp p H v d) : Rp p H (.ref b) (refD d) :=
  slP_rp hs ⟨b, _, rfl, nb, hb, (AllL.cons (.str _) (AllL.cons hv (AllL.cons (.bl _) (AllL.cons (.bl _) (AllL.cons (.bl _) .nil)))) : AllL Pr p H _ [.str "refused", d, .bool true, .bool true, .bool false])⟩
theorem rp_tol {b : Addr} {v : V} {d : PyData} (hs : Sm p) (nb : Nv p b) (hb : H b = some (.lst [.str "told", v])) (hv : Rp p H v d) : Rp p H (.ref b) (tolD d) :=
  slP_rp hs ⟨b, _, rfl, nb, hb, (AllL.cons (.str _) (AllL.cons hv .nil) : AllL Pr p H _ [.str "told", d])⟩
def spJ : Sp := fun vs H Q _ => ∃ (p : Vo) (v : V) (d : PyData), vs = [v] ∧ Iv p H ∧ Sm p ∧ Rp p H v d ∧ Gd 9000 6 d ∧ ∀ H', Iv p H' → Gr p H H' → Q (.bl true) H'
def sTx (d : D) : Sy p := ⟨fun x _ => x = .str (idxText d) ∧ idxD d = true, fun _ _ _ _ h => h⟩
theorem deed_text {v : V} {d : D} (hd : Dat p H v d) : ∀ H1, Iv p H1 → Gr p H H1 → ∀ (Q' : VK) (E' : XK), (∀ x H', Iv p H' → Gr p H1 H' → (sTx (p := p) d).P x H' → Q' x H') → (∀ H' dd, Iv p H' → Gr p H1 H' → H' dd = none → idxD d = false → E' (.ref C) (some dd) (upd H' dd (.xd [(("value" : Str), v)]))) → spText C [v] H1 Q' E' :=
  fun H1 i1 g1 Q' E' k1 k2 => ⟨v, d, rfl, (hd.gr g1).non', fun h H' g' => k1 _ H' (i1.grow g') g'.pure ⟨rfl, h⟩, fun h H' dd g' hn => k2 H' dd (i1.grow g') g'.pure hn h⟩
theorem ok_judged (E : En K mg) (X : Ex P K mg C fI A1 A2 A3 A4 A5 A6) (F : Df K mg "_law_judged_right" s__law_judged_right) (k_is_index : CaK CX0 P w K mg base 5 "is_index" "value" (spD1 idxD)) (k_index_text : CaK (L2.CX P w) P w K mg base 7 "index_text" "index" (spText C)) (c__law_is_right : Ca P w K mg base 3 "_law_is_right" (spD1 idxD)) (c__law_text : Ca P w K mg base 1 "_law_text" spTxt) (c__law_told : Ca P w K mg base 8 "_law_told" (spTold P w K mg base C)) : CaG P w K mg base 9 "_law_judged_right" spJ := by
  have c_is_index := k_is_index.ca
  obtain ⟨fT, fdT, FT, mT, kT, bT, _⟩ := k_index_text.ex
  have g_index_text : ∃ u, mg "index_text" = some u ∧ RelV (.ref fT) u := ⟨_, mT, rfl⟩
  have hfT : HeldX P w K mg base 7 fT (spText C) := ⟨fdT, _, FT, kT, bT⟩
  refine caG_mk F sc__law_judged_right (fun _ _ _ _ _ _ us hl => match us, hl with | [_], _ => rfl) (fun vs H Q E h => by obtain ⟨p, v, d, rfl, _⟩ := h; rfl) (fun f cdv A outer s H vs Q E' hg hr h => ?_)
  have hu64 : (A.deeper (envOfC "_law_judged_right" (defScope s__law_judged_right) s.heap.objs.size f cdv)).units + 64 < cLine := by
    have := hr.un
    omega
  obtain ⟨p, v, d, rfl, i0, hs, hv, hd, q⟩ := h
  refine ⟨_, (pss_cons (ps_par (i := 1) (j := 2) rfl sc__law_judged_right.nd rfl rfl (by decide) rfl rfl (pa_cons (pe_callB (call_reprR hg hu64) (by rfl) (E.fr (x := "repr") (by decide +kernel)) (by decide +kernel) (pa_cons (pv 0) pa_nil)) (pa_cons (pe_ca c__law_is_right (hr.mono (by first | decide | omega)) (by rfl) (pa_cons (pv 0) pa_nil)) pa_nil)) rfl)
      (pss_cons (ps_if (pt_cmpR op_ne (pe_callB (call_reprR hg hu64) (by rfl) (E.fr (x := "repr") (by decide +kernel)) (by decide +kernel) (pa_cons (pe_lst (pa_cons (pe_ca c_is_index (hr.mono (by first | decide | omega)) (by rfl) (pa_cons (pv 0) pa_nil)) (pa_cons (pe_cxk k_is_index pass0 (hr.mono (by first | decide | omega)) (by rfl) (pk_cons (pv 0) pk_nil)) pa_nil))) pa_nil)) (pe_callB (call_reprR hg hu64) (by rfl) (E.fr (x := "repr") (by decide +kernel)) (by decide +kernel) (pa_cons (pe_lst (pa_cons (pv 2) (pa_cons (pv 2) pa_nil))) pa_nil)) (nomark _)) (pss_one (ps_ret pe_bl)) pss_nil)
      (pss_cons (ps_set (i := 3) sc__law_judged_right.nd rfl (Or.inl rfl) (pe_ca c__law_told (hr.mono (by first | decide | omega)) (by rfl) (pa_cons (pe_gc (by rfl) g_index_text) (pa_cons (pv 0) pa_nil))))
      (pss_cons (ps_if (pt_cmpR op_ne (pe_callB (call_reprR hg hu64) (by rfl) (E.fr (x := "repr") (by decide +kernel)) (by decide +kernel) (pa_cons (pv 3) pa_nil)) (pe_callB (call_reprR hg hu64) (by rfl) (E.fr (x := "repr") (by decide +kernel)) (by decide +kernel) (pa_cons (pe_ifExp (pt_truth (pv 2) (by intro _; rfl)) (pe_lst (pa_cons pe_str (pa_cons (pe_ca c__law_text (hr.mono (by first | decide | omega)) (by rfl) (pa_cons (pv 0) pa_nil)) pa_nil))) (pe_lst (pa_cons pe_str (pa_cons (pv 0) (pa_cons pe_bl (pa_cons pe_bl (pa_cons pe_bl pa_nil))))))) pa_nil)) (nomark _)) (pss_one (ps_ret pe_bl)) pss_nil)
      (pss_one (ps_ret (pe_and (pe_cmpR op_eq (pe_callB (call_reprR hg hu64) (by rfl) (E.fr (x := "repr") (by decide +kernel)) (by decide +kernel) (pa_cons (pv 0) pa_nil)) (pv 1) (nomark _)) (pe_one (pe_or (pe_not (pv 2)) (pe_one (pe_cmpR op_eq (pe_cxk k_index_text passL (hr.mono (by first | decide | omega)) (by rfl) (pk_cons (pv 0) pk_nil)) (pe_ix (ixU (K := K) rfl) (pv 3) pe_int (fun _ _ => rfl)) (nomark _)))))))))))), ?_⟩
  have hD : Dat p H v (sD d) := hv.dat (bulk_small d (by have := hd.bk; omega))
  have rep : ∀ {σ : L2.St} {H1 : Hp}, σ[0]? = some (some v) → Gr p H H1 → Ev p (tCB rReprR (tCons (tVar 0) tNil)) σ H1 (sx (.str d.shown)) := fun h0 g => x_repr (e_vx h0) (fun H2 g2 => hv.gr (g.trans g2)) hd (by decide) (by decide)
  refine q_two (A := sx (.str d.shown)) (B := sx (.bl (idxD (sD d)))) i0 (a_cons (rep rfl (Gr.refl H)) (a_cons (x_call (a_cons (e_vx rfl) a_nil) fun H2 g2 => pu_D1 (hD.gr g2).non') a_nil)) fun x1 x2 H1 i1 g1 e1 e2 => ?_
  obtain rfl : x1 = _ := e1
  obtain rfl : x2 = _ := e2
  have hbb : Gd 10 1 (.list [.bool (idxD (sD d)), .bool (idxD (sD d))]) := (Gds.lst (Gds.cons (g_bool _) (Gds.cons (g_bool _) Gds.nil))).mono (by omega) (Nat.le_refl _)
  have y_b : ∀ {σ : L2.St} {H1 : Hp} {t : TE} {b : Bool}, Ev p t σ H1 (sx (.bl b)) → Ev p t σ H1 (syY p Pr (.bool b)) := fun h => h.imp fun v _ e => by rw [show v = _ from e]; exact .bl _
  refine q_ifr (v := .bl false) (b := false) i1 (k_to (k_test (x_ne (x := .str (PyData.list [.bool (idxD (sD d)), .bool (idxD (sD d))]).shown) (y := .str (PyData.list [.bool (idxD (sD d)), .bool (idxD (sD d))]).shown) (x_reprS (y_lst hs (la_cons (y_b (x_call (a_cons (e_vx rfl) a_nil) fun H2 g2 => pu_D1 (hD.gr (g1.trans g2)).non')) (la_cons (y_b (x_callK (a_cons (e_vx rfl) a_nil) fun H2 g2 => pu_D1 (hD.gr (g1.trans g2)).non')) la_nil)) (Nat.le_of_ble_eq_true rfl)) hbb (by decide) (by decide)) (x_reprS (y_lst hs (la_cons (y_b (e_vx rfl)) (la_cons (y_b (e_vx rfl)) la_nil)) (Nat.le_of_ble_eq_true rfl)) hbb (by decide) (by decide)) rfl)) (by rw [decide_eq_true rfl]; rfl)) (fun h => nomatch h) (fun h => nomatch h) fun _ H2 i2 g12 => ?_
  have g2 := g1.trans g12
  have hvg : ∀ {H3}, Gr p H2 H3 → Rp p H3 v d := fun g => hv.gr (g2.trans g)
  have rep2 : ∀ {σ : L2.St} {H1 : Hp}, σ[0]? = some (some v) → Gr p H2 H1 → Ev p (tCB rReprR (tCons (tVar 0) tNil)) σ H1 (sx (.str d.shown)) := fun h0 g => rep h0 (g2.trans g)
  have kb2 : ∀ {σ : L2.St} {H1 : Hp}, σ[2]? = some (some (.bl (idxD (sD d)))) → Tis p (fun σ H Q => tVar 2 σ H fun x H' => ∃ k, TruV K x H' k ∧ Q k H') σ H1 (idxD (sD d)) := fun h2 H3 i3 g3 Q' q' => ⟨_, h2, _, rfl, q' _ H3 i3 (Gr.refl H3) rfl⟩
  cases hi : idxD (sD d) with
  | false =>
    refine q_asg (A := ⟨fun v' H3 => ∃ b, v' = .ref b ∧ Nv p b ∧ H3 b = some (.lst [.str "refused", v, .bl true, .bl true, .bl false]), fun v' H H' g ⟨b, e, nb, hb⟩ => ⟨b, e, nb, g b _ nb hb⟩⟩) i2 (x_told (C := C) hfT (e_vx rfl) (deed_text (C := C) (hD.gr g2)) fun b H3 g3 nb h => ?_) fun v3 H3 i3 g23 h3 => ?_
    · rcases h with ⟨x, hb, _, ex⟩ | ⟨_, hb⟩
      · rw [hi] at ex
        cases ex
      · exact ⟨b, rfl, nb, hb⟩
    · obtain ⟨b, rfl, nb, hb⟩ := h3
      refine q_ifr (v := .bl false) (b := false) i3 (k_to (k_test (x_ne (x := .str (refD d).shown) (y := .str (refD d).shown) (x_repr (e_vx rfl) (fun H4 g4 => rp_ref hs nb (g4 b _ nb hb) (hvg (g23.trans g4))) (ref_good hd) (by decide) (by decide)) (x_reprS (e_if (B := fun c => c = idxD (sD d)) (kb2 (by rw [hi]; rfl)) (fun h => absurd h (by rw [hi]; decide)) fun _ => y_lst hs (la_cons y_s (la_cons (e_var rfl (hvg g23)) (la_cons y_bool (la_cons y_bool (la_cons y_bool la_nil))))) (Nat.le_of_ble_eq_true rfl)) (ref_good hd) (by decide) (by decide)) rfl)) (by rw [decide_eq_true rfl]; rfl)) (fun h => nomatch h) (fun h => nomatch h) fun _ H4 i4 g34 => ?_
      have g4 := g23.trans g34
      refine s_retx i4 (x_to (x_and (x_eq (x := .str d.shown) (y := .str d.shown) (rep2 rfl g4) (e_vx rfl) rfl) fun _ => x_or (a := true) (b := true) (x_to (x_not (e_vx rfl)) rfl) fun h => nomatch h) (w := .bl true) (by rw [decide_eq_true rfl]; rfl)) fun H5 i5 g5 => q H5 i5 ((g2.trans g4).trans g5)
  | true =>
    have htx : GT 100000 (idxText (sD d)) := (text_good hi (N := 9000) fun ds e => by
      cases d with
      | tuple es =>
        have h1 := hd.bk
        simp only [PyData.bulk] at h1
        have h2 := bulk_len es
        have e : D.tup (sDs es) = .tup ds := e
        rw [sDs_map] at e
        rw [← D.tup.inj e, List.length_map]
        omega
      | _ => cases e).mono (by omega)
    refine q_asg (A := ⟨fun v' H3 => ∃ b, v' = .ref b ∧ Nv p b ∧ H3 b = some (.lst [.str "told", .str (idxText (sD d))]), fun v' H H' g ⟨b, e, nb, hb⟩ => ⟨b, e, nb, g b _ nb hb⟩⟩) i2 (x_told (C := C) hfT (e_vx rfl) (deed_text (C := C) (hD.gr g2)) fun b H3 g3 nb h => ?_) fun v3 H3 i3 g23 h3 => ?_
    · rcases h with ⟨x, hb, ex, _⟩ | ⟨ex, hb⟩
      · exact ⟨b, rfl, nb, by rw [hb, ex]⟩
      · rw [hi] at ex
        cases ex
    · obtain ⟨b, rfl, nb, hb⟩ := h3
      refine q_ifr (v := .bl false) (b := false) i3 (k_to (k_test (x_ne (x := .str (tolD (.str (idxText (sD d)))).shown) (y := .str (tolD (.str (idxText (sD d)))).shown) (x_repr (e_vx rfl) (fun H4 g4 => rp_tol hs nb (g4 b _ nb hb) (.str _)) (tol_good (gt_gd htx)) (by decide) (by decide)) (x_reprS (e_if (B := fun c => c = idxD (sD d)) (kb2 (by rw [hi]; rfl)) (fun _ => y_lst hs (la_cons y_s (la_cons (Ev.imp (A := sx (.str (idxText (sD d)))) (x_call (a_cons (e_vx rfl) a_nil) fun H4 g4 => pu_txt (hD.gr ((g2.trans g23).trans g4)).non' hi) fun v H e => by rw [show v = _ from e]; exact .str _) la_nil)) (Nat.le_of_ble_eq_true rfl)) fun h => absurd h (by rw [hi]; decide)) (tol_good (gt_gd htx)) (by decide) (by decide)) rfl)) (by rw [decide_eq_true rfl]; rfl)) (fun h => nomatch h) (fun h => nomatch h) fun _ H4 i4 g34 => ?_
      have g4 := g23.trans g34
      refine s_retx i4 (x_to (x_and (x_eq (x := .str d.shown) (y := .str d.shown) (rep2 rfl g4) (e_vx rfl) rfl) fun _ => x_or (a := false) (x_to (x_not (e_vx rfl)) rfl) fun _ => x_eq (x := .str (idxText (sD d))) (y := .str (idxText (sD d))) (x_callK (v := v) (a_cons (e_vx rfl) a_nil) fun H5 g5 Q' E'' k => ⟨v, sD d, rfl, (hD.gr ((g2.trans g4).trans g5)).non', fun _ H' g' => k H' g', fun h => by rw [hi] at h; cases h⟩) (x_ixQ (xs := [V.str "told", .str (idxText (sD d))]) (e_vx rfl) (fun v H5 g5 e => ⟨b, e, .inl (SqL.of ((g34.trans g5) b _ nb hb))⟩) e_cx (atI_nat (j := 1) rfl)) rfl) (w := .bl true) (by rw [decide_eq_true rfl, decide_eq_true rfl]; rfl)) fun H5 i5 g5 => q H5 i5 ((g2.trans g4).trans g5)
end
end K21
namespace K21
open PySem PySem.Spec PyProof.Rows L2 Hk
mutual
def toP : D → PyData
  | .non => .none
  | .bl b => .bool b
  | .int i => .int i
  | .str s => .str s
  | .tup ds => .tuple (toPs ds)
  | .lst => .list []
  | .dct => .dict []
def toPs : List D → List PyData
  | [] => []
  | d :: ds => toP d :: toPs ds
end
theorem toPs_map : ∀ ds : List D, toPs ds = ds.map toP
  | [] => rfl
  | d :: ds => by
    show toP d :: toPs ds = _
    rw [toPs_map ds]; rfl
mutual
def pl : D → Bool
  | .tup ds => pls ds
  | .lst => false
  | .dct => false
  | _ => true
def pls : List D → Bool
  | [] => true
  | d :: ds => pl d && pls ds
end
theorem pls_at : ∀ {ds : List D} {i : Nat} {d : D}, pls ds = true → ds[i]? = some d → pl d = true
  | [], _, _, _, e => by cases e
  | x :: xs, 0, d, h, e => by
    have := (Bool.and_eq_true_iff.mp (show (pl x && pls xs) = true from h)).1
    rwa [Option.some.inj e] at this
  | x :: xs, i + 1, d, h, e => pls_at (ds := xs) (i := i) (Bool.and_eq_true_iff.mp (show (pl x && pls xs) = true from h)).2 e
theorem pls_all : ∀ {ds : List D}, (∀ d ∈ ds, pl d = true) → pls ds = true
  | [], _ => rfl
  | d :: ds, h => Bool.and_eq_true_iff.mpr ⟨h d List.mem_cons_self, pls_all fun e he => h e (List.mem_cons_of_mem _ he)⟩
theorem dat_rp {p : Vo} {H : Hp} {v : V} {d : D} (x : Dat p H v d) : pl d = true → Rp p H v (toP d) := by
  induction x with
  | non => exact fun _ => .non
  | bl b => exact fun _ => .bl b
  | int i => exact fun _ => .int i
  | str s hz => exact fun _ => .str s
  | @tup a vs ds n h l hz r ih =>
    intro hp
    show Rp p H (.ref a) (.tuple (toPs ds))
    rw [toPs_map]
    refine .tup n h (by rw [List.length_map]; exact l) fun i v d e1 e2 => ?_
    rw [List.getElem?_map] at e2
    cases e3 : ds[i]? with
    | none => rw [e3] at e2; cases e2
    | some d' =>
      rw [e3] at e2
      rw [← Option.some.inj e2]
      exact ih i v d' e1 e3 (pls_at (show pls ds = true from hp) e3)
  | lst n h => exact fun h => nomatch h
  | dct n h => exact fun h => nomatch h
theorem part_pl {d : D} (h : partD d = true) : pl d = true ∧ PartP (toP d) := by
  obtain ⟨l, n, rfl, hl, _, n0, n1⟩ := part_shape h
  exact ⟨rfl, l, n, rfl, hl, n0, n1⟩
theorem idx_pl {d : D} (h : idxD d = true) {N : Nat} (hN : ∀ ds, d = .tup ds → ds.length ≤ N) : pl d = true ∧ Gd (11 * N + 10) 2 (toP d) := by
  obtain ⟨e, p, ps, rfl, e0, e1, hq⟩ := idx_shape h
  have hl := hN _ rfl
  rw [List.length_cons] at hl
  refine ⟨pls_all (ds := .int e :: p :: ps) fun d hd => ?_, ?_⟩
  · rcases List.mem_cons.mp hd with ed | hd
    · rw [ed]; rfl
    · exact (part_pl (hq d hd)).1
  · show Gd _ 2 (.tuple (.int e :: toPs (p :: ps)))
    rw [toPs_map]
    refine (Gds.tup (Gds.cons ((g_epoch e0 e1).mono (Nat.le_refl _) (Nat.zero_le 1)) (g_parts (ps := (p :: ps).map toP) fun d hd => ?_))).mono ?_ (Nat.le_refl _)
    · obtain ⟨q, hqm, rfl⟩ := List.mem_map.mp hd
      exact (part_pl (hq q hqm)).2
    · rw [List.length_map]
      omega
theorem parse_idx {t : Str} {r : D} (h : parseW (wordsOf t) = some r) : idxD r = true ∧ ∀ ds, r = .tup ds → ds.length ≤ t.length + 2 := by
  obtain ⟨e0, ps, hw⟩ := List.exists_cons_of_ne_nil (words_ne t)
  have hl := words_len t
  rw [hw, List.length_cons] at hl
  rw [hw, parseW_c] at h
  cases hc : (!ps.isEmpty && (isDec e0 10 && ps.all wOk)) && idxD (.tup (epD e0 :: ps.map parD)) with
  | false => rw [hc] at h; cases h
  | true =>
    rw [hc] at h
    have e := Option.some.inj h
    refine ⟨by rw [← e]; exact (Bool.and_eq_true_iff.mp hc).2, fun ds ed => ?_⟩
    rw [← e] at ed
    rw [← D.tup.inj ed, List.length_cons, List.length_map]
    exact hl
section
variable {P : Program} {w : World} {K : PySem.W.Frag} {mg : Str → Option Value} {base : Heap} {C fI A1 A2 A3 A4 A5 A6 : Addr} {p : Vo} {σ : L2.St} {H : Hp} {ta tb te : TE} {tr : TA}
def sPx (d : D) : Sy p := ⟨fun x H => ∃ r, parseV d = some r ∧ Dat p H x r, fun _ _ _ g ⟨r, e, h⟩ => ⟨r, e, h.gr g⟩⟩
theorem deed_parse {v : V} {d : D} (hd : Dat p H v d) (hz : ∀ t, d = .str t → t.length ≤ 15000) : ∀ H1, Iv p H1 → Gr p H H1 → ∀ (Q' : VK) (E' : XK), (∀ x H', Iv p H' → Gr p H1 H' → (sPx (p := p) d).P x H' → Q' x H') → (∀ H' dd, Iv p H' → Gr p H1 H' → H' dd = none → parseV d = none → E' (.ref C) (some dd) (upd H' dd (.xd [(("value" : Str), v)]))) → spParse C [v] H1 Q' E' :=
  fun H1 i1 g1 Q' E' k1 k2 => ⟨p, v, d, rfl, i1, hd.gr g1, hz, fun r e x H' i' g' h => k1 x H' i' g' ⟨r, e, h⟩, fun e H' dd i' g' hn => k2 H' dd i' g' hn e⟩
theorem ok_read_right (E : En K mg) (F : Df K mg "_law_read_right" s__law_read_right) (k_parse_index : CaK (L2.CX P w) P w K mg base 7 "parse_index" "text" (spParse C)) (c__law_read : Ca P w K mg base 4 "_law_read" spRead) (c__law_told : Ca P w K mg base 8 "_law_told" (spTold P w K mg base C)) : CaG P w K mg base 9 "_law_read_right" spJ := by
  obtain ⟨fT, fdT, FT, mT, kT, bT, _⟩ := k_parse_index.ex
  have g_parse_index : ∃ u, mg "parse_index" = some u ∧ RelV (.ref fT) u := ⟨_, mT, rfl⟩
  have hfT : HeldX P w K mg base 7 fT (spParse C) := ⟨fdT, _, FT, kT, bT⟩
  refine caG_mk F sc__law_read_right (fun _ _ _ _ _ _ us hl => match us, hl with | [_], _ => rfl) (fun vs H Q E h => by obtain ⟨p, v, d, rfl, _⟩ := h; rfl) (fun f cdv A outer s H vs Q E' hg hr h => ?_)
  have hu64 : (A.deeper (envOfC "_law_read_right" (defScope s__law_read_right) s.heap.objs.size f cdv)).units + 64 < cLine := by
    have := hr.un
    omega
  obtain ⟨p, v, d, rfl, i0, hs, hv, hd, q⟩ := h
  refine ⟨_, (pss_cons (ps_set (i := 1) sc__law_read_right.nd rfl (Or.inl rfl) (pe_ifExp (pt_val (pe_callB (isiU (K := K) rfl) (by rfl) (E.fr (x := "isinstance") (by decide +kernel)) (by decide +kernel) (pa_cons (pv 0) (pa_cons (pe_bltn (by rfl) (E.fr (x := "str") (by decide +kernel)) (by decide +kernel) (show RelV (.ty "str") (.type "str") from rfl)) pa_nil)))) (pe_ca c__law_read (hr.mono (by first | decide | omega)) (by rfl) (pa_cons (pv 0) pa_nil)) pe_non))
      (pss_cons (ps_set (i := 2) sc__law_read_right.nd rfl (Or.inl rfl) (pe_ca c__law_told (hr.mono (by first | decide | omega)) (by rfl) (pa_cons (pe_gc (by rfl) g_parse_index) (pa_cons (pv 0) pa_nil))))
      (pss_cons (ps_if (pt_cmpR op_isN (pv 1) pe_non (nomark _)) (pss_one (ps_ret (pe_cmpR op_eq (pe_callB (call_reprR hg hu64) (by rfl) (E.fr (x := "repr") (by decide +kernel)) (by decide +kernel) (pa_cons (pv 2) pa_nil)) (pe_callB (call_reprR hg hu64) (by rfl) (E.fr (x := "repr") (by decide +kernel)) (by decide +kernel) (pa_cons (pe_lst (pa_cons pe_str (pa_cons (pv 0) (pa_cons pe_bl (pa_cons pe_bl (pa_cons pe_bl pa_nil)))))) pa_nil)) (nomark _)))) pss_nil)
      (pss_one (ps_ret (pe_and (pe_cmpR op_eq (pe_callB (call_reprR hg hu64) (by rfl) (E.fr (x := "repr") (by decide +kernel)) (by decide +kernel) (pa_cons (pv 2) pa_nil)) (pe_callB (call_reprR hg hu64) (by rfl) (E.fr (x := "repr") (by decide +kernel)) (by decide +kernel) (pa_cons (pe_lst (pa_cons pe_str (pa_cons (pv 1) pa_nil))) pa_nil)) (nomark _)) (pe_one (pe_cmpR op_eq (pe_callB (call_reprR hg hu64) (by rfl) (E.fr (x := "repr") (by decide +kernel)) (by decide +kernel) (pa_cons (pe_cxk k_parse_index passL (hr.mono (by first | decide | omega)) (by rfl) (pk_cons (pv 0) pk_nil)) pa_nil)) (pe_callB (call_reprR hg hu64) (by rfl) (E.fr (x := "repr") (by decide +kernel)) (by decide +kernel) (pa_cons (pv 1) pa_nil)) (nomark _))))))))), ?_⟩
  have hD : Dat p H v (sD d) := hv.dat (bulk_small d (by have := hd.bk; omega))
  have hz : ∀ t, sD d = .str t → t.length ≤ 9000 := fun t e => by
    cases d with
    | str s =>
      have e : D.str s = .str t := e
      have h := hd.bk
      simp only [PyData.bulk] at h
      rw [← D.str.inj e]
      exact h
    | _ => cases e
  -- due
  refine q_asg (A := ⟨fun x H => OptD p H x (parseV (sD d)), fun x H H' g h => by
      revert h
      cases parseV (sD d) with
      | none => exact fun h => h
      | some r => exact fun h => Dat.gr h g⟩) i0 (e_if (B := fun b => b = (sD d).isS) (k_b (x_isiD (e_vx rfl) hD (kit_s _))) (fun h => ?_) fun h => ?_) fun v1 H1 i1 g1 h1 => ?_
  · obtain ⟨t, rfl, et, _⟩ := dat_str hD h.symm
    have ht := hz t et
    refine e_call (a_cons (e_vx (v := V.str t) rfl) a_nil) fun vs H2 iv g os Q' q' => ?_
    obtain ⟨x, ws, rfl, rfl, rfl⟩ := os
    exact ⟨p, t, rfl, iv, by omega, fun v H' i' g' h => q' v H' i' g' (by
      show OptD p H' v (parseV (sD d))
      rw [et]
      exact h)⟩
  · refine e_c ?_
    show OptD p H .non (parseV (sD d))
    have : parseV (sD d) = none := by
      revert h
      generalize sD d = x
      intro h
      cases x with
      | str s => cases h
      | _ => rfl
    rw [this]
    rfl
  have h1 : OptD p H1 v1 (parseV (sD d)) := h1
  have hvg : ∀ {H3}, Gr p H1 H3 → Rp p H3 v d := fun g => hv.gr (g1.trans g)
  have deed := deed_parse (C := C) (hD.gr g1) (fun t e => Nat.le_trans (hz t e) (by decide))
  cases hp : parseV (sD d) with
  | none =>
    rw [hp] at h1
    obtain rfl : v1 = .non := h1
    refine q_asg (A := ⟨fun v' H3 => ∃ b, v' = .ref b ∧ Nv p b ∧ H3 b = some (.lst [.str "refused", v, .bl true, .bl true, .bl false]), fun v' H H' g ⟨b, e, nb, hb⟩ => ⟨b, e, nb, g b _ nb hb⟩⟩) i1 (x_told (C := C) hfT (e_vx rfl) deed fun b H3 g3 nb h => ?_) fun v2 H2 i2 g12 h2 => ?_
    · rcases h with ⟨x, hb, r, er, _⟩ | ⟨_, hb⟩
      · rw [hp] at er
        cases er
      · exact ⟨b, rfl, nb, hb⟩
    · obtain ⟨b, rfl, nb, hb⟩ := h2
      refine q_ifr (v := .bl true) (b := true) i2 (k_to (k_test (x_isN (e_vx (v := V.non) rfl))) rfl) (fun _ => x_to (x_eq (x := .str (refD d).shown) (y := .str (refD d).shown) (x_repr (e_vx rfl) (fun H4 g4 => rp_ref hs nb (g4 b _ nb hb) (hvg (g12.trans g4))) (ref_good hd) (by decide) (by decide)) (x_reprS (y_lst hs (la_cons y_s (la_cons (e_var rfl (hvg g12)) (la_cons y_bool (la_cons y_bool (la_cons y_bool la_nil))))) (Nat.le_of_ble_eq_true rfl)) (ref_good hd) (by decide) (by decide)) rfl) (by rw [decide_eq_true rfl])) (fun _ H3 i3 g3 => q H3 i3 ((g1.trans g12).trans g3)) fun h => nomatch h
  | some r =>
    rw [hp] at h1
    have h1 : Dat p H1 v1 r := h1
    obtain ⟨t, et⟩ : ∃ t, sD d = .str t := by
      revert hp
      generalize sD d = x
      intro hp
      cases x with
      | str s => exact ⟨s, rfl⟩
      | _ => cases hp
    have ht := hz t et
    have hpw : parseW (wordsOf t) = some r := by rw [et] at hp; exact hp
    obtain ⟨hi, hlen⟩ := parse_idx hpw
    obtain ⟨hpl, hgr⟩ := idx_pl hi hlen
    have hgr : Gd 100000 2 (toP r) := hgr.mono (by omega) (Nat.le_refl _)
    have rpr : ∀ {v : V} {H3 : Hp}, Dat p H3 v r → Rp p H3 v (toP r) := fun h => dat_rp h hpl
    refine q_asg (A := ⟨fun v' H3 => ∃ b x, v' = .ref b ∧ Nv p b ∧ H3 b = some (.lst [.str "told", x]) ∧ Dat p H3 x r, fun v' H H' g ⟨b, x, e, nb, hb, hx⟩ => ⟨b, x, e, nb, g b _ nb hb, hx.gr g⟩⟩) i1 (x_told (C := C) hfT (e_vx rfl) deed fun b H3 g3 nb h => ?_) fun v2 H2 i2 g12 h2 => ?_
    · rcases h with ⟨x, hb, r', er, hx⟩ | ⟨er, hb⟩
      · rw [hp] at er
        rw [← Option.some.inj er] at hx
        exact ⟨b, x, rfl, nb, hb, hx⟩
      · rw [hp] at er
        cases er
    · obtain ⟨b, x, rfl, nb, hb, hx⟩ := h2
      have hne : v1 ≠ .non := fun e => by
        rw [e] at h1
        cases h1
        cases hi
      refine q_ifr (v := .bl true) (b := false) i2 (k_to (k_test (x_isN (e_vx (v := v1) rfl))) (decide_eq_false hne)) (fun h => nomatch h) (fun h => nomatch h) fun _ H3 i3 g23 => ?_
      have g3 := g12.trans g23
      refine s_retx i3 (x_to (x_and (x_eq (x := .str (tolD (toP r)).shown) (y := .str (tolD (toP r)).shown) (x_repr (e_vx rfl) (fun H4 g4 => rp_tol hs nb ((g23.trans g4) b _ nb hb) (rpr (hx.gr (g23.trans g4)))) (tol_good hgr) (by decide) (by decide)) (x_reprS (y_lst hs (la_cons y_s (la_cons (e_var rfl (rpr (h1.gr g3))) la_nil)) (Nat.le_of_ble_eq_true rfl)) (tol_good hgr) (by decide) (by decide)) rfl) fun _ => x_eq (x := .str (toP r).shown) (y := .str (toP r).shown) (x_reprS (d := toP r) (fun H4 i4 g4 Q' q' => ?_) hgr (by decide) (by decide)) (x_repr (e_vx rfl) (fun H4 g4 => rpr (h1.gr (g3.trans g4))) hgr (by decide) (by decide)) rfl) (w := .bl true) (by rw [decide_eq_true rfl, decide_eq_true rfl]; rfl)) fun H4 i4 g4 => q H4 i4 ((g1.trans g3).trans g4)
      refine ⟨v, rfl, rfl, rfl, p, v, sD d, rfl, i4, hD.gr ((g1.trans g3).trans g4), fun t e => Nat.le_trans (hz t e) (by decide), fun r' er x H' i' g' h => ?_, fun er => ?_⟩
      · rw [hp] at er
        rw [← Option.some.inj er] at h
        exact q' x H' i' g' (rpr h)
      · rw [hp] at er
        cases er
end
end K21
namespace K21
open PySem PySem.Spec PyProof.Rows L2 Hk
/-! ### a written index, read -/
theorem label_no {l : Str} (h : labelD (.str l) = true) {c : Nat} (hc : c < 48) : c ∉ l.cps.toList := fun hm => by
  have := label_signs h c hm
  omega
theorem part_cut {l : Str} {n : Int} (hl : labelD (.str l) = true) : Txt.partition (partS (.tup [.str l, .int n])) "." = (l, (".": Str), numStr n) := by
  rw [partS_eq]
  exact TL.partition_app (y := ".") (s := 46) (S := []) (by decide +kernel) (label_no hl (by decide))
theorem part_read {q : D} (h : partD q = true) : wOk (partS q) = true ∧ parD (partS q) = q ∧ 32 ∉ (partS q).cps.toList := by
  obtain ⟨l, n, rfl, hl, _, n0, n1⟩ := part_shape h
  have e := part_cut (n := n) hl
  obtain ⟨m, rfl⟩ := Int.eq_ofNat_of_zero_le n0
  have hn : (numStr ((m : Nat) : Int)).length = 1 := numStr_len n0 n1
  refine ⟨?_, ?_, fun hm => ?_⟩
  · show (labelD (.str (Txt.partition (partS (.tup [.str l, .int (m : Int)])) ".").1) && isDec (Txt.partition (partS (.tup [.str l, .int (m : Int)])) ".").2.2 1) = true
    rw [e]
    show (labelD (.str l) && isDec (numStr ((m : Nat) : Int)) 1) = true
    rw [hl, (canon_dec (num_digs m) (by omega) (m := 1) (by omega)).mpr (num_canon' m)]
    rfl
  · show D.tup [.str (Txt.partition (partS (.tup [.str l, .int (m : Int)])) ".").1, .int ((valS (Txt.partition (partS (.tup [.str l, .int (m : Int)])) ".").2.2 : Nat) : Int)] = _
    rw [e]
    show D.tup [.str l, .int ((valS (numStr ((m : Nat) : Int)) : Nat) : Int)] = _
    rw [num_back]
  · rw [partS_eq] at hm
    have hm : 32 ∈ TL.tl ((l ++ ".") ++ numStr ((m : Nat) : Int)) := hm
    rw [TL.tl_append, TL.tl_append] at hm
    rcases List.mem_append.mp hm with hm | hm
    · rcases List.mem_append.mp hm with hm | hm
      · exact label_no hl (by decide) hm
      · have : (32 : Nat) = 46 := by simpa using (show (32 : Nat) ∈ ([46] : List Nat) from hm)
        omega
    · have := (num_digs m).1 32 hm
      omega
theorem parse_text {d : D} (h : idxD d = true) : parseW (wordsOf (idxText d)) = some d := by
  have h' := h
  obtain ⟨e, p, ps, rfl, e0, e1, hq⟩ := idx_shape h
  obtain ⟨m, rfl⟩ := Int.eq_ofNat_of_zero_le e0
  have hw : wordsOf (idxText (.tup (.int (m : Int) :: p :: ps))) = numStr ((m : Nat) : Int) :: (p :: ps).map partS := by
    show Txt.split (Txt.join " " (numStr ((m : Nat) : Int) :: (p :: ps).map partS)) " " = _
    refine TL.split_join (y := " ") (s := 32) (S := []) (by decide +kernel) (by decide +kernel) (List.cons_ne_nil _ _) fun z hz hm => ?_
    rcases List.mem_cons.mp hz with ez | hz
    · rw [ez] at hm
      have := (num_digs m).1 32 hm
      omega
    · obtain ⟨q, hqm, rfl⟩ := List.mem_map.mp hz
      exact (part_read (hq q hqm)).2.2 hm
  have h1 : isDec (numStr ((m : Nat) : Int)) 10 = true := by
    have l1 := numStr_len10 e0 e1
    have hd := num_digs m
    have l0 : 1 ≤ (numStr ((m : Nat) : Int)).length := by
      have := len_toList (numStr ((m : Nat) : Int))
      cases hc : (numStr ((m : Nat) : Int)).cps.toList with
      | nil => exact absurd hc hd.2
      | cons c r => rw [hc, List.length_cons] at this; omega
    exact (canon_dec hd l0 (m := 10) (by omega)).mpr (num_canon' m)
  have h2 : ((p :: ps).map partS).all wOk = true := List.all_eq_true.mpr fun z hz => by
    obtain ⟨q, hqm, rfl⟩ := List.mem_map.mp hz
    exact (part_read (hq q hqm)).1
  have h3 : ((p :: ps).map partS).map parD = p :: ps := by
    rw [List.map_map]
    have key : ∀ l : List D, (∀ q ∈ l, partD q = true) → l.map (parD ∘ partS) = l := fun l => by
      induction l with
      | nil => intro _; rfl
      | cons q l ih =>
        intro hh
        rw [List.map_cons, ih fun z hz => hh z (List.mem_cons_of_mem _ hz)]
        show parD (partS q) :: l = _
        rw [(part_read (hh q List.mem_cons_self)).2.1]
    exact key _ hq
  rw [hw, parseW_c, h1, h2, h3]
  show (if _ && idxD (.tup (.int ((valS (numStr ((m : Nat) : Int)) : Nat) : Int) :: p :: ps)) then some (D.tup (.int ((valS (numStr ((m : Nat) : Int)) : Nat) : Int) :: p :: ps)) else none) = _
  rw [num_back, h']
  rfl
end K21
namespace K21
open PySem PySem.Spec PyProof.Rows L2 Hk
/-! ### a long index, deep things -/
def pA (r : Int) : D := .tup [.str "a", .int r]
def longD (r : Int) : D := .tup (.int 3 :: List.replicate 1200 (pA r))
theorem pA_ok {r : Int} (h0 : 0 ≤ r) (h1 : r ≤ 9) : partD (pA r) = true := by
  show (labelD (.str "a") && (decide (0 ≤ r) && decide (r ≤ 9))) = true
  rw [decide_eq_true h0, decide_eq_true h1, show labelD (.str "a") = true from by decide +kernel]
  rfl
theorem long_idx {r : Int} (h0 : 0 ≤ r) (h1 : r ≤ 9) : idxD (longD r) = true := by
  show idxD (.tup (.int 3 :: pA r :: List.replicate 1199 (pA r))) = true
  show (true && (pA r :: List.replicate 1199 (pA r)).all partD) = true
  rw [Bool.true_and]
  refine List.all_eq_true.mpr fun q hq => ?_
  have : q = pA r := by
    rcases List.mem_cons.mp hq with e | e
    · exact e
    · exact (List.mem_replicate.mp e).2
  rw [this]
  exact pA_ok h0 h1
theorem eqvAll_refl : ∀ {l : List PyData}, (∀ d ∈ l, PyData.eqv d d = true) → PyData.eqvAll l l = true
  | [], _ => by simp only [PyData.eqvAll]
  | d :: l, h => by
    simp only [PyData.eqvAll, h d List.mem_cons_self, Bool.true_and]
    exact eqvAll_refl fun e he => h e (List.mem_cons_of_mem _ he)
theorem canAll : ∀ {l : List PyData}, (∀ d ∈ l, d.canLay0 = true) → PyData.canLayAll0 l = true
  | [], _ => by simp only [PyData.canLayAll0]
  | d :: l, h => by
    simp only [PyData.canLayAll0, h d List.mem_cons_self, Bool.true_and]
    exact canAll fun e he => h e (List.mem_cons_of_mem _ he)
theorem rep_toP (n : Nat) (r : Int) : (List.replicate n (pA r)).map toP = List.replicate n (toP (pA r)) := List.map_replicate
theorem long_P (r : Int) : toP (longD r) = .tuple (.int 3 :: List.replicate 1200 (.tuple [.str "a", .int r])) := by
  show PyData.tuple (.int 3 :: toPs (List.replicate 1200 (pA r))) = _
  rw [toPs_map, rep_toP]
  rfl
theorem sp_mem {α : Type} {x y : α} {n : Nat} {z : α} (h : z ∈ x :: List.replicate n y) : z = x ∨ z = y := by
  rcases List.mem_cons.mp h with e | e
  · exact .inl e
  · exact .inr (List.mem_replicate.mp e).2
theorem long_shaped (r : Int) : SeqAt.shaped (toP (longD r)) = true ∧ PyData.eqv (toP (longD r)) (toP (longD r)) = true := by
  rw [long_P]
  have a1 : (PyData.tuple [.str "a", .int r]).canLay0 = true := by
    simp only [PyData.canLay0, PyData.canLayAll0, Bool.and_true]
    decide +kernel
  have a2 : PyData.eqv (.tuple [.str "a", .int r]) (.tuple [.str "a", .int r]) = true := by
    simp [PyData.eqv, PyData.eqvAll]
  have a3 : (PyData.tuple [.str "a", .int r]).depth = 1 := by
    simp [PyData.depth, PyData.depthAll]
  refine ⟨?_, ?_⟩
  · unfold SeqAt.shaped
    rw [Bool.and_eq_true]
    refine ⟨?_, decide_eq_true ?_⟩
    · simp only [PyData.canLay0]
      refine canAll fun d hd => ?_
      rcases sp_mem hd with e | e <;> rw [e]
      · simp only [PyData.canLay0]
      · exact a1
    · simp only [PyData.depth]
      refine Nat.succ_le_succ (dps_all (k := 63) fun d hd => ?_)
      rcases sp_mem hd with e | e <;> rw [e]
      · simp only [PyData.depth]; omega
      · rw [a3]; omega
  · simp only [PyData.eqv]
    refine eqvAll_refl fun d hd => ?_
    rcases sp_mem hd with e | e <;> rw [e]
    · simp [PyData.eqv]
    · exact a2
/-- the deep things, none of them an index -/
def deeps (x : D) : List D := [x, .tup [.int 0, x], .tup [.int 0, .tup [.str "a", x]], .tup [.int 0, .tup [x, .int 0]], .tup [x, .tup [.str "a", .int 0]], .lst]
theorem deeps_no {x y : D} (hx : x = .tup [y]) : ∀ d ∈ deeps x, idxD d = false ∧ d.isS = false := by
  subst hx
  intro d hd
  unfold deeps at hd
  simp only [List.mem_cons, List.not_mem_nil, or_false] at hd
  rcases hd with h | h | h | h | h | h <;> subst h
  · exact ⟨rfl, rfl⟩
  · exact ⟨rfl, rfl⟩
  · refine ⟨?_, rfl⟩
    show (true && ((labelD (.str "a") && false) && true)) = false
    rw [Bool.and_false]
    rfl
  · exact ⟨rfl, rfl⟩
  · exact ⟨rfl, rfl⟩
  · exact ⟨rfl, rfl⟩
theorem parse_noS {d : D} (h : d.isS = false) : parseV d = none := by cases d <;> first | rfl | cases h
section
variable {P : Program} {w : World} {K : PySem.W.Frag} {mg : Str → Option Value} {base : Heap} {C fI A1 A2 A3 A4 A5 A6 : Addr} {p : Vo} {σ : L2.St} {H : Hp} {ta tb te : TE} {tr : TA} {a : Addr}
theorem flat_rep {α : Type} (x : α) : ∀ n : Nat, (List.replicate n [x]).flatten = List.replicate n x
  | 0 => rfl
  | n + 1 => by
    rw [List.replicate_succ, List.flatten_cons, flat_rep x n, List.replicate_succ]
    rfl
theorem x_repB {α : Type} {Y : Pt α} {R : List α → Prop} {n : Nat} (ha : Ev p ta σ H (sET p Y fun es => ∃ e, R [e] ∧ es = [e])) (hb : Ev p tb σ H (sx (.int n))) (h2 : 2 ≤ n) (h3 : n ≤ 2000) : Ev p (tOp (rRepB K) ta tb) σ H (sET p Y fun es => ∃ e, R [e] ∧ es = List.replicate n e) :=
  e_op ha hb fun x y H1 iv g ⟨es, ⟨e, re, ee⟩, b, ws, e1, nb, h1, hl⟩ ey => by
    subst ee
    have hl : AllL Y p H1 ws [e] := hl
    obtain ⟨u, rfl⟩ : ∃ u, ws = [u] := by
      match ws, hl.1 with
      | [u], _ => exact ⟨u, rfl⟩
    have hu := hl.2 0 u e rfl rfl
    exact rv_new iv (o := .tup (List.replicate n [u]).flatten) (fun q nq hq i' g' => ⟨_, ⟨e, re, rfl⟩, q, _, rfl, nq, upd_same, by
      rw [flat_rep] at g' ⊢
      refine (show AllL Y p H1 (List.replicate n u) (List.replicate n e) from ⟨by rw [List.length_replicate, List.length_replicate], fun i v f e1 e2 => ?_⟩).gr g'
      rw [(List.mem_replicate.mp (List.mem_of_getElem? e1)).2, (List.mem_replicate.mp (List.mem_of_getElem? e2)).2]
      exact hu⟩) fun Q q => ⟨b, (n : Int), [u], e1, ey, SqT.of h1, List.cons_ne_nil _ _, by omega, by omega, by show 1 ≤ 1000; decide, fun c hc => by
        rw [Int.toNat_natCast]
        exact q c hc⟩
theorem x_repL {x : V} {n : Nat} (ha : Ev p ta σ H (slx [x])) (hb : Ev p tb σ H (sx (.int n))) (h : n ≤ 1000) : Ev p (tOp rRep ta tb) σ H (slx (List.replicate n x)) :=
  e_op ha hb fun u v H1 iv g ⟨b, ws, e1, nb, h1, ew⟩ ey => rv_new iv (o := .lst (List.replicate n [x]).flatten) (fun q nq hq i' g' => ⟨q, _, rfl, nq, upd_same, flat_rep x n⟩) fun Q q => ⟨b, (n : Int), [x], e1, ey, by rw [h1, ew], by omega, by omega, by rw [Int.toNat_natCast, sizeLine_eq]; show 1 * n ≤ _; omega, fun c hc => by
    rw [Int.toNat_natCast]
    exact q c hc⟩
/-- != of lists of flat values -/
theorem x_neF {xs ys : List V} {ds es : List PyData} (ha : Ev p ta σ H (slx xs)) (hb : Ev p tb σ H (slx ys)) (hx : ∀ H, AllL Pr Vo.non H xs ds) (hy : ∀ H, AllL Pr Vo.non H ys es) (hp1 : ∀ H, ∀ (i : Nat) v d, xs[i]? = some v → ds[i]? = some d → Py Vo.non H v d) (hp2 : ∀ H, ∀ (i : Nat) v d, ys[i]? = some v → es[i]? = some d → Py Vo.non H v d) (s1 : SeqAt.shaped (.list ds) = true) (s2 : SeqAt.shaped (.list es) = true) :
    Ev p (tOp (rEqX false) ta tb) σ H (sx (.bl (!PyData.eqvAll ds es))) :=
  e_op ha hb fun u v H1 iv g ⟨b, ws, e1, nb, h1, ew⟩ ⟨b', ws', e2, nb', h2, ew'⟩ => rv iv rfl fun Q q => ⟨ds, es, ⟨b, ws, e1, h1, by rw [ew]; exact (hx H1).1, by rw [ew]; exact hp1 H1⟩, ⟨b', ws', e2, h2, by rw [ew']; exact (hy H1).1, by rw [ew']; exact hp2 H1⟩, s1, s2, q⟩
theorem x_isB {b c : Bool} (ha : Ev p ta σ H (sx (.bl b))) (hb : Ev p tb σ H (sx (.bl c))) : Ev p (tOp rIsB ta tb) σ H (sx (.bl (decide (b = c)))) :=
  e_op ha hb fun u v H1 iv g e1 e2 => rv iv rfl fun Q q => ⟨b, c, e1, e2, q⟩
abbrev spLong : Sp := spP ar1 fun _ p => sx (.bl true)
theorem ok_long (E : En K mg) (F : Df K mg "_law_long_right" s__law_long_right) (k_is_index : CaK CX0 P w K mg base 5 "is_index" "value" (spD1 idxD)) (k_index_text : CaK (L2.CX P w) P w K mg base 7 "index_text" "index" (spText C)) (k_parse_index : CaK (L2.CX P w) P w K mg base 7 "parse_index" "text" (spParse C)) (c__law_draw : Ca P w K mg base 1 "_law_draw" spDraw) (c__law_deep : Ca P w K mg base 1 "_law_deep" spDeep) (c__law_told : Ca P w K mg base 8 "_law_told" (spTold P w K mg base C)) : Ca P w K mg base 9 "_law_long_right" spLong := by
  have c_is_index := k_is_index.ca
  obtain ⟨fT, fdT, FT, mT, kT, bT, _⟩ := k_index_text.ex
  have g_index_text : ∃ u, mg "index_text" = some u ∧ RelV (.ref fT) u := ⟨_, mT, rfl⟩
  have hfT : HeldX P w K mg base 7 fT (spText C) := ⟨fdT, _, FT, kT, bT⟩
  obtain ⟨fP, fdP, FP, mP, kP, bP, _⟩ := k_parse_index.ex
  have g_parse_index : ∃ u, mg "parse_index" = some u ∧ RelV (.ref fP) u := ⟨_, mP, rfl⟩
  have hfP : HeldX P w K mg base 7 fP (spParse C) := ⟨fdP, _, FP, kP, bP⟩
  refine ca_mk F sc__law_long_right (fun _ _ _ _ _ _ us hl => match us, hl with | [_], _ => rfl) (len1) (fun f cdv A outer s H vs Q E' hr h => ?_)
  have hu64 : (A.deeper (envOfC "_law_long_right" (defScope s__law_long_right) s.heap.objs.size f cdv)).units + 64 < cLine := by
    have := hr.un
    omega
  obtain ⟨p, a, hp, iv, e, q⟩ := h
  obtain rfl : vs = [.ref a] := e
  refine ⟨_, (pss_cons (ps_par (i := 1) (j := 2) rfl sc__law_long_right.nd rfl rfl (by decide) rfl rfl (pa_cons (pe_op (catA (K := K) rfl) (pe_tup (pa_cons pe_int pa_nil)) (pe_op (op_repB (K := K) rfl) (pe_tup (pa_cons (pe_tup (pa_cons pe_str (pa_cons (pe_ca c__law_draw (hr.mono (by first | decide | omega)) (by rfl) (pa_cons (pv 0) (pa_cons pe_int pa_nil))) pa_nil))) pa_nil)) pe_int)) (pa_cons (pe_ca c__law_deep (hr.mono (by first | decide | omega)) (by rfl) (pa_cons pe_int pa_nil)) pa_nil)) rfl)
      (pss_cons (ps_set (i := 3) sc__law_long_right.nd rfl (Or.inl rfl) (pe_lst (pa_cons (pv 2) (pa_cons (pe_tup (pa_cons pe_int (pa_cons (pv 2) pa_nil))) (pa_cons (pe_tup (pa_cons pe_int (pa_cons (pe_tup (pa_cons pe_str (pa_cons (pv 2) pa_nil))) pa_nil))) (pa_cons (pe_tup (pa_cons pe_int (pa_cons (pe_tup (pa_cons (pv 2) (pa_cons pe_int pa_nil))) pa_nil))) (pa_cons (pe_tup (pa_cons (pv 2) (pa_cons (pe_tup (pa_cons pe_str (pa_cons pe_int pa_nil))) pa_nil))) (pa_cons (pe_lst (pa_cons (pv 2) pa_nil)) pa_nil))))))))
      (pss_cons (ps_set (i := 4) sc__law_long_right.nd rfl (Or.inl rfl) (pe_op op_addU (pe_lc (own := [("_law_one", 5)]) (g := (gName 5)) (tt := tYes) rfl sc__law_long_right.nd (pi_list (pv 3)) (blkOk_by (own := [("_law_one", 5)]) (N := ["_law_pot_here", "_law_row", "_law_deep_here", "_law_some", "_law_words", "_law_one"]) (sc := defScope s__law_long_right) (by decide +kernel)) (fun _ _ _ _ _ => (pg_name (i := 5) sc__law_long_right.nd rfl (Or.inl rfl))) (fun _ _ _ _ _ => pts_nil) (fun _ _ _ _ _ => (pe_ix (ixU (K := K) rfl) (pe_ca c__law_told (hr.mono (by first | decide | omega)) (by rfl) (pa_cons (pe_gc (by rfl) g_index_text) (pa_cons (pv 5) pa_nil))) pe_int (fun _ _ => rfl)))) (pe_lc (own := [("_law_one", 5)]) (g := (gName 5)) (tt := tYes) rfl sc__law_long_right.nd (pi_list (pv 3)) (blkOk_by (own := [("_law_one", 5)]) (N := ["_law_pot_here", "_law_row", "_law_deep_here", "_law_some", "_law_words", "_law_one"]) (sc := defScope s__law_long_right) (by decide +kernel)) (fun _ _ _ _ _ => (pg_name (i := 5) sc__law_long_right.nd rfl (Or.inl rfl))) (fun _ _ _ _ _ => pts_nil) (fun _ _ _ _ _ => (pe_ix (ixU (K := K) rfl) (pe_ca c__law_told (hr.mono (by first | decide | omega)) (by rfl) (pa_cons (pe_gc (by rfl) g_parse_index) (pa_cons (pv 5) pa_nil))) pe_int (fun _ _ => rfl))))))
      (pss_cons (ps_if (PW.pt (pw_or (pt_cmpR (op_neX hu64) (pe_lc (own := [("_law_one", 5)]) (g := (gName 5)) (tt := tYes) rfl sc__law_long_right.nd (pi_list (pv 3)) (blkOk_by (own := [("_law_one", 5)]) (N := ["_law_pot_here", "_law_row", "_law_deep_here", "_law_some", "_law_words", "_law_one"]) (sc := defScope s__law_long_right) (by decide +kernel)) (fun _ _ _ _ _ => (pg_name (i := 5) sc__law_long_right.nd rfl (Or.inl rfl))) (fun _ _ _ _ _ => pts_nil) (fun _ _ _ _ _ => (pe_ca c_is_index (hr.mono (by first | decide | omega)) (by rfl) (pa_cons (pv 5) pa_nil)))) (pe_op (repU (K := K) rfl) (pe_lst (pa_cons pe_bl pa_nil)) pe_int) (nomark _)) (pw_or1 (pt_cmpR (op_neX hu64) (pv 4) (pe_op (repU (K := K) rfl) (pe_lst (pa_cons pe_str pa_nil)) pe_int) (nomark _))))) (pss_one (ps_ret pe_bl)) pss_nil)
      (pss_one (ps_ret (pe_and (pe_cmpR op_isBl (pe_ca c_is_index (hr.mono (by first | decide | omega)) (by rfl) (pa_cons (pv 1) pa_nil)) pe_bl (nomark _)) (pe_one (pe_cmpR (op_eqR hu64) (pe_cx k_parse_index passL (hr.mono (by first | decide | omega)) (by rfl) (pa_cons (pe_cx k_index_text passL (hr.mono (by first | decide | omega)) (by rfl) (pa_cons (pv 1) pa_nil)) pa_nil)) (pv 1) (nomark _)))))))))), ?_⟩
  -- the two
  refine q_two (A := syO p Pd fun d => ∃ r : Int, 0 ≤ r ∧ r ≤ 9 ∧ d = longD r) (B := syO p Pd fun d => ∃ x, d = .tup [x]) iv (a_cons ?_ (a_cons (x_deep e_cx (by decide) (by decide)) a_nil)) fun vr vd H1 i1 g1 h1 h2 => ?_
  · have e0 : Ev p (tTup (tCons (tC (.str "a")) (tCons (tCall spDraw [] E0 (tCons (tVar 0) (tCons (tC (.int 10)) tNil))) tNil))) (start ["_law_pot_here", "_law_row", "_law_deep_here", "_law_some", "_law_words", "_law_one"] [V.ref a]) H (syO p Pd fun d => ∃ r : Int, 0 ≤ r ∧ r ≤ 9 ∧ d = pA r) := e_tup (a_cons (e_cx (v := V.str "a")) (a_cons (e_drawN (n := 10) hp (e_vx rfl) e_cx (by decide) (by decide)) a_nil)) (by rw [sizeLine_eq]; exact Nat.le_of_ble_eq_true rfl) fun vs b H2 i2 g2 os nb hb => by
      obtain ⟨x, w1, rfl, rfl, y, w2, rfl, ⟨r, rfl, r0, r1⟩, rfl⟩ := os
      exact ⟨pA r, ⟨r, r0, by omega, rfl⟩, stP_dat (Nat.le_of_ble_eq_true rfl) ⟨b, _, rfl, nb, hb, (AllL.cons (.str _ (by decide)) (AllL.cons (.int r) .nil) : AllL Pd p H2 _ [.str "a", .int r])⟩⟩
    have e1 := e_tup (p := p) (C := sET p Pd fun es => ∃ d, (fun l : List D => ∀ d ∈ l, ∃ r : Int, 0 ≤ r ∧ r ≤ 9 ∧ d = pA r) [d] ∧ es = [d]) (a_cons e0 a_nil) (by rw [sizeLine_eq]; exact Nat.le_of_ble_eq_true rfl) fun vs b H2 i2 g2 os nb hb => by
      obtain ⟨x, w1, rfl, ⟨d, hd, hx⟩, rfl⟩ := os
      exact ⟨[d], ⟨d, fun e he => by rw [List.mem_singleton.mp he]; exact hd, rfl⟩, b, _, rfl, nb, hb, (AllL.cons hx .nil : AllL Pd p H2 _ [d])⟩
    have e2 := x_repB (K := K) (n := 1200) (R := fun l : List D => ∀ d ∈ l, ∃ r : Int, 0 ≤ r ∧ r ≤ 9 ∧ d = pA r) e1 (e_cx (v := V.int ((1200 : Nat) : Int))) (by decide) (by decide)
    refine Ev.imp (A := sET p Pd fun gs => ∃ es fs, es = [D.int 3] ∧ (∃ e, (fun l : List D => ∀ d ∈ l, ∃ r : Int, 0 ≤ r ∧ r ≤ 9 ∧ d = pA r) [e] ∧ fs = List.replicate 1200 e) ∧ gs = es ++ fs) (x_catEE (K := K) (R1 := fun es => es = [D.int 3]) (Ev.imp (A := stP p Pd [D.int 3]) (l_tup (la_cons (e_c (.int 3)) la_nil) (Nat.le_of_ble_eq_true rfl)) fun v H h => ⟨_, rfl, h⟩) e2 fun es fs ee ⟨e, _, ef⟩ => by rw [ee, ef, List.length_replicate]; exact Nat.le_of_ble_eq_true rfl) fun v H2 ⟨gs, ⟨es, fs, ee, ⟨e, re, ef⟩, eg⟩, hv⟩ => ?_
    obtain ⟨r, r0, r1, er⟩ := re e List.mem_cons_self
    subst er
    refine ⟨longD r, ⟨r, r0, r1, rfl⟩, stP_dat (ds := .int 3 :: List.replicate 1200 (pA r)) (by rw [List.length_cons, List.length_replicate]; decide) ?_⟩
    rw [eg, ee, ef] at hv
    exact hv
  obtain ⟨_, ⟨r, r0, r1, rfl⟩, hrow⟩ := h1
  obtain ⟨xd, ⟨y, hxy⟩, hdeep⟩ := h2
  have hrow : Dat p H1 vr (longD r) := hrow
  have hdeep : Dat p H1 vd xd := hdeep
  have hidx := long_idx r0 r1
  have z2 : ∀ {t1 t2 : TE} {d1 d2 : D} {σ : L2.St} {H : Hp}, Ev p t1 σ H (syY p Pd d1) → Ev p t2 σ H (syY p Pd d2) → Ev p (tTup (tCons t1 (tCons t2 tNil))) σ H (syY p Pd (.tup [d1, d2])) := fun h1 h2 => (l_tup (la_cons h1 (la_cons h2 la_nil)) (Nat.le_of_ble_eq_true rfl)).imp fun v H h => stP_dat (Nat.le_of_ble_eq_true rfl) h
  have vD : ∀ {σ : L2.St}, σ[2]? = some (some vd) → Ev p (tVar 2) σ H1 (syY p Pd xd) := fun h => e_var h hdeep
  have c0 : ∀ {σ : L2.St} {H : Hp}, Ev p (tC (.int 0)) σ H (syY p Pd (.int 0)) := e_c (.int 0)
  have cA : ∀ {σ : L2.St} {H : Hp}, Ev p (tC (.str "a")) σ H (syY p Pd (.str "a")) := e_c (.str _ (by decide))
  refine q_asg (A := slP p Pd (deeps xd)) i1 (l_lst (la_cons (vD rfl) (la_cons (z2 c0 (vD rfl)) (la_cons (z2 c0 (z2 cA (vD rfl))) (la_cons (z2 c0 (z2 (vD rfl) c0)) (la_cons (z2 (vD rfl) (z2 cA c0)) (la_cons (Ev.imp (A := slP p Pd [xd]) (l_lst (la_cons (vD rfl) la_nil) (Nat.le_of_ble_eq_true rfl)) fun v H ⟨b, us, e, nb, hb, _⟩ => by rw [e]; exact .lst nb hb) la_nil)))))) (Nat.le_of_ble_eq_true rfl)) fun v3 H2 i2 g12 h3 => ?_
  have hno := deeps_no hxy
  have sv : ∀ {σ : L2.St} {H3 : Hp}, σ[3]? = some (some v3) → Gr p H2 H3 → Ev p (tVar 3) σ H3 (slP p Pd (deeps xd)) := fun h g => e_var h ((slP p Pd (deeps xd)).st _ _ _ g h3)
  -- refused each
  have told1 : ∀ {q : Vo} {σ : L2.St} {H3 : Hp} {x : V} {d : D}, σ[5]? = some (some x) → Dat q H3 x d → d ∈ deeps xd → Ev q (tOp (rIx K) (tCall (spTold P w K mg base C) [] E0 (tCons (tC (.ref fT)) (tCons (tVar 5) tNil))) (tC (.int 0))) σ H3 (sx (.str "refused")) := fun {q σ H3 x d} h5 hx hd => e_op (A := ⟨fun v H => ∃ b u, v = .ref b ∧ Nv q b ∧ H b = some (.lst (V.str "refused" :: u)), fun v H H' g ⟨b, u, e, nb, hb⟩ => ⟨b, u, e, nb, g b _ nb hb⟩⟩) (x_told (C := C) hfT (e_vx h5) (deed_text (C := C) hx) fun b H4 g4 nb h => by
      rcases h with ⟨z, hb, _, ez⟩ | ⟨_, hb⟩
      · rw [(hno d hd).1] at ez
        cases ez
      · exact ⟨b, _, rfl, nb, hb⟩) e_cx fun u v H4 i4 g4 ⟨b, us, e, nb, hb⟩ ev => rv i4 rfl fun Q q => .inl ⟨b, _, 0, _, e, ev, SqL.of hb, atI_nat (j := 0) rfl, q⟩
  have told2 : ∀ {q : Vo} {σ : L2.St} {H3 : Hp} {x : V} {d : D}, σ[5]? = some (some x) → Dat q H3 x d → d ∈ deeps xd → Ev q (tOp (rIx K) (tCall (spTold P w K mg base C) [] E0 (tCons (tC (.ref fP)) (tCons (tVar 5) tNil))) (tC (.int 0))) σ H3 (sx (.str "refused")) := fun {q σ H3 x d} h5 hx hd => e_op (A := ⟨fun v H => ∃ b u, v = .ref b ∧ Nv q b ∧ H b = some (.lst (V.str "refused" :: u)), fun v H H' g ⟨b, u, e, nb, hb⟩ => ⟨b, u, e, nb, g b _ nb hb⟩⟩) (x_told (C := C) hfP (e_vx h5) (deed_parse (C := C) hx fun t et => by have := (hno d hd).2; rw [et] at this; cases this) fun b H4 g4 nb h => by
      rcases h with ⟨z, hb, r', ez, _⟩ | ⟨_, hb⟩
      · rw [parse_noS (hno d hd).2] at ez
        cases ez
      · exact ⟨b, _, rfl, nb, hb⟩) e_cx fun u v H4 i4 g4 ⟨b, us, e, nb, hb⟩ ev => rv i4 rfl fun Q q => .inl ⟨b, _, 0, _, e, ev, SqL.of hb, atI_nat (j := 0) rfl, q⟩
  have six : ∀ {te : TE} {σ : L2.St} {u : V}, σ[3]? = some (some v3) → (∀ x, wipe ((wipe σ [5]).set 5 (some x)) [5] = wipe σ [5]) → (∀ x, ((wipe σ [5]).set 5 (some x))[5]? = some (some x)) → (∀ {q : Vo} {σ : L2.St} {H3 : Hp} {x : V} {d : D}, σ[5]? = some (some x) → Dat q H3 x d → d ∈ deeps xd → Ev q te σ H3 (sx u)) → Ev p (tLc (iList K (tVar 3)) (gName 5) tYes te [5]) σ H2 (slx (List.replicate 6 u)) := fun {te σ u} h3 hw h5 he =>
    (lcL_pt (K := K) (X := Px) (Y := Pd) (es := List.replicate 6 u) (fs := deeps xd) (τ := fun x _ => (wipe σ [5]).set 5 (some x)) (sv h3 (Gr.refl H2)) rfl (by rw [List.length_replicate]; decide) (fun x f => hw x) (fun i x f H' R' hf hx hR => hR) fun i x f D l H3 hf g3 hD hx => e_px (he (h5 x) hx (List.mem_of_getElem? hf)) (by
      have hi : i < 6 := (List.getElem?_eq_some_iff.mp hf).1
      rw [List.getElem?_replicate, if_pos hi])).imp fun v H h => slx_px h
  have fl : ∀ (n : Nat) (u : V) (d : PyData), (∀ H, Py Vo.non H u d) → (∀ H, Rp Vo.non H u d) → (∀ H, AllL Pr Vo.non H (List.replicate n u) (List.replicate n d)) ∧ ∀ H (i : Nat) v e, (List.replicate n u)[i]? = some v → (List.replicate n d)[i]? = some e → Py Vo.non H v e := fun n u d h1 h2 => ⟨fun H => ⟨by rw [List.length_replicate, List.length_replicate], fun i v e e1 e2 => by
      rw [(List.mem_replicate.mp (List.mem_of_getElem? e1)).2, (List.mem_replicate.mp (List.mem_of_getElem? e2)).2]
      exact h2 H⟩, fun H i v e e1 e2 => by
      rw [(List.mem_replicate.mp (List.mem_of_getElem? e1)).2, (List.mem_replicate.mp (List.mem_of_getElem? e2)).2]
      exact h1 H⟩
  have e12 : List.replicate 6 (V.str "refused") ++ List.replicate 6 (V.str "refused") = List.replicate 12 (V.str "refused") := by rw [List.replicate_append_replicate]
  refine q_asg (A := slx (List.replicate 12 (V.str "refused"))) i2 (by
    rw [← e12]
    exact x_catL (six (u := V.str "refused") rfl (fun _ => rfl) (fun _ => rfl) told1) (six (u := V.str "refused") rfl (fun _ => rfl) (fun _ => rfl) told2) (by rw [List.length_replicate]; decide)) fun v4 H3 i3 g23 h4 => ?_
  obtain ⟨f1, f2⟩ := fl 6 (.bl false) (.bool false) (fun H => .bl _) (fun H => .bl _)
  obtain ⟨f3, f4⟩ := fl 12 (.str "refused") (.str "refused") (fun H => .str _) (fun H => .str _)
  refine q_ifr (v := .bl false) (b := false) i3 (k_to (k_or (k_test (x_neF (xs := List.replicate 6 (V.bl false)) (ys := List.replicate 6 (V.bl false)) (ds := List.replicate 6 (PyData.bool false)) (es := List.replicate 6 (PyData.bool false)) (Ev.mono (six (u := V.bl false) rfl (fun _ => rfl) (fun _ => rfl) fun {q σ H3 x d} h5 hx hd => x_to (x_call (a_cons (e_vx h5) a_nil) fun H4 g4 => pu_D1 (hx.gr g4).non') (by rw [(hno d hd).1])) g23) (x_repL (n := 6) (x_lst (ws := [V.bl false]) (a_cons e_cx a_nil) (by rw [sizeLine_eq]; exact Nat.le_of_ble_eq_true rfl)) e_cx (by decide)) f1 f1 f2 f2 (by decide +kernel) (by decide +kernel))) fun _ => k_test (x_neF (xs := List.replicate 12 (V.str "refused")) (ys := List.replicate 12 (V.str "refused")) (ds := List.replicate 12 (PyData.str "refused")) (es := List.replicate 12 (PyData.str "refused")) (e_var rfl h4) (x_repL (n := 12) (x_lst (ws := [V.str "refused"]) (a_cons e_cx a_nil) (by rw [sizeLine_eq]; exact Nat.le_of_ble_eq_true rfl)) e_cx (by decide)) f3 f3 f4 f4 (by decide +kernel) (by decide +kernel))) (by decide +kernel)) (fun h => nomatch h) (fun h => nomatch h) fun _ H4 i4 g34 => ?_
  have g14 := (g12.trans g23).trans g34
  have hrow4 : Dat p H4 vr (longD r) := hrow.gr g14
  obtain ⟨hpl, _⟩ := idx_pl hidx (N := 1201) fun ds e => by
    rw [← D.tup.inj e, List.length_cons, List.length_replicate]
    exact Nat.le_refl _
  have htx : GT 15000 (idxText (longD r)) := (text_good hidx (N := 1201) fun ds e => by
    rw [← D.tup.inj e, List.length_cons, List.length_replicate]
    exact Nat.le_refl _).mono (by decide)
  have t2 : ∀ {σ : L2.St}, σ[1]? = some (some vr) → Ev p (tCall (spParse C) [] E0 (tCons (tCall (spText C) [] E0 (tCons (tVar 1) tNil)) tNil)) σ H4 (sdx p (longD r)) := fun {σ} h1 => e_call (a_cons (x_call (v := .str (idxText (longD r))) (ws := [vr]) (a_cons (e_vx h1) a_nil) fun H5 g5 Q' E'' k => ⟨vr, longD r, rfl, (hrow4.gr g5).non', fun _ H' g' => k H' g', fun h => by rw [hidx] at h; cases h⟩) a_nil) fun vs H5 i5 g5 os Q' q' => by
    obtain ⟨x, ws, rfl, rfl, rfl⟩ := os
    refine ⟨p, _, .str (idxText (longD r)), rfl, i5, .str _ (Nat.le_trans htx.ln (by decide)), fun t e => by rw [← D.str.inj e]; exact htx.ln, fun r' e w H' i' g' h => q' w H' i' g' ?_, fun e => ?_⟩
    · have : parseW (wordsOf (idxText (longD r))) = some r' := e
      rw [parse_text hidx] at this
      rw [← Option.some.inj this] at h
      exact h
    · have : parseW (wordsOf (idxText (longD r))) = none := e
      rw [parse_text hidx] at this
      cases this
  obtain ⟨sh, eq⟩ := long_shaped r
  refine s_retx i4 (x_to (x_and (x_isB (x_call (a_cons (e_vx rfl) a_nil) fun H5 g5 => pu_D1 (hrow4.gr g5).non') e_cx) fun _ => e_op (C := sx (.bl true)) (t2 rfl) (e_var (A := sdx p (longD r)) rfl hrow4) fun x y H5 i5 g5 hx hy => rv i5 rfl fun Q' q' => ⟨toP (longD r), toP (longD r), (dat_rp hx hpl).non', (dat_rp hy hpl).non', sh, sh, by rw [eq]; exact q'⟩) (w := .bl true) (by rw [hidx]; rfl)) fun H5 i5 g5 => q _ H5 i5 ((g1.trans g14).trans g5) rfl
end
end K21
namespace K21
open PySem PySem.Spec PyProof.Rows L2 Hk
mutual
theorem toP_sD : ∀ d : PyData, pl (sD d) = true → toP (sD d) = d
  | .none, _ => rfl
  | .bool _, _ => rfl
  | .int _, _ => rfl
  | .str _, _ => rfl
  | .tuple ds, h => by
    show PyData.tuple (toPs (sDs ds)) = _
    rw [toPs_sDs ds h]
  | .list _, h => nomatch h
  | .dict _, h => nomatch h
theorem toPs_sDs : ∀ ds : List PyData, pls (sDs ds) = true → toPs (sDs ds) = ds
  | [], _ => rfl
  | d :: ds, h => by
    obtain ⟨h1, h2⟩ := Bool.and_eq_true_iff.mp (show (pl (sD d) && pls (sDs ds)) = true from h)
    show toP (sD d) :: toPs (sDs ds) = _
    rw [toP_sD d h1, toPs_sDs ds h2]
end
theorem at_last {α : Type} {ws : List α} {x : α} : atI (ws ++ [x]) (-1) = some x := by
  have e : ixN (ws ++ [x]).length (-1) = some ws.length := by
    unfold ixN
    rw [List.length_append, List.length_singleton, if_neg (by decide), if_pos (by omega)]
    congr 1
    omega
  unfold atI
  rw [e]
  show (ws ++ [x])[ws.length]? = some x
  rw [List.getElem?_append_right (Nat.le_refl _), Nat.sub_self]
  rfl
theorem last_of {α : Type} {ws : List α} (h : ws ≠ []) : ∃ us x, ws = us ++ [x] := ⟨ws.dropLast, ws.getLast h, (List.dropLast_concat_getLast h).symm⟩
def bnd : Nat → Nat
  | 0 => 200
  | i + 1 => 3 * bnd i + 200
def tn : Nat → Nat
  | 0 => 100
  | i + 1 => 2 * tn i + 10
theorem bnd_le : ∀ i, i ≤ 3 → 200 ≤ bnd i ∧ bnd i ≤ 8000 ∧ 100 ≤ tn i ∧ tn i ≤ 870 := by
  intro i hi
  match i, hi with
  | 0, _ => decide
  | 1, _ => decide
  | 2, _ => decide
  | 3, _ => decide
section
variable {P : Program} {w : World} {K : PySem.W.Frag} {mg : Str → Option Value} {base : Heap} {C fI A1 A2 A3 A4 A5 A6 : Addr} {p : Vo} {σ : L2.St} {H : Hp} {ta tb te t1 t2 : TE} {tr : TA} {a : Addr} {D : Ends} {u : TS}
theorem q_two2 {A : Sy p} {B : V → Hp → Sy p} {i j : Nat} (iv : Iv p H) (h1 : Ev p t1 σ H A) (h2 : ∀ x H1, Gr p H H1 → A.P x H1 → Ev p t2 σ H1 (B x H1)) (kk : ∀ x y H1 H2, Iv p H1 → Gr p H H1 → A.P x H1 → Iv p H2 → Gr p H1 H2 → (B x H1).P y H2 → u D ((σ.set i (some x)).set j (some y)) H2) : tSeq (tPar i j (tCons t1 (tCons t2 tNil))) u D σ H :=
  h1 H iv (Gr.refl H) _ fun x H1 i1 g1 hx => h2 x H1 g1 hx H1 i1 (Gr.refl H1) _ fun y H2 i2 g2 hy => ⟨x, y, rfl, kk x y H1 H2 i1 g1 hx i2 g2 hy⟩
theorem gr_in {H' : Hp} {b : Addr} {o : HO} (g : Gr p H H') : Gr (p.and b o) H H' := fun a u n h => g a u n.back h
/-- what holds over one more object that stays -/
theorem ev_and {b : Addr} {o : HO} {A : Sy p} {A' : Sy (p.and b o)} (nb : Nv p b) (hb : H b = some o) (h : Ev (p.and b o) te σ H A') (hA : ∀ v H, A'.P v H → A.P v H) : Ev p te σ H A := fun H1 i g Q q => by
  have h1 : H1 b = some o := g b _ nb hb
  refine h H1 (i.and h1 nb) (gr_in g) Q fun v H2 i2 g2 ha => q v H2 i2.back (fun c u n e => ?_) (hA v H2 ha)
  by_cases z : b = c
  · subst z
    rw [h1] at e
    cases e
    exact i2.ex (b, o) List.mem_cons_self
  · exact g2 c u (n.and z) e
theorem AllL.an {α : Type} {Y : Pt α} {vs : List V} {es : List α} {b : Addr} {o : HO} (h : AllL Y p H vs es) (hb : H b = none) : AllL Y (p.and b o) H vs es := ⟨h.1, fun i v e e1 e2 => Y.an (h.2 i v e e1 e2) hb⟩
theorem AllL.of {α : Type} {Y : Pt α} {vs : List V} {es : List α} {q : Vo} (h : AllL Y p H vs es) (k : ∀ a, Nv p a → Nv q a) : AllL Y q H vs es := ⟨h.1, fun i v e e1 e2 => Y.of (h.2 i v e e1 e2) k⟩
/-- a new list of such things: it was not there -/
def sFY {α : Type} (p : Vo) (Y : Pt α) (R : List α → Prop) (H0 : Hp) : Sy p := ⟨fun v H3 => ∃ b vs es, v = .ref b ∧ Nv p b ∧ H0 b = none ∧ H3 b = some (.lst vs) ∧ R es ∧ AllL Y (p.and b (.lst [])) H3 vs es, fun v H H' g ⟨b, vs, es, e, nb, hn, hb, r, hl⟩ => ⟨b, vs, es, e, nb, hn, g b _ nb hb, r, hl.gr (gr_in g)⟩⟩
theorem l_lstF {d : PyData} {R : PyData → Prop} (h1 : Ev p t1 σ H (syY p Pr d)) (h2 : Ev p t2 σ H (syO p Pr R)) : Ev p (tLst (tCons t1 (tCons t2 tNil))) σ H (sFY p Pr (fun es => ∃ e, R e ∧ es = [d, e]) H) := fun H1 i g Q q =>
  h1 H1 i g _ fun x H2 i2 g2 hx => h2 H2 i2 (g.trans g2) _ fun y H3 i3 g3 ⟨e, re, hy⟩ => ⟨by rw [sizeLine_eq]; exact Nat.le_of_ble_eq_true rfl, fun b hb => q _ _ (i3.new hb) ((g2.trans g3).trans (Gr.new hb)) ⟨b, [x, y], [d, e], rfl, i3.ne hb, ((g.trans g2).trans g3).free (i3.ne hb) hb, upd_same, ⟨e, re, rfl⟩, AllL.gr (AllL.an (.cons (Pr.gr hx g3) (.cons hy .nil)) hb) upd_and⟩⟩
/-- .. behind another such list -/
def sFZ (p : Vo) (b1 : Addr) (R : List PyData → Prop) (H0 : Hp) : Sy p := ⟨fun v H3 => ∃ b vs es, v = .ref b ∧ Nv p b ∧ H0 b = none ∧ H3 b = some (.lst vs) ∧ R es ∧ AllL Pr ((p.and b1 (.lst [])).and b (.lst [])) H3 vs es, fun v H H' g ⟨b, vs, es, e, nb, hn, hb, r, hl⟩ => ⟨b, vs, es, e, nb, hn, g b _ nb hb, r, hl.gr (gr_in (gr_in g))⟩⟩
def adr : V → Addr
  | .ref b => b
  | _ => 0
theorem x_ne0 {ds : List PyData} (ha : Ev p ta σ H (stP p Pr ds)) : Ev p (tOp (rNe0 K) ta (tTup tNil)) σ H (sx (.bl (!decide (ds.length = 0)))) :=
  e_op ha (x_tup (ws := []) a_nil (Nat.zero_le _)) fun x y H1 iv g ⟨b, ws, e1, nb, h1, hl⟩ ⟨b', ws', e2, nb', h2, ew⟩ => rv iv rfl fun Q q => ⟨b, b', ws, e1, e2, SqT.of h1, SqT.of (by rw [h2, ew]), by rw [hl.1]; exact q⟩
abbrev spRight : Sp := spP arS fun _ p => sx (.bl true)
theorem txt_odd {d : PyData} (h : Odd d) : ∀ z, d = .str z → GT 100 z := fun z e => by
  subst e
  have h1 := h.lv
  have h2 := h.bk
  simp only [PyData.leavesShort] at h1
  simp only [PyData.bulk] at h2
  exact ⟨by show z.cps.size ≤ 100; omega, fun c hc => of_decide_eq_true (List.all_eq_true.mp h1 c hc)⟩
theorem q_app {b : Addr} {acc : List V} {i : Nat} {B : ∀ q : Vo, Sy q} (nb : Nv p b) (iv : Iv p H) (hb : H b = some (.lst acc)) (hs : σ[i]? = some (some (.ref b))) (hz : acc.length ≤ 100000) (h : Ev (p.and b (.lst acc)) te σ H (B _))
    (k : ∀ y H2, Iv p H2 → Gr (p.and b (.lst acc)) H H2 → H2 b = some (.lst acc) → (B (p.and b (.lst acc))).P y H2 → u D σ (upd H2 b (.lst (acc ++ [y])))) : tSeq (tDrop (tApp (tVar i) te)) u D σ H := s_app (D := { D with nx := u D }) nb iv hb hs hz h k
theorem ev_gr {v : V} {A : Sy p} (h : Ev p te σ H (sx v)) (a : A.P v H) : Ev p te σ H A := fun H1 i g Q q => h H1 i g Q fun w H2 i2 g2 e => q w H2 i2 g2 (by rw [show w = v from e]; exact A.st v H H2 (g.trans g2) a)
/-- the last item of a list that is being filled -/
theorem x_lastV {b : Addr} {us : List V} {x : V} (hb : H b = some (.lst (us ++ [x]))) (h1 : Ev (p.and b (.lst (us ++ [x]))) ta σ H (sx (.ref b))) (h2 : Ev (p.and b (.lst (us ++ [x]))) tb σ H (sx (.int (-1)))) : Ev (p.and b (.lst (us ++ [x]))) (tOp (rIx K) ta tb) σ H (sx x) :=
  e_op h1 h2 fun u v H1 iv g e1 e2 => rv iv rfl fun Q q => .inl ⟨b, us ++ [x], -1, x, e1, e2, SqL.of (iv.ex (b, _) List.mem_cons_self), at_last, q⟩
/-- all of them are judged rightly -/
theorem x_allJ {b : Addr} {xs : List V} {ds : List PyData} {j k : Nat} (hs : Sm p) (h3 : σ[j]? = some (some (.ref b))) (nb : Nv p b) (hb : H b = some (.lst xs)) (hl : AllL Pr p H xs ds) (hgd : ∀ d ∈ ds, Gd 9000 6 d) (hw : ∀ x, wipe ((wipe σ [k]).set k (some x)) [k] = wipe σ [k]) (hk : ∀ x, ((wipe σ [k]).set k (some x))[k]? = some (some x)) (hz : xs.length ≤ 100) :
    Ev p (tCB (rAll K) (tCons (tLc (iList K (tVar j)) (gName k) tYes (tCall spJ [] E0 (tCons (tVar k) tNil)) [k]) tNil)) σ H (sx (.bl true)) := by
  refine x_to (x_all (bs := List.replicate ds.length true) ((lcL_pt (K := K) (X := Px) (Y := Pr) (es := (List.replicate ds.length true).map V.bl) (fs := ds) (τ := fun x _ => (wipe σ [k]).set k (some x)) (e_var (A := slP p Pr ds) h3 ⟨b, xs, rfl, nb, hb, hl⟩) (by rw [List.length_map, List.length_replicate]) (by rw [List.length_map, List.length_replicate, ← hl.1]; omega) (fun x f => hw x) (fun i x f H' R' hf hx hR => hR) fun i x f D l H3 hf g3 hD hx => ?_).imp fun v H h => slx_px h)) ?_
  · have hi : i < ds.length := (List.getElem?_eq_some_iff.mp hf).1
    refine e_px (v := .bl true) (e_call (a_cons (e_vx (hk x)) a_nil) fun us H4 i4 g4 os Q' q' => ?_) (by rw [List.getElem?_map, List.getElem?_replicate, if_pos hi]; rfl)
    obtain ⟨y, ws, rfl, rfl, rfl⟩ := os
    exact ⟨_, _, f, rfl, i4, hs.and, (show Rp _ H3 _ f from hx).gr g4, hgd f (List.mem_of_getElem? hf), fun H' i' g' => q' _ H' i' g' rfl⟩
  · congr 1
    rw [List.all_eq_true]
    exact fun b hb => (List.mem_replicate.mp hb).2
/-- the two lists, as the loop leaves them -/
structure Lp (p : Vo) (b1 b2 : Addr) (i : Nat) (H : Hp) (vs ts : List V) (es fs : List PyData) : Prop where
  h1 : H b1 = some (.lst vs)
  h2 : H b2 = some (.lst ts)
  n1 : vs.length = i + 2
  n2 : ts.length = i + 2
  l1 : AllL Pr ((p.and b1 (.lst [])).and b2 (.lst [])) H vs es
  l2 : AllL Pr ((p.and b1 (.lst [])).and b2 (.lst [])) H ts fs
  g1 : ∀ d ∈ es, Gd (bnd i) 6 d
  g2 : ∀ d ∈ fs, Gd 9000 6 d ∧ ∀ z, d = .str z → GT (tn i) z
theorem ok_right (E : En K mg) (F : Df K mg "_law_right" s__law_right) (k_index_text : CaK (L2.CX P w) P w K mg base 7 "index_text" "index" (spText C)) (k_parse_index : CaK (L2.CX P w) P w K mg base 7 "parse_index" "text" (spParse C)) (c__law_index : Ca P w K mg base 3 "_law_index" spIndex) (c__law_text : Ca P w K mg base 1 "_law_text" spTxt) (c__law_odd : Ca P w K mg base 2 "_law_odd" spOdd) (c__law_bent : Ca P w K mg base 4 "_law_bent" spBent) (c__law_bent_text : Ca P w K mg base 2 "_law_bent_text" spBT) (c__law_judged_right : CaG P w K mg base 9 "_law_judged_right" spJ) (c__law_read_right : CaG P w K mg base 9 "_law_read_right" spJ) : CaG P w K mg base 10 "_law_right" spRight := by
  refine caG_mk F sc__law_right (fun _ _ _ _ _ _ us hl => match us, hl with | [_], _ => rfl) (fun vs H Q E h => by obtain ⟨p, a, _, _, e, _⟩ := h; rw [show vs = _ from e.1]; rfl) (fun f cdv A outer s H vs Q E' hg hr h => ?_)
  have hu64 : (A.deeper (envOfC "_law_right" (defScope s__law_right) s.heap.objs.size f cdv)).units + 64 < cLine := by
    have := hr.un
    omega
  obtain ⟨p, a, hp, iv, ⟨e, hs⟩, q⟩ := h
  obtain rfl : vs = [.ref a] := e
  refine ⟨_, (pss_cons (ps_set (i := 1) sc__law_right.nd rfl (Or.inl rfl) (pe_ca c__law_index (hr.mono (by first | decide | omega)) (by rfl) (pa_cons (pv 0) pa_nil)))
      (pss_cons (ps_set (i := 2) sc__law_right.nd rfl (Or.inl rfl) (pe_ca c__law_text (hr.mono (by first | decide | omega)) (by rfl) (pa_cons (pv 1) pa_nil)))
      (pss_cons (ps_par (i := 3) (j := 4) rfl sc__law_right.nd rfl rfl (by decide) rfl rfl (pa_cons (pe_lst (pa_cons (pv 1) (pa_cons (pe_ca c__law_odd (hr.mono (by first | decide | omega)) (by rfl) (pa_cons (pv 0) pa_nil)) pa_nil))) (pa_cons (pe_lst (pa_cons (pv 2) (pa_cons (pe_ca c__law_odd (hr.mono (by first | decide | omega)) (by rfl) (pa_cons (pv 0) pa_nil)) pa_nil))) pa_nil)) rfl)
      (pss_cons (ps_for PassesOwn.never rfl (pi_range1 (by rfl) (E.fr (x := "range") (by decide +kernel)) (pa_cons pe_int pa_nil)) (pg_name (i := 5) sc__law_right.nd rfl (Or.inl rfl)) (pss_cons (ps_set (i := 6) sc__law_right.nd rfl (Or.inl rfl) (pe_ifExp (PW.pt (pw_and (pt_val (pe_callB (isiU (K := K) rfl) (by rfl) (E.fr (x := "isinstance") (by decide +kernel)) (by decide +kernel) (pa_cons (pe_ix (ixU (K := K) rfl) (pv 3) (pe_un un_neg pe_int) (fun _ _ => rfl)) (pa_cons (pe_bltn (by rfl) (E.fr (x := "tuple") (by decide +kernel)) (by decide +kernel) (show RelV (.ty "tuple") (.type "tuple") from rfl)) pa_nil)))) (pw_and1 (pt_cmpR (ne0U (K := K) hu64 rfl) (pe_ix (ixU (K := K) rfl) (pv 3) (pe_un un_neg pe_int) (fun _ _ => rfl)) (pe_tup pa_nil) (nomark _))))) (pe_ix (ixU (K := K) rfl) (pv 3) (pe_un un_neg pe_int) (fun _ _ => rfl)) (pv 1)))
      (pss_cons (ps_expr (pe_app (pv 3) (pe_ca c__law_bent (hr.mono (by first | decide | omega)) (by rfl) (pa_cons (pv 0) (pa_cons (pv 6) pa_nil)))))
      (pss_one (ps_expr (pe_app (pv 4) (pe_ca c__law_bent_text (hr.mono (by first | decide | omega)) (by rfl) (pa_cons (pv 0) (pa_cons (pe_ifExp (pt_val (pe_callB (isiU (K := K) rfl) (by rfl) (E.fr (x := "isinstance") (by decide +kernel)) (by decide +kernel) (pa_cons (pe_ix (ixU (K := K) rfl) (pv 4) (pe_un un_neg pe_int) (fun _ _ => rfl)) (pa_cons (pe_bltn (by rfl) (E.fr (x := "str") (by decide +kernel)) (by decide +kernel) (show RelV (.ty "str") (.type "str") from rfl)) pa_nil)))) (pe_ix (ixU (K := K) rfl) (pv 4) (pe_un un_neg pe_int) (fun _ _ => rfl)) (pv 2)) pa_nil)))))))))
      (pss_cons (ps_for PassesOwn.never rfl (pi_range1 (by rfl) (E.fr (x := "range") (by decide +kernel)) (pa_cons pe_int pa_nil)) (pg_name (i := 5) sc__law_right.nd rfl (Or.inl rfl)) (pss_cons (ps_if (pt_not (pt_val (pe_callB (allU (K := K) rfl rfl) (by rfl) (E.fr (x := "all") (by decide +kernel)) (by decide +kernel) (pa_cons (pe_lc (own := [("_law_thing", 7)]) (g := (gName 7)) (tt := tYes) rfl sc__law_right.nd (pi_list (pv 3)) (blkOk_by (own := [("_law_thing", 7)]) (N := ["_law_pot_here", "_law_row", "_law_note", "_law_things", "_law_texts", "_law_turn", "_law_last", "_law_thing", "_law_one"]) (sc := defScope s__law_right) (by decide +kernel)) (fun _ _ _ _ _ => (pg_name (i := 7) sc__law_right.nd rfl (Or.inl rfl))) (fun _ _ _ _ _ => pts_nil) (fun _ _ _ _ _ => (pe_cg c__law_judged_right (by exact hg) (hr.mono (by first | decide | omega)) (by rfl) (pa_cons (pv 7) pa_nil)))) pa_nil)))) (pss_one (ps_ret pe_bl)) pss_nil)
      (pss_one (ps_if (pt_not (pt_val (pe_callB (allU (K := K) rfl rfl) (by rfl) (E.fr (x := "all") (by decide +kernel)) (by decide +kernel) (pa_cons (pe_lc (own := [("_law_one", 8)]) (g := (gName 8)) (tt := tYes) rfl sc__law_right.nd (pi_list (pv 4)) (blkOk_by (own := [("_law_one", 8)]) (N := ["_law_pot_here", "_law_row", "_law_note", "_law_things", "_law_texts", "_law_turn", "_law_last", "_law_thing", "_law_one"]) (sc := defScope s__law_right) (by decide +kernel)) (fun _ _ _ _ _ => (pg_name (i := 8) sc__law_right.nd rfl (Or.inl rfl))) (fun _ _ _ _ _ => pts_nil) (fun _ _ _ _ _ => (pe_cg c__law_read_right (by exact hg) (hr.mono (by first | decide | omega)) (by rfl) (pa_cons (pv 8) pa_nil)))) pa_nil)))) (pss_one (ps_ret pe_bl)) pss_nil))))
      (pss_one (ps_ret (pe_cmpR op_eq (pe_callB (call_reprR hg hu64) (by rfl) (E.fr (x := "repr") (by decide +kernel)) (by decide +kernel) (pa_cons (pe_lst (pa_cons (pe_cx k_parse_index passL (hr.mono (by first | decide | omega)) (by rfl) (pa_cons (pv 2) pa_nil)) (pa_cons (pe_cx k_index_text passL (hr.mono (by first | decide | omega)) (by rfl) (pa_cons (pv 1) pa_nil)) pa_nil))) pa_nil)) (pe_callB (call_reprR hg hu64) (by rfl) (E.fr (x := "repr") (by decide +kernel)) (by decide +kernel) (pa_cons (pe_lst (pa_cons (pv 1) (pa_cons (pv 2) pa_nil))) pa_nil)) (nomark _))))))))), ?_⟩
  refine q_asg (A := syO p Pr Row) iv (e_call1 hp (e_vx rfl) fun v H h => h) fun vr H1 i1 g1 h1 => ?_
  obtain ⟨r, hrow, hr1⟩ := h1
  have hr1 : Rp p H1 vr r := hr1
  obtain ⟨ep, ps, er, ep0, ep1, hidx, hgr, htl⟩ := hrow
  have hD1 : Dat p H1 vr (sD r) := hr1.dat (bulk_small r (by have := hgr.bk; omega))
  have hnote : GT 100 (idxText (sD r)) := ⟨htl, (text_good hidx (N := 300) fun ds e => by
    rw [er] at e
    have e : D.tup (sDs (.int ep :: ps)) = .tup ds := e
    have hb := hgr.bk
    rw [er] at hb
    simp only [PyData.bulk] at hb
    have := bulk_len (PyData.int ep :: ps)
    rw [← D.tup.inj e, sDs_map, List.length_map]
    omega).ch⟩
  refine q_asgx (v := .str (idxText (sD r))) i1 (x_call (a_cons (e_vx rfl) a_nil) fun H2 g2 => pu_txt (hD1.gr g2).non' hidx) fun H2 i2 g12 => ?_
  have hr2 := hr1.gr g12
  have hpls := (idx_pl hidx (N := 300) fun ds e => by
    rw [er] at e
    have e : D.tup (sDs (.int ep :: ps)) = .tup ds := e
    have hb := hgr.bk
    rw [er] at hb
    simp only [PyData.bulk] at hb
    have := bulk_len (PyData.int ep :: ps)
    rw [← D.tup.inj e, sDs_map, List.length_map]
    omega).1
  refine q_two2 (A := sFY p Pr (fun es => ∃ e, Odd e ∧ es = [r, e]) H2) (B := fun x H3 => sFZ p (adr x) (fun es => ∃ e, Odd e ∧ es = [.str (idxText (sD r)), e]) H3) i2 (l_lstF (e_var rfl hr2) (e_odd hp hs (e_vx rfl) fun v H d hd h => ⟨d, hd, h⟩)) (fun x H3 g23 hx => ?_) fun x1 x2 H3 H4 i3 g23 h1 i4 g34 h2 => ?_
  · obtain ⟨b1, vs1, es1, rfl, nb1, hn1, hb1, _, _⟩ := hx
    refine ev_and (b := b1) (A' := sFY (p.and b1 (.lst vs1)) Pr (fun es => ∃ e, Odd e ∧ es = [.str (idxText (sD r)), e]) H3) nb1 hb1 (l_lstF (p := p.and b1 (.lst vs1)) (e_var rfl (.str _)) (e_odd (p := p.and b1 (.lst vs1)) hp hs.and (e_vx rfl) fun v H d hd h => ⟨d, hd, h⟩)) fun v H ⟨b, vs, es, e, nb, hn, hb, r, hl⟩ => ⟨b, vs, es, e, nb.back, hn, hb, r, AllL.of hl fun a n => (nv_and n.back).and n.ne⟩
  obtain ⟨b1, vs1, es1, rfl, nb1, hn1, hb1, ⟨o1, ho1, rfl⟩, hl1⟩ := h1
  obtain ⟨b2, vs2, es2, rfl, nb2, hn2, hb2, ⟨o2, ho2, rfl⟩, hl2⟩ := h2
  have hne : b1 ≠ b2 := fun e => by
    rw [e, hn2] at hb1
    cases hb1
  have b12 := bnd_le
  have L0 : Lp p b1 b2 0 H4 vs1 vs2 [r, o1] [.str (idxText (sD r)), o2] := by
    refine ⟨g34 b1 _ nb1 hb1, hb2, hl1.1, hl2.1, AllL.gr (AllL.an hl1 hn2) (gr_in (gr_in g34)), hl2, fun d hd => ?_, fun d hd => ?_⟩
    · simp only [List.mem_cons, List.not_mem_nil, or_false] at hd
      rcases hd with e | e
      · rw [e]; exact hgr.mono (Nat.le_refl _) (by decide)
      · rw [e]; exact Gd.mono ho1 (by decide) (by decide)
    · simp only [List.mem_cons, List.not_mem_nil, or_false] at hd
      rcases hd with e | e
      · rw [e]; exact ⟨(gt_gd hnote).mono (by decide) (by decide), fun z ez => by rw [← PyData.str.inj ez]; exact hnote⟩
      · rw [e]; exact ⟨Gd.mono ho2 (by decide) (by decide), txt_odd ho2⟩
  have hr4 : Rp ((p.and b1 (.lst [])).and b2 (.lst [])) H4 vr r := ((hr2.and (E := b1) (o := .lst []) hn1).gr (gr_in g23) |>.and (E := b2) (o := .lst []) hn2).gr (gr_in (gr_in g34))
  refine q_forR (p := p) (n := 3) i4 e_cx (by decide) (by decide) (fun i σ' H' => Iv p H' ∧ Gr ((p.and b1 (.lst [])).and b2 (.lst [])) H4 H' ∧ (∃ o5 o6, σ' = [some (.ref a), some vr, some (.str (idxText (sD r))), some (.ref b1), some (.ref b2), o5, o6, none, none]) ∧ ∃ vs ts es fs, Lp p b1 b2 i H' vs ts es fs) (fun H5 i5 g5 => ?_) (fun i σ' H' hi h => ?_) fun σ' H' h => ?_
  · refine ⟨i5, gr_in (gr_in g5), ⟨_, _, rfl⟩, vs1, vs2, _, _, ⟨g5 b1 _ nb1 L0.h1, g5 b2 _ nb2 L0.h2, L0.n1, L0.n2, AllL.gr L0.l1 (gr_in (gr_in g5)), AllL.gr L0.l2 (gr_in (gr_in g5)), L0.g1, L0.g2⟩⟩
  · obtain ⟨i5, g5, ⟨o5, o6, rfl⟩, vs, ts, es, fs, L⟩ := h
    obtain ⟨c1, c2, c3, c4⟩ := b12 i (by have : i < 3 := hi; omega)
    have hes : es ≠ [] := fun e => by
      have h1 := L.l1.1
      have h2 := L.n1
      rw [e] at h1
      have h1 : vs.length = 0 := h1
      omega
    have hfs : fs ≠ [] := fun e => by
      have h1 := L.l2.1
      have h2 := L.n2
      rw [e] at h1
      have h1 : ts.length = 0 := h1
      omega
    obtain ⟨es0, dl, rfl⟩ := last_of hes
    obtain ⟨fs0, dt, rfl⟩ := last_of hfs
    obtain ⟨vs0, ul, rfl⟩ := last_of (ws := vs) (fun e => by have := L.n1; rw [e] at this; cases this)
    obtain ⟨ts0, ut, rfl⟩ := last_of (ws := ts) (fun e => by have := L.n2; rw [e] at this; cases this)
    have lv0 : vs0.length = es0.length := by have := L.l1.1; rw [List.length_append, List.length_append] at this; exact Nat.add_right_cancel this
    have lt0 : ts0.length = fs0.length := by have := L.l2.1; rw [List.length_append, List.length_append] at this; exact Nat.add_right_cancel this
    have hul : Rp ((p.and b1 (.lst [])).and b2 (.lst [])) H' ul dl := L.l1.2 vs0.length ul dl (by rw [List.getElem?_append_right (Nat.le_refl _), Nat.sub_self]; rfl) (by rw [lv0, List.getElem?_append_right (Nat.le_refl _), Nat.sub_self]; rfl)
    have hut : Rp ((p.and b1 (.lst [])).and b2 (.lst [])) H' ut dt := L.l2.2 ts0.length ut dt (by rw [List.getElem?_append_right (Nat.le_refl _), Nat.sub_self]; rfl) (by rw [lt0, List.getElem?_append_right (Nat.le_refl _), Nat.sub_self]; rfl)
    have gdl := L.g1 dl (List.mem_append_right _ List.mem_cons_self)
    have gdt := L.g2 dt (List.mem_append_right _ List.mem_cons_self)
    have toP2 : ∀ {a : Addr}, Nv ((p.and b1 (.lst [])).and b2 (.lst [])) a → Nv p a := fun n => n.back.back
    have hulD : Dat p H' ul (sD dl) := (hul.of fun a n => toP2 n).dat (bulk_small dl (by have := gdl.bk; omega))
    have thl : ∀ {σ : L2.St}, σ[3]? = some (some (.ref b1)) → Ev p (tOp (rIx K) (tVar 3) (tUn (rU fun i => .int (-i)) (tC (.int 1)))) σ H' (sx ul) := fun h3 => x_ixQ (xs := vs0 ++ [ul]) (e_vx h3) (fun v H g e => ⟨b1, e, .inl (SqL.of (g b1 _ nb1 L.h1))⟩) (x_neg (i := 1) e_cx) at_last
    refine q_asg (p := p) (A := ⟨fun v H => ∃ ds, ds ≠ [] ∧ Gds (bnd i) 5 ds ∧ Rp ((p.and b1 (.lst [])).and b2 (.lst [])) H v (.tuple ds), fun v H H' g ⟨ds, ne, hg, h⟩ => ⟨ds, ne, hg, h.gr (gr_in (gr_in g))⟩⟩) i5 (e_if (B := fun b => b = true → ∃ ds, dl = .tuple ds ∧ ds ≠ []) ?_ (fun hb => ?_) fun _ => ?_) fun vl H6 i6 g56 hvl => ?_
    · refine t_and (B := fun b => b = (sD dl).isT) (D := fun b => b = true → ∃ ds, dl = .tuple ds ∧ ds ≠ []) (k_b (x_isiD (thl rfl) hulD (kit_t _))) (fun hT => ?_) (fun _ h => nomatch h) fun b _ h => h
      obtain ⟨ds, rfl⟩ : ∃ ds, dl = .tuple ds := by
        cases dl with
        | tuple ds => exact ⟨ds, rfl⟩
        | none => cases hT
        | bool b => cases hT
        | int i => cases hT
        | str z => cases hT
        | list es => cases hT
        | dict kvs => cases hT
      refine (k_test (x_ne0 (K := K) (ev_gr (A := stP p Pr ds) (thl rfl) (rp_stP (hul.of fun a n => toP2 n))))).imp fun b e hb => ⟨ds, rfl, fun z => ?_⟩
      rw [e, z] at hb
      cases hb
    · obtain ⟨ds, rfl, hdn⟩ := hb rfl
      exact ev_gr (thl rfl) ⟨ds, hdn, Gd.items (k := 5) gdl, hul⟩
    · refine e_var rfl ⟨.int ep :: ps, List.cons_ne_nil _ _, ?_, ?_⟩
      · have := hgr
        rw [er] at this
        exact (Gd.items (k := 1) this).mono c1 (by decide)
      · have := hr4.gr g5
        rw [er] at this
        exact this
    obtain ⟨ds, hdn, hdg, hvl⟩ := hvl
    -- the thing bent
    have ib2 : Iv (p.and b2 (.lst (ts0 ++ [ut]))) H6 := i6.and (g56 b2 _ nb2 L.h2) nb2
    have nb12 : Nv (p.and b2 (.lst (ts0 ++ [ut]))) b1 := nb1.and fun e => hne e.symm
    refine q_app (p := p.and b2 (.lst (ts0 ++ [ut]))) (B := fun q => syO q Pr (Gd (bnd (i + 1)) 6)) nb12 ib2 (g56 b1 _ nb1 L.h1) rfl (by rw [L.n1]; have : i < 3 := hi; omega) (e_call (a_cons (e_vx (v := V.ref a) rfl) (a_cons (e_vx (v := vl) rfl) a_nil)) fun us H7 i7 g7 os Q' q' => ?_) fun y H7 i7 g7 hb7 hy => ?_
    · obtain ⟨x, w1, rfl, rfl, x2, w2, rfl, rfl, rfl⟩ := os
      exact ⟨bnd i, by omega, (p.and b2 (.lst (ts0 ++ [ut]))).and b1 (.lst (vs0 ++ [ul])), a, hp, i7, ⟨_, ds, rfl, hs.and.and, (hvl.of fun c n => (n.back.back.and n.ne).and n.back.ne).gr g7, hdn, hdg⟩, fun v H' i' g' ⟨d, hd, h⟩ => q' v H' i' g' ⟨d, hd, h⟩⟩
    obtain ⟨dy, hdy, hy⟩ := hy
    have hy : Rp ((p.and b2 (.lst (ts0 ++ [ut]))).and b1 (.lst (vs0 ++ [ul]))) H7 y dy := hy
    have g68 : Gr ((p.and b1 (.lst [])).and b2 (.lst [])) H6 (upd H7 b1 (.lst (vs0 ++ [ul] ++ [y]))) := fun c o n h => by
      rw [upd_ne (fun z => n.back.ne z.symm)]
      exact g7 c o ((n.back.back.and n.ne).and n.back.ne) h
    have i8 : Iv p (upd H7 b1 (.lst (vs0 ++ [ul] ++ [y]))) := i7.back.upd nb1
    have h8b2 : upd H7 b1 (.lst (vs0 ++ [ul] ++ [y])) b2 = some (.lst (ts0 ++ [ut])) := by
      rw [upd_ne (fun z => hne z.symm)]
      exact i7.ex (b2, _) List.mem_cons_self
    have hy8 : Rp ((p.and b1 (.lst [])).and b2 (.lst [])) (upd H7 b1 (.lst (vs0 ++ [ul] ++ [y]))) y dy := (hy.of (q := (p.and b1 (.lst [])).and b2 (.lst [])) fun c n => (n.back.back.and n.ne).and n.back.ne).gr fun c o n h => by
      rw [upd_ne (fun z => n.back.ne z.symm)]
      exact h
    -- the text bent
    have nb21 : Nv (p.and b1 (.lst (vs0 ++ [ul] ++ [y]))) b2 := nb2.and hne
    have ib1 : Iv (p.and b1 (.lst (vs0 ++ [ul] ++ [y]))) (upd H7 b1 (.lst (vs0 ++ [ul] ++ [y]))) := i8.and upd_same nb1
    have hut8 : Rp ((p.and b1 (.lst [])).and b2 (.lst [])) (upd H7 b1 (.lst (vs0 ++ [ul] ++ [y]))) ut dt := (hut.gr (gr_in (gr_in g56))).gr g68
    have toQ : ∀ {c : Addr}, Nv ((p.and b1 (.lst [])).and b2 (.lst [])) c → Nv ((p.and b1 (.lst (vs0 ++ [ul] ++ [y]))).and b2 (.lst (ts0 ++ [ut]))) c := fun n => (nv_and n.back).and n.ne
    have hutD : Dat ((p.and b1 (.lst (vs0 ++ [ul] ++ [y]))).and b2 (.lst (ts0 ++ [ut]))) (upd H7 b1 (.lst (vs0 ++ [ul] ++ [y]))) ut (sD dt) := (hut8.of fun c n => toQ n).dat (bulk_small dt (by have := gdt.1.bk; omega))
    refine s_app (p := p.and b1 (.lst (vs0 ++ [ul] ++ [y]))) (B := fun q => ss (GT (tn (i + 1)))) nb21 ib1 h8b2 rfl (by rw [L.n2]; have : i < 3 := hi; omega) (e_call (a_cons (e_vx (v := V.ref a) rfl) (a_cons (A := ss (GT (tn i))) (e_if (B := fun b => b = (sD dt).isS) (k_b (x_isiD (x_lastV (K := K) h8b2 (e_vx rfl) (x_neg (i := 1) e_cx)) hutD (kit_s _))) (fun hS => ?_) fun _ => e_ssx (e_vx rfl) (hnote.mono c3)) a_nil)) fun us H9 i9 g9 os Q' q' => ?_) fun y2 H9 i9 g9 hb9 hy2 => ?_
    · obtain ⟨z, rfl⟩ : ∃ z, dt = .str z := by
        cases dt with
        | str z => exact ⟨z, rfl⟩
        | none => cases hS
        | bool b => cases hS
        | int i => cases hS
        | tuple ds => cases hS
        | list es => cases hS
        | dict kvs => cases hS
      have hz := gdt.2 z rfl
      exact (x_lastV (K := K) h8b2 (e_vx rfl) (x_neg (i := 1) e_cx)).imp fun v H e => by
        rw [show v = ut from e]
        cases hut with
        | str _ => exact ⟨z, rfl, hz⟩
    · obtain ⟨x, w1, rfl, rfl, x2, w2, rfl, ⟨z, rfl, hz⟩, rfl⟩ := os
      exact ⟨tn i, by omega, (p.and b1 (.lst (vs0 ++ [ul] ++ [y]))).and b2 (.lst (ts0 ++ [ut])), a, hp, i9, ⟨z, rfl, hz⟩, fun v H' i' g' h => q' v H' i' g' h⟩
    obtain ⟨z2, rfl, hz2⟩ := hy2
    have g8f : Gr ((p.and b1 (.lst [])).and b2 (.lst [])) (upd H7 b1 (.lst (vs0 ++ [ul] ++ [y]))) (upd H9 b2 (.lst (ts0 ++ [ut] ++ [V.str z2]))) := fun c o n h => by
      rw [upd_ne (fun z => n.ne z.symm)]
      exact g9 c o (toQ n) h
    have gAll : Gr ((p.and b1 (.lst [])).and b2 (.lst [])) H' (upd H9 b2 (.lst (ts0 ++ [ut] ++ [V.str z2]))) := ((gr_in (gr_in g56)).trans g68).trans g8f
    refine ⟨i9.back.upd nb2, g5.trans gAll, ⟨_, _, rfl⟩, _, _, es0 ++ [dl] ++ [dy], fs0 ++ [dt] ++ [.str z2], ?_, upd_same, by rw [List.length_append, L.n1]; rfl, by rw [List.length_append, L.n2]; rfl, AllL.app (AllL.gr L.l1 gAll) (.cons (hy8.gr g8f) .nil), AllL.app (AllL.gr L.l2 gAll) (AllL.cons (e := PyData.str z2) (Rp.str z2) .nil : AllL Pr _ _ [V.str z2] [PyData.str z2]), fun d hd => ?_, fun d hd => ?_⟩
    · rw [upd_ne hne]
      exact i9.ex (b1, _) List.mem_cons_self
    · rcases List.mem_append.mp hd with hd | hd
      · exact (L.g1 d hd).mono (by show bnd i ≤ 3 * bnd i + 200; omega) (Nat.le_refl _)
      · rw [List.mem_singleton.mp hd]
        exact hdy
    · have ht1 : tn i ≤ tn (i + 1) := by show tn i ≤ 2 * tn i + 10; omega
      have ht2 : tn (i + 1) ≤ 9000 := by show 2 * tn i + 10 ≤ 9000; omega
      rcases List.mem_append.mp hd with hd | hd
      · exact ⟨(L.g2 d hd).1, fun z ez => ((L.g2 d hd).2 z ez).mono ht1⟩
      · rw [List.mem_singleton.mp hd]
        exact ⟨(gt_gd hz2).mono ht2 (by decide), fun z ez => by rw [← PyData.str.inj ez]; exact hz2⟩
  · obtain ⟨i5, g5, ⟨o5, o6, rfl⟩, vs, ts, es, fs, L⟩ := h
    have L : Lp p b1 b2 3 H' vs ts es fs := L
    have toP2 : ∀ {a : Addr}, Nv ((p.and b1 (.lst [])).and b2 (.lst [])) a → Nv p a := fun n => n.back.back
    have hr5 : Rp p H' vr r := (hr4.gr g5).of fun a n => toP2 n
    have hb3 := (b12 3 (by decide)).2
    have M1 : AllL Pr p H' vs es := AllL.of L.l1 fun a n => toP2 n
    have M2 : AllL Pr p H' ts fs := AllL.of L.l2 fun a n => toP2 n
    refine q_forR (p := p) (n := 2) i5 e_cx (by decide) (by decide) (fun i σ' H6 => Iv p H6 ∧ Gr p H' H6 ∧ ∃ o5, σ' = [some (.ref a), some vr, some (.str (idxText (sD r))), some (.ref b1), some (.ref b2), o5, o6, none, none]) (fun H6 i6 g6 => ⟨i6, g6, _, rfl⟩) (fun i σ' H6 hi h => ?_) fun σ' H6 h => ?_
    · obtain ⟨i6, g6, o5', rfl⟩ := h
      refine q_ifr (p := p) (v := .bl false) (b := false) i6 (k_to (k_not (k_b (x_allJ (b := b1) (xs := vs) (ds := es) hs rfl nb1 (g6 b1 _ nb1 L.h1) (AllL.gr M1 g6) (fun d hd => (L.g1 d hd).mono (by omega) (Nat.le_refl _)) (fun _ => rfl) (fun _ => rfl) (by rw [L.n1]; decide)))) rfl) (fun h => nomatch h) (fun h => nomatch h) fun _ H7 i7 g7 => ?_
      exact s_ifr (p := p) (v := .bl false) (b := false) i7 (k_to (k_not (k_b (x_allJ (b := b2) (xs := ts) (ds := fs) hs rfl nb2 ((g6.trans g7) b2 _ nb2 L.h2) (AllL.gr M2 (g6.trans g7)) (fun d hd => (L.g2 d hd).1) (fun _ => rfl) (fun _ => rfl) (by rw [L.n2]; decide)))) rfl) (fun h => nomatch h) (fun h => nomatch h) fun _ H8 i8 g8 => ⟨i8, (g6.trans g7).trans g8, _, rfl⟩
    · obtain ⟨i6, g6, o5', rfl⟩ := h
      have hr6 := hr5.gr g6
      have hD6 : Dat p H6 vr (sD r) := hr6.dat (bulk_small r (by have := hgr.bk; omega))
      have hrr : toP (sD r) = r := toP_sD r hpls
      have hG : Gd 400 3 (.list [r, .str (idxText (sD r))]) := (Gds.lst (Gds.cons hgr (Gds.cons ((gt_gd hnote).mono (Nat.le_refl _) (by decide)) Gds.nil))).mono (by decide) (by decide)
      have p1 : ∀ {σ : L2.St}, σ[2]? = some (some (.str (idxText (sD r)))) → Ev p (tCall (spParse C) [] E0 (tCons (tVar 2) tNil)) σ H6 (syY p Pr r) := fun {σ} h2 => e_call (a_cons (e_vx h2) a_nil) fun us H7 i7 g7 os Q' q' => by
        obtain ⟨x, ws, rfl, rfl, rfl⟩ := os
        refine ⟨p, _, .str (idxText (sD r)), rfl, i7, .str _ (Nat.le_trans hnote.ln (by decide)), fun t e => by rw [← D.str.inj e]; exact Nat.le_trans hnote.ln (by decide), fun r' e w H8 i8 g8 h => q' w H8 i8 g8 ?_, fun e => ?_⟩
        · have : parseW (wordsOf (idxText (sD r))) = some r' := e
          rw [parse_text hidx] at this
          rw [← Option.some.inj this] at h
          show Rp p H8 w r
          rw [← hrr]
          exact dat_rp h hpls
        · have : parseW (wordsOf (idxText (sD r))) = none := e
          rw [parse_text hidx] at this
          cases this
      have p2 : ∀ {σ : L2.St}, σ[1]? = some (some vr) → Ev p (tCall (spText C) [] E0 (tCons (tVar 1) tNil)) σ H6 (syY p Pr (.str (idxText (sD r)))) := fun {σ} h1 => Ev.imp (A := sx (.str (idxText (sD r)))) (x_call (ws := [vr]) (a_cons (e_vx h1) a_nil) fun H7 g7 Q' E'' k => ⟨vr, sD r, rfl, (hD6.gr g7).non', fun _ H' g' => k H' g', fun h => by rw [hidx] at h; cases h⟩) fun v H e => by rw [show v = _ from e]; exact .str _
      have yr : ∀ {σ : L2.St}, σ[1]? = some (some vr) → Ev p (tVar 1) σ H6 (syY p Pr r) := fun h => e_var h hr6
      have yn : ∀ {σ : L2.St}, σ[2]? = some (some (.str (idxText (sD r)))) → Ev p (tVar 2) σ H6 (syY p Pr (.str (idxText (sD r)))) := fun h => e_var h (.str _)
      refine s_retx (p := p) i6 (x_to (x_eq (x := .str (PyData.list [r, .str (idxText (sD r))]).shown) (y := .str (PyData.list [r, .str (idxText (sD r))]).shown) (x_reprS (y_lst hs (la_cons (p1 rfl) (la_cons (p2 rfl) la_nil)) (Nat.le_of_ble_eq_true rfl)) hG (by decide) (by decide)) (x_reprS (y_lst hs (la_cons (yr rfl) (la_cons (yn rfl) la_nil)) (Nat.le_of_ble_eq_true rfl)) hG (by decide) (by decide)) rfl) (w := .bl true) (by rw [decide_eq_true rfl])) fun H7 i7 g7 => q _ H7 i7 ?_ rfl
      have gg : Gr p H H' := fun c o n h => by
        have h4 : H4 c = some o := g34 c o n (g23 c o n (g12 c o n (g1 c o n h)))
        have n1' : b1 ≠ c := fun z => by
          rw [← z] at h
          have := (g1.trans g12) b1 o nb1 h
          rw [hn1] at this
          cases this
        have n2' : b2 ≠ c := fun z => by
          rw [← z] at h
          have := ((g1.trans g12).trans g23) b2 o nb2 h
          rw [hn2] at this
          cases this
        exact g5 c o ((n.and n1').and n2') h4
      exact (gg.trans g6).trans g7
end
end K21
namespace K21
open PySem PySem.Spec PyProof.Rows L2 Hk
/-! ### the law -/
def smO (o : Obj) : HO := .frz o (.ext fun _ => True)
def pS (o : Obj) : Vo := Vo.non.and sysModules (smO o)
theorem sm_S {o : Obj} : Sm (pS o) := fun a n => fun e => n.ne e.symm
section
variable {P : Program} {w : World} {K : PySem.W.Frag} {mg : Str → Option Value} {base : Heap} {p : Vo} {σ : L2.St} {H : Hp} {ta tb te : TE} {tr : TA} {a : Addr}
def spLaw (K : PySem.W.Frag) : Sp := fun vs H Q _ => ∃ (a : Addr) (ns : List Int) (os : Obj), vs = [.ref a] ∧ Iv (pS os) H ∧ (∀ H', Gr (pS os) H H' → SqL K H' a (ns.map V.int)) ∧ ns.length ≤ 63 ∧ ∀ H', Q (.bl true) H'
/-- the pot that a call makes, and what draws from it -/
theorem e_pot {sp : Sp} {A : ∀ q : Vo, Sy q} {k : Int} {sc : Addr} {ns : List Int} (hS : ∀ H', Gr p H H' → SqL K H' sc (ns.map V.int)) (ha : Ev p ta σ H (sx (.ref sc))) (hb : Ev p tb σ H (sx (.int k))) (h0 : 0 ≤ k) (h1 : k ≤ 1000) (hp0 : p.pot = none)
    (hsp : ∀ (b : Addr) (H2 : Hp) (Q : VK), Iv ⟨some b, p.ex⟩ H2 → Nv p b → (∀ H', Iv ⟨some b, p.ex⟩ H' → Gr ⟨some b, p.ex⟩ H2 H' → Q (.bl true) H') → sp [.ref b] H2 Q E0) : Ev p (tCall sp [] E0 (tCons (tCall (spPot K) [] E0 (tCons ta (tCons tb tNil))) tNil)) σ H (sx (.bl true)) := fun H1 i1 g1 Q q => by
  refine ha H1 i1 g1 _ fun x H2 i2 g2 ex => ?_
  refine hb H2 i2 (g1.trans g2) _ fun y H3 i3 g3 ey => ?_
  refine ⟨p, sc, ns, k, by rw [show x = _ from ex, show y = _ from ey]; rfl, i3, fun H' g => hS H' (((g1.trans g2).trans g3).trans g), h0, h1, fun b H4 i4 g4 hb hP => ?_⟩
  have nb : Nv p b := by
    refine ⟨fun z => ?_, fun x hx z => ?_⟩
    · rw [hp0] at z
      cases z
    · have := i3.ex x hx
      rw [z, hb] at this
      cases this
  have ib : Iv ⟨some b, p.ex⟩ H4 := by
    refine ⟨fun c hc => ?_, i4.ex⟩
    cases (show b = c from Option.some.inj hc)
    exact ⟨hP, fun x hx => nb.2 x hx⟩
  refine hsp b H4 Q ib nb fun H' i' g' => q _ H' ⟨(fun c hc => absurd hc (by rw [hp0]; exact fun z => nomatch z)), i'.ex⟩ ((g2.trans g3).trans fun c o n h => ?_) rfl
  exact g' c o ⟨fun z => (ne_of_none h hb) (Option.some.inj z).symm, n.2⟩ (g4 c o n h)
theorem x_min {c d e : Int → Prop} (ha : Ev p ta σ H (si c)) (hb : Ev p tb σ H (si d)) (he : ∀ i j, c i → d j → e (if j < i then j else i)) : Ev p (tCB (fun xs H Q => ∃ i j, xs = [.int i, .int j] ∧ Q (.int (if j < i then j else i)) H) (tCons ta (tCons tb tNil))) σ H (si e) := e_cb (a_cons ha (a_cons hb a_nil)) fun vs H1 iv g os => by
  obtain ⟨v, ws, rfl, ⟨i, rfl, hi⟩, v2, ws2, rfl, ⟨j, rfl, hj⟩, rfl⟩ := os
  exact rv iv ⟨_, rfl, he i j hi hj⟩ fun Q q => ⟨i, j, rfl, q⟩
theorem x_allE {R : List V → Prop} (ha : Ev p ta σ H (sE p Px R)) (hR : ∀ es, R es → ∀ e ∈ es, e = V.bl true) : Ev p (tCB (rAll K) (tCons ta tNil)) σ H (sx (.bl true)) := e_cb (a_cons ha a_nil) fun vs H1 iv g os => by
  obtain ⟨v, ws, rfl, ⟨es, r, hv⟩, rfl⟩ := os
  obtain ⟨b, us, rfl, nb, hb, rfl⟩ := slx_px hv
  have e : us = (List.replicate us.length true).map V.bl := by
    refine List.ext_getElem? fun i => ?_
    rw [List.getElem?_map, List.getElem?_replicate]
    by_cases hi : i < us.length
    · rw [if_pos hi, List.getElem?_eq_getElem hi, hR us r _ (List.getElem_mem hi)]
      rfl
    · rw [if_neg hi, List.getElem?_eq_none (by omega)]
      rfl
  have e2 : (List.replicate us.length true).all id = true := List.all_eq_true.mpr fun b hb => (List.mem_replicate.mp hb).2
  exact rv iv rfl fun Q q => ⟨b, List.replicate us.length true, rfl, SqL.of (by rw [hb, ← e]), by rw [e2]; exact q⟩
theorem lcR_exN {α : Type} {Y : Pt α} {C : α → Prop} {j : Nat} {vs : List Nat} {N0 N : Nat} (hx : Ev p ta σ H (si fun n => (N0 : Int) ≤ n ∧ n ≤ (N : Int))) (hN : N ≤ 100000) (hw : ∀ x, wipe ((wipe σ vs).set j (some x)) vs = wipe σ vs)
    (he : ∀ (i : Nat) D (l : List V) H1, i < N → Gr p H H1 → H1 D = none → Ev (p.and D (.lst l)) te ((wipe σ vs).set j (some (.int (0 + (i : Nat))))) H1 (syO (p.and D (.lst l)) Y C)) :
    Ev p (tLc (iRng1 (tCons ta tNil)) (gName j) tYes te vs) σ H (sE p Y fun es => N0 ≤ es.length ∧ es.length ≤ N ∧ ∀ e ∈ es, C e) := fun H0 i0 g0 Q q =>
  hx H0 i0 g0 _ fun v H1 i1 g1 ⟨n, ev, n0, n1⟩ => ⟨n, by rw [ev], by omega, by omega, fun D hD => lc_range (lo := 0) (n := n.toNat)
    (Cw p H1 D fun i acc H => ∃ es : List α, (∀ e ∈ es, C e) ∧ AllL Y (p.and D (.lst [])) H acc es) (cw0 i1 hD ⟨[], (fun e h => nomatch h), .nil⟩)
    (fun i H' hi w => ⟨hw _, cw_turnL (A := fun q => syO q Y C) (fun o m acc H2 H3 gg ⟨es, hc, ha⟩ => ⟨es, hc, ha.1, fun m v e e1 e2 => Y.of (Y.gr (Y.of (ha.2 m v e e1 e2) fun b (nb : Nv (p.and D (.lst [])) b) => (nb.back.and nb.ne : Nv (p.and D o) b)) gg) fun b (nb : Nv (p.and D o) b) => nb.back.and nb.ne⟩) w (by omega) (fun l => he i D l H1 (by omega) (g0.trans g1) hD)
      fun acc y H2 lo g2 i2 hl ⟨es, hc, ha⟩ ⟨e, ce, hy⟩ => ⟨es ++ [e], (fun x hx => (List.mem_append.mp hx).elim (hc x) fun m => by rw [List.mem_singleton.mp m]; exact ce), ha.app (.cons (Y.of hy fun b (nb : Nv (p.and D (.lst lo)) b) => nb.back.and nb.ne) .nil)⟩⟩)
    fun H' w => q _ H' w.1 (g1.trans w.2.2.2.1) (by
      obtain ⟨_, _, nD, _, acc, ha, hl, es, hc, hA⟩ := w
      have h1 := hA.1
      exact ⟨es, ⟨by omega, by omega, hc⟩, D, acc, rfl, nD, ha, hA.1, fun i v e e1 e2 => Y.of (hA.2 i v e e1 e2) fun b nb => nb.back⟩)⟩
theorem sm_ex {q : Vo} {o : Obj} (h : (sysModules, smO o) ∈ q.ex) : Sm q := fun a n e => n.2 _ h e.symm
theorem seq_and {sc D : Addr} {o : HO} {xs : List V} (hD : H D = none) (h : ∀ H', Gr p H H' → SqL K H' sc xs) : ∀ H', Gr (p.and D o) H H' → SqL K H' sc xs := fun H' g => by
  have g2 : Gr p H (fun c => if c = D then none else H' c) := fun c u n hc => by
    have hne : c ≠ D := fun z => by rw [z, hD] at hc; cases hc
    show (if c = D then none else H' c) = some u
    rw [if_neg hne]
    exact g c u (n.and fun z => hne z.symm) hc
  have back : ∀ {u : HO}, (fun c => if c = D then none else H' c) sc = some u → H' sc = some u := fun {u} e => by
    have e : (if sc = D then none else H' sc) = some u := e
    by_cases z : sc = D
    · rw [if_pos z] at e
      cases e
    · rwa [if_neg z] at e
  rcases h _ g2 with (e | ⟨o, e⟩) | e
  · exact .inl (.inl (back e))
  · exact .inl (.inr ⟨o, back e⟩)
  · exact .inr e
theorem ok_law {f : Addr} {fd : FuncData} (E : En K mg) (F : Fun K "law" "law" s_law f fd) (c__law_long_right : Ca P w K mg base 9 "_law_long_right" spLong) (c__law_pot : Ca P w K mg base 1 "_law_pot" (spPot K)) (c__law_right : CaG P w K mg base 10 "_law_right" spRight) : FnG P w K mg base 11 f fd ["_law_script"] (spLaw K) := by
  refine fnG_mk F sc_law (fun vs H Q E h => by obtain ⟨a, ns, os, rfl, _⟩ := h; rfl) (fun cdv A outer s H vs Q E' hg hr h => ?_)
  obtain ⟨sc, ns, os, rfl, i0, hS, hn, q⟩ := h
  refine ⟨_, (pss_cons (ps_if (pt_not (pt_val (pe_ca c__law_long_right (hr.mono (by first | decide | omega)) (by rfl) (pa_cons (pe_ca c__law_pot (hr.mono (by first | decide | omega)) (by rfl) (pa_cons (pv 0) (pa_cons pe_int pa_nil))) pa_nil)))) (pss_one (ps_ret pe_bl)) pss_nil)
      (pss_one (ps_ret (pe_callB (allU (K := K) rfl rfl) (by rfl) (E.fr (x := "all") (by decide +kernel)) (by decide +kernel) (pa_cons (pe_lc (own := [("_law_k", 1)]) (g := (gName 1)) (tt := tYes) rfl sc_law.nd (pi_range1 (by rfl) (E.fr (x := "range") (by decide +kernel)) (pa_cons (pe_callB (call_max2 rfl) (by rfl) (E.fr (x := "max") (by decide +kernel)) (by decide +kernel) (pa_cons pe_int (pa_cons (pe_callB (call_min2 rfl) (by rfl) (E.fr (x := "min") (by decide +kernel)) (by decide +kernel) (pa_cons pe_int (pa_cons (pe_callB (lenU (K := K) rfl) (by rfl) (E.fr (x := "len") (by decide +kernel)) (by decide +kernel) (pa_cons (pv 0) pa_nil)) pa_nil))) pa_nil))) pa_nil)) (blkOk_by (own := [("_law_k", 1)]) (N := ["_law_script", "_law_k"]) (sc := defScope s_law) (by decide +kernel)) (fun _ _ _ _ _ => (pg_name (i := 1) sc_law.nd rfl (Or.inl rfl))) (fun _ _ _ _ _ => pts_nil) (fun _ _ _ _ _ => (pe_cg c__law_right (by exact hg) (hr.mono (by first | decide | omega)) (by rfl) (pa_cons (pe_ca c__law_pot (hr.mono (by first | decide | omega)) (by rfl) (pa_cons (pv 0) (pa_cons (pv 1) pa_nil))) pa_nil)))) pa_nil))))), ?_⟩
  refine q_ifr (p := pS os) (v := .bl false) (b := false) i0 (k_to (k_not (k_b (e_pot (sp := spLong) (A := fun q => sx (.bl true)) (sc := sc) (ns := ns) (k := 0) hS (e_vx rfl) e_cx (by decide) (by decide) rfl fun b H2 Q' ib nb k => ⟨_, b, rfl, ib, rfl, fun v H' i' g' e => by rw [show v = _ from e]; exact k H' i' g'⟩))) rfl) (fun h => nomatch h) (fun h => nomatch h) fun _ H1 i1 g1 => ?_
  have seq : ∀ {H2}, Gr (pS os) H1 H2 → SqL K H2 sc (ns.map V.int) := fun g => hS _ (g1.trans g)
  refine s_retx (p := pS os) i1 (x_allE (lcR_exN (N0 := 1) (N := 8) (Y := Px) (C := fun v => v = .bl true) (x_max (c := fun i => i = 1) (d := fun j => 0 ≤ j ∧ j ≤ 8) (e_ci rfl) (x_min (c := fun i => i = 8) (d := fun j => j = ((ns.map V.int).length : Int)) (e_ci rfl) (e_sxi (x_lenQ (xs := ns.map V.int) (e_vx rfl) fun v H3 g e => ⟨sc, e, .inl (seq g)⟩) rfl) fun i j hi hj => by
    show 0 ≤ (if j < i then j else i) ∧ (if j < i then j else i) ≤ 8
    split <;> omega) fun i j hi hj => by
    show ((1 : Nat) : Int) ≤ (if j > i then j else i) ∧ (if j > i then j else i) ≤ ((8 : Nat) : Int)
    split <;> omega) (by decide) (fun _ => rfl) fun i D l H2 hi g2 hD => ?_) fun es h => h.2.2) fun H2 _ g2 => q H2
  refine Ev.imp (A := sx (.bl true)) (e_pot (p := (pS os).and D (.lst l)) (sp := spRight) (A := fun q => sx (.bl true)) (sc := sc) (ns := ns) (k := 0 + (i : Nat)) (seq_and hD fun H' g => hS H' ((g1.trans g2).trans g)) (e_vx rfl) (e_vx rfl) (by omega) (by omega) rfl fun b H3 Q' ib nb k => ⟨_, b, rfl, ib, ⟨rfl, sm_ex (o := os) (List.mem_cons_of_mem _ List.mem_cons_self)⟩, fun v H' i' g' e => by rw [show v = _ from e]; exact k H' i' g'⟩) fun v H e => ⟨v, e, rfl⟩
end
end K21
namespace K21
open PySem PySem.Spec PyProof.Rows L2 Hk
/-! ### what the top leaves -/
def dd_is_integer : He.DefD := ⟨("is_integer", none), "is_integer", "is_integer", defArgs s_is_integer, defBody s_is_integer, defScope s_is_integer, [], []⟩
def dd_consists_of : He.DefD := ⟨("consists_of", none), "consists_of", "consists_of", defArgs s_consists_of, defBody s_consists_of, defScope s_consists_of, [], []⟩
def dd_is_name : He.DefD := ⟨("is_name", none), "is_name", "is_name", defArgs s_is_name, defBody s_is_name, defScope s_is_name, [], []⟩
def dd_is_decimal : He.DefD := ⟨("is_decimal", none), "is_decimal", "is_decimal", defArgs s_is_decimal, defBody s_is_decimal, defScope s_is_decimal, [], []⟩
def dd_is_label : He.DefD := ⟨("is_label", none), "is_label", "is_label", defArgs s_is_label, defBody s_is_label, defScope s_is_label, [], []⟩
def dd_is_epoch : He.DefD := ⟨("is_epoch", none), "is_epoch", "is_epoch", defArgs s_is_epoch, defBody s_is_epoch, defScope s_is_epoch, [], []⟩
def dd_is_part : He.DefD := ⟨("is_part", none), "is_part", "is_part", defArgs s_is_part, defBody s_is_part, defScope s_is_part, [], []⟩
def dd_is_index : He.DefD := ⟨("is_index", none), "is_index", "is_index", defArgs s_is_index, defBody s_is_index, defScope s_is_index, [], []⟩
def dd_index_text : He.DefD := ⟨("index_text", none), "index_text", "index_text", defArgs s_index_text, defBody s_index_text, defScope s_index_text, [], []⟩
def dd_parse_index : He.DefD := ⟨("parse_index", none), "parse_index", "parse_index", defArgs s_parse_index, defBody s_parse_index, defScope s_parse_index, [], []⟩
def dd_is_part_text : He.DefD := ⟨("is_part_text", none), "is_part_text", "is_part_text", defArgs s_is_part_text, defBody s_is_part_text, defScope s_is_part_text, [], []⟩
def dd_parsed_part : He.DefD := ⟨("parsed_part", none), "parsed_part", "parsed_part", defArgs s_parsed_part, defBody s_parsed_part, defScope s_parsed_part, [], []⟩
def dd__law_pot : He.DefD := ⟨("_law_pot", none), "_law_pot", "_law_pot", defArgs s__law_pot, defBody s__law_pot, defScope s__law_pot, [], []⟩
def dd__law_draw : He.DefD := ⟨("_law_draw", none), "_law_draw", "_law_draw", defArgs s__law_draw, defBody s__law_draw, defScope s__law_draw, [], []⟩
def dd__law_reserved : He.DefD := ⟨("_law_reserved", none), "_law_reserved", "_law_reserved", defArgs s__law_reserved, defBody s__law_reserved, defScope s__law_reserved, [], []⟩
def dd__law_is_label : He.DefD := ⟨("_law_is_label", none), "_law_is_label", "_law_is_label", defArgs s__law_is_label, defBody s__law_is_label, defScope s__law_is_label, [], []⟩
def dd__law_is_whole : He.DefD := ⟨("_law_is_whole", none), "_law_is_whole", "_law_is_whole", defArgs s__law_is_whole, defBody s__law_is_whole, defScope s__law_is_whole, [], []⟩
def dd__law_is_right : He.DefD := ⟨("_law_is_right", none), "_law_is_right", "_law_is_right", defArgs s__law_is_right, defBody s__law_is_right, defScope s__law_is_right, [], []⟩
def dd__law_text : He.DefD := ⟨("_law_text", none), "_law_text", "_law_text", defArgs s__law_text, defBody s__law_text, defScope s__law_text, [], []⟩
def dd__law_read : He.DefD := ⟨("_law_read", none), "_law_read", "_law_read", defArgs s__law_read, defBody s__law_read, defScope s__law_read, [], []⟩
def dd__law_label : He.DefD := ⟨("_law_label", none), "_law_label", "_law_label", defArgs s__law_label, defBody s__law_label, defScope s__law_label, [], []⟩
def dd__law_index : He.DefD := ⟨("_law_index", none), "_law_index", "_law_index", defArgs s__law_index, defBody s__law_index, defScope s__law_index, [], []⟩
def dd__law_deep : He.DefD := ⟨("_law_deep", none), "_law_deep", "_law_deep", defArgs s__law_deep, defBody s__law_deep, defScope s__law_deep, [], []⟩
def dd__law_odd : He.DefD := ⟨("_law_odd", none), "_law_odd", "_law_odd", defArgs s__law_odd, defBody s__law_odd, defScope s__law_odd, [], []⟩
def dd__law_bent : He.DefD := ⟨("_law_bent", none), "_law_bent", "_law_bent", defArgs s__law_bent, defBody s__law_bent, defScope s__law_bent, [], []⟩
def dd__law_bent_text : He.DefD := ⟨("_law_bent_text", none), "_law_bent_text", "_law_bent_text", defArgs s__law_bent_text, defBody s__law_bent_text, defScope s__law_bent_text, [], []⟩
def dd__law_told : He.DefD := ⟨("_law_told", none), "_law_told", "_law_told", defArgs s__law_told, defBody s__law_told, defScope s__law_told, [], []⟩
def dd__law_judged_right : He.DefD := ⟨("_law_judged_right", none), "_law_judged_right", "_law_judged_right", defArgs s__law_judged_right, defBody s__law_judged_right, defScope s__law_judged_right, [], []⟩
def dd__law_read_right : He.DefD := ⟨("_law_read_right", none), "_law_read_right", "_law_read_right", defArgs s__law_read_right, defBody s__law_read_right, defScope s__law_read_right, [], []⟩
def dd__law_long_right : He.DefD := ⟨("_law_long_right", none), "_law_long_right", "_law_long_right", defArgs s__law_long_right, defBody s__law_long_right, defScope s__law_long_right, [], []⟩
def dd__law_right : He.DefD := ⟨("_law_right", none), "_law_right", "_law_right", defArgs s__law_right, defBody s__law_right, defScope s__law_right, [], []⟩
def dd_law : He.DefD := ⟨("law", none), "law", "law", defArgs s_law, defBody s_law, defScope s_law, [], []⟩
def fn : List He.DefD := [dd_is_integer, dd_consists_of, dd_is_name, dd_is_decimal, dd_is_label, dd_is_epoch, dd_is_part, dd_is_index, dd_index_text, dd_parse_index, dd_is_part_text, dd_parsed_part, dd__law_pot, dd__law_draw, dd__law_reserved, dd__law_is_label, dd__law_is_whole, dd__law_is_right, dd__law_text, dd__law_read, dd__law_label, dd__law_index, dd__law_deep, dd__law_odd, dd__law_bent, dd__law_bent_text, dd__law_told, dd__law_judged_right, dd__law_read_right, dd__law_long_right, dd__law_right, dd_law]
def fa1 : List He.Fa := [.glo "is_integer", .glo "consists_of", .glo "is_name", .glo "is_decimal", .glo "is_label", .glo "is_epoch", .glo "is_part", .glo "is_index", .glo "index_text", .glo "parse_index", .glo "is_part_text", .glo "parsed_part", .glo "_law_pot", .glo "_law_draw", .glo "_law_reserved", .glo "_law_is_label", .glo "_law_is_whole", .glo "_law_is_right", .glo "_law_text", .glo "_law_read", .glo "_law_label", .glo "_law_index", .glo "_law_deep", .glo "_law_odd", .glo "_law_bent", .glo "_law_bent_text", .glo "_law_told", .glo "_law_judged_right", .glo "_law_read_right", .glo "_law_long_right", .glo "_law_right", .glo "law"]
def fa2 : List He.Fa := frees.map He.Fa.free
def fa3 : List He.Fa := [.str "DIGITS" sDig, .int "LONGEST_WORD" 8, .int "LABEL_DIGITS" 2, .int "GREATEST_EPOCH" (10 ^ 9), .int "GREATEST_NUMBER" 9, .int "EPOCH_DIGITS" 10, .glo "RESERVED", .glo "HeldoverError", .glo "InvalidIndex", .glo "InvalidEpoch", .glo "InvalidStory", .glo "MissingError", .glo "StateError", .glo "LimitError"]
def loose1 : List PySem.Str := ["HeldoverError", "InvalidIndex", "InvalidEpoch", "InvalidStory", "MissingError", "StateError", "LimitError", "RESERVED", "DIGITS", "LONGEST_WORD", "LABEL_DIGITS", "is_integer", "consists_of", "is_name", "is_decimal", "is_label", "GREATEST_EPOCH", "GREATEST_NUMBER", "EPOCH_DIGITS", "is_epoch", "is_part", "is_index"]
def loose2 : List PySem.Str := ["index_text", "parse_index", "is_part_text", "parsed_part", "_law_pot", "_law_draw", "_law_reserved", "_law_is_label", "_law_is_whole", "_law_is_right", "_law_text", "_law_read", "_law_label", "_law_index", "_law_deep", "_law_odd", "_law_bent", "_law_bent_text", "_law_told", "_law_judged_right", "_law_read_right", "_law_long_right", "_law_right"]
def inner : Stmt → Stmt
  | .ClassDef _ _ _ (b :: _) _ _ _ _ _ _ _ => b
  | s => s
def initSt : Stmt := inner (top 2)
def lawFile : Str := PySem.Challenge.pw_heldover_k21_indexes_judged_and_written.main.file
/-- the error's __init__, as it stands -/
abbrev IW : Type := Option (Str × Str × Arguments × FuncBody × Scope × Addr × List Str × Addr × Bool)
def cE (K : PySem.W.Frag) : Addr := He.ga K "InvalidIndex"
def iE (K : PySem.W.Frag) : Addr := He.ma K (cE K) "__init__"
def fileOf : Option Value → Bool
  | some (Value.str f _) => decide (f = lawFile)
  | _ => false
def codeFile (K : PySem.W.Frag) : Value → Bool
  | .ref cda => (match K.lookup cda with
    | some ⟨_, _, .fields vs, _⟩ => fileOf vs[2]?
    | _ => false)
  | _ => false
def cellOf (K : PySem.W.Frag) : List (Str × Addr) → Bool
  | [(_, cc)] => (match K.lookup cc with
    | some ⟨_, _, .cell (some (.ref c)), _⟩ => decide (c = cE K)
    | _ => false)
  | _ => false
def restB (K : PySem.W.Frag) (fd : FuncData) : Bool := decide (fd.defaults = .none) && (decide (fd.kwdefaults = .none) && (PySem.W.codeIn K fd.code fd.qualname && (codeFile K fd.code && cellOf K fd.closure)))
def iw (K : PySem.W.Frag) : IW := match K.lookup (iE K) with
  | some ⟨_, _, .func fd, _⟩ => some (fd.name, fd.qualname, fd.params, fd.body, fd.scope, fd.globals, fd.closure.map (·.1), fd.builtins, restB K fd)
  | _ => none
def iwV : IW := some ("__init__", "InvalidIndex.__init__", defArgs initSt, .stmts (defBody initSt), defScope initSt, mainGlobals, ["__class__"], builtinsNs, true)
def clB (K : PySem.W.Frag) (C : Addr) : Bool := match K.lookup C with
  | some ⟨cl, _, .cls cd, sl⟩ => decide (cl = .type "type") && (!cd.hasDel && (cd.hasDict && ((match cd.mro with
      | m :: bm => decide (m = .ref C) && PySem.HandSPX.refsVE bm
      | [] => false) && (match sl.toList with
      | [_, _, _, _, some (.builtin n), _] => decide (n = "ValueError.__new__")
      | _ => false))))
  | _ => false
def e1B (K : PySem.W.Frag) (C : Addr) : Bool :=
  decide (PySem.W.findIn K (.ref C) "__setattr__" = some (some (.builtin "object.__setattr__"))) && (decide (PySem.W.findIn K (.ref C) "value" = some none) && (decide (PySem.W.findIn K (.ref C) "__init__" = some (some (.ref (iE K)))) && (decide (PySem.W.typeIn K (.ref (iE K)) = some (.type "function")) && (PySem.W.keepIn K (.ref C) && (decide (PySem.W.subIn K (.ref C) (.type "BaseException") = some true) &&
  (decide (PySem.W.subIn K (.ref C) (.type "ValueError") = some true) && (decide (PySem.W.mroIn K C (.ref C) = some true) && (decide (PySem.W.ks_superIn K C C "__init__" = some (some (.builtin "ValueError.__init__"))) && (decide (PySem.W.typeIn K (.ref C) = some (.type "type")) && (PySem.W.hasDictIn K C && decide (PySem.W.nsIn K cStatics "thirdparty.any" = some none)))))))))))
def e2B (K : PySem.W.Frag) (C : Addr) : Bool :=
  decide (PySem.W.findIn K (.ref C) "__getattribute__" = some (some (.builtin "BaseException.__getattribute__"))) && (decide (PySem.W.findIn K (.ref C) "__getattr__" = some none) && (decide (PySem.W.findIn K (.ref C) "__class__" = some (some (.builtin "object.__class__"))) && (decide (PySem.W.specialIn K (.builtin "object.__class__") "__get__" = some (some (.builtin "getset_descriptor.__get__"))) && (decide (PySem.W.takesIn K (.builtin "object.__class__") = some true) && decide (PySem.W.mroIn K C (.type "object") = some true)))))
def e3B (K : PySem.W.Frag) (C : Addr) : Bool :=
  decide (PySem.W.exmOne K (.ref C) (.ref C) = some true) && (decide (PySem.W.kitOne K (.ref C) (.ref (He.ga K "HeldoverError")) = some true) && (decide (PySem.W.kitOne K (.ref C) (.type "ValueError") = some true) && decide (PySem.W.kitAny K (.ref C) [.ref (He.ga K "InvalidEpoch"), .ref (He.ga K "InvalidStory"), .ref (He.ga K "LimitError"), .ref (He.ga K "MissingError"), .ref (He.ga K "StateError")] = some false)))
def exB (K : PySem.W.Frag) : Bool := He.tupB K "RESERVED" (wsR.map He.Dv.str) && (clB K (cE K) && (e1B K (cE K) && (e2B K (cE K) && (e3B K (cE K) && (K.lookup sysModules).isNone))))
/-- a dict, by its data -/
def dicB : Option Obj → Bool
  | some ⟨_, _, .dict _ _, _⟩ => true
  | _ => false
theorem dicB_ok {x : Option Obj} (h : dicB x = true) : ∃ o es ep, x = some o ∧ o.data = .dict es ep := by
  unfold dicB at h
  split at h
  · exact ⟨_, _, _, rfl, rfl⟩
  · cases h
def fas : List He.Fa := fa1 ++ fa2 ++ fa3
def asX (g : Addr → Option Obj) : List Addr := cStatics :: He.asD g 4
def hk21 : PySem.W.Hook where
  α := He.AlD × IW × Bool × Bool
  obs := fun sh => (He.obsD fas fn (He.frG sh.heap.get? (asX sh.heap.get?)), iw (He.frG sh.heap.get? (asX sh.heap.get?)), exB (He.frG sh.heap.get? (asX sh.heap.get?)), dicB (sh.heap.get? sysModules))
  val := fun _ => (He.valD fn, iwV, true, true)
  says := fun _ hp => ∃ F : PySem.W.Frag, F.In hp ∧ He.SaysD fas fn F ∧ iw F = iwV ∧ exB F = true ∧ ∃ o es ep, hp.get? sysModules = some o ∧ o.data = .dict es ep
  of := fun _ _ z => ⟨_, He.frG_in, congrArg (fun y : He.AlD × IW × Bool × Bool => y.1) z, congrArg (fun y : He.AlD × IW × Bool × Bool => y.2.1) z, congrArg (fun y : He.AlD × IW × Bool × Bool => y.2.2.1) z, dicB_ok (congrArg (fun y : He.AlD × IW × Bool × Bool => y.2.2.2) z)⟩
  keeps := fun _ _ _ x kp => Exists.elim x fun F y => ⟨F, PySem.W.Frag.In.keeps y.1 kp, y.2.1, y.2.2.1, y.2.2.2.1, Exists.elim y.2.2.2.2 fun o e => Exists.elim e fun es e => Exists.elim e fun ep e => ⟨o, es, ep, kp _ _ e.1, e.2⟩⟩
abbrev R21 : PySem.W.OpenRow := PySem.W.OpenLaw.row PySem.Challenge.rw_heldover_k21_indexes_judged_and_written
def ob21 (sh : PySem.W.SharedT) : He.AlD × IW × Bool × Bool := (He.obsD fas fn (He.frG (HandSHeadRun.getT sh) (asX (HandSHeadRun.getT sh))), iw (He.frG (HandSHeadRun.getT sh) (asX (HandSHeadRun.getT sh))), exB (He.frG (HandSHeadRun.getT sh) (asX (HandSHeadRun.getT sh))), dicB (HandSHeadRun.getT sh sysModules))
theorem ob21_eq (sh : PySem.W.SharedT) : ob21 sh = hk21.obs sh.abs := by
  have z : HandSHeadRun.getT sh = sh.abs.heap.get? := funext fun b => HandSHeadRun.getT_eq sh b
  unfold ob21
  rw [z]
  rfl
theorem run21 (w : World) : HandSHeadRun.RunEq R21 (PySem.W.view R21.prog [49]) hk21 ob21 3000 (loose1 ++ loose2) w := by
  intro os
  kernel_rfl
end K21
namespace Hk
open PySem PySem.Spec PyProof.Rows L2
/-- a def without defaults, as the head tells it -/
theorem fun_of {K : PySem.W.Frag} {x : Str} {st : Stmt} {f : Addr} {fd : FuncData} (F : FunD K x x (defArgs st) (defBody st) (defScope st) [] [] f fd) : Fun K x x st f fd := by
  obtain ⟨oc, od, dV, kV, doc, pm, an, cdv, ct, osl, rfl, lk, hcd, hD, _⟩ := F.ex
  rcases hD with ⟨_, rfl⟩ | ⟨e, _⟩
  · exact ⟨⟨oc, od, kV, doc, pm, an, cdv, ct, osl, rfl, lk, hcd⟩, F.kp⟩
  · exact absurd rfl e
/-- the promise of the law's def, where nothing is being shown, at the heap behind the top: the script and the table of modules are tracked, and stay -/
theorem callG_endS {P : Program} {w : World} {K : PySem.W.Frag} {mg mb : Str → Option Value} {k : Nat} {fa a : Addr} {fd : FuncData} {x : Str} {sp : Sp} {s : Shared} {us : List Value} {ns : List Int} {os : Obj} {es0 : Array DictEntry} {ep0 : Nat}
    (inK : K.In s.heap) (nG : s.heap.Ns mainGlobals mg) (nB : s.heap.Ns builtinsNs mb) (bB : ∀ y : Str, y ≠ "__name__" → mb y = bootBuiltins y) (nL : s.heap.NoLimit) (gn : s.gens = #[])
    (lkS : K.lookup sysModules = none) (oS : s.heap.get? sysModules = some os) (dS : os.data = .dict es0 ep0)
    (oa : s.heap.get? a = some { cls := .type "list", data := .seq us.toArray }) (ia : IntsAre us ns) (la : ns.length ≤ sizeLine) (room : Room k callerA)
    (F : ∀ base : Heap, K.In base → base.Ns mainGlobals mg → FnG P w K mg base k fa fd [x] sp) (bd : ∀ (s : Shared) (u : Value), BindsTo s fd ⟨[u], []⟩ [(x, u)])
    (due : ∀ H : Hp, H sysModules = some (K21.smO os) → (∀ H', Gr (K21.pS os) H H' → SqL K H' a (ns.map V.int)) → sp [.ref a] H (fun v _ => v = .bl true) fun _ _ _ => False) :
    codeAny (model P w) callerA (.call (.ref fa) ⟨[.ref a], []⟩) (fun r s' => r = .ok (.ret (.bool true)) ∧ OldK s.heap s'.heap ∧ s'.os = s.os ∧ AllBare s'.gens) s := by
  have rel := vals_ints ia
  have nS : sysModules ≠ a := fun z => by
    rw [z, oa] at oS
    cases oS
    cases dS
  have go : ∀ H : Hp, (∀ b u, H b = some u → (b = a ∧ u = .frz { cls := .type "list", data := .seq us.toArray } (.lst (ns.map V.int))) ∨ (b = sysModules ∧ u = K21.smO os)) → (H a = none ∨ K.lookup a = none) → H sysModules = some (K21.smO os) → (∀ H', Gr (K21.pS os) H H' → SqL K H' a (ns.map V.int)) →
      codeAny (model P w) callerA (.call (.ref fa) ⟨[.ref a], []⟩) (fun r s' => r = .ok (.ret (.bool true)) ∧ OldK s.heap s'.heap ∧ s'.os = s.os ∧ AllBare s'.gens) s := by
    intro H only lone hS sq
    have off : ∀ {b : Addr}, b ≠ a → b ≠ sysModules → H b = none := fun {b} n n2 => by
      cases q : H b with
      | none => rfl
      | some u =>
        rcases only b u q with h | h
        · exact absurd h.1 n
        · exact absurd h.1 n2
    have dic : ∀ {b : Addr} {m : Str → Option Value}, b ≠ sysModules → s.heap.Ns b m → (hidT s.heap H).Ns b m := fun {b m} n2 ⟨o, es, ep, e, d, r⟩ => ⟨o, es, ep, hidT_get e (off (fun z => by
      rw [z, oa] at e
      cases e
      cases (show Data.seq us.toArray _ = Data.dict es ep from d)) n2), d, r⟩
    have inB : K.In (hidT s.heap H) := fun b o e => hidT_get (inK b o e) (by
      by_cases z : b = a
      · rcases lone with h | h
        · rw [z]
          exact h
        · rw [z, h] at e
          cases e
      · exact off z fun z2 => by
          rw [z2, lkS] at e
          cases e)
    have lim : (hidT s.heap H).NoLimit := by
      obtain ⟨mc, l1, l2⟩ := nL
      exact ⟨mc, dic (by decide) l1, l2⟩
    have hok : HOk P w H s.heap := fun b u z => by
      rcases only b u z with ⟨rfl, rfl⟩ | ⟨rfl, rfl⟩
      · exact ⟨oa, by rw [List.length_map]; exact la, us, _, rel, oa⟩
      · exact ⟨oS, trivial, ⟨_, oS⟩, fun _ _ _ _ => trivial⟩
    have e0 : Env0 P w K mg (hidT s.heap H) callerA [] s H := ⟨rfl, ⟨inB, dic (by decide) nG, ⟨mb, dic (by decide) nB, bB⟩, lim⟩, fun b o e => of_hidT e, Nat.le_of_eq (hidT_size _ _), trivial, fun b hb => (nomatch hb), hok, .of_eq gn⟩
    refine codeAny_mono ((F _ inB (dic (by decide) nG)).run callerA [] s H ⟨[.ref a], []⟩ [.ref a] [.ref a] (fun v _ => v = .bl true) (fun _ _ _ => False) rfl room e0 (bd s (.ref a)) (.cons rfl .nil) (due H hS sq)) fun r s' h => ?_
    match r, h with
    | .error e, h => exact h.elim
    | .ok .next, h => exact h.elim
    | .ok .brk, h => exact h.elim
    | .ok .cont, h => exact h.elim
    | .ok (.ret u), ⟨v, H', os', bare, un, hok', ru, ev⟩ =>
      cases (show v = V.bl true from ev)
      cases (show u = Value.bool true from ru)
      refine ⟨rfl, OldK.of_keep fun b o e => ?_, os', bare⟩
      cases q : H b with
      | none => exact un.keep b o e q (fun z => (nomatch z)) (fun z => (nomatch z))
      | some t =>
        rcases only b t q with ⟨rfl, rfl⟩ | ⟨rfl, rfl⟩
        · rw [oa] at e
          cases e
          exact (hok' _ _ (un.frzs _ _ _ q)).1
        · rw [oS] at e
          cases e
          exact (hok' _ _ (un.frzs _ _ _ q)).1
  cases hk : K.lookup a with
  | some o =>
    have e := inK a o hk
    rw [oa] at e
    cases e
    exact go (fun b => if b = sysModules then some (K21.smO os) else none) (fun b u z => by
      by_cases e : b = sysModules
      · exact .inr ⟨e, (Option.some.inj ((if_pos e).symm.trans z)).symm⟩
      · cases (if_neg e).symm.trans z) (.inl (if_neg fun z => nS z.symm)) (if_pos rfl) (fun H' _ => .inr ⟨_, us.toArray, _, hk, rfl, rfl, rfl, by rw [List.size_toArray, ia.length]; exact la, rel⟩)
  | none =>
    refine go (fun b => if b = sysModules then some (K21.smO os) else if b = a then some (.frz { cls := .type "list", data := .seq us.toArray } (.lst (ns.map V.int))) else none) (fun b u z => ?_) (.inr hk) (if_pos rfl) (fun H' g => .inl (.inr ⟨_, g a _ ((nv_non a).and nS) ((if_neg fun z => nS z.symm).trans (if_pos rfl))⟩))
    by_cases e : b = sysModules
    · exact .inr ⟨e, (Option.some.inj ((if_pos e).symm.trans z)).symm⟩
    · have z := (if_neg e).symm.trans z
      by_cases e2 : b = a
      · exact .inl ⟨e2, (Option.some.inj ((if_pos e2).symm.trans z)).symm⟩
      · cases (if_neg e2).symm.trans z
end Hk
namespace K21
open PySem PySem.Spec PyProof.Rows L2 Hk
/-! ### the error's __init__, as it stands -/
def pz : Pos := ⟨0, 0, 0, 0⟩
def iPar : List Pos := (defArgs initSt).args.map (·.pos)
def iPts : Str × Nat × List Pos := match defBody initSt with
  | [.Expr (.Call (.Attribute (.Call (.Name _ q0) [] [] q1) _ q2) [.Constant (.str z) k q3] [] q4) q5, .Assign [.Attribute (.Name _ q6) _ q7] (.Name _ q8) q9] => (z, k, [q0, q1, q2, q3, q4, q5, q6, q7, q8, q9])
  | _ => (Str.empty, 0, [])
def iq (i : Nat) : Pos := iPts.2.2.getD i pz
def ip (i : Nat) : Pos := iPar.getD i pz
theorem init_args : defArgs initSt = PySem.HkE.iA (ip 0) (ip 1) := by kernel_rfl
theorem init_body : defBody initSt = PySem.HkE.iB iPts.1 iPts.2.1 (iq 0) (iq 1) (iq 2) (iq 3) (iq 4) (iq 5) (iq 6) (iq 7) (iq 8) (iq 9) := by kernel_rfl
theorem init_scope : defScope initSt = PySem.HkE.iS := by kernel_rfl
theorem init_line : ((iq 2).endLine == (iq 4).line) = true := by kernel_rfl
section
variable {K : PySem.W.Frag} {h : Heap} {mg : Str → Option Value}
theorem ba {a b : Bool} (h : (a && b) = true) : a = true ∧ b = true := Bool.and_eq_true_iff.mp h
theorem clB_ok {C : Addr} (h : clB K C = true) : ∃ nm q N bs bm sn sub ab col dd k0 k1 k2 k3 k5, K.lookup C = some (excClassObj nm q C N bs bm true sn sub ab col dd k0 k1 k2 k3 k5 "ValueError.__new__") ∧ PySem.HandSPX.refsVE bm = true := by
  unfold clB at h
  split at h
  · rename_i cl dd cd sl e
    obtain ⟨h1, h⟩ := ba h
    obtain ⟨h2, h⟩ := ba h
    obtain ⟨h3, h⟩ := ba h
    obtain ⟨h4, h5⟩ := ba h
    obtain ⟨nm, bs, mro, N, q, hdct, sn, sub, ab, col, hdel⟩ := cd
    obtain ⟨l⟩ := sl
    cases of_decide_eq_true h1
    have h2 : hdel = false := by cases hdel <;> first | rfl | cases h2
    have h3 : hdct = true := h3
    subst h2 h3
    split at h4
    · rename_i m bm em
      obtain ⟨h6, h7⟩ := ba h4
      cases of_decide_eq_true h6
      have em : mro = .ref C :: bm := em
      subst em
      split at h5
      · rename_i k0 k1 k2 k3 n k5 el
        cases of_decide_eq_true h5
        have el : l = [k0, k1, k2, k3, some (.builtin "ValueError.__new__"), k5] := el
        subst el
        exact ⟨nm, q, N, bs, bm, sn, sub, ab, col, dd, k0, k1, k2, k3, k5, e, h7⟩
      · cases h5
    · cases h4
  · cases h
theorem fileOf_ok {o : Option Value} (h : fileOf o = true) : ∃ t, o = some (.str lawFile t) := by
  unfold fileOf at h
  split at h
  · rename_i f t
    cases of_decide_eq_true h
    exact ⟨t, rfl⟩
  · cases h
theorem codeFile_ok {v : Value} (h : codeFile K v = true) : ∃ cda ccl cdd vs ccs tf, v = .ref cda ∧ K.lookup cda = some ⟨ccl, cdd, .fields vs, ccs⟩ ∧ vs[2]? = some (.str lawFile tf) := by
  unfold codeFile at h
  split at h
  · rename_i cda
    split at h
    · rename_i a b vs c e
      obtain ⟨t, ht⟩ := fileOf_ok h
      exact ⟨cda, a, b, vs, c, t, rfl, e, ht⟩
    · cases h
  · cases h
theorem cellOf_ok {l : List (Str × Addr)} (h : cellOf K l = true) (e : l.map (·.1) = [("__class__" : Str)]) : ∃ cc cl cld csl, l = [(("__class__" : Str), cc)] ∧ K.lookup cc = some ⟨cl, cld, .cell (some (.ref (cE K))), csl⟩ := by
  unfold cellOf at h
  split at h
  · rename_i x cc
    have ex : x = "__class__" := (List.cons.inj e).1
    subst ex
    split at h
    · rename_i a b c d e2
      cases of_decide_eq_true h
      exact ⟨cc, a, b, d, rfl, e2⟩
    · cases h
  · cases h
theorem iw_ok (h : iw K = iwV) : ∃ (oc : Value) (od : Option Addr) (qual : Str) (doc pm : Value) (an : Option Addr) (cda cc : Addr) (ct : Value) (osl : Array (Option Value)) (z : Str) (k : Nat) (p1 p2 q0 q1 q2 q3 q4 q5 q6 q7 q8 q9 : Pos) (ccl cl : Value) (cdd cld : Option Addr) (vs : Array Value) (ccs csl : Array (Option Value)) (tf : Tok),
    K.lookup (iE K) = some ⟨oc, od, .func (PySem.W.ksFn "__init__" qual (PySem.HkE.iA p1 p2) (PySem.HkE.iB z k q0 q1 q2 q3 q4 q5 q6 q7 q8 q9) PySem.HkE.iS .none .none doc pm an (.ref cda) ct cc), osl⟩ ∧ PySem.W.codeIn K (.ref cda) qual = true ∧
    K.lookup cda = some ⟨ccl, cdd, .fields vs, ccs⟩ ∧ vs[2]? = some (.str lawFile tf) ∧ K.lookup cc = some ⟨cl, cld, .cell (some (.ref (cE K))), csl⟩ ∧ (q2.endLine == q4.line) = true := by
  unfold iw at h
  split at h
  · rename_i oc od fd osl e
    obtain ⟨nm, qual, params, body, sc, gl, cl0, dV, kV, doc, pm, an, cdv, ct, bl⟩ := fd
    have h := Option.some.inj h
    have a1 : nm = "__init__" := congrArg (·.1) h
    have a2 : qual = "InvalidIndex.__init__" := congrArg (·.2.1) h
    have a3 : params = defArgs initSt := congrArg (·.2.2.1) h
    have a4 : body = .stmts (defBody initSt) := congrArg (·.2.2.2.1) h
    have a5 : sc = defScope initSt := congrArg (·.2.2.2.2.1) h
    have a6 : gl = mainGlobals := congrArg (·.2.2.2.2.2.1) h
    have a7 : cl0.map (·.1) = [("__class__" : Str)] := congrArg (·.2.2.2.2.2.2.1) h
    have a8 : bl = builtinsNs := congrArg (·.2.2.2.2.2.2.2.1) h
    have a9 : restB K ⟨nm, qual, params, body, sc, gl, cl0, dV, kV, doc, pm, an, cdv, ct, bl⟩ = true := congrArg (·.2.2.2.2.2.2.2.2) h
    unfold restB at a9
    obtain ⟨b1, b⟩ := ba a9
    obtain ⟨b2, b⟩ := ba b
    obtain ⟨b3, b⟩ := ba b
    obtain ⟨b4, b5⟩ := ba b
    have n1 : dV = .none := of_decide_eq_true b1
    have n2 : kV = .none := of_decide_eq_true b2
    obtain ⟨cda, ccl, cdd, vs, ccs, tf, c1, c2, c3⟩ := codeFile_ok b4
    have n3 : cdv = .ref cda := c1
    obtain ⟨cc, cl, cld, csl, d1, d2⟩ := cellOf_ok b5 a7
    have n4 : cl0 = [(("__class__" : Str), cc)] := d1
    have n5 : PySem.W.codeIn K cdv qual = true := b3
    clear h b1 b2 b3 b4 b5 c1 d1 a7 a9
    subst n1 n2 n3 n4 a1 a6 a8
    rw [init_args] at a3
    rw [init_body] at a4
    rw [init_scope] at a5
    subst a3 a4 a5
    exact ⟨oc, od, qual, doc, pm, an, cda, cc, ct, osl, _, _, _, _, _, _, _, _, _, _, _, _, _, _, ccl, cl, cdd, cld, vs, ccs, csl, tf, e, n5, c2, c3, d2, init_line⟩
  · cases h
theorem df_of (X : K.In h) (G : h.Ns mainGlobals mg) (c : He.SaysD fas fn K) (x : Str) (st : Stmt) (i : Nat) (hd : fn[i]? = some ⟨(x, none), x, x, defArgs st, defBody st, defScope st, [], []⟩ := by rfl) (hg : fas[i]? = some (.glo x) := by rfl) : Df K mg x st := by
  obtain ⟨fd, F⟩ := c.def_ i hd
  exact ⟨He.fAd K (x, none), fd, fun_of F, He.glo_ok X G (c.fact i hg)⟩
theorem fas_free : ∀ {x : Str}, x ∈ frees → He.Fa.free x ∈ fas := fun {x} hx => List.mem_append_left _ (List.mem_append_right _ (show He.Fa.free x ∈ frees.map He.Fa.free from List.mem_map.mpr ⟨x, hx, rfl⟩))
theorem en_of (X : K.In h) (G : h.Ns mainGlobals mg) (c : He.SaysD fas fn K) (ex : exB K = true) : En K mg := by
  have x1 := (ba ex).1
  have s : ∀ {x z : Str} (j : Nat), fas[j]? = some (.str x z) → ∃ u, mg x = some u ∧ RelV (.str z) u := fun j e => by
    obtain ⟨t, m⟩ := He.str_ok X G (c.fact j e)
    exact ⟨_, m, t, rfl⟩
  have n : ∀ {x : Str} {z : Int} (j : Nat), fas[j]? = some (.int x z) → ∃ u, mg x = some u ∧ RelV (.int z) u := fun j e => by
    obtain ⟨t, m⟩ := He.int_ok X G (c.fact j e)
    exact ⟨_, m, t, rfl⟩
  have g : ∀ {x : Str} (j : Nat), fas[j]? = some (.glo x) → ∃ u, mg x = some u ∧ RelV (.ref (He.ga K x)) u := fun j e => ⟨_, He.glo_ok X G (c.fact j e), rfl⟩
  refine ⟨fun {x} hx => ?_, s 48 rfl, n 49 rfl, n 50 rfl, n 51 rfl, n 52 rfl, n 53 rfl, g 54 rfl, fun H => ?_⟩
  · obtain ⟨j, e⟩ := List.getElem?_of_mem (fas_free (List.elem_iff.mp hx))
    exact He.free_ok X G (c.fact j e)
  · have t := He.tupB_ok x1 H
    rw [List.map_map] at t
    exact t
theorem ex_of {P : Program} (X : K.In h) (G : h.Ns mainGlobals mg) (c : He.SaysD fas fn K) (hi : iw K = iwV) (ex : exB K = true) (pf : P.main.file = lawFile) (pt : (P.main.scope.names.lookup ("super" : Str)).isSome = false) :
    Ex P K mg (cE K) (iE K) (He.ga K "InvalidEpoch") (He.ga K "InvalidStory") (He.ga K "LimitError") (He.ga K "MissingError") (He.ga K "StateError") (He.ga K "HeldoverError") := by
  have E := en_of X G c ex
  obtain ⟨_, ex⟩ := ba ex
  obtain ⟨x1, ex⟩ := ba ex
  obtain ⟨x2, ex⟩ := ba ex
  obtain ⟨x3, ex⟩ := ba ex
  obtain ⟨x4, _⟩ := ba ex
  unfold e1B at x2
  unfold e2B at x3
  unfold e3B at x4
  obtain ⟨a1, x2⟩ := ba x2
  obtain ⟨a2, x2⟩ := ba x2
  obtain ⟨a3, x2⟩ := ba x2
  obtain ⟨a4, x2⟩ := ba x2
  obtain ⟨a5, x2⟩ := ba x2
  obtain ⟨a6, x2⟩ := ba x2
  obtain ⟨a7, x2⟩ := ba x2
  obtain ⟨a8, x2⟩ := ba x2
  obtain ⟨a9, x2⟩ := ba x2
  obtain ⟨a10, x2⟩ := ba x2
  obtain ⟨a11, a12⟩ := ba x2
  obtain ⟨b1, x3⟩ := ba x3
  obtain ⟨b2, x3⟩ := ba x3
  obtain ⟨b3, x3⟩ := ba x3
  obtain ⟨b4, x3⟩ := ba x3
  obtain ⟨b5, b6⟩ := ba x3
  obtain ⟨c1, x4⟩ := ba x4
  obtain ⟨c2, x4⟩ := ba x4
  obtain ⟨c3, c4⟩ := ba x4
  have gl : ∀ {x : Str} (i : Nat), fas[i]? = some (.glo x) → mg x = some (.ref (He.ga K x)) := fun i e => He.glo_ok X G (c.fact i e)
  have T : PySem.HkE.ErrTxt K P.main.file (cE K) (iE K) := by
    rw [pf]
    exact ⟨clB_ok x1, of_decide_eq_true a1, of_decide_eq_true a2, of_decide_eq_true a3, of_decide_eq_true a4, a5, of_decide_eq_true a6, of_decide_eq_true a7, of_decide_eq_true a8, of_decide_eq_true a9, of_decide_eq_true a10, a11, of_decide_eq_true a12, iw_ok hi⟩
  exact ⟨⟨T, gl 56 rfl, E.fr (x := "super") (by decide +kernel), pt⟩, ⟨of_decide_eq_true b1, of_decide_eq_true b2, of_decide_eq_true a6, a11, of_decide_eq_true b3, of_decide_eq_true b4, of_decide_eq_true b5, of_decide_eq_true b6⟩, of_decide_eq_true c1, gl 57 rfl, gl 58 rfl, gl 61 rfl, gl 59 rfl, gl 60 rfl, gl 55 rfl, of_decide_eq_true c2, of_decide_eq_true c3, of_decide_eq_true c4⟩
theorem exB_sm (ex : exB K = true) : K.lookup sysModules = none := by
  obtain ⟨_, ex⟩ := ba ex
  obtain ⟨_, ex⟩ := ba ex
  obtain ⟨_, ex⟩ := ba ex
  obtain ⟨_, ex⟩ := ba ex
  obtain ⟨_, ex⟩ := ba ex
  exact Option.isNone_iff_eq_none.mp ex
theorem facts {P : Program} {w : World} {f : Addr} (X : K.In h) (G : h.Ns mainGlobals mg) (hfa : mg ("law" : Str) = some (.ref f)) (c : He.SaysD fas fn K) (hi : iw K = iwV) (ex : exB K = true) (pf : P.main.file = lawFile) (pt : (P.main.scope.names.lookup ("super" : Str)).isSome = false) :
    ∃ fd : FuncData, (∀ (s : Shared) (v : Value), BindsTo s fd ⟨[v], []⟩ [("_law_script", v)]) ∧ ∀ base : Heap, K.In base → base.Ns mainGlobals mg → FnG P w K mg base 11 f fd ["_law_script"] (spLaw K) := by
  have E := en_of X G c ex
  have Z := ex_of (P := P) X G c hi ex pf pt
  obtain ⟨fd, F⟩ := c.def_ 31 (d := dd_law) rfl
  have e := hfa.symm.trans (He.glo_ok X G (c.fact 31 (f := .glo "law") rfl))
  cases e
  have b := FunD.bindsA (ps := ["_law_script"]) F fun _ _ _ _ _ _ us hl => match us, hl with | [_], _ => rfl
  refine ⟨fd, fun s v => b s [v] rfl, fun base _ _ => ?_⟩
  have g_int : Ca P w K mg base 1 "is_integer" (spD1 intD) := ok_is_integer E (df_of X G c _ _ 0)
  have g_cons : Ca P w K mg base 1 "consists_of" spCons := ok_consists_of E (df_of X G c _ _ 1)
  have g_name := ok_is_name E (df_of X G c _ _ 2) g_cons
  have g_dec := ok_is_decimal E (df_of X G c _ _ 3) g_cons
  have g_label := ok_is_label E (df_of X G c _ _ 4) g_name g_dec
  have g_epoch := ok_is_epoch E (df_of X G c _ _ 5) g_int
  have g_part := ok_is_part E (df_of X G c _ _ 6) g_int g_label
  have g_index := k_is_index E (df_of X G c _ _ 7) g_epoch g_part
  have g_text := ok_index_text (w := w) E Z.er (df_of X G c _ _ 8) g_index.ca
  have g_pt := ok_is_part_text E (df_of X G c _ _ 10) g_label g_dec
  have g_pp : Ca P w K mg base 1 "parsed_part" spPP := ok_parsed_part E (df_of X G c _ _ 11)
  have g_parse := ok_parse_index (w := w) E Z.er (df_of X G c _ _ 9) g_index.ca g_dec g_pt g_pp
  have g_pot : Ca P w K mg base 1 "_law_pot" (spPot K) := ok_pot E (df_of X G c _ _ 12)
  have g_draw : Ca P w K mg base 1 "_law_draw" spDraw := ok_draw E (df_of X G c _ _ 13)
  have g_res : Ca P w K mg base 1 "_law_reserved" spRes := ok_reserved E (df_of X G c _ _ 14)
  have g_labelR := ok_is_labelR E (df_of X G c _ _ 15) g_res
  have g_whole : Ca P w K mg base 1 "_law_is_whole" spWh := ok_is_whole E (df_of X G c _ _ 16)
  have g_right := ok_is_right E (df_of X G c _ _ 17) g_labelR g_whole
  have g_ltext : Ca P w K mg base 1 "_law_text" spTxt := ok_law_text E (df_of X G c _ _ 18)
  have g_read := ok_law_read E (df_of X G c _ _ 19) g_right g_ltext
  have g_lab := ok_label E (df_of X G c _ _ 20) g_draw g_res
  have g_ix := ok_index E (df_of X G c _ _ 21) g_draw g_lab
  have g_deep : Ca P w K mg base 1 "_law_deep" spDeep := ok_deep E (df_of X G c _ _ 22)
  have g_odd := ok_odd E (df_of X G c _ _ 23) g_draw
  have g_bent := ok_bent E (df_of X G c _ _ 24) g_draw g_odd g_ix
  have g_bt := ok_bent_text E (df_of X G c _ _ 25) g_draw
  have g_told := ok_told (w := w) (base := base) E Z (df_of X G c _ _ 26)
  have g_judged := ok_judged E Z (df_of X G c _ _ 27) g_index g_text g_right g_ltext g_told
  have g_readR := ok_read_right E (df_of X G c _ _ 28) g_parse g_read g_told
  have g_long := ok_long E (df_of X G c _ _ 29) g_index g_text g_parse g_draw g_deep g_told
  have g_all := ok_right E (df_of X G c _ _ 30) g_text g_parse g_ix g_ltext g_odd g_bent g_bt g_judged g_readR
  exact ok_law E (fun_of F) g_long g_pot g_all
end
end K21
open PySem PySem.W PySem.Calls PyProof.Rows
theorem PySem.Challenge.cw_heldover_k21_indexes_judged_and_written_holds : PySem.Challenge.rw_heldover_k21_indexes_judged_and_written.Holds := by
  w_on; o_law
  refine HandSHeadRun.head_any (r := K21.R21) (q := view K21.R21.prog [49]) (H := K21.hk21) (ob := K21.ob21) (M := 3000) (loose := K21.loose1 ++ K21.loose2) (d := HandSHeadRun.topDef K21.R21.prog 49) (kwd := []) K21.ob21_eq
    (by kernel_rfl) (fun s => by kernel_rfl) K21.run21 (by kernel_rfl) (by kernel_rfl) (by kernel_rfl) (by rfl) (by first | assumption | decide +kernel) (by decide +kernel) ⟨rfl, rfl, rfl, rfl, rfl, by decide +kernel⟩ ?hw ?hc
  case hw => w_witness2
  case hc =>
    refine Att.attach_call (l := PySem.Challenge.rw_heldover_k21_indexes_judged_and_written) (n := 63) rfl (by kernel_rfl) fun w s₀ s₁ mg mb fa o pm cd doc a us ns G Y ho hd hcd hmg0 hobj hints hlen hg => ?_
    obtain ⟨K, KX, c, hi, ex, os, es, ep, oS, dS⟩ := Y
    have hmg : mg ("law" : PySem.Str) = some (.ref fa) := by
      have e : (HandSHeadRun.topDef K21.R21.prog 49).name = ("law" : PySem.Str) := by kernel_rfl
      rw [← e]
      exact hmg0
    obtain ⟨fd, hb, hF⟩ := K21.facts (P := (PySem.Challenge.rw_heldover_k21_indexes_judged_and_written).prog) (w := w) KX G.T.g hmg c hi ex (by kernel_rfl) (by kernel_rfl)
    exact Hk.callG_endS KX G.T.g G.T.b G.T.builtins G.T.nolimit hg (K21.exB_sm ex) oS dS hobj hints (Nat.le_trans hlen (by decide)) ⟨rfl, by decide, by decide⟩ hF hb fun H hS hq => ⟨a, ns, os, rfl, ⟨fun _ z => (nomatch z), fun x hx => by
      rcases List.mem_cons.mp hx with e | e
      · rw [e]
        exact hS
      · cases e⟩, hq, hlen, fun _ => rfl⟩
