import PyProof.Rows.All
import Wide.All
import OpenK.AllK
import Wide.FinOn
import HandS.Base
import HandS.Call
import HandS.List
import HandS.Comp
import HandS.Ends
import HandS.Iter
import HandS.Text
import HandS.Words
import HandS.WordsList
import HandS.WideBits
import HandS.IsInst
import HandS.Codes
import HandS.DeepEq
import HandS.RaiseMore
import HandS.Star
import HandS.CallLocal
import HandS.Style
import HandS.Dict
import HandS.Defaults
import HandS.New
import KE.KExcSuper
import HandS.Exc
import HandS.ExcField
import HandS.ExcIs
import KE.KExcIs
import HandS.TupMul
import HandS.FStr
import HandS.TupAny
import KE.KUnpackStar
import HandS.WordsExc
import PyProof.ReprBulk
import HandS.More
import HandS.Property
import HandS.MakeKw
import HandS.MakeKwOnly
import HandS.HeadHook2
import KE.IntTextText
import KE.KIntText
import HandS.Head0
import HandS.Head1
import HandS.Head2
import HandS.HeadEnd
import HandS.HeadHook1
import HandS.LawCells
import PySem.Challenge.RW_heldover_k73_disks
set_option Elab.async false
set_option linter.all false
set_option maxRecDepth 100000
set_option maxHeartbeats 0
namespace Hk
open PySem PySem.Spec PyProof.Rows L2

/-! ### the pot: a list of two ints that a draw changes; all else grows only -/
def Pot (H : Hp) (a : Addr) : Prop := ∃ x y : Int, H a = some (.lst [.int x, .int y]) ∧ 0 ≤ x ∧ 0 ≤ y ∧ y < 2147483648
/-- what may change: the pot; objects that are being filled, with what they hold now -/
structure Vo where
  pot : Option Addr
  ex : List (Addr × HO)
def Vo.non : Vo := ⟨none, []⟩
def Vo.of (a : Addr) : Vo := ⟨some a, []⟩
def Vo.and (p : Vo) (D : Addr) (o : HO) : Vo := ⟨p.pot, (D, o) :: p.ex⟩
def Nv (p : Vo) (a : Addr) : Prop := p.pot ≠ some a ∧ ∀ x ∈ p.ex, x.1 ≠ a
structure Iv (p : Vo) (H : Hp) : Prop where
  pot : ∀ a, p.pot = some a → Pot H a ∧ ∀ x ∈ p.ex, x.1 ≠ a
  ex : ∀ x ∈ p.ex, H x.1 = some x.2
def Gr (p : Vo) (H H' : Hp) : Prop := ∀ a o, Nv p a → H a = some o → H' a = some o
variable {p : Vo} {H H' H1 H2 H3 : Hp}
theorem Gr.refl (H : Hp) : Gr p H H := fun _ _ _ h => h
theorem Gr.trans (a : Gr p H H1) (b : Gr p H1 H2) : Gr p H H2 := fun x o n h => b x o n (a x o n h)
theorem Gr.new {q : Addr} {o : HO} (h : H q = none) : Gr p H (upd H q o) := fun a u _ e => by
  rw [upd_ne (ne_of_none e h)]
  exact e
theorem Gr.mut {q : Addr} {o : HO} (e : Gr p H H') (h : H q = none) : Gr p H (upd H' q o) := fun a u n ha => by
  rw [upd_ne (ne_of_none ha h)]
  exact e a u n ha
theorem nv_non (a : Addr) : Nv Vo.non a := ⟨fun z => (nomatch z), fun x hx => (nomatch hx)⟩
theorem nv_of {a b : Addr} (h : a ≠ b) : Nv (Vo.of a) b := ⟨fun z => h (Option.some.inj z), fun x hx => (nomatch hx)⟩
theorem Nv.and {a D : Addr} {o : HO} (h : Nv p a) (d : D ≠ a) : Nv (p.and D o) a := ⟨h.1, fun x hx => by
  rcases List.mem_cons.mp hx with e | e
  · rw [e]; exact d
  · exact h.2 x e⟩
theorem Nv.back {a D : Addr} {o : HO} (h : Nv (p.and D o) a) : Nv p a := ⟨h.1, fun x hx => h.2 x (List.mem_cons_of_mem _ hx)⟩
theorem Nv.ne {a D : Addr} {o : HO} (h : Nv (p.and D o) a) : D ≠ a := h.2 (D, o) List.mem_cons_self
theorem Gr.pure (e : Gr Vo.non H H') : Gr p H H' := fun a o _ h => e a o (nv_non a) h
theorem Gr.free {q : Addr} (e : Gr p H H') (hq : Nv p q) (h : H' q = none) : H q = none := by
  cases h1 : H q with
  | none => rfl
  | some o =>
    rw [e q o hq h1] at h
    cases h
theorem Iv.non (H : Hp) : Iv Vo.non H := ⟨fun a e => (nomatch e), fun x hx => (nomatch hx)⟩
theorem Iv.grow (i : Iv p H) (e : Gr Vo.non H H') : Iv p H' := ⟨fun a ha => by
  obtain ⟨⟨x, y, h, r⟩, n⟩ := i.pot a ha
  exact ⟨⟨x, y, e a _ (nv_non a) h, r⟩, n⟩, fun x hx => e _ _ (nv_non _) (i.ex x hx)⟩
theorem Iv.ne {q : Addr} (i : Iv p H) (h : H q = Option.none) : Nv p q := by
  refine ⟨fun e => ?_, fun x hx e => ?_⟩
  · obtain ⟨⟨x, y, h', _⟩, _⟩ := i.pot q e
    rw [h'] at h
    cases h
  · have h' := i.ex x hx
    rw [e, h] at h'
    cases h'
theorem Iv.new {q : Addr} {o : HO} (i : Iv p H) (h : H q = Option.none) : Iv p (upd H q o) := i.grow (Gr.new h)
theorem Iv.upd {q : Addr} {o : HO} (i : Iv p H) (h : Nv p q) : Iv p (upd H q o) := by
  refine ⟨fun a ha => ?_, fun x hx => ?_⟩
  · obtain ⟨⟨x, y, h', r⟩, n⟩ := i.pot a ha
    refine ⟨⟨x, y, ?_, r⟩, n⟩
    rw [upd_ne (fun e => h.1 (by rw [← e]; exact ha))]
    exact h'
  · rw [upd_ne (h.2 x hx)]
    exact i.ex x hx
/-- one more object that is being filled -/
theorem Iv.and {D : Addr} {o : HO} (i : Iv p H) (h : H D = some o) (n : Nv p D) : Iv (p.and D o) H := by
  refine ⟨fun a ha => ?_, fun x hx => ?_⟩
  · obtain ⟨w, m⟩ := i.pot a ha
    refine ⟨w, fun x hx => ?_⟩
    rcases List.mem_cons.mp hx with e | e
    · rw [e]
      exact fun z => n.1 (by rw [show D = a from z]; exact ha)
    · exact m x e
  · rcases List.mem_cons.mp hx with e | e
    · rw [e]
      exact h
    · exact i.ex x e
theorem Iv.back {D : Addr} {o : HO} (i : Iv (p.and D o) H) : Iv p H := ⟨fun a ha => ⟨(i.pot a ha).1, fun x hx => (i.pot a ha).2 x (List.mem_cons_of_mem _ hx)⟩, fun x hx => i.ex x (List.mem_cons_of_mem _ hx)⟩
/-- behind a call that draws from the pot alone -/
theorem Iv.drawn {a : Addr} (i : Iv p H) (ha : p.pot = some a) (po : Pot H' a) (g : Gr (Vo.of a) H H') : Iv p H' := by
  refine ⟨fun b hb => ?_, fun x hx => g _ _ (nv_of fun e => (i.pot a ha).2 x hx e.symm) (i.ex x hx)⟩
  have e : b = a := Option.some.inj (hb.symm.trans ha)
  rw [e]
  exact ⟨po, (i.pot a ha).2⟩
theorem Gr.drawn {a : Addr} (ha : p.pot = some a) (g : Gr (Vo.of a) H H') : Gr p H H' := fun b o n h => g b o (nv_of fun e => n.1 (by rw [← e]; exact ha)) h
theorem Gr.of {a : Addr} (ha : p.pot = some a) (hx : p.ex = []) (g : Gr p H H') : Gr (Vo.of a) H H' := fun b o n h => g b o ⟨by rw [ha]; exact n.1, fun x m => by rw [hx] at m; exact (nomatch m)⟩ h

/-! ### what is said of a value, and stays -/
structure Sy (p : Vo) where
  P : V → Hp → Prop
  st : ∀ v H H', Gr p H H' → P v H → P v H'
def sx (v : V) : Sy p := ⟨fun x _ => x = v, fun _ _ _ _ h => h⟩
def si (C : Int → Prop) : Sy p := ⟨fun x _ => ∃ i, x = .int i ∧ C i, fun _ _ _ _ h => h⟩
def sb (B : Bool → Prop) : Sy p := ⟨fun x _ => ∃ b, x = .bl b ∧ B b, fun _ _ _ _ h => h⟩
def ss (C : Str → Prop) : Sy p := ⟨fun x _ => ∃ z, x = .str z ∧ C z, fun _ _ _ _ h => h⟩
def sl (C : List V → Hp → Prop) (hC : ∀ vs H H', Gr p H H' → C vs H → C vs H') : Sy p :=
  ⟨fun x H => ∃ a vs, x = .ref a ∧ Nv p a ∧ H a = some (.lst vs) ∧ C vs H, fun _ H H' e ⟨a, vs, h1, h2, h3, h4⟩ => ⟨a, vs, h1, h2, e a _ h2 h3, hC vs H H' e h4⟩⟩
def st (C : List V → Hp → Prop) (hC : ∀ vs H H', Gr p H H' → C vs H → C vs H') : Sy p :=
  ⟨fun x H => ∃ a vs, x = .ref a ∧ Nv p a ∧ H a = some (.tup vs) ∧ C vs H, fun _ H H' e ⟨a, vs, h1, h2, h3, h4⟩ => ⟨a, vs, h1, h2, e a _ h2 h3, hC vs H H' e h4⟩⟩
/-- a list, a tuple of just these -/
def slx (vs : List V) : Sy p := sl (fun x _ => x = vs) fun _ _ _ _ h => h
def stx (vs : List V) : Sy p := st (fun x _ => x = vs) fun _ _ _ _ h => h
/-- a list whose items all are so -/
def sla (A : Sy p) (n : Nat) : Sy p := sl (fun vs H => vs.length ≤ n ∧ ∀ v ∈ vs, A.P v H) fun _ H H' e h => ⟨h.1, fun v hv => A.st v H H' e (h.2 v hv)⟩
def slL (A : Sy p) (C : Nat → Prop) : Sy p := sl (fun vs H => C vs.length ∧ ∀ v ∈ vs, A.P v H) fun _ H H' e h => ⟨h.1, fun v hv => A.st v H H' e (h.2 v hv)⟩

def Ev (p : Vo) (te : TE) (σ : L2.St) (H : Hp) (A : Sy p) : Prop := ∀ H1, Iv p H1 → Gr p H H1 → ∀ Q : VK, (∀ v H2, Iv p H2 → Gr p H1 H2 → A.P v H2 → Q v H2) → te σ H1 Q
def EvT (p : Vo) (t : TT) (σ : L2.St) (H : Hp) (B : Bool → Prop) : Prop := ∀ H1, Iv p H1 → Gr p H H1 → ∀ Q : Bool → Hp → Prop, (∀ b H2, Iv p H2 → Gr p H1 H2 → B b → Q b H2) → t σ H1 Q
def Oks : List (Sy p) → List V → Hp → Prop
  | [], vs, _ => vs = []
  | A :: As, vs, H => ∃ v ws, vs = v :: ws ∧ A.P v H ∧ Oks As ws H
theorem Oks.st : ∀ {As : List (Sy p)} {vs : List V}, Gr p H H' → Oks As vs H → Oks As vs H'
  | [], _, _, h => h
  | A :: As, _, e, ⟨v, ws, h1, h2, h3⟩ => ⟨v, ws, h1, A.st v _ _ e h2, Oks.st e h3⟩
def EvA (p : Vo) (ta : TA) (σ : L2.St) (H : Hp) (As : List (Sy p)) : Prop := ∀ H1, Iv p H1 → Gr p H H1 → ∀ Q : List V → Hp → Prop, (∀ vs H2, Iv p H2 → Gr p H1 H2 → Oks As vs H2 → Q vs H2) → ta σ H1 Q
/-- an operation, a call upon values -/
def Rv (p : Vo) (r : Hp → VK → Prop) (H : Hp) (A : Sy p) : Prop := ∀ Q : VK, (∀ v H2, Iv p H2 → Gr p H H2 → A.P v H2 → Q v H2) → r H Q

section
variable {σ : L2.St} {ta tb te tx : TE} {t u : TT} {tr : TA} {A B C : Sy p} {As : List (Sy p)} {v x y z : V} {K : PySem.W.Frag}
theorem Ev.mono (h : Ev p te σ H A) (e : Gr p H H') : Ev p te σ H' A := fun H1 i g Q q => h H1 i (e.trans g) Q q
theorem Ev.imp (h : Ev p te σ H A) (e : ∀ v H, A.P v H → B.P v H) : Ev p te σ H B := fun H1 i g Q q => h H1 i g Q fun v H2 i2 g2 a => q v H2 i2 g2 (e v H2 a)
theorem EvT.imp {B B' : Bool → Prop} (h : EvT p t σ H B) (e : ∀ b, B b → B' b) : EvT p t σ H B' := fun H1 i g Q q => h H1 i g Q fun v H2 i2 g2 a => q v H2 i2 g2 (e v a)
theorem e_var {i : Nat} (h : σ[i]? = some (some v)) (a : A.P v H) : Ev p (tVar i) σ H A := fun H1 i1 g Q q => ⟨v, h, q v H1 i1 (Gr.refl H1) (A.st v H H1 g a)⟩
theorem e_vx {i : Nat} (h : σ[i]? = some (some v)) : Ev p (tVar i) σ H (sx v) := e_var h rfl
theorem e_c (a : A.P v H) : Ev p (tC v) σ H A := fun H1 i1 g Q q => q v H1 i1 (Gr.refl H1) (A.st v H H1 g a)
theorem e_cx : Ev p (tC v) σ H (sx v) := e_c rfl
theorem e_op {r : R2} (ha : Ev p ta σ H A) (hb : Ev p tb σ H B) (hr : ∀ x y H1, Iv p H1 → Gr p H H1 → A.P x H1 → B.P y H1 → Rv p (r x y) H1 C) : Ev p (tOp r ta tb) σ H C := fun H1 i g Q q =>
  ha H1 i g _ fun x H2 i2 g2 ax => hb H2 i2 (g.trans g2) _ fun y H3 i3 g3 by_ => hr x y H3 i3 ((g.trans g2).trans g3) (A.st x _ _ g3 ax) by_ Q fun w H4 i4 g4 c => q w H4 i4 ((g2.trans g3).trans g4) c
theorem e_un {r : V → Hp → VK → Prop} (ha : Ev p ta σ H A) (hr : ∀ x H1, Iv p H1 → Gr p H H1 → A.P x H1 → Rv p (r x) H1 C) : Ev p (tUn r ta) σ H C := fun H1 i g Q q =>
  ha H1 i g _ fun x H2 i2 g2 ax => hr x H2 i2 (g.trans g2) ax Q fun w H4 i4 g4 c => q w H4 i4 (g2.trans g4) c
theorem a_nil : EvA p tNil σ H [] := fun H1 i _ _ q => q [] H1 i (Gr.refl H1) rfl
theorem a_cons (h : Ev p te σ H A) (hr : EvA p tr σ H As) : EvA p (tCons te tr) σ H (A :: As) := fun H1 i g Q q =>
  h H1 i g _ fun x H2 i2 g2 ax => hr H2 i2 (g.trans g2) _ fun vs H3 i3 g3 os => q (x :: vs) H3 i3 (g2.trans g3) ⟨x, vs, rfl, A.st x _ _ g3 ax, os⟩
theorem e_cb {r : List V → Hp → VK → Prop} (h : EvA p tr σ H As) (hr : ∀ vs H1, Iv p H1 → Gr p H H1 → Oks As vs H1 → Rv p (r vs) H1 C) : Ev p (tCB r tr) σ H C := fun H1 i g Q q =>
  h H1 i g _ fun vs H2 i2 g2 os => hr vs H2 i2 (g.trans g2) os Q fun w H3 i3 g3 c => q w H3 i3 (g2.trans g3) c
theorem e_call {sp : Sp} {E : XK} (h : EvA p tr σ H As) (hr : ∀ vs H1, Iv p H1 → Gr p H H1 → Oks As vs H1 → Rv p (fun H Q => sp vs H Q E) H1 C) : Ev p (tCall sp [] E tr) σ H C := fun H1 i g Q q =>
  h H1 i g _ fun vs H2 i2 g2 os => by
    show sp (vs ++ []) H2 Q E
    rw [List.append_nil]
    exact hr vs H2 i2 (g.trans g2) os Q fun w H3 i3 g3 c => q w H3 i3 (g2.trans g3) c
theorem Oks.len : ∀ {As : List (Sy p)} {vs : List V} {H : Hp}, Oks As vs H → vs.length = As.length
  | [], _, _, h => by rw [h]; rfl
  | _ :: _, _, _, ⟨v, ws, h1, _, h3⟩ => by rw [h1, List.length_cons, Oks.len h3, List.length_cons]
theorem e_tup (h : EvA p tr σ H As) (hn : As.length ≤ sizeLine) (hr : ∀ vs a H1, Iv p H1 → Gr p H H1 → Oks As vs H1 → Nv p a → H1 a = some (.tup vs) → C.P (.ref a) H1) : Ev p (tTup tr) σ H C := fun H1 i g Q q =>
  h H1 i g _ fun vs H2 i2 g2 os => ⟨by rw [os.len]; exact hn, fun a ha => q _ _ (i2.new ha) (g2.trans (Gr.new ha)) (hr vs a _ (i2.new ha) ((g.trans g2).trans (Gr.new ha)) (os.st (Gr.new ha)) (i2.ne ha) upd_same)⟩
theorem e_lst (h : EvA p tr σ H As) (hn : As.length ≤ sizeLine) (hr : ∀ vs a H1, Iv p H1 → Gr p H H1 → Oks As vs H1 → Nv p a → H1 a = some (.lst vs) → C.P (.ref a) H1) : Ev p (tLst tr) σ H C := fun H1 i g Q q =>
  h H1 i g _ fun vs H2 i2 g2 os => ⟨by rw [os.len]; exact hn, fun a ha => q _ _ (i2.new ha) (g2.trans (Gr.new ha)) (hr vs a _ (i2.new ha) ((g.trans g2).trans (Gr.new ha)) (os.st (Gr.new ha)) (i2.ne ha) upd_same)⟩

/-! ### tests -/
theorem t_test {B : Bool → Prop} (h : Ev p te σ H (sb B)) : EvT p (tTest te) σ H B := fun H1 i g Q q => h H1 i g _ fun v H2 i2 g2 ⟨b, e, hb⟩ => ⟨b, e, q b H2 i2 g2 hb⟩
theorem t_b {B : Bool → Prop} (h : Ev p te σ H (sb B)) : EvT p (tB te) σ H B := fun H1 i g Q q => h H1 i g _ fun v H2 i2 g2 ⟨b, e, hb⟩ => ⟨b, e, q b H2 i2 g2 hb⟩
theorem EvT.mono {B : Bool → Prop} (h : EvT p t σ H B) (e : Gr p H H') : EvT p t σ H' B := fun H1 i g Q q => h H1 i (e.trans g) Q q
theorem t_and {B D E : Bool → Prop} (h : EvT p t σ H B) (h1 : B true → EvT p u σ H D) (e0 : B false → E false) (e1 : ∀ b, B true → D b → E b) : EvT p (tAnd t u) σ H E := fun H1 i g Q q => h H1 i g _ fun b H2 i2 g2 hb => by
  cases b with
  | true =>
    show u σ H2 Q
    exact h1 hb H2 i2 (g.trans g2) Q fun c H3 i3 g3 hc => q c H3 i3 (g2.trans g3) (e1 c hb hc)
  | false =>
    show Q false H2
    exact q false H2 i2 g2 (e0 hb)
theorem t_or {B D E : Bool → Prop} (h : EvT p t σ H B) (h1 : B false → EvT p u σ H D) (e0 : B true → E true) (e1 : ∀ b, B false → D b → E b) : EvT p (tOr t u) σ H E := fun H1 i g Q q => h H1 i g _ fun b H2 i2 g2 hb => by
  cases b with
  | false =>
    show u σ H2 Q
    exact h1 hb H2 i2 (g.trans g2) Q fun c H3 i3 g3 hc => q c H3 i3 (g2.trans g3) (e1 c hb hc)
  | true =>
    show Q true H2
    exact q true H2 i2 g2 (e0 hb)
theorem t_not {B : Bool → Prop} (h : EvT p t σ H B) : EvT p (tNot t) σ H (fun b => B (!b)) := fun H1 i g Q q => h H1 i g _ fun b H2 i2 g2 hb => q (!b) H2 i2 g2 (by show B (!(!b)); rw [Bool.not_not]; exact hb)
/-- known answers -/
abbrev Tis (p : Vo) (t : TT) (σ : L2.St) (H : Hp) (b : Bool) : Prop := EvT p t σ H (fun c => c = b)
theorem k_and {a b : Bool} (h : Tis p t σ H a) (h1 : a = true → Tis p u σ H b) : Tis p (tAnd t u) σ H (a && b) := t_and h (fun e => h1 e.symm) (fun e => by rw [← e]; rfl) fun c e d => by rw [← e, d]; rfl
theorem k_or {a b : Bool} (h : Tis p t σ H a) (h1 : a = false → Tis p u σ H b) : Tis p (tOr t u) σ H (a || b) := t_or h (fun e => h1 e.symm) (fun e => by rw [← e]; rfl) fun c e d => by rw [← e, d]; rfl
theorem k_not {a : Bool} (h : Tis p t σ H a) : Tis p (tNot t) σ H (!a) := (t_not h).imp fun b e => by rw [← e, Bool.not_not]
theorem k_to {a b : Bool} (h : Tis p t σ H a) (e : a = b) : Tis p t σ H b := by rw [← e]; exact h
theorem k_test {b : Bool} (h : Ev p te σ H (sx (.bl b))) : Tis p (tTest te) σ H b := t_test (h.imp fun v _ e => ⟨b, e, rfl⟩)
theorem k_b {b : Bool} (h : Ev p te σ H (sx (.bl b))) : Tis p (tB te) σ H b := t_b (h.imp fun v _ e => ⟨b, e, rfl⟩)
theorem e_if {B : Bool → Prop} (h : EvT p t σ H B) (h1 : B true → Ev p ta σ H A) (h2 : B false → Ev p tb σ H A) : Ev p (tIf t ta tb) σ H A := fun H1 i g Q q => h H1 i g _ fun b H2 i2 g2 hb => by
  cases b with
  | true =>
    show ta σ H2 Q
    exact h1 hb H2 i2 (g.trans g2) Q fun c H3 i3 g3 hc => q c H3 i3 (g2.trans g3) hc
  | false =>
    show tb σ H2 Q
    exact h2 hb H2 i2 (g.trans g2) Q fun c H3 i3 g3 hc => q c H3 i3 (g2.trans g3) hc
/-- and, or, not as values: exact -/
theorem x_and {a b : Bool} (h1 : Ev p ta σ H (sx (.bl a))) (h2 : a = true → Ev p tb σ H (sx (.bl b))) : Ev p (tAndV ta tb) σ H (sx (.bl (a && b))) := fun H1 i g Q q => h1 H1 i g _ fun v H2 i2 g2 e => ⟨a, e, by
  cases a with
  | true =>
    show tb σ H2 Q
    exact h2 rfl H2 i2 (g.trans g2) Q fun c H3 i3 g3 hc => q c H3 i3 (g2.trans g3) hc
  | false =>
    show Q (.bl false) H2
    exact q _ H2 i2 g2 rfl⟩
theorem x_or {a b : Bool} (h1 : Ev p ta σ H (sx (.bl a))) (h2 : a = false → Ev p tb σ H (sx (.bl b))) : Ev p (tOrV ta tb) σ H (sx (.bl (a || b))) := fun H1 i g Q q => h1 H1 i g _ fun v H2 i2 g2 e => ⟨a, e, by
  cases a with
  | false =>
    show tb σ H2 Q
    exact h2 rfl H2 i2 (g.trans g2) Q fun c H3 i3 g3 hc => q c H3 i3 (g2.trans g3) hc
  | true =>
    show Q (.bl true) H2
    exact q _ H2 i2 g2 rfl⟩
theorem x_not {a : Bool} (h1 : Ev p ta σ H (sx (.bl a))) : Ev p (tNotV ta) σ H (sx (.bl (!a))) := fun H1 i g Q q => h1 H1 i g _ fun v H2 i2 g2 e => ⟨a, e, q _ H2 i2 g2 rfl⟩
theorem x_to {w : V} (h : Ev p te σ H (sx v)) (e : v = w) : Ev p te σ H (sx w) := by rw [← e]; exact h
/-- a < b < c -/
theorem x_chain {r r' : R2} {tc : TE} {a b : Bool} (ha : Ev p ta σ H A) (hb : Ev p tb σ H B) (hc : a = true → Ev p tc σ H C)
    (hr : ∀ x y H1, Iv p H1 → Gr p H H1 → A.P x H1 → B.P y H1 → Rv p (r x y) H1 (sx (.bl a))) (hr' : a = true → ∀ y z H1, Iv p H1 → Gr p H H1 → B.P y H1 → C.P z H1 → Rv p (r' y z) H1 (sx (.bl b))) :
    Ev p (tChain r r' ta tb tc) σ H (sx (.bl (a && b))) := fun H1 i g Q q =>
  ha H1 i g _ fun x H2 i2 g2 ax => hb H2 i2 (g.trans g2) _ fun y H3 i3 g3 by_ => hr x y H3 i3 ((g.trans g2).trans g3) (A.st x _ _ g3 ax) by_ _ fun w H4 i4 g4 e => ⟨a, e, by
    cases a with
    | true =>
      show tc σ H4 fun z H5 => r' y z H5 Q
      exact hc rfl H4 i4 (((g.trans g2).trans g3).trans g4) _ fun z H5 i5 g5 cz => hr' rfl y z H5 i5 ((((g.trans g2).trans g3).trans g4).trans g5) (B.st y _ _ (g4.trans g5) by_) cz Q fun w H6 i6 g6 e => q w H6 i6 ((((g2.trans g3).trans g4).trans g5).trans g6) e
    | false =>
      show Q (.bl false) H4
      exact q _ H4 i4 ((g2.trans g3).trans g4) rfl⟩

/-! ### statements -/
variable {D : Ends} {tu tw : TS}
theorem s_asg {i : Nat} (iv : Iv p H) (h : Ev p te σ H A) (k : ∀ v H1, Iv p H1 → Gr p H H1 → A.P v H1 → D.nx (σ.set i (some v)) H1) : tAsg te (gName i) D σ H := h H iv (Gr.refl H) _ k
theorem s_ret (iv : Iv p H) (h : Ev p te σ H A) (k : ∀ v H1, Iv p H1 → Gr p H H1 → A.P v H1 → D.rt v H1) : tRet te D σ H := h H iv (Gr.refl H) _ k
theorem s_if {B : Bool → Prop} (iv : Iv p H) (h : EvT p t σ H B) (h1 : B true → ∀ H1, Iv p H1 → Gr p H H1 → tu D σ H1) (h2 : B false → ∀ H1, Iv p H1 → Gr p H H1 → tw D σ H1) : tIfS t tu tw D σ H := h H iv (Gr.refl H) _ fun b H1 i e hb => by
  cases b with
  | true =>
    show tu D σ H1
    exact h1 hb H1 i e
  | false =>
    show tw D σ H1
    exact h2 hb H1 i e
/-- with a known answer -/
theorem s_ifx {b : Bool} (iv : Iv p H) (h : Tis p t σ H b) (h1 : b = true → ∀ H1, Iv p H1 → Gr p H H1 → tu D σ H1) (h2 : b = false → ∀ H1, Iv p H1 → Gr p H H1 → tw D σ H1) : tIfS t tu tw D σ H :=
  s_if iv h (fun e => h1 e.symm) fun e => h2 e.symm
end

/-! ### operations -/
section
variable {x y : V} {K : PySem.W.Frag}
theorem rv (iv : Iv p H) {r : Hp → VK → Prop} {A : Sy p} {v : V} (a : A.P v H) (h : ∀ Q : VK, Q v H → r H Q) : Rv p r H A := fun Q q => h Q (q v H iv (Gr.refl H) a)
/-- a new object -/
theorem rv_new (iv : Iv p H) {r : Hp → VK → Prop} {A : Sy p} {o : HO} (a : ∀ q, Nv p q → H q = none → Iv p (upd H q o) → Gr p H (upd H q o) → A.P (.ref q) (upd H q o)) (h : ∀ Q : VK, (∀ q, H q = none → Q (.ref q) (upd H q o)) → r H Q) : Rv p r H A :=
  fun Q q => h Q fun a' ha => q _ _ (iv.new ha) (Gr.new ha) (a a' (iv.ne ha) ha (iv.new ha) (Gr.new ha))
end
end Hk
namespace Hk
open PySem PySem.Spec PyProof.Rows L2

/-! ### rules that take either of several readings -/
section
variable {X : Cx}
theorem OpR.or {f : Value → Value → Sem Value} {r r' : R2} (h : OpR X f r) (h' : OpR X f r') : OpR X f (fun x y H Q => r x y H Q ∨ r' x y H Q) := by
  intro pins s σ H x y v u Q I rx ry q
  rcases q with q | q
  · exact h pins s σ H x y v u Q I rx ry q
  · exact h' pins s σ H x y v u Q I rx ry q
def rAddS : R2 := fun x y H Q => ∃ i j, x = .str i ∧ y = .str j ∧ i.length + j.length ≤ sizeLine ∧ Q (.str (i ++ j)) H
def rAddI : R2 := fun x y H Q => ∃ i j, x = .int i ∧ y = .int j ∧ Q (.int (i + j)) H
def rAddU : R2 := fun x y H Q => rAddI x y H Q ∨ rAddS x y H Q ∨ rCat x y H Q
theorem op_addU : OpR X (binaryOp .Add) rAddU := OpR.or (show OpR X (binaryOp .Add) rAddI from op_add) (OpR.or (show OpR X (binaryOp .Add) rAddS from op_add_str) (show OpR X (binaryOp .Add) rCat from op_cat))
def rMulI : R2 := rI CMul fun i j => .int (i * j)
def rMulS : R2 := fun x y H Q => ∃ z n, x = .str z ∧ y = .int n ∧ MulOk z n ∧ Q (.str (Txt.mul z n)) H
theorem op_mulS : OpR X (binaryOp .Mult) rMulS := by
  intro pins s σ H x y v u Q I rx ry h
  obtain ⟨z, n, rfl, rfl, ok, q⟩ := h
  obtain ⟨t, rfl⟩ := rx
  obtain ⟨t', rfl⟩ := ry
  exact SB.mul ok fun t' k => ⟨.str _, H, I.tok _, ⟨_, rfl⟩, q⟩
def rMulU : R2 := fun x y H Q => rMulI x y H Q ∨ rMulS x y H Q
theorem op_mulU : OpR X (binaryOp .Mult) rMulU := OpR.or (show OpR X (binaryOp .Mult) rMulI from op_mul) op_mulS
def CPw (i j : Int) : Prop := 0 ≤ j ∧ (Builtin.Int.intBits i : Int) * j ≤ 2 ^ 27
def rPow : R2 := rI CPw fun i j => .int (i ^ j.toNat)
theorem op_powW : OpR X (binaryOp .Pow) rPow := opI fun _ _ _ _ _ _ _ hc q => pow_int hc.1 hc.2 q
def rLeI : R2 := fun x y H Q => ∃ i j, x = .int i ∧ y = .int j ∧ Q (.bl (decide (i ≤ j))) H
def rLeS : R2 := fun x y H Q => ∃ i j : Str, x = .str i ∧ y = .str j ∧ Q (.bl (!decide (j.cps.toList < i.cps.toList))) H
def rLeU : R2 := fun x y H Q => rLeI x y H Q ∨ rLeS x y H Q
theorem op_leU : OpR X (compareOp .LtE) rLeU := OpR.or (show OpR X (compareOp .LtE) rLeI from op_le) (show OpR X (compareOp .LtE) rLeS from op_le_str)
def rInS' : R2 := fun x y H Q => ∃ (c : Nat) (z : Str), x = .str ⟨#[c]⟩ ∧ y = .str z ∧ Q (.bl (decide (c ∈ z.cps.toList))) H
def rNinS' : R2 := fun x y H Q => ∃ (c : Nat) (z : Str), x = .str ⟨#[c]⟩ ∧ y = .str z ∧ Q (.bl (!decide (c ∈ z.cps.toList))) H
def rInU (K : PySem.W.Frag) : R2 := fun x y H Q => rInS' x y H Q ∨ rIn K false x y H Q
def rNinU (K : PySem.W.Frag) : R2 := fun x y H Q => rNinS' x y H Q ∨ rIn K true x y H Q
theorem op_inU : OpR X (compareOp .In) (rInU X.K) := OpR.or (show OpR X (compareOp .In) rInS' from op_in_sign) op_in_seq
theorem op_ninU : OpR X (compareOp .NotIn) (rNinU X.K) := OpR.or (show OpR X (compareOp .NotIn) rNinS' from op_notIn_sign) op_notIn_seq
def rSlU (K : PySem.W.Frag) : V → Option Int → Option Int → Hp → VK → Prop := fun x lo hi H Q => rSlT K x lo hi H Q ∨ rSlS x lo hi H Q
theorem sl_U : SlR X (rSlU X.K) := SlR.or sl_tup sl_str
def rDm : List V → Hp → VK → Prop := fun xs H Q => ∃ i j, xs = [.int i, .int j] ∧ (0 < j ∧ j < 1073741824) ∧ ∀ p, H p = none → Q (.ref p) (upd H p (.tup [.int (i / j), .int (i % j)]))
theorem call_divmodS : CallR X (.builtin "divmod") rDm := by
  intro pins s σ H xs us Q I r h
  obtain ⟨i, j, e, ⟨h1, h2⟩, q⟩ := h
  exact call_divmodW pins s σ H xs us Q I r ⟨i, j, e, ⟨h1, PyProof.noPylong_small (by omega)⟩, q⟩

/-! ### repr of a list, a tuple of truths and texts -/
inductive FlatD : V → PyData → Prop where
  | bl (b : Bool) : FlatD (.bl b) (.bool b)
  | str (x : Str) : FlatD (.str x) (.str x)
theorem flat_reads {h : Heap} {v : V} {u : Value} {d : PyData} (f : FlatD v d) (r : RelV v u) : Reads h u d [] := by
  cases f with
  | bl b => cases r; exact .bool b
  | str x => obtain ⟨t, rfl⟩ := r; exact .str x t
theorem flat_readsAll {h : Heap} : ∀ {vs : List V} {us : List Value} {ds : List PyData}, Paired FlatD vs ds → Vals vs us → ReadsAll h us ds []
  | _, _, _, .nil, .nil => .nil
  | _, _, _, .cons f k, .cons r q => .cons (as := []) (bs := []) (flat_reads f r) (flat_readsAll k q)
theorem flat_show {v : V} {d : PyData} (f : FlatD v d) : d.showable = true ∧ d.hasDict = false ∧ d.depth = 0 := by
  cases f <;> refine ⟨by simp only [PyData.showable], by simp only [PyData.hasDict], by simp only [PyData.depth]⟩
theorem flat_showAll : ∀ {vs : List V} {ds : List PyData}, Paired FlatD vs ds → PyData.showableAll ds = true ∧ PyData.hasDictAll ds = false ∧ PyData.depthAll ds = 0
  | _, _, .nil => ⟨by simp only [PyData.showableAll], by simp only [PyData.hasDictAll], by simp only [PyData.depthAll]⟩
  | _, _, .cons f k => by
    obtain ⟨a1, a2, a3⟩ := flat_show f
    obtain ⟨b1, b2, b3⟩ := flat_showAll k
    refine ⟨by simp only [PyData.showableAll, a1, b1, Bool.and_self], by simp only [PyData.hasDictAll, a2, b2, Bool.or_self], by simp only [PyData.depthAll, a3, b3] <;> rfl⟩
def rRepr (K : PySem.W.Frag) : List V → Hp → VK → Prop := fun xs H Q => ∃ (a : Addr) (vs : List V) (ds : List PyData), xs = [.ref a] ∧ Paired FlatD vs ds ∧
  ((SqL K H a vs ∧ (PyData.list ds).shown.length ≤ sizeLine ∧ Q (.str (PyData.list ds).shown) H) ∨ (SqT K H a vs ∧ (PyData.tuple ds).shown.length ≤ sizeLine ∧ Q (.str (PyData.tuple ds).shown) H))

theorem call_reprU (hg : X.A.guards = some []) (hu : X.A.units + 3 < cLine) : CallR X (.builtin "repr") (rRepr X.K) := by
  intro pins s σ H xs us Q I r h
  obtain ⟨a, vs, ds, rfl, f, h⟩ := h
  obtain ⟨u, rfl, rx⟩ := vals1 r
  cases (show u = Value.ref a from rx)
  obtain ⟨w1, w2, w3⟩ := flat_showAll f
  rcases h with ⟨hl, hz, q⟩ | ⟨ht, hz, q⟩
  · obtain ⟨its, rv, ⟨o, n, e1, e2, _, e4⟩, _⟩ := I.list hl
    have rd : Reads s.heap (.ref a) (.list ds) (a :: []) := .list e1 e2 e4 (by simpa using flat_readsAll f rv)
    refine repr_of_reads' rd (by simp only [PyData.showable, w1]) (PyData.noDict_hsm (by simp only [PyData.hasDict, w2])) hg ?_ (fun _ _ e => e) (fun h' t tk hk => ?_) hz
    · have e : (PyData.list ds).depth = 1 := by
        simp only [PyData.depth, w3]
      omega
    · exact ⟨.str _, H, I.kept hk, ⟨_, rfl⟩, q⟩
  · obtain ⟨its, rv, ⟨o, e1, e2, n, e4⟩, _⟩ := I.tuple ht
    have rd : Reads s.heap (.ref a) (.tuple ds) [] := .tuple e1 e2 e4 (by simpa using flat_readsAll f rv)
    refine repr_of_reads' rd (by simp only [PyData.showable, w1]) (PyData.noDict_hsm (by simp only [PyData.hasDict, w2])) hg ?_ (fun _ _ e => e) (fun h' t tk hk => ?_) hz
    · have e : (PyData.tuple ds).depth = 1 := by
        simp only [PyData.depth, w3]
      omega
    · exact ⟨.str _, H, I.kept hk, ⟨_, rfl⟩, q⟩
end

/-! ### a comprehension over a text -/
theorem lc_str {x : Str} {g : TG} {tt : TT} {te : TE} {vs : List Nat} {σ : L2.St} {H1 : Hp} {D : Addr} {Qd : Hp → Prop} (Pv : Nat → Hp → Prop) (h0 : Pv 0 (upd H1 D (.lst [])))
    (hs : ∀ i c H, x.cps.toList[i]? = some c → Pv i H → g (.str ⟨#[c]⟩) (wipe σ vs) H fun σ2 H2 => wipe σ2 vs = wipe σ vs ∧ tt σ2 H2 fun b H3 =>
      if b = true then te σ2 H3 fun y H4 => ∃ acc, H4 D = some (.lst acc) ∧ acc.length < sizeLine ∧ Pv (i + 1) (upd H4 D (.lst (acc ++ [y]))) else Pv (i + 1) H3) (hd : ∀ H, Pv x.cps.size H → Qd H) :
    ∃ W : Nat → Nat → Hp → Prop, (∃ m, W 0 m (upd H1 D (.lst []))) ∧ ∀ i m H, W i m H →
      ((Its x).stop i H ∧ Qd H) ∨ ((Its x).go i H ∧ ∃ Nx : Hp → Prop, (∀ H', Nx H' → ∃ m', m' < m ∧ W (i + 1) m' H') ∧ ∀ v H', (Its x).yld i H v H' → g v (wipe σ vs) H' fun σ2 H2 => wipe σ2 vs = wipe σ vs ∧ tt σ2 H2 fun b H3 =>
        if b = true then te σ2 H3 fun y H4 => ∃ acc, H4 D = some (.lst acc) ∧ acc.length < sizeLine ∧ Nx (upd H4 D (.lst (acc ++ [y]))) else Nx H3) := by
  refine ⟨fun i m H => m = x.cps.size - i ∧ i ≤ x.cps.size ∧ Pv i H, ⟨_, rfl, Nat.zero_le _, h0⟩, fun i m H hw => ?_⟩
  obtain ⟨em, hi, pw⟩ := hw
  by_cases hlt : i < x.cps.size
  · refine .inr ⟨hlt, Pv (i + 1), fun H' n => ⟨x.cps.size - (i + 1), by omega, rfl, hlt, n⟩, fun v H' hy => ?_⟩
    obtain ⟨rfl, c, hc, rfl⟩ := hy
    exact hs i c _ (by rw [Array.getElem?_toList]; exact hc) pw
  · have e : i = x.cps.size := by omega
    subst e
    exact .inl ⟨Nat.le_refl _, hd H pw⟩

/-! ### comprehensions, by what is said of the items made: the list that is made, turn by turn -/
section
variable {p : Vo} {σ : L2.St} {H : Hp} {K : PySem.W.Frag}
/-- C i acc H: the first i turns gave acc; it is not hurt by the list's own growing -/
structure Grows (p : Vo) (C : Nat → List V → Hp → Prop) : Prop where
  st : ∀ i acc H1 H2, Gr p H1 H2 → C i acc H1 → C i acc H2
/-- what stands behind i turns -/
def Cw (p : Vo) (H : Hp) (D : Addr) (C : Nat → List V → Hp → Prop) (i : Nat) (H' : Hp) : Prop :=
  Iv p H' ∧ H D = none ∧ Nv p D ∧ Gr p H H' ∧ ∃ acc, H' D = some (.lst acc) ∧ acc.length = i ∧ C i acc H'
/-- what an item's evaluation gives while the list at D is being made: said over one more object that may change -/
theorem cw_turn {C : Nat → List V → Hp → Prop} {D : Addr} (st : ∀ o i acc H1 H2, Gr (p.and D o) H1 H2 → C i acc H1 → C i acc H2) {i : Nat} {te : TE} {σ2 : L2.St} {A : ∀ q : Vo, Sy q} {H' : Hp} (w : Cw p H D C i H') (hi : i < 16000000)
    (he : ∀ o, Ev (p.and D o) te σ2 H (A (p.and D o)))
    (hc : ∀ acc y H1 o, Gr p H H1 → Iv (p.and D o) H1 → acc.length = i → C i acc H1 → (A (p.and D o)).P y H1 → C (i + 1) (acc ++ [y]) H1) :
    tYes σ2 H' fun b H3 => if b = true then te σ2 H3 fun y H4 => ∃ acc, H4 D = some (.lst acc) ∧ acc.length < sizeLine ∧ Cw p H D C (i + 1) (upd H4 D (.lst (acc ++ [y]))) else Cw p H D C (i + 1) H3 := by
  obtain ⟨iv, hD, nD, g, acc, ha, hl, c⟩ := w
  show te σ2 H' fun y H4 => ∃ acc, H4 D = some (.lst acc) ∧ acc.length < sizeLine ∧ Cw p H D C (i + 1) (upd H4 D (.lst (acc ++ [y])))
  have g1 : Gr (p.and D (.lst acc)) H H' := fun b o n h => g b o n.back h
  refine he (.lst acc) H' (iv.and ha nD) g1 _ fun y H4 i4 g4 ay => ?_
  have aD : H4 D = some (.lst acc) := i4.ex (D, .lst acc) List.mem_cons_self
  have g5 : Gr p H' H4 := fun b o n h => by
    by_cases e : D = b
    · rw [← e] at h ⊢
      rw [ha] at h
      rw [aD, ← h]
    · exact g4 b o (n.and e) h
  have g6 : Gr (p.and D (.lst acc)) H4 (upd H4 D (.lst (acc ++ [y]))) := fun b o n h => by
    rw [upd_ne n.ne.symm]
    exact h
  refine ⟨acc, aD, by rw [sizeLine_eq]; omega, i4.back.upd nD, hD, nD, (g.trans g5).mut hD, acc ++ [y], upd_same, by rw [List.length_append, hl]; rfl, ?_⟩
  exact st (.lst acc) _ _ _ _ g6 (hc acc y H4 (.lst acc) (g.trans g5) i4 hl (st (.lst acc) _ _ _ _ g4 c) ay)
theorem cw0 {C : Nat → List V → Hp → Prop} {D : Addr} (iv : Iv p H) (hD : H D = none) (c : C 0 [] (upd H D (.lst []))) : Cw p H D C 0 (upd H D (.lst [])) :=
  ⟨iv.new hD, hD, iv.ne hD, Gr.new hD, [], upd_same, rfl, c⟩
/-- the result: a new list of what C says -/
def sC (C : Nat → List V → Hp → Prop) (n : Nat) (st : ∀ acc H1 H2, Gr p H1 H2 → C n acc H1 → C n acc H2) : Sy p := sl (fun vs H => vs.length = n ∧ C n vs H) fun vs H1 H2 e h => ⟨h.1, st vs H1 H2 e h.2⟩

variable {te ta tb : TE} {tr : TA} {j : Nat} {vs : List Nat} {A : Nat → ∀ q : Vo, Sy q} {B : Sy p}
/-- over a text -/
theorem lcS {x : Str} (C : Nat → List V → Hp → Prop) (hx : Ev p ta σ H (sx (.str x))) (hz : x.cps.size < 16000000) (st : ∀ D o i acc H1 H2, Gr (p.and D o) H1 H2 → C i acc H1 → C i acc H2) (st' : ∀ acc H1 H2, Gr p H1 H2 → C x.cps.size acc H1 → C x.cps.size acc H2)
    (hw : ∀ x, wipe ((wipe σ vs).set j (some x)) vs = wipe σ vs) (c0 : ∀ H1, C 0 [] H1)
    (he : ∀ (i c : Nat) D o, x.cps.toList[i]? = some c → Ev (p.and D o) te ((wipe σ vs).set j (some (.str ⟨#[c]⟩))) H (A i (p.and D o)))
    (hc : ∀ (i c : Nat) acc y H1 D o, x.cps.toList[i]? = some c → Gr p H H1 → Iv (p.and D o) H1 → acc.length = i → C i acc H1 → (A i (p.and D o)).P y H1 → C (i + 1) (acc ++ [y]) H1) :
    Ev p (tLc (iStr ta) (gName j) tYes te vs) σ H (sC C x.cps.size st') := fun H0 i0 g0 Q q =>
  hx H0 i0 g0 _ fun v H1 i1 g1 e => ⟨x, e, fun D hD => lc_str (x := x) (Cw p H1 D C) (cw0 i1 hD (c0 _)) (fun i c H' hi w =>
    ⟨hw _, cw_turn (A := A i) (st D) w (by have := (List.getElem?_eq_some_iff.mp hi).1; rw [Array.length_toList] at this; omega) (fun o => (he i c D o hi).mono fun b ob n h => (g0.trans g1) b ob n.back h) fun acc y H2 o g2 i2 hl c2 ay => hc i c acc y H2 D o hi ((g0.trans g1).trans g2) i2 hl c2 ay⟩)
    fun H' w => q _ H' w.1 (g1.trans w.2.2.2.1) (by obtain ⟨_, _, nD, _, acc, ha, hl, c⟩ := w; exact ⟨D, acc, rfl, nD, ha, hl, c⟩)⟩
/-- over a tuple -/
theorem lcT {xs : List V} (C : Nat → List V → Hp → Prop) (hx : Ev p ta σ H B) (hB : ∀ v H1, Gr p H H1 → B.P v H1 → ∃ a, v = .ref a ∧ Nv p a ∧ H1 a = some (.tup xs)) (hz : xs.length < 16000000) (st : ∀ D o i acc H1 H2, Gr (p.and D o) H1 H2 → C i acc H1 → C i acc H2) (st' : ∀ acc H1 H2, Gr p H1 H2 → C xs.length acc H1 → C xs.length acc H2)
    (hw : ∀ x, wipe ((wipe σ vs).set j (some x)) vs = wipe σ vs) (c0 : ∀ H1, C 0 [] H1)
    (he : ∀ (i : Nat) (x : V) D o H1, Gr p H H1 → H1 D = none → xs[i]? = some x → Ev (p.and D o) te ((wipe σ vs).set j (some x)) H1 (A i (p.and D o)))
    (hc : ∀ (i : Nat) (x : V) acc y H1 D o, xs[i]? = some x → Gr p H H1 → Iv (p.and D o) H1 → acc.length = i → C i acc H1 → (A i (p.and D o)).P y H1 → C (i + 1) (acc ++ [y]) H1) :
    Ev p (tLc (iTup K ta) (gName j) tYes te vs) σ H (sC C xs.length st') := fun H0 i0 g0 Q q =>
  hx H0 i0 g0 _ fun v H1 i1 g1 bv => by
    obtain ⟨a, rfl, na, ha⟩ := hB v H1 (g0.trans g1) bv
    refine ⟨a, rfl, ⟨xs, SqT.of ha⟩, fun D hD => lc_tup (xs := xs) (Cw p H1 D C) (cw0 i1 hD (c0 _)) (fun i H' _ w => SqT.of (w.2.2.2.1 a _ na ha)) (fun i x H' hi w => ?_) fun H' w => q _ H' w.1 (g1.trans w.2.2.2.1) (by obtain ⟨_, _, nD, _, acc, ha, hl, c⟩ := w; exact ⟨D, acc, rfl, nD, ha, hl, c⟩)⟩
    exact ⟨hw _, cw_turn (A := A i) (st D) w (by have := (List.getElem?_eq_some_iff.mp hi).1; omega) (fun o => he i x D o H1 (g0.trans g1) hD hi) fun acc y H2 o g2 i2 hl c2 ay => hc i x acc y H2 D o hi ((g0.trans g1).trans g2) i2 hl c2 ay⟩
/-- over a list that stands still -/
theorem lcL {xs : List V} (C : Nat → List V → Hp → Prop) (hx : Ev p ta σ H B) (hB : ∀ v H1, Gr p H H1 → B.P v H1 → ∃ a, v = .ref a ∧ Nv p a ∧ H1 a = some (.lst xs)) (hz : xs.length < 16000000) (st : ∀ D o i acc H1 H2, Gr (p.and D o) H1 H2 → C i acc H1 → C i acc H2) (st' : ∀ acc H1 H2, Gr p H1 H2 → C xs.length acc H1 → C xs.length acc H2)
    (hw : ∀ x, wipe ((wipe σ vs).set j (some x)) vs = wipe σ vs) (c0 : ∀ H1, C 0 [] H1)
    (he : ∀ (i : Nat) (x : V) D o H1, Gr p H H1 → H1 D = none → xs[i]? = some x → Ev (p.and D o) te ((wipe σ vs).set j (some x)) H1 (A i (p.and D o)))
    (hc : ∀ (i : Nat) (x : V) acc y H1 D o, xs[i]? = some x → Gr p H H1 → Iv (p.and D o) H1 → acc.length = i → C i acc H1 → (A i (p.and D o)).P y H1 → C (i + 1) (acc ++ [y]) H1) :
    Ev p (tLc (iList K ta) (gName j) tYes te vs) σ H (sC C xs.length st') := fun H0 i0 g0 Q q =>
  hx H0 i0 g0 _ fun v H1 i1 g1 bv => by
    obtain ⟨a, rfl, na, ha⟩ := hB v H1 (g0.trans g1) bv
    refine ⟨a, rfl, ⟨xs, SqL.of ha⟩, fun D hD => lc_list (xs := xs) (Cw p H1 D C) (cw0 i1 hD (c0 _)) (fun i H' _ w => SqL.of (w.2.2.2.1 a _ na ha)) (fun i x H' hi w => ?_) fun H' w => q _ H' w.1 (g1.trans w.2.2.2.1) (by obtain ⟨_, _, nD, _, acc, ha, hl, c⟩ := w; exact ⟨D, acc, rfl, nD, ha, hl, c⟩)⟩
    exact ⟨hw _, cw_turn (A := A i) (st D) w (by have := (List.getElem?_eq_some_iff.mp hi).1; omega) (fun o => he i x D o H1 (g0.trans g1) hD hi) fun acc y H2 o g2 i2 hl c2 ay => hc i x acc y H2 D o hi ((g0.trans g1).trans g2) i2 hl c2 ay⟩
/-- over range(n) -/
theorem lcR {lo : Int} {n : Nat} (C : Nat → List V → Hp → Prop) {D : Addr} (st : ∀ o i acc H1 H2, Gr (p.and D o) H1 H2 → C i acc H1 → C i acc H2) (hz : n < 16000000)
    (hw : ∀ x, wipe ((wipe σ vs).set j (some x)) vs = wipe σ vs) (c0 : ∀ H1, C 0 [] H1) {H1 : Hp} (i1 : Iv p H1) (hD : H1 D = none)
    (he : ∀ i o, i < n → Ev (p.and D o) te ((wipe σ vs).set j (some (.int (lo + (i : Nat))))) H1 (A i (p.and D o)))
    (hc : ∀ i acc y H2 o, i < n → Gr p H1 H2 → Iv (p.and D o) H2 → acc.length = i → C i acc H2 → (A i (p.and D o)).P y H2 → C (i + 1) (acc ++ [y]) H2) {Qd : Hp → Prop} (hd : ∀ H', Cw p H1 D C n H' → Qd H') :
    ∃ W : Nat → Nat → Hp → Prop, (∃ m, W 0 m (upd H1 D (.lst []))) ∧ ∀ i m H, W i m H →
      ((Itr lo n).stop i H ∧ Qd H) ∨ ((Itr lo n).go i H ∧ ∃ Nx : Hp → Prop, (∀ H', Nx H' → ∃ m', m' < m ∧ W (i + 1) m' H') ∧ ∀ x H', (Itr lo n).yld i H x H' → gName j x (wipe σ vs) H' fun σ2 H2 => wipe σ2 vs = wipe σ vs ∧ tYes σ2 H2 fun b H3 =>
        if b = true then te σ2 H3 fun y H4 => ∃ acc, H4 D = some (.lst acc) ∧ acc.length < sizeLine ∧ Nx (upd H4 D (.lst (acc ++ [y]))) else Nx H3) :=
  lc_range (lo := lo) (n := n) (Cw p H1 D C) (cw0 i1 hD (c0 _)) (fun i H' hi w => ⟨hw _, cw_turn (A := A i) st w (by omega) (fun o => he i o hi) fun acc y H2 o g2 i2 hl c2 ay => hc i acc y H2 o hi g2 i2 hl c2 ay⟩) hd
theorem lcR1 {n : Int} (hn0 : 0 ≤ n) (hn : n < 16000000) (C : Nat → List V → Hp → Prop) (hx : Ev p ta σ H (sx (.int n))) (st : ∀ D o i acc H1 H2, Gr (p.and D o) H1 H2 → C i acc H1 → C i acc H2) (st' : ∀ acc H1 H2, Gr p H1 H2 → C n.toNat acc H1 → C n.toNat acc H2)
    (hw : ∀ x, wipe ((wipe σ vs).set j (some x)) vs = wipe σ vs) (c0 : ∀ H1, C 0 [] H1)
    (he : ∀ (i : Nat) D o H1, Gr p H H1 → H1 D = none → i < n.toNat → Ev (p.and D o) te ((wipe σ vs).set j (some (.int (0 + (i : Nat))))) H1 (A i (p.and D o)))
    (hc : ∀ i acc y H2 D o, i < n.toNat → Gr p H H2 → Iv (p.and D o) H2 → acc.length = i → C i acc H2 → (A i (p.and D o)).P y H2 → C (i + 1) (acc ++ [y]) H2) :
    Ev p (tLc (iRng1 (tCons ta tNil)) (gName j) tYes te vs) σ H (sC C n.toNat st') := fun H0 i0 g0 Q q =>
  hx H0 i0 g0 _ fun v H1 i1 g1 e => ⟨n, by rw [show v = .int n from e], by omega, by omega, fun D hD => lcR (lo := 0) (A := A) C (st D) (by omega) hw c0 i1 hD (fun i o hi => he i D o H1 (g0.trans g1) hD hi) (fun i acc y H2 o hi g2 i2 hl c2 ay => hc i acc y H2 D o hi ((g0.trans g1).trans g2) i2 hl c2 ay)
    fun H' w => q _ H' w.1 (g1.trans w.2.2.2.1) (by obtain ⟨_, _, nD, _, acc, ha, hl, c⟩ := w; exact ⟨D, acc, rfl, nD, ha, hl, c⟩)⟩
end

/-! ### defs by their names -/
/-- a def of the module that may be called by its name: it keeps the promise sp, by at most level k -/
structure Ca (P : Program) (w : World) (K : PySem.W.Frag) (mg : Str → Option Value) (base : Heap) (k : Nat) (x : Str) (sp : Sp) : Prop where
  ex : ∃ (f : Addr) (fd : FuncData) (ps : List Str), FnOk P w K mg base CX0 k f fd ps sp ∧ mg x = some (.ref f) ∧ PySem.W.keepIn K (.ref f) = true ∧ Binds K fd ps []
/-- a def as the top leaves it -/
structure Df (K : PySem.W.Frag) (mg : Str → Option Value) (x : Str) (st : Stmt) : Prop where
  ex : ∃ (f : Addr) (fd : FuncData), Fun K x x st f fd ∧ mg x = some (.ref f)
section
variable {X : Cx} {k : Nat} {x : Str} {sp : Sp} {p pos : Pos} {e : Expr} {es : List Expr} {t : TA}
theorem pe_ca (c : Ca X.prog X.w X.K X.mg X.base k x sp) (hr : Room k X.A) (hg : Gl X x) (ha : PA X (e :: es) t)
    (hdb : (x == ("__debug__" : Str)) = false := by decide) (he : starEach (e :: es) X.env = (false, eval e X.env) :: starEach es X.env := by rfl) (hpl : (backTo pos (starEach es X.env)).any (·.1) = false := by rfl) :
    PE X (.Call (.Name x p) (e :: es) [] pos) (tCall sp [] E0 t) := by
  obtain ⟨f, fd, ps, F, hm, kp, b⟩ := c.ex
  exact pe_call F hr hg hm kp b .nil pass0 ha hdb he hpl
theorem pe_ca0 (c : Ca X.prog X.w X.K X.mg X.base k x sp) (hr : Room k X.A) (hg : Gl X x) (hdb : (x == ("__debug__" : Str)) = false := by decide) : PE X (.Call (.Name x p) [] [] pos) (tCall sp [] E0 tNil) := by
  obtain ⟨f, fd, ps, F, hm, kp, b⟩ := c.ex
  exact pe_call0 F hr hg hm kp b .nil pass0 hdb
end
section
variable {P : Program} {w : World} {K : PySem.W.Frag} {mg : Str → Option Value} {base : Heap}
theorem ca_mk {x : Str} {st : Stmt} {N ps : List Str} {k : Nat} {sp : Sp} (F : Df K mg x st) (S : FnScope N ps (defScope st))
    (hb : ∀ (kV doc pm : Value) (an : Option Addr) (cdv ct : Value) (us : List Value), us.length = ps.length → bindArgs (PySem.W.fnOf x x (defArgs st) (defBody st) (defScope st) .none kV doc pm an cdv ct) ⟨us, []⟩ = pure (ps.zip us))
    (len : ∀ vs H Q E, sp vs H Q E → vs.length = ps.length)
    (hbody : ∀ (f : Addr) (cdv : Value) (A : Around) (outer : List Env) (s : Shared) (H : Hp) (vs : List V) (Q : VK) (E : XK), Room k (A.deeper (envOfC x (defScope st) s.heap.objs.size f cdv)) → sp vs H Q E →
      ∃ t, PSs (cxOf CX0 P w K mg base N x (defScope st) f cdv A outer s H E).nox (defBody st) t ∧ t { nx := fun _ H' => Q .non H', rt := Q } (start N vs) H) : Ca P w K mg base (k + 1) x sp := by
  obtain ⟨f, fd, F, hm⟩ := F.ex
  exact ⟨f, fd, ps, F.ok S len (fun cdv A outer s H vs Q E hr h => hbody f cdv A outer s H vs Q E hr h), hm, F.kp, F.binds hb⟩
end
end Hk
namespace Hk
open PySem PySem.Spec PyProof.Rows L2

def rLenK (K : PySem.W.Frag) : List V → Hp → VK → Prop := fun xs H Q => ∃ x n, xs = [x] ∧ LenV K x H n ∧ Q (.int n) H
section
variable {p : Vo} {σ : L2.St} {H : Hp} {K : PySem.W.Frag} {te ta tb tc : TE} {tr : TA} {j : Nat} {vs : List Nat} {B C : Sy p} {v x y : V}
/-! ### comprehensions with known items -/
theorem take_turn {ys acc : List V} {i : Nat} {y : V} (h : acc = ys.take i) (hy : ys[i]? = some y) : acc ++ [y] = ys.take (i + 1) := by
  rw [h, List.take_add_one, hy]
  rfl
theorem slx_of {ys : List V} {n : Nat} (hn : n = ys.length) {st} {v : V} {H1 : Hp} (h : (sC (p := p) (fun i acc _ => acc = ys.take i) n st).P v H1) : (slx (p := p) ys).P v H1 := by
  obtain ⟨a, ws, e1, e2, e3, e4, e5⟩ := h
  refine ⟨a, ws, e1, e2, e3, ?_⟩
  rw [e5, hn, List.take_length]
theorem lcSx {z : Str} (f : Nat → V) (hx : Ev p ta σ H (sx (.str z))) (hz : z.cps.size < 16000000) (hw : ∀ x, wipe ((wipe σ vs).set j (some x)) vs = wipe σ vs)
    (he : ∀ (c : Nat) (q : Vo) H1, c ∈ z.cps.toList → Ev q te ((wipe σ vs).set j (some (.str ⟨#[c]⟩))) H1 (sx (f c))) : Ev p (tLc (iStr ta) (gName j) tYes te vs) σ H (slx (z.cps.toList.map f)) :=
  (lcS (A := fun i q => ⟨fun y _ => (z.cps.toList.map f)[i]? = some y, fun _ _ _ _ h => h⟩) (fun i acc _ => acc = (z.cps.toList.map f).take i) hx hz (fun _ _ _ _ _ _ _ h => h) (fun _ _ _ _ h => h) hw (fun _ => rfl)
    (fun i c D o hi => (he c _ H (List.mem_of_getElem? hi)).imp fun y _ e => by rw [show y = f c from e, List.getElem?_map, hi]; rfl) (fun i c acc y H1 D o hi g iv hl ha hy => take_turn ha hy)).imp fun v H1 h => slx_of (by rw [List.length_map, Array.length_toList]) h
theorem lcTx {xs ys : List V} (hx : Ev p ta σ H B) (hB : ∀ v H1, Gr p H H1 → B.P v H1 → ∃ a, v = .ref a ∧ Nv p a ∧ H1 a = some (.tup xs)) (hz : xs.length < 16000000) (hl : ys.length = xs.length) (hw : ∀ x, wipe ((wipe σ vs).set j (some x)) vs = wipe σ vs)
    (he : ∀ (i : Nat) (x y : V) D o H1, Gr p H H1 → H1 D = none → xs[i]? = some x → ys[i]? = some y → Ev (p.and D o) te ((wipe σ vs).set j (some x)) H1 (sx y)) : Ev p (tLc (iTup K ta) (gName j) tYes te vs) σ H (slx ys) :=
  (lcT (A := fun i q => ⟨fun y _ => ys[i]? = some y, fun _ _ _ _ h => h⟩) (fun i acc _ => acc = ys.take i) hx hB hz (fun _ _ _ _ _ _ _ h => h) (fun _ _ _ _ h => h) hw (fun _ => rfl)
    (fun i x D o H1 g hD hi => by
      have h2 : i < ys.length := by rw [hl]; exact (List.getElem?_eq_some_iff.mp hi).1
      exact (he i x ys[i] D o H1 g hD hi (List.getElem?_eq_getElem h2)).imp fun y _ e => by rw [show y = ys[i] from e]; exact List.getElem?_eq_getElem h2) (fun i c acc y H1 D o hi g iv hl ha hy => take_turn ha hy)).imp fun v H1 h => slx_of hl.symm h
theorem lcLx {xs ys : List V} (hx : Ev p ta σ H B) (hB : ∀ v H1, Gr p H H1 → B.P v H1 → ∃ a, v = .ref a ∧ Nv p a ∧ H1 a = some (.lst xs)) (hz : xs.length < 16000000) (hl : ys.length = xs.length) (hw : ∀ x, wipe ((wipe σ vs).set j (some x)) vs = wipe σ vs)
    (he : ∀ (i : Nat) (x y : V) D o H1, Gr p H H1 → H1 D = none → xs[i]? = some x → ys[i]? = some y → Ev (p.and D o) te ((wipe σ vs).set j (some x)) H1 (sx y)) : Ev p (tLc (iList K ta) (gName j) tYes te vs) σ H (slx ys) :=
  (lcL (A := fun i q => ⟨fun y _ => ys[i]? = some y, fun _ _ _ _ h => h⟩) (fun i acc _ => acc = ys.take i) hx hB hz (fun _ _ _ _ _ _ _ h => h) (fun _ _ _ _ h => h) hw (fun _ => rfl)
    (fun i x D o H1 g hD hi => by
      have h2 : i < ys.length := by rw [hl]; exact (List.getElem?_eq_some_iff.mp hi).1
      exact (he i x ys[i] D o H1 g hD hi (List.getElem?_eq_getElem h2)).imp fun y _ e => by rw [show y = ys[i] from e]; exact List.getElem?_eq_getElem h2) (fun i c acc y H1 D o hi g iv hl ha hy => take_turn ha hy)).imp fun v H1 h => slx_of hl.symm h
theorem x_all {bs : List Bool} (h : Ev p ta σ H (slx (bs.map V.bl))) : Ev p (tCB (rAll K) (tCons ta tNil)) σ H (sx (.bl (bs.all id))) := e_cb (a_cons h a_nil) fun vs H1 iv g os => by
  obtain ⟨v, ws, rfl, ⟨a, zs, rfl, na, ha, rfl⟩, rfl⟩ := os
  exact rv iv rfl fun Q q => ⟨a, bs, rfl, SqL.of ha, q⟩

/-! ### operations on known values -/
theorem x_inS {c : Nat} {z : Str} (ha : Ev p ta σ H (sx (.str ⟨#[c]⟩))) (hb : Ev p tb σ H (sx (.str z))) : Ev p (tOp (rInU K) ta tb) σ H (sx (.bl (decide (c ∈ z.cps.toList)))) :=
  e_op ha hb fun x y H1 iv g ex ey => rv iv rfl fun Q q => .inl ⟨c, z, ex, ey, q⟩
/-- x in, not in a list or a tuple of flat things -/
theorem x_inQ {xs : List V} (ha : Ev p ta σ H (sx v)) (hv : flatV v = true) (hb : Ev p tb σ H B) (hB : ∀ v H1, Gr p H H1 → B.P v H1 → ∃ a, v = .ref a ∧ (SqL K H1 a xs ∨ SqT K H1 a xs)) (hf : xs.all flatV = true) : Ev p (tOp (rInU K) ta tb) σ H (sx (.bl (inV v xs))) :=
  e_op ha hb fun x y H1 iv g ex ey => by
    obtain ⟨a, rfl, h⟩ := hB y H1 g ey
    obtain rfl : x = v := ex
    exact rv iv rfl fun Q q => .inr ⟨a, xs, rfl, h, hv, hf, q⟩
theorem x_ninQ {xs : List V} (ha : Ev p ta σ H (sx v)) (hv : flatV v = true) (hb : Ev p tb σ H B) (hB : ∀ v H1, Gr p H H1 → B.P v H1 → ∃ a, v = .ref a ∧ (SqL K H1 a xs ∨ SqT K H1 a xs)) (hf : xs.all flatV = true) : Ev p (tOp (rNinU K) ta tb) σ H (sx (.bl (!inV v xs))) :=
  e_op ha hb fun x y H1 iv g ex ey => by
    obtain ⟨a, rfl, h⟩ := hB y H1 g ey
    obtain rfl : x = v := ex
    exact rv iv rfl fun Q q => .inr ⟨a, xs, rfl, h, hv, hf, q⟩
theorem x_eq (ha : Ev p ta σ H (sx x)) (hb : Ev p tb σ H (sx y)) (hs : scal x y = true) : Ev p (tOp rEq ta tb) σ H (sx (.bl (decide (x = y)))) :=
  e_op ha hb fun x' y' H1 iv g ex ey => by
    obtain rfl : x' = x := ex
    obtain rfl : y' = y := ey
    exact rv iv rfl fun Q q => ⟨hs, q⟩
theorem x_ne (ha : Ev p ta σ H (sx x)) (hb : Ev p tb σ H (sx y)) (hs : scal x y = true) : Ev p (tOp rNe ta tb) σ H (sx (.bl (!decide (x = y)))) :=
  e_op ha hb fun x' y' H1 iv g ex ey => by
    obtain rfl : x' = x := ex
    obtain rfl : y' = y := ey
    exact rv iv rfl fun Q q => ⟨hs, q⟩
theorem x_ii {g : Int → Int → V} {i j : Int} (ha : Ev p ta σ H (sx (.int i))) (hb : Ev p tb σ H (sx (.int j))) : Ev p (tOp (rI0 g) ta tb) σ H (sx (g i j)) :=
  e_op ha hb fun x' y' H1 iv gg ex ey => rv iv rfl fun Q q => ⟨i, j, ex, ey, q⟩
theorem x_ic {c : Int → Int → Prop} {g : Int → Int → V} {i j : Int} (ha : Ev p ta σ H (sx (.int i))) (hb : Ev p tb σ H (sx (.int j))) (hc : c i j) : Ev p (tOp (rI c g) ta tb) σ H (sx (g i j)) :=
  e_op ha hb fun x' y' H1 iv gg ex ey => rv iv rfl fun Q q => ⟨i, j, ex, ey, hc, q⟩
theorem x_addI {i j : Int} (ha : Ev p ta σ H (sx (.int i))) (hb : Ev p tb σ H (sx (.int j))) : Ev p (tOp rAddU ta tb) σ H (sx (.int (i + j))) :=
  e_op ha hb fun x' y' H1 iv gg ex ey => rv iv rfl fun Q q => .inl ⟨i, j, ex, ey, q⟩
theorem x_addS {i j : Str} (ha : Ev p ta σ H (sx (.str i))) (hb : Ev p tb σ H (sx (.str j))) (hz : i.length + j.length ≤ sizeLine) : Ev p (tOp rAddU ta tb) σ H (sx (.str (i ++ j))) :=
  e_op ha hb fun x' y' H1 iv gg ex ey => rv iv rfl fun Q q => .inr (.inl ⟨i, j, ex, ey, hz, q⟩)
theorem x_neg {i : Int} (ha : Ev p ta σ H (sx (.int i))) : Ev p (tUn (rU fun i => .int (-i)) ta) σ H (sx (.int (-i))) := e_un ha fun x H1 iv g e => rv iv rfl fun Q q => ⟨i, e, q⟩
theorem x_len {s : Str} (ha : Ev p ta σ H (sx (.str s))) (hz : s.length ≤ sizeLine) : Ev p (tCB (rLenK K) (tCons ta tNil)) σ H (sx (.int s.length)) := e_cb (a_cons ha a_nil) fun vs H1 iv g os => by
  obtain ⟨v, ws, rfl, rfl, rfl⟩ := os
  exact rv iv rfl fun Q q => ⟨_, _, rfl, ⟨hz, rfl⟩, q⟩
theorem x_lenQ {xs : List V} (ha : Ev p ta σ H B) (hB : ∀ v H1, Gr p H H1 → B.P v H1 → ∃ a, v = .ref a ∧ (SqL K H1 a xs ∨ SqT K H1 a xs)) : Ev p (tCB (rLenK K) (tCons ta tNil)) σ H (sx (.int xs.length)) := e_cb (a_cons ha a_nil) fun vs H1 iv g os => by
  obtain ⟨v, ws, rfl, hv, rfl⟩ := os
  obtain ⟨a, rfl, h⟩ := hB v H1 g hv
  exact rv iv rfl fun Q q => ⟨_, _, rfl, h.elim (fun h => .inl ⟨xs, h, rfl⟩) fun h => .inr ⟨xs, h, rfl⟩, q⟩
theorem x_isi {a b : String} {r : Bool} (ha : Ev p ta σ H (sx v)) (ht : ∀ H1, Gr p H H1 → TyX K H1 v (.type a)) (hr : kitB a b = some r) : Ev p (tCB (rIsi K) (tCons ta (tCons (tC (.ty b)) tNil))) σ H (sx (.bl r)) :=
  e_cb (a_cons ha (a_cons e_cx a_nil)) fun vs H1 iv g os => by
    obtain ⟨v', ws, rfl, ev, c, ws', rfl, ec, rfl⟩ := os
    obtain rfl : v' = v := ev
    obtain rfl : c = .ty b := ec
    exact rv iv rfl fun Q q => ⟨_, _, _, _, _, rfl, .ty b, ht H1 g, kit_ty hr, q⟩
theorem x_isN (ha : Ev p ta σ H (sx x)) : Ev p (tOp (fun x y H Q => y = .non ∧ Q (.bl (decide (x = .non))) H) ta (tC .non)) σ H (sx (.bl (decide (x = .non)))) :=
  e_op ha e_cx fun x' y' H1 iv g ex ey => by
    obtain rfl : x' = x := ex
    exact rv iv rfl fun Q q => ⟨ey, q⟩
/-- an item of a text, of a list, of a tuple -/
theorem x_ixS {s : Str} {i : Int} {c : Nat} (ha : Ev p ta σ H (sx (.str s))) (hb : Ev p tb σ H (sx (.int i))) (hz : s.length ≤ sizeLine) (hc : atI s.cps.toList i = some c) : Ev p (tOp (rIx K) ta tb) σ H (sx (.str ⟨#[c]⟩)) :=
  e_op ha hb fun x' y' H1 iv g ex ey => rv iv rfl fun Q q => .inr (.inr ⟨s, i, c, ex, ey, hz, hc, q⟩)
theorem x_ixQ {xs : List V} {i : Int} (ha : Ev p ta σ H B) (hB : ∀ v H1, Gr p H H1 → B.P v H1 → ∃ a, v = .ref a ∧ (SqL K H1 a xs ∨ SqT K H1 a xs)) (hb : Ev p tb σ H (sx (.int i))) (hc : atI xs i = some v) : Ev p (tOp (rIx K) ta tb) σ H (sx v) :=
  e_op ha hb fun x' y' H1 iv g ex ey => by
    obtain ⟨a, rfl, h⟩ := hB x' H1 g ex
    exact rv iv rfl fun Q q => h.elim (fun h => .inl ⟨a, xs, i, v, rfl, ey, h, hc, q⟩) fun h => .inr (.inl ⟨a, xs, i, v, rfl, ey, h, hc, q⟩)
/-- a part of a text -/
theorem x_slS {s : Str} {tl th : TO} {lo hi : Option Int} (ha : Ev p ta σ H (sx (.str s))) (hl : ∀ H (Q : Option Int → Hp → Prop), Q lo H → tl σ H Q) (hh : ∀ H (Q : Option Int → Hp → Prop), Q hi H → th σ H Q) (hz : s.length ≤ sizeLine) : Ev p (tSl (rSlU K) ta tl th) σ H (sx (.str (cutS s lo hi))) :=
  fun H1 i g Q q => ha H1 i g _ fun v H2 i2 g2 e => hl H2 _ (hh H2 _ (.inr ⟨s, e, hz, q _ H2 i2 g2 rfl⟩))
/-- a part of a tuple, not the whole of it: a new one -/
theorem x_slT {xs : List V} {tl th : TO} {lo hi : Option Int} (ha : Ev p ta σ H B) (hB : ∀ v H1, Gr p H H1 → B.P v H1 → ∃ a, v = .ref a ∧ SqT K H1 a xs) (hl : ∀ H (Q : Option Int → Hp → Prop), Q lo H → tl σ H Q) (hh : ∀ H (Q : Option Int → Hp → Prop), Q hi H → th σ H Q) (hn : ¬ (HT.sIx xs.length 0 lo = 0 ∧ HT.sIx xs.length xs.length hi = xs.length)) :
    Ev p (tSl (rSlU K) ta tl th) σ H (stx (cutV xs lo hi)) :=
  fun H1 i g Q q => ha H1 i g _ fun v H2 i2 g2 e => by
    obtain ⟨a, rfl, h⟩ := hB v H2 (g.trans g2) e
    exact hl H2 _ (hh H2 _ (.inl ⟨a, xs, rfl, h, hn, fun b hb => q _ _ (i2.new hb) (g2.trans (Gr.new hb)) ⟨b, _, rfl, i2.ne hb, upd_same, rfl⟩⟩))
theorem o_none {H : Hp} {Q : Option Int → Hp → Prop} (q : Q none H) : tNoPart σ H Q := q
theorem o_int {i : Int} {H : Hp} {Q : Option Int → Hp → Prop} (q : Q (some i) H) : tPart (tC (.int i)) σ H Q := ⟨i, rfl, q⟩
theorem o_var {i : Int} {k : Nat} (h : σ[k]? = some (some (.int i))) {H : Hp} {Q : Option Int → Hp → Prop} (q : Q (some i) H) : tPart (tVar k) σ H Q := ⟨.int i, h, i, rfl, q⟩
/-- a display, its items known -/
def xs_ : List V → List (Sy p) := List.map sx
theorem oks_x : ∀ {ws vs : List V} {H : Hp}, Oks (p := p) (ws.map sx) vs H → vs = ws
  | [], _, _, h => h
  | w :: ws, _, _, ⟨v, us, h1, h2, h3⟩ => by rw [h1, oks_x h3, show v = w from h2]
theorem x_lst {ws : List V} (h : EvA p tr σ H (ws.map sx)) (hn : ws.length ≤ sizeLine) : Ev p (tLst tr) σ H (slx ws) := e_lst h (by rw [List.length_map]; exact hn) fun vs a H1 iv g os na ha => ⟨a, vs, rfl, na, ha, oks_x os⟩
theorem x_tup {ws : List V} (h : EvA p tr σ H (ws.map sx)) (hn : ws.length ≤ sizeLine) : Ev p (tTup tr) σ H (stx ws) := e_tup h (by rw [List.length_map]; exact hn) fun vs a H1 iv g os na ha => ⟨a, vs, rfl, na, ha, oks_x os⟩
/-- a call of a def that keeps all: its answer known -/
def Pu (sp : Sp) (vs : List V) (H : Hp) (v : V) : Prop := ∀ (Q : VK) (E : XK), (∀ H', Gr Vo.non H H' → Q v H') → sp vs H Q E
theorem x_call {sp : Sp} {ws : List V} {v : V} (h : EvA p tr σ H (ws.map sx)) (hs : ∀ H1, Gr p H H1 → Pu sp ws H1 v) : Ev p (tCall sp [] E0 tr) σ H (sx v) := e_call h fun vs H1 iv g os => by
  rw [oks_x os]
  exact fun Q q => hs H1 g Q E0 fun H' e => q v H' (iv.grow e) e.pure rfl
theorem sq_l {xs : List V} : ∀ v H1, Gr p H H1 → (slx (p := p) xs).P v H1 → ∃ a, v = .ref a ∧ (SqL K H1 a xs ∨ SqT K H1 a xs) := fun v H1 _ ⟨a, ws, e1, _, e3, e4⟩ => ⟨a, e1, .inl (SqL.of (by rw [e3, e4]))⟩
theorem sq_t {xs : List V} : ∀ v H1, Gr p H H1 → (stx (p := p) xs).P v H1 → ∃ a, v = .ref a ∧ (SqL K H1 a xs ∨ SqT K H1 a xs) := fun v H1 _ ⟨a, ws, e1, _, e3, e4⟩ => ⟨a, e1, .inr (SqT.of (by rw [e3, e4]))⟩
theorem sq_k {xs : List V} {a : Addr} (h : ∀ H, SqT K H a xs) : ∀ v H1, Gr p H H1 → (sx (p := p) (.ref a)).P v H1 → ∃ a, v = .ref a ∧ (SqL K H1 a xs ∨ SqT K H1 a xs) := fun v H1 _ e => ⟨a, e, .inr (h H1)⟩
theorem sq_h {xs : List V} {a : Addr} (n : Nv p a) (h : H a = some (.tup xs)) : ∀ v H1, Gr p H H1 → (sx (p := p) (.ref a)).P v H1 → ∃ a, v = .ref a ∧ (SqL K H1 a xs ∨ SqT K H1 a xs) := fun v H1 g e => ⟨a, e, .inr (SqT.of (g a _ n h))⟩
end

/-! ### data -/
inductive D where
  | non | bl (b : Bool) | int (i : Int) | str (s : Str) | tup (ds : List D) | lst | dct
inductive Dat (p : Vo) (H : Hp) : V → D → Prop
  | non : Dat p H .non .non
  | bl (b : Bool) : Dat p H (.bl b) (.bl b)
  | int (i : Int) : Dat p H (.int i) (.int i)
  | str (s : Str) (hz : s.length ≤ 100000) : Dat p H (.str s) (.str s)
  | tup {a : Addr} {vs : List V} {ds : List D} (n : Nv p a) (h : H a = some (.tup vs)) (l : vs.length = ds.length) (hz : vs.length ≤ 100000) (r : ∀ (i : Nat) (v : V) (d : D), vs[i]? = some v → ds[i]? = some d → Dat p H v d) : Dat p H (.ref a) (.tup ds)
  | lst {a : Addr} {vs : List V} (n : Nv p a) (h : H a = some (.lst vs)) : Dat p H (.ref a) .lst
  | dct {a : Addr} {kvs : List (Key × V)} (n : Nv p a) (h : H a = some (.dK kvs)) : Dat p H (.ref a) .dct
theorem Dat.gr {p : Vo} {H H' : Hp} {v : V} {d : D} (x : Dat p H v d) (g : Gr p H H') : Dat p H' v d := by
  induction x with
  | non => exact .non
  | bl b => exact .bl b
  | int i => exact .int i
  | str s hz => exact .str s hz
  | tup n h l hz r ih => exact .tup n (g _ _ n h) l hz ih
  | lst n h => exact .lst n (g _ _ n h)
  | dct n h => exact .dct n (g _ _ n h)
theorem Dat.of {p q : Vo} {H : Hp} {v : V} {d : D} (x : Dat p H v d) (k : ∀ a, Nv p a → Nv q a) : Dat q H v d := by
  induction x with
  | non => exact .non
  | bl b => exact .bl b
  | int i => exact .int i
  | str s hz => exact .str s hz
  | tup n h l hz r ih => exact .tup (k _ n) h l hz ih
  | lst n h => exact .lst (k _ n) h
  | dct n h => exact .dct (k _ n) h
theorem Dat.non' {p : Vo} {H : Hp} {v : V} {d : D} (x : Dat p H v d) : Dat Vo.non H v d := x.of fun a _ => nv_non a
theorem Dat.and {p : Vo} {H : Hp} {v : V} {d : D} {E : Addr} {o : HO} (x : Dat p H v d) (e : H E = none) : Dat (p.and E o) H v d := by
  induction x with
  | non => exact .non
  | bl b => exact .bl b
  | int i => exact .int i
  | str s hz => exact .str s hz
  | tup n h l hz r ih => exact .tup (n.and (ne_of_none h e).symm) h l hz ih
  | lst n h => exact .lst (n.and (ne_of_none h e).symm) h
  | dct n h => exact .dct (n.and (ne_of_none h e).symm) h
theorem Dat.back {p : Vo} {H : Hp} {v : V} {d : D} {E : Addr} {o : HO} (x : Dat (p.and E o) H v d) : Dat p H v d := x.of fun a n => n.back
def D.ty : D → String
  | .non => "NoneType"
  | .bl _ => "bool"
  | .int _ => "int"
  | .str _ => "str"
  | .tup _ => "tuple"
  | .lst => "list"
  | .dct => "dict"
theorem Dat.tyx {p : Vo} {K : PySem.W.Frag} {H : Hp} {v : V} {d : D} (x : Dat p H v d) : TyX K H v (.type d.ty) := by
  cases x with
  | non => exact .base .non
  | bl b => exact .base (.bl b)
  | int i => exact .base (.int i)
  | str s hz => exact .base (.str s)
  | tup n h l hz r => exact .base (.tup h)
  | lst n h => exact .base (.lst h)
  | dct n h => exact .base (.dK h)
def D.isS : D → Bool
  | .str _ => true
  | _ => false
def D.isT : D → Bool
  | .tup _ => true
  | _ => false
def D.isB : D → Bool
  | .bl _ => true
  | _ => false
def D.isI : D → Bool
  | .int _ => true
  | .bl _ => true
  | _ => false
theorem kit_s (d : D) : kitB d.ty "str" = some d.isS := by cases d <;> (simp only [D.ty, D.isS]; decide +kernel)
theorem kit_t (d : D) : kitB d.ty "tuple" = some d.isT := by cases d <;> (simp only [D.ty, D.isT]; decide +kernel)
theorem kit_b (d : D) : kitB d.ty "bool" = some d.isB := by cases d <;> (simp only [D.ty, D.isB]; decide +kernel)
theorem kit_i (d : D) : kitB d.ty "int" = some d.isI := by cases d <;> (simp only [D.ty, D.isI]; decide +kernel)
/-- some datum | this datum -/
def sd (p : Vo) : Sy p := ⟨fun v H => ∃ d, Dat p H v d, fun v H H' g ⟨d, h⟩ => ⟨d, h.gr g⟩⟩
theorem x_isiD {p : Vo} {σ : L2.St} {H : Hp} {K : PySem.W.Frag} {ta : TE} {v : V} {d : D} {b : String} {r : Bool} (ha : Ev p ta σ H (sx v)) (hd : Dat p H v d) (hr : kitB d.ty b = some r) : Ev p (tCB (rIsi K) (tCons ta (tCons (tC (.ty b)) tNil))) σ H (sx (.bl r)) :=
  x_isi ha (fun H1 g => (hd.gr g).tyx) hr
end Hk
namespace Hk
open PySem PySem.Spec PyProof.Rows L2
section
variable {p : Vo} {σ : L2.St} {H : Hp} {K : PySem.W.Frag} {te ta tb tc : TE} {tr : TA} {j : Nat} {vs : List Nat} {B C : Sy p} {v x y : V}
theorem allS {z : Str} (f : Nat → Bool) (hx : Ev p ta σ H (sx (.str z))) (hz : z.length ≤ 100000) (hw : ∀ x, wipe ((wipe σ vs).set j (some x)) vs = wipe σ vs)
    (he : ∀ (c : Nat) (q : Vo) H1, c ∈ z.cps.toList → Ev q te ((wipe σ vs).set j (some (.str ⟨#[c]⟩))) H1 (sx (.bl (f c)))) : Ev p (tCB (rAll K) (tCons (tLc (iStr ta) (gName j) tYes te vs) tNil)) σ H (sx (.bl (z.cps.toList.all f))) := by
  have h := lcSx (vs := vs) (j := j) (te := te) (fun c => .bl (f c)) hx (by have : z.cps.size ≤ 100000 := hz; omega) hw he
  have e : z.cps.toList.map (fun c => V.bl (f c)) = (z.cps.toList.map f).map V.bl := by rw [List.map_map] <;> rfl
  rw [e] at h
  refine x_to (x_all h) ?_
  rw [List.all_map] <;> rfl
theorem allT {xs : List V} {ds : List D} (f : D → Bool) (hx : Ev p ta σ H B) (hB : ∀ v H1, Gr p H H1 → B.P v H1 → ∃ a, v = .ref a ∧ Nv p a ∧ H1 a = some (.tup xs)) (hz : xs.length ≤ 100000) (hl : xs.length = ds.length) (hw : ∀ x, wipe ((wipe σ vs).set j (some x)) vs = wipe σ vs)
    (he : ∀ (i : Nat) (x : V) (d : D) E o H1, Gr p H H1 → H1 E = none → xs[i]? = some x → ds[i]? = some d → Ev (p.and E o) te ((wipe σ vs).set j (some x)) H1 (sx (.bl (f d)))) : Ev p (tCB (rAll K) (tCons (tLc (iTup K ta) (gName j) tYes te vs) tNil)) σ H (sx (.bl (ds.all f))) := by
  have h := lcTx (K := K) (vs := vs) (j := j) (te := te) (ys := (ds.map f).map V.bl) hx hB (by omega) (by rw [List.length_map, List.length_map, hl]) hw fun i x y E o H1 g hE h1 h2 => by
    rw [List.getElem?_map, List.getElem?_map] at h2
    cases hd : ds[i]? with
    | none => rw [hd] at h2; cases h2
    | some d =>
      rw [hd] at h2
      have e : V.bl (f d) = y := Option.some.inj h2
      rw [← e]
      exact he i x d E o H1 g hE h1 hd
  refine x_to (x_all h) ?_
  rw [List.all_map] <;> rfl
theorem allL {xs : List V} {ds : List D} (f : D → Bool) (hx : Ev p ta σ H B) (hB : ∀ v H1, Gr p H H1 → B.P v H1 → ∃ a, v = .ref a ∧ Nv p a ∧ H1 a = some (.lst xs)) (hz : xs.length ≤ 100000) (hl : xs.length = ds.length) (hw : ∀ x, wipe ((wipe σ vs).set j (some x)) vs = wipe σ vs)
    (he : ∀ (i : Nat) (x : V) (d : D) E o H1, Gr p H H1 → H1 E = none → xs[i]? = some x → ds[i]? = some d → Ev (p.and E o) te ((wipe σ vs).set j (some x)) H1 (sx (.bl (f d)))) : Ev p (tCB (rAll K) (tCons (tLc (iList K ta) (gName j) tYes te vs) tNil)) σ H (sx (.bl (ds.all f))) := by
  have h := lcLx (K := K) (vs := vs) (j := j) (te := te) (ys := (ds.map f).map V.bl) hx hB (by omega) (by rw [List.length_map, List.length_map, hl]) hw fun i x y E o H1 g hE h1 h2 => by
    rw [List.getElem?_map, List.getElem?_map] at h2
    cases hd : ds[i]? with
    | none => rw [hd] at h2; cases h2
    | some d =>
      rw [hd] at h2
      have e : V.bl (f d) = y := Option.some.inj h2
      rw [← e]
      exact he i x d E o H1 g hE h1 hd
  refine x_to (x_all h) ?_
  rw [List.all_map] <;> rfl
theorem big {n : Nat} (h : n ≤ 100000) : n ≤ sizeLine := by rw [sizeLine_eq]; omega
theorem x_leI {i j : Int} (ha : Ev p ta σ H (sx (.int i))) (hb : Ev p tb σ H (sx (.int j))) : Ev p (tOp rLeU ta tb) σ H (sx (.bl (decide (i ≤ j)))) :=
  e_op ha hb fun x' y' H1 iv gg ex ey => rv iv rfl fun Q q => .inl ⟨i, j, ex, ey, q⟩
theorem x_leS {i j : Str} (ha : Ev p ta σ H (sx (.str i))) (hb : Ev p tb σ H (sx (.str j))) : Ev p (tOp rLeU ta tb) σ H (sx (.bl (!decide (j.cps.toList < i.cps.toList)))) :=
  e_op ha hb fun x' y' H1 iv gg ex ey => rv iv rfl fun Q q => .inr ⟨i, j, ex, ey, q⟩
/-- chains over known values -/
theorem x_chainI {r r' : R2} {i j k : Int} {g g' : Int → Int → Bool} (ha : Ev p ta σ H (sx (.int i))) (hb : Ev p tb σ H (sx (.int j))) (hc : Ev p tc σ H (sx (.int k)))
    (hr : ∀ H1, Iv p H1 → Rv p (r (.int i) (.int j)) H1 (sx (.bl (g i j)))) (hr' : ∀ H1, Iv p H1 → Rv p (r' (.int j) (.int k)) H1 (sx (.bl (g' j k)))) : Ev p (tChain r r' ta tb tc) σ H (sx (.bl (g i j && g' j k))) :=
  x_chain ha hb (fun _ => hc) (fun x y H1 iv gg ex ey => by rw [show x = _ from ex, show y = _ from ey]; exact hr H1 iv) fun _ y z H1 iv gg ey ez => by rw [show y = _ from ey, show z = _ from ez]; exact hr' H1 iv
theorem r_leI {i j : Int} {H1 : Hp} (iv : Iv p H1) : Rv p (rLeU (.int i) (.int j)) H1 (sx (.bl (decide (i ≤ j)))) := rv iv rfl fun Q q => .inl ⟨i, j, rfl, rfl, q⟩
theorem r_ltI {i j : Int} {H1 : Hp} (iv : Iv p H1) : Rv p (rI0 (fun i j => .bl (decide (i < j))) (.int i) (.int j)) H1 (sx (.bl (decide (i < j)))) := rv iv rfl fun Q q => ⟨i, j, rfl, rfl, q⟩
theorem r_leS {i j : Str} {H1 : Hp} (iv : Iv p H1) : Rv p (rLeU (.str i) (.str j)) H1 (sx (.bl (!decide (j.cps.toList < i.cps.toList)))) := rv iv rfl fun Q q => .inr ⟨i, j, rfl, rfl, q⟩
theorem x_chainS {r r' : R2} {i j k : Str} {g g' : Str → Str → Bool} (ha : Ev p ta σ H (sx (.str i))) (hb : Ev p tb σ H (sx (.str j))) (hc : Ev p tc σ H (sx (.str k)))
    (hr : ∀ H1, Iv p H1 → Rv p (r (.str i) (.str j)) H1 (sx (.bl (g i j)))) (hr' : ∀ H1, Iv p H1 → Rv p (r' (.str j) (.str k)) H1 (sx (.bl (g' j k)))) : Ev p (tChain r r' ta tb tc) σ H (sx (.bl (g i j && g' j k))) :=
  x_chain ha hb (fun _ => hc) (fun x y H1 iv gg ex ey => by rw [show x = _ from ex, show y = _ from ey]; exact hr H1 iv) fun _ y z H1 iv gg ey ez => by rw [show y = _ from ey, show z = _ from ez]; exact hr' H1 iv
/-- a chain as a test -/
theorem k_chain {r r' : R2} {a b : Bool} (h : Ev p (tChain r r' ta tb tc) σ H (sx (.bl (a && b)))) : Tis p (tTest (tChain r r' ta tb tc)) σ H (a && b) := k_test h
theorem x_ord {c : Nat} (ha : Ev p ta σ H (sx (.str ⟨#[c]⟩))) : Ev p (tCB (fun xs H Q => ∃ x : Str, xs = [.str x] ∧ x.length = 1 ∧ Q (.int (x.cps.getD 0 0 : Nat)) H) (tCons ta tNil)) σ H (sx (.int c)) := e_cb (a_cons ha a_nil) fun vs H1 iv g os => by
  obtain ⟨v, ws, rfl, rfl, rfl⟩ := os
  exact rv iv rfl fun Q q => ⟨⟨#[c]⟩, rfl, rfl, q⟩
/-- the ways of an if that end with a return each -/
theorem s_ifr {D : Ends} {t : TT} {te : TE} {b : Bool} {v : V} (iv : Iv p H) (h : Tis p t σ H b) (h1 : b = true → Ev p te σ H (sx v)) (k1 : b = true → ∀ H1, Iv p H1 → Gr p H H1 → D.rt v H1) (k2 : b = false → ∀ H1, Iv p H1 → Gr p H H1 → D.nx σ H1) : tIfS t (tRet te) tNext D σ H :=
  s_ifx iv h (fun e H1 i g => s_ret i ((h1 e).mono g) fun w H2 i2 g2 ew => by rw [show w = v from ew]; exact k1 e H2 i2 (g.trans g2)) fun e H1 i g => k2 e H1 i g
theorem s_retx {D : Ends} {te : TE} {v : V} (iv : Iv p H) (h : Ev p te σ H (sx v)) (k : ∀ H1, Iv p H1 → Gr p H H1 → D.rt v H1) : tRet te D σ H := s_ret iv h fun w H1 i g e => by rw [show w = v from e]; exact k H1 i g
/-- the same with what follows -/
theorem q_ifr {D : Ends} {t : TT} {te : TE} {u : TS} {b : Bool} {v : V} (iv : Iv p H) (h : Tis p t σ H b) (h1 : b = true → Ev p te σ H (sx v)) (k1 : b = true → ∀ H1, Iv p H1 → Gr p H H1 → D.rt v H1) (k2 : b = false → ∀ H1, Iv p H1 → Gr p H H1 → u D σ H1) : tSeq (tIfS t (tRet te) tNext) u D σ H :=
  s_ifr (D := { D with nx := u D }) iv h h1 k1 k2
theorem q_ifS {D : Ends} {t : TT} {te : TE} {u : TS} {b : Bool} {A : Sy p} (iv : Iv p H) (h : Tis p t σ H b) (h1 : b = true → Ev p te σ H A) (k1 : b = true → ∀ v H1, Iv p H1 → Gr p H H1 → A.P v H1 → D.rt v H1) (k2 : b = false → ∀ H1, Iv p H1 → Gr p H H1 → u D σ H1) : tSeq (tIfS t (tRet te) tNext) u D σ H :=
  s_ifx (D := { D with nx := u D }) iv h (fun e H1 i g => s_ret i ((h1 e).mono g) fun w H2 i2 g2 ew => k1 e w H2 i2 (g.trans g2) ew) fun e H1 i g => k2 e H1 i g
theorem q_asg {D : Ends} {te : TE} {u : TS} {i : Nat} {A : Sy p} (iv : Iv p H) (h : Ev p te σ H A) (k : ∀ v H1, Iv p H1 → Gr p H H1 → A.P v H1 → u D (σ.set i (some v)) H1) : tSeq (tAsg te (gName i)) u D σ H :=
  s_asg (D := { D with nx := u D }) iv h k
theorem q_asgx {D : Ends} {te : TE} {u : TS} {i : Nat} {v : V} (iv : Iv p H) (h : Ev p te σ H (sx v)) (k : ∀ H1, Iv p H1 → Gr p H H1 → u D (σ.set i (some v)) H1) : tSeq (tAsg te (gName i)) u D σ H :=
  q_asg iv h fun w H1 i g e => by rw [show w = v from e]; exact k H1 i g
theorem q_if {D : Ends} {t : TT} {tu tw u : TS} {B : Bool → Prop} (iv : Iv p H) (h : EvT p t σ H B) (h1 : B true → ∀ H1, Iv p H1 → Gr p H H1 → tu { D with nx := u D } σ H1) (h2 : B false → ∀ H1, Iv p H1 → Gr p H H1 → tw { D with nx := u D } σ H1) : tSeq (tIfS t tu tw) u D σ H :=
  s_if (D := { D with nx := u D }) iv h h1 h2
end

/-! ### the rules that read the written part, with it by name -/
section
variable {X : Cx} {K : PySem.W.Frag}
theorem inU (h : X.K = K) : OpR X (compareOp .In) (rInU K) := h ▸ op_inU
theorem ninU (h : X.K = K) : OpR X (compareOp .NotIn) (rNinU K) := h ▸ op_ninU
theorem slU (h : X.K = K) : SlR X (rSlU K) := h ▸ sl_U
theorem ixU (h : X.K = K) : IxR X (rIx K) := h ▸ ix_seq
theorem lenU (h : X.K = K) : CallR X (.builtin "len") (rLenK K) := h ▸ call_len
theorem isiU (h : X.K = K) : CallR X (.builtin "isinstance") (rIsi K) := h ▸ call_isi
theorem allU (hc : X.calm = true) (h : X.K = K) : CallR X (.builtin "all") (rAll K) := h ▸ cr_all hc
theorem sortedU (h : X.K = K) : CallR X (.builtin "sorted") (rSortedS K) := h ▸ cr_sortedS
def rTupK (K : PySem.W.Frag) : List V → Hp → VK → Prop := fun xs H Q => ∃ p ys, xs = [.ref p] ∧ ((SqL K H p ys ∧ ∀ l, H l = none → Q (.ref l) (upd H l (.tup ys))) ∨ (SqT K H p ys ∧ Q (.ref p) H))
theorem tupU (h : X.K = K) : CallR X (.type "tuple") (rTupK K) := h ▸ call_tuple_of
theorem reprK (hg : X.A.guards = some []) (hu : X.A.units + 3 < cLine) (h : X.K = K) : CallR X (.builtin "repr") (rRepr K) := h ▸ call_reprU hg hu
end

/-- a constant of the module, by what it holds -/
theorem pe_gc {X : Cx} {x : Str} {v : V} {pos : Pos} (hg : Gl X x) (h : ∃ u, X.mg x = some u ∧ RelV v u) (hd : (x == ("__debug__" : Str)) = false := by decide) : PE X (.Name x pos) (tC v) := by
  obtain ⟨u, hm, r⟩ := h
  exact pe_glob hg hm r hd
end Hk
namespace Hk
open PySem PySem.Spec PyProof.Rows L2
/-! ### defs that draw from the pot: promised over whatever else may change -/
def spP (Ar : Addr → List V → Vo → Hp → Prop) (A : List V → ∀ p : Vo, Sy p) : Sp := fun vs H Q _ => ∃ p a, p.pot = some a ∧ Iv p H ∧ Ar a vs p H ∧ ∀ v H', Iv p H' → Gr p H H' → (A vs p).P v H' → Q v H'
section
variable {p : Vo} {σ : L2.St} {H : Hp} {K : PySem.W.Frag} {te ta tb tc : TE} {tr : TA} {j : Nat} {vs : List Nat} {A B C : Sy p} {v x y : V} {a : Addr}
theorem e_callP {Ar : Addr → List V → Vo → Hp → Prop} {F : List V → ∀ p : Vo, Sy p} {As : List (Sy p)} (hp : p.pot = some a) (h : EvA p tr σ H As) (ho : ∀ vs H1, Gr p H H1 → Iv p H1 → Oks As vs H1 → Ar a vs p H1 ∧ ∀ v H2, (F vs p).P v H2 → B.P v H2) : Ev p (tCall (spP Ar F) [] E0 tr) σ H B := e_call h fun vs H1 iv g os Q q => by
  obtain ⟨h1, h2⟩ := ho vs H1 g iv os
  exact ⟨p, a, hp, iv, h1, fun v H' i' g' h' => q v H' i' g' (h2 v H' h')⟩
/-- a draw below n -/
def arD : Addr → List V → Vo → Hp → Prop := fun a vs _ _ => ∃ n : Int, vs = [.ref a, .int n] ∧ 0 < n ∧ n < 1073741824
def rsD : List V → ∀ p : Vo, Sy p := fun vs p => si fun r => ∃ n, vs[1]? = some (.int n) ∧ 0 ≤ r ∧ r < n
abbrev spDraw : Sp := spP arD rsD
theorem e_draw {c : Int → Prop} (hp : p.pot = some a) (ha : Ev p ta σ H (sx (.ref a))) (hb : Ev p tb σ H (si c)) (hc : ∀ n, c n → 0 < n ∧ n < 1073741824) : Ev p (tCall spDraw [] E0 (tCons ta (tCons tb tNil))) σ H (si fun r => ∃ n, c n ∧ 0 ≤ r ∧ r < n) :=
  e_callP hp (a_cons ha (a_cons hb a_nil)) fun vs H1 g iv os => by
    obtain ⟨v, ws, rfl, ev, v2, ws2, rfl, ⟨n, rfl, hn⟩, rfl⟩ := os
    obtain rfl : v = .ref a := ev
    refine ⟨⟨n, rfl, (hc n hn).1, (hc n hn).2⟩, fun w H2 ⟨r, e, m, em, h0, h1⟩ => ⟨r, e, n, hn, h0, ?_⟩⟩
    have : V.int n = .int m := Option.some.inj em
    cases this
    exact h1
theorem e_drawN {n : Int} (hp : p.pot = some a) (ha : Ev p ta σ H (sx (.ref a))) (hb : Ev p tb σ H (sx (.int n))) (h0 : 0 < n) (h1 : n < 1073741824) : Ev p (tCall spDraw [] E0 (tCons ta (tCons tb tNil))) σ H (si fun r => 0 ≤ r ∧ r < n) :=
  (e_draw (c := fun m => m = n) hp ha (hb.imp fun v _ e => ⟨n, e, rfl⟩) fun m e => by rw [e]; exact ⟨h0, h1⟩).imp fun v _ ⟨r, e, m, em, h⟩ => ⟨r, e, by rw [← em]; exact h⟩
/-! ### items by a drawn place -/
theorem at_of {α : Type} {xs : List α} {i : Int} {k : Nat} {v : α} (e : i = (k : Int)) (h : xs[k]? = some v) : atI xs i = some v := by
  rw [e]
  exact atI_nat h
theorem at_in {ws : List V} {i : Int} (h0 : 0 ≤ i) (h1 : i < (ws.length : Int)) : ∃ v ∈ ws, atI ws i = some v := by
  have hk : i.toNat < ws.length := by omega
  exact ⟨ws[i.toNat], List.getElem_mem hk, at_of (k := i.toNat) (by omega) (List.getElem?_eq_getElem hk)⟩
theorem e_ixL {n : Int} {P : List V → Hp → Prop} {hP} (ha : Ev p ta σ H (sl P hP)) (hb : Ev p tb σ H (si fun r => 0 ≤ r ∧ r < n)) (hn : ∀ ws H1, P ws H1 → n ≤ (ws.length : Int)) (hv : ∀ ws v H1, P ws H1 → v ∈ ws → C.P v H1) : Ev p (tOp (rIx K) ta tb) σ H C :=
  e_op ha hb fun x y H1 iv g ⟨b, ws, e, nb, hb, hw⟩ ⟨i, ei, h0, h1⟩ => by
    obtain ⟨v, hm, hat⟩ := at_in h0 (show i < (ws.length : Int) by have := hn ws H1 hw; omega)
    exact rv iv (hv ws v H1 hw hm) fun Q q => .inl ⟨b, ws, i, v, e, ei, SqL.of hb, hat, q⟩
theorem e_ixS {n : Int} {s : Str} (ha : Ev p ta σ H (sx (.str s))) (hb : Ev p tb σ H (si fun r => 0 ≤ r ∧ r < n)) (hn : n ≤ (s.length : Int)) (hz : s.length ≤ 100000) : Ev p (tOp (rIx K) ta tb) σ H (ss fun z => z.length = 1) :=
  e_op ha hb fun x y H1 iv g ex ⟨i, ei, h0, h1⟩ => by
    have el : s.cps.toList.length = s.length := by rw [Array.length_toList]; rfl
    have hk : i.toNat < s.cps.toList.length := by omega
    have hat : atI s.cps.toList i = some s.cps.toList[i.toNat] := at_of (k := i.toNat) (by omega) (List.getElem?_eq_getElem hk)
    exact rv iv ⟨_, rfl, rfl⟩ fun Q q => .inr (.inr ⟨s, i, _, ex, ei, big hz, hat, q⟩)
theorem e_addS {c d : Nat} (ha : Ev p ta σ H (ss fun z => z.length ≤ c)) (hb : Ev p tb σ H (ss fun z => z.length ≤ d)) (hz : c + d ≤ 100000) : Ev p (tOp rAddU ta tb) σ H (ss fun z => z.length ≤ c + d) :=
  e_op ha hb fun x y H1 iv g ⟨z, ez, hz1⟩ ⟨z', ez', hz2⟩ => rv iv ⟨z ++ z', rfl, by show (z ++ z').length ≤ c + d; rw [Str.length_append]; exact Nat.add_le_add hz1 hz2⟩ fun Q q => .inr (.inl ⟨z, z', ez, ez', big (Nat.le_trans (Nat.add_le_add hz1 hz2) hz), q⟩)
theorem e_slS {s : Str} {tl th : TO} {lo hi : Option Int} (ha : Ev p ta σ H (sx (.str s))) (hl : ∀ H (Q : Option Int → Hp → Prop), Q lo H → tl σ H Q) (hh : ∀ H (Q : Option Int → Hp → Prop), Q hi H → th σ H Q) (hz : s.length ≤ 100000) : Ev p (tSl (rSlU K) ta tl th) σ H (ss fun z => z.length ≤ s.length) :=
  (x_slS ha hl hh (big hz)).imp fun v _ e => ⟨_, e, by
    unfold cutS
    show (((s.cps.toList.drop _).take _).toArray).size ≤ _
    rw [List.size_toArray, List.length_take, List.length_drop, Array.length_toList]
    exact Nat.le_trans (Nat.min_le_right _ _) (Nat.sub_le _ _)⟩
theorem e_ssx {s : Str} {c : Str → Prop} (h : Ev p ta σ H (sx (.str s))) (hc : c s) : Ev p ta σ H (ss c) := h.imp fun v _ e => ⟨s, e, hc⟩
theorem e_sxi {i : Int} {c : Int → Prop} (h : Ev p ta σ H (sx (.int i))) (hc : c i) : Ev p ta σ H (si c) := h.imp fun v _ e => ⟨i, e, hc⟩
theorem e_addI {c d e : Int → Prop} (ha : Ev p ta σ H (si c)) (hb : Ev p tb σ H (si d)) (hc : ∀ i j, c i → d j → e (i + j)) : Ev p (tOp rAddU ta tb) σ H (si e) :=
  e_op ha hb fun x y H1 iv g ⟨i, ei, hi⟩ ⟨j, ej, hj⟩ => rv iv ⟨i + j, rfl, hc i j hi hj⟩ fun Q q => .inl ⟨i, j, ei, ej, q⟩
/-! ### data, many -/
/-- a list of n data -/
def slD (p : Vo) (c : Nat → Prop) : Sy p := sl (fun ws H => c ws.length ∧ ∀ v ∈ ws, (sd p).P v H) fun ws H H' e h => ⟨h.1, fun v hv => (sd p).st v H H' e (h.2 v hv)⟩
def EvD (p : Vo) (ta : TA) (σ : L2.St) (H : Hp) (n : Nat) : Prop := ∀ H1, Iv p H1 → Gr p H H1 → ∀ Q : List V → Hp → Prop, (∀ vs H2, Iv p H2 → Gr p H1 H2 → vs.length = n → (∀ v ∈ vs, (sd p).P v H2) → Q vs H2) → ta σ H1 Q
theorem d_nil : EvD p tNil σ H 0 := fun H1 i _ _ q => q [] H1 i (Gr.refl H1) rfl fun v h => (nomatch h)
theorem d_cons {n : Nat} (h : Ev p te σ H (sd p)) (hr : EvD p tr σ H n) : EvD p (tCons te tr) σ H (n + 1) := fun H1 i g Q q =>
  h H1 i g _ fun x H2 i2 g2 ax => hr H2 i2 (g.trans g2) _ fun vs H3 i3 g3 hl os => q (x :: vs) H3 i3 (g2.trans g3) (by rw [List.length_cons, hl]) fun v hv => by
    rcases List.mem_cons.mp hv with e | e
    · rw [e]
      exact (sd p).st x _ _ g3 ax
    · exact os v e
theorem ds_of {H : Hp} : ∀ {ws : List V}, (∀ v ∈ ws, ∃ d, Dat p H v d) → ∃ ds : List D, ws.length = ds.length ∧ ∀ (i : Nat) (v : V) (d : D), ws[i]? = some v → ds[i]? = some d → Dat p H v d
  | [], _ => ⟨[], rfl, fun i v d h => by cases h⟩
  | w :: ws, h => by
    obtain ⟨d0, h0⟩ := h w List.mem_cons_self
    obtain ⟨ds, hl, hr⟩ := ds_of (ws := ws) fun v hv => h v (List.mem_cons_of_mem _ hv)
    refine ⟨d0 :: ds, by rw [List.length_cons, List.length_cons, hl], fun i v d h1 h2 => ?_⟩
    cases i with
    | zero =>
      have e1 : w = v := Option.some.inj h1
      have e2 : d0 = d := Option.some.inj h2
      rw [← e1, ← e2]
      exact h0
    | succ i => exact hr i v d h1 h2
theorem d_lst {n : Nat} (h : EvD p tr σ H n) (hn : n ≤ 100000) : Ev p (tLst tr) σ H (slD p fun m => m = n) := fun H1 i g Q q =>
  h H1 i g _ fun vs H2 i2 g2 hl os => ⟨by rw [hl]; exact big hn, fun b hb => q _ _ (i2.new hb) (g2.trans (Gr.new hb)) ⟨b, vs, rfl, i2.ne hb, upd_same, hl, fun v hv => (sd p).st v _ _ (Gr.new hb) (os v hv)⟩⟩
theorem d_tup {n : Nat} (h : EvD p tr σ H n) (hn : n ≤ 100000) : Ev p (tTup tr) σ H (sd p) := fun H1 i g Q q =>
  h H1 i g _ fun vs H2 i2 g2 hl os => ⟨by rw [hl]; exact big hn, fun b hb => q _ _ (i2.new hb) (g2.trans (Gr.new hb)) (by
    obtain ⟨ds, l, r⟩ := ds_of os
    exact ⟨.tup ds, .tup (i2.ne hb) upd_same l (by omega) fun i v d h1 h2 => (r i v d h1 h2).gr (Gr.new hb)⟩)⟩
theorem d_int {i : Int} (h : Ev p te σ H (sx (.int i))) : Ev p te σ H (sd p) := h.imp fun v H e => ⟨.int i, by rw [show v = _ from e]; exact .int i⟩
theorem d_c {v : V} {d : D} (h : ∀ H, Dat p H v d) : Ev p (tC v) σ H (sd p) := e_c ⟨d, h H⟩
theorem d_i {i : Int} : Ev p (tC (.int i)) σ H (sd p) := d_c fun H => .int i
theorem d_b {b : Bool} : Ev p (tC (.bl b)) σ H (sd p) := d_c fun H => .bl b
theorem d_n : Ev p (tC .non) σ H (sd p) := d_c fun H => .non
theorem d_s {s : Str} (hz : s.length ≤ 100000) : Ev p (tC (.str s)) σ H (sd p) := d_c fun H => .str s hz
theorem d_ss {c : Nat} (h : Ev p te σ H (ss fun z => z.length ≤ c)) (hc : c ≤ 100000) : Ev p te σ H (sd p) := h.imp fun v H ⟨z, e, hz⟩ => ⟨.str z, by rw [e]; exact .str z (by omega)⟩
theorem d_l {n : Nat} (h : EvD p tr σ H n) (hn : n ≤ 100000) : Ev p (tLst tr) σ H (sd p) := (d_lst h hn).imp fun v H ⟨b, ws, e, nb, hb, _⟩ => ⟨.lst, by rw [e]; exact .lst nb hb⟩
theorem d_cat {c d e : Nat → Prop} (ha : Ev p ta σ H (slD p c)) (hb : Ev p tb σ H (slD p d)) (hc : ∀ n m, c n → d m → e (n + m) ∧ n + m ≤ 100000) : Ev p (tOp rAddU ta tb) σ H (slD p e) :=
  e_op ha hb fun x y H1 iv g ⟨b, ws, e1, nb, h1, hl, hw⟩ ⟨b', ws', e2, nb', h2, hl', hw'⟩ => rv_new iv (o := .lst (ws ++ ws')) (fun q nq hq i' g' => ⟨q, _, rfl, nq, upd_same, by rw [List.length_append]; exact (hc _ _ hl hl').1, fun v hv => by
    rcases List.mem_append.mp hv with m | m
    · exact (sd p).st v _ _ g' (hw v m)
    · exact (sd p).st v _ _ g' (hw' v m)⟩) fun Q q => .inr (.inr ⟨b, b', ws, ws', e1, e2, h1, h2, big (hc _ _ hl hl').2, q⟩)
theorem d_ix {n : Int} {c : Nat → Prop} (ha : Ev p ta σ H (slD p c)) (hb : Ev p tb σ H (si fun r => 0 ≤ r ∧ r < n)) (hn : ∀ m, c m → n ≤ (m : Int)) : Ev p (tOp (rIx K) ta tb) σ H (sd p) :=
  e_ixL ha hb (fun ws H1 h => hn _ h.1) fun ws v H1 h m => h.2 v m
theorem d_tuple {c : Nat → Prop} (ha : Ev p ta σ H (slD p c)) (hc : ∀ m, c m → m ≤ 100000) : Ev p (tCB (rTupK K) (tCons ta tNil)) σ H (sd p) := e_cb (a_cons ha a_nil) fun vs H1 iv g os => by
  obtain ⟨v, us, rfl, ⟨b, ws, rfl, nb, h1, hl, hw⟩, rfl⟩ := os
  refine rv_new iv (o := .tup ws) (fun q nq hq i' g' => ?_) fun Q q => ⟨b, ws, rfl, .inl ⟨SqL.of h1, q⟩⟩
  obtain ⟨ds, l, r⟩ := ds_of hw
  exact ⟨.tup ds, .tup nq upd_same l (hc _ hl) fun i v d h1 h2 => (r i v d h1 h2).gr g'⟩
theorem d_var {i : Nat} (h : σ[i]? = some (some v)) (a : (sd p).P v H) : Ev p (tVar i) σ H (sd p) := e_var h a
/-- a comprehension over a range whose items are data -/
theorem d_lcR {N : Nat} (hx : Ev p ta σ H (si fun n => 0 ≤ n ∧ n ≤ (N : Int))) (hN : N ≤ 100000) (hw : ∀ x, wipe ((wipe σ vs).set j (some x)) vs = wipe σ vs)
    (he : ∀ (i : Nat) D o H1, Gr p H H1 → H1 D = none → Ev (p.and D o) te ((wipe σ vs).set j (some (.int (0 + (i : Nat))))) H1 (sd (p.and D o))) : Ev p (tLc (iRng1 (tCons ta tNil)) (gName j) tYes te vs) σ H (slD p fun m => m ≤ N) := fun H0 i0 g0 Q q =>
  hx H0 i0 g0 _ fun v H1 i1 g1 ⟨n, ev, n0, n1⟩ => ⟨n, by rw [ev], by omega, by omega, fun D hD => lcR (lo := 0) (A := fun _ q => sd q) (fun _ acc H => ∀ v ∈ acc, ∃ d, Dat (p.and D (.lst [])) H v d) (fun o i acc H2 H3 g h v hv => by
      obtain ⟨d, hd⟩ := h v hv
      exact ⟨d, (Dat.gr (hd.of fun b (nb : Nv (p.and D (.lst [])) b) => (nb.back.and nb.ne : Nv (p.and D o) b)) g).of fun b (nb : Nv (p.and D o) b) => nb.back.and nb.ne⟩)
    (by omega) hw (fun _ v h => (nomatch h)) i1 hD (fun i o hi => he i D o H1 (g0.trans g1) hD) (fun i acc y H2 o hi g2 i2 hl ha hy v hv => by
      rcases List.mem_append.mp hv with m | m
      · exact ha v m
      · obtain rfl := List.mem_singleton.mp m
        obtain ⟨d, hd⟩ := hy
        exact ⟨d, hd.of fun b (nb : Nv (p.and D o) b) => nb.back.and nb.ne⟩)
    fun H' w => q _ H' w.1 (g1.trans w.2.2.2.1) (by
      obtain ⟨_, _, nD, _, acc, ha, hl, c⟩ := w
      exact ⟨D, acc, rfl, nD, ha, by omega, fun v hv => by obtain ⟨d, hd⟩ := c v hv; exact ⟨d, hd.back⟩⟩)⟩
/-- .. whose items are texts of one sign -/
theorem s_lcR {N : Nat} {P : Str → Prop} (hx : Ev p ta σ H (si fun n => 0 ≤ n ∧ n ≤ (N : Int))) (hN : N ≤ 100000) (hw : ∀ x, wipe ((wipe σ vs).set j (some x)) vs = wipe σ vs)
    (he : ∀ (i : Nat) D o H1, Gr p H H1 → H1 D = none → Ev (p.and D o) te ((wipe σ vs).set j (some (.int (0 + (i : Nat))))) H1 (ss P)) : Ev p (tLc (iRng1 (tCons ta tNil)) (gName j) tYes te vs) σ H (sl (fun ws _ => ws.length ≤ N ∧ ∃ zs : List Str, ws = zs.map V.str ∧ ∀ z ∈ zs, P z) fun _ _ _ _ h => h) := fun H0 i0 g0 Q q =>
  hx H0 i0 g0 _ fun v H1 i1 g1 ⟨n, ev, n0, n1⟩ => ⟨n, by rw [ev], by omega, by omega, fun D hD => lcR (lo := 0) (A := fun _ q => ss P) (fun _ acc _ => ∃ zs : List Str, acc = zs.map V.str ∧ ∀ z ∈ zs, P z) (fun o i acc H2 H3 g h => h)
    (by omega) hw (fun _ => ⟨[], rfl, fun z h => (nomatch h)⟩) i1 hD (fun i o hi => he i D o H1 (g0.trans g1) hD) (fun i acc y H2 o hi g2 i2 hl ha hy => by
      obtain ⟨zs, rfl, hz⟩ := ha
      obtain ⟨z, rfl, hp⟩ := hy
      exact ⟨zs ++ [z], by rw [List.map_append]; rfl, fun t ht => (List.mem_append.mp ht).elim (hz t) fun m => by rw [List.mem_singleton.mp m]; exact hp⟩)
    fun H' w => q _ H' w.1 (g1.trans w.2.2.2.1) (by
      obtain ⟨_, _, nD, _, acc, ha, hl, c⟩ := w
      exact ⟨D, acc, rfl, nD, ha, by omega, c⟩)⟩
/-- a new list is handed back: it was not there -/
theorem s_retN {D : Ends} {As : List (Sy p)} (iv : Iv p H) (h : EvA p tr σ H As) (hn : As.length ≤ 100000) (k : ∀ vs b H1, Iv p H1 → Gr p H H1 → H1 b = none → Oks As vs H1 → D.rt (.ref b) (upd H1 b (.lst vs))) : tRet (tLst tr) D σ H :=
  h H iv (Gr.refl H) _ fun vs H1 i1 g1 os => ⟨by rw [os.len]; exact big hn, fun b hb => k vs b H1 i1 g1 hb os⟩
/-- an if that only stores, what follows proved once -/
theorem q_ifj {D : Ends} {t : TT} {tu u : TS} {B : Bool → Prop} (Mid : L2.St → Hp → Prop) (iv : Iv p H) (h : EvT p t σ H B) (h1 : ∀ N : L2.St → Hp → Prop, (∀ σ' H', Mid σ' H' → N σ' H') → B true → ∀ H1, Iv p H1 → Gr p H H1 → tu { D with nx := N } σ H1) (h2 : B false → ∀ H1, Iv p H1 → Gr p H H1 → Mid σ H1) (k : ∀ σ' H', Mid σ' H' → u D σ' H') : tSeq (tIfS t tu tNext) u D σ H :=
  s_if (D := { D with nx := u D }) iv h (fun b H1 i g => h1 (u D) k b H1 i g) fun b H1 i g => k _ _ (h2 b H1 i g)
end
end Hk
namespace Hk
open PySem PySem.Spec PyProof.Rows L2
/-! ### promises that hold where nothing is being shown (repr marks what it stands in): no guard around -/
structure FnG (P : Program) (w : World) (K : PySem.W.Frag) (mg : Str → Option Value) (base : Heap) (k : Nat) (f : Addr) (fd : FuncData) (ps : List Str) (sp : Sp) : Prop where
  len : ∀ vs H Q E, sp vs H Q E → vs.length = ps.length
  run : ∀ (A : Around) (st : List Env) (s : Shared) (H : Hp) (ag : Args) (us : List Value) (vs : List V) (Q : VK) (E : XK), A.guards = some [] → Room k A → Env0 P w K mg base A st s H → BindsTo s fd ag (ps.zip us) → Vals vs us → sp vs H Q E →
    codeAny (model P w) A (.call (.ref f) ag) (CR CX0 st P w H s Q E) s
section
variable {P : Program} {w : World} {K : PySem.W.Frag} {mg : Str → Option Value} {base : Heap} {k : Nat}
theorem fnG_mk {x q : Str} {st : Stmt} {f : Addr} {fd : FuncData} {N ps : List Str} {sp : Sp} (F : Fun K x q st f fd) (S : FnScope N ps (defScope st)) (len : ∀ vs H Q E, sp vs H Q E → vs.length = ps.length)
    (body : ∀ (cdv : Value) (A : Around) (outer : List Env) (s : Shared) (H : Hp) (vs : List V) (Q : VK) (E : XK), (A.deeper (envOfC q (defScope st) s.heap.objs.size f cdv)).guards = some [] → Room k (A.deeper (envOfC q (defScope st) s.heap.objs.size f cdv)) → sp vs H Q E →
      ∃ t, PSs (cxOf CX0 P w K mg base N q (defScope st) f cdv A outer s H E).nox (defBody st) t ∧ t { nx := fun _ H' => Q .non H', rt := Q } (start N vs) H) : FnG P w K mg base (k + 1) f fd ps sp := by
  obtain ⟨oc, od, kV, doc, pm, an, cdv, ct, osl, rfl, lk, hcd⟩ := F.ex
  constructor
  · exact len
  intro A outer s H ag us vs Q E hgd room e0 hb rel hsp
  have inK : K.In s.heap := e0.mod.kin.keeps fun b o z => (e0.bs b o z).1
  have kinds : ∀ y ∈ ps.zip us, (defScope st).names.lookup y.1 = some .local ∨ ((defScope st).names.lookup y.1 = some .cell ∧ ((cellsFrom (s.heap.objs.size + 1) (defScope st).names []).lookup y.1).isSome = true) := by
    rintro ⟨n, v⟩ hy
    exact (S.par n (List.of_mem_zip hy).1).elim Or.inl fun z => Or.inr ⟨z, PySem.W.cellsFrom_some _ _ _ (.inl z)⟩
  apply codeAny_call_function room.depth (inK _ _ lk) rfl S.co S.gen rfl (PySem.W.codeRec_of inK hcd) (hb _ _ _ _ ?_)
  apply wpAny_newFunctionEnv_cells S.kind kinds
  intro env henv s1 ent
  cases henv
  have nolim : s.heap.NoLimit := e0.mod.nolimit.keeps fun b o z => (e0.bs b o z).1
  refine And.intro (nolim.keeps ent.toInCall.keep) (codeAny_func ?_)
  obtain ⟨t, pt, tq⟩ := body cdv A outer s H vs Q E hgd (room.deeper _) hsp
  have inv := inv_start (CX := CX0) (E := E) S room.hd e0 (len _ _ _ _ hsp) rel ent
  refine wpAny_mono (pt.nox.run [] s1 (start N vs) H _ inv tq) ?_ (fun e s' z => z)
  intro fl s' z
  match fl, z with
  | .ret u, ⟨v, σ', H', J, rv, qq⟩ => exact ⟨v, H', J.os, J.bare, J.base, J.hok, rv, qq⟩
  | .next, ⟨σ', H', J, qq⟩ => exact ⟨V.non, H', J.os, J.bare, J.base, J.hok, rfl, qq⟩
  | .brk, ⟨_, _, _, qq⟩ => exact qq.elim
  | .cont, ⟨_, _, _, qq⟩ => exact qq.elim
/-- such a def, by its name -/
structure CaG (P : Program) (w : World) (K : PySem.W.Frag) (mg : Str → Option Value) (base : Heap) (k : Nat) (x : Str) (sp : Sp) : Prop where
  ex : ∃ (f : Addr) (fd : FuncData) (ps : List Str), FnG P w K mg base k f fd ps sp ∧ mg x = some (.ref f) ∧ PySem.W.keepIn K (.ref f) = true ∧ Binds K fd ps []
theorem caG_mk {x : Str} {st : Stmt} {N ps : List Str} {sp : Sp} (F : Df K mg x st) (S : FnScope N ps (defScope st))
    (hb : ∀ (kV doc pm : Value) (an : Option Addr) (cdv ct : Value) (us : List Value), us.length = ps.length → bindArgs (PySem.W.fnOf x x (defArgs st) (defBody st) (defScope st) .none kV doc pm an cdv ct) ⟨us, []⟩ = pure (ps.zip us))
    (len : ∀ vs H Q E, sp vs H Q E → vs.length = ps.length)
    (body : ∀ (f : Addr) (cdv : Value) (A : Around) (outer : List Env) (s : Shared) (H : Hp) (vs : List V) (Q : VK) (E : XK), (A.deeper (envOfC x (defScope st) s.heap.objs.size f cdv)).guards = some [] → Room k (A.deeper (envOfC x (defScope st) s.heap.objs.size f cdv)) → sp vs H Q E →
      ∃ t, PSs (cxOf CX0 P w K mg base N x (defScope st) f cdv A outer s H E).nox (defBody st) t ∧ t { nx := fun _ H' => Q .non H', rt := Q } (start N vs) H) : CaG P w K mg base (k + 1) x sp := by
  obtain ⟨f, fd, F, hm⟩ := F.ex
  exact ⟨f, fd, ps, fnG_mk F S len fun cdv A outer s H vs Q E hgd hr h => body f cdv A outer s H vs Q E hgd hr h, hm, F.kp, F.binds hb⟩
end
section
variable {X : Cx} {k : Nat} {x : Str} {sp : Sp} {p pos : Pos} {e : Expr} {es : List Expr} {t : TA}
theorem pe_cg (c : CaG X.prog X.w X.K X.mg X.base k x sp) (hgd : X.A.guards = some []) (hr : Room k X.A) (hg : Gl X x) (ha : PA X (e :: es) t)
    (hdb : (x == ("__debug__" : Str)) = false := by decide) (he : starEach (e :: es) X.env = (false, eval e X.env) :: starEach es X.env := by rfl) (hpl : (backTo pos (starEach es X.env)).any (·.1) = false := by rfl) :
    PE X (.Call (.Name x p) (e :: es) [] pos) (tCall sp [] E0 t) := by
  obtain ⟨f, fd, ps, F, hm, kp, b⟩ := c.ex
  constructor
  intro pins s σ H Q I h
  refine wpAny_Call_Name_kw (ld_glob I hg hm ?_ hdb)
  apply PySem.W.callWith_K (h₀ := X.base) I.ok.mod.kin kp _ he hpl
  refine thn (ha.run pos pins s σ H _ I h) ?_
  rintro us s1 ⟨vs, H1, I1, rel, qq⟩
  refine ⟨I1.kIn, wpAny_call (codeAny_mono (F.run X.A X.stack s1 H1 ⟨us, []⟩ (us ++ []) (vs ++ []) Q E0 hgd hr I1.env0 (b s1 us I1.kIn ?_) (rel.append .nil) qq) ?_)⟩
  · have := F.len _ _ _ _ qq
    rw [← this, List.length_append, List.length_append, rel.length]
    rfl
  · intro r s' z
    match r, z with
    | .error e, z => exact z.elim
    | .ok (.ret u), z => exact I1.after z
    | .ok .next, z => exact z.elim
    | .ok .brk, z => exact z.elim
    | .ok .cont, z => exact z.elim
end
end Hk
namespace Hk
open PySem PySem.Spec PyProof.Rows L2
/-! ### values of tuples within tuples: repr, == -/
inductive Py (p : Vo) (H : Hp) : V → PyData → Prop
  | non : Py p H .non .none
  | bl (b : Bool) : Py p H (.bl b) (.bool b)
  | int (i : Int) : Py p H (.int i) (.int i)
  | str (x : Str) : Py p H (.str x) (.str x)
  | tup {a : Addr} {vs : List V} {ds : List PyData} (n : Nv p a) (h : H a = some (.tup vs)) (l : vs.length = ds.length) (r : ∀ (i : Nat) (v : V) (d : PyData), vs[i]? = some v → ds[i]? = some d → Py p H v d) : Py p H (.ref a) (.tuple ds)
theorem Py.gr {p : Vo} {H H' : Hp} {v : V} {d : PyData} (x : Py p H v d) (g : Gr p H H') : Py p H' v d := by
  induction x with
  | non => exact .non
  | bl b => exact .bl b
  | int i => exact .int i
  | str s => exact .str s
  | tup n h l r ih => exact .tup n (g _ _ n h) l ih
theorem Py.of {p q : Vo} {H : Hp} {v : V} {d : PyData} (x : Py p H v d) (k : ∀ a, Nv p a → Nv q a) : Py q H v d := by
  induction x with
  | non => exact .non
  | bl b => exact .bl b
  | int i => exact .int i
  | str s => exact .str s
  | tup n h l r ih => exact .tup (k _ n) h l ih
theorem Py.non' {p : Vo} {H : Hp} {v : V} {d : PyData} (x : Py p H v d) : Py Vo.non H v d := x.of fun a _ => nv_non a
theorem Py.and {p : Vo} {H : Hp} {v : V} {d : PyData} {E : Addr} {o : HO} (x : Py p H v d) (e : H E = none) : Py (p.and E o) H v d := by
  induction x with
  | non => exact .non
  | bl b => exact .bl b
  | int i => exact .int i
  | str s => exact .str s
  | tup n h l r ih => exact .tup (n.and (ne_of_none h e).symm) h l ih
theorem Py.back {p : Vo} {H : Hp} {v : V} {d : PyData} {E : Addr} {o : HO} (x : Py (p.and E o) H v d) : Py p H v d := x.of fun a n => n.back
theorem vals_at : ∀ {vs : List V} {us : List Value} {i : Nat} {u : Value}, Vals vs us → us[i]? = some u → ∃ v, vs[i]? = some v ∧ RelV v u
  | _, _, _, _, .nil, e => by cases e
  | _, _, 0, _, .cons r k, e => ⟨_, rfl, by rw [← Option.some.inj e]; exact r⟩
  | _, _, i + 1, _, .cons r k, e => vals_at (i := i) k e
theorem readsAll_at {h : Heap} : ∀ {us : List Value} {ds : List PyData}, us.length = ds.length → (∀ (i : Nat) (u : Value) (d : PyData), us[i]? = some u → ds[i]? = some d → Reads h u d []) → ReadsAll h us ds []
  | [], [], _, _ => .nil
  | [], _ :: _, l, _ => by cases l
  | _ :: _, [], l, _ => by cases l
  | u :: us, d :: ds, l, k => .cons (as := []) (bs := []) (k 0 u d rfl rfl) (readsAll_at (by rw [List.length_cons, List.length_cons] at l; omega) fun i u' d' h1 h2 => k (i + 1) u' d' h1 h2)
section
variable {X : Cx}
theorem Py.reads {pins : List (Addr × Obj)} {s : Shared} {σ : L2.St} {p : Vo} {H : Hp} {v : V} {d : PyData} (I : Inv X pins σ H s) (x : Py p H v d) : ∀ {u : Value}, RelV v u → Reads s.heap u d [] := by
  induction x with
  | non => intro u r; cases (show u = Value.none from r); exact .none
  | bl b => intro u r; cases (show u = Value.bool b from r); exact .bool b
  | int i => intro u r; obtain ⟨t, rfl⟩ := (show ∃ t, u = Value.int i t from r); exact .int i t
  | str z => intro u r; obtain ⟨t, rfl⟩ := (show ∃ t, u = Value.str z t from r); exact .str z t
  | tup n h l r ih =>
    intro u ru
    rename_i a vs ds
    cases (show u = Value.ref a from ru)
    obtain ⟨its, rv, ⟨o, e1, e2, n, e4⟩, _⟩ := I.tuple (SqT.of h)
    refine .tuple e1 e2 e4 ?_
    rw [List.toList_toArray]
    exact readsAll_at (rv.length.symm.trans l) fun i u d h1 h2 => by
      obtain ⟨v, hv, r'⟩ := vals_at rv h1
      exact ih i v d hv h2 r'
/-- the repr of such a value -/
def rReprP : List V → Hp → VK → Prop := fun xs H Q => ∃ (v : V) (d : PyData), xs = [v] ∧ Py Vo.non H v d ∧ d.showable = true ∧ d.hasDict = false ∧ d.depth ≤ 20 ∧ d.shown.length ≤ sizeLine ∧ Q (.str d.shown) H
theorem call_reprP (hg : X.A.guards = some []) (hu : X.A.units + 64 < cLine) : CallR X (.builtin "repr") rReprP := by
  intro pins s σ H xs us Q I r h
  obtain ⟨v, d, rfl, x, h1, h2, h3, h4, q⟩ := h
  obtain ⟨u, rfl, rx⟩ := vals1 r
  have rd := x.reads I rx
  cases x with
  | non =>
    cases (show u = Value.none from rx)
    exact PySem.P.repr_of_none ⟨.str _, H, I.tok _, ⟨_, rfl⟩, q⟩
  | bl b =>
    cases (show u = Value.bool b from rx)
    exact PySem.P.repr_of_bool ⟨.str _, H, I.tok _, ⟨_, rfl⟩, q⟩
  | int i =>
    obtain ⟨t, rfl⟩ := (show ∃ t, u = Value.int i t from rx)
    exact PySem.P.repr_of_int (of_decide_eq_true (by simpa only [PyData.showable] using h1)) ⟨.str _, H, I.tok _, ⟨_, rfl⟩, by simpa only [PyData.shown] using q⟩
  | str z =>
    obtain ⟨t, rfl⟩ := (show ∃ t, u = Value.str z t from rx)
    exact PySem.P.repr_of_str ⟨.str _, H, I.tok _, ⟨_, rfl⟩, by simpa only [PyData.shown] using q⟩ (by simpa only [PyData.shown] using h4)
  | @tup a vs ds n h l r =>
    cases (show u = Value.ref a from rx)
    refine repr_of_reads' rd h1 (PyData.noDict_hsm h2) hg ?_ (fun _ _ e => e) (fun h' t tk hk => ?_) h4
    · omega
    · exact ⟨.str _, H, I.kept hk, ⟨_, rfl⟩, q⟩
/-- == and != of two such values -/
def rEqP (b : Bool) : R2 := fun x y H Q => ∃ d d' : PyData, Py Vo.non H x d ∧ Py Vo.non H y d' ∧ SeqAt.shaped d = true ∧ SeqAt.shaped d' = true ∧ Q (.bl (if b then PyData.eqv d d' else !PyData.eqv d d')) H
theorem op_eqP (hu : X.A.units + 64 < cLine) : OpR X (compareOp .Eq) (rEqP true) := by
  intro pins s σ H x y v u Q I rx ry h
  obtain ⟨d, d', h1, h2, h3, h4, q⟩ := h
  exact SeqAt.compareEq_shaped (h1.reads I rx) (h2.reads I ry) h3 h4 hu ⟨.bl _, H, I, rfl, q⟩
theorem op_neP (hu : X.A.units + 64 < cLine) : OpR X (compareOp .NotEq) (rEqP false) := by
  intro pins s σ H x y v u Q I rx ry h
  obtain ⟨d, d', h1, h2, h3, h4, q⟩ := h
  exact SeqAt.compareNe_shaped (h1.reads I rx) (h2.reads I ry) h3 h4 hu ⟨.bl _, H, I, rfl, q⟩
end
end Hk
namespace Hk
open PySem PySem.Spec PyProof.Rows L2
/-! ### wide ints; lists of values by == -/
section
variable {X : Cx}
def CFdB (_ j : Int) : Prop := j ≠ 0 ∧ j.natAbs.log2 < 9000
def rFdB : R2 := rI CFdB fun i j => .int (i.fdiv j)
def rFmB : R2 := rI (fun _ j => j ≠ 0) fun i j => .int (i.fmod j)
def rMulB : R2 := rI CMulX fun i j => .int (i * j)
theorem op_fdivB : OpR X (binaryOp .FloorDiv) rFdB := opI fun _ _ _ _ _ _ _ hc q => floordiv_int hc.1 q (.inl (PyProof.noPylong_of_log2 hc.2))
theorem op_mulB : OpR X (binaryOp .Mult) rMulB := op_mulX
theorem op_fmB : OpR X (binaryOp .Mod) rFmB := op_modN
/-- a list of values -/
structure PyL (H : Hp) (v : V) (ds : List PyData) : Prop where
  ex : ∃ a vs, v = .ref a ∧ H a = some (.lst vs) ∧ vs.length = ds.length ∧ ∀ (i : Nat) (v : V) (d : PyData), vs[i]? = some v → ds[i]? = some d → Py Vo.non H v d
theorem PyL.reads {pins : List (Addr × Obj)} {s : Shared} {σ : L2.St} {H : Hp} {v : V} {ds : List PyData} (I : Inv X pins σ H s) (x : PyL H v ds) {u : Value} (ru : RelV v u) : ∃ as, Reads s.heap u (.list ds) as := by
  obtain ⟨a, vs, rfl, h, l, r⟩ := x.ex
  cases (show u = Value.ref a from ru)
  obtain ⟨its, rv, ⟨o, n, e1, e2, _, e4⟩, _⟩ := I.list (SqL.of h)
  refine ⟨a :: [], .list e1 e2 e4 ?_⟩
  rw [List.toList_toArray]
  exact readsAll_at (rv.length.symm.trans l) fun i u d h1 h2 => by
    obtain ⟨v, hv, r'⟩ := vals_at rv h1
    exact (r i v d hv h2).reads I r'
def rEqX (b : Bool) : R2 := fun x y H Q => ∃ ds es : List PyData, PyL H x ds ∧ PyL H y es ∧ SeqAt.shaped (.list ds) = true ∧ SeqAt.shaped (.list es) = true ∧ Q (.bl (if b then PyData.eqvAll ds es else !PyData.eqvAll ds es)) H
theorem op_eqX (hu : X.A.units + 64 < cLine) : OpR X (compareOp .Eq) (rEqX true) := by
  intro pins s σ H x y v u Q I rx ry h
  obtain ⟨ds, es, h1, h2, h3, h4, q⟩ := h
  obtain ⟨as, r1⟩ := h1.reads I rx
  obtain ⟨bs, r2⟩ := h2.reads I ry
  refine SeqAt.compareEq_shaped r1 r2 h3 h4 hu ⟨.bl _, H, I, rfl, ?_⟩
  simp only [PyData.eqv]
  exact q
theorem op_neX (hu : X.A.units + 64 < cLine) : OpR X (compareOp .NotEq) (rEqX false) := by
  intro pins s σ H x y v u Q I rx ry h
  obtain ⟨ds, es, h1, h2, h3, h4, q⟩ := h
  obtain ⟨as, r1⟩ := h1.reads I rx
  obtain ⟨bs, r2⟩ := h2.reads I ry
  refine SeqAt.compareNe_shaped r1 r2 h3 h4 hu ⟨.bl _, H, I, rfl, ?_⟩
  simp only [PyData.eqv]
  exact q
end
end Hk
namespace Hk
open PySem PySem.Spec PyProof.Rows L2
/-! ### this datum; a list of just these -/
def sdx (p : Vo) (d : D) : Sy p := ⟨fun v H => Dat p H v d, fun v H H' g h => h.gr g⟩
def DatL (p : Vo) (H : Hp) (ws : List V) (ds : List D) : Prop := ws.length = ds.length ∧ ∀ (i : Nat) (v : V) (d : D), ws[i]? = some v → ds[i]? = some d → Dat p H v d
theorem DatL.gr {p : Vo} {H H' : Hp} {ws : List V} {ds : List D} (x : DatL p H ws ds) (g : Gr p H H') : DatL p H' ws ds := ⟨x.1, fun i v d h1 h2 => (x.2 i v d h1 h2).gr g⟩
theorem DatL.of {p q : Vo} {H : Hp} {ws : List V} {ds : List D} (x : DatL p H ws ds) (k : ∀ a, Nv p a → Nv q a) : DatL q H ws ds := ⟨x.1, fun i v d h1 h2 => (x.2 i v d h1 h2).of k⟩
theorem DatL.nil {p : Vo} {H : Hp} : DatL p H [] [] := ⟨rfl, fun i v d h => by cases h⟩
theorem DatL.cons {p : Vo} {H : Hp} {v : V} {d : D} {ws : List V} {ds : List D} (h : Dat p H v d) (x : DatL p H ws ds) : DatL p H (v :: ws) (d :: ds) := by
  refine ⟨by rw [List.length_cons, List.length_cons, x.1], fun i u e h1 h2 => ?_⟩
  cases i with
  | zero =>
    rw [← Option.some.inj h1, ← Option.some.inj h2]
    exact h
  | succ i => exact x.2 i u e h1 h2
def slDx (p : Vo) (ds : List D) : Sy p := sl (fun ws H => DatL p H ws ds) fun ws H H' g h => h.gr g
section
variable {p : Vo} {σ : L2.St} {H : Hp} {K : PySem.W.Frag} {te ta tb : TE} {tr : TA} {j : Nat} {vs : List Nat} {A B C : Sy p}
theorem cw_turnL {C : Nat → List V → Hp → Prop} {D : Addr} (st : ∀ o i acc H1 H2, Gr (p.and D o) H1 H2 → C i acc H1 → C i acc H2) {i : Nat} {te : TE} {σ2 : L2.St} {A : ∀ q : Vo, Sy q} {H' : Hp} (w : Cw p H D C i H') (hi : i < 16000000)
    (he : ∀ l : List V, Ev (p.and D (.lst l)) te σ2 H (A (p.and D (.lst l))))
    (hc : ∀ acc y H1 (l : List V), Gr p H H1 → Iv (p.and D (.lst l)) H1 → acc.length = i → C i acc H1 → (A (p.and D (.lst l))).P y H1 → C (i + 1) (acc ++ [y]) H1) :
    tYes σ2 H' fun b H3 => if b = true then te σ2 H3 fun y H4 => ∃ acc, H4 D = some (.lst acc) ∧ acc.length < sizeLine ∧ Cw p H D C (i + 1) (upd H4 D (.lst (acc ++ [y]))) else Cw p H D C (i + 1) H3 := by
  obtain ⟨iv, hD, nD, g, acc, ha, hl, c⟩ := w
  show te σ2 H' fun y H4 => ∃ acc, H4 D = some (.lst acc) ∧ acc.length < sizeLine ∧ Cw p H D C (i + 1) (upd H4 D (.lst (acc ++ [y])))
  have g1 : Gr (p.and D (.lst acc)) H H' := fun b o n h => g b o n.back h
  refine he acc H' (iv.and ha nD) g1 _ fun y H4 i4 g4 ay => ?_
  have aD : H4 D = some (.lst acc) := i4.ex (D, .lst acc) List.mem_cons_self
  have g5 : Gr p H' H4 := fun b o n h => by
    by_cases e : D = b
    · rw [← e] at h ⊢
      rw [ha] at h
      rw [aD, ← h]
    · exact g4 b o (n.and e) h
  have g6 : Gr (p.and D (.lst acc)) H4 (upd H4 D (.lst (acc ++ [y]))) := fun b o n h => by
    rw [upd_ne n.ne.symm]
    exact h
  refine ⟨acc, aD, by rw [sizeLine_eq]; omega, i4.back.upd nD, hD, nD, (g.trans g5).mut hD, acc ++ [y], upd_same, by rw [List.length_append, hl]; rfl, ?_⟩
  exact st (.lst acc) _ _ _ _ g6 (hc acc y H4 acc (g.trans g5) i4 hl (st (.lst acc) _ _ _ _ g4 c) ay)
/-- a comprehension over a tuple, or a list, of data whose items are data -/
theorem turns {es : List D} {g : D → D} {xs : List V} {H2 : Hp} {D' : Addr} (hl : xs.length = es.length) (hz : xs.length ≤ 100000) (i2 : Iv p H2) (hD : H2 D' = none)
    (he : ∀ (i : Nat) (x : V) (d : D) (l : List V), xs[i]? = some x → es[i]? = some d → Ev (p.and D' (.lst l)) te ((wipe σ vs).set j (some x)) H2 (sdx (p.and D' (.lst l)) (g d))) (i : Nat) (x : V) (H' : Hp) (hi : xs[i]? = some x)
    (w : Cw p H2 D' (fun _ acc H => ∀ (m : Nat) (v : V) (d : D), acc[m]? = some v → (es.map g)[m]? = some d → Dat (p.and D' (.lst [])) H v d) i H') :
    tYes ((wipe σ vs).set j (some x)) H' fun b H3 => if b = true then te ((wipe σ vs).set j (some x)) H3 fun y H4 => ∃ acc, H4 D' = some (.lst acc) ∧ acc.length < sizeLine ∧ Cw p H2 D' (fun _ acc H => ∀ (m : Nat) (v : V) (d : D), acc[m]? = some v → (es.map g)[m]? = some d → Dat (p.and D' (.lst [])) H v d) (i + 1) (upd H4 D' (.lst (acc ++ [y])))
      else Cw p H2 D' (fun _ acc H => ∀ (m : Nat) (v : V) (d : D), acc[m]? = some v → (es.map g)[m]? = some d → Dat (p.and D' (.lst [])) H v d) (i + 1) H3 := by
  have hlt := (List.getElem?_eq_some_iff.mp hi).1
  refine cw_turnL (A := fun q => ⟨fun v H => ∀ d, (es.map g)[i]? = some d → Dat q H v d, fun v H H' g h d e => (h d e).gr g⟩) (fun o m acc H1 H2 gg h k v d e1 e2 => ?_) w (by omega) (fun o => ?_) fun acc y H1 lo g2 i2 hl ha hy m v d e1 e2 => ?_
  · exact (Dat.gr ((h k v d e1 e2).of fun b (nb : Nv (p.and D' (.lst [])) b) => (nb.back.and nb.ne : Nv (p.and D' o) b)) gg).of fun b (nb : Nv (p.and D' o) b) => nb.back.and nb.ne
  · have hd : es[i]? = some es[i] := List.getElem?_eq_getElem (by omega)
    refine (he i x _ o hi hd).imp fun v H hv d e => ?_
    rw [List.getElem?_map, hd] at e
    rw [← Option.some.inj e]
    exact hv
  · by_cases hm : m < acc.length
    · rw [List.getElem?_append_left hm] at e1
      exact ha m v d e1 e2
    · rw [List.getElem?_append_right (by omega)] at e1
      have : m - acc.length = 0 := by
        have := (List.getElem?_eq_some_iff.mp e1).1
        rw [List.length_singleton] at this
        omega
      rw [this] at e1
      rw [← Option.some.inj e1]
      have em : m = i := by omega
      rw [em] at e2
      exact (hy d e2).of fun b (nb : Nv (p.and D' (.lst lo)) b) => nb.back.and nb.ne
theorem turned {es : List D} {g : D → D} {xs : List V} {H2 H' : Hp} {D' : Addr} (hl : xs.length = es.length)
    (w : Cw p H2 D' (fun _ acc H => ∀ (m : Nat) (v : V) (d : D), acc[m]? = some v → (es.map g)[m]? = some d → Dat (p.and D' (.lst [])) H v d) xs.length H') : (slDx p (es.map g)).P (.ref D') H' := by
  obtain ⟨_, _, nD, _, acc, ha, hla, c⟩ := w
  exact ⟨D', acc, rfl, nD, ha, by rw [hla, List.length_map, hl], fun i v d h1 h2 => (c i v d h1 h2).back⟩
theorem lcT_dat {ts : TE} {es : List D} {g : D → D} (hx : Ev p ts σ H (sdx p (.tup es))) (hw : ∀ x, wipe ((wipe σ vs).set j (some x)) vs = wipe σ vs)
    (he : ∀ (x : V) (d : D) E (l : List V) H1, Gr p H H1 → H1 E = none → d ∈ es → Dat (p.and E (.lst l)) H1 x d → Ev (p.and E (.lst l)) te ((wipe σ vs).set j (some x)) H1 (sdx (p.and E (.lst l)) (g d))) : Ev p (tLc (iTup K ts) (gName j) tYes te vs) σ H (slDx p (es.map g)) := by
  intro H0 i0 g0 Q q
  refine hx H0 i0 g0 _ fun v H2 i2 g2 hv => ?_
  have hv : Dat p H2 v (.tup es) := hv
  cases hv with
  | @tup a xs ds na h l hz r =>
    refine ⟨a, rfl, ⟨xs, SqT.of h⟩, fun D' hD => lc_tup (xs := xs) (Cw p H2 D' _) (cw0 i2 hD fun m v d e => by cases e) (fun i H' _ w => SqT.of (w.2.2.2.1 a _ na h)) (fun i x H' hi w => ⟨hw _, turns l hz i2 hD (fun i x d o h1 h2 => he x d D' o H2 (g0.trans g2) hD (List.mem_of_getElem? h2) ((r i x d h1 h2).and hD)) i x H' hi w⟩) fun H' w => q _ H' w.1 (g2.trans w.2.2.2.1) (turned l w)⟩
theorem lcL_dat {ts : TE} {es : List D} {g : D → D} (hx : Ev p ts σ H (slDx p es)) (hes : es.length ≤ 100000) (hw : ∀ x, wipe ((wipe σ vs).set j (some x)) vs = wipe σ vs)
    (he : ∀ (x : V) (d : D) E (l : List V) H1, Gr p H H1 → H1 E = none → d ∈ es → Dat (p.and E (.lst l)) H1 x d → Ev (p.and E (.lst l)) te ((wipe σ vs).set j (some x)) H1 (sdx (p.and E (.lst l)) (g d))) : Ev p (tLc (iList K ts) (gName j) tYes te vs) σ H (slDx p (es.map g)) := by
  intro H0 i0 g0 Q q
  refine hx H0 i0 g0 _ fun v H2 i2 g2 hv => ?_
  obtain ⟨a, xs, rfl, na, h, l, r⟩ := hv
  refine ⟨a, rfl, ⟨xs, SqL.of h⟩, fun D' hD => lc_list (xs := xs) (Cw p H2 D' _) (cw0 i2 hD fun m v d e => by cases e) (fun i H' _ w => SqL.of (w.2.2.2.1 a _ na h)) (fun i x H' hi w => ⟨hw _, turns l (by omega) i2 hD (fun i x d o h1 h2 => he x d D' o H2 (g0.trans g2) hD (List.mem_of_getElem? h2) ((r i x d h1 h2).and hD)) i x H' hi w⟩) fun H' w => q _ H' w.1 (g2.trans w.2.2.2.1) (turned l w)⟩
/-- a new tuple of data -/
theorem dat_tupL {ws : List V} {ds : List D} {H1 : Hp} {a : Addr} (x : DatL p H1 ws ds) (hz : ws.length ≤ 100000) (i1 : Iv p H1) (ha : H1 a = none) : Dat p (upd H1 a (.tup ws)) (.ref a) (.tup ds) :=
  .tup (i1.ne ha) upd_same x.1 hz fun i v d h1 h2 => (x.2 i v d h1 h2).gr (Gr.new ha)
end
/-! ### a call of a local name that holds a def -/
def tCallH (i : Nat) (Hd : Addr → Sp → Prop) (t : TA) : TE := fun σ H Q => ∃ f sp, σ[i]? = some (some (.ref f)) ∧ Hd f sp ∧ t σ H fun vs H1 => sp vs H1 Q E0
section
variable {X : Cx} {k i : Nat} {x : Str} {p pos : Pos} {e : Expr} {es : List Expr} {t : TA}
theorem pe_callH {Hd : Addr → Sp → Prop} (A : ∀ f sp, Hd f sp → Held X.prog X.w X.K X.mg X.base k f sp) (hr : Room k X.A) (hN : X.N[i]? = some x) (hv : Vis X.env.scope x) (ha : PA X (e :: es) t)
    (hdb : (x == ("__debug__" : Str)) = false := by decide) (hcd : (x == ("__classdict__" : Str)) = false := by decide)
    (he : starEach (e :: es) X.env = (false, eval e X.env) :: starEach es X.env := by rfl) (hpl : (backTo pos (starEach es X.env)).any (·.1) = false := by rfl) : PE X (.Call (.Name x p) (e :: es) [] pos) (tCallH i Hd t) := by
  constructor
  intro pins s σ H Q I ⟨f, sp, hs, hd, ht⟩
  refine (pe_callA (S := fun a => if a = f then some sp else none) (fun f' sp' h => ?_) hr hN hv ha hdb hcd he hpl).run pins s σ H Q I ⟨f, sp, hs, if_pos rfl, ht⟩
  by_cases e : f' = f
  · have h2 : some sp = some sp' := (if_pos e).symm.trans h
    rw [e, ← Option.some.inj h2]
    exact A f sp hd
  · cases (if_neg e).symm.trans h
end
section
variable {P : Program} {w : World} {K : PySem.W.Frag} {mg : Str → Option Value} {base : Heap}
theorem held_of {k : Nat} {x : Str} {sp : Sp} {f : Addr} (c : Ca P w K mg base k x sp) (g : mg x = some (.ref f)) : Held P w K mg base k f sp := by
  obtain ⟨f', fd, ps, F, hm, kp, b⟩ := c.ex
  have e : f' = f := by
    have := hm.symm.trans g
    injection this with h
    injection h
  rw [← e]
  exact ⟨fd, ps, F, kp, b⟩
theorem ixD {X : Cx} {w : World} (h : X.K = K) (h2 : X.w = w) : IxR X (rIxD K w) := by
  subst h h2
  exact ix_kdict
end
end Hk
namespace Hk
open PySem PySem.Spec PyProof.Rows L2
/-! questions to a text that take nothing -/
section
variable {X : Cx} {o : Expr} {to : TE} {apos pos : Pos}
def rTx (f : Str → Bool) : V → List V → Hp → VK → Prop := fun x xs H Q => ∃ a, x = .str a ∧ xs = [] ∧ True ∧ Q (.bl (f a)) H
theorem mq_isascii : MtR X "str.isascii" (rTx Txt.isascii) :=
  mt0 (C := fun _ => True) (g := fun a => .bl (Txt.isascii a)) fun _ _ s _ _ h => PySem.SC.isascii (h _ s.toks rfl)
theorem mq_islower : MtR X "str.islower" (rTx Txt.islower) :=
  mt0 (C := fun _ => True) (g := fun a => .bl (Txt.islower a)) fun _ _ s _ _ h => PySem.SC.islower (h _ s.toks rfl)
theorem pe_isascii (ho : PE X o to) (hbase : attributeBase o "isascii" X.env (eval o X.env) = eval o X.env := by rfl) (hline : (apos.endLine == pos.line) = true := by rfl) :
    PE X (.Call (.Attribute o "isascii" apos) [] [] pos) (tM0 (rTx Txt.isascii) to) := pe_m0 F.slot_str_isascii F.type_str_isascii mq_isascii ho hbase hline
theorem pe_isalpha (ho : PE X o to) (hbase : attributeBase o "isalpha" X.env (eval o X.env) = eval o X.env := by rfl) (hline : (apos.endLine == pos.line) = true := by rfl) :
    PE X (.Call (.Attribute o "isalpha" apos) [] [] pos) (tM0 (rTx Txt.isalpha) to) := pe_m0 F.slot_str_isalpha F.type_str_isalpha mt_isalpha ho hbase hline
theorem pe_islower (ho : PE X o to) (hbase : attributeBase o "islower" X.env (eval o X.env) = eval o X.env := by rfl) (hline : (apos.endLine == pos.line) = true := by rfl) :
    PE X (.Call (.Attribute o "islower" apos) [] [] pos) (tM0 (rTx Txt.islower) to) := pe_m0 F.slot_str_islower F.type_str_islower mq_islower ho hbase hline
end
section
variable {p : Vo} {to : TE} {σ : L2.St} {H : Hp} {s : Str}
theorem x_tx {f : Str → Bool} (h : Ev p to σ H (sx (.str s))) : Ev p (tM0 (rTx f) to) σ H (sx (.bl (f s))) := fun H1 i g Q q =>
  h H1 i g _ fun v H2 i2 g2 e => ⟨⟨s, e⟩, s, e, rfl, trivial, q _ H2 i2 g2 rfl⟩
end
/-! a text of small letters, asked in another way -/
def az : List Nat := [97, 98, 99, 100, 101, 102, 103, 104, 105, 106, 107, 108, 109, 110, 111, 112, 113, 114, 115, 116, 117, 118, 119, 120, 121, 122]
def upT (c : Nat) : Bool := Unicode.isUpper c || Unicode.isTitle c
theorem az_one : ∀ c, c < 128 → (decide (c < 128) && (Unicode.isAlpha c && !upT c)) = decide (c ∈ az) := by decide +kernel
theorem az_low : ∀ c ∈ az, Unicode.isLower c = true := by decide +kernel
theorem az_lt : ∀ c ∈ az, c < 128 := by decide +kernel
theorem az_any (c : Nat) : (decide (c < 128) && (Unicode.isAlpha c && !upT c)) = decide (c ∈ az) := by
  by_cases h : c < 128
  · exact az_one c h
  · rw [decide_eq_false h, decide_eq_false fun e => h (az_lt c e)]; rfl
theorem az_all : ∀ l : List Nat, (l.all (fun c => decide (c < 128)) && (l.all Unicode.isAlpha && !l.any upT)) = l.all fun c => decide (c ∈ az)
  | [] => rfl
  | c :: r => by
    rw [List.all_cons, List.all_cons, List.any_cons, List.all_cons, ← az_all r, ← az_any c]
    generalize decide (c < 128) = a1
    generalize Unicode.isAlpha c = a2
    generalize upT c = a3
    generalize r.all (fun c => decide (c < 128)) = a4
    generalize r.all Unicode.isAlpha = a5
    generalize r.any upT = a6
    revert a1 a2 a3 a4 a5 a6
    decide
theorem az_text {s : Str} {r : Bool} (h : s.length > 0) : (Txt.isascii s && (Txt.isalpha s && (Txt.islower s && r))) = (s.cps.toList.all (fun c => decide (c ∈ az)) && r) := by
  have e := az_all s.cps.toList
  have hl : (s.cps.toList.all fun c => decide (c ∈ az)) = true → s.cps.toList.any Unicode.isLower = true := fun ha => by
    have h' : s.cps.toList ≠ [] := fun e' => by
      have : s.cps.toList.length = 0 := by rw [e']; rfl
      rw [Array.length_toList] at this
      exact absurd this (by have : s.length = s.cps.size := rfl; omega)
    obtain ⟨c, l, hc⟩ := List.exists_cons_of_ne_nil h'
    rw [hc, List.all_cons] at ha
    rw [hc, List.any_cons, az_low c (of_decide_eq_true (Bool.and_eq_true_iff.mp ha).1)]
    rfl
  rw [show Txt.isascii s = s.cps.toList.all (fun c => decide (c < 128)) from by unfold Txt.isascii; rw [← Array.all_toList],
    show Txt.isalpha s = s.cps.toList.all Unicode.isAlpha from by unfold Txt.isalpha; rw [← Array.all_toList, decide_eq_true h]; rfl,
    show Txt.islower s = (s.cps.toList.any Unicode.isLower && !s.cps.toList.any upT) from by unfold Txt.islower; rw [← Array.any_toList, ← Array.any_toList]; rfl]
  rw [← e] at hl ⊢
  revert hl
  generalize s.cps.toList.all (fun c => decide (c < 128)) = a1
  generalize s.cps.toList.all Unicode.isAlpha = a2
  generalize s.cps.toList.any Unicode.isLower = a3
  generalize s.cps.toList.any upT = a4
  revert a1 a2 a3 a4 r
  decide
end Hk
namespace Hk
open PySem PySem.Spec PyProof.Rows L2
/-! ### comprehensions, item by item -/
structure Pt (α : Type) where
  T : Vo → Hp → V → α → Prop
  gr : ∀ {p : Vo} {H H' : Hp} {v : V} {e : α}, T p H v e → Gr p H H' → T p H' v e
  of : ∀ {p q : Vo} {H : Hp} {v : V} {e : α}, T p H v e → (∀ a, Nv p a → Nv q a) → T q H v e
  an : ∀ {p : Vo} {H : Hp} {v : V} {e : α} {E : Addr} {o : HO}, T p H v e → H E = none → T (p.and E o) H v e
def syP {α : Type} (p : Vo) (X : Pt α) (e : Option α) : Sy p := ⟨fun v H => ∀ x, e = some x → X.T p H v x, fun v H H' g h x ex => X.gr (h x ex) g⟩
def slP {α : Type} (p : Vo) (X : Pt α) (es : List α) : Sy p := sl (fun ws H => ws.length = es.length ∧ ∀ (i : Nat) (v : V) (e : α), ws[i]? = some v → es[i]? = some e → X.T p H v e) fun ws H H' g h => ⟨h.1, fun i v e h1 h2 => X.gr (h.2 i v e h1 h2) g⟩
section
variable {α β : Type} {p : Vo} {σ : L2.St} {H : Hp} {K : PySem.W.Frag} {te ta tb : TE} {tr : TA} {j : Nat} {vs : List Nat} {X : Pt α} {Y : Pt β} {es : List α} {fs : List β}
abbrev CwP (p : Vo) (X : Pt α) (es : List α) (H2 : Hp) (D : Addr) (i : Nat) (H' : Hp) : Prop := Cw p H2 D (fun _ acc H => ∀ (m : Nat) (v : V) (e : α), acc[m]? = some v → es[m]? = some e → X.T (p.and D (.lst [])) H v e) i H'
theorem ptTurn {σ2 : L2.St} {H2 : Hp} {D : Addr} {i : Nat} {H' : Hp} (hz : i < 100000)
    (he : ∀ l : List V, Ev (p.and D (.lst l)) te σ2 H2 (syP (p.and D (.lst l)) X es[i]?)) (w : CwP p X es H2 D i H') :
    tYes σ2 H' fun b H3 => if b = true then te σ2 H3 fun y H4 => ∃ acc, H4 D = some (.lst acc) ∧ acc.length < sizeLine ∧ CwP p X es H2 D (i + 1) (upd H4 D (.lst (acc ++ [y]))) else CwP p X es H2 D (i + 1) H3 := by
  refine cw_turnL (A := fun q => syP q X es[i]?) (fun o m acc H1 H2 gg h k v e e1 e2 => ?_) w (by omega) (fun o => he o) fun acc y H1 lo g2 i2 hl ha hy m v e e1 e2 => ?_
  · exact X.of (X.gr (X.of (h k v e e1 e2) fun b (nb : Nv (p.and D (.lst [])) b) => (nb.back.and nb.ne : Nv (p.and D o) b)) gg) fun b (nb : Nv (p.and D o) b) => nb.back.and nb.ne
  · by_cases hm : m < acc.length
    · rw [List.getElem?_append_left hm] at e1
      exact ha m v e e1 e2
    · rw [List.getElem?_append_right (by omega)] at e1
      have : m - acc.length = 0 := by
        have := (List.getElem?_eq_some_iff.mp e1).1
        rw [List.length_singleton] at this
        omega
      rw [this] at e1
      rw [← Option.some.inj e1]
      have em : m = i := by omega
      rw [em] at e2
      exact X.of (hy e e2) fun b (nb : Nv (p.and D (.lst lo)) b) => nb.back.and nb.ne
theorem ptDone {H2 H' : Hp} {D : Addr} {n : Nat} (hn : n = es.length) (w : CwP p X es H2 D n H') : (slP p X es).P (.ref D) H' := by
  obtain ⟨_, _, nD, _, acc, ha, hla, c⟩ := w
  exact ⟨D, acc, rfl, nD, ha, by rw [hla, hn], fun i v e h1 h2 => X.of (c i v e h1 h2) fun b nb => nb.back⟩
/-- over range(n), n items -/
theorem lcR_pt {n : Int} (hx : Ev p ta σ H (sx (.int n))) (hn : n = (es.length : Int)) (hz : es.length ≤ 100000) (hw : ∀ x, wipe ((wipe σ vs).set j (some x)) vs = wipe σ vs)
    (he : ∀ (i : Nat) D (l : List V) H1, i < es.length → Gr p H H1 → H1 D = none → Ev (p.and D (.lst l)) te ((wipe σ vs).set j (some (.int (0 + (i : Nat))))) H1 (syP (p.and D (.lst l)) X es[i]?)) :
    Ev p (tLc (iRng1 (tCons ta tNil)) (gName j) tYes te vs) σ H (slP p X es) := fun H0 i0 g0 Q q =>
  hx H0 i0 g0 _ fun v H1 i1 g1 e => ⟨n, by rw [show v = .int n from e], by omega, by omega, fun D hD => lc_range (lo := 0) (n := n.toNat) (CwP p X es H1 D) (cw0 i1 hD fun m v e h => by cases h)
    (fun i H' hi w => ⟨hw _, ptTurn (by omega) (fun l => he i D l H1 (by omega) (g0.trans g1) hD) w⟩) fun H' w => q _ H' w.1 (g1.trans w.2.2.2.1) (ptDone (by omega) w)⟩
/-- over a list that stands still, by any target -/
theorem lcL_pt {g : TG} {τ : V → β → L2.St} (hx : Ev p ta σ H (slP p Y fs)) (hl : fs.length = es.length) (hz : es.length ≤ 100000) (hw : ∀ x f, wipe (τ x f) vs = wipe σ vs)
    (hg : ∀ (i : Nat) (x : V) (f : β) (H' : Hp) (R : L2.St → Hp → Prop), fs[i]? = some f → Y.T p H' x f → R (τ x f) H' → g x (wipe σ vs) H' R)
    (he : ∀ (i : Nat) (x : V) (f : β) D (l : List V) H1, fs[i]? = some f → Gr p H H1 → H1 D = none → Y.T (p.and D (.lst l)) H1 x f → Ev (p.and D (.lst l)) te (τ x f) H1 (syP (p.and D (.lst l)) X es[i]?)) :
    Ev p (tLc (iList K ta) g tYes te vs) σ H (slP p X es) := by
  intro H0 i0 g0 Q q
  refine hx H0 i0 g0 _ fun v H2 i2 g2 hv => ?_
  obtain ⟨a, xs, rfl, na, h, l, r⟩ := hv
  refine ⟨a, rfl, ⟨xs, SqL.of h⟩, fun D' hD => lc_list (xs := xs) (CwP p X es H2 D') (cw0 i2 hD fun m v e h => by cases h) (fun i H' _ w => SqL.of (w.2.2.2.1 a _ na h)) (fun i x H' hi w => ?_) fun H' w => q _ H' w.1 (g2.trans w.2.2.2.1) (ptDone (by omega) w)⟩
  have hi2 : i < fs.length := by
    have := (List.getElem?_eq_some_iff.mp hi).1
    omega
  have hf := List.getElem?_eq_getElem hi2
  refine hg i x _ H' _ hf (Y.gr (r i x _ hi hf) w.2.2.2.1) ⟨hw _ _, ptTurn (by omega) (fun lo => he i x _ D' lo H2 hf (g0.trans g2) hD (Y.an (r i x _ hi hf) hD)) w⟩
end
/-! ### dicts made of pairs -/
def rDictP (K : PySem.W.Frag) : List V → Hp → VK → Prop := fun xs H Q => ∃ (a : Addr) (ps : List Addr) (kvs : List (Key × V)), xs = [.ref a] ∧ SqL K H a (ps.map V.ref) ∧ Paired (fun p kv => SqT K H p [kV kv.1, kv.2]) ps kvs ∧
    ∀ p, H p = none → Q (.ref p) (upd H p (.dK (mergeK [] kvs)))
theorem dictU {X : Cx} {K : PySem.W.Frag} (h : X.K = K) (hc : X.calm = true := by rfl) : CallR X (.type "dict") (rDictP K) := by
  subst h
  exact call_dictP hc
/-- a pair of a name and a value -/
def PairT {α : Type} (nm : α → Str) (R : Pt α) : Pt α where
  T p H v e := ∃ b w, v = .ref b ∧ Nv p b ∧ H b = some (.tup [.str (nm e), w]) ∧ R.T p H w e
  gr := fun ⟨b, w, h1, h2, h3, h4⟩ g => ⟨b, w, h1, h2, g b _ h2 h3, R.gr h4 g⟩
  of := fun ⟨b, w, h1, h2, h3, h4⟩ k => ⟨b, w, h1, k b h2, h3, R.of h4 k⟩
  an := fun ⟨b, w, h1, h2, h3, h4⟩ hE => ⟨b, w, h1, h2.and (ne_of_none h3 hE).symm, h3, R.an h4 hE⟩
section
variable {α : Type} {p : Vo} {σ : L2.St} {H : Hp} {K : PySem.W.Frag} {te ta tb : TE} {tr : TA} {nm : α → Str} {R : Pt α} {es : List α}
theorem pairs_out {H : Hp} : ∀ (es : List α) (ws : List V), ws.length = es.length → (∀ (i : Nat) (v : V) (e : α), ws[i]? = some v → es[i]? = some e → (PairT nm R).T p H v e) →
    ∃ (ps : List Addr) (us : List V), ws = ps.map V.ref ∧ us.length = es.length ∧ Paired (fun p kv => SqT K H p [kV kv.1, kv.2]) ps ((es.map fun e => (Sum.inr (nm e) : Key)).zip us) ∧ ∀ (i : Nat) (u : V) (e : α), us[i]? = some u → es[i]? = some e → R.T p H u e
  | [], [], _, _ => ⟨[], [], rfl, rfl, .nil, fun i u e h => by cases h⟩
  | [], _ :: _, h, _ => by cases h
  | _ :: _, [], h, _ => by cases h
  | e :: es, w :: ws, hl, h => by
    obtain ⟨b, u, rfl, nb, hb, hr⟩ := h 0 w e rfl rfl
    obtain ⟨ps, us, e1, e2, e3, e4⟩ := pairs_out es ws (by rw [List.length_cons, List.length_cons] at hl; omega) fun i v e h1 h2 => h (i + 1) v e h1 h2
    refine ⟨b :: ps, u :: us, by rw [e1]; rfl, by rw [List.length_cons, List.length_cons, e2], .cons (SqT.of hb) e3, fun i v f h1 h2 => ?_⟩
    cases i with
    | zero =>
      rw [← Option.some.inj h1, ← Option.some.inj h2]
      exact hr
    | succ i => exact e4 i v f h1 h2
/-- a dict of these names -/
def sdict (p : Vo) (nm : α → Str) (R : Pt α) (es : List α) : Sy p := ⟨fun v H => ∃ (t : Addr) (us : List V), v = .ref t ∧ Nv p t ∧ H t = some (.dK (mergeK [] ((es.map fun e => (Sum.inr (nm e) : Key)).zip us))) ∧ us.length = es.length ∧ ∀ (i : Nat) (u : V) (e : α), us[i]? = some u → es[i]? = some e → R.T p H u e,
  fun v H H' g ⟨t, us, h1, h2, h3, h4, h5⟩ => ⟨t, us, h1, h2, g t _ h2 h3, h4, fun i u e e1 e2 => R.gr (h5 i u e e1 e2) g⟩⟩
theorem x_dict (ha : Ev p ta σ H (slP p (PairT nm R) es)) : Ev p (tCB (rDictP K) (tCons ta tNil)) σ H (sdict p nm R es) := e_cb (a_cons ha a_nil) fun vs H1 iv g os => by
  obtain ⟨v, us, rfl, ⟨b, ws, rfl, nb, h1, hl, hw⟩, rfl⟩ := os
  obtain ⟨ps, us, rfl, l2, pr, hr⟩ := pairs_out (K := K) es ws hl hw
  exact rv_new iv (o := .dK _) (fun q nq hq i' g' => ⟨q, us, rfl, nq, upd_same, l2, fun i u e e1 e2 => R.gr (hr i u e e1 e2) g'⟩) fun Q q => ⟨b, ps, _, rfl, SqL.of h1, pr, q⟩
/-- one more item -/
theorem x_catP {e : α} (ha : Ev p ta σ H (slP p R es)) (hb : Ev p tb σ H (slP p R [e])) (hz : es.length ≤ 1000) : Ev p (tOp rAddU ta tb) σ H (slP p R (es ++ [e])) :=
  e_op ha hb fun x y H1 iv g ⟨b, ws, e1, nb, h1, hl, hw⟩ ⟨b', ws', e2, nb', h2, hl', hw'⟩ => rv_new iv (o := .lst (ws ++ ws')) (fun q nq hq i' g' => ⟨q, _, rfl, nq, upd_same, by rw [List.length_append, List.length_append, hl, hl'], fun i v f e1 e2 => by
    by_cases hm : i < ws.length
    · rw [List.getElem?_append_left hm] at e1
      rw [List.getElem?_append_left (by omega)] at e2
      exact R.gr (hw i v f e1 e2) g'
    · rw [List.getElem?_append_right (by omega)] at e1 e2
      rw [hl] at e1
      exact R.gr (hw' _ v f e1 e2) g'⟩) fun Q q => .inr (.inr ⟨b, b', ws, ws', e1, e2, h1, h2, by
        rw [hl, hl']
        have := sizeLine_eq
        show es.length + 1 ≤ _
        omega, q⟩)
/-- backwards -/
theorem x_rev (ha : Ev p ta σ H (slP p R es)) : Ev p (tRevL K ta) σ H (slP p R es.reverse) := fun H0 i0 g0 Q q =>
  ha H0 i0 g0 _ fun v H1 i1 g1 ⟨b, ws, e, nb, h1, hl, hw⟩ => ⟨b, ws, e, SqL.of h1, fun c hc => q _ _ (i1.new hc) (g1.trans (Gr.new hc)) ⟨c, ws.reverse, rfl, i1.ne hc, upd_same, by rw [List.length_reverse, List.length_reverse, hl], fun i v f e1 e2 => by
    have h2 : i < ws.length := by
      have := (List.getElem?_eq_some_iff.mp e1).1
      rwa [List.length_reverse] at this
    rw [List.getElem?_reverse h2] at e1
    rw [List.getElem?_reverse (by omega), ← hl] at e2
    exact R.gr (hw _ v f e1 e2) (Gr.new hc)⟩⟩
end
/-! ### repr of a dict -/
def kD : Key → PyData
  | .inl i => .int i
  | .inr x => .str x
def rReprD : List V → Hp → VK → Prop := fun xs H Q => ∃ (a : Addr) (kvs : List (Key × V)) (ps : List PyData), xs = [.ref a] ∧ H a = some (.dK kvs) ∧ kvs.length = ps.length ∧ (∀ (i : Nat) (kv : Key × V) (d : PyData), kvs[i]? = some kv → ps[i]? = some d → Py Vo.non H kv.2 d) ∧
  (PyData.dict ((kvs.map fun kv => kD kv.1).zip ps)).showable = true ∧ (PyData.dict ((kvs.map fun kv => kD kv.1).zip ps)).depth ≤ 40 ∧ (PyData.dict ((kvs.map fun kv => kD kv.1).zip ps)).shown.length ≤ sizeLine ∧ Q (.str (PyData.dict ((kvs.map fun kv => kD kv.1).zip ps)).shown) H
theorem reads_keys {P : Program} {w : World} {h : Heap} : ∀ {es : List DictEntry} {vs : List (Key × Value)} {kvs : List (Key × V)}, Pairs (mixKind P w) es vs → KV kvs vs → ReadsAll h (es.map (·.key)) (kvs.map fun kv => kD kv.1) []
  | [], _, _, .nil, .nil => .nil
  | e :: es, kv :: vs, kw :: kvs, .cons h1 h2 h3, .cons r rs => by
    refine .cons (as := []) (bs := []) ?_ (reads_keys h3 rs)
    show Reads h e.key (kD kw.1) []
    rw [r.1]
    rcases keyIs_shape (show keyIs kv.1 e.key = true from h1) with ⟨i, t, e1, e2⟩ | ⟨x, t, e1, e2⟩
    · rw [e1, e2]; exact .int i t
    · rw [e1, e2]; exact .str x t
theorem kv_at {α : Type} : ∀ {kvs : List (α × V)} {vs : List (α × Value)} {i : Nat} {u : α × Value}, KV kvs vs → vs[i]? = some u → ∃ v, kvs[i]? = some v ∧ RelV v.2 u.2
  | _, _, _, _, .nil, e => by cases e
  | _, _, 0, _, .cons r k, e => ⟨_, rfl, by rw [← Option.some.inj e]; exact r.2⟩
  | _, _, i + 1, _, .cons r k, e => kv_at (i := i) k e
theorem pairs_at {P : Program} {w : World} : ∀ {es : List DictEntry} {vs : List (Key × Value)} {i : Nat} {u : Value}, Pairs (mixKind P w) es vs → (es.map (·.val))[i]? = some u → ∃ kv, vs[i]? = some kv ∧ kv.2 = u
  | [], _, _, _, .nil, e => by cases e
  | e :: es, kv :: vs, 0, u, .cons h1 h2 h3, h => ⟨kv, rfl, by rw [← h2]; exact Option.some.inj h⟩
  | e :: es, kv :: vs, i + 1, u, .cons h1 h2 h3, h => pairs_at (i := i) h3 h
section
variable {X : Cx}
theorem call_reprD (hg : X.A.guards = some []) (hu : X.A.units + 64 < cLine) : CallR X (.builtin "repr") rReprD := by
  intro pins s σ H xs us Q I r h
  obtain ⟨a, kvs, ps, rfl, hH, hl, hp, h1, h3, h4, q⟩ := h
  obtain ⟨u, rfl, rx⟩ := vals1 r
  cases (show u = Value.ref a from rx)
  obtain ⟨hz, hsm, vs, rel, o, es, ep, e1, e2, e3, e4, e5, e6⟩ := dk_of I.hok hH
  have lk : es.toList.length = kvs.length := by rw [e5.length, ← rel.length]
  have rd : Reads s.heap (.ref a) (.dict ((kvs.map fun kv => kD kv.1).zip ps)) (a :: [] ++ []) := by
    refine .dict e1 e2.1 e3 ?_ ?_
    · rw [List.map_fst_zip (by rw [List.length_map, hl]; exact Nat.le_refl _)]
      exact reads_keys e5 rel
    · rw [List.map_snd_zip (by rw [List.length_map, hl]; exact Nat.le_refl _)]
      refine readsAll_at (by rw [List.length_map, lk, hl]) fun i u d h1 h2 => ?_
      obtain ⟨kv, ek, eu⟩ := pairs_at e5 h1
      obtain ⟨v, ev, rv⟩ := kv_at rel ek
      rw [eu] at rv
      exact (hp i v d ev h2).reads I rv
  refine repr_of_reads' rd h1 (fun _ hm => ?_) hg ?_ (fun _ _ e => e) (fun h' t tk hk => ?_) h4
  · have : sysModules = a := by simpa using hm
    rw [← this] at hsm
    exact absurd (beq_self_eq_true sysModules) (by rw [hsm]; exact Bool.false_ne_true)
  · omega
  · exact ⟨.str _, H, I.kept hk, ⟨_, rfl⟩, q⟩
end
/-! ### a call by keywords alone -/
section
variable {X : Cx} {CX : CXT} {k : Nat} {f : Addr} {fd : FuncData} {ps ks : List Str} {sp : Sp} {E : XK} {x : Str} {p pos : Pos} {kws : List Keyword} {tk : TA} {g : List Value → List Value → List Value} {gV : List V → List V → List V}
theorem pe_callN0 (F : FnOk X.prog X.w X.K X.mg X.base CX k f fd ps sp) (hr : Room k X.A) (hg : Gl X x) (hm : X.mg x = some (.ref f)) (hk : PySem.W.keepIn X.K (.ref f) = true) (hb : KBn X.K fd ps 0 ks g gV) (hx : Passes CX X E)
    (hkw : PK X kws tk) (hall : (backToKw pos (keywordEach kws X.env)).all (·.1.isSome) = true := by rfl) (hks : (backToKw pos (keywordEach kws X.env)).filterMap (·.1) = ks := by rfl)
    (hdb : (x == ("__debug__" : Str)) = false := by decide)
    (hpl : ((backTo pos (starEach [] X.env)).any (·.1) || (backToKw pos (keywordEach kws X.env)).any (·.1.isNone)) = false := by rfl) :
    PE X (.Call (.Name x p) [] kws pos) (tCallN 0 ks.length sp gV E tNil tk) := by
  refine ⟨fun pins s σ H Q I h => ?_⟩
  refine wpAny_Call_Name_kw (ld_glob I hg hm ?_ hdb)
  refine PySem.W.callWith_KW0 (h₀ := X.base) I.ok.mod.kin hk hall ?_ hpl
  refine thn (hkw.run pos pins s σ H _ I h) fun ws s2 ⟨zs, H2, I2, rz, l1, l2, q2⟩ => ⟨I2.kIn, ?_⟩
  rw [hks]
  exact run_fnN (us := []) (vs := []) F hr hb hx I2 .nil rz rfl l2 q2
end
end Hk
namespace Hk
open PySem PySem.Spec PyProof.Rows L2
theorem pe_revU {X : Cx} {K : PySem.W.Frag} {e : Expr} {te : TE} {k : Nat} {p1 p2 p3 pos : Pos} (h : X.K = K) (he : PE X e te) : PE X (.Subscript e (.Slice none none (some (.UnaryOp .USub (.Constant (.int 1) k p1) p2)) p3) pos) (tRevL K te) := h ▸ pe_revL he
end Hk
/-! An own error: class E(B), class B(ValueError), whose __init__ says super().__init__(a text) and keeps its argument. -/
namespace PySem
namespace HkE
open PySem.W PySem.Calls PyProof.Rows PySem.HandSPX
/-- the text of __init__(self, value): super().__init__(z); self.value = value -/
def iA (p1 p2 : Pos) : Arguments := { posonlyargs := [], args := [{ arg := "self", annotation := none, pos := p1 }, { arg := "value", annotation := none, pos := p2 }], vararg := none, kwonlyargs := [], kw_defaults := [], kwarg := none, defaults := [] }
def iB (z : Str) (k : Nat) (q0 q1 q2 q3 q4 q5 q6 q7 q8 q9 : Pos) : List Stmt := [.Expr (.Call (.Attribute (.Call (.Name "super" q0) [] [] q1) "__init__" q2) [.Constant (.str z) k q3] [] q4) q5, .Assign [.Attribute (.Name "self" q6) "value" q7] (.Name "value" q8) q9]
def iS : Scope := { kind := .function, names := [(PySem.Str.ofString "self", .local), (PySem.Str.ofString "value", .local), (PySem.Str.ofString "__class__", .free), (PySem.Str.ofString "super", .globalImplicit)], isGenerator := false, isCoroutine := false, more := [] }
/-- what the written part says of the class at C, of its __init__ at fI -/
structure ErrTxt (K : Frag) (file : Str) (C fI : Addr) : Prop where
  cls : ∃ nm q N bs bm sn sub ab col dd k0 k1 k2 k3 k5, K.lookup C = some (excClassObj nm q C N bs bm true sn sub ab col dd k0 k1 k2 k3 k5 "ValueError.__new__") ∧ refsVE bm = true
  sa : findIn K (.ref C) "__setattr__" = some (some (.builtin "object.__setattr__"))
  noN : findIn K (.ref C) "value" = some none
  iC : findIn K (.ref C) "__init__" = some (some (.ref fI))
  tC : typeIn K (.ref fI) = some (.type "function")
  kC : keepIn K (.ref C) = true
  exC : subIn K (.ref C) (.type "BaseException") = some true
  exV : subIn K (.ref C) (.type "ValueError") = some true
  own : mroIn K C (.ref C) = some true
  sup : ks_superIn K C C "__init__" = some (some (.builtin "ValueError.__init__"))
  tyC : typeIn K (.ref C) = some (.type "type")
  hdC : hasDictIn K C = true
  noA : nsIn K cStatics "thirdparty.any" = some none
  fn : ∃ (oc : Value) (od : Option Addr) (qual : Str) (doc pm : Value) (an : Option Addr) (cda cc : Addr) (ct : Value) (osl : Array (Option Value)) (z : Str) (k : Nat) (p1 p2 q0 q1 q2 q3 q4 q5 q6 q7 q8 q9 : Pos) (ccl cl : Value) (cdd cld : Option Addr) (vs : Array Value) (ccs csl : Array (Option Value)) (tf : Tok),
    K.lookup fI = some ⟨oc, od, .func (ksFn "__init__" qual (iA p1 p2) (iB z k q0 q1 q2 q3 q4 q5 q6 q7 q8 q9) iS .none .none doc pm an (.ref cda) ct cc), osl⟩ ∧ codeIn K (.ref cda) qual = true ∧
    K.lookup cda = some ⟨ccl, cdd, .fields vs, ccs⟩ ∧ vs[2]? = some (.str file tf) ∧ K.lookup cc = some ⟨cl, cld, .cell (some (.ref C)), csl⟩ ∧ (q2.endLine == q4.line) = true
theorem len1 (v : Value) : [v].length ≤ sizeLine := by
  rw [sizeLine_eq]
  exact (by decide : 1 ≤ 16777216)
theorem in_but {K : Frag} {h h' : Heap} {x : Addr} (X : K.In h) (hx : K.lookup x = none) (k : ∀ b o, b ≠ x → h.get? b = some o → h'.get? b = some o) : K.In h' := fun a o e =>
  k a o (fun z => by rw [z, hx] at e; cases e) (X a o e)
theorem call_line {o : Expr} {name : Str} {apos pos : Pos} {args : List Expr} {env : Env} (hf : methodCallForm (args.length + 0) (backTo pos (starEach args env)) [] = true) (hl : (apos.endLine == pos.line) = true) :
    eval (.Call (.Attribute o name apos) args [] pos) env = (do
      let ov ← attributeBase o name env (eval o env)
      standAt apos.atName
      let (f, first) ← holding [ov] (getMethod ov name (do return (← importBound o env).getD true))
      callWith pos f first (backTo pos (starEach args env)) []) := by
  show (do
    let ov ← attributeBase o name env (eval o env)
    standAt apos.atName
    methodCall o name apos pos env ov (args.length + 0) (backTo pos (starEach args env)) []) = _
  unfold methodCall
  rw [hf]
  unfold calleeOf methodCallPos
  rw [hl]
  rfl
/-- what __init__ leaves of a fresh error at x -/
structure Done (h h' : Heap) (x C dx t1 : Addr) (v : Value) : Prop where
  keep : ∀ b o, b ≠ x → h.get? b = some o → h'.get? b = some o
  obj : h'.get? x = some { cls := .ref C, dict := some dx, data := .fields #[.ref t1, .none, .none, .none, .bool false, .none] }
  dbig : h.objs.size ≤ dx
  dne : dx ≠ x
  ns : h'.Ns1 dx (fun y => if y = "value" then some v else none)
section
variable {prog : Program} {w : World} {A : Around} {E : Value → Shared → Prop} {R : Result → Shared → Prop} {s : Shared} {K : Frag} {mg mb : Str → Option Value} {C fI : Addr}
theorem err_init (T : ErrTxt K prog.main.file C fI) {x t0 : Addr} {v : Value} (X : K.In s.heap) (hlim : s.heap.NoLimit) (G : s.heap.Ns mainGlobals mg) (hs : mg "super" = none) (Bn : s.heap.Ns builtinsNs mb) (hb : mb "super" = bootBuiltins "super")
    (hx : s.heap.get? x = some (HandSPX.excO C t0)) (hnx : K.lookup x = none) (hroom : A.depth < recursionLimit) (htop : (prog.main.scope.names.lookup ("super" : Str)).isSome = false)
    (hq : ∀ h' tk dx t1, Done s.heap h' x C dx t1 v → R (.ok (.ret .none)) { s with heap := h', toks := tk }) :
    codeAny (model prog w) A (.call (.ref fI) ⟨[.ref x, v], []⟩) R s := by
  obtain ⟨hh, g, d, tk0, os⟩ := s
  obtain ⟨oc, od, qual, doc, pm, an, cda, cc, ct, osl, z, kz, p1, p2, q0, q1, q2, q3, q4, q5, q6, q7, q8, q9, ccl, cl, cdd, cld, vs, ccs, csl, tf, ho, hcd, hcode, hvs, hcell, hline⟩ := T.fn
  obtain ⟨nm, q, N, bs, bm, sn, sub, ab, col, dd, k0, k1, k2, k3, k5, hC, hbm⟩ := T.cls
  have hcl : clsIn K C = some { name := nm, bases := bs, mro := .ref C :: bm, ns := N, qualname := q, hasDict := true, slotNames := sn, subclasses := sub, abstract := ab, collection := col, hasDel := false } := by unfold clsIn; rw [hC] <;> rfl
  refine ks_codeAny_call_defAt (fd := ksFn "__init__" qual (iA p1 p2) (iB z kz q0 q1 q2 q3 q4 q5 q6 q7 q8 q9) iS .none .none doc pm an (.ref cda) ct cc) (body := iB z kz q0 q1 q2 q3 q4 q5 q6 q7 q8 q9) (binds := [("self", .ref x), ("value", v)]) hroom (X _ _ ho) rfl hlim (codeRec_of X hcd) rfl (BindsTo.of_eq (by first | rfl | with_unfolding_all rfl)) (show ∀ y ∈ iS.names, y.2 ≠ .cell by decide) (fun y hy => ?loc) (fun h₁ hn k => ?_) rfl rfl rfl
  case loc =>
    rcases List.mem_cons.mp hy with e | hy
    · rw [e]; rfl
    · rw [List.mem_singleton.mp hy]; rfl
  have hxL : hh.objs.size ≠ x := Nat.ne_of_gt (Heap.lt_size hx)
  have X₁ : K.In h₁ := X.keeps k
  have hx₁ := k _ _ hx
  refine ks_wpAt_execs_cons (ks_wpAt_Expr_any (ks_wpAt_MethodCall (pl := _) ?_ (call_line (show methodCallForm 1 [(false, eval (.Constant (.str z) kz q3) _)] [] = true from rfl) hline)))
  refine ks_wpAt_super_base (env := ksEnv qual iS hh.objs.size fI (.ref cda) cc) rfl rfl (by decide) rfl (X₁ _ _ ho) rfl rfl rfl (X₁ _ _ hcode) rfl hvs (beq_self_eq_true _) htop ?_
  refine ks_loadName_global rfl rfl (loadGlobal_builtin (env := ksEnv qual iS hh.objs.size fI (.ref cda) cc) (G.keeps k) hs (Bn.keeps k) (hb.trans PyProof.Rows.Boot.super) ⟨rfl, ?_⟩)
  refine wpAny_loadName_free rfl rfl rfl ⟨_, X₁ _ _ hcell, rfl⟩ ?_
  refine wpAny_loadName_local (v := .ref x) rfl rfl hn (by first | rfl | with_unfolding_all rfl | kernel_rfl) ?_
  refine ks_wpAny_isType_cls (X₁ _ _ hC) rfl ⟨rfl, ?_⟩
  refine ks_wpAny_call_super (X₁ _ _ hC) rfl hx₁ rfl (fun c e => nomatch e) (looks_mroIn X₁ T.own) (fun h₂ e₂ k₂ => ?_)
  have X₂ : K.In h₂ := X₁.keeps k₂
  have I₂ : InstAt h₂ x (HandSPX.excO C t0) C none := ⟨k₂ _ _ hx₁, rfl, rfl, trivial⟩
  have hmro : Looks (model prog w) h₂ (mroOf (.ref C)) (.ref C :: bm) := fun A Q E s k q => wpAny_bind ((looks_clsIn X₂ hcl) A _ E s k (wpAny_pure q))
  have hsup : alongIn K "__init__" (((Value.ref C :: bm).dropWhile (· != .ref C)).drop 1) = some (some (.builtin "ValueError.__init__")) := by
    have := T.sup
    unfold ks_superIn at this
    rw [hcl] at this
    exact this
  refine kxs_getMethod kxs_ValueError e₂ (looks_opaque X₂ T.noA) hmro rfl X₂ hsup (I₂.type.andThen (looks_subIn X₂ T.exV)) (ks_ne X₂ I₂ hcl) (by decide) ?_
  have hu : (h₂.push (kxs_mw "ValueError.__init__" x)).get? h₂.objs.size = some (kxs_mw "ValueError.__init__" x) := Heap.get?_push_at rfl rfl
  have k₃ : ∀ b o, h₂.get? b = some o → (h₂.push (kxs_mw "ValueError.__init__" x)).get? b = some o := fun b o e => Heap.get?_push_of_some _ e
  show wpAny _ _ (callWith q4 (.ref h₂.objs.size) [] ((false, eval (.Constant (.str z) kz q3) _) :: []) []) _ _ _
  refine kxs_callWith (i := "ValueError.__init__") (x := x) rfl (evalArgs_plain (spliced_cons (wpAny_Constant_str (spliced_nil ⟨hu, ?_⟩))))
  have hx₃ := k₃ _ _ (k₂ _ _ hx₁)
  have hC₃ := k₃ _ _ (X₂ _ _ hC)
  refine wpAny_call (codeAny_of_tree ?_)
  show wpAny _ _ (callAny (.ref h₂.objs.size) ⟨_, []⟩) _ _ _
  simp only [callAny]
  refine wpAny_bind (wpAny_load hu ?_)
  simp only [kxs_mw, show (Value.type "method-wrapper" == Value.type "method" || Value.type "method-wrapper" == Value.type "builtin_function_or_method" || Value.type "method-wrapper" == Value.type "method-wrapper") = true by decide, if_true]
  refine KFB.if_so (by decide) ?_
  refine wpAny_bind (check_bound_init F.excBase_ValueError.toExcCallFacts hC₃ hx₃ rfl ?_)
  refine wpAny_bind (wpAny_pure (wpAny_pure ?_))
  refine ⟨plainId_quiet F.excBase_ValueError.init.plain _, codeAny_builtin F.excBase_ValueError.initEntry ?_⟩
  refine exc_init_tree (cls := .ref C) (t0 := t0) (dv := none) (c2 := .none) (c3 := .none) (b4 := .bool false) hx₃ (len1 _) fun h₄ k₄ hx₄ _ => ?_
  have old : ∀ b o, b ≠ x → hh.get? b = some o → h₄.get? b = some o := fun b o hb e => k₄ b o hb (k₃ b o (k₂ b o (k b o e)))
  have X₄ : K.In h₄ := in_but X hnx old
  have hn₄ : h₄.Ns hh.objs.size (fun y => List.lookup y ([(("self" : Str), Value.ref x), ("value", v)] : List (Str × Value)).reverse) := hn.at fun o e => k₄ _ _ hxL (k₃ _ _ (k₂ _ _ e))
  show _root_.PySem.wpAt _ _ _ (execs _ _) _ _ _
  refine ks_wpAt_execs_cons (wpAt_of_wpAny (plainObj_wpAny_Assign_Attribute ?_))
  refine wpAny_Name (wpAny_loadName_local (v := v) rfl rfl hn₄ (by first | rfl | with_unfolding_all rfl | kernel_rfl) ?_) (by decide)
  refine wpAny_Name (wpAny_loadName_local (v := .ref x) rfl rfl hn₄ (by first | rfl | with_unfolding_all rfl | kernel_rfl) ?_) (by decide)
  refine set_plain X₄ (ox := HandSPX.excO C h₂.objs.size.succ) (od := none) ⟨?hx, rfl, rfl, trivial⟩ T.sa ?_
  case hx =>
    have e : (h₂.push (kxs_mw "ValueError.__init__" x)).objs.size = h₂.objs.size.succ := by rw [Heap.size_push]
    rw [e] at hx₄
    exact hx₄
  have hz : hh.objs.size ≤ h₄.objs.size := Nat.le_of_lt hn₄.lt
  refine exc_osa X₄ hx₄ hcl (show refsVE (.ref C :: bm) = true from hbm) rfl T.noN (fun h₅ tk₅ dx k₅ dn dne hx₅ hn₅ => ?_)
  exact wpAt_of_wpAny (wpAny_execs_nil (hq h₅ tk₅ dx _ ⟨fun b o hb e => k₅ b o hb (old b o hb e), hx₅, Nat.le_trans hz dn, dne, hn₅⟩))
/-- a made error -/
structure Made (h h' : Heap) (e C d : Addr) (v : Value) : Prop where
  keep : ∀ b o, h.get? b = some o → h'.get? b = some o
  new : h.objs.size ≤ e
  obj : ∃ oe vs, h'.get? e = some oe ∧ oe.cls = .ref C ∧ oe.dict = some d ∧ oe.data = .fields vs ∧ vs[1]? = some .none
  dbig : h.objs.size ≤ d
  dne : d ≠ e
  ns : h'.Ns1 d (fun y => if y = "value" then some v else none)
theorem err_made (T : ErrTxt K prog.main.file C fI) {v : Value} (X : K.In s.heap) (hlim : s.heap.NoLimit) (G : s.heap.Ns mainGlobals mg) (hs : mg "super" = none) (Bn : s.heap.Ns builtinsNs mb) (hb : mb "super" = bootBuiltins "super")
    (hroom : A.depth + 1 < recursionLimit) (htop : (prog.main.scope.names.lookup ("super" : Str)).isSome = false)
    (hq : ∀ h' tk e d, Made s.heap h' e C d v → R (.ok (.ret (.ref e))) { s with heap := h', toks := tk }) :
    codeAny (model prog w) A (.call (.ref C) ⟨[v], []⟩) R s := by
  obtain ⟨nm, q, N, bs, bm, sn, sub, ab, col, dd, k0, k1, k2, k3, k5, hC, hbm⟩ := T.cls
  obtain ⟨hp, g, dr, tk, os⟩ := s
  have k : ∀ b o, hp.get? b = some o → ((hp.push (kdv_tup [v])).push (HandSPX.excO C hp.objs.size)).get? b = some o := fun b o e => Heap.get?_push_of_some _ (Heap.get?_push_of_some _ e)
  have hget : ((hp.push (kdv_tup [v])).push (HandSPX.excO C hp.objs.size)).get? (hp.objs.size + 1) = some (HandSPX.excO C hp.objs.size) := by heap_get
  have hnx : K.lookup (hp.objs.size + 1) = none := by
    cases e : K.lookup (hp.objs.size + 1) with
    | none => rfl
    | some o => exact absurd (Nat.lt_of_succ_lt (Heap.lt_size (show hp.get? (hp.objs.size + 1) = some o from X _ _ e))) (Nat.lt_irrefl _)
  refine HandSPX.call_own F.excBase_ValueError (fun X => HandSPX.refsVE_contains X bm hbm) (X _ _ hC) (looks_findIn X T.iC) (fun self => bind_fn X self T.tC) (len1 v) ?_
  refine err_init (s := ⟨(hp.push (kdv_tup [v])).push (HandSPX.excO C hp.objs.size), g, dr, tk, os⟩) T (X.keeps k) (hlim.keeps k) (G.keeps k) hs (Bn.keeps k) hb hget hnx ?_ htop fun h' tk' dx t1 ⟨k', hx, dn, dne, hns⟩ => ?_
  · show A.depth + 1 < recursionLimit
    exact hroom
  · have old : ∀ b o, hp.get? b = some o → h'.get? b = some o := fun b o e => k' b o (Nat.ne_of_lt (Nat.lt_succ_of_lt (Heap.lt_size e))) (k b o e)
    have z : hp.objs.size + 1 + 1 ≤ dx := by
      first
        | (simpa only [Heap.size_push] using dn)
        | exact dn
        | (have q := dn; rw [Heap.size_push, Heap.size_push] at q; exact q)
    exact ⟨rfl, hq h' tk' (hp.objs.size + 1) dx ⟨old, Nat.le_succ _, ⟨_, _, hx, rfl, rfl, rfl, rfl⟩, Nat.le_trans (Nat.le_trans (Nat.le_succ _) (Nat.le_succ _)) z, dne, hns⟩⟩
end
end HkE
end PySem
namespace Hk
open PySem PySem.Spec PyProof.Rows L2
theorem relO_val {v : V} {v' : Value} (r : RelV v v') (f : Str) : RelO (List.lookup f [(("value" : Str), v)]) (if f = "value" then some v' else none) := by
  by_cases hw : f = "value"
  · subst hw
    rw [if_pos rfl, show List.lookup ("value" : Str) [(("value" : Str), v)] = some v from by simp [List.lookup]]
    exact r
  · rw [if_neg hw, show List.lookup f [(("value" : Str), v)] = none from by
      have qw : (f == ("value" : Str)) = false := by simpa using hw
      simp [List.lookup, qw]]
    trivial
section
variable {X : Cx} {C fI : Addr} {x : Str}
/-- E(e) -/
def tMkE (C : Addr) (ta : TA) : L2.St → Hp → XK → Prop := fun σ H Q => ta σ H fun vs H1 => ∃ v, vs = [v] ∧ ∀ d, H1 d = none → Q (.ref C) (some d) (upd H1 d (.xd [(("value" : Str), v)]))
theorem pmk_err {a : Expr} {ta : TA} {p pos : Pos} {k : Nat} (T : PySem.HkE.ErrTxt X.K X.prog.main.file C fI) (hs : X.mg "super" = none) (htop : (X.prog.main.scope.names.lookup ("super" : Str)).isSome = false) (hr : Room k X.A) (ha : PA X [a] ta) (hg : Gl X x) (hm : X.mg x = some (.ref C))
    (hdb : (x == ("__debug__" : Str)) = false := by decide) (he : starEach (a :: []) X.env = (false, eval a X.env) :: starEach [] X.env := by rfl) (hpl : (backTo pos (starEach [] X.env)).any (·.1) = false := by rfl) :
    PMk X (.Call (.Name x p) [a] [] pos) (tMkE C ta) := by
  intro pins s σ H Q I h
  refine wpAny_Call_Name_kw (ld_glob I hg hm ?_ hdb)
  refine PySem.W.callWith_K (h₀ := X.base) I.ok.mod.kin T.kC (thn (ha.run pos pins s σ H _ I h) fun us s1 hh => ?_) he hpl
  obtain ⟨vs, H1, I1, r1, v, ev, q1⟩ := hh
  subst ev
  refine ⟨I1.kIn, ?_⟩
  cases r1 with
  | cons rv rn =>
    rename_i v' us'
    cases rn
    show wpAny _ _ (call (.ref C) [v']) _ _ _
    have hlim := I1.nolimit
    obtain ⟨mb, hB, hBb⟩ := I1.mod.blt
    have kk := I1.kIn
    have G := I1.mod.glob.keeps I1.bk
    have Bn := hB.keeps I1.bk
    obtain ⟨hp, g, dr, tk, os⟩ := s1
    refine wpAny_call (PySem.HkE.err_made T kk hlim G hs Bn (hBb _ (by decide)) (by have := hr.dp; omega) htop fun h' tk' e d M => ?_)
    show MkP X pins σ Q (.ref e) ⟨h', g, dr, tk', os⟩
    obtain ⟨oe, fv, hoe, hc, hd, hdat, h1⟩ := M.obj
    have hns := M.ns
    obtain ⟨G', g1, g2⟩ := restrict h' fun b => decide (b ≠ e)
    have gk : ∀ b, b ≠ e → G'.get? b = h'.get? b := fun b hb => g1 b (decide_eq_true hb)
    have ge : G'.get? e = none := g2 e (by simp)
    have old : ∀ b o, hp.get? b = some o → G'.get? b = some o := fun b o q => (gk b (Nat.ne_of_lt (Nat.lt_of_lt_of_le (Heap.lt_size q) M.new))).trans (M.keep b o q)
    have ob : ObjOk X.prog X.w (upd H1 d (.xd [(("value" : Str), v)])) G' d (.xd [(("value" : Str), v)]) := ⟨_, hns.at (fun o q => (gk d M.dne).trans q), fun f => relO_val rv f⟩
    have J : Inv X pins σ (upd H1 d (.xd [(("value" : Str), v)])) ⟨G', g, dr, tk', os⟩ := I1.laid (t' := tk') old M.dbig ob
    refine ⟨e, oe, fv, ⟨G', g, dr, tk', os⟩, _, .ref C, some d, rfl, J, fun b o q => ?_, ge, hoe, ⟨hc, hd⟩, hdat, h1, ?_, rfl, I1.bare, raises_own T.exC T.tyC, q1 d (I1.hok.fresh M.dbig)⟩
    · by_cases hb : b = e
      · have q' : G'.get? b = some o := q
        rw [hb, ge] at q'; cases q'
      · exact (gk b hb).symm.trans q
    · rw [upd_ne (Ne.symm M.dne)]
      exact I1.hok.fresh M.new
/-- raise E(e) -/
def tRaiseE (C : Addr) (W : WX) (ta : TA) : TS := fun _ σ H => tMkE C ta σ H fun cls d H' => W cls d σ H'
theorem ps_raiseE {a : Expr} {ta : TA} {W : WX} {p pos pos2 : Pos} {k : Nat} (hc : X.calm = true) (T : PySem.HkE.ErrTxt X.K X.prog.main.file C fI) (hs : X.mg "super" = none) (htop : (X.prog.main.scope.names.lookup ("super" : Str)).isSome = false) (hr : Room k X.A) (tk : Takes X W) (ha : PA X [a] ta) (hg : Gl X x) (hm : X.mg x = some (.ref C))
    (hdb : (x == ("__debug__" : Str)) = false := by decide) (he : starEach (a :: []) X.env = (false, eval a X.env) :: starEach [] X.env := by rfl) (hpl : (backTo pos (starEach [] X.env)).any (·.1) = false := by rfl) :
    PS X (.Raise (some (.Call (.Name x p) [a] [] pos)) none pos2) (tRaiseE C W ta) := ps_raise hc tk (pmk_err T hs htop hr ha hg hm hdb he hpl)
/-- e.value, e the error that the suite holds (at a; its class cls, its dict d) -/
def tValE (C : Addr) (a : Addr) (cls : Value) (d : Option Addr) (te : TE) : TE := fun σ H Q => te σ H fun x H1 => x = .ref a ∧ cls = .ref C ∧ ∃ (dd : Addr) (v : V), d = some dd ∧ H1 dd = some (.xd [(("value" : Str), v)]) ∧ Q v H1
theorem pe_valE {a : Addr} {oe : Obj} {cls : Value} {d : Option Addr} {pn : List (Addr × Obj)} {e : Expr} {te : TE} {pos : Pos} (T : PySem.HkE.ErrTxt X.K X.prog.main.file C fI) (EC : ExcC X.K C) (hz : Zc cls d oe) (hf : ∃ vs, oe.data = .fields vs) (he : PE (X.suite a ((a, oe) :: pn)) e te)
    (hb : attributeBase e "value" X.env (eval e X.env) = eval e X.env := by rfl) :
    PE (X.suite a ((a, oe) :: pn)) (.Attribute e "value" pos) (tValE C a cls d te) := by
  refine ⟨fun pins s σ H Q I h => ?_⟩
  refine attr_of hb (thn (he.run pins s σ H _ I h) fun u s1 hh => ?_)
  obtain ⟨x, H1, I1, rx, ex, ec, dd, v, ed, ea, q⟩ := hh
  subst ex
  obtain rfl : u = Value.ref a := rx
  subst ec
  subst ed
  obtain ⟨ha, _⟩ := I1.pin (a, oe) (List.mem_append_left _ List.mem_cons_self)
  obtain ⟨vs, hd⟩ := hf
  have hx : ObjOk X.prog X.w H1 s1.heap dd (.xd [(("value" : Str), v)]) := I1.hok dd _ ea
  obtain ⟨mA, hns, hr⟩ := hx
  obtain ⟨od, ho, hl⟩ := lookIn_ns hns
  have l : List.lookup ("value" : Str) [(("value" : Str), v)] = some v := by simp [List.lookup]
  obtain ⟨u, hu, ru⟩ := RelO.some_of (v := v) (o := mA "value") (by rw [← l]; exact hr "value")
  have J : PySem.W.InstAt s1.heap a oe C (some od) := ⟨ha, hz.1, by unfold PySem.W.notCls; rw [hd] <;> rfl, by rw [hz.2]; exact ho⟩
  exact HandSPX.exc_get I1.kIn J EC.hg EC.hk EC.hs (PySem.W.findObj_own T.hdC T.noN rfl (by rw [hl, hu])) (handed_of ru) ⟨v, H1, I1.tok _, ru, q⟩
/-- isinstance(e, c), isinstance(e, (c1, ..)): e the error that the suite holds, a dict d -/
def rIsE1 (K : PySem.W.Frag) (D a dd : Addr) : List V → Hp → VK → Prop := fun xs H Q => ∃ (c : V) (u : Value) (b : Bool) (fs : List (Str × V)), xs = [.ref a, c] ∧ ClsV c u ∧ H dd = some (.xd fs) ∧ PySem.W.kitOne K (.ref D) u = some b ∧ Q (.bl b) H
def rIsET (K : PySem.W.Frag) (D a dd : Addr) : List V → Hp → VK → Prop := fun xs H Q => ∃ (tp : Addr) (cs : List V) (us : List Value) (b : Bool) (fs : List (Str × V)), xs = [.ref a, .ref tp] ∧ H tp = some (.tup cs) ∧ Paired ClsV cs us ∧ H dd = some (.xd fs) ∧ PySem.W.kitAny K (.ref D) us = some b ∧ Q (.bl b) H
theorem inst_suite {a D dd : Addr} {oe : Obj} {pn : List (Addr × Obj)} {pins : List (Addr × Obj)} {s : Shared} {σ : L2.St} {H : Hp} {fs : List (Str × V)} (I : Inv (X.suite a ((a, oe) :: pn)) pins σ H s) (hz : Zc (.ref D) (some dd) oe) (hf : ∃ vs, oe.data = .fields vs) (hd : H dd = some (.xd fs)) : ∃ od, PySem.W.InstAt s.heap a oe D (some od) := by
  obtain ⟨hget, _⟩ := I.pin (a, oe) (List.mem_append.mpr (.inl List.mem_cons_self))
  obtain ⟨vs, hv⟩ := hf
  obtain ⟨mA, hns, _⟩ := (show ObjOk X.prog X.w H s.heap dd (.xd fs) from I.hok dd _ hd)
  obtain ⟨od, ho, _⟩ := lookIn_ns hns
  exact ⟨od, hget, hz.1, by unfold PySem.W.notCls; rw [hv] <;> rfl, by rw [hz.2]; exact ho⟩
theorem cls_some {K : PySem.W.Frag} {D : Addr} (C : ExcC K D) : (PySem.W.clsIn K D).isSome = true := by
  cases e : PySem.W.clsIn K D with
  | some cd => rfl
  | none =>
    have := C.hd
    unfold PySem.W.hasDictIn at this
    rw [e] at this
    cases this
theorem call_isE1 {a D dd : Addr} {oe : Obj} {pn : List (Addr × Obj)} (C : ExcC X.K D) (hz : Zc (.ref D) (some dd) oe) (hf : ∃ vs, oe.data = .fields vs) : CallR (X.suite a ((a, oe) :: pn)) (.builtin "isinstance") (rIsE1 X.K D a dd) := by
  intro pins s σ H xs us Q I r h
  obtain ⟨c, u, b, fs, rfl, k, hd, e, q⟩ := h
  obtain ⟨u1, u2, rfl, r1, r2⟩ := vals2 r
  cases (show u1 = Value.ref a from r1)
  have e2 := k.eq r2
  subst e2
  obtain ⟨od, J⟩ := inst_suite I hz hf hd
  exact PySem.W.kia_one (PySem.W.kitx_exc (cls_some C) C.hg C.hk C.hs C.ha C.hn C.ht C.hm) I.kIn J e (fun z => nomatch z) fun tk => ⟨.bl b, H, I.tok tk, rfl, q⟩
theorem call_isET {a D dd : Addr} {oe : Obj} {pn : List (Addr × Obj)} (C : ExcC X.K D) (hz : Zc (.ref D) (some dd) oe) (hf : ∃ vs, oe.data = .fields vs) : CallR (X.suite a ((a, oe) :: pn)) (.builtin "isinstance") (rIsET X.K D a dd) := by
  intro pins s σ H xs us Q I r h
  obtain ⟨tp, cs, ws, b, fs, rfl, hT, k, hd, e, q⟩ := h
  obtain ⟨u1, u2, rfl, r1, r2⟩ := vals2 r
  cases (show u1 = Value.ref a from r1)
  cases (show u2 = Value.ref tp from r2)
  obtain ⟨od, J⟩ := inst_suite I hz hf hd
  obtain ⟨_, its, rv, o, h1, h2, n, h3⟩ := (show ObjOk X.prog X.w H s.heap tp (.tup cs) from I.hok tp _ hT)
  have e3 := ClsV.all k rv
  subst e3
  obtain ⟨oc, od', dt, sl⟩ := o
  simp only at h2 h3
  subst h2 h3
  exact PySem.W.kia_tup (PySem.W.kitx_exc (cls_some C) C.hg C.hk C.hs C.ha C.hn C.ht C.hm) I.kIn J h1 e (fun z => nomatch z) fun tk => ⟨.bl b, H, I.tok tk, rfl, q⟩
end
end Hk
/-! ### unpack a list into one name and the rest -/
namespace PySem.W
open PySem PySem.Spec PySem.Calls PyProof.Rows
section
variable {prog : Program} {w : World} {A : Around} {E : Value → Shared → Prop} {s : Shared} {env : Env} {elts : List Expr} {k : Nat} {pos : Pos}
theorem kun_starH {l : Addr} {items : Array Value} {n i : Nat} {first mids lasts : List Value} {Q : List Value → Shared → Prop} (hl : s.heap.IsList l items) (hh : A.handled = none) (hi : i < n) (hn : n ≤ items.size + 1) (hz : items.size ≤ 16384)
    (h1 : items.toList.take i = first) (h2 : (items.toList.drop i).take (items.size + 1 - n) = mids) (h3 : (items.toList.drop i).drop (items.size + 1 - n) = lasts)
    (h : ∀ (h₂ : Heap) tk, (∀ b o, s.heap.get? b = some o → h₂.get? b = some o) → Q (first ++ [.ref h₂.objs.size] ++ lasts) { s with heap := h₂.push { cls := .type "list", data := .seq mids.toArray }, toks := tk }) : wpAny (model prog w) A (unpackItems (.ref l) n (some i)) Q E s := by
  subst h1 h2 h3
  have hlt : l ≠ s.heap.objs.size := by obtain ⟨o, ho, _⟩ := hl; exact Nat.ne_of_lt (Heap.lt_size ho)
  have hll : l < s.heap.objs.size := by obtain ⟨o, ho, _⟩ := hl; exact Heap.lt_size ho
  unfold unpackItems
  refine wpAny_bind ?_
  unfold notIterableAtAll
  refine wpAny_bind (wpAny_specialOf hl.typeIs slot_list_iter.lookup ?_)
  refine wpAny_pure ?_
  simp only [Bool.false_eq_true, if_false]
  refine wpAny_bind (wpAny_holding (wpAny_pyIter_list hl ?_))
  refine wpAny_bind (wpAny_holding (kun_draw hlt i 0 _ _ ⟨_, Heap.get?_push_size _ rfl, rfl, rfl⟩ (hl.push _) (by omega) fun h₁ hit₁ hs₁ => ?_))
  have hl₁ : h₁.IsList l items := (hl.push _).extBut hs₁.extBut hlt
  rw [Nat.zero_add] at hit₁
  have hit₁' := hit₁
  obtain ⟨oi, hoi, _⟩ := hit₁'
  have hl₁' := hl₁
  obtain ⟨ol, hol, _⟩ := hl₁'
  rw [List.drop_zero]
  have hfl : (items.toList.take i).length = i := by rw [List.length_take, Array.length_toList]; omega
  rw [if_neg (show ¬ ((items.toList.take i).length < i) by rw [hfl]; omega)]
  refine wpAny_bind (wpAny_holding (kun_collect (s := { s with heap := h₁ }) (T := "list_iterator") (.inr (.inr (.inl rfl))) (Walks.list (A := A.in1) hh s.heap.objs.size l hlt items) (fun j u st => st.1.typeIs) (k := i) (by omega) ⟨hit₁, hl₁⟩ (Heap.lt_size hoi) (Heap.lt_size hol) (fun h₂ tk hk => ?_) (by rw [sizeLine_eq]; omega)))
  have hrl : (items.toList.drop i).length = items.size - i := by rw [List.length_drop, Array.length_toList]
  have hmid : (items.toList.drop i).length - (n - 1 - i) = items.size + 1 - n := by rw [hrl]; omega
  show wpAny _ _ (if (items.toList.drop i).length < n - 1 - i then _ else _) _ _ _
  rw [if_neg (by rw [hrl]; omega)]
  show wpAny _ _ (newList ((items.toList.drop i).take ((items.toList.drop i).length - (n - 1 - i))) >>= fun d => pure (items.toList.take i ++ [d] ++ (items.toList.drop i).drop ((items.toList.drop i).length - (n - 1 - i)))) _ _ _
  rw [hmid]
  have he : Heap.ExtBut s.heap.objs.size s.heap h₂ := fun b o hb e => hk b o hb (hs₁.extBut b o hb (Heap.get?_push_of_some _ e))
  exact wpAny_bind (wpAny_newList (wpAny_pure (h h₂ tk fun b o e => he b o (Nat.ne_of_lt (Heap.lt_size e)) e)) (by rw [List.length_take, hrl, sizeLine_eq]; omega))
theorem kun_assignH {l : Addr} {items : Array Value} {n i : Nat} {first mids lasts : List Value} {Q : Unit → Shared → Prop} (hl : s.heap.IsList l items) (hh : A.handled = none) (hlen : (assignEach elts env).length = n) (hstar : (assignEach elts env).findIdx? (·.1) = some i)
    (hi : i < n) (hn : n ≤ items.size + 1) (hz : items.size ≤ 16384) (h1 : items.toList.take i = first) (h2 : (items.toList.drop i).take (items.size + 1 - n) = mids) (h3 : (items.toList.drop i).drop (items.size + 1 - n) = lasts)
    (h : ∀ (h₂ : Heap) tk, (∀ b o, s.heap.get? b = some o → h₂.get? b = some o) → wpAny (model prog w) A (assignInOrder ((assignEach elts env).map (·.2)) (first ++ [.ref h₂.objs.size] ++ lasts)) Q E { s with heap := h₂.push { cls := .type "list", data := .seq mids.toArray }, toks := tk }) :
    wpAny (model prog w) A (assign (.Tuple elts k pos) env (.ref l)) Q E s := by
  rw [assign_Tuple]
  refine wpAny_bind (wpAny_standAt ?_)
  unfold unpack
  rw [hlen, hstar]
  exact wpAny_bind (wpAny_holding (kun_starH hl hh hi hn hz h1 h2 h3 h))
end
end PySem.W
namespace Hk
open PySem PySem.Spec PyProof.Rows L2
section
variable {X : Cx} {pos : Pos}
/-- (a, *b) = a list -/
def gStar (K : PySem.W.Frag) (t u : TG) : TG := fun v σ H Q => ∃ a x xs, v = .ref a ∧ SqL K H a (x :: xs) ∧ xs.length ≤ 16000 ∧ ∀ p, H p = none → t x σ (upd H p (.lst xs)) fun σ' H' => u (.ref p) σ' H' Q
theorem pg_star {e1 e2 : Expr} {k : Nat} {t u : TG} (hc : X.calm = true) (h1 : PG X e1 t) (h2 : PG X e2 u) {q : Pos}
    (hn : (assignEach [e1, .Starred e2 q] X.env).length = 2 := by rfl) (hst : (assignEach [e1, .Starred e2 q] X.env).findIdx? (·.1) = some 1 := by rfl)
    (hm : (assignEach [e1, .Starred e2 q] X.env).map (·.2) = [assign e1 X.env, assign e2 X.env] := by rfl) : PG X (.Tuple [e1, .Starred e2 q] k pos) (gStar X.K t u) := by
  refine ⟨fun pins s σ H v w Q I r hw => ?_⟩
  obtain ⟨a, x, xs, e1, hq, hl, hw⟩ := hw
  subst e1
  cases r
  obtain ⟨its, rv, ht, hz⟩ := I.list hq
  have hlen := rv.length
  cases rv with
  | @cons _ y _ ys rx rxs =>
    have hly := rxs.length
    refine PySem.W.kun_assignH (n := 2) (i := 1) (first := [y]) (mids := ys) (lasts := []) ht.isList (I.ok.hd hc) hn hst (by omega) (by simp) (by simp; omega) (by simp) (by simp) (by simp) fun h₂ tk hk => ?_
    have I2 : Inv X pins σ H { s with heap := h₂, toks := tk } := I.kept hk
    have I3 : Inv X pins σ (upd H h₂.objs.size (.lst xs)) { s with heap := h₂.push { cls := .type "list", data := .seq ys.toArray }, toks := tk } := I2.laid (t' := tk) (o := .lst xs) (fun b ob q => Heap.get?_push_of_some _ q) (Nat.le_refl _) ⟨by rw [sizeLine_eq]; omega, ys, 0, rxs, Heap.get?_push_size _ rfl⟩
    rw [hm]
    refine assignInOrder_cons (thn (h1.run pins _ σ _ x y _ I3 rx (hw _ (I2.hok.fresh (Nat.le_refl _)))) fun _ s1 ⟨σ1, H1, I1, q1⟩ => ?_)
    exact assignInOrder_cons (thn (h2.run pins s1 σ1 H1 (.ref h₂.objs.size) (.ref h₂.objs.size) _ I1 rfl q1) fun _ s2 ⟨σ2, H2, J2, q2⟩ => assignInOrder_nil ⟨σ2, H2, J2, q2⟩)
end
/-! ### xs.append(x) -/
section
variable {X : Cx} {o e : Expr} {to te : TE} {apos pos : Pos}
def tApp (to te : TE) : TE := fun σ H Q => to σ H fun x H1 => ∃ a xs0, x = .ref a ∧ H1 a = some (.lst xs0) ∧ te σ H1 fun y H2 => ∃ xs, H2 a = some (.lst xs) ∧ xs.length < sizeLine ∧ Q .non (upd H2 a (.lst (xs ++ [y])))
theorem pe_app (ho : PE X o to) (he : PE X e te) (hs : starEach [e] X.env = [(false, eval e X.env)] := by rfl) (hbase : attributeBase o "append" X.env (eval o X.env) = eval o X.env := by rfl) (hline : (apos.endLine == pos.line) = true := by rfl) :
    PE X (.Call (.Attribute o "append" apos) [e] [] pos) (tApp to te) := by
  refine ⟨fun pins s σ H Q I h => ?_⟩
  refine PySem.Call_method1 hbase hs hline (thn (ho.run pins s σ H _ I h) fun v s1 ⟨x, H1, I1, r1, q1⟩ => ?_)
  obtain ⟨a, xs0, rfl, ha, q1⟩ := q1
  cases (show v = Value.ref a from r1)
  obtain ⟨z, its, n, r, hl, e0⟩ := I1.lstM ha
  refine ⟨"list", _, F.plainAttrs_list, F.slot_list_append, F.type_list_append, ⟨_, e0, rfl⟩, ?_, Calls.callWith_builtin rfl (Calls.evalArgs_plain (Calls.spliced_cons ?_))⟩
  · intro b hb
    cases hb
    exact ⟨_, e0, rfl⟩
  · exact thn (he.run pins s1 σ H1 _ I1 q1) fun u s2 ⟨y, H2, I2, r2, xs, hx, hlt, q2⟩ => Calls.spliced_nil (mt_append pins s2 σ H2 (.ref a) [y] _ [u] Q I2 (show RelV (.ref a) (.ref a) from rfl) (.cons r2 .nil) ⟨a, xs, y, rfl, rfl, hx, hlt, q2⟩)
end
end Hk
/-! ### a tuple of two, turned round -/
namespace L2.HT
open PySem PySem.Spec PyProof.Rows
section
variable {prog : Program} {w : World} {A : Around} {E : Value → Shared → Prop} {s : Shared}
theorem getItem_tuple_rev2 {t sl : Addr} {a b : Value} {Q : Value → Shared → Prop} (ht : IsTup s.heap t #[a, b]) {u : Tok} (hs : s.heap.IsSliceOf sl .none .none (.int (-1) u))
    (h : Q (.ref s.heap.objs.size) { s with heap := s.heap.push { cls := .type "tuple", data := .seq #[b, a] } }) : wpAny (model prog w) A (getItem (.ref t) (.ref sl)) Q E s := by
  have htake : sizeOk (.seq (#[b, a] : Array Value)) := by
    show (#[b, a] : Array Value).size ≤ sizeLine
    rw [sizeLine_eq]
    simp
  obtain ⟨os, hos, hcs, hds⟩ := id hs
  have hTs : s.TypeIs (.ref sl) "slice" := ⟨os, hos, hcs⟩
  unfold getItem
  try with_reducible refine wpAny_holding ?_
  first | refine wpAny_bind (wpAny_pure ?_) | skip
  refine wpAny_bind (wpAny_sequenceKey ht.typeIs (by decide) ?_)
  refine wpAny_bind (wpAny_callSpecial?_slot (name := Str.ofString "__getitem__") ht.typeIs PyProof.Rows.slot_tuple_getitem
    (wpAny_call_entry PyProof.Rows.slot_tuple_getitem ht.typeIs entry_tuple_getitem ?_ (args_tuple_getitem _ _)))
  show wpAny _ _ (Builtin.Tuple.tupleItemsOf (.ref t) >>= _) _ _ s
  refine wpAny_bind (tupleItemsOf_ ht ?_)
  refine wpAny_bind (wpAny_typeOf hTs ?_)
  rw [if_pos (by decide)]
  have ap : ∀ {A' : Around} {E' : Value → Shared → Prop} {Q : Int × Int × Nat → Shared → Prop}, Q (1, -1, 2) s → wpAny (model prog w) A' (Builtin.Slice.sliceApplied (.ref sl) (pure (2 : Int))) Q E' s := fun {A' E' Q} h => by
    unfold Builtin.Slice.sliceApplied Builtin.Slice.sliceFields
    refine wpAny_bind (wpAny_bind (wpAny_field hos hds (x := .none) rfl (wpAny_bind (wpAny_field hos hds (x := .none) rfl (wpAny_bind (wpAny_field hos hds (x := .int (-1) u) rfl (wpAny_pure ?_)))))))
    refine wpAny_bind (slicePart_int ?_)
    show wpAny _ _ (if ((-1 : Int) == 0) = true then _ else _) _ _ s
    rw [if_neg (by decide)]
    refine wpAny_bind (slicePart_none (wpAny_bind (slicePart_none (wpAny_bind (wpAny_pure ?_)))))
    exact wpAny_pure h
  refine wpAny_bind (ap ?_)
  first
    | exact wpAny_bind (m := Builtin.Tuple.tupleExact _) (wpAny_newObj_type (wpAny_pure ⟨_, rfl, wpAny_pure h⟩) htake)
    | exact wpAny_bind (m := Builtin.Tuple.tupleExact _) (wpAny_newObj_type (wpAny_bind (wpAny_pure (wpAny_pure ⟨_, rfl, wpAny_pure h⟩))) htake)
    | exact wpAny_bind (wpAny_bind (m := Builtin.Tuple.tupleExact _) (wpAny_newObj_type (wpAny_pure (wpAny_pure ⟨_, rfl, wpAny_pure h⟩)) htake))
    | exact wpAny_bind (wpAny_bind (m := Builtin.Tuple.tupleExact _) (wpAny_newObj_type (wpAny_pure ⟨_, rfl, wpAny_pure h⟩) htake))
end
end L2.HT
namespace Hk
open PySem PySem.Spec PyProof.Rows L2
section
variable {X : Cx} {pos : Pos}
def tRev2 (K : PySem.W.Frag) (te : TE) : TE := fun σ H Q => te σ H fun x H1 => ∃ a y z, x = .ref a ∧ SqT K H1 a [y, z] ∧ ∀ p, H1 p = none → Q (.ref p) (upd H1 p (.tup [z, y]))
theorem pe_rev2 {e : Expr} {te : TE} {k : Nat} {p1 p2 p3 pos : Pos} (he : PE X e te) : PE X (.Subscript e (.Slice none none (some (.UnaryOp .USub (.Constant (.int 1) k p1) p2)) p3) pos) (tRev2 X.K te) := by
  refine ⟨fun pins s σ H Q I h => ?_⟩
  refine Subscript_ (thn (he.run pins s σ H _ I h) fun v s1 ⟨x, H1, I1, r1, q1⟩ => ?_)
  obtain ⟨a, y, z, ex, hx, q⟩ := q1
  subst ex
  cases r1
  have hst : PO X (some (.UnaryOp .USub (.Constant (.int 1) k p1) p2)) (tPart (tUn (rU fun i => .int (-i)) (tC (.int 1)))) := po_some (pe_un un_neg pe_int)
  refine wpAny_Slice (thn (po_none.run pins s1 σ H1 (fun o H2 => o = none ∧ H2 = H1) I1 ⟨rfl, rfl⟩) fun vl s2 ⟨l, H2, I2, pl, el, e2⟩ => ?_)
  subst el e2
  refine thn (po_none.run pins s2 σ H2 (fun o H3 => o = none ∧ H3 = H2) I2 ⟨rfl, rfl⟩) fun vu s3 ⟨u, H3, I3, pu, eu, e3⟩ => ?_
  subst eu e3
  refine thn (hst.run pins s3 σ H3 (fun o H4 => o = some (-1) ∧ H4 = H3) I3 ⟨1, rfl, -1, rfl, rfl, rfl⟩) fun vs s4 ⟨o, H4, I4, ps, eo, e4⟩ => ?_
  subst eo e4
  have I5 : Inv X pins σ H4 { s4 with heap := s4.heap.push { cls := .type "slice", data := .fields #[vl, vu, vs] } } := I4.kept (t' := s4.toks) fun b ob q => Heap.get?_push_of_some _ q
  obtain ⟨its, r, ht, hz⟩ := I5.tuple hx
  cases pl
  cases pu
  cases ps with
  | int i t =>
  cases r with
  | @cons _ y' _ ys ry rys =>
  cases rys with
  | @cons _ z' _ zs rz rzs =>
  cases rzs
  show wpAny (model X.prog X.w) X.A (subscriptTail e (.Slice none none (some (.UnaryOp .USub (.Constant (.int 1) k p1) p2)) p3) (.ref a) (.ref s4.heap.objs.size)) (EP X pins σ Q) X.xe { s4 with heap := s4.heap.push { cls := .type "slice", data := .fields #[.none, .none, .int (-1) t] } }
  refine tail_any (ops := [.ref a, .ref s4.heap.objs.size]) ht.typeIs (PyProof.Rows.slot_tuple_getitem.lookup) ?_ (by with_unfolding_all rfl)
  refine L2.HT.getItem_tuple_rev2 (a := y') (b := z') ht (u := t) (Heap.IsSliceOf.new _ .none .none (.int (-1) t)) ?_
  refine ⟨.ref _, _, I5.laid (t' := s4.toks) (o := .tup [z, y]) (fun b ob q => Heap.get?_push_of_some _ q) (Nat.le_refl _) ?_, rfl, q _ (I5.hok.fresh (Nat.le_refl _))⟩
  exact ⟨by rw [sizeLine_eq]; exact Nat.le_of_ble_eq_true rfl, [z', y'], .cons rz (.cons ry .nil), IsTup.new _ _⟩
/-- a tuple, many times -/
def rRepB (K : PySem.W.Frag) : R2 := fun x y H Q => ∃ l k xs, x = .ref l ∧ y = .int k ∧ SqT K H l xs ∧ xs ≠ [] ∧ 2 ≤ k ∧ k ≤ 2000 ∧ xs.length ≤ 1000 ∧ ∀ p, H p = none → Q (.ref p) (upd H p (.tup (List.replicate k.toNat xs).flatten))
theorem op_repB {K : PySem.W.Frag} (hK : X.K = K) : OpR X (binaryOp .Mult) (rRepB K) := by
  subst hK
  intro pins s σ H x y v u Q I rx ry h
  obtain ⟨l, k, xs, rfl, rfl, hT, hne, h1, h2, hz, q⟩ := h
  cases rx
  obtain ⟨t, rfl⟩ := ry
  obtain ⟨its, r, ⟨⟨cls, dd, data, sl⟩, ho, hc, n, hd⟩, hs⟩ := I.tuple hT
  simp only at hc hd
  subst hc hd
  have hle : its.length = xs.length := r.length.symm
  have hi : its.toArray.isEmpty = false := by
    cases its with
    | nil => exact absurd (List.eq_nil_of_length_eq_zero hle.symm) hne
    | cons a b => rfl
  have hsz0 : its.toArray.size = xs.length := by rw [List.size_toArray, hle]
  have hm : ((its.toArray.size : Nat) : Int) * k ≤ 2000000 := by
    rw [hsz0]
    have a1 : ((xs.length : Nat) : Int) * k ≤ 1000 * k := Int.mul_le_mul_of_nonneg_right (by omega) (by omega)
    omega
  have flen : (List.replicate k.toNat its).flatten.length ≤ sizeLine := by
    rw [PyProof.Rows.lm_len_rep_flat, hle, sizeLine_eq]
    have a1 : k.toNat * xs.length ≤ 2000 * 1000 := Nat.mul_le_mul (by omega) hz
    omega
  have c0 : (decide (k < -(2 ^ 63)) || decide (k ≥ 2 ^ 63)) = false := by
    rw [decide_eq_false (by omega), decide_eq_false (by omega)] <;> rfl
  have c1 : (its.toArray.isEmpty || k == 1) = false := by
    rw [hi, Bool.false_or]
    exact beq_eq_false_iff_ne.mpr (by omega)
  have c2 : (decide (k ≤ 0) || its.toArray.isEmpty) = false := by
    rw [hi, Bool.or_false]
    exact decide_eq_false (by omega)
  have c4 : Builtin.Tuple.tupleTooMany (((its.toArray.size : Nat) : Int) * k) = false := by
    unfold Builtin.Tuple.tupleTooMany
    rw [sizeLine_eq]
    exact decide_eq_false (by omega)
  refine wpAny_binaryOp_repeat_ref (T := "tuple") (U := "int") (by decide) ⟨_, ho, rfl⟩ (fun s' => typeIs_int s' k t) noFill_tuple_mul F.fills_int_mul F.slot_int_rmul repeat_tuple F.slot_int_index.lookup
    (call_meets F.slot_int_rmul (typeIs_int s k t) F.entry_int_rmul (F.args_int_rmul_2 _ _) (int_rmul_tuple k t l its.toArray n dd sl)
      ⟨ho, rfl, ⟨_, ho, rfl⟩, call_meets F.slot_tuple_mul ⟨_, ho, rfl⟩ F.entry_tuple_mul (F.args_tuple_mul_2 _ _) (tuple_mulW l its.toArray n dd sl k t c0 c1 c2 (by omega) c4 (by rw [size_rep, List.size_toArray]; exact flen)) ⟨ho, ?_⟩⟩)
  rw [size_rep]
  exact ⟨.ref s.heap.objs.size, _, I.laid (t' := s.toks) (o := .tup (List.replicate k.toNat xs).flatten) (fun b ob q => Heap.get?_push_of_some _ q) (Nat.le_refl _) ⟨by rw [PyProof.Rows.lm_len_rep_flat, ← hle, ← PyProof.Rows.lm_len_rep_flat]; exact flen, _, Vals.rep r k.toNat, IsTup.new _ _⟩, rfl, q _ (I.hok.fresh (Nat.le_refl _))⟩
theorem repU {K : PySem.W.Frag} (_ : X.K = K) : OpR X (binaryOp .Mult) rRep := op_rep
theorem listU {K : PySem.W.Frag} (h : X.K = K) : CallR X (.type "list") (fun xs H Q => ∃ p ys, xs = [.ref p] ∧ (SqL K H p ys ∨ SqT K H p ys) ∧ ∀ l, H l = none → Q (.ref l) (upd H l (.lst ys))) := h ▸ call_list_of
def rSlW (K : PySem.W.Frag) : V → Option Int → Option Int → Hp → VK → Prop := fun x lo hi H Q => rSlU K x lo hi H Q ∨ rSlL K x lo hi H Q
theorem slW {K : PySem.W.Frag} (h : X.K = K) : SlR X (rSlW K) := h ▸ SlR.or sl_U sl_list
theorem catA {K : PySem.W.Frag} (h : X.K = K) : OpR X (binaryOp .Add) (rCatA K) := h ▸ op_catA
theorem pe_rev2U {K : PySem.W.Frag} {e : Expr} {te : TE} {k : Nat} {p1 p2 p3 pos : Pos} (h : X.K = K) (he : PE X e te) : PE X (.Subscript e (.Slice none none (some (.UnaryOp .USub (.Constant (.int 1) k p1) p2)) p3) pos) (tRev2 K te) := h ▸ pe_rev2 he
end
end Hk
namespace Hk
open PySem PySem.Spec PyProof.Rows L2
/-! ### data with lists and dicts within: repr -/
inductive Rp (p : Vo) (H : Hp) : V → PyData → Prop
  | non : Rp p H .non .none
  | bl (b : Bool) : Rp p H (.bl b) (.bool b)
  | int (i : Int) : Rp p H (.int i) (.int i)
  | str (x : Str) : Rp p H (.str x) (.str x)
  | tup {a : Addr} {vs : List V} {ds : List PyData} (n : Nv p a) (h : H a = some (.tup vs)) (l : vs.length = ds.length) (r : ∀ (i : Nat) (v : V) (d : PyData), vs[i]? = some v → ds[i]? = some d → Rp p H v d) : Rp p H (.ref a) (.tuple ds)
  | lst {a : Addr} {vs : List V} {ds : List PyData} (n : Nv p a) (m : a ≠ sysModules) (h : H a = some (.lst vs)) (l : vs.length = ds.length) (r : ∀ (i : Nat) (v : V) (d : PyData), vs[i]? = some v → ds[i]? = some d → Rp p H v d) : Rp p H (.ref a) (.list ds)
  | dct {a : Addr} {kvs : List (Key × V)} {ps : List PyData} (n : Nv p a) (h : H a = some (.dK kvs)) (l : kvs.length = ps.length) (r : ∀ (i : Nat) (kv : Key × V) (d : PyData), kvs[i]? = some kv → ps[i]? = some d → Rp p H kv.2 d) : Rp p H (.ref a) (.dict ((kvs.map fun kv => kD kv.1).zip ps))
theorem Rp.gr {p : Vo} {H H' : Hp} {v : V} {d : PyData} (x : Rp p H v d) (g : Gr p H H') : Rp p H' v d := by
  induction x with
  | non => exact .non
  | bl b => exact .bl b
  | int i => exact .int i
  | str s => exact .str s
  | tup n h l r ih => exact .tup n (g _ _ n h) l ih
  | lst n m h l r ih => exact .lst n m (g _ _ n h) l ih
  | dct n h l r ih => exact .dct n (g _ _ n h) l ih
theorem Rp.of {p q : Vo} {H : Hp} {v : V} {d : PyData} (x : Rp p H v d) (k : ∀ a, Nv p a → Nv q a) : Rp q H v d := by
  induction x with
  | non => exact .non
  | bl b => exact .bl b
  | int i => exact .int i
  | str s => exact .str s
  | tup n h l r ih => exact .tup (k _ n) h l ih
  | lst n m h l r ih => exact .lst (k _ n) m h l ih
  | dct n h l r ih => exact .dct (k _ n) h l ih
theorem Rp.non' {p : Vo} {H : Hp} {v : V} {d : PyData} (x : Rp p H v d) : Rp Vo.non H v d := x.of fun a _ => nv_non a
theorem Rp.and {p : Vo} {H : Hp} {v : V} {d : PyData} {E : Addr} {o : HO} (x : Rp p H v d) (e : H E = none) : Rp (p.and E o) H v d := by
  induction x with
  | non => exact .non
  | bl b => exact .bl b
  | int i => exact .int i
  | str s => exact .str s
  | tup n h l r ih => exact .tup (n.and (ne_of_none h e).symm) h l ih
  | lst n m h l r ih => exact .lst (n.and (ne_of_none h e).symm) m h l ih
  | dct n h l r ih => exact .dct (n.and (ne_of_none h e).symm) h l ih
theorem Rp.back {p : Vo} {H : Hp} {v : V} {d : PyData} {E : Addr} {o : HO} (x : Rp (p.and E o) H v d) : Rp p H v d := x.of fun a n => n.back
/-! the same, less told: data whose lists and dicts are not looked into -/
mutual
def sD : PyData → D
  | .none => .non
  | .bool b => .bl b
  | .int i => .int i
  | .str s => .str s
  | .tuple ds => .tup (sDs ds)
  | .list _ => .lst
  | .dict _ => .dct
def sDs : List PyData → List D
  | [] => []
  | d :: ds => sD d :: sDs ds
end
theorem sDs_map : ∀ ds : List PyData, sDs ds = ds.map sD
  | [] => rfl
  | d :: ds => by
    show sD d :: sDs ds = _
    rw [sDs_map ds]; rfl
mutual
def smallD : PyData → Bool
  | .str s => decide (s.length ≤ 100000)
  | .tuple ds => decide (ds.length ≤ 100000) && smallDs ds
  | _ => true
def smallDs : List PyData → Bool
  | [] => true
  | d :: ds => smallD d && smallDs ds
end
theorem small_at : ∀ {ds : List PyData} {i : Nat} {d : PyData}, smallDs ds = true → ds[i]? = some d → smallD d = true
  | [], _, _, _, e => by cases e
  | x :: xs, 0, d, h, e => by
    have := (Bool.and_eq_true_iff.mp (show (smallD x && smallDs xs) = true from h)).1
    rwa [Option.some.inj e] at this
  | x :: xs, i + 1, d, h, e => small_at (ds := xs) (i := i) (Bool.and_eq_true_iff.mp (show (smallD x && smallDs xs) = true from h)).2 e
theorem Rp.dat {p : Vo} {H : Hp} {v : V} {d : PyData} (x : Rp p H v d) : smallD d = true → Dat p H v (sD d) := by
  induction x with
  | non => exact fun _ => .non
  | bl b => exact fun _ => .bl b
  | int i => exact fun _ => .int i
  | str s => exact fun h => .str s (of_decide_eq_true h)
  | @tup a vs ds n h l r ih =>
    intro hz
    obtain ⟨h1, h2⟩ := Bool.and_eq_true_iff.mp (show (decide (ds.length ≤ 100000) && smallDs ds) = true from hz)
    show Dat p H (.ref a) (.tup (sDs ds))
    rw [sDs_map]
    refine .tup n h (by rw [List.length_map]; exact l) (by rw [l]; exact of_decide_eq_true h1) fun i v d e1 e2 => ?_
    rw [List.getElem?_map] at e2
    cases e3 : ds[i]? with
    | none => rw [e3] at e2; cases e2
    | some d' =>
      rw [e3] at e2
      rw [← Option.some.inj e2]
      exact ih i v d' e1 e3 (small_at h2 e3)
  | lst n m h l r ih => exact fun _ => .lst n h
  | dct n h l r ih => exact fun _ => .dct n h
/-- the addresses of what is shown -/
theorem readsAll_ex {h : Heap} : ∀ {us : List Value} {ds : List PyData}, us.length = ds.length → (∀ (i : Nat) (u : Value) (d : PyData), us[i]? = some u → ds[i]? = some d → ∃ as, Reads h u d as ∧ sysModules ∉ as) → ∃ as, ReadsAll h us ds as ∧ sysModules ∉ as
  | [], [], _, _ => ⟨[], .nil, fun h => nomatch h⟩
  | [], _ :: _, l, _ => by cases l
  | _ :: _, [], l, _ => by cases l
  | u :: us, d :: ds, l, k => by
    obtain ⟨as, r1, n1⟩ := k 0 u d rfl rfl
    obtain ⟨bs, r2, n2⟩ := readsAll_ex (us := us) (ds := ds) (by rw [List.length_cons, List.length_cons] at l; omega) fun i u' d' h1 h2 => k (i + 1) u' d' h1 h2
    exact ⟨as ++ bs, .cons r1 r2, fun hm => (List.mem_append.mp hm).elim n1 n2⟩
section
variable {X : Cx}
theorem Rp.reads {pins : List (Addr × Obj)} {s : Shared} {σ : L2.St} {p : Vo} {H : Hp} {v : V} {d : PyData} (I : Inv X pins σ H s) (x : Rp p H v d) : ∀ {u : Value}, RelV v u → ∃ as, Reads s.heap u d as ∧ sysModules ∉ as := by
  induction x with
  | non => intro u r; cases (show u = Value.none from r); exact ⟨[], .none, fun h => nomatch h⟩
  | bl b => intro u r; cases (show u = Value.bool b from r); exact ⟨[], .bool b, fun h => nomatch h⟩
  | int i => intro u r; obtain ⟨t, rfl⟩ := (show ∃ t, u = Value.int i t from r); exact ⟨[], .int i t, fun h => nomatch h⟩
  | str z => intro u r; obtain ⟨t, rfl⟩ := (show ∃ t, u = Value.str z t from r); exact ⟨[], .str z t, fun h => nomatch h⟩
  | tup n h l r ih =>
    intro u ru
    rename_i a vs ds
    cases (show u = Value.ref a from ru)
    obtain ⟨its, rv, ⟨o, e1, e2, n, e4⟩, _⟩ := I.tuple (SqT.of h)
    obtain ⟨as, ra, na⟩ := readsAll_ex (h := s.heap) (rv.length.symm.trans l) fun i u d h1 h2 => by
      obtain ⟨v, hv, r'⟩ := vals_at rv h1
      exact ih i v d hv h2 r'
    exact ⟨as, .tuple e1 e2 e4 (by rw [List.toList_toArray]; exact ra), na⟩
  | lst n m h l r ih =>
    intro u ru
    rename_i a vs ds
    cases (show u = Value.ref a from ru)
    obtain ⟨z, its, n, rv, hl, e0⟩ := I.lstM h
    obtain ⟨as, ra, na⟩ := readsAll_ex (h := s.heap) (rv.length.symm.trans l) fun i u d h1 h2 => by
      obtain ⟨v, hv, r'⟩ := vals_at rv h1
      exact ih i v d hv h2 r'
    exact ⟨a :: as, .list e0 rfl rfl (by rw [List.toList_toArray]; exact ra), fun hm => (List.mem_cons.mp hm).elim (fun e => m e.symm) na⟩
  | dct n h hl r ih =>
    intro u ru
    rename_i a kvs ps
    cases (show u = Value.ref a from ru)
    obtain ⟨hz, hsm, vs, rel, o, es, ep, e1, e2, e3, e4, e5, e6⟩ := dk_of I.hok h
    have lk : es.toList.length = kvs.length := by rw [e5.length, ← rel.length]
    obtain ⟨as, ra, na⟩ := readsAll_ex (h := s.heap) (us := es.toList.map (·.val)) (ds := ps) (by rw [List.length_map, lk, hl]) fun i u d h1 h2 => by
      obtain ⟨kv, ek, eu⟩ := pairs_at e5 h1
      obtain ⟨v, ev, rv⟩ := kv_at rel ek
      rw [eu] at rv
      exact ih i v d ev h2 rv
    refine ⟨a :: [] ++ as, .dict e1 e2.1 e3 ?_ ?_, fun hm => ?_⟩
    · rw [List.map_fst_zip (by rw [List.length_map, hl]; exact Nat.le_refl _)]
      exact reads_keys e5 rel
    · rw [List.map_snd_zip (by rw [List.length_map, hl]; exact Nat.le_refl _)]
      exact ra
    · rcases List.mem_append.mp hm with hm | hm
      · have : sysModules = a := by simpa using hm
        rw [← this] at hsm
        exact absurd (beq_self_eq_true sysModules) (by rw [hsm]; exact Bool.false_ne_true)
      · exact na hm
/-- the repr of such a value -/
def rReprR : List V → Hp → VK → Prop := fun xs H Q => ∃ (v : V) (d : PyData), xs = [v] ∧ Rp Vo.non H v d ∧ d.showable = true ∧ d.depth ≤ 40 ∧ d.shown.length ≤ sizeLine ∧ Q (.str d.shown) H
theorem call_reprR (hg : X.A.guards = some []) (hu : X.A.units + 64 < cLine) : CallR X (.builtin "repr") rReprR := by
  intro pins s σ H xs us Q I r h
  obtain ⟨v, d, rfl, x, h1, h3, h4, q⟩ := h
  obtain ⟨u, rfl, rx⟩ := vals1 r
  obtain ⟨as, rd, na⟩ := x.reads I rx
  have go : ∀ a, u = .ref a → wpAny (model X.prog X.w) X.A (call (.builtin "repr") [u]) (EP X pins σ Q) X.xe s := fun a e => by
    subst e
    exact repr_of_reads' rd h1 (fun _ => na) hg (by omega) (fun _ _ e => e) (fun h' t tk hk => ⟨.str _, H, I.kept hk, ⟨_, rfl⟩, q⟩) h4
  cases x with
  | non =>
    cases (show u = Value.none from rx)
    exact PySem.P.repr_of_none ⟨.str _, H, I.tok _, ⟨_, rfl⟩, q⟩
  | bl b =>
    cases (show u = Value.bool b from rx)
    exact PySem.P.repr_of_bool ⟨.str _, H, I.tok _, ⟨_, rfl⟩, q⟩
  | int i =>
    obtain ⟨t, rfl⟩ := (show ∃ t, u = Value.int i t from rx)
    exact PySem.P.repr_of_int (of_decide_eq_true (by simpa only [PyData.showable] using h1)) ⟨.str _, H, I.tok _, ⟨_, rfl⟩, by simpa only [PyData.shown] using q⟩
  | str z =>
    obtain ⟨t, rfl⟩ := (show ∃ t, u = Value.str z t from rx)
    exact PySem.P.repr_of_str ⟨.str _, H, I.tok _, ⟨_, rfl⟩, by simpa only [PyData.shown] using q⟩ (by simpa only [PyData.shown] using h4)
  | tup n h l r => exact go _ rx
  | lst n m h l r => exact go _ rx
  | dct n h l r => exact go _ rx
/-- a tuple that is no empty one -/
def rNe0 (K : PySem.W.Frag) : R2 := fun x y H Q => ∃ a b xs, x = .ref a ∧ y = .ref b ∧ SqT K H a xs ∧ SqT K H b [] ∧ Q (.bl (!decide (xs.length = 0))) H
theorem op_ne0 (hu : X.A.units + 64 < cLine) : OpR X (compareOp .NotEq) (rNe0 X.K) := by
  intro pins s σ H x y v u Q I rx ry h
  obtain ⟨a, b, xs, rfl, rfl, ha, hb, q⟩ := h
  cases rx
  cases ry
  obtain ⟨its, rv, t1, _⟩ := I.tuple ha
  obtain ⟨its2, rv2, t2, _⟩ := I.tuple hb
  cases rv2
  obtain ⟨o1, a1, a2, n1, a4⟩ := t1
  obtain ⟨o2, b1, b2, n2, b4⟩ := t2
  refine SeqAt.RcNeAt.tuples (e := fun _ => true) ⟨o1, a1, a2, n1, a4⟩ ⟨o2, b1, b2, n2, b4⟩ (by omega) (fun j j1 j2 => by simp at j2) _ _ _ _ ⟨.bl (!decide (xs.length = 0)), H, I, ?_, q⟩
  have hl := rv.length
  cases its with
  | nil => cases rv; rfl
  | cons y ys =>
    cases rv
    rfl
end
end Hk
namespace Hk
open PySem PySem.Spec PyProof.Rows L2
/-! ### defs of one parameter that are called by keyword too, and that may raise -/
structure CaK (CX : CXT) (P : Program) (w : World) (K : PySem.W.Frag) (mg : Str → Option Value) (base : Heap) (k : Nat) (x kw : Str) (sp : Sp) : Prop where
  ex : ∃ (f : Addr) (fd : FuncData), FnOk P w K mg base CX k f fd [kw] sp ∧ mg x = some (.ref f) ∧ PySem.W.keepIn K (.ref f) = true ∧ Binds K fd [kw] [] ∧ KBn K fd [kw] 0 [kw] (fun _ ws => ws) (fun _ zs => zs)
section
variable {P : Program} {w : World} {K : PySem.W.Frag} {mg : Str → Option Value} {base : Heap} {k : Nat} {sp : Sp}
theorem kb_one {x kw : Str} {st : Stmt} {f : Addr} {fd : FuncData} (F : Fun K x x st f fd)
    (hk : ∀ (kV doc pm : Value) (an : Option Addr) (cdv ct u : Value), bindArgs (PySem.W.fnOf x x (defArgs st) (defBody st) (defScope st) .none kV doc pm an cdv ct) ⟨[], [(kw, u)]⟩ = pure [(kw, u)]) : KBn K fd [kw] 0 [kw] (fun _ ws => ws) (fun _ zs => zs) := by
  obtain ⟨oc, od, kV, doc, pm, an, cdv, ct, osl, rfl, lk, hcd⟩ := F.ex
  refine ⟨fun s us ws _ l1 l2 => ?_, fun _ z => z⟩
  match us, l1, ws, l2 with
  | [], _, [a], _ => exact .of_eq (hk _ _ _ _ _ _ _)
theorem CaK.ca {x kw : Str} (c : CaK CX0 P w K mg base k x kw sp) : Ca P w K mg base k x sp := by
  obtain ⟨f, fd, F, m, kp, b, _⟩ := c.ex
  exact ⟨f, fd, _, F, m, kp, b⟩
theorem cak_mk {x kw : Str} {st : Stmt} {N : List Str} (F : Df K mg x st) (S : FnScope N [kw] (defScope st))
    (hb : ∀ (kV doc pm : Value) (an : Option Addr) (cdv ct : Value) (us : List Value), us.length = [kw].length → bindArgs (PySem.W.fnOf x x (defArgs st) (defBody st) (defScope st) .none kV doc pm an cdv ct) ⟨us, []⟩ = pure ([kw].zip us))
    (hk : ∀ (kV doc pm : Value) (an : Option Addr) (cdv ct u : Value), bindArgs (PySem.W.fnOf x x (defArgs st) (defBody st) (defScope st) .none kV doc pm an cdv ct) ⟨[], [(kw, u)]⟩ = pure [(kw, u)])
    (len : ∀ vs H Q E, sp vs H Q E → vs.length = [kw].length)
    (hbody : ∀ (f : Addr) (cdv : Value) (A : Around) (outer : List Env) (s : Shared) (H : Hp) (vs : List V) (Q : VK) (E : XK), Room k (A.deeper (envOfC x (defScope st) s.heap.objs.size f cdv)) → sp vs H Q E →
      ∃ t, PSs (cxOf CX0 P w K mg base N x (defScope st) f cdv A outer s H E).nox (defBody st) t ∧ t { nx := fun _ H' => Q .non H', rt := Q } (start N vs) H) : CaK CX0 P w K mg base (k + 1) x kw sp := by
  obtain ⟨f, fd, F, hm⟩ := F.ex
  exact ⟨f, fd, F.ok S len (fun cdv A outer s H vs Q E hr h => hbody f cdv A outer s H vs Q E hr h), hm, F.kp, F.binds hb, kb_one F hk⟩
theorem cax_mk {x kw : Str} {st : Stmt} {N : List Str} (F : Df K mg x st) (S : FnScope N [kw] (defScope st))
    (hb : ∀ (kV doc pm : Value) (an : Option Addr) (cdv ct : Value) (us : List Value), us.length = [kw].length → bindArgs (PySem.W.fnOf x x (defArgs st) (defBody st) (defScope st) .none kV doc pm an cdv ct) ⟨us, []⟩ = pure ([kw].zip us))
    (hk : ∀ (kV doc pm : Value) (an : Option Addr) (cdv ct u : Value), bindArgs (PySem.W.fnOf x x (defArgs st) (defBody st) (defScope st) .none kV doc pm an cdv ct) ⟨[], [(kw, u)]⟩ = pure [(kw, u)])
    (len : ∀ vs H Q E, sp vs H Q E → vs.length = [kw].length)
    (hbody : ∀ (f : Addr) (cdv : Value) (A : Around) (outer : List Env) (s : Shared) (H : Hp) (vs : List V) (Q : VK) (E : XK), Room k (A.deeper (envOfC x (defScope st) s.heap.objs.size f cdv)) → sp vs H Q E →
      ∃ t, PSs (cxOf (L2.CX P w) P w K mg base N x (defScope st) f cdv A outer s H E) (defBody st) t ∧ t { nx := fun _ H' => Q .non H', rt := Q } (start N vs) H) : CaK (L2.CX P w) P w K mg base (k + 1) x kw sp := by
  obtain ⟨f, fd, F, hm⟩ := F.ex
  exact ⟨f, fd, F.okX S len (fun cdv A outer s H vs Q E hr h => hbody f cdv A outer s H vs Q E hr h), hm, F.kp, F.binds hb, kb_one F hk⟩
end
section
variable {X : Cx} {CX : CXT} {k i : Nat} {x kw : Str} {sp : Sp} {p pos : Pos} {e : Expr} {es : List Expr} {t : TA} {kws : List Keyword}
theorem pe_cx (c : CaK CX X.prog X.w X.K X.mg X.base k x kw sp) (hx : Passes CX X E0) (hr : Room k X.A) (hg : Gl X x) (ha : PA X (e :: es) t)
    (hdb : (x == ("__debug__" : Str)) = false := by decide) (he : starEach (e :: es) X.env = (false, eval e X.env) :: starEach es X.env := by rfl) (hpl : (backTo pos (starEach es X.env)).any (·.1) = false := by rfl) :
    PE X (.Call (.Name x p) (e :: es) [] pos) (tCall sp [] E0 t) := by
  obtain ⟨f, fd, F, hm, kp, b, _⟩ := c.ex
  exact pe_call F hr hg hm kp b .nil hx ha hdb he hpl
theorem pe_cxk (c : CaK CX X.prog X.w X.K X.mg X.base k x kw sp) (hx : Passes CX X E0) (hr : Room k X.A) (hg : Gl X x) (hkw : PK X kws t)
    (hall : (backToKw pos (keywordEach kws X.env)).all (·.1.isSome) = true := by rfl) (hks : (backToKw pos (keywordEach kws X.env)).filterMap (·.1) = [kw] := by rfl) (hdb : (x == ("__debug__" : Str)) = false := by decide)
    (hpl : ((backTo pos (starEach [] X.env)).any (·.1) || (backToKw pos (keywordEach kws X.env)).any (·.1.isNone)) = false := by rfl) :
    PE X (.Call (.Name x p) [] kws pos) (tCallN 0 1 sp (fun _ zs => zs) E0 tNil t) := by
  obtain ⟨f, fd, F, hm, kp, b, kb⟩ := c.ex
  exact pe_callN0 F hr hg hm kp kb hx hkw hall hks hdb hpl
/-- a local name that holds a def that may raise -/
structure HeldX (P : Program) (w : World) (K : PySem.W.Frag) (mg : Str → Option Value) (base : Heap) (k : Nat) (f : Addr) (sp : Sp) : Prop where
  ex : ∃ (fd : FuncData) (ps : List Str), FnOk P w K mg base (L2.CX P w) k f fd ps sp ∧ PySem.W.keepIn K (.ref f) = true ∧ Binds K fd ps []
def tCallX (i : Nat) (Hd : Addr → Sp → Prop) (W : WX) (t : TA) : TE := fun σ H Q => ∃ f sp, σ[i]? = some (some (.ref f)) ∧ Hd f sp ∧ t σ H fun vs H1 => sp vs H1 Q (WE W σ)
theorem pe_callX {Hd : Addr → Sp → Prop} {W : WX} (A : ∀ f sp, Hd f sp → HeldX X.prog X.w X.K X.mg X.base k f sp) (tk : Takes X W) (hr : Room k X.A) (hN : X.N[i]? = some x) (hv : Vis X.env.scope x) (ha : PA X (e :: es) t)
    (hdb : (x == ("__debug__" : Str)) = false := by decide) (hcd : (x == ("__classdict__" : Str)) = false := by decide)
    (he : starEach (e :: es) X.env = (false, eval e X.env) :: starEach es X.env := by rfl) (hpl : (backTo pos (starEach es X.env)).any (·.1) = false := by rfl) : PE X (.Call (.Name x p) (e :: es) [] pos) (tCallX i Hd W t) := by
  refine ⟨fun pins s σ H Q I h => ?_⟩
  obtain ⟨f, sp, hs, hd, ht⟩ := h
  obtain ⟨fd, ps, F, kp, b⟩ := (A f sp hd).ex
  refine wpAny_Call_Name_kw (thn ((pe_var (pos := p) hN hv hdb hcd).run pins s σ H (fun v H1 => v = .ref f ∧ H1 = H) I ⟨.ref f, hs, rfl, rfl⟩) fun u s1 ⟨v, H1, I1, r1, q1⟩ => ?_)
  obtain ⟨rfl, rfl⟩ := q1
  cases r1
  refine PySem.W.callWith_K (h₀ := X.base) I.ok.mod.kin kp (thn (ha.run pos pins s1 σ _ _ I1 ht) fun us s2 ⟨vs, H2, I2, r, q⟩ => ⟨I2.kIn, ?_⟩) he hpl
  exact run_fnS F hr b (passAt tk σ) I2 r q
end
end Hk
namespace Hk
open PySem PySem.Spec PyProof.Rows L2
section
variable {α β : Type} {p : Vo} {σ : L2.St} {H : Hp} {K : PySem.W.Frag} {te ta tb : TE} {tr : TA} {j : Nat} {vs : List Nat} {X : Pt α} {Y : Pt β} {es : List α} {fs : List β} {B : Sy p}
/-- a tuple whose items all are so -/
def AllT (Y : Pt β) (p : Vo) (H : Hp) (v : V) (fs : List β) : Prop := ∃ a xs, v = .ref a ∧ Nv p a ∧ H a = some (.tup xs) ∧ xs.length = fs.length ∧ ∀ (i : Nat) (x : V) (f : β), xs[i]? = some x → fs[i]? = some f → Y.T p H x f
theorem AllT.gr {H' : Hp} {v : V} (h : AllT Y p H v fs) (g : Gr p H H') : AllT Y p H' v fs := by
  obtain ⟨a, xs, h1, h2, h3, h4, h5⟩ := h
  exact ⟨a, xs, h1, h2, g a _ h2 h3, h4, fun i x f e1 e2 => Y.gr (h5 i x f e1 e2) g⟩
def stP (p : Vo) (Y : Pt β) (fs : List β) : Sy p := ⟨fun v H => AllT Y p H v fs, fun _ _ _ g h => h.gr g⟩
/-- over a tuple, by any target -/
theorem lcT_pt {g : TG} {τ : V → β → L2.St} (hx : Ev p ta σ H B) (hB : ∀ v H1, Gr p H H1 → B.P v H1 → AllT Y p H1 v fs) (hl : fs.length = es.length) (hz : es.length ≤ 100000) (hw : ∀ x f, wipe (τ x f) vs = wipe σ vs)
    (hg : ∀ (i : Nat) (x : V) (f : β) (H' : Hp) (R : L2.St → Hp → Prop), fs[i]? = some f → Y.T p H' x f → R (τ x f) H' → g x (wipe σ vs) H' R)
    (he : ∀ (i : Nat) (x : V) (f : β) D (l : List V) H1, fs[i]? = some f → Gr p H H1 → H1 D = none → Y.T (p.and D (.lst l)) H1 x f → Ev (p.and D (.lst l)) te (τ x f) H1 (syP (p.and D (.lst l)) X es[i]?)) :
    Ev p (tLc (iTup K ta) g tYes te vs) σ H (slP p X es) := by
  intro H0 i0 g0 Q q
  refine hx H0 i0 g0 _ fun v H2 i2 g2 hv => ?_
  obtain ⟨a, xs, rfl, na, h, l, r⟩ := hB v H2 (g0.trans g2) hv
  refine ⟨a, rfl, ⟨xs, SqT.of h⟩, fun D' hD => lc_tup (xs := xs) (CwP p X es H2 D') (cw0 i2 hD fun m v e h => by cases h) (fun i H' _ w => SqT.of (w.2.2.2.1 a _ na h)) (fun i x H' hi w => ?_) fun H' w => q _ H' w.1 (g2.trans w.2.2.2.1) (ptDone (by omega) w)⟩
  have hi2 : i < fs.length := by
    have := (List.getElem?_eq_some_iff.mp hi).1
    omega
  have hf := List.getElem?_eq_getElem hi2
  refine hg i x _ H' _ hf (Y.gr (r i x _ hi hf) w.2.2.2.1) ⟨hw _ _, ptTurn (by omega) (fun lo => he i x _ D' lo H2 hf (g0.trans g2) hD (Y.an (r i x _ hi hf) hD)) w⟩
end
/-- exact values; data -/
def Px : Pt V := ⟨fun _ _ v e => v = e, fun h _ => h, fun h _ => h, fun h _ => h⟩
def Pd : Pt D := ⟨fun p H v d => Dat p H v d, fun h g => Dat.gr h g, fun h k => Dat.of h k, fun h e => Dat.and h e⟩
def Pr : Pt PyData := ⟨fun p H v d => Rp p H v d, fun h g => Rp.gr h g, fun h k => Rp.of h k, fun h e => Rp.and h e⟩
section
variable {p : Vo} {σ : L2.St} {H : Hp} {K : PySem.W.Frag} {te ta tb : TE} {tr : TA} {ws : List V}
theorem slx_px {v : V} {H1 : Hp} (h : (slP p Px ws).P v H1) : (slx (p := p) ws).P v H1 := by
  obtain ⟨a, us, h1, h2, h3, h4, h5⟩ := h
  refine ⟨a, us, h1, h2, h3, ?_⟩
  refine List.ext_getElem? fun i => ?_
  by_cases hi : i < us.length
  · have e1 := List.getElem?_eq_getElem hi
    have e2 := List.getElem?_eq_getElem (l := ws) (by omega : i < ws.length)
    rw [e1, e2, h5 i _ _ e1 e2]
  · rw [List.getElem?_eq_none (by omega), List.getElem?_eq_none (by omega)]
theorem px_slx {v : V} {H1 : Hp} (h : (slx (p := p) ws).P v H1) : (slP p Px ws).P v H1 := by
  obtain ⟨a, us, h1, h2, h3, h4⟩ := h
  refine ⟨a, us, h1, h2, h3, by rw [h4], fun i v e e1 e2 => ?_⟩
  rw [h4, e2] at e1
  exact (Option.some.inj e1).symm
theorem e_px {v : V} {o : Option V} (h : Ev p te σ H (sx v)) (ho : o = some v) : Ev p te σ H (syP p Px o) := h.imp fun w H1 e x ex => by
  rw [ho] at ex
  show w = x
  rw [← Option.some.inj ex]
  exact e
/-! f-strings -/
theorem x_fmtS {s : Str} (h : Ev p te σ H (sx (.str s))) (hz : s.length ≤ sizeLine) : Ev p (tFmt te) σ H (sx (.str s)) := fun H1 i g Q q => h H1 i g _ fun v H2 i2 g2 e => .inl ⟨s, e, hz, q _ H2 i2 g2 rfl⟩
theorem x_fmtI {n : Int} (h : Ev p te σ H (sx (.int n))) (hz : n.natAbs.log2 < 1920) : Ev p (tFmt te) σ H (sx (.str (toString n))) := fun H1 i g Q q => h H1 i g _ fun v H2 i2 g2 e => .inr ⟨n, e, hz, q _ H2 i2 g2 rfl⟩
def EvJ (p : Vo) (ts : List TE) (acc : Str) (σ : L2.St) (H : Hp) (out : Str) : Prop := ∀ H1, Iv p H1 → Gr p H H1 → ∀ Q : Str → Hp → Prop, (∀ H2, Iv p H2 → Gr p H1 H2 → Q out H2) → tJs ts acc σ H1 Q
theorem j_nil {acc : Str} : EvJ p [] acc σ H acc := fun H1 i _ Q q => q H1 i (Gr.refl H1)
theorem j_cons {t : TE} {ts : List TE} {acc y out : Str} (h : Ev p t σ H (sx (.str y))) (hz : (acc ++ y).length ≤ sizeLine) (r : EvJ p ts (acc ++ y) σ H out) : EvJ p (t :: ts) acc σ H out := fun H1 i g Q q =>
  h H1 i g _ fun v H2 i2 g2 e => ⟨y, e, hz, r H2 i2 (g.trans g2) Q fun H3 i3 g3 => q H3 i3 (g2.trans g3)⟩
theorem x_joined {ts : List TE} {out : Str} (h : EvJ p ts Str.empty σ H out) : Ev p (fun σ H Q => tJs ts Str.empty σ H fun out H1 => Q (.str out) H1) σ H (sx (.str out)) := fun H1 i g Q q => h H1 i g _ fun H2 i2 g2 => q _ H2 i2 g2 rfl
/-! join, split, partition -/
def rJoin (K : PySem.W.Frag) : V → List V → Hp → VK → Prop := fun x xs H Q => ∃ a p, ∃ ys : List Str, x = .str a ∧ xs = [.ref p] ∧ (SqL K H p (ys.map V.str) ∨ SqT K H p (ys.map V.str)) ∧
      (ys.map (·.length)).sum + ys.length * a.length ≤ 16777216 ∧ Q (.str (Txt.join a ys)) H
theorem x_join {a : Str} {ys : List Str} (ha : Ev p ta σ H (sx (.str a))) (hb : Ev p tb σ H (slx (ys.map V.str))) (hz : (ys.map (·.length)).sum + ys.length * a.length ≤ 16777216) : Ev p (tM1 (rJoin K) ta tb) σ H (sx (.str (Txt.join a ys))) := fun H1 i g Q q =>
  ha H1 i g _ fun v H2 i2 g2 e => ⟨⟨a, e⟩, hb H2 i2 (g.trans g2) _ fun y H3 i3 g3 ⟨b, us, e1, nb, h, eu⟩ => ⟨a, b, ys, e, by rw [e1], .inl (SqL.of (by rw [h, eu])), hz, q _ H3 i3 (g2.trans g3) rfl⟩⟩
def rSplit : V → List V → Hp → VK → Prop := fun x xs H Q => ∃ a b, x = .str a ∧ xs = [.str b] ∧ (b.length == 0) = false ∧ a.length + 2 ≤ sizeLine ∧ rNewStrs (Txt.split a b) H Q
theorem x_split {a b : Str} (ha : Ev p ta σ H (sx (.str a))) (hb : Ev p tb σ H (sx (.str b))) (hz : a.length ≤ 100000) (h0 : (b.length == 0) = false) : Ev p (tM1 rSplit ta tb) σ H (slx ((Txt.split a b).map V.str)) := fun H1 i g Q q =>
  ha H1 i g _ fun v H2 i2 g2 e => ⟨⟨a, e⟩, hb H2 i2 (g.trans g2) _ fun y H3 i3 g3 ey => ⟨a, b, e, by rw [show y = _ from ey], h0, by rw [sizeLine_eq]; omega, fun c hc => q _ _ (i3.new hc) ((g2.trans g3).trans (Gr.new hc)) ⟨c, _, rfl, i3.ne hc, upd_same, rfl⟩⟩⟩
def rPart : V → List V → Hp → VK → Prop := fun x xs H Q => ∃ a b, x = .str a ∧ xs = [.str b] ∧ (b.length == 0) = false ∧ a.length ≤ sizeLine ∧
      ∀ p, H p = none → Q (.ref p) (upd H p (.tup [.str (Txt.partition a b).1, .str (Txt.partition a b).2.1, .str (Txt.partition a b).2.2]))
theorem x_part {a b : Str} (ha : Ev p ta σ H (sx (.str a))) (hb : Ev p tb σ H (sx (.str b))) (hz : a.length ≤ 100000) (h0 : (b.length == 0) = false) : Ev p (tM1 rPart ta tb) σ H (stx [.str (Txt.partition a b).1, .str (Txt.partition a b).2.1, .str (Txt.partition a b).2.2]) := fun H1 i g Q q =>
  ha H1 i g _ fun v H2 i2 g2 e => ⟨⟨a, e⟩, hb H2 i2 (g.trans g2) _ fun y H3 i3 g3 ey => ⟨a, b, e, by rw [show y = _ from ey], h0, by rw [sizeLine_eq]; omega, fun c hc => q _ _ (i3.new hc) ((g2.trans g3).trans (Gr.new hc)) ⟨c, _, rfl, i3.ne hc, upd_same, rfl⟩⟩⟩
end
section
variable {X : Cx} {o e : Expr} {to te : TE} {apos pos : Pos} {K : PySem.W.Frag}
theorem pe_joinU (hK : X.K = K) (ho : PE X o to) (he : PE X e te) (hs : starEach [e] X.env = [(false, eval e X.env)] := by rfl) (hbase : attributeBase o "join" X.env (eval o X.env) = eval o X.env := by rfl) (hline : (apos.endLine == pos.line) = true := by rfl) :
    PE X (.Call (.Attribute o "join" apos) [e] [] pos) (tM1 (rJoin K) to te) := hK ▸ pe_join ho he hs hbase hline
theorem pe_splitU (ho : PE X o to) (he : PE X e te) (hs : starEach [e] X.env = [(false, eval e X.env)] := by rfl) (hbase : attributeBase o "split" X.env (eval o X.env) = eval o X.env := by rfl) (hline : (apos.endLine == pos.line) = true := by rfl) :
    PE X (.Call (.Attribute o "split" apos) [e] [] pos) (tM1 rSplit to te) := pe_split ho he hs hbase hline
theorem pe_partU (ho : PE X o to) (he : PE X e te) (hs : starEach [e] X.env = [(false, eval e X.env)] := by rfl) (hbase : attributeBase o "partition" X.env (eval o X.env) = eval o X.env := by rfl) (hline : (apos.endLine == pos.line) = true := by rfl) :
    PE X (.Call (.Attribute o "partition" apos) [e] [] pos) (tM1 rPart to te) := pe_partition ho he hs hbase hline
end
end Hk
namespace Hk
open PySem PySem.Spec PyProof.Rows L2
section
variable {X : Cx} {K : PySem.W.Frag} {pos : Pos}
theorem slLU (h : X.K = K) : SlR X (rSlL K) := h ▸ sl_list
theorem ne0U (hu : X.A.units + 64 < cLine) (h : X.K = K) : OpR X (compareOp .NotEq) (rNe0 K) := h ▸ op_ne0 hu
theorem pg_starU {e1 e2 : Expr} {k : Nat} {t u : TG} (h : X.K = K) (hc : X.calm = true) (h1 : PG X e1 t) (h2 : PG X e2 u) {q : Pos}
    (hn : (assignEach [e1, .Starred e2 q] X.env).length = 2 := by rfl) (hst : (assignEach [e1, .Starred e2 q] X.env).findIdx? (·.1) = some 1 := by rfl)
    (hm : (assignEach [e1, .Starred e2 q] X.env).map (·.2) = [assign e1 X.env, assign e2 X.env] := by rfl) : PG X (.Tuple [e1, .Starred e2 q] k pos) (gStar K t u) := h ▸ pg_star hc h1 h2 hn hst hm
/-- == of data without dicts -/
def rEqR : R2 := fun x y H Q => ∃ d d' : PyData, Rp Vo.non H x d ∧ Rp Vo.non H y d' ∧ SeqAt.shaped d = true ∧ SeqAt.shaped d' = true ∧ Q (.bl (PyData.eqv d d')) H
theorem op_eqR (hu : X.A.units + 64 < cLine) : OpR X (compareOp .Eq) rEqR := by
  intro pins s σ H x y v u Q I rx ry h
  obtain ⟨d, d', h1, h2, h3, h4, q⟩ := h
  obtain ⟨as, r1, _⟩ := h1.reads I rx
  obtain ⟨bs, r2, _⟩ := h2.reads I ry
  exact SeqAt.compareEq_shaped r1 r2 h3 h4 hu ⟨.bl _, H, I, rfl, q⟩
end
end Hk
namespace Hk
open PySem PySem.Spec PyProof.Rows L2
section
variable {p : Vo} {σ : L2.St} {H : Hp} {K : PySem.W.Frag} {te ta tb : TE} {tr : TA} {ws us : List V}
/-- a row of known values -/
def EvX (p : Vo) (tr : TA) (σ : L2.St) (H : Hp) (ws : List V) : Prop := ∀ H1, Iv p H1 → Gr p H H1 → ∀ Q : List V → Hp → Prop, (∀ H2, Iv p H2 → Gr p H1 H2 → Q ws H2) → tr σ H1 Q
theorem xa_nil : EvX p tNil σ H [] := fun H1 i _ Q q => q H1 i (Gr.refl H1)
theorem xa_cons {w : V} (h : Ev p te σ H (sx w)) (hr : EvX p tr σ H ws) : EvX p (tCons te tr) σ H (w :: ws) := fun H1 i g Q q =>
  h H1 i g _ fun v H2 i2 g2 e => hr H2 i2 (g.trans g2) _ fun H3 i3 g3 => by
    rw [show v = w from e]
    exact q H3 i3 (g2.trans g3)
theorem xa_star {B : Sy p} (h : Ev p te σ H B) (hB : ∀ v H1, Gr p H H1 → B.P v H1 → ∃ a, v = .ref a ∧ (SqL K H1 a us ∨ SqT K H1 a us)) (hr : EvX p tr σ H ws) : EvX p (StX.tStar K te tr) σ H (us ++ ws) := fun H1 i g Q q =>
  h H1 i g _ fun v H2 i2 g2 b => by
    obtain ⟨a, rfl, hs⟩ := hB v H2 (g.trans g2) b
    exact ⟨a, us, rfl, hs.symm, hr H2 i2 (g.trans g2) _ fun H3 i3 g3 => q H3 i3 (g2.trans g3)⟩
theorem xx_lst (h : EvX p tr σ H ws) (hz : ws.length ≤ sizeLine) : Ev p (tLst tr) σ H (slx ws) := fun H1 i g Q q =>
  h H1 i g _ fun H2 i2 g2 => ⟨hz, fun b hb => q _ _ (i2.new hb) (g2.trans (Gr.new hb)) ⟨b, ws, rfl, i2.ne hb, upd_same, rfl⟩⟩
theorem xx_tup (h : EvX p tr σ H ws) (hz : ws.length ≤ sizeLine) : Ev p (tTup tr) σ H (stx ws) := fun H1 i g Q q =>
  h H1 i g _ fun H2 i2 g2 => ⟨hz, fun b hb => q _ _ (i2.new hb) (g2.trans (Gr.new hb)) ⟨b, ws, rfl, i2.ne hb, upd_same, rfl⟩⟩
end
end Hk
namespace Hk
open PySem PySem.Spec PyProof.Rows L2
section
variable {α : Type} {p : Vo} {σ : L2.St} {H : Hp} {K : PySem.W.Frag} {te ta tb : TE} {tr : TA} {Y : Pt α} {es fs : List α}
/-- a row of things that are so -/
def AllL (Y : Pt α) (p : Vo) (H : Hp) (vs : List V) (es : List α) : Prop := vs.length = es.length ∧ ∀ (i : Nat) (v : V) (e : α), vs[i]? = some v → es[i]? = some e → Y.T p H v e
theorem AllL.gr {H' : Hp} {vs : List V} (h : AllL Y p H vs es) (g : Gr p H H') : AllL Y p H' vs es := ⟨h.1, fun i v e e1 e2 => Y.gr (h.2 i v e e1 e2) g⟩
theorem AllL.nil : AllL Y p H [] [] := ⟨rfl, fun i v e h => by cases h⟩
theorem AllL.cons {v : V} {e : α} {vs : List V} (h : Y.T p H v e) (hr : AllL Y p H vs es) : AllL Y p H (v :: vs) (e :: es) := by
  refine ⟨by rw [List.length_cons, List.length_cons, hr.1], fun i w f e1 e2 => ?_⟩
  cases i with
  | zero =>
    rw [← Option.some.inj e1, ← Option.some.inj e2]
    exact h
  | succ i => exact hr.2 i w f e1 e2
theorem AllL.app {vs ws : List V} (h : AllL Y p H vs es) (hr : AllL Y p H ws fs) : AllL Y p H (vs ++ ws) (es ++ fs) := by
  refine ⟨by rw [List.length_append, List.length_append, h.1, hr.1], fun i w f e1 e2 => ?_⟩
  by_cases hi : i < vs.length
  · rw [List.getElem?_append_left hi] at e1
    rw [List.getElem?_append_left (by rw [← h.1]; exact hi)] at e2
    exact h.2 i w f e1 e2
  · rw [List.getElem?_append_right (by omega)] at e1
    rw [List.getElem?_append_right (by rw [← h.1]; omega), ← h.1] at e2
    exact hr.2 _ w f e1 e2
def EvL (Y : Pt α) (p : Vo) (tr : TA) (σ : L2.St) (H : Hp) (es : List α) : Prop := ∀ H1, Iv p H1 → Gr p H H1 → ∀ Q : List V → Hp → Prop, (∀ vs H2, Iv p H2 → Gr p H1 H2 → AllL Y p H2 vs es → Q vs H2) → tr σ H1 Q
theorem la_nil : EvL Y p tNil σ H [] := fun H1 i _ Q q => q [] H1 i (Gr.refl H1) .nil
/-- one thing that is so -/
def syY (p : Vo) (Y : Pt α) (e : α) : Sy p := ⟨fun v H => Y.T p H v e, fun v H H' g h => Y.gr h g⟩
theorem la_cons {e : α} (h : Ev p te σ H (syY p Y e)) (hr : EvL Y p tr σ H es) : EvL Y p (tCons te tr) σ H (e :: es) := fun H1 i g Q q =>
  h H1 i g _ fun v H2 i2 g2 hv => hr H2 i2 (g.trans g2) _ fun vs H3 i3 g3 hl => q (v :: vs) H3 i3 (g2.trans g3) (.cons (Y.gr hv g3) hl)
theorem la_star (h : Ev p te σ H (slP p Y es)) (hr : EvL Y p tr σ H fs) : EvL Y p (StX.tStar K te tr) σ H (es ++ fs) := fun H1 i g Q q =>
  h H1 i g _ fun v H2 i2 g2 ⟨a, us, e1, na, ha, hl⟩ => ⟨a, us, e1, .inr (SqL.of ha), hr H2 i2 (g.trans g2) _ fun ws H3 i3 g3 hw => q (us ++ ws) H3 i3 (g2.trans g3) (AllL.app (AllL.gr hl g3) hw)⟩
theorem l_tup (h : EvL Y p tr σ H es) (hz : es.length ≤ 1000000) : Ev p (tTup tr) σ H (stP p Y es) := fun H1 i g Q q =>
  h H1 i g _ fun vs H2 i2 g2 hl => ⟨by rw [hl.1, sizeLine_eq]; omega, fun b hb => q _ _ (i2.new hb) (g2.trans (Gr.new hb)) ⟨b, vs, rfl, i2.ne hb, upd_same, AllL.gr hl (Gr.new hb)⟩⟩
theorem l_lst (h : EvL Y p tr σ H es) (hz : es.length ≤ 1000000) : Ev p (tLst tr) σ H (slP p Y es) := fun H1 i g Q q =>
  h H1 i g _ fun vs H2 i2 g2 hl => ⟨by rw [hl.1, sizeLine_eq]; omega, fun b hb => q _ _ (i2.new hb) (g2.trans (Gr.new hb)) ⟨b, vs, rfl, i2.ne hb, upd_same, AllL.gr hl (Gr.new hb)⟩⟩
theorem stP_dat {p : Vo} {ds : List D} {v : V} {H : Hp} (hz : ds.length ≤ 100000) (h : (stP p Pd ds).P v H) : Dat p H v (.tup ds) := by
  obtain ⟨a, xs, rfl, na, ha, hl, hr⟩ := h
  exact .tup na ha hl (by omega) hr
theorem dat_stP {p : Vo} {ds : List D} {v : V} {H : Hp} (h : Dat p H v (.tup ds)) : (stP p Pd ds).P v H := by
  cases h with
  | tup na ha hl hz hr => exact ⟨_, _, rfl, na, ha, hl, hr⟩
theorem stP_rp {p : Vo} {ds : List PyData} {v : V} {H : Hp} (h : (stP p Pr ds).P v H) : Rp p H v (.tuple ds) := by
  obtain ⟨a, xs, rfl, na, ha, hl, hr⟩ := h
  exact .tup na ha hl hr
theorem slP_rp {p : Vo} (hp : ∀ a, Nv p a → a ≠ sysModules) {ds : List PyData} {v : V} {H : Hp} (h : (slP p Pr ds).P v H) : Rp p H v (.list ds) := by
  obtain ⟨a, xs, rfl, na, ha, hl, hr⟩ := h
  exact .lst na (hp a na) ha hl hr
end
end Hk
namespace Hk
open PySem PySem.Spec PyProof.Rows L2
theorem cut_to {xs : List V} {k : Nat} (h : k ≤ xs.length) : cutV xs none (some (k : Int)) = xs.take k := by
  unfold cutV
  rw [HT.sIx_none, HT.sIx_nat]
  show (xs.drop 0).take (min k xs.length - 0) = _
  rw [List.drop_zero, Nat.sub_zero, Nat.min_eq_left h]
theorem cut_from {xs : List V} {k : Nat} : cutV xs (some (k : Int)) none = xs.drop k := by
  unfold cutV
  rw [HT.sIx_none, HT.sIx_nat]
  rw [List.take_of_length_le (by rw [List.length_drop]; omega)]
  by_cases h : k ≤ xs.length
  · rw [Nat.min_eq_left h]
  · rw [Nat.min_eq_right (by omega), List.drop_length, List.drop_eq_nil_of_le (by omega)]
section
variable {α : Type} {p : Vo} {σ : L2.St} {H : Hp} {K : PySem.W.Frag} {te ta tb : TE} {tr : TA} {Y : Pt α} {es fs : List α} {B : Sy p}
theorem AllL.take {vs : List V} (h : AllL Y p H vs es) (k : Nat) : AllL Y p H (vs.take k) (es.take k) := by
  refine ⟨by rw [List.length_take, List.length_take, h.1], fun i v e e1 e2 => ?_⟩
  rw [List.getElem?_take] at e1 e2
  by_cases hi : i < k
  · rw [if_pos hi] at e1 e2
    exact h.2 i v e e1 e2
  · rw [if_neg hi] at e1
    cases e1
theorem AllL.drop {vs : List V} (h : AllL Y p H vs es) (k : Nat) : AllL Y p H (vs.drop k) (es.drop k) := by
  refine ⟨by rw [List.length_drop, List.length_drop, h.1], fun i v e e1 e2 => ?_⟩
  rw [List.getElem?_drop] at e1 e2
  exact h.2 _ v e e1 e2
theorem x_takeY {k : Nat} {th : TO} (ha : Ev p ta σ H (slP p Y es)) (hk : k ≤ es.length) (hh : ∀ H (Q : Option Int → Hp → Prop), Q (some (k : Int)) H → th σ H Q) : Ev p (tSl (rSlL K) ta tNoPart th) σ H (slP p Y (es.take k)) :=
  fun H1 i g Q q => ha H1 i g _ fun v H2 i2 g2 ⟨a, us, e, na, h, hl⟩ => hh H2 _ ⟨a, us, e, SqL.of h, fun b hb => q _ _ (i2.new hb) (g2.trans (Gr.new hb)) ⟨b, _, rfl, i2.ne hb, upd_same, by
    have hl : AllL Y p H2 us es := hl
    rw [cut_to (by rw [hl.1]; exact hk)]
    exact (hl.take k).gr (Gr.new hb)⟩⟩
theorem x_dropY {k : Nat} {tl : TO} (ha : Ev p ta σ H (slP p Y es)) (hh : ∀ H (Q : Option Int → Hp → Prop), Q (some (k : Int)) H → tl σ H Q) : Ev p (tSl (rSlL K) ta tl tNoPart) σ H (slP p Y (es.drop k)) :=
  fun H1 i g Q q => ha H1 i g _ fun v H2 i2 g2 ⟨a, us, e, na, h, hl⟩ => hh H2 _ ⟨a, us, e, SqL.of h, fun b hb => q _ _ (i2.new hb) (g2.trans (Gr.new hb)) ⟨b, _, rfl, i2.ne hb, upd_same, by
    have hl : AllL Y p H2 us es := hl
    rw [cut_from]
    exact (hl.drop k).gr (Gr.new hb)⟩⟩
theorem x_catY (ha : Ev p ta σ H (slP p Y es)) (hb : Ev p tb σ H (slP p Y fs)) (hz : es.length + fs.length ≤ 100000) : Ev p (tOp rAddU ta tb) σ H (slP p Y (es ++ fs)) :=
  e_op ha hb fun x y H1 iv g ⟨b, ws, e1, nb, h1, hl⟩ ⟨b', ws', e2, nb', h2, hl'⟩ => rv_new iv (o := .lst (ws ++ ws')) (fun q nq hq i' g' => ⟨q, _, rfl, nq, upd_same, (AllL.app (show AllL Y p H1 ws es from hl) hl').gr g'⟩) fun Q q => .inr (.inr ⟨b, b', ws, ws', e1, e2, h1, h2, by rw [hl.1, hl'.1, sizeLine_eq]; omega, q⟩)
theorem x_tupY (ha : Ev p ta σ H (slP p Y es)) : Ev p (tCB (rTupK K) (tCons ta tNil)) σ H (stP p Y es) := e_cb (a_cons ha a_nil) fun vs H1 iv g os => by
  obtain ⟨v, us, rfl, ⟨b, ws, rfl, nb, h1, hl⟩, rfl⟩ := os
  exact rv_new iv (o := .tup ws) (fun q nq hq i' g' => ⟨q, ws, rfl, nq, upd_same, (show AllL Y p H1 ws es from hl).gr g'⟩) fun Q q => ⟨b, ws, rfl, .inl ⟨SqL.of h1, q⟩⟩
def rListK (K : PySem.W.Frag) : List V → Hp → VK → Prop := fun xs H Q => ∃ p ys, xs = [.ref p] ∧ (SqL K H p ys ∨ SqT K H p ys) ∧ ∀ l, H l = none → Q (.ref l) (upd H l (.lst ys))
theorem x_listY (ha : Ev p ta σ H (stP p Y es)) : Ev p (tCB (rListK K) (tCons ta tNil)) σ H (slP p Y es) := e_cb (a_cons ha a_nil) fun vs H1 iv g os => by
  obtain ⟨v, us, rfl, ⟨b, ws, rfl, nb, h1, hl⟩, rfl⟩ := os
  exact rv_new iv (o := .lst ws) (fun q nq hq i' g' => ⟨q, ws, rfl, nq, upd_same, (show AllL Y p H1 ws es from hl).gr g'⟩) fun Q q => ⟨b, ws, rfl, .inr (SqT.of h1), q⟩
/-- an item by a drawn place; by a known one; of a tuple -/
def syO (p : Vo) (Y : Pt α) (C : α → Prop) : Sy p := ⟨fun v H => ∃ e, C e ∧ Y.T p H v e, fun v H H' g ⟨e, c, h⟩ => ⟨e, c, Y.gr h g⟩⟩
theorem AllL.at {vs : List V} {i : Int} (h : AllL Y p H vs es) (h0 : 0 ≤ i) (h1 : i < (es.length : Int)) : ∃ v e, atI vs i = some v ∧ es[i.toNat]? = some e ∧ Y.T p H v e := by
  have hk : i.toNat < es.length := by omega
  have hk' : i.toNat < vs.length := by rw [h.1]; exact hk
  have e1 := List.getElem?_eq_getElem hk'
  have e2 := List.getElem?_eq_getElem hk
  exact ⟨vs[i.toNat], es[i.toNat], at_of (k := i.toNat) (by omega) e1, e2, h.2 _ _ _ e1 e2⟩
theorem x_ixO {n : Int} (ha : Ev p ta σ H (slP p Y es)) (hb : Ev p tb σ H (si fun r => 0 ≤ r ∧ r < n)) (hn : n ≤ (es.length : Int)) : Ev p (tOp (rIx K) ta tb) σ H (syO p Y fun e => e ∈ es) :=
  e_op ha hb fun x y H1 iv g ⟨b, ws, e, nb, h, hl⟩ ⟨i, ei, h0, h1⟩ => by
    obtain ⟨v, d, hat, hd, hy⟩ := AllL.at (show AllL Y p H1 ws es from hl) h0 (by omega)
    exact rv iv ⟨d, List.mem_of_getElem? hd, hy⟩ fun Q q => .inl ⟨b, ws, i, v, e, ei, SqL.of h, hat, q⟩
theorem x_ixY {i : Int} {d : α} (ha : Ev p ta σ H (slP p Y es)) (hb : Ev p tb σ H (sx (.int i))) (h0 : 0 ≤ i) (hd : es[i.toNat]? = some d) : Ev p (tOp (rIx K) ta tb) σ H (syY p Y d) :=
  e_op ha hb fun x y H1 iv g ⟨b, ws, e, nb, h, hl⟩ ei => by
    have hlt := (List.getElem?_eq_some_iff.mp hd).1
    obtain ⟨v, d', hat, hd', hy⟩ := AllL.at (show AllL Y p H1 ws es from hl) h0 (by omega)
    rw [hd] at hd'
    rw [← Option.some.inj hd'] at hy
    exact rv iv hy fun Q q => .inl ⟨b, ws, i, v, e, ei, SqL.of h, hat, q⟩
theorem x_ixT {i : Int} {d : α} (ha : Ev p ta σ H (stP p Y es)) (hb : Ev p tb σ H (sx (.int i))) (h0 : 0 ≤ i) (hd : es[i.toNat]? = some d) : Ev p (tOp (rIx K) ta tb) σ H (syY p Y d) :=
  e_op ha hb fun x y H1 iv g ⟨b, ws, e, nb, h, hl⟩ ei => by
    have hlt := (List.getElem?_eq_some_iff.mp hd).1
    obtain ⟨v, d', hat, hd', hy⟩ := AllL.at (show AllL Y p H1 ws es from hl) h0 (by omega)
    rw [hd] at hd'
    rw [← Option.some.inj hd'] at hy
    exact rv iv hy fun Q q => .inr (.inl ⟨b, ws, i, v, e, ei, SqT.of h, hat, q⟩)
theorem x_lenT (ha : Ev p ta σ H (stP p Y es)) : Ev p (tCB (rLenK K) (tCons ta tNil)) σ H (sx (.int es.length)) := e_cb (a_cons ha a_nil) fun vs H1 iv g os => by
  obtain ⟨v, ws, rfl, ⟨b, us, rfl, nb, h, hl⟩, rfl⟩ := os
  exact rv iv (show V.int us.length = V.int es.length by rw [hl.1]) fun Q q => ⟨_, _, rfl, .inr ⟨us, SqT.of h, rfl⟩, q⟩
theorem x_lenY (ha : Ev p ta σ H (slP p Y es)) : Ev p (tCB (rLenK K) (tCons ta tNil)) σ H (sx (.int es.length)) := e_cb (a_cons ha a_nil) fun vs H1 iv g os => by
  obtain ⟨v, ws, rfl, ⟨b, us, rfl, nb, h, hl⟩, rfl⟩ := os
  exact rv iv (show V.int us.length = V.int es.length by rw [hl.1]) fun Q q => ⟨_, _, rfl, .inl ⟨us, SqL.of h, rfl⟩, q⟩
/-- t + u of tuples -/
theorem x_catT (ha : Ev p ta σ H (stP p Y es)) (hb : Ev p tb σ H (stP p Y fs)) (hz : es.length + fs.length ≤ 100000) : Ev p (tOp (rCatA K) ta tb) σ H (stP p Y (es ++ fs)) :=
  e_op ha hb fun x y H1 iv g ⟨b, ws, e1, nb, h1, hl⟩ ⟨b', ws', e2, nb', h2, hl'⟩ Q q => by
    have hl : AllL Y p H1 ws es := hl
    have hl' : AllL Y p H1 ws' fs := hl'
    refine ⟨b, b', ws, ws', e1, e2, SqT.of h1, SqT.of h2, by rw [hl.1, hl'.1, sizeLine_eq]; omega, fun z => ?_, fun _ z => ?_, fun _ _ c hc => ?_⟩
    · refine q _ H1 iv (Gr.refl H1) ⟨b', ws', rfl, nb', h2, ?_⟩
      have : es = [] := List.eq_nil_of_length_eq_zero (by rw [← hl.1, z]; rfl)
      rw [this]
      exact hl'
    · refine q _ H1 iv (Gr.refl H1) ⟨b, ws, rfl, nb, h1, ?_⟩
      have : fs = [] := List.eq_nil_of_length_eq_zero (by rw [← hl'.1, z]; rfl)
      rw [this, List.append_nil]
      exact hl
    · exact q _ _ (iv.new hc) (Gr.new hc) ⟨c, _, rfl, iv.ne hc, upd_same, (hl.app hl').gr (Gr.new hc)⟩
end
/-! ### how large data are -/
theorem bulk_app : ∀ xs ys : List PyData, PyData.bulkAll (xs ++ ys) = PyData.bulkAll xs + PyData.bulkAll ys
  | [], ys => by simp only [List.nil_append, PyData.bulkAll]; omega
  | x :: xs, ys => by
    simp only [List.cons_append, PyData.bulkAll]
    rw [bulk_app xs ys]
    omega
theorem bulk_mem {d : PyData} : ∀ {xs : List PyData}, d ∈ xs → d.bulk + 1 ≤ PyData.bulkAll xs
  | [], h => nomatch h
  | x :: xs, h => by
    simp only [PyData.bulkAll]
    rcases List.mem_cons.mp h with e | e
    · rw [e]; omega
    · have := bulk_mem e
      omega
theorem bulk_take (k : Nat) (xs : List PyData) : PyData.bulkAll (xs.take k) + PyData.bulkAll (xs.drop k) = PyData.bulkAll xs := by
  rw [← bulk_app, List.take_append_drop]
theorem bulk_len : ∀ xs : List PyData, xs.length ≤ PyData.bulkAll xs
  | [] => Nat.zero_le _
  | x :: xs => by
    simp only [PyData.bulkAll, List.length_cons]
    have := bulk_len xs
    omega
mutual
theorem bulk_small : ∀ d : PyData, d.bulk ≤ 100000 → smallD d = true
  | .none, _ => rfl
  | .bool _, _ => rfl
  | .int _, _ => rfl
  | .str s, h => decide_eq_true (by simp only [PyData.bulk] at h; exact h)
  | .tuple ds, h => by
    simp only [PyData.bulk] at h
    have := bulk_len ds
    exact Bool.and_eq_true_iff.mpr ⟨decide_eq_true (by omega), bulk_smalls ds h⟩
  | .list _, _ => rfl
  | .dict _, _ => rfl
theorem bulk_smalls : ∀ ds : List PyData, PyData.bulkAll ds ≤ 100000 → smallDs ds = true
  | [], _ => rfl
  | d :: ds, h => by
    simp only [PyData.bulkAll] at h
    exact Bool.and_eq_true_iff.mpr ⟨bulk_small d (by omega), bulk_smalls ds (by omega)⟩
end
/-- data that can be shown -/
structure Gd (N k : Nat) (d : PyData) : Prop where
  lv : d.leavesShort 40 = true
  sh : d.showable = true
  bk : d.bulk ≤ N
  dp : d.depth ≤ k
structure Gds (N k : Nat) (ds : List PyData) : Prop where
  al : ∀ d ∈ ds, d.leavesShort 40 = true ∧ d.showable = true ∧ d.depth ≤ k
  bk : PyData.bulkAll ds ≤ N
theorem Gd.mono {N k N' k' : Nat} {d : PyData} (h : Gd N k d) (h1 : N ≤ N') (h2 : k ≤ k') : Gd N' k' d := ⟨h.lv, h.sh, Nat.le_trans h.bk h1, Nat.le_trans h.dp h2⟩
theorem Gds.mono {N k N' k' : Nat} {d : List PyData} (h : Gds N k d) (h1 : N ≤ N') (h2 : k ≤ k') : Gds N' k' d := ⟨fun d hd => ⟨(h.al d hd).1, (h.al d hd).2.1, Nat.le_trans (h.al d hd).2.2 h2⟩, Nat.le_trans h.bk h1⟩
theorem lvs_all : ∀ {ds : List PyData}, (∀ d ∈ ds, d.leavesShort 40 = true) → PyData.leavesShortAll 40 ds = true
  | [], _ => by simp only [PyData.leavesShortAll]
  | d :: ds, h => by
    simp only [PyData.leavesShortAll, Bool.and_eq_true]
    exact ⟨h d List.mem_cons_self, lvs_all fun e he => h e (List.mem_cons_of_mem _ he)⟩
theorem all_lvs : ∀ {ds : List PyData}, PyData.leavesShortAll 40 ds = true → ∀ d ∈ ds, d.leavesShort 40 = true
  | [], _ => fun d h => nomatch h
  | x :: ds, h => fun d hd => by
    simp only [PyData.leavesShortAll, Bool.and_eq_true] at h
    rcases List.mem_cons.mp hd with e | e
    · rw [e]; exact h.1
    · exact all_lvs h.2 d e
theorem shs_all : ∀ {ds : List PyData}, (∀ d ∈ ds, d.showable = true) → PyData.showableAll ds = true
  | [], _ => by simp only [PyData.showableAll]
  | d :: ds, h => by
    simp only [PyData.showableAll, Bool.and_eq_true]
    exact ⟨h d List.mem_cons_self, shs_all fun e he => h e (List.mem_cons_of_mem _ he)⟩
theorem all_shs : ∀ {ds : List PyData}, PyData.showableAll ds = true → ∀ d ∈ ds, d.showable = true
  | [], _ => fun d h => nomatch h
  | x :: ds, h => fun d hd => by
    simp only [PyData.showableAll, Bool.and_eq_true] at h
    rcases List.mem_cons.mp hd with e | e
    · rw [e]; exact h.1
    · exact all_shs h.2 d e
theorem dps_all {k : Nat} : ∀ {ds : List PyData}, (∀ d ∈ ds, d.depth ≤ k) → PyData.depthAll ds ≤ k
  | [], _ => by simp only [PyData.depthAll]; omega
  | d :: ds, h => by
    simp only [PyData.depthAll]
    have := h d List.mem_cons_self
    have := dps_all fun e he => h e (List.mem_cons_of_mem _ he)
    omega
theorem all_dps {k : Nat} : ∀ {ds : List PyData}, PyData.depthAll ds ≤ k → ∀ d ∈ ds, d.depth ≤ k
  | [], _ => fun d h => nomatch h
  | x :: ds, h => fun d hd => by
    simp only [PyData.depthAll] at h
    rcases List.mem_cons.mp hd with e | e
    · rw [e]; omega
    · exact all_dps (by omega) d e
theorem Gds.tup {N k : Nat} {ds : List PyData} (h : Gds N k ds) : Gd N (k + 1) (.tuple ds) := by
  refine ⟨?_, ?_, ?_, ?_⟩
  · simp only [PyData.leavesShort]; exact lvs_all fun d hd => (h.al d hd).1
  · simp only [PyData.showable]; exact shs_all fun d hd => (h.al d hd).2.1
  · simp only [PyData.bulk]; exact h.bk
  · simp only [PyData.depth]; exact Nat.succ_le_succ (dps_all fun d hd => (h.al d hd).2.2)
theorem Gds.lst {N k : Nat} {ds : List PyData} (h : Gds N k ds) : Gd N (k + 1) (.list ds) := by
  refine ⟨?_, ?_, ?_, ?_⟩
  · simp only [PyData.leavesShort]; exact lvs_all fun d hd => (h.al d hd).1
  · simp only [PyData.showable]; exact shs_all fun d hd => (h.al d hd).2.1
  · simp only [PyData.bulk]; exact h.bk
  · simp only [PyData.depth]; exact Nat.succ_le_succ (dps_all fun d hd => (h.al d hd).2.2)
theorem Gd.items {N k : Nat} {ds : List PyData} (h : Gd N (k + 1) (.tuple ds)) : Gds N k ds := by
  have h1 := h.lv
  have h2 := h.sh
  have h3 := h.bk
  have h4 := h.dp
  simp only [PyData.leavesShort] at h1
  simp only [PyData.showable] at h2
  simp only [PyData.bulk] at h3
  simp only [PyData.depth] at h4
  exact ⟨fun d hd => ⟨all_lvs h1 d hd, all_shs h2 d hd, all_dps (by omega) d hd⟩, h3⟩
theorem Gds.nil {k : Nat} : Gds 0 k [] := ⟨fun d h => absurd h List.not_mem_nil, by rw [PyData.bulkAll]; exact Nat.le_refl _⟩
theorem Gds.cons {N M k : Nat} {d : PyData} {ds : List PyData} (h : Gd N k d) (hs : Gds M k ds) : Gds (N + 1 + M) k (d :: ds) := by
  refine ⟨fun e he => ?_, ?_⟩
  · rcases List.mem_cons.mp he with q | q
    · rw [q]; exact ⟨h.lv, h.sh, h.dp⟩
    · exact hs.al e q
  · simp only [PyData.bulkAll]
    have := h.bk
    have := hs.bk
    omega
theorem Gds.app {N M k : Nat} {xs ys : List PyData} (h : Gds N k xs) (hs : Gds M k ys) : Gds (N + M) k (xs ++ ys) := by
  refine ⟨fun e he => (List.mem_append.mp he).elim (h.al e) (hs.al e), ?_⟩
  rw [bulk_app]
  have := h.bk
  have := hs.bk
  omega
theorem Gds.take {N k : Nat} {xs : List PyData} (h : Gds N k xs) (m : Nat) : Gds N k (xs.take m) := ⟨fun d hd => h.al d (List.mem_of_mem_take hd), by have := bulk_take m xs; have := h.bk; omega⟩
theorem Gds.drop {N k : Nat} {xs : List PyData} (h : Gds N k xs) (m : Nat) : Gds N k (xs.drop m) := ⟨fun d hd => h.al d (List.mem_of_mem_drop hd), by have := bulk_take m xs; have := h.bk; omega⟩
theorem Gds.mem {N k : Nat} {xs : List PyData} (h : Gds N k xs) {d : PyData} (hd : d ∈ xs) : Gd N k d := ⟨(h.al d hd).1, (h.al d hd).2.1, by have := bulk_mem hd; have := h.bk; omega, (h.al d hd).2.2⟩
theorem Gd.fits {N k : Nat} {d : PyData} (h : Gd N k d) (hN : N ≤ 300000) : d.shown.length ≤ sizeLine := by
  have h1 := PyData.shown_le_bulk 40 (by decide) d h.lv
  have h2 := h.bk
  have : (40 + 2) * d.bulk ≤ (40 + 2) * 300000 := Nat.mul_le_mul_left _ (by omega)
  rw [sizeLine_eq]
  omega
/-! repr -/
section
variable {p : Vo} {σ : L2.St} {H : Hp} {ta : TE}
theorem x_repr {N k : Nat} {v : V} {d : PyData} (ha : Ev p ta σ H (sx v)) (hv : ∀ H1, Gr p H H1 → Rp p H1 v d) (hg : Gd N k d) (hN : N ≤ 300000) (hk : k ≤ 40) : Ev p (tCB rReprR (tCons ta tNil)) σ H (sx (.str d.shown)) := e_cb (a_cons ha a_nil) fun vs H1 iv g os => by
  obtain ⟨w, us, rfl, rfl, rfl⟩ := os
  exact rv iv rfl fun Q q => ⟨_, d, rfl, (hv H1 g).non', hg.sh, Nat.le_trans hg.dp hk, hg.fits hN, q⟩
theorem x_reprS {N k : Nat} {d : PyData} (ha : Ev p ta σ H (syY p Pr d)) (hg : Gd N k d) (hN : N ≤ 300000) (hk : k ≤ 40) : Ev p (tCB rReprR (tCons ta tNil)) σ H (sx (.str d.shown)) := e_cb (a_cons (A := syY p Pr d) ha a_nil) fun vs H1 iv g os => by
  obtain ⟨w, us, rfl, hw, rfl⟩ := os
  exact rv iv rfl fun Q q => ⟨w, d, rfl, (show Rp p H1 w d from hw).non', hg.sh, Nat.le_trans hg.dp hk, hg.fits hN, q⟩
end
end Hk
namespace Hk
open PySem PySem.Spec PyProof.Rows L2
/-! ### own classes whose instances change: methods, by keyword too, or raising; own == and len; properties; making -/
structure MtX (CX : CXT) (P : Program) (w : World) (K : PySem.W.Frag) (mg : Str → Option Value) (base : Heap) (k : Nat) (C : Addr) (m : Str) (dvs : List V) (sp : Sp) : Prop where
  ex : ∃ (f : Addr) (fd : FuncData) (ps : List Str) (ds : List Value), Meth K C m f ∧ FnOk P w K mg base CX k f fd ps sp ∧ Binds K fd ps ds ∧ Vals dvs ds
structure MtK (CX : CXT) (P : Program) (w : World) (K : PySem.W.Frag) (mg : Str → Option Value) (base : Heap) (k : Nat) (C : Addr) (m kw : Str) (sp : Sp) : Prop where
  ex : ∃ (f : Addr) (fd : FuncData) (ps : List Str) (g : List Value → List Value → List Value), Meth K C m f ∧ FnOk P w K mg base CX k f fd ps sp ∧ KBn K fd ps 1 [kw] g (fun vs zs => vs ++ zs)
def tMethT (C : Addr) (m : Str) (sp : Sp) (W : WX) (ta : TE) (t : TA) : TE := fun σ H Q => ta σ H fun x H1 => ∃ a dx fs, x = .ref a ∧ H1 a = some (.ins C dx fs) ∧ fs.lookup m = none ∧ t σ H1 fun vs H2 => sp (x :: vs) H2 Q (WE W σ)
def tMethK (C : Addr) (m : Str) (sp : Sp) (E : XK) (ta : TE) (tk : TA) : TE := fun σ H Q => ta σ H fun x H1 => ∃ a dx fs, x = .ref a ∧ H1 a = some (.ins C dx fs) ∧ fs.lookup m = none ∧ tk σ H1 fun zs H2 => zs.length = 1 ∧ sp (x :: zs) H2 Q E
section
variable {X : Cx} {CX : CXT} {k : Nat} {C : Addr} {m kw : Str} {dvs : List V} {sp : Sp} {E : XK} {W : WX} {o e : Expr} {es : List Expr} {kws : List Keyword} {ta : TE} {t tk : TA} {apos pos : Pos}
theorem pe_mx {pl : Sem Bool} (M : MtX CX X.prog X.w X.K X.mg X.base k C m dvs sp) (c : Cls X.K C) (hr : Room k X.A) (hx : Passes CX X E) (he : PE X o ta) (ha : PA X (e :: es) t)
    (hst : starEach (e :: es) X.env = (false, eval e X.env) :: starEach es X.env := by rfl) (hpl : (backTo pos (starEach es X.env)).any (·.1) = false := by rfl)
    (ht : eval (.Call (.Attribute o m apos) (e :: es) [] pos) X.env = (do
      let ov ← eval o X.env
      standAt apos.atName
      let (f, first) ← holding [ov] (getMethod ov m pl)
      callWith pos f first (backTo pos (starEach (e :: es) X.env)) (backToKw pos (keywordEach [] X.env))) := by rfl) :
    PE X (.Call (.Attribute o m apos) (e :: es) [] pos) (tMeth C m sp dvs E ta t) := by
  obtain ⟨f, fd, ps, ds, hm, F, hb, hd⟩ := M.ex
  exact pe_meth he c hm F hr hb hd hx ha hst hpl ht
theorem pe_mx0 {pl : Sem Bool} (M : MtX CX X.prog X.w X.K X.mg X.base k C m dvs sp) (c : Cls X.K C) (hr : Room k X.A) (hx : Passes CX X E) (he : PE X o ta)
    (ht : eval (.Call (.Attribute o m apos) [] [] pos) X.env = (do
      let ov ← eval o X.env
      standAt apos.atName
      let (f, first) ← holding [ov] (getMethod ov m pl)
      callWith pos f first (backTo pos (starEach [] X.env)) (backToKw pos (keywordEach [] X.env))) := by rfl) :
    PE X (.Call (.Attribute o m apos) [] [] pos) (tMeth C m sp dvs E ta tNil) := by
  obtain ⟨f, fd, ps, ds, hm, F, hb, hd⟩ := M.ex
  exact pe_meth0 he c hm F hr hb hd hx ht
/-- in a try: what it raises is the try's -/
theorem pe_mxT {pl : Sem Bool} (M : MtX (L2.CX X.prog X.w) X.prog X.w X.K X.mg X.base k C m [] sp) (c : Cls X.K C) (hr : Room k X.A) (tk : Takes X W) (he : PE X o ta) (ha : PA X (e :: es) t)
    (hst : starEach (e :: es) X.env = (false, eval e X.env) :: starEach es X.env := by rfl) (hpl : (backTo pos (starEach es X.env)).any (·.1) = false := by rfl)
    (ht : eval (.Call (.Attribute o m apos) (e :: es) [] pos) X.env = (do
      let ov ← eval o X.env
      standAt apos.atName
      let (f, first) ← holding [ov] (getMethod ov m pl)
      callWith pos f first (backTo pos (starEach (e :: es) X.env)) (backToKw pos (keywordEach [] X.env))) := by rfl) :
    PE X (.Call (.Attribute o m apos) (e :: es) [] pos) (tMethT C m sp W ta t) := by
  obtain ⟨f, fd, ps, ds, hm, F, hb, hd⟩ := M.ex
  cases hd
  refine ⟨fun pins s σ H Q I h => ?_⟩
  refine PySem.W.methodCall_KW (pl := pl) (thn (he.run pins s σ H _ I h) fun u s1 ⟨x, H1, I1, rx, a, dx, fs, ex, ea, l, q⟩ => ?_) ht
  subst ex
  obtain rfl : u = Value.ref a := rx
  refine getmeth_ok I1 ea c hm l ?_
  refine PySem.W.callWith_K (first := [.ref a]) (h₀ := X.base) I.ok.mod.kin hm.kp (thn (ha.run pos pins s1 σ H1 _ I1 q) fun us s2 ⟨vs, H2, I2, r, q2⟩ => ⟨I2.kIn, ?_⟩) hst hpl
  exact run_fnS (E := WE W) (us := .ref a :: us) (vs := .ref a :: vs) F hr hb (passAt tk σ) I2 (.cons rfl r) q2
/-- o.m(kw = v) -/
theorem pe_mk {pl : Sem Bool} (M : MtK CX X.prog X.w X.K X.mg X.base k C m kw sp) (c : Cls X.K C) (hr : Room k X.A) (hx : Passes CX X E) (he : PE X o ta) (hkw : PK X kws tk)
    (hall : (backToKw pos (keywordEach kws X.env)).all (·.1.isSome) = true := by rfl) (hks : (backToKw pos (keywordEach kws X.env)).filterMap (·.1) = [kw] := by rfl)
    (hpl : ((backTo pos (starEach [] X.env)).any (·.1) || (backToKw pos (keywordEach kws X.env)).any (·.1.isNone)) = false := by rfl)
    (ht : eval (.Call (.Attribute o m apos) [] kws pos) X.env = (do
      let ov ← eval o X.env
      standAt apos.atName
      let (f, first) ← holding [ov] (getMethod ov m pl)
      callWith pos f first (backTo pos (starEach [] X.env)) (backToKw pos (keywordEach kws X.env))) := by rfl) :
    PE X (.Call (.Attribute o m apos) [] kws pos) (tMethK C m sp E ta tk) := by
  obtain ⟨f, fd, ps, g, hm, F, hb⟩ := M.ex
  refine ⟨fun pins s σ H Q I h => ?_⟩
  refine PySem.W.methodCall_KW (pl := pl) (thn (he.run pins s σ H _ I h) fun u s1 ⟨x, H1, I1, rx, a, dx, fs, ex, ea, l, q⟩ => ?_) ht
  subst ex
  obtain rfl : u = Value.ref a := rx
  refine getmeth_ok I1 ea c hm l ?_
  refine PySem.W.callWith_KW0 (first := [.ref a]) (h₀ := X.base) I.ok.mod.kin hm.kp hall (thn (hkw.run pos pins s1 σ H1 _ I1 q) fun ws s2 ⟨zs, H2, I2, rz, l1, q2⟩ => ⟨I2.kIn, ?_⟩) hpl
  rw [hks]
  exact run_fnN (us := [.ref a]) (vs := [.ref a]) F hr hb hx I2 (.cons rfl .nil) rz rfl l1 q2
end
/-! a property -/
structure PrX (P : Program) (w : World) (K : PySem.W.Frag) (mg : Str → Option Value) (base : Heap) (k : Nat) (C : Addr) (f : Str) (sp : Sp) : Prop where
  ex : ∃ (p g : Addr) (fd : FuncData) (ps : List Str), PropOf K C f p g ∧ FnOk P w K mg base CX0 k g fd ps sp ∧ Binds K fd ps []
theorem pe_px {X : Cx} {k : Nat} {C : Addr} {f : Str} {sp : Sp} {e : Expr} {ta : TE} {pos : Pos} (M : PrX X.prog X.w X.K X.mg X.base k C f sp) (c : Cls X.K C) (hr : Room (k + 1) X.A) (he : PE X e ta)
    (hab : attributeBase e f X.env (eval e X.env) = eval e X.env := by rfl) : PE X (.Attribute e f pos) (tProp C sp [] E0 ta) := by
  obtain ⟨p, g, fd, ps, hp, F, hb⟩ := M.ex
  exact pe_prop he c hp F hr hb .nil (fun _ _ _ _ _ _ _ h => h.elim) hab
/-! own == -/
structure EqX (P : Program) (w : World) (K : PySem.W.Frag) (mg : Str → Option Value) (base : Heap) (k : Nat) (C : Addr) (sp : Sp) : Prop where
  ex : ∃ (f : Addr) (fd : FuncData) (ps : List Str), PySem.W.findIn K (.ref C) "__eq__" = some (some (.ref f)) ∧ PySem.W.isFn K (.ref f) = true ∧ FnOk P w K mg base CX0 k f fd ps sp ∧ Binds K fd ps []
  ns : PySem.W.subIn K (.type "str") (.ref C) = some false
  nn : PySem.W.subIn K (.type "NoneType") (.ref C) = some false
def rEqO (C : Addr) (sp : Sp) : R2 := fun x y H Q => ∃ a dx fs, x = .ref a ∧ H a = some (.ins C dx fs) ∧ ((∃ b dy gs, y = .ref b ∧ H b = some (.ins C dy gs)) ∨ (∃ z, y = .str z) ∨ y = .non) ∧ sp [x, y] H Q E0
theorem cmpback {P : Value → Shared → Prop} {z : V} {v : Value} {s' : Shared} (r : RelV z v) (h : P v s') : PySem.W.CmpBack P v s' := by
  cases z with
  | non => cases (show v = Value.none from r); exact h
  | bl b => cases (show v = Value.bool b from r); exact h
  | int i =>
    obtain ⟨t, e⟩ := (show ∃ t, v = Value.int i t from r)
    cases e
    exact h
  | str x =>
    obtain ⟨t, e⟩ := (show ∃ t, v = Value.str x t from r)
    cases e
    exact h
  | byt b =>
    obtain ⟨t, e⟩ := (show ∃ t, v = Value.bytes b t from r)
    cases e
    exact h
  | flt b =>
    obtain ⟨t, e⟩ := (show ∃ t, v = Value.float b t from r)
    cases e
    exact h
  | ref a => cases (show v = Value.ref a from r); exact h
  | ty n => cases (show v = Value.type n from r); exact h
section
variable {X : Cx} {k : Nat} {C : Addr} {sp : Sp}
theorem op_eqO (M : EqX X.prog X.w X.K X.mg X.base k C sp) (hr : Room k X.A) : OpR X (compareOp .Eq) (rEqO C sp) := by
  obtain ⟨f, fd, ps, hs, hf, F, hb⟩ := M.ex
  intro pins s σ H x y v u Q I rx ry h
  obtain ⟨a, dx, fs, rfl, ha, hy, q⟩ := h
  cases rx
  obtain ⟨mA, J, _⟩ := ins_get I.hok ha
  obtain ⟨od, J, _⟩ := J.look
  obtain ⟨m, hF⟩ := I.fr
  have go : ∀ tb, PySem.W.Looks (model X.prog X.w) s.heap (typeOf u) tb → PySem.W.notFirst X.K C tb = true → wpAny (model X.prog X.w) X.A (richCompare .Eq (.ref a) u) (EP X pins σ Q) X.xe s := fun tb hl hn => by
    refine PySem.W.cmp_K (op := .Eq) (tb := tb) hr.units0 hF I.ok.mod.kin J hl hn hs hf ?_
    refine wpAny_mono (run_fn (us := [.ref a, u]) (vs := [.ref a, y]) F hr hb .nil pass0 I (.cons rfl (.cons ry .nil)) q) (fun r s' z => ?_) fun _ _ z => z
    obtain ⟨v', H', I', rv, q'⟩ := z
    exact cmpback rv ⟨v', H', I', rv, q'⟩
  rcases hy with ⟨b, dy, gs, rfl, hb'⟩ | ⟨z, rfl⟩ | rfl
  · cases ry
    obtain ⟨mB, J', _⟩ := ins_get I.hok hb'
    obtain ⟨od', J', _⟩ := J'.look
    exact go (.ref C) J'.type (by simp [PySem.W.notFirst])
  · obtain ⟨t, rfl⟩ := ry
    exact go (.type "str") (.of_pure rfl) (by unfold PySem.W.notFirst; rw [M.ns]; simp)
  · cases (show u = Value.none from ry)
    exact go (.type "NoneType") (.of_pure rfl) (by unfold PySem.W.notFirst; rw [M.nn]; simp)
end
/-! own len -/
structure LnX (P : Program) (w : World) (K : PySem.W.Frag) (mg : Str → Option Value) (base : Heap) (k : Nat) (C : Addr) (sp : Sp) : Prop where
  ex : ∃ (f : Addr) (fd : FuncData) (ps : List Str), PySem.W.findIn K (.ref C) "__len__" = some (some (.ref f)) ∧ PySem.W.isFn K (.ref f) = true ∧ FnOk P w K mg base CX0 k f fd ps sp ∧ Binds K fd ps []
def rLenO (C : Addr) (sp : Sp) : List V → Hp → VK → Prop := fun xs H Q => ∃ a dx fs, xs = [.ref a] ∧ H a = some (.ins C dx fs) ∧ sp [.ref a] H (fun v H' => ∃ n : Int, v = .int n ∧ (0 ≤ n ∧ n < 2 ^ 63) ∧ Q (.int n) H') E0
theorem call_lenO {X : Cx} {k : Nat} {C : Addr} {sp : Sp} (M : LnX X.prog X.w X.K X.mg X.base k C sp) (hr : Room (k + 1) X.A) : CallR X (.builtin "len") (rLenO C sp) := by
  obtain ⟨f, fd, ps, hs, hf, F, hb⟩ := M.ex
  intro pins s σ H xs us Q I r h
  obtain ⟨a, dx, fs, rfl, ha, q⟩ := h
  obtain ⟨u, rfl, rx⟩ := vals1 r
  cases (show u = Value.ref a from rx)
  obtain ⟨mA, J, _⟩ := ins_get I.hok ha
  obtain ⟨od, J, _⟩ := J.look
  obtain ⟨m, hF⟩ := I.fr
  refine PySem.W.len_K hF I.ok.mod.kin J hs hf ?_
  have hl : [Value.ref a].length = ps.length := by
    rw [← F.len _ _ _ _ q]
    rfl
  have b := hb s [Value.ref a] I.kIn (by rw [List.append_nil]; exact hl)
  rw [List.append_nil] at b
  refine wpAny_call (codeAny_mono (F.run X.A.in1 X.stack s H ⟨[.ref a], []⟩ [.ref a] [.ref a] _ E0 hr.in1 I.env0.in1 b (.cons rfl .nil) q) fun r s' hq => ?_)
  cases r with
  | error e => exact hq.elim
  | ok fl =>
    cases fl with
    | ret w =>
      obtain ⟨z, H', I', rz, n, ez, hn, q'⟩ := I.after hq
      subst ez
      obtain ⟨t, rfl⟩ := rz
      exact ⟨hn, .int n, H', I'.tok _, ⟨_, rfl⟩, q'⟩
    | next => exact False.elim hq
    | brk => exact False.elim hq
    | cont => exact False.elim hq
/-! making -/
structure MkX (P : Program) (w : World) (K : PySem.W.Frag) (mg : Str → Option Value) (base : Heap) (k : Nat) (x : Str) (C : Addr) (dvs : List V) (sp : Sp) : Prop where
  ex : ∃ (f : Addr) (fd : FuncData) (ps : List Str) (ds : List Value), Mk K C f ∧ FnOk P w K mg base CX0 k f fd ps sp ∧ Binds K fd ps ds ∧ Vals dvs ds
  m : mg x = some (.ref C)
structure MkK (P : Program) (w : World) (K : PySem.W.Frag) (mg : Str → Option Value) (base : Heap) (k : Nat) (x : Str) (C : Addr) (kw : Str) (sp : Sp) : Prop where
  ex : ∃ (f : Addr) (fd : FuncData) (ps : List Str) (g : List Value → List Value → List Value), Mk K C f ∧ FnOk P w K mg base CX0 k f fd ps sp ∧ KBn K fd ps 1 [kw] g (fun vs zs => vs ++ zs)
  m : mg x = some (.ref C)
section
variable {X : Cx} {k : Nat} {C : Addr} {x kw : Str} {dvs : List V} {sp : Sp} {e : Expr} {es : List Expr} {kws : List Keyword} {t tk : TA} {p pos : Pos}
theorem pe_mkx (M : MkX X.prog X.w X.K X.mg X.base k x C dvs sp) (hr : Room (k + 1) X.A) (hg : Gl X x) (ha : PA X (e :: es) t) (hdb : (x == ("__debug__" : Str)) = false := by decide)
    (he : starEach (e :: es) X.env = (false, eval e X.env) :: starEach es X.env := by rfl) (hpl : (backTo pos (starEach es X.env)).any (·.1) = false := by rfl) :
    PE X (.Call (.Name x p) (e :: es) [] pos) (tMake C sp dvs E0 t) := by
  obtain ⟨f, fd, ps, ds, m, F, hb, hd⟩ := M.ex
  exact pe_make m F hr hg M.m hb hd pass0 ha hdb he hpl
theorem pe_mkx0 (M : MkX X.prog X.w X.K X.mg X.base k x C dvs sp) (hr : Room (k + 1) X.A) (hg : Gl X x) (hdb : (x == ("__debug__" : Str)) = false := by decide) :
    PE X (.Call (.Name x p) [] [] pos) (tMake C sp dvs E0 tNil) := by
  obtain ⟨f, fd, ps, ds, m, F, hb, hd⟩ := M.ex
  exact pe_make0 m F hr hg M.m hb hd pass0 hdb
theorem pe_mkk (M : MkK X.prog X.w X.K X.mg X.base k x C kw sp) (hr : Room (k + 1) X.A) (hg : Gl X x) (hkw : PK X kws tk)
    (hall : (backToKw pos (keywordEach kws X.env)).all (·.1.isSome) = true := by rfl) (hks : (backToKw pos (keywordEach kws X.env)).filterMap (·.1) = [kw] := by rfl) (hdb : (x == ("__debug__" : Str)) = false := by decide)
    (hpl : ((backTo pos (starEach [] X.env)).any (·.1) || (backToKw pos (keywordEach kws X.env)).any (·.1.isNone)) = false := by rfl) :
    PE X (.Call (.Name x p) [] kws pos) (tMakeK C 0 1 sp (fun vs zs => vs ++ zs) E0 tNil tk) := by
  obtain ⟨f, fd, ps, g, m, F, hb⟩ := M.ex
  exact pe_makeK0 m F hr hg M.m hb pass0 hkw hall hks hdb hpl
end
end Hk
namespace K73
open PySem PySem.Spec PyProof.Rows L2 Hk
def top (i : Nat) : Stmt := PySem.Challenge.pw_heldover_k73_disks.main.body.getD i (.Pass ⟨0, 0, 0, 0⟩)
abbrev s_is_integer : Stmt := top 5
theorem sc_is_integer : FnScope ["value"] ["value"] (defScope s_is_integer) := ⟨rfl, rfl, rfl, by decide +kernel, rfl, by decide +kernel, by decide +kernel⟩
abbrev s_is_moment : Stmt := top 7
theorem sc_is_moment : FnScope ["value"] ["value"] (defScope s_is_moment) := ⟨rfl, rfl, rfl, by decide +kernel, rfl, by decide +kernel, by decide +kernel⟩
abbrev s__law_pot : Stmt := top 11
theorem sc__law_pot : FnScope ["_law_script", "_law_index", "_law_cell"] ["_law_script", "_law_index"] (defScope s__law_pot) := ⟨rfl, rfl, rfl, by decide +kernel, rfl, by decide +kernel, by decide +kernel⟩
abbrev s__law_draw : Stmt := top 12
theorem sc__law_draw : FnScope ["_law_pot_here", "_law_bound", "_law_digit"] ["_law_pot_here", "_law_bound"] (defScope s__law_draw) := ⟨rfl, rfl, rfl, by decide +kernel, rfl, by decide +kernel, by decide +kernel⟩
abbrev s__law_choice : Stmt := top 13
theorem sc__law_choice : FnScope ["_law_pot_here", "_law_options"] ["_law_pot_here", "_law_options"] (defScope s__law_choice) := ⟨rfl, rfl, rfl, by decide +kernel, rfl, by decide +kernel, by decide +kernel⟩
abbrev s__law_word : Stmt := top 14
theorem sc__law_word : FnScope ["_law_pot_here"] ["_law_pot_here"] (defScope s__law_word) := ⟨rfl, rfl, rfl, by decide +kernel, rfl, by decide +kernel, by decide +kernel⟩
abbrev s__law_told : Stmt := top 15
theorem sc__law_told : FnScope ["_law_disk", "_law_pair", "_law_found"] ["_law_disk", "_law_pair"] (defScope s__law_told) := ⟨rfl, rfl, rfl, by decide +kernel, rfl, by decide +kernel, by decide +kernel⟩
abbrev s__law_refused : Stmt := top 16
theorem sc__law_refused : FnScope ["_law_disk", "_law_value", "_law_found", "e"] ["_law_disk", "_law_value"] (defScope s__law_refused) := ⟨rfl, rfl, rfl, by decide +kernel, rfl, by decide +kernel, by decide +kernel⟩
abbrev s__law_crash_right : Stmt := top 17
theorem sc__law_crash_right : FnScope ["_law_pot_here", "_law_disk", "_law_pair", "_law_left", "_law_value", "_law_count", "_law_told_here", "_law_other"] ["_law_pot_here", "_law_disk", "_law_pair"] (defScope s__law_crash_right) := ⟨rfl, rfl, rfl, by decide +kernel, rfl, by decide +kernel, by decide +kernel⟩
abbrev s__law_done : Stmt := top 18
theorem sc__law_done : FnScope ["_law_pot_here", "_law_disk", "_law_pair", "_law_way", "_law_word_here", "_law_told_here", "_law_after"] ["_law_pot_here", "_law_disk", "_law_pair"] (defScope s__law_done) := ⟨rfl, rfl, rfl, by decide +kernel, rfl, by decide +kernel, by decide +kernel⟩
abbrev s_law : Stmt := top 19
theorem sc_law : FnScope ["_law_script", "_law_k", "_law_pot_here", "_law_words", "_law_disks", "_law_pairs", "_law_turn", "_law_at"] ["_law_script"] (defScope s_law) := ⟨rfl, rfl, rfl, by decide +kernel, rfl, by decide +kernel, by decide +kernel⟩
abbrev s_D_init : Stmt := inClass (top 9) 0
theorem sc_D_init : FnScope ["self", "text"] ["self", "text"] (defScope s_D_init) := ⟨rfl, rfl, rfl, by decide +kernel, rfl, by decide +kernel, by decide +kernel⟩
abbrev s_D_write : Stmt := inClass (top 9) 1
theorem sc_D_write : FnScope ["self", "text"] ["self", "text"] (defScope s_D_write) := ⟨rfl, rfl, rfl, by decide +kernel, rfl, by decide +kernel, by decide +kernel⟩
abbrev s_D_flush : Stmt := inClass (top 9) 2
theorem sc_D_flush : FnScope ["self"] ["self"] (defScope s_D_flush) := ⟨rfl, rfl, rfl, by decide +kernel, rfl, by decide +kernel, by decide +kernel⟩
abbrev s_D_replace : Stmt := inClass (top 9) 3
theorem sc_D_replace : FnScope ["self", "text"] ["self", "text"] (defScope s_D_replace) := ⟨rfl, rfl, rfl, by decide +kernel, rfl, by decide +kernel, by decide +kernel⟩
abbrev s_D_text : Stmt := inClass (top 9) 4
theorem sc_D_text : FnScope ["self"] ["self"] (defScope s_D_text) := ⟨rfl, rfl, rfl, by decide +kernel, rfl, by decide +kernel, by decide +kernel⟩
abbrev s_D_flushed : Stmt := inClass (top 9) 5
theorem sc_D_flushed : FnScope ["self"] ["self"] (defScope s_D_flushed) := ⟨rfl, rfl, rfl, by decide +kernel, rfl, by decide +kernel, by decide +kernel⟩
abbrev s_D_crash : Stmt := inClass (top 9) 6
theorem sc_D_crash : FnScope ["self", "kept"] ["self", "kept"] (defScope s_D_crash) := ⟨rfl, rfl, rfl, by decide +kernel, rfl, by decide +kernel, by decide +kernel⟩
abbrev s_D_eq : Stmt := inClass (top 9) 7
theorem sc_D_eq : FnScope ["self", "other"] ["self", "other"] (defScope s_D_eq) := ⟨rfl, rfl, rfl, by decide +kernel, rfl, by decide +kernel, by decide +kernel⟩
abbrev s_D_len : Stmt := inClass (top 9) 8
theorem sc_D_len : FnScope ["self"] ["self"] (defScope s_D_len) := ⟨rfl, rfl, rfl, by decide +kernel, rfl, by decide +kernel, by decide +kernel⟩
def frees : List Str := (["isinstance", "len", "abs", "max", "min", "divmod", "repr", "int", "bool", "range", "super"] : List String).map Str.ofString
structure En (K : PySem.W.Frag) (mg : Str → Option Value) : Prop where
  fr : ∀ {x : Str}, frees.elem x = true → mg x = none
end K73
namespace K73
open PySem PySem.Spec PyProof.Rows L2 Hk
section
variable {P : Program} {w : World} {K : PySem.W.Frag} {mg : Str → Option Value} {base : Heap}
def spD1 (f : D → Bool) : Sp := fun vs H Q _ => ∃ v d, vs = [v] ∧ Dat Vo.non H v d ∧ ∀ H', Gr Vo.non H H' → Q (.bl (f d)) H'
theorem spD1_len {f : D → Bool} : ∀ vs H Q E, spD1 f vs H Q E → vs.length = 1 := fun vs H Q E h => by obtain ⟨v, d, rfl, _⟩ := h; rfl
theorem pu_D1 {f : D → Bool} {v : V} {d : D} {H : Hp} (h : Dat Vo.non H v d) : Pu (spD1 f) [v] H (.bl (f d)) := fun Q E k => ⟨v, d, rfl, h, k⟩
def intD : D → Bool
  | .int _ => true
  | _ => false
def momD : D → Bool
  | .int i => decide (0 ≤ i)
  | _ => false
theorem intD_isI (d : D) : (d.isI && !d.isB) = intD d := by cases d <;> rfl
theorem dat_intD {p : Vo} {H : Hp} {v : V} {d : D} (h : Dat p H v d) (e : intD d = true) : ∃ i, v = .int i ∧ d = .int i := by
  cases h with
  | int i => exact ⟨i, rfl, rfl⟩
  | _ => cases e
theorem momD_no {d : D} (h : intD d = false) : momD d = false := by cases d <;> first | rfl | cases h
theorem ok_is_integer (E : En K mg) (F : Df K mg "is_integer" s_is_integer) : Ca P w K mg base 1 "is_integer" (spD1 intD) := by
  refine ca_mk F sc_is_integer (fun _ _ _ _ _ _ us hl => match us, hl with | [_], _ => rfl) spD1_len (fun f cdv A outer s H vs Q E' hr h => ?_)
  obtain ⟨v, d, rfl, hd, q⟩ := h
  refine ⟨_, (pss_one (ps_ret (pe_and (pe_callB (isiU (K := K) rfl) (by rfl) (E.fr (x := "isinstance") (by decide +kernel)) (by decide +kernel) (pa_cons (pv 0) (pa_cons (pe_bltn (by rfl) (E.fr (x := "int") (by decide +kernel)) (by decide +kernel) (show RelV (.ty "int") (.type "int") from rfl)) pa_nil))) (pe_one (pe_not (pe_callB (isiU (K := K) rfl) (by rfl) (E.fr (x := "isinstance") (by decide +kernel)) (by decide +kernel) (pa_cons (pv 0) (pa_cons (pe_bltn (by rfl) (E.fr (x := "bool") (by decide +kernel)) (by decide +kernel) (show RelV (.ty "bool") (.type "bool") from rfl)) pa_nil)))))))), ?_⟩
  refine s_retx (Iv.non H) (x_to (x_and (x_isiD (e_vx rfl) hd (kit_i d)) fun _ => x_not (x_isiD (e_vx rfl) hd (kit_b d))) (w := .bl (intD d)) (by rw [intD_isI])) fun H2 _ g2 => q H2 g2
theorem ok_is_moment (E : En K mg) (F : Df K mg "is_moment" s_is_moment) (c_is_integer : Ca P w K mg base 1 "is_integer" (spD1 intD)) : Ca P w K mg base 2 "is_moment" (spD1 momD) := by
  refine ca_mk F sc_is_moment (fun _ _ _ _ _ _ us hl => match us, hl with | [_], _ => rfl) spD1_len (fun f cdv A outer s H vs Q E' hr h => ?_)
  obtain ⟨v, d, rfl, hd, q⟩ := h
  refine ⟨_, (pss_one (ps_ret (pe_and (pe_ca c_is_integer (hr.mono (by first | decide | omega)) (by rfl) (pa_cons (pv 0) pa_nil)) (pe_one (pe_cmpR op_ge (pv 0) pe_int (nomark _)))))), ?_⟩
  cases hI : intD d with
  | false =>
    refine s_retx (Iv.non H) (x_to (x_and (b := false) (x_call (a_cons (e_vx rfl) a_nil) fun H2 g2 => pu_D1 (hd.gr g2)) fun e => absurd e (by rw [hI]; decide)) (w := .bl (momD d)) (by rw [momD_no hI, hI]; rfl)) fun H2 _ g2 => q H2 g2
  | true =>
    obtain ⟨i, rfl, rfl⟩ := dat_intD hd hI
    refine s_retx (Iv.non H) (x_to (x_and (b := decide (0 ≤ i)) (x_call (a_cons (e_vx rfl) a_nil) fun H2 g2 => pu_D1 (hd.gr g2)) fun _ => x_ii (i := i) (j := 0) (e_vx rfl) e_cx) (w := .bl (momD (.int i))) (by rw [hI]; rfl)) fun H2 _ g2 => q H2 g2
end
end K73
namespace K73
open PySem PySem.Spec PyProof.Rows L2 Hk
section
variable {P : Program} {w : World} {K : PySem.W.Frag} {mg : Str → Option Value} {base : Heap}
theorem x_int1 {p : Vo} {σ : L2.St} {H : Hp} {ta : TE} {c : Int → Prop} (ha : Ev p ta σ H (si c)) : Ev p (tCB (fun xs H Q => (∃ i, xs = [.int i] ∧ Q (.int i) H) ∨ ∃ k : Bool, xs = [.bl k] ∧ Q (.int (if k then 1 else 0)) H) (tCons ta tNil)) σ H (si c) := e_cb (a_cons ha a_nil) fun vs H1 iv g os => by
  obtain ⟨v, ws, rfl, ⟨i, rfl, hi⟩, rfl⟩ := os
  exact rv iv ⟨i, rfl, hi⟩ fun Q q => .inl ⟨i, rfl, q⟩
theorem e_i2 {p : Vo} {σ : L2.St} {H : Hp} {ta tb : TE} {c d e : Int → Prop} {r : R2} (ha : Ev p ta σ H (si c)) (hb : Ev p tb σ H (si d)) (hr : ∀ i j H1, Iv p H1 → c i → d j → Rv p (r (.int i) (.int j)) H1 (si e)) : Ev p (tOp r ta tb) σ H (si e) :=
  e_op ha hb fun x y H1 iv g ⟨i, ei, hi⟩ ⟨j, ej, hj⟩ => by rw [ei, ej]; exact hr i j H1 iv hi hj
theorem r_mul {p : Vo} {i j : Int} {H1 : Hp} {e : Int → Prop} (iv : Iv p H1) (hc : CMul i j) (he : e (i * j)) : Rv p (rMulU (.int i) (.int j)) H1 (si e) := rv iv ⟨_, rfl, he⟩ fun Q q => .inl ⟨i, j, rfl, rfl, hc, q⟩
theorem r_add {p : Vo} {i j : Int} {H1 : Hp} {e : Int → Prop} (iv : Iv p H1) (he : e (i + j)) : Rv p (rAddU (.int i) (.int j)) H1 (si e) := rv iv ⟨_, rfl, he⟩ fun Q q => .inl ⟨i, j, rfl, rfl, q⟩
theorem r_ic {p : Vo} {c : Int → Int → Prop} {g : Int → Int → Int} {i j : Int} {H1 : Hp} {e : Int → Prop} (iv : Iv p H1) (hc : c i j) (he : e (g i j)) : Rv p (rI c (fun i j => .int (g i j)) (.int i) (.int j)) H1 (si e) := rv iv ⟨_, rfl, he⟩ fun Q q => ⟨i, j, rfl, rfl, hc, q⟩
theorem r_i0 {p : Vo} {g : Int → Int → Int} {i j : Int} {H1 : Hp} {e : Int → Prop} (iv : Iv p H1) (he : e (g i j)) : Rv p (rI0 (fun i j => .int (g i j)) (.int i) (.int j)) H1 (si e) := rv iv ⟨_, rfl, he⟩ fun Q q => ⟨i, j, rfl, rfl, q⟩
theorem e_ci {p : Vo} {σ : L2.St} {H : Hp} {i : Int} {c : Int → Prop} (h : c i) : Ev p (tC (.int i)) σ H (si c) := e_c ⟨i, rfl, h⟩
/-- % by a written positive number -/
theorem e_mod {p : Vo} {σ : L2.St} {H : Hp} {ta tb : TE} {m : Int} {c : Int → Prop} (ha : Ev p ta σ H (si c)) (hb : Ev p tb σ H (sx (.int m))) (h0 : 0 < m) : Ev p (tOp (rI (fun _ j => 0 < j) fun i j => .int (i % j)) ta tb) σ H (si fun i => 0 ≤ i ∧ i < m) :=
  e_i2 (d := fun j => j = m) ha (hb.imp fun v _ e => ⟨m, e, rfl⟩) fun i j H1 iv _ ej => by
    subst ej
    exact r_ic (g := fun i j => i % j) iv h0 ⟨Int.emod_nonneg _ (by omega), Int.emod_lt_of_pos _ h0⟩
theorem mul_small {i j : Int} (h0 : 0 ≤ i) (h1 : i < 2147483648) : CMul i j := .inl ⟨by omega, by omega⟩
theorem ok_draw (E : En K mg) (F : Df K mg "_law_draw" s__law_draw) : Ca P w K mg base 1 "_law_draw" spDraw := by
  refine ca_mk F sc__law_draw (fun _ _ _ _ _ _ us hl => match us, hl with | [_, _], _ => rfl) (fun vs H Q E h => by obtain ⟨p, a, _, _, ⟨n, rfl, _⟩, _⟩ := h; rfl) (fun f cdv A outer s H vs Q E' hr h => ?_)
  obtain ⟨p, a, hp, iv, ⟨n, rfl, n0, n1⟩, q⟩ := h
  obtain ⟨⟨x, y, hxy, x0, y0, y1⟩, hex⟩ := iv.pot a hp
  refine ⟨_, (pss_cons (ps_if (pt_cmpR op_gt (pe_ix (ixU (K := K) rfl) (pv 0) pe_int (fun _ _ => rfl)) pe_int (nomark _)) (pss_cons (ps_asg (pe_callB call_divmodS (by rfl) (E.fr (x := "divmod") (by decide +kernel)) (by decide +kernel) (pa_cons (pe_ix (ixU (K := K) rfl) (pv 0) pe_int (fun _ _ => rfl)) (pa_cons (pv 1) pa_nil))) (pg_tup rfl (pgs_cons (pg_sub (pv 0) pe_int set_list) (pgs_cons (pg_name (i := 2) sc__law_draw.nd rfl (Or.inl rfl)) pgs_nil))))
      (pss_one (ps_ret (pv 2)))) pss_nil)
      (pss_cons (ps_asg (pe_op op_mod (pe_callTy call_int1 (by rfl) (E.fr (x := "int") (by decide +kernel)) (by decide +kernel) (pa_cons (pe_op op_addU (pe_op op_mulU (pe_ix (ixU (K := K) rfl) (pv 0) pe_int (fun _ _ => rfl)) pe_int) pe_int) pa_nil)) pe_int) (pg_sub (pv 0) pe_int set_list))
      (pss_one (ps_ret (pe_op op_mod (pe_callTy call_int1 (by rfl) (E.fr (x := "int") (by decide +kernel)) (by decide +kernel) (pa_cons (pe_op op_fdiv (pe_op op_mod (pe_callTy call_int1 (by rfl) (E.fr (x := "int") (by decide +kernel)) (by decide +kernel) (pa_cons (pe_op op_mulU (pe_ix (ixU (K := K) rfl) (pv 0) pe_int (fun _ _ => rfl)) (pe_ix (ixU (K := K) rfl) (pv 0) pe_int (fun _ _ => rfl))) pa_nil)) pe_int) pe_int) pa_nil)) (pv 1)))))), ?_⟩
  have isq : ∀ {H0}, Gr Vo.non H H0 → ∀ v H1, Gr Vo.non H0 H1 → (sx (p := Vo.non) (.ref a)).P v H1 → ∃ a, v = .ref a ∧ (SqL K H1 a [.int x, .int y] ∨ SqT K H1 a [.int x, .int y]) := fun g0 v H1 g e => ⟨a, e, .inl (SqL.of ((g0.trans g) a _ (nv_non a) hxy))⟩
  -- behind all: the pot holds x', y'
  have fin : ∀ {H1 : Hp} (x' y' r : Int), Gr Vo.non H H1 → 0 ≤ x' → 0 ≤ y' → y' < 2147483648 → 0 ≤ r → r < n → ∀ {H2 : Hp}, Gr Vo.non (upd H1 a (.lst [.int x', .int y'])) H2 → Q (.int r) H2 := fun {H1} x' y' r g1 hx hy hy' h0 h1 {H2} g2 => by
    have po : Pot (upd H1 a (.lst [.int x', .int y'])) a := ⟨x', y', upd_same, hx, hy, hy'⟩
    have ga : Gr (Vo.of a) H (upd H1 a (.lst [.int x', .int y'])) := fun b o nb hb => by
      rw [upd_ne (show b ≠ a from fun e => nb.1 (by rw [e]; rfl))]
      exact g1 b o (nv_non b) hb
    exact q _ H2 ((iv.drawn hp po ga).grow g2) ((Gr.drawn hp ga).trans g2.pure) ⟨r, rfl, n, rfl, h0, h1⟩
  refine q_if (p := Vo.non) (B := fun b => b = decide ((0 : Int) < x)) (Iv.non H) (k_test (x_ii (i := x) (j := 0) (x_ixQ (xs := [.int x, .int y]) (e_vx rfl) (isq (Gr.refl H)) e_cx (atI_nat (j := 0) rfl)) e_cx)) (fun _ H1 i1 g1 => ?_) fun _ H1 i1 g1 => ?_
  · have hd : Ev Vo.non (tCB rDm (tCons (tOp (rIx K) (tVar 0) (tC (.int 0))) (tCons (tVar 1) tNil))) [some (.ref a), some (.int n), none] H1 (stx [.int (x / n), .int (x % n)]) := e_cb (a_cons (x_ixQ (xs := [.int x, .int y]) (e_vx rfl) (isq g1) e_cx (atI_nat (j := 0) rfl)) (a_cons (e_vx rfl) a_nil)) fun vs H2 iv2 g2 os => by
      obtain ⟨v, ws, rfl, e1, v2, ws2, rfl, e2, rfl⟩ := os
      exact rv_new iv2 (fun b nb hb i' g' => ⟨b, _, rfl, nb, upd_same, rfl⟩) fun Q q => ⟨x, n, by rw [show v = _ from e1, show v2 = _ from e2], ⟨n0, n1⟩, q⟩
    refine hd H1 i1 (Gr.refl H1) _ fun v H2 _ g2 hv => ?_
    obtain ⟨b, ws, rfl, _, hb, rfl⟩ := hv
    have g12 := g1.trans g2
    refine ⟨b, _, rfl, SqT.of hb, rfl, .int (x / n), [.int (x % n)], rfl, .ref a, rfl, a, [.int x, .int y], 0, 0, rfl, rfl, g12 a _ (nv_non a) hxy, rfl, .int (x % n), [], rfl, rfl, ?_⟩
    refine ⟨.int (x % n), rfl, ?_⟩
    exact fin (x / n) y (x % n) g12 (Int.ediv_nonneg x0 (by omega)) y0 y1 (Int.emod_nonneg _ (by omega)) (Int.emod_lt_of_pos _ n0) (Gr.refl _)
  · have h1 : Ev Vo.non (tOp (rI (fun _ j => 0 < j) fun i j => .int (i % j)) (tCB (fun xs H Q => (∃ i, xs = [.int i] ∧ Q (.int i) H) ∨ ∃ k : Bool, xs = [.bl k] ∧ Q (.int (if k then 1 else 0)) H) (tCons (tOp rAddU (tOp rMulU (tOp (rIx K) (tVar 0) (tC (.int 1))) (tC (.int 48271))) (tC (.int 10037))) tNil)) (tC (.int 2147483587))) [some (.ref a), some (.int n), none] H1 (si fun i => 0 ≤ i ∧ i < 2147483587) :=
      e_mod (c := fun _ => True) (x_int1 (e_i2 (c := fun _ => True) (d := fun _ => True) (e_i2 (c := fun i => i = y) (d := fun _ => True) ((x_ixQ (xs := [.int x, .int y]) (e_vx rfl) (isq g1) e_cx (atI_nat (j := 1) rfl)).imp fun v _ e => ⟨y, e, rfl⟩) (e_ci trivial) fun i j H2 iv ei _ => r_mul iv (mul_small (by rw [ei]; exact y0) (by rw [ei]; exact y1)) trivial) (e_ci trivial) fun i j H2 iv _ _ => r_add iv trivial)) e_cx (by decide)
    refine h1 H1 i1 (Gr.refl H1) _ fun v H2 _ g2 hv => ?_
    obtain ⟨y', rfl, z0, z1⟩ := hv
    have g12 := g1.trans g2
    refine ⟨.ref a, rfl, a, [.int x, .int y], 1, 1, rfl, rfl, g12 a _ (nv_non a) hxy, rfl, ?_⟩
    have isq2 : ∀ v H3, Gr Vo.non (upd H2 a (.lst [.int x, .int y'])) H3 → (sx (p := Vo.non) (.ref a)).P v H3 → ∃ a, v = .ref a ∧ (SqL K H3 a [.int x, .int y'] ∨ SqT K H3 a [.int x, .int y']) := fun v H3 g e => ⟨a, e, .inl (SqL.of (g a _ (nv_non a) upd_same))⟩
    have rd : ∀ {σ : L2.St}, σ[0]? = some (some (.ref a)) → Ev Vo.non (tOp (rIx K) (tVar 0) (tC (.int 1))) σ (upd H2 a (.lst [.int x, .int y'])) (si fun i => i = y') := fun hσ => (x_ixQ (xs := [.int x, .int y']) (e_vx hσ) isq2 e_cx (atI_nat (j := 1) rfl)).imp fun v _ e => ⟨y', e, rfl⟩
    refine s_ret (p := Vo.non) (A := si fun i => 0 ≤ i ∧ i < n) (Iv.non _) (e_mod (c := fun _ => True) (x_int1 (e_i2 (c := fun i => 0 ≤ i ∧ i < 2147483563) (d := fun j => j = 7) (e_mod (c := fun _ => True) (x_int1 (e_i2 (rd rfl) (rd rfl) fun i j H3 iv ei ej => r_mul iv (mul_small (by rw [ei]; exact z0) (by rw [ei]; omega)) trivial)) e_cx (by decide)) (e_ci rfl) fun i j H3 iv ei ej => r_ic (g := fun i j => i / j) iv (by rw [ej]; exact ⟨by decide, by decide⟩) trivial)) (e_vx rfl) n0) fun v H3 _ g3 hv => ?_
    obtain ⟨r, rfl, r0, r1⟩ := hv
    exact fin x y' r g12 x0 z0 (by omega) r0 r1 g3
end
end K73
namespace K73
open PySem PySem.Spec PyProof.Rows L2 Hk
def spPot (K : PySem.W.Frag) : Sp := fun vs H Q _ => ∃ (sc : Addr) (ns : List Int) (k : Int), vs = [.ref sc, .int k] ∧ SqL K H sc (ns.map V.int) ∧ 0 ≤ k ∧ k ≤ 1000 ∧ ∀ b H', Gr Vo.non H H' → H b = none → Pot H' b → Q (.ref b) H'
theorem bits34 {i : Int} (h0 : 0 ≤ i) (h1 : i < 10000000000) : Builtin.Int.intBits i ≤ 40 := by
  unfold Builtin.Int.intBits
  by_cases h : (i == 0) = true
  · rw [if_pos h]; decide
  · rw [if_neg h]
    have hn : i.natAbs ≠ 0 := fun z => h (by rw [Int.natAbs_eq_zero.mp z]; rfl)
    have := (Nat.log2_lt hn (k := 39)).mpr (by omega)
    omega
section
variable {P : Program} {w : World} {K : PySem.W.Frag} {mg : Str → Option Value} {base : Heap}
theorem x_abs {p : Vo} {σ : L2.St} {H : Hp} {ta : TE} {c : Int → Prop} {e : Int → Prop} (ha : Ev p ta σ H (si c)) (he : ∀ i, c i → e (if i < 0 then -i else i)) : Ev p (tCB (fun xs H Q => ∃ i, xs = [.int i] ∧ Q (.int (if i < 0 then -i else i)) H) (tCons ta tNil)) σ H (si e) := e_cb (a_cons ha a_nil) fun vs H1 iv g os => by
  obtain ⟨v, ws, rfl, ⟨i, rfl, hi⟩, rfl⟩ := os
  exact rv iv ⟨_, rfl, he i hi⟩ fun Q q => ⟨i, rfl, q⟩
theorem x_max {p : Vo} {σ : L2.St} {H : Hp} {ta tb : TE} {c d e : Int → Prop} (ha : Ev p ta σ H (si c)) (hb : Ev p tb σ H (si d)) (he : ∀ i j, c i → d j → e (if j > i then j else i)) : Ev p (tCB (fun xs H Q => ∃ i j, xs = [.int i, .int j] ∧ Q (.int (if j > i then j else i)) H) (tCons ta (tCons tb tNil))) σ H (si e) := e_cb (a_cons ha (a_cons hb a_nil)) fun vs H1 iv g os => by
  obtain ⟨v, ws, rfl, ⟨i, rfl, hi⟩, v2, ws2, rfl, ⟨j, rfl, hj⟩, rfl⟩ := os
  exact rv iv ⟨_, rfl, he i j hi hj⟩ fun Q q => ⟨i, j, rfl, q⟩
theorem pw18 : CPw 10 18 := ⟨by decide, by decide +kernel⟩
theorem e_sub {p : Vo} {σ : L2.St} {H : Hp} {ta tb : TE} {c d : Int → Prop} (ha : Ev p ta σ H (si c)) (hb : Ev p tb σ H (si d)) : Ev p (tOp (rI0 fun i j => .int (i - j)) ta tb) σ H (si fun _ => True) := e_i2 ha hb fun i j H1 iv _ _ => r_i0 (g := fun i j => i - j) iv trivial
theorem ok_pot (E : En K mg) (F : Df K mg "_law_pot" s__law_pot) : Ca P w K mg base 1 "_law_pot" (spPot K) := by
  refine ca_mk F sc__law_pot (fun _ _ _ _ _ _ us hl => match us, hl with | [_, _], _ => rfl) (fun vs H Q E h => by obtain ⟨sc, ns, k, rfl, _⟩ := h; rfl) (fun f cdv A outer s H vs Q E' hr h => ?_)
  obtain ⟨sc, ns, k, rfl, hS, k0, k1, q⟩ := h
  refine ⟨_, (pss_cons (ps_set (i := 2) sc__law_pot.nd rfl (Or.inl rfl) pe_int)
      (pss_cons (ps_if (pt_cmpR op_lt (pv 1) (pe_callB (lenU (K := K) rfl) (by rfl) (E.fr (x := "len") (by decide +kernel)) (by decide +kernel) (pa_cons (pv 0) pa_nil)) (nomark _)) (pss_one (ps_set (i := 2) sc__law_pot.nd rfl (Or.inl rfl) (pe_callB call_abs (by rfl) (E.fr (x := "abs") (by decide +kernel)) (by decide +kernel) (pa_cons (pe_ix (ixU (K := K) rfl) (pv 0) (pv 1) (fun _ _ => rfl)) pa_nil)))) pss_nil)
      (pss_one (ps_ret (pe_lst (pa_cons (pe_callB (call_max2 rfl) (by rfl) (E.fr (x := "max") (by decide +kernel)) (by decide +kernel) (pa_cons pe_int (pa_cons (pe_op op_sub (pv 2) (pe_op op_powW pe_int pe_int)) pa_nil))) (pa_cons (pe_op op_addU (pe_op op_mod (pe_callTy call_int1 (by rfl) (E.fr (x := "int") (by decide +kernel)) (by decide +kernel) (pa_cons (pe_op op_powW (pe_callTy call_int1 (by rfl) (E.fr (x := "int") (by decide +kernel)) (by decide +kernel) (pa_cons (pe_op op_addU (pe_op op_addU (pe_op op_mod (pe_callTy call_int1 (by rfl) (E.fr (x := "int") (by decide +kernel)) (by decide +kernel) (pa_cons (pv 2) pa_nil)) pe_int) (pe_op op_mulU pe_int (pv 1))) pe_int) pa_nil)) pe_int) pa_nil)) pe_int) pe_int) pa_nil))))))), ?_⟩
  have seq : ∀ {H1}, Gr Vo.non H H1 → SqL K H1 sc (ns.map V.int) := fun {H1} g => by
    rcases hS with (h | ⟨o, h⟩) | h
    · exact .inl (.inl (g _ _ (nv_non _) h))
    · exact .inl (.inr ⟨o, g _ _ (nv_non _) h⟩)
    · exact .inr h
  refine q_asgx (v := .int 0) (Iv.non H) e_cx fun H1 i1 g1 => ?_
  refine q_ifj (p := Vo.non) (B := fun b => b = decide (k < ((ns.map V.int).length : Int))) (fun σ' H' => ∃ c : Int, 0 ≤ c ∧ σ' = [some (.ref sc), some (.int k), some (.int c)] ∧ Gr Vo.non H H') i1 (k_test (x_ii (i := k) (j := ((ns.map V.int).length : Int)) (e_vx rfl) (x_lenQ (xs := ns.map V.int) (e_vx rfl) fun v H2 g e => ⟨sc, e, .inl (seq (g1.trans g))⟩))) (fun N hN b H2 i2 g2 => ?_) (fun _ H2 _ g2 => ⟨0, Int.le_refl 0, rfl, g1.trans g2⟩) ?_
  · have hk : k < ((ns.map V.int).length : Int) := of_decide_eq_true b.symm
    obtain ⟨v, hm, hat⟩ := at_in k0 hk
    obtain ⟨n, _, rfl⟩ := List.mem_map.mp hm
    refine s_asg (A := si fun i => 0 ≤ i) i2 (x_abs (c := fun _ => True) ((x_ixQ (xs := ns.map V.int) (e_vx rfl) (fun v H3 g e => ⟨sc, e, .inl (seq ((g1.trans g2).trans g))⟩) (e_vx rfl) hat).imp fun v _ e => ⟨n, e, trivial⟩) fun i _ => by
      show 0 ≤ (if i < 0 then -i else i)
      split <;> omega) fun v H3 i3 g3 hv => ?_
    obtain ⟨c, rfl, hc⟩ := hv
    exact hN _ _ ⟨c, hc, rfl, (g1.trans g2).trans g3⟩
  · rintro σ' H' ⟨c, hc, rfl, g⟩
    have e1 : Ev Vo.non (tCB (fun xs H Q => ∃ i j, xs = [.int i, .int j] ∧ Q (.int (if j > i then j else i)) H) (tCons (tC (.int 0)) (tCons (tOp (rI0 fun i j => .int (i - j)) (tVar 2) (tOp rPow (tC (.int 10)) (tC (.int 18)))) tNil))) [some (.ref sc), some (.int k), some (.int c)] H' (si fun i => 0 ≤ i) :=
      x_max (c := fun i => i = 0) (d := fun _ => True) (e_ci rfl) (e_sub (c := fun _ => True) (d := fun _ => True) (e_sxi (e_vx rfl) trivial) (e_i2 (c := fun i => i = 10) (d := fun j => j = 18) (e_ci rfl) (e_ci rfl) fun i j H1 iv ei ej => by rw [ei, ej]; exact r_ic (g := fun i j => i ^ j.toNat) iv pw18 trivial)) fun i j ei _ => by
        show 0 ≤ (if j > i then j else i)
        split <;> omega
    refine s_retN (p := Vo.non) (As := [si fun i => 0 ≤ i, si fun i => 0 ≤ i ∧ i < 2147483648]) (Iv.non H') (a_cons e1 (a_cons (e_addI (c := fun i => 0 ≤ i ∧ i < 2147483587) (d := fun j => j = 1) (e_mod (c := fun _ => True) (x_int1 (e_i2 (c := fun i => 0 ≤ i ∧ i < 10000000000) (d := fun j => j = 3) (e := fun _ => True) (x_int1 (e_addI (c := fun i => 0 ≤ i ∧ i < 2147483629 + 1013 * 1000) (d := fun j => j = 7) (e_addI (c := fun i => 0 ≤ i ∧ i < 2147483629) (d := fun i => 0 ≤ i ∧ i ≤ 1013 * 1000) (e_mod (c := fun _ => True) (x_int1 (e_sxi (e_vx rfl) trivial)) e_cx (by decide)) (e_i2 (c := fun i => i = 1013) (d := fun j => j = k) (e_ci rfl) (e_sxi (e_vx rfl) rfl) fun i j H1 iv ei ej => by
      rw [ei, ej]
      exact r_mul iv (.inl ⟨by decide, by decide⟩) ⟨by omega, by omega⟩) fun i j hi hj => by omega) (e_ci rfl) fun i j hi hj => by omega)) (e_ci rfl) fun i j H1 iv hi hj => by
        rw [hj]
        exact r_ic (g := fun i j => i ^ j.toNat) (e := fun _ => True) iv (show CPw i 3 from ⟨by decide, by have := bits34 hi.1 hi.2; omega⟩) trivial)) e_cx (by decide)) (e_ci rfl) fun i j hi hj => by omega) a_nil)) (by decide) fun vs b H1 i1 g1 hb os => ?_
    obtain ⟨v1, ws1, rfl, ⟨x, rfl, hx⟩, v2, ws2, rfl, ⟨y, rfl, hy⟩, rfl⟩ := os
    exact q b _ ((g.trans g1).trans (Gr.new hb)) ((g.trans g1).free (nv_non b) hb) ⟨x, y, upd_same, hx, hy⟩
end
end K73
namespace K73
open PySem PySem.Spec PyProof.Rows L2 Hk
/-! ### disks -/
def fsD (z : Str) (n : Int) : List (Str × V) := [(("_text" : Str), .str z), (("_flushed" : Str), .int n)]
abbrev dsk (C dx : Addr) (z : Str) (n : Int) : HO := .ins C dx (fsD z n)
structure Dk (K : PySem.W.Frag) (mg : Str → Option Value) (C : Addr) : Prop where
  cls : Cls K C
  nT : NoAttr K C "_text"
  nF : NoAttr K C "_flushed"
  ca : PySem.W.findIn K (.ref C) "__class__" = some (some (.builtin "object.__class__"))
  cn : PySem.W.specialIn K (.builtin "object.__class__") "__get__" = some (some (.builtin "getset_descriptor.__get__"))
  ct : PySem.W.takesIn K (.builtin "object.__class__") = some true
  cm : PySem.W.mroIn K C (.type "object") = some true
  kD : PySem.W.kitOne K (.ref C) (.ref C) = some true
  kS : PySem.W.kitOne K (.type "str") (.ref C) = some false
  kN : PySem.W.kitOne K (.type "NoneType") (.ref C) = some false
  gD : mg "Disk" = some (.ref C)
theorem n1 : ¬ (("_text" : Str) = "_flushed") := by decide +kernel
theorem n2 : (("_flushed" : Str) == "_text") = false := by decide +kernel
theorem fsL (z : Str) (n : Int) : (fsD z n).length < 1000 := by show 2 < 1000; decide
theorem putT (z z' : Str) (n : Int) : putF "_text" (.str z') (fsD z n) = fsD z' n := by
  unfold fsD
  simp [putF]
theorem putFl (z : Str) (n n' : Int) : putF "_flushed" (.int n') (fsD z n) = fsD z n' := by
  unfold fsD
  simp [putF, show ¬ (Str.ofString "_text" = Str.ofString "_flushed") from n1]
theorem put2 (z : Str) (n : Int) : putF "_flushed" (.int n) (putF "_text" (.str z) []) = fsD z n := by
  unfold fsD
  simp [putF, show ¬ (Str.ofString "_text" = Str.ofString "_flushed") from n1]
theorem lookT (z : Str) (n : Int) : (fsD z n).lookup ("_text" : Str) = some (.str z) := by
  unfold fsD
  simp [List.lookup]
theorem lookF (z : Str) (n : Int) : (fsD z n).lookup ("_flushed" : Str) = some (.int n) := by
  unfold fsD
  simp [List.lookup, show (Str.ofString "_flushed" == Str.ofString "_text") = false from n2]
theorem upd2 {H : Hp} {x : Addr} {o o' : HO} : upd (upd H x o) x o' = upd H x o' := by
  funext a
  by_cases h : a = x
  · rw [h, upd_same, upd_same]
  · rw [upd_ne h, upd_ne h, upd_ne h]
def rdS : V → V → Hp → VK → Prop := fun x y H Q => ∃ i j, x = .str i ∧ y = .str j ∧ i.length + j.length ≤ sizeLine ∧ Q (.str (i ++ j)) H
theorem in_addS {X : Cx} : InOp X .Add rdS := fun pins s σ H x y u v Q I rx ry h => iop_add_str pins s σ H x y u v Q I rx ry h
def spInit (C : Addr) : Sp := fun vs H Q _ => ∃ x dx z, vs = [.ref x, .str z] ∧ H x = some (.ins C dx []) ∧ z.length ≤ 100000 ∧ Q .non (upd H x (dsk C dx z z.length))
def spWrite (C : Addr) : Sp := fun vs H Q _ => ∃ a dx z n y, vs = [.ref a, .str y] ∧ H a = some (dsk C dx z n) ∧ z.length + y.length ≤ 100000 ∧ Q .non (upd H a (dsk C dx (z ++ y) n))
def spFlush (C : Addr) : Sp := fun vs H Q _ => ∃ a dx z n, vs = [.ref a] ∧ H a = some (dsk C dx z n) ∧ z.length ≤ 100000 ∧ Q .non (upd H a (dsk C dx z z.length))
def spReplace (C : Addr) : Sp := fun vs H Q _ => ∃ a dx z n y, vs = [.ref a, .str y] ∧ H a = some (dsk C dx z n) ∧ y.length ≤ 100000 ∧ Q .non (upd H a (dsk C dx y y.length))
def spText (C : Addr) : Sp := fun vs H Q _ => ∃ a dx z n, vs = [.ref a] ∧ H a = some (dsk C dx z n) ∧ Q (.str z) H
def spFlushed (C : Addr) : Sp := fun vs H Q _ => ∃ a dx z n, vs = [.ref a] ∧ H a = some (dsk C dx z n) ∧ Q (.int n) H
def spLen (C : Addr) : Sp := fun vs H Q _ => ∃ a dx z n, vs = [.ref a] ∧ H a = some (dsk C dx z n) ∧ z.length ≤ 100000 ∧ Q (.int z.length) H
def spEqD (C : Addr) : Sp := fun vs H Q _ => ∃ a dx z n y, vs = [.ref a, y] ∧ H a = some (dsk C dx z n) ∧
  ((∃ b dy z' n', y = .ref b ∧ H b = some (dsk C dy z' n') ∧ Q (.bl (decide (V.str z = V.str z') && decide (V.int n = V.int n'))) H) ∨ (((∃ s, y = .str s) ∨ y = .non) ∧ Q (.bl false) H))
section
variable {P : Program} {w : World} {K : PySem.W.Frag} {mg : Str → Option Value} {base : Heap} {C f : Addr} {fd : FuncData}
theorem ok_init (E : En K mg) (D : Dk K mg C) {dvs : List V} (F : FunD K "__init__" "Disk.__init__" (defArgs s_D_init) (defBody s_D_init) (defScope s_D_init) dvs [] f fd) : FnOk P w K mg base CX0 1 f fd ["self", "text"] (spInit C) := by
  refine F.ok sc_D_init (fun vs H Q E h => by obtain ⟨x, dx, z, rfl, _⟩ := h; rfl) (fun cdv A outer s H vs Q E' hr h => ?_)
  obtain ⟨x, dx, z, rfl, hx, hz, q⟩ := h
  refine ⟨_, (pss_cons (ps_fld (pv 0) (pv 1) (by rfl))
      (pss_one (ps_fld (pv 0) (pe_callB (lenU (K := K) rfl) (by rfl) (E.fr (x := "len") (by decide +kernel)) (by decide +kernel) (pa_cons (pv 1) pa_nil)) (by rfl)))), ?_⟩
  refine ⟨.str z, rfl, .ref x, rfl, x, C, dx, [], rfl, hx, D.cls, D.nT, by decide, ?_⟩
  refine ⟨.str z, rfl, .str z, z.length, rfl, ⟨big hz, rfl⟩, .ref x, rfl, x, C, dx, _, rfl, upd_same, D.cls, D.nF, by show 1 < 1000; decide, ?_⟩
  rw [upd2, put2]
  exact q
theorem ok_write (E : En K mg) (D : Dk K mg C) (F : FunD K "write" "Disk.write" (defArgs s_D_write) (defBody s_D_write) (defScope s_D_write) [] [] f fd) : FnOk P w K mg base CX0 1 f fd ["self", "text"] (spWrite C) := by
  refine F.ok sc_D_write (fun vs H Q E h => by obtain ⟨a, dx, z, n, y, rfl, _⟩ := h; rfl) (fun cdv A outer s H vs Q E' hr h => ?_)
  obtain ⟨a, dx, z, n, y, rfl, ha, hz, q⟩ := h
  refine ⟨_, (pss_one (ps_fldaug (pv 0) (pv 1) in_addS)), ?_⟩
  refine ⟨.ref a, rfl, a, C, dx, _, .str z, rfl, ha, D.cls, D.nT, lookT z n, .str y, rfl, z, y, rfl, rfl, big hz, dx, _, ha, fsL _ _, ?_⟩
  rw [putT]
  exact q
theorem ok_flush (E : En K mg) (D : Dk K mg C) (F : FunD K "flush" "Disk.flush" (defArgs s_D_flush) (defBody s_D_flush) (defScope s_D_flush) [] [] f fd) : FnOk P w K mg base CX0 1 f fd ["self"] (spFlush C) := by
  refine F.ok sc_D_flush (fun vs H Q E h => by obtain ⟨a, dx, z, n, rfl, _⟩ := h; rfl) (fun cdv A outer s H vs Q E' hr h => ?_)
  obtain ⟨a, dx, z, n, rfl, ha, hz, q⟩ := h
  refine ⟨_, (pss_one (ps_fld (pv 0) (pe_callB (lenU (K := K) rfl) (by rfl) (E.fr (x := "len") (by decide +kernel)) (by decide +kernel) (pa_cons (pe_fld (pv 0) (by rfl)) pa_nil)) (by rfl))), ?_⟩
  refine ⟨.ref a, rfl, a, C, dx, _, .str z, rfl, ha, D.cls, D.nT, lookT z n, .str z, z.length, rfl, ⟨big hz, rfl⟩, .ref a, rfl, a, C, dx, _, rfl, ha, D.cls, D.nF, fsL _ _, ?_⟩
  rw [putFl]
  exact q
theorem ok_replace (E : En K mg) (D : Dk K mg C) (F : FunD K "replace" "Disk.replace" (defArgs s_D_replace) (defBody s_D_replace) (defScope s_D_replace) [] [] f fd) : FnOk P w K mg base CX0 1 f fd ["self", "text"] (spReplace C) := by
  refine F.ok sc_D_replace (fun vs H Q E h => by obtain ⟨a, dx, z, n, y, rfl, _⟩ := h; rfl) (fun cdv A outer s H vs Q E' hr h => ?_)
  obtain ⟨a, dx, z, n, y, rfl, ha, hz, q⟩ := h
  refine ⟨_, (pss_cons (ps_fld (pv 0) (pv 1) (by rfl))
      (pss_one (ps_fld (pv 0) (pe_callB (lenU (K := K) rfl) (by rfl) (E.fr (x := "len") (by decide +kernel)) (by decide +kernel) (pa_cons (pv 1) pa_nil)) (by rfl)))), ?_⟩
  refine ⟨.str y, rfl, .ref a, rfl, a, C, dx, _, rfl, ha, D.cls, D.nT, fsL _ _, ?_⟩
  rw [putT]
  refine ⟨.str y, rfl, .str y, y.length, rfl, ⟨big hz, rfl⟩, .ref a, rfl, a, C, dx, _, rfl, upd_same, D.cls, D.nF, fsL _ _, ?_⟩
  rw [upd2, putFl]
  exact q
theorem ok_text (E : En K mg) (D : Dk K mg C) (F : FunD K "text" "Disk.text" (defArgs s_D_text) (defBody s_D_text) (defScope s_D_text) [] [] f fd) : FnOk P w K mg base CX0 1 f fd ["self"] (spText C) := by
  refine F.ok sc_D_text (fun vs H Q E h => by obtain ⟨a, dx, z, n, rfl, _⟩ := h; rfl) (fun cdv A outer s H vs Q E' hr h => ?_)
  obtain ⟨a, dx, z, n, rfl, ha, q⟩ := h
  exact ⟨_, (pss_one (ps_ret (pe_fld (pv 0) (by rfl)))), ⟨.ref a, rfl, a, C, dx, _, .str z, rfl, ha, D.cls, D.nT, lookT z n, q⟩⟩
theorem ok_flushed (E : En K mg) (D : Dk K mg C) (F : FunD K "flushed" "Disk.flushed" (defArgs s_D_flushed) (defBody s_D_flushed) (defScope s_D_flushed) [] [] f fd) : FnOk P w K mg base CX0 1 f fd ["self"] (spFlushed C) := by
  refine F.ok sc_D_flushed (fun vs H Q E h => by obtain ⟨a, dx, z, n, rfl, _⟩ := h; rfl) (fun cdv A outer s H vs Q E' hr h => ?_)
  obtain ⟨a, dx, z, n, rfl, ha, q⟩ := h
  exact ⟨_, (pss_one (ps_ret (pe_fld (pv 0) (by rfl)))), ⟨.ref a, rfl, a, C, dx, _, .int n, rfl, ha, D.cls, D.nF, lookF z n, q⟩⟩
theorem ok_len (E : En K mg) (D : Dk K mg C) (F : FunD K "__len__" "Disk.__len__" (defArgs s_D_len) (defBody s_D_len) (defScope s_D_len) [] [] f fd) : FnOk P w K mg base CX0 1 f fd ["self"] (spLen C) := by
  refine F.ok sc_D_len (fun vs H Q E h => by obtain ⟨a, dx, z, n, rfl, _⟩ := h; rfl) (fun cdv A outer s H vs Q E' hr h => ?_)
  obtain ⟨a, dx, z, n, rfl, ha, hz, q⟩ := h
  exact ⟨_, (pss_one (ps_ret (pe_callB (lenU (K := K) rfl) (by rfl) (E.fr (x := "len") (by decide +kernel)) (by decide +kernel) (pa_cons (pe_fld (pv 0) (by rfl)) pa_nil)))), ⟨.ref a, rfl, a, C, dx, _, .str z, rfl, ha, D.cls, D.nT, lookT z n, .str z, z.length, rfl, ⟨big hz, rfl⟩, q⟩⟩
theorem ok_eq (E : En K mg) (D : Dk K mg C) (F : FunD K "__eq__" "Disk.__eq__" (defArgs s_D_eq) (defBody s_D_eq) (defScope s_D_eq) [] [] f fd) : FnOk P w K mg base CX0 1 f fd ["self", "other"] (spEqD C) := by
  refine F.ok sc_D_eq (fun vs H Q E h => by obtain ⟨a, dx, z, n, y, rfl, _⟩ := h; rfl) (fun cdv A outer s H vs Q E' hr h => ?_)
  obtain ⟨a, dx, z, n, y, rfl, ha, h⟩ := h
  refine ⟨_, (pss_one (ps_ret (pe_and (pe_callB (isiU (K := K) rfl) (by rfl) (E.fr (x := "isinstance") (by decide +kernel)) (by decide +kernel) (pa_cons (pv 1) (pa_cons (pe_gc (v := .ref C) (by rfl) ⟨_, D.gD, rfl⟩) pa_nil))) (pe_and (pe_cmpR op_eq (pe_fld (pv 0) (by rfl)) (pe_fld (pv 1) (by rfl)) (nomark _)) (pe_one (pe_cmpR op_eq (pe_fld (pv 0) (by rfl)) (pe_fld (pv 1) (by rfl)) (nomark _))))))), ?_⟩
  rcases h with ⟨b, dy, z', n', rfl, hb, q⟩ | ⟨h, q⟩
  · refine ⟨.ref b, rfl, .ref b, .ref C, .ref C, .ref C, true, rfl, .own C, .base (.ins hb D.cls D.ca D.cn D.ct D.cm), D.kD, true, rfl, ?_⟩
    show (_ : Prop)
    refine ⟨.ref a, rfl, a, C, dx, _, .str z, rfl, ha, D.cls, D.nT, lookT z n, .ref b, rfl, b, C, dy, _, .str z', rfl, hb, D.cls, D.nT, lookT z' n', rfl, decide (V.str z = V.str z'), rfl, ?_⟩
    cases hd : decide (V.str z = V.str z') with
    | false =>
      rw [hd] at q
      exact q
    | true =>
      rw [hd, Bool.true_and] at q
      exact ⟨.ref a, rfl, a, C, dx, _, .int n, rfl, ha, D.cls, D.nF, lookF z n, .ref b, rfl, b, C, dy, _, .int n', rfl, hb, D.cls, D.nF, lookF z' n', rfl, q⟩
  · rcases h with ⟨s, rfl⟩ | rfl
    · exact ⟨.str s, rfl, .str s, .ref C, .type "str", .ref C, false, rfl, .own C, .base (.str s), D.kS, false, rfl, q⟩
    · exact ⟨.non, rfl, .non, .ref C, .type "NoneType", .ref C, false, rfl, .own C, .base .non, D.kN, false, rfl, q⟩
end
end K73
namespace K73
open PySem PySem.Spec PyProof.Rows L2 Hk
/-! ### crash -/
def Rs (C : Addr) (v : V) (H : Hp) (E : XK) : Prop := ∀ H' d, Gr Vo.non H H' → H' d = none → E (.ref C) (some d) (upd H' d (.xd [(("value" : Str), v)]))
/-- how many characters stay -/
def keptD (z : Str) (n : Int) : D → Option Int
  | .int k => if 0 ≤ k ∧ ¬ (z.length : Int) - n < k then some k else none
  | _ => none
theorem keptD_int (z : Str) (n k : Int) : keptD z n (.int k) = if 0 ≤ k ∧ ¬ (z.length : Int) - n < k then some k else none := rfl
def spCrash (C CE : Addr) : Sp := fun vs H Q E => ∃ a dx z n v d, vs = [.ref a, v] ∧ H a = some (dsk C dx z n) ∧ z.length ≤ 100000 ∧ Dat Vo.non H v d ∧
  (∀ k, keptD z n d = some k → ∀ H' x dy, Gr Vo.non H H' → H x = none → H' x = some (dsk C dy (cutS z none (some (n + k))) (cutS z none (some (n + k))).length) → Q (.ref x) H') ∧ (keptD z n d = none → Rs CE v H E)
structure Er (P : Program) (K : PySem.W.Frag) (mg : Str → Option Value) (C fI : Addr) : Prop where
  T : PySem.HkE.ErrTxt K P.main.file C fI
  m : mg "InvalidCount" = some (.ref C)
  hs : mg "super" = none
  top : (P.main.scope.names.lookup ("super" : Str)).isSome = false
section
variable {P : Program} {w : World} {K : PySem.W.Frag} {mg : Str → Option Value} {base : Heap} {C CE fI f : Addr} {fd : FuncData}
structure M0 (P : Program) (w : World) (K : PySem.W.Frag) (mg : Str → Option Value) (base : Heap) (C : Addr) : Prop where
  make : MkX P w K mg base 1 "Disk" C [] (spInit C)
/-- raise InvalidCount(x) -/
theorem s_raiseE {p : Vo} {σ : L2.St} {H : Hp} {D : Ends} {te : TE} {v : V} {W : WX} (iv : Iv p H) (h : Ev p te σ H (sx v)) (k : ∀ H1 d, Gr p H H1 → H1 d = none → W (.ref C) (some d) σ (upd H1 d (.xd [(("value" : Str), v)]))) : tRaiseE C W (tCons te tNil) D σ H :=
  h H iv (Gr.refl H) _ fun w H1 i1 g1 e => ⟨w, rfl, fun d hd => by
    rw [show w = v from e]
    exact k H1 d g1 hd⟩
theorem cutS_len (s : Str) (lo hi : Option Int) : (cutS s lo hi).length ≤ s.length := by
  unfold cutS
  show (((s.cps.toList.drop _).take _).toArray).size ≤ _
  rw [List.size_toArray, List.length_take, List.length_drop, Array.length_toList]
  exact Nat.le_trans (Nat.min_le_right _ _) (Nat.sub_le _ _)
theorem x_slSE {p : Vo} {σ : L2.St} {H : Hp} {ta : TE} {s : Str} {tl th : TO} {lo hi : Option Int} (ha : Ev p ta σ H (sx (.str s))) (hl : ∀ H (Q : Option Int → Hp → Prop), Q lo H → tl σ H Q) (hh : ∀ H2, Iv p H2 → Gr p H H2 → ∀ (Q : Option Int → Hp → Prop), Q hi H2 → th σ H2 Q) (hz : s.length ≤ sizeLine) : Ev p (tSl (rSlU K) ta tl th) σ H (sx (.str (cutS s lo hi))) :=
  fun H1 i g Q q => ha H1 i g _ fun v H2 i2 g2 e => hl H2 _ (hh H2 i2 (g.trans g2) _ (.inr ⟨s, e, hz, q _ H2 i2 g2 rfl⟩))
theorem e_fld {p : Vo} {σ : L2.St} {H : Hp} {te : TE} {a dx : Addr} {fs : List (Str × V)} {x : Str} {v : V} (h : Ev p te σ H (sx (.ref a))) (ha : ∀ H1, Iv p H1 → Gr p H H1 → H1 a = some (.ins C dx fs)) (c : Cls K C) (n : NoAttr K C x) (l : fs.lookup x = some v) : Ev p (tFld K te x) σ H (sx v) := fun H1 i g Q q =>
  h H1 i g _ fun u H2 i2 g2 e => ⟨a, C, dx, fs, v, e, ha H2 i2 (g.trans g2), c, n, l, q v H2 i2 g2 rfl⟩
theorem ok_crash (E : En K mg) (D : Dk K mg C) (R : Er P K mg CE fI) (M : M0 P w K mg base C) (c_is_moment : Ca P w K mg base 2 "is_moment" (spD1 momD)) {dvs : List V} (F : FunD K "crash" "Disk.crash" (defArgs s_D_crash) (defBody s_D_crash) (defScope s_D_crash) dvs [] f fd) :
    FnOk P w K mg base (L2.CX P w) 3 f fd ["self", "kept"] (spCrash C CE) := by
  refine F.ok sc_D_crash (fun vs H Q E h => by obtain ⟨a, dx, z, n, v, d, rfl, _⟩ := h; rfl) (fun cdv A outer s H vs Q E' hr h => ?_)
  obtain ⟨a, dx, z, n, v, d, rfl, ha, hz, hd, q, qr⟩ := h
  refine ⟨_, (pss_cons (ps_if (PW.pt (pw_or (pt_not (pt_val (pe_ca c_is_moment (hr.mono (by first | decide | omega)) (by rfl) (pa_cons (pv 1) pa_nil)))) (pw_or1 (pt_cmpR op_gt (pv 1) (pe_op op_sub (pe_callB (lenU (K := K) rfl) (by rfl) (E.fr (x := "len") (by decide +kernel)) (by decide +kernel) (pa_cons (pe_fld (pv 0) (by rfl)) pa_nil)) (pe_fld (pv 0) (by rfl))) (nomark _))))) (pss_one (ps_raiseE (k := 2) rfl R.T R.hs R.top (hr.mono (by first | decide | omega)) (takes_of rfl rfl rfl rfl) (pa_cons (pv 1) pa_nil) (by rfl) R.m)) pss_nil)
      (pss_one (ps_ret (pe_mkx M.make (hr.mono (by first | decide | omega)) (by rfl) (pa_cons (pe_slice (slU (K := K) rfl) (pe_fld (pv 0) (by rfl)) po_none (po_some (pe_op op_addU (pe_fld (pv 0) (by rfl)) (pv 1)))) pa_nil))))), ?_⟩
  have hf : ∀ {H1}, Gr Vo.non H H1 → H1 a = some (dsk C dx z n) := fun g => g a _ (nv_non a) ha
  refine q_if (p := Vo.non) (B := fun b => b = (keptD z n d).isNone) (Iv.non H) ?tst (fun e H1 i1 g1 => ?_) fun e H1 i1 g1 => ?_
  case tst =>
    cases hm : momD d with
    | false =>
      refine k_to (k_or (b := true) (k_not (k_b (b := momD d) (x_call (a_cons (e_vx rfl) a_nil) fun H2 g2 => pu_D1 (hd.gr g2)))) fun e => absurd e (by rw [hm]; decide)) ?_
      rw [hm]
      cases d with
      | int k =>
        have hk : ¬ (0 ≤ k) := of_decide_eq_false hm
        rw [keptD_int, if_neg fun h => hk h.1]
        rfl
      | _ => rfl
    | true =>
      cases hd with
      | int k =>
        have hk : 0 ≤ k := of_decide_eq_true hm
        refine k_to (k_or (b := decide ((z.length : Int) - n < k)) (k_not (k_b (b := momD (.int k)) (x_call (a_cons (e_vx rfl) a_nil) fun H2 g2 => pu_D1 (.int k)))) fun _ => k_test (x_ii (i := k) (j := (z.length : Int) - n) (e_vx rfl) (x_ii (i := (z.length : Int)) (j := n) (x_len (e_fld (e_vx rfl) (fun H1 _ g => hf g) D.cls D.nT (lookT z n)) (big hz)) (e_fld (e_vx rfl) (fun H1 _ g => hf g) D.cls D.nF (lookF z n))))) ?_
        rw [hm]
        rw [keptD_int]
        by_cases h2 : (z.length : Int) - n < k
        · rw [if_neg fun h => h.2 h2, decide_eq_true h2]
          rfl
        · rw [if_pos ⟨hk, h2⟩, decide_eq_false h2]
          rfl
      | _ => cases hm
  · exact s_raiseE (p := Vo.non) (v := v) i1 (e_vx rfl) fun H2 d2 g2 h2 => qr (Option.isNone_iff_eq_none.mp e.symm) H2 d2 (g1.trans g2) h2
  · obtain ⟨k, hk⟩ : ∃ k, keptD z n d = some k := by
      cases hh : keptD z n d with
      | some k => exact ⟨k, rfl⟩
      | none => rw [hh] at e; cases e
    cases hd with
    | int k' =>
      have hk' : k' = k := by
        rw [keptD_int] at hk
        split at hk
        · exact Option.some.inj hk
        · cases hk
      subst hk'
      have hs : Ev Vo.non (tSl (rSlU K) (tFld K (tVar 0) "_text") tNoPart (tPart (tOp rAddU (tFld K (tVar 0) "_flushed") (tVar 1)))) [some (.ref a), some (.int k')] H1 (sx (.str (cutS z none (some (n + k'))))) :=
        x_slSE (e_fld (e_vx rfl) (fun H2 _ g => hf (g1.trans g)) D.cls D.nT (lookT z n)) (fun _ _ q => o_none q) (fun H2 _ g2 Q' q' => ⟨.ref a, rfl, a, C, dx, _, .int n, rfl, hf (g1.trans g2), D.cls, D.nF, lookF z n, .int k', rfl, .inl ⟨n, k', rfl, rfl, ⟨_, rfl, q'⟩⟩⟩) (big hz)
      refine hs H1 i1 (Gr.refl H1) _ fun v2 H2 i2 g2 e2 => ?_
      intro x dy hx hdy hne
      refine ⟨x, dy, cutS z none (some (n + k')), by rw [show v2 = _ from e2]; rfl, upd_same, Nat.le_trans (cutS_len _ _ _) hz, rfl, ?_⟩
      have g12 := g1.trans g2
      have hx0 : H x = none := g12.free (nv_non x) hx
      have g3 : Gr Vo.non H (upd (upd H2 dy (.own x)) x (.ins C dy [])) := (g12.trans (Gr.new hdy)).trans (Gr.new (by rw [upd_ne hne.symm]; exact hx))
      exact q k' hk _ x dy (g3.mut hx0) hx0 upd_same
    | _ => cases hk
end
end K73
namespace Hk
open PySem PySem.NumText PyProof PyProof.Rows L2 TL
/-! ### numbers, written and read -/
def numStr (i : Int) : Str := Str.ofString (toString i)
def DigS (s : Str) : Prop := AllDigits s.cps.toList ∧ s.cps.toList ≠ []
def valS (s : Str) : Nat := digitsVal s.cps.toList
/-- no 0 ahead of another sign -/
def Canon (l : List Nat) : Prop := l = [48] ∨ l.headD 0 ≠ 48
theorem back_of : ∀ {cs : List Nat}, AllDigits cs → (cs.map Char.ofNat).map Char.toNat = cs
  | [], _ => rfl
  | c :: cs, h => by
    have hc := h.head
    have e : (Char.ofNat c).toNat = c := by
      have : ∀ d : Nat, d < 10 → (Char.ofNat (48 + d)).toNat = 48 + d := by decide
      have := this (c - 48) (by omega)
      rwa [show 48 + (c - 48) = c by omega] at this
    rw [List.map_cons, List.map_cons, e, back_of h.tail]
theorem num_val {cs : List Nat} (h : AllDigits cs) : (numStr ((digitsVal cs : Nat) : Int)).cps.toList = match cs.dropWhile (· == 48) with
    | [] => [48]
    | c :: r => c :: r := by
  unfold numStr
  rw [PySem.W.KIN.signs_num, toDigits_all cs h]
  have hs : ∀ {l : List Nat}, AllDigits l → AllDigits (l.dropWhile (· == 48)) := fun {l} hl c hc => hl c ((List.dropWhile_suffix _).subset hc)
  have := hs h
  revert this
  cases cs.dropWhile (· == 48) with
  | nil => intro _; rfl
  | cons c r => intro h'; exact back_of h'
theorem num_canon {cs : List Nat} (h : AllDigits cs) (hn : cs ≠ []) : (numStr ((digitsVal cs : Nat) : Int)).cps.toList = cs ↔ Canon cs := by
  rw [num_val h]
  cases cs with
  | nil => exact absurd rfl hn
  | cons c r =>
    by_cases e : c = 48
    · subst e
      rw [List.dropWhile_cons, if_pos (by decide)]
      constructor
      · intro q
        left
        cases hr : r.dropWhile (· == 48) with
        | nil =>
          rw [hr] at q
          exact q.symm
        | cons d t =>
          rw [hr] at q
          have h1 : (d :: t).length ≤ r.length := by rw [← hr]; exact (List.dropWhile_suffix _).length_le
          have h2 := congrArg List.length (show d :: t = 48 :: r from q)
          rw [List.length_cons (a := 48)] at h2
          omega
      · intro q
        rcases q with q | q
        · have : r = [] := (List.cons.inj q).2
          rw [this]; rfl
        · exact absurd rfl q
    · rw [List.dropWhile_cons, if_neg (by rw [beq_iff_eq]; exact e)]
      exact ⟨fun _ => .inr e, fun _ => rfl⟩
theorem num_eq {s : Str} (h : DigS s) : numStr ((valS s : Nat) : Int) = s ↔ Canon s.cps.toList := by
  rw [← num_canon h.1 h.2]
  exact ⟨fun e => by rw [show digitsVal s.cps.toList = valS s from rfl, e], fun e => ext_tl e⟩
theorem int_val {s : Str} (h : DigS s) (hz : s.length ≤ 4300) : intText? s = some ((valS s : Nat) : Int) := intText_digits h.1 h.2 hz
theorem canon_one {c : Nat} : Canon [c] := by
  by_cases e : c = 48
  · exact .inl (by rw [e])
  · exact .inr e
theorem val_one {c : Nat} (h : 48 ≤ c ∧ c ≤ 57) : digitsVal [c] = c - 48 := by show 0 * 10 + (c - 48) = c - 48; omega
theorem val_lt : ∀ {l : List Nat}, AllDigits l → digitsVal l < 10 ^ l.length := fun {l} h => by
  have key : ∀ (l : List Nat), AllDigits l → ∀ a, l.foldl (fun acc c => acc * 10 + (c - 48)) a < (a + 1) * 10 ^ l.length := by
    intro l
    induction l with
    | nil => intro _ a; show a < (a + 1) * 10 ^ 0; omega
    | cons c r ih =>
      intro h a
      have hc := h.head
      have := ih h.tail (a * 10 + (c - 48))
      refine Nat.lt_of_lt_of_le this ?_
      rw [List.length_cons, Nat.pow_succ]
      have : a * 10 + (c - 48) + 1 ≤ (a + 1) * 10 := by omega
      calc (a * 10 + (c - 48) + 1) * 10 ^ r.length ≤ (a + 1) * 10 * 10 ^ r.length := Nat.mul_le_mul_right _ this
        _ = (a + 1) * (10 ^ r.length * 10) := by rw [Nat.mul_assoc, Nat.mul_comm 10]
  have := key l h 0
  rw [Nat.zero_add, Nat.one_mul] at this
  exact this
/-- a number below ten, written -/
theorem num_one {n : Int} (h0 : 0 ≤ n) (h1 : n ≤ 9) : (numStr n).cps.toList = [48 + n.toNat] := by
  obtain ⟨m, rfl⟩ := Int.eq_ofNat_of_zero_le h0
  show tl (Str.ofString (toString ((m : Nat) : Int))) = _
  rw [tl_num, numL_lt (by omega)]
  rfl
/-- a number's signs are digits, and stand for it -/
theorem num_digs (m : Nat) : DigS (numStr (m : Int)) := by
  have e : (numStr (m : Int)).cps.toList = (Nat.toDigits 10 m).map Char.toNat := PySem.W.KIN.signs_num m
  refine ⟨fun c hc => ?_, ?_⟩
  · rw [e] at hc
    obtain ⟨ch, hch, e⟩ := List.mem_map.mp hc
    have r := digit_range (Nat.isDigit_of_mem_toDigits (by decide) (by decide) hch)
    rw [← e]
    exact r
  · rw [e]
    intro q
    have := List.map_eq_nil_iff.mp q
    exact absurd this (Nat.toDigits_ne_nil)
theorem num_back (m : Nat) : valS (numStr (m : Int)) = m := by
  unfold valS
  rw [show (numStr (m : Int)).cps.toList = (Nat.toDigits 10 m).map Char.toNat from PySem.W.KIN.signs_num m]
  exact PySem.W.KIN.val_back m
theorem num_canon' (m : Nat) : Canon (numStr (m : Int)).cps.toList := (num_eq (num_digs m)).mp (by rw [num_back])
/-! ### parts of a text -/
theorem par_back {S : List Nat} : ∀ {l acc a b : List Nat}, par S acc l = some (a, b) → acc ++ l = a ++ S ++ b
  | [], acc, a, b, h => by cases h
  | c :: r, acc, a, b, h => by
    cases hp : pre S (c :: r) with
    | true =>
      rw [par_hit hp] at h
      have e := Option.some.inj h
      have e1 : acc = a := congrArg Prod.fst e
      have e2 : (c :: r).drop S.length = b := congrArg Prod.snd e
      have ht : (c :: r).take S.length = S := eq_of_beq hp
      have := List.take_append_drop S.length (c :: r)
      rw [ht, e2] at this
      rw [← this, e1, List.append_assoc]
    | false =>
      rw [par_miss hp] at h
      have := par_back h
      rw [List.append_assoc] at this
      exact this
theorem part_back {w y : Str} (hy : tl y ≠ []) (h : (Txt.partition w y).2.2.cps.toList ≠ []) : w = (Txt.partition w y).1 ++ y ++ (Txt.partition w y).2.2 := by
  have e := partition_par w y hy
  cases hp : par (tl y) [] (tl w) with
  | none =>
    rw [hp] at e
    rw [e] at h
    exact absurd rfl h
  | some q =>
    obtain ⟨a, b⟩ := q
    rw [hp] at e
    have := par_back hp
    rw [List.nil_append] at this
    rw [e]
    refine ext_tl ?_
    rw [tl_append, tl_append]
    exact this
end Hk
namespace Hk
open PySem PySem.Spec PyProof.Rows L2
/-! ### repr of a flat list of numbers, truths, texts; of other data -/
inductive FlatE : V → PyData → Prop where
  | bl (b : Bool) : FlatE (.bl b) (.bool b)
  | str (x : Str) : FlatE (.str x) (.str x)
  | int (i : Int) : FlatE (.int i) (.int i)
theorem flatE_reads {h : Heap} {v : V} {u : Value} {d : PyData} (f : FlatE v d) (r : RelV v u) : Reads h u d [] := by
  cases f with
  | bl b => cases r; exact .bool b
  | str x => obtain ⟨t, rfl⟩ := r; exact .str x t
  | int i => obtain ⟨t, rfl⟩ := r; exact .int i t
theorem flatE_readsAll {h : Heap} : ∀ {vs : List V} {us : List Value} {ds : List PyData}, Paired FlatE vs ds → Vals vs us → ReadsAll h us ds []
  | _, _, _, .nil, .nil => .nil
  | _, _, _, .cons f k, .cons r q => .cons (as := []) (bs := []) (flatE_reads f r) (flatE_readsAll k q)
theorem flatE_show {v : V} {d : PyData} (f : FlatE v d) : d.hasDict = false ∧ d.depth = 0 := by
  cases f <;> refine ⟨by simp only [PyData.hasDict], by simp only [PyData.depth]⟩
theorem flatE_showAll : ∀ {vs : List V} {ds : List PyData}, Paired FlatE vs ds → PyData.hasDictAll ds = false ∧ PyData.depthAll ds = 0
  | _, _, .nil => ⟨by simp only [PyData.hasDictAll], by simp only [PyData.depthAll]⟩
  | _, _, .cons f k => by
    obtain ⟨a2, a3⟩ := flatE_show f
    obtain ⟨b2, b3⟩ := flatE_showAll k
    refine ⟨by simp only [PyData.hasDictAll, a2, b2, Bool.or_self], by simp only [PyData.depthAll, a3, b3] <;> rfl⟩
def rReprF (K : PySem.W.Frag) : List V → Hp → VK → Prop := fun xs H Q => ∃ (a : Addr) (vs : List V) (ds : List PyData), xs = [.ref a] ∧ Paired FlatE vs ds ∧ SqL K H a vs ∧ PyData.showableAll ds = true ∧ (PyData.list ds).shown.length ≤ sizeLine ∧ Q (.str (PyData.list ds).shown) H
def rReprZ (K : PySem.W.Frag) : List V → Hp → VK → Prop := fun xs H Q => rReprF K xs H Q ∨ rReprR xs H Q
section
variable {X : Cx} {K : PySem.W.Frag}
theorem call_reprF (hg : X.A.guards = some []) (hu : X.A.units + 64 < cLine) : CallR X (.builtin "repr") (rReprF X.K) := by
  intro pins s σ H xs us Q I r h
  obtain ⟨a, vs, ds, rfl, f, hl, hs, hz, q⟩ := h
  obtain ⟨u, rfl, rx⟩ := vals1 r
  cases (show u = Value.ref a from rx)
  obtain ⟨w2, w3⟩ := flatE_showAll f
  obtain ⟨its, rv, ⟨o, n, e1, e2, _, e4⟩, _⟩ := I.list hl
  have rd : Reads s.heap (.ref a) (.list ds) (a :: []) := .list e1 e2 e4 (by simpa using flatE_readsAll f rv)
  refine repr_of_reads' rd (by simp only [PyData.showable, hs]) (PyData.noDict_hsm (by simp only [PyData.hasDict, w2])) hg ?_ (fun _ _ e => e) (fun h' t tk hk => ?_) hz
  · have e : (PyData.list ds).depth = 1 := by
      simp only [PyData.depth, w3]
    omega
  · exact ⟨.str _, H, I.kept hk, ⟨_, rfl⟩, q⟩
theorem call_reprZ (h : X.K = K) (hg : X.A.guards = some []) (hu : X.A.units + 64 < cLine) : CallR X (.builtin "repr") (rReprZ K) := by
  subst h
  intro pins s σ H xs us Q I r h
  rcases h with h | h
  · exact call_reprF hg hu pins s σ H xs us Q I r h
  · exact call_reprR hg hu pins s σ H xs us Q I r h
end
section
variable {p : Vo} {σ : L2.St} {H : Hp} {ta : TE} {K : PySem.W.Frag}
theorem g_str {s : Str} {N : Nat} (h : ∀ c ∈ s.cps.toList, c < 16 ^ 8) (hz : s.length ≤ N) : Gd N 0 (.str s) := by
  refine ⟨?_, ?_, ?_, ?_⟩
  · simp only [PyData.leavesShort]
    exact List.all_eq_true.mpr fun c hc => decide_eq_true (h c hc)
  · simp only [PyData.showable]
  · simp only [PyData.bulk]; exact hz
  · simp only [PyData.depth]; omega
theorem g_int {i : Int} (h0 : i.natAbs.log2 < 1920) (h1 : (numStr i).length ≤ 40) : Gd 0 0 (.int i) := by
  refine ⟨?_, ?_, ?_, ?_⟩
  · simp only [PyData.leavesShort, PyData.shown]
    exact decide_eq_true h1
  · simp only [PyData.showable]
    exact decide_eq_true h0
  · simp only [PyData.bulk]; omega
  · simp only [PyData.depth]; omega
theorem g_bool (b : Bool) : Gd 0 0 (.bool b) := ⟨by simp only [PyData.leavesShort], by simp only [PyData.showable], by simp only [PyData.bulk]; omega, by simp only [PyData.depth]; omega⟩
theorem g_none : Gd 0 0 .none := ⟨by simp only [PyData.leavesShort], by simp only [PyData.showable], by simp only [PyData.bulk]; omega, by simp only [PyData.depth]; omega⟩
theorem x_reprF {N k : Nat} {vs : List V} {ds : List PyData} (ha : Ev p ta σ H (slx vs)) (f : Paired FlatE vs ds) (g : Gds N k ds) (hN : N ≤ 300000) : Ev p (tCB (rReprZ K) (tCons ta tNil)) σ H (sx (.str (PyData.list ds).shown)) := e_cb (a_cons ha a_nil) fun ws H1 iv g1 os => by
  obtain ⟨v, us, rfl, ⟨b, ws, rfl, nb, hb, rfl⟩, rfl⟩ := os
  exact rv iv rfl fun Q q => .inl ⟨b, _, ds, rfl, f, SqL.of hb, shs_all fun d hd => (g.al d hd).2.1, (Gds.lst g).fits hN, q⟩
theorem x_reprG {N k : Nat} {v : V} {d : PyData} (ha : Ev p ta σ H (sx v)) (hv : ∀ H1, Gr p H H1 → Rp p H1 v d) (hg : Gd N k d) (hN : N ≤ 300000) (hk : k ≤ 40) : Ev p (tCB (rReprZ K) (tCons ta tNil)) σ H (sx (.str d.shown)) := e_cb (a_cons ha a_nil) fun vs H1 iv g os => by
  obtain ⟨w, us, rfl, rfl, rfl⟩ := os
  exact rv iv rfl fun Q q => .inr ⟨_, d, rfl, (hv H1 g).non', hg.sh, Nat.le_trans hg.dp hk, hg.fits hN, q⟩
end
end Hk
namespace K73
open PySem PySem.Spec PyProof.Rows L2 Hk
/-! ### what is known of the class, its methods; a disk looked at -/
structure Ms (P : Program) (w : World) (K : PySem.W.Frag) (mg : Str → Option Value) (base : Heap) (C CE : Addr) : Prop where
  cls : Cls K C
  text0 : MtX CX0 P w K mg base 1 C "text" [] (spText C)
  flushed : PrX P w K mg base 1 C "flushed" (spFlushed C)
  len : LnX P w K mg base 1 C (spLen C)
  eq : EqX P w K mg base 1 C (spEqD C)
  write : MtX CX0 P w K mg base 1 C "write" [] (spWrite C)
  writeK : MtK CX0 P w K mg base 1 C "write" "text" (spWrite C)
  flush0 : MtX CX0 P w K mg base 1 C "flush" [] (spFlush C)
  replace : MtX CX0 P w K mg base 1 C "replace" [] (spReplace C)
  make : MkX P w K mg base 1 "Disk" C [] (spInit C)
  make0 : MkX P w K mg base 1 "Disk" C [.str ""] (spInit C)
  makeK : MkK P w K mg base 1 "Disk" C "text" (spInit C)
  crash : MtX (L2.CX P w) P w K mg base 3 C "crash" [] (spCrash C CE)
  crash0 : MtX (L2.CX P w) P w K mg base 3 C "crash" [.int 0] (spCrash C CE)
  crashK : MtK (L2.CX P w) P w K mg base 3 C "crash" "kept" (spCrash C CE)
/-- a text that can be shown -/
structure GT (N : Nat) (z : Str) : Prop where
  ln : z.length ≤ N
  ch : ∀ c ∈ z.cps.toList, c < 1114112
theorem GT.mono {N M : Nat} {z : Str} (h : GT N z) (hm : N ≤ M) : GT M z := ⟨Nat.le_trans h.ln hm, h.ch⟩
theorem GT.app {N M : Nat} {x y : Str} (h : GT N x) (k : GT M y) : GT (N + M) (x ++ y) := by
  refine ⟨by rw [Str.length_append]; exact Nat.add_le_add h.ln k.ln, fun c hc => ?_⟩
  rw [show (x ++ y).cps.toList = x.cps.toList ++ y.cps.toList from TL.tl_append x y] at hc
  exact (List.mem_append.mp hc).elim (h.ch c) (k.ch c)
theorem GT.cut {N : Nat} {x : Str} (h : GT N x) (lo hi : Option Int) : GT N (cutS x lo hi) := by
  refine ⟨Nat.le_trans (cutS_len _ _ _) h.ln, fun c hc => ?_⟩
  unfold cutS at hc
  exact h.ch c (List.mem_of_mem_drop (List.mem_of_mem_take hc))
theorem GT.gd {N : Nat} {z : Str} (h : GT N z) : Gd N 0 (.str z) := g_str (fun c hc => Nat.lt_of_lt_of_le (h.ch c hc) (by decide)) h.ln
theorem GT.ok {N : Nat} {z : Str} (h : GT N z) : PyData.strOk z = true := by
  unfold PyData.strOk
  rw [← Array.all_toList]
  exact List.all_eq_true.mpr fun c hc => decide_eq_true (h.ch c hc)
theorem numStr_len10 {n : Int} (h0 : 0 ≤ n) (h1 : n ≤ 10 ^ 9) : (numStr n).length ≤ 40 := by
  obtain ⟨m, rfl⟩ := Int.eq_ofNat_of_zero_le h0
  rw [TL.len_tl]
  show ((numStr ((m : Nat) : Int)).cps.toList).length ≤ 40
  rw [show (numStr ((m : Nat) : Int)).cps.toList = (Nat.toDigits 10 m).map Char.toNat from PySem.W.KIN.signs_num m, List.length_map]
  exact Nat.le_trans (PyProof.Rows.digits10_le (k := 10) (by decide) (by omega)) (by decide)
theorem log_small {n : Int} (h0 : 0 ≤ n) (h1 : n ≤ 10 ^ 9) : n.natAbs.log2 < 1920 := by
  by_cases hn : n.natAbs = 0
  · rw [hn]; decide
  · exact Nat.lt_of_lt_of_le ((Nat.log2_lt hn (k := 40)).mpr (by omega)) (by decide)
theorem g_len {n : Nat} (h : n ≤ 100000) : Gd 0 0 (.int (n : Int)) := g_int (log_small (by omega) (by omega)) (numStr_len10 (by omega) (by omega))
theorem lookN {m : Str} {z : Str} {n : Int} (h1 : (m == ("_text" : Str)) = false) (h2 : (m == ("_flushed" : Str)) = false) : (fsD z n).lookup m = none := by
  unfold fsD
  simp [List.lookup, show (m == Str.ofString "_text") = false from h1, show (m == Str.ofString "_flushed") = false from h2]
section
variable {C CE : Addr} {p : Vo} {σ : L2.St} {H : Hp} {ta tb : TE} {K : PySem.W.Frag} {a dx : Addr} {z : Str} {n : Int}
/-- where the disk stands, and stays -/
abbrev At (p : Vo) (H : Hp) (a : Addr) (o : HO) : Prop := ∀ H1, Iv p H1 → Gr p H H1 → H1 a = some o
theorem x_text (ha : Ev p ta σ H (sx (.ref a))) (hd : At p H a (dsk C dx z n)) : Ev p (tMeth C "text" (spText C) [] E0 ta tNil) σ H (sx (.str z)) := fun H1 i g Q q =>
  ha H1 i g _ fun v H2 i2 g2 e => ⟨a, dx, _, e, hd H2 i2 (g.trans g2), lookN (by decide +kernel) (by decide +kernel), a, dx, z, n, by rw [show v = _ from e]; rfl, hd H2 i2 (g.trans g2), q _ H2 i2 g2 rfl⟩
theorem x_flushed (ha : Ev p ta σ H (sx (.ref a))) (hd : At p H a (dsk C dx z n)) : Ev p (tProp C (spFlushed C) [] E0 ta) σ H (sx (.int n)) := fun H1 i g Q q =>
  ha H1 i g _ fun v H2 i2 g2 e => ⟨a, dx, _, e, hd H2 i2 (g.trans g2), a, dx, z, n, rfl, hd H2 i2 (g.trans g2), q _ H2 i2 g2 rfl⟩
theorem x_lenD (ha : Ev p ta σ H (sx (.ref a))) (hd : At p H a (dsk C dx z n)) (hz : z.length ≤ 100000) : Ev p (tCB (rLenO C (spLen C)) (tCons ta tNil)) σ H (sx (.int z.length)) := fun H1 i g Q q =>
  ha H1 i g _ fun v H2 i2 g2 e => ⟨a, dx, _, by rw [show v = _ from e], hd H2 i2 (g.trans g2), a, dx, z, n, rfl, hd H2 i2 (g.trans g2), hz, z.length, rfl, ⟨by omega, by omega⟩, q _ H2 i2 g2 rfl⟩
theorem x_eqD {b dy : Addr} {z' : Str} {n' : Int} (ha : Ev p ta σ H (sx (.ref a))) (hb : Ev p tb σ H (sx (.ref b))) (hd : At p H a (dsk C dx z n)) (hd' : At p H b (dsk C dy z' n')) :
    Ev p (tOp (rEqO C (spEqD C)) ta tb) σ H (sx (.bl (decide (V.str z = V.str z') && decide (V.int n = V.int n')))) :=
  e_op ha hb fun x y H1 iv g ex ey => rv iv rfl fun Q q => ⟨a, dx, _, ex, hd H1 iv g, .inl ⟨b, dy, _, ey, hd' H1 iv g⟩, a, dx, z, n, y, by rw [show x = _ from ex], hd H1 iv g, .inl ⟨b, dy, z', n', ey, hd' H1 iv g, q⟩⟩
theorem x_eqO {v : V} (ha : Ev p ta σ H (sx (.ref a))) (hb : Ev p tb σ H (sx v)) (hd : At p H a (dsk C dx z n)) (hv : (∃ s, v = .str s) ∨ v = .non) :
    Ev p (tOp (rEqO C (spEqD C)) ta tb) σ H (sx (.bl false)) :=
  e_op ha hb fun x y H1 iv g ex ey => rv iv rfl fun Q q => ⟨a, dx, _, ex, hd H1 iv g, .inr (by rw [show y = _ from ey]; exact hv), a, dx, z, n, y, by rw [show x = _ from ex], hd H1 iv g, .inr ⟨by rw [show y = _ from ey]; exact hv, q⟩⟩
end
def spTold (C : Addr) : Sp := fun vs H Q _ => ∃ d dx q a b, vs = [.ref d, .ref q] ∧ H d = some (dsk C dx (a ++ b) a.length) ∧ H q = some (.lst [.str a, .str b]) ∧ GT 5000 a ∧ GT 5000 b ∧ ∀ H', Gr Vo.non H H' → Q (.bl true) H'
section
variable {P : Program} {w : World} {K : PySem.W.Frag} {mg : Str → Option Value} {base : Heap} {C CE fI f : Addr} {fd : FuncData}
theorem pu_told {H : Hp} {d dx q : Addr} {a b : Str} (hd : H d = some (dsk C dx (a ++ b) a.length)) (hq : H q = some (.lst [.str a, .str b])) (ga : GT 5000 a) (gb : GT 5000 b) : Pu (spTold C) [.ref d, .ref q] H (.bl true) :=
  fun Q E k => ⟨d, dx, q, a, b, rfl, hd, hq, ga, gb, k⟩
theorem ok_told (E : En K mg) (M : Ms P w K mg base C CE) (F : Df K mg "_law_told" s__law_told) : CaG P w K mg base 3 "_law_told" (spTold C) := by
  refine caG_mk F sc__law_told (fun _ _ _ _ _ _ us hl => match us, hl with | [_, _], _ => rfl) (fun vs H Q E h => by obtain ⟨d, dx, q, a, b, rfl, _⟩ := h; rfl) (fun f cdv A outer s H vs Q E' hg hr h => ?_)
  obtain ⟨d, dx, q, a, b, rfl, hd, hq, ga, gb, k⟩ := h
  have hu64 : (A.deeper (envOfC "_law_told" (defScope s__law_told) s.heap.objs.size f cdv)).units + 64 < cLine := by
    have := hr.un
    omega
  refine ⟨_, (pss_cons (ps_set (i := 2) sc__law_told.nd rfl (Or.inl rfl) (pe_lst (pa_cons (pe_mx0 M.text0 M.cls (hr.mono (by first | decide | omega)) pass0 (pv 0)) (pa_cons (pe_px M.flushed M.cls (hr.mono (by first | decide | omega)) (pv 0)) (pa_cons (pe_callB (call_lenO M.len (hr.mono (by first | decide | omega))) (by rfl) (E.fr (x := "len") (by decide +kernel)) (by decide +kernel) (pa_cons (pv 0) pa_nil)) pa_nil)))))
      (pss_one (ps_ret (pe_cmpR op_eq (pe_callB (call_reprZ (K := K) rfl hg hu64) (by rfl) (E.fr (x := "repr") (by decide +kernel)) (by decide +kernel) (pa_cons (pv 2) pa_nil)) (pe_callB (call_reprZ (K := K) rfl hg hu64) (by rfl) (E.fr (x := "repr") (by decide +kernel)) (by decide +kernel) (pa_cons (pe_lst (pa_cons (pe_op op_addU (pe_ix (ixU (K := K) rfl) (pv 1) pe_int (fun _ _ => rfl)) (pe_ix (ixU (K := K) rfl) (pv 1) pe_int (fun _ _ => rfl))) (pa_cons (pe_callB (lenU (K := K) rfl) (by rfl) (E.fr (x := "len") (by decide +kernel)) (by decide +kernel) (pa_cons (pe_ix (ixU (K := K) rfl) (pv 1) pe_int (fun _ _ => rfl)) pa_nil)) (pa_cons (pe_op op_addU (pe_callB (lenU (K := K) rfl) (by rfl) (E.fr (x := "len") (by decide +kernel)) (by decide +kernel) (pa_cons (pe_ix (ixU (K := K) rfl) (pv 1) pe_int (fun _ _ => rfl)) pa_nil)) (pe_callB (lenU (K := K) rfl) (by rfl) (E.fr (x := "len") (by decide +kernel)) (by decide +kernel) (pa_cons (pe_ix (ixU (K := K) rfl) (pv 1) pe_int (fun _ _ => rfl)) pa_nil))) pa_nil)))) pa_nil)) (nomark _))))), ?_⟩
  have hl : (a ++ b).length = a.length + b.length := Str.length_append a b
  have la := ga.ln
  have lb := gb.ln
  have ad : ∀ {H1}, Gr Vo.non H H1 → At Vo.non H1 d (dsk C dx (a ++ b) a.length) := fun g H2 _ g2 => (g.trans g2) d _ (nv_non d) hd
  have sq : ∀ {H1}, Gr Vo.non H H1 → ∀ v H2, Gr Vo.non H1 H2 → (sx (p := Vo.non) (.ref q)).P v H2 → ∃ x, v = .ref x ∧ (SqL K H2 x [.str a, .str b] ∨ SqT K H2 x [.str a, .str b]) := fun g v H2 g2 e => ⟨q, e, .inl (SqL.of ((g.trans g2) q _ (nv_non q) hq))⟩
  have gds : Gds 10003 0 [.str (a ++ b), .int (a.length : Int), .int ((a ++ b).length : Int)] :=
    (Gds.cons (ga.app gb).gd (Gds.cons (g_len (n := a.length) (by omega)) (Gds.cons (g_len (n := (a ++ b).length) (by omega)) Gds.nil))).mono (by omega) (Nat.le_refl _)
  have fl : Paired FlatE [V.str (a ++ b), .int (a.length : Int), .int ((a ++ b).length : Int)] [.str (a ++ b), .int (a.length : Int), .int ((a ++ b).length : Int)] := .cons (.str _) (.cons (.int _) (.cons (.int _) .nil))
  refine q_asg (A := slx [.str (a ++ b), .int (a.length : Int), .int ((a ++ b).length : Int)]) (Iv.non H) (x_lst (ws := [V.str (a ++ b), .int (a.length : Int), .int ((a ++ b).length : Int)]) (a_cons (x_text (e_vx rfl) (ad (Gr.refl H))) (a_cons (x_flushed (e_vx rfl) (ad (Gr.refl H))) (a_cons (x_lenD (e_vx rfl) (ad (Gr.refl H)) (by omega)) a_nil))) (by rw [sizeLine_eq]; exact Nat.le_of_ble_eq_true rfl)) fun v2 H1 i1 g1 hv => ?_
  have p0 : ∀ {σ : L2.St}, σ[1]? = some (some (.ref q)) → Ev Vo.non (tOp (rIx K) (tVar 1) (tC (.int 0))) σ H1 (sx (.str a)) := fun h => x_ixQ (xs := [.str a, .str b]) (e_vx h) (sq g1) e_cx (atI_nat (j := 0) rfl)
  have p1 : ∀ {σ : L2.St}, σ[1]? = some (some (.ref q)) → Ev Vo.non (tOp (rIx K) (tVar 1) (tC (.int 1))) σ H1 (sx (.str b)) := fun h => x_ixQ (xs := [.str a, .str b]) (e_vx h) (sq g1) e_cx (atI_nat (j := 1) rfl)
  refine s_retx i1 (x_to (x_eq (x_reprF (e_var rfl hv) fl gds (by decide)) (x_reprF (x_lst (ws := [V.str (a ++ b), .int (a.length : Int), .int ((a.length : Int) + (b.length : Int))]) (a_cons (x_addS (p0 rfl) (p1 rfl) (big (by omega))) (a_cons (x_len (p0 rfl) (big (by omega))) (a_cons (x_addI (x_len (p0 rfl) (big (by omega))) (x_len (p1 rfl) (big (by omega)))) a_nil))) (by rw [sizeLine_eq]; exact Nat.le_of_ble_eq_true rfl)) (ds := [.str (a ++ b), .int (a.length : Int), .int ((a ++ b).length : Int)]) (by rw [hl, Int.natCast_add] at fl ⊢; exact fl) gds (by decide)) rfl) (w := .bl true) (by rw [decide_eq_true rfl])) fun H2 _ g2 => k H2 (g1.trans g2)
end
end K73
namespace K73
open PySem PySem.Spec PyProof.Rows L2 Hk
/-! ### what a crash refuses -/
structure Ex (P : Program) (K : PySem.W.Frag) (mg : Str → Option Value) (C fI A5 A6 : Addr) : Prop where
  er : Er P K mg C fI
  ec : ExcC K C
  exm : PySem.W.exmOne K (.ref C) (.ref C) = some true
  m5 : mg "HeldoverError" = some (.ref A5)
  m6 : mg "MissingError" = some (.ref A6)
  k5 : PySem.W.kitOne K (.ref C) (.ref A5) = some true
  k6 : PySem.W.kitOne K (.ref C) (.ref A6) = some false
/-- flat lists by == -/
theorem flatE_py {p : Vo} {H : Hp} : ∀ {vs : List V} {ds : List PyData}, Paired FlatE vs ds → vs.length = ds.length ∧ ∀ (i : Nat) (v : V) (d : PyData), vs[i]? = some v → ds[i]? = some d → Py p H v d
  | _, _, .nil => ⟨rfl, fun i v d h => by cases h⟩
  | _, _, .cons f k => by
    obtain ⟨l, r⟩ := flatE_py (p := p) (H := H) k
    refine ⟨by rw [List.length_cons, List.length_cons, l], fun i v d h1 h2 => ?_⟩
    cases i with
    | zero =>
      rw [← Option.some.inj h1, ← Option.some.inj h2]
      cases f with
      | bl b => exact .bl b
      | str x => exact .str x
      | int i => exact .int i
    | succ i => exact r i v d h1 h2
theorem x_eqXs {p : Vo} {σ : L2.St} {H : Hp} {ta tb : TE} {vs ws : List V} {ds es : List PyData} (ha : Ev p ta σ H (slx vs)) (hb : Ev p tb σ H (slx ws)) (h1 : Paired FlatE vs ds) (h2 : Paired FlatE ws es) (s1 : SeqAt.shaped (.list ds) = true) (s2 : SeqAt.shaped (.list es) = true) :
    Ev p (tOp (rEqX true) ta tb) σ H (sx (.bl (PyData.eqvAll ds es))) :=
  e_op ha hb fun u v H1 iv g ⟨b, us, e1, nb, hb1, eu⟩ ⟨b', us', e2, nb', hb2, eu'⟩ => rv iv rfl fun Q q => by
    subst eu eu'
    exact ⟨ds, es, ⟨b, _, e1, hb1, (flatE_py (p := Vo.non) (H := H1) h1).1, (flatE_py h1).2⟩, ⟨b', _, e2, hb2, (flatE_py (p := Vo.non) (H := H1) h2).1, (flatE_py h2).2⟩, s1, s2, q⟩
theorem shaped3 {s : Str} (h : PyData.strOk s = true) (a b : Bool) : SeqAt.shaped (.list [.str s, .bool a, .bool b]) = true := by
  unfold SeqAt.shaped
  simp only [PyData.canLay0, PyData.canLayAll0, h, Bool.and_true, Bool.true_and, PyData.depth, PyData.depthAll]
  rfl
def tsR (K : PySem.W.Frag) (C A5 A6 a dd : Addr) : TS :=
  tAsg (tLst (tCons (tCB (rReprZ K) (tCons (tValE C a (.ref C) (some dd) (tVar 3)) tNil)) (tCons (tCB (rIsE1 K C a dd) (tCons (tVar 3) (tCons (tC (.ref A5)) tNil))) (tCons (tCB (rIsE1 K C a dd) (tCons (tVar 3) (tCons (tC (.ref A6)) tNil))) tNil)))) (gName 2)
def tsE (K : PySem.W.Frag) (C A5 A6 : Addr) : Addr → Value → Option Addr → TS := fun a cls d D σ H => ∃ dd, cls = .ref C ∧ d = some dd ∧ tsR K C A5 A6 a dd D σ H
/-- how it is shown -/
def Shw (K : PySem.W.Frag) (H : Hp) (v : V) (s : Str) : Prop := PyData.strOk s = true ∧ ∀ H', Gr Vo.non H H' → ∀ Q : VK, Q (.str s) H' → rReprZ K [v] H' Q
theorem x_shw {p : Vo} {σ : L2.St} {H : Hp} {ta : TE} {K : PySem.W.Frag} {v : V} {s : Str} (ha : Ev p ta σ H (sx v)) (hs : ∀ H1, Gr p H H1 → ∀ Q : VK, Q (.str s) H1 → rReprZ K [v] H1 Q) : Ev p (tCB (rReprZ K) (tCons ta tNil)) σ H (sx (.str s)) := e_cb (a_cons ha a_nil) fun vs H1 iv g os => by
  obtain ⟨w, us, rfl, rfl, rfl⟩ := os
  exact rv iv rfl fun Q q => hs H1 g Q q
def spRefused (K : PySem.W.Frag) (C : Addr) : Sp := fun vs H Q _ => ∃ d dx z n v dd s, vs = [.ref d, v] ∧ H d = some (dsk C dx z n) ∧ z.length ≤ 100000 ∧ Dat Vo.non H v dd ∧ keptD z n dd = none ∧ Shw K H v s ∧ ∀ H', Gr Vo.non H H' → Q (.bl true) H'
section
variable {P : Program} {w : World} {K : PySem.W.Frag} {mg : Str → Option Value} {base : Heap} {C CE fI A5 A6 f : Addr} {fd : FuncData}
theorem ok_refused (E : En K mg) (M : Ms P w K mg base C CE) (X : Ex P K mg CE fI A5 A6) (F : Df K mg "_law_refused" s__law_refused) : CaG P w K mg base 4 "_law_refused" (spRefused K C) := by
  refine caG_mk F sc__law_refused (fun _ _ _ _ _ _ us hl => match us, hl with | [_, _], _ => rfl) (fun vs H Q E h => by obtain ⟨d, dx, z, n, v, dd, s, rfl, _⟩ := h; rfl) (fun f cdv A outer s0 H vs Q E' hg hr h => ?_)
  obtain ⟨d, dx, z, n, v, dd, s, rfl, hd, hz, hv, hk, hs, q⟩ := h
  have hu64 : (A.deeper (envOfC "_law_refused" (defScope s__law_refused) s0.heap.objs.size f cdv)).units + 64 < cLine := by
    have := hr.un
    omega
  refine ⟨_, (pss_cons (ps_set (i := 2) sc__law_refused.nd rfl (Or.inl rfl) pe_non)
    (pss_cons (ps_try_as (i := 3) (c := .ref CE) (ts := tsE K CE A5 A6) (Wout := fun _ _ _ _ => False) rfl rfl sc__law_refused.nd rfl rfl ⟨by rfl, by decide, .inl X.er.m⟩ takes0
      (fun W pn xe tk hp => pss_one (ps_expr (pe_mxT (k := 3) M.crash M.cls (hr.mono (by first | decide | omega)) tk (pv 0) (pa_cons (pv 1) pa_nil))))
      (fun a oe cls d pn hz hfl => ⟨fun pins s σ H D I h => by
        obtain ⟨dd, e1, e2, h⟩ := h
        subst e1 e2
        exact PSs.run (t := tsR K CE A5 A6 a dd) (pss_one (ps_set (i := 2) sc__law_refused.nd rfl (Or.inl rfl) (pe_lst (pa_cons (pe_callB (call_reprZ (K := K) rfl hg hu64) (by rfl) (E.fr (x := "repr") (by decide +kernel)) (by decide +kernel) (pa_cons (pe_valE X.er.T X.ec hz hfl (pv 3)) pa_nil)) (pa_cons (pe_callB (call_isE1 X.ec hz hfl) (by rfl) (E.fr (x := "isinstance") (by decide +kernel)) (by decide +kernel) (pa_cons (pv 3) (pa_cons (pe_gc (by rfl) ⟨_, X.m5, rfl⟩) pa_nil))) (pa_cons (pe_callB (call_isE1 X.ec hz hfl) (by rfl) (E.fr (x := "isinstance") (by decide +kernel)) (by decide +kernel) (pa_cons (pv 3) (pa_cons (pe_gc (by rfl) ⟨_, X.m6, rfl⟩) pa_nil))) pa_nil)))))) pins s σ H D I h⟩))
    (pss_one (ps_ret (pe_cmpR (op_eqX hu64) (pv 2) (pe_lst (pa_cons (pe_callB (call_reprZ (K := K) rfl hg hu64) (by rfl) (E.fr (x := "repr") (by decide +kernel)) (by decide +kernel) (pa_cons (pv 1) pa_nil)) (pa_cons pe_bl (pa_cons pe_bl pa_nil)))) (nomark _)))))), ?_⟩
  refine q_asgx (v := .non) (Iv.non H) e_cx fun H1 i1 g1 => ?_
  refine ⟨.ref d, rfl, d, dx, _, rfl, g1 d _ (nv_non d) hd, lookN (by decide +kernel) (by decide +kernel), v, rfl, d, dx, z, n, v, dd, rfl, g1 d _ (nv_non d) hd, hz, hv.gr g1, fun k e => absurd e (by rw [hk]; exact fun z => nomatch z), fun _ H2 x g2 hn => ?_⟩
  refine ⟨true, X.exm, fun _ a ha => ⟨x, rfl, rfl, ?_⟩, fun h => nomatch h⟩
  have g3 : Gr Vo.non H (upd H2 x (.xd [(("value" : Str), v)])) := (g1.trans g2).trans (Gr.new hn)
  have hdd : ∀ {H4}, Gr Vo.non (upd H2 x (.xd [(("value" : Str), v)])) H4 → H4 x = some (.xd [(("value" : Str), v)]) := fun g => g x _ (nv_non x) upd_same
  have fl : Paired FlatE [V.str s, .bl true, .bl false] [.str s, .bool true, .bool false] := .cons (.str _) (.cons (.bl _) (.cons (.bl _) .nil))
  have is1 : ∀ {σ : L2.St} {c : V} {u : Value} {b : Bool}, σ[3]? = some (some (.ref a)) → ClsV c u → PySem.W.kitOne K (.ref CE) u = some b → Ev Vo.non (tCB (rIsE1 K CE a x) (tCons (tVar 3) (tCons (tC c) tNil))) σ (upd H2 x (.xd [(("value" : Str), v)])) (sx (.bl b)) := fun {σ c u b} h3 hc hk => e_cb (a_cons (e_vx h3) (a_cons (e_cx (v := c)) a_nil)) fun vs H5 i5 g5 os => by
    obtain ⟨x1, w1, rfl, rfl, x2, w2, rfl, rfl, rfl⟩ := os
    exact rv i5 rfl fun Q q => ⟨_, u, b, _, rfl, hc, hdd g5, hk, q⟩
  have val : ∀ {σ : L2.St}, σ[3]? = some (some (.ref a)) → Ev Vo.non (tValE CE a (.ref CE) (some x) (tVar 3)) σ (upd H2 x (.xd [(("value" : Str), v)])) (sx v) := fun h3 H5 i5 g5 Q q => ⟨.ref a, h3, rfl, rfl, x, v, rfl, hdd g5, q v H5 i5 (Gr.refl H5) rfl⟩
  refine s_asg (p := Vo.non) (A := slx [.str s, .bl true, .bl false]) (Iv.non _) (x_lst (ws := [V.str s, .bl true, .bl false]) (a_cons (x_shw (val rfl) fun H5 g5 Q q => hs.2 H5 (g3.trans g5) Q q) (a_cons (is1 rfl (.own A5) X.k5) (a_cons (is1 rfl (.own A6) X.k6) a_nil))) (by rw [sizeLine_eq]; exact Nat.le_of_ble_eq_true rfl)) fun vr H5 i5 g5 hr => ?_
  have eqv : PyData.eqvAll [.str s, .bool true, .bool false] [.str s, .bool true, .bool false] = true := by
    simp [PyData.eqvAll, PyData.eqv]
  refine s_retx i5 (x_to (x_eqXs (e_var rfl hr) (x_lst (ws := [V.str s, .bl true, .bl false]) (a_cons (x_shw (e_vx rfl) fun H6 g6 Q q => hs.2 H6 ((g3.trans g5).trans g6) Q q) (a_cons e_cx (a_cons e_cx a_nil))) (by rw [sizeLine_eq]; exact Nat.le_of_ble_eq_true rfl)) fl fl (shaped3 hs.1 _ _) (shaped3 hs.1 _ _)) (w := .bl true) (by rw [eqv])) fun H6 _ g6 => q H6 ((g3.trans g5).trans g6)
end
end K73
namespace K73
open PySem PySem.Spec PyProof.Rows L2 Hk
/-! ### words; cuts -/
theorem gt_of {z : Str} {N : Nat} (h : z.cps.toList.all (fun c => decide (c < 1114112)) = true) (h2 : z.length ≤ N) : GT N z := ⟨h2, fun c hc => of_decide_eq_true (List.all_eq_true.mp h c hc)⟩
def words : List Str := ["", "a", "1 2\n", Txt.mul "xyz" 5, "\n", "line\nline"]
theorem words_gt : ∀ z ∈ words, GT 15 z := by
  intro z hz
  have h : words.all (fun z => z.cps.toList.all (fun c => decide (c < 1114112)) && decide (z.length ≤ 15)) = true := by decide +kernel
  obtain ⟨h1, h2⟩ := Bool.and_eq_true_iff.mp (List.all_eq_true.mp h z hz)
  exact gt_of h1 (of_decide_eq_true h2)
def arW : Addr → List V → Vo → Hp → Prop := fun a vs _ _ => vs = [.ref a]
def rsW : List V → ∀ p : Vo, Sy p := fun _ p => ss fun z => GT 15 z
abbrev spWord : Sp := spP arW rsW
theorem mulxyz : MulOk "xyz" 5 := ⟨by decide, fun _ _ => by decide +kernel, fun _ _ => by decide +kernel⟩
section
variable {P : Program} {w : World} {K : PySem.W.Frag} {mg : Str → Option Value} {base : Heap}
theorem x_mulS {p : Vo} {σ : L2.St} {H : Hp} {ta tb : TE} {z : Str} {n : Int} (ha : Ev p ta σ H (sx (.str z))) (hb : Ev p tb σ H (sx (.int n))) (ok : MulOk z n) : Ev p (tOp rMulU ta tb) σ H (sx (.str (Txt.mul z n))) :=
  e_op ha hb fun x y H1 iv g ex ey => rv iv rfl fun Q q => .inr ⟨z, n, ex, ey, ok, q⟩
theorem ok_word (E : En K mg) (F : Df K mg "_law_word" s__law_word) (c__law_draw : Ca P w K mg base 1 "_law_draw" spDraw) : Ca P w K mg base 2 "_law_word" spWord := by
  refine ca_mk F sc__law_word (fun _ _ _ _ _ _ us hl => match us, hl with | [_], _ => rfl) (fun vs H Q E h => by obtain ⟨p, a, _, _, h, _⟩ := h; rw [show vs = _ from h]; rfl) (fun f cdv A outer s H vs Q E' hr h => ?_)
  obtain ⟨p, a, hp, iv, h, q⟩ := h
  obtain rfl : vs = [.ref a] := h
  refine ⟨_, (pss_one (ps_ret (pe_ix (ixU (K := K) rfl) (pe_lst (pa_cons pe_str (pa_cons pe_str (pa_cons pe_str (pa_cons (pe_op op_mulU pe_str pe_int) (pa_cons pe_str (pa_cons pe_str pa_nil))))))) (pe_ca c__law_draw (hr.mono (by first | decide | omega)) (by rfl) (pa_cons (pv 0) (pa_cons pe_int pa_nil))) (fun _ _ => rfl)))), ?_⟩
  refine s_ret (p := p) (A := ss fun z => GT 15 z) iv (e_ixL (n := 6) (P := fun ws _ => ws = words.map V.str) (hP := fun _ _ _ _ h => h) (x_lst (ws := words.map V.str) (a_cons e_cx (a_cons e_cx (a_cons e_cx (a_cons (x_mulS e_cx e_cx mulxyz) (a_cons e_cx (a_cons e_cx a_nil)))))) (by rw [sizeLine_eq]; exact Nat.le_of_ble_eq_true rfl)) (e_drawN hp (e_vx rfl) e_cx (by decide) (by decide)) (fun ws H1 e => by rw [e]; decide) fun ws v H1 e hv => ?_) fun v H1 i1 g1 hv => q v H1 i1 g1 hv
  rw [e] at hv
  obtain ⟨z, hz, rfl⟩ := List.mem_map.mp hv
  exact ⟨z, rfl, words_gt z hz⟩
end
theorem app_nil (z : Str) : z ++ ("" : Str) = z := TL.ext_tl (by rw [TL.tl_append, show TL.tl ("" : Str) = [] from rfl, List.append_nil])
theorem cut_tl {z : Str} {k : Nat} : TL.tl (cutS z none (some (k : Int))) = (TL.tl z).take k := by
  unfold cutS
  rw [HT.sIx_none, HT.sIx_nat]
  show (((z.cps.toList.drop 0).take (min k z.length - 0)).toArray).toList = _
  rw [List.drop_zero, Nat.sub_zero, List.toList_toArray]
  show z.cps.toList.take _ = z.cps.toList.take k
  have e : z.cps.toList.length = z.length := by rw [Array.length_toList]; rfl
  by_cases h : k ≤ z.length
  · rw [Nat.min_eq_left h]
  · rw [Nat.min_eq_right (by omega), List.take_of_length_le (by omega), List.take_of_length_le (by omega)]
theorem cut_app (a b : Str) (k : Nat) : cutS (a ++ b) none (some ((a.length : Int) + (k : Int))) = a ++ cutS b none (some (k : Int)) := by
  refine TL.ext_tl ?_
  rw [show (a.length : Int) + (k : Int) = ((a.length + k : Nat) : Int) by omega, cut_tl, TL.tl_append, TL.tl_append, cut_tl]
  have e : a.length = (TL.tl a).length := TL.len_tl a
  rw [e, List.take_length_add_append]
theorem cut_zero (a b : Str) : cutS (a ++ b) none (some ((a.length : Int) + 0)) = a := by
  have := cut_app a b 0
  rw [show ((0 : Nat) : Int) = 0 from rfl] at this
  rw [this]
  refine TL.ext_tl ?_
  rw [TL.tl_append, show (0 : Int) = ((0 : Nat) : Int) from rfl, cut_tl, List.take_zero, List.append_nil]
/-! ### a list that is gone through -/
section
variable {p : Vo} {σ : L2.St} {H : Hp} {K : PySem.W.Frag} {te ta : TE} {D : Ends} {u tw : TS} {B : Sy p} {g : TG} {j k : Nat} {vs : List Nat}
theorem z_forL (iv : Iv p H) (h : Ev p te σ H B) (k : ∀ v H1, Iv p H1 → Gr p H H1 → B.P v H1 → ∃ a xs, ∃ Pv : Nat → L2.St → Hp → Prop, v = .ref a ∧ Nv p a ∧ H1 a = some (.lst xs) ∧ Pv 0 σ H1 ∧ (∀ i σ' H', Pv i σ' H' → Gr p H1 H') ∧
    (∀ i x σ' H', xs[i]? = some x → Pv i σ' H' → g x σ' H' fun σ2 H2 => tw { D with nx := Pv (i + 1), ct := Pv (i + 1), bk := u D } σ2 H2) ∧ (∀ σ' H', Pv xs.length σ' H' → u D σ' H')) : tSeq (tFor (iList K te) g tw) u D σ H :=
  h H iv (Gr.refl H) _ fun v H1 i1 g1 hv => by
    obtain ⟨a, xs, Pv, rfl, na, ha, h0, hg, hs, hd⟩ := k v H1 i1 g1 hv
    exact ⟨a, rfl, ⟨xs, SqL.of ha⟩, for_list (xs := xs) (D := { D with nx := u D }) Pv h0 (fun i σ' H' _ hp => SqL.of (hg i σ' H' hp a _ na ha)) hs hd⟩
theorem oks_rep {A : Sy p} : ∀ {n : Nat} {vs : List V}, Oks (List.replicate n A) vs H → vs.length = n ∧ ∀ x ∈ vs, A.P x H
  | 0, vs, h => by
    rw [show vs = [] from h]
    exact ⟨rfl, fun x hx => nomatch hx⟩
  | n + 1, vs, h => by
    obtain ⟨v, ws, rfl, h1, h2⟩ := (show ∃ v ws, vs = v :: ws ∧ A.P v H ∧ Oks (List.replicate n A) ws H from h)
    obtain ⟨l, r⟩ := oks_rep h2
    exact ⟨by rw [List.length_cons, l], fun x hx => (List.mem_cons.mp hx).elim (fun e => by rw [e]; exact h1) (r x)⟩
end
/-! ### values that are no numbers of characters -/
def sbad (K : PySem.W.Frag) (z : Str) (n : Int) : Sy Vo.non := ⟨fun v H => ∃ dd s, Dat Vo.non H v dd ∧ keptD z n dd = none ∧ Shw K H v s, fun v H H' g ⟨dd, s, h1, h2, h3, h4⟩ => ⟨dd, s, h1.gr g, h2, h3, fun H2 g2 => h4 H2 (g.trans g2)⟩⟩
theorem strOk_of (s : String) : PyData.strOk (Str.ofString s) = true := by
  unfold PyData.strOk
  rw [← Array.all_toList]
  refine List.all_eq_true.mpr fun c hc => decide_eq_true ?_
  have h : (Str.ofString s).cps.toList = s.toList.map Char.toNat := PyProof.Rows.signs_ofString s
  rw [h] at hc
  obtain ⟨ch, _, rfl⟩ := List.mem_map.mp hc
  have := ch.valid
  rcases this with h | h
  · have : ch.toNat < 0xd800 := h
    omega
  · exact h.2
section
variable {σ : L2.St} {H : Hp} {K : PySem.W.Frag} {te : TE} {z : Str} {n : Int}
theorem shw_rp {v : V} {d : PyData} {N k : Nat} (hv : ∀ H1, Gr Vo.non H H1 → Rp Vo.non H1 v d) (hg : Gd N k d) (hN : N ≤ 300000) (hk : k ≤ 40) (ho : PyData.strOk d.shown = true) : Shw K H v d.shown :=
  ⟨ho, fun H' g Q q => .inr ⟨v, d, rfl, hv H' g, hg.sh, Nat.le_trans hg.dp hk, hg.fits hN, q⟩⟩
theorem bad_int {i : Int} (h : Ev Vo.non te σ H (sx (.int i))) (hi : keptD z n (.int i) = none) (hg : Gd 0 0 (.int i)) (ho : PyData.strOk (PyData.shown (.int i)) = true) : Ev Vo.non te σ H (sbad K z n) := h.imp fun v H1 e => by
  rw [show v = _ from e]
  exact ⟨.int i, _, .int i, hi, shw_rp (fun H2 _ => .int i) hg (by decide) (by decide) ho⟩
theorem bad_non : Ev Vo.non (tC .non) σ H (sbad K z n) := e_c ⟨.non, _, .non, rfl, shw_rp (fun H2 _ => .non) g_none (by decide) (by decide) (by decide +kernel)⟩
theorem bad_bl {b : Bool} : Ev Vo.non (tC (.bl b)) σ H (sbad K z n) := e_c ⟨.bl b, _, .bl b, rfl, shw_rp (fun H2 _ => .bl b) (g_bool b) (by decide) (by decide) (by cases b <;> decide +kernel)⟩
theorem bad_str : Ev Vo.non (tC (.str "0")) σ H (sbad K z n) := e_c ⟨.str "0", _, .str "0" (by decide +kernel), rfl, shw_rp (fun H2 _ => .str "0") (gt_of (N := 1) (by decide +kernel) (by decide +kernel)).gd (by decide) (by decide) (by decide +kernel)⟩
theorem g_zero : Gd 0 0 (.int 0) := g_int (by decide) (by decide +kernel)
theorem bad_lst : Ev Vo.non (tLst (tCons (tC (.int 0)) tNil)) σ H (sbad K z n) := (x_lst (ws := [V.int 0]) (a_cons e_cx a_nil) (by rw [sizeLine_eq]; exact Nat.le_of_ble_eq_true rfl)).imp fun v H1 ⟨a, ws, e, na, ha, ew⟩ => by
  subst e ew
  refine ⟨.lst, (PyData.list [.int 0]).shown, .lst na ha, rfl, by decide +kernel, fun H2 g Q q => .inl ⟨a, _, [.int 0], rfl, .cons (.int 0) .nil, SqL.of (g a _ na ha), ?_, (Gds.lst (Gds.cons g_zero Gds.nil)).fits (by decide), q⟩⟩
  exact shs_all fun d hd => by rw [List.mem_singleton.mp hd]; exact g_zero.sh
theorem bad_tup : Ev Vo.non (tTup tNil) σ H (sbad K z n) := (x_tup (ws := []) a_nil (Nat.zero_le _)).imp fun v H1 ⟨a, ws, e, na, ha, ew⟩ => by
  subst e ew
  have r : ∀ H2, Gr Vo.non H1 H2 → Rp Vo.non H2 (.ref a) (.tuple []) := fun H2 g => .tup na (g a _ na ha) rfl fun i v d h => by cases h
  exact ⟨.tup [], _, .tup na ha rfl (Nat.zero_le _) (fun i v d h => by cases h), rfl, shw_rp (N := 0) (k := 1) r (Gds.tup Gds.nil) (by decide) (by decide) (by decide +kernel)⟩
theorem bad_dct : Ev Vo.non tDNewK σ H (sbad K z n) := fun H1 i g Q q p hp => q _ _ (i.new hp) (Gr.new hp) (by
  have r : ∀ H2, Gr Vo.non (upd H1 p (.dK [])) H2 → Rp Vo.non H2 (.ref p) (.dict []) := fun H2 g => .dct (kvs := []) (ps := []) (nv_non p) (g p _ (nv_non p) upd_same) rfl fun i v d h => by cases h
  refine ⟨.dct, _, .dct (nv_non p) upd_same, rfl, shw_rp (N := 0) (k := 1) r ⟨?_, ?_, ?_, ?_⟩ (by decide) (by decide) (by decide +kernel)⟩
  · decide +kernel
  · decide +kernel
  · decide +kernel
  · decide +kernel)
end
end K73
namespace K73
open PySem PySem.Spec PyProof.Rows L2 Hk
/-! ### crashes -/
def slB (K : PySem.W.Frag) (z : Str) (n : Int) : Sy Vo.non := sl (fun vs H => ∀ x ∈ vs, (sbad K z n).P x H) fun vs H H' e h x hx => (sbad K z n).st x H H' e (h x hx)
def sdsk (C : Addr) (z : Str) : Sy Vo.non := ⟨fun v H => ∃ t dt, v = .ref t ∧ H t = some (dsk C dt z z.length), fun v H H' g ⟨t, dt, e, h⟩ => ⟨t, dt, e, g t _ (nv_non t) h⟩⟩
theorem Pot.gr {H H' : Hp} {a : Addr} (h : Pot H a) (g : Gr Vo.non H H') : Pot H' a := by
  obtain ⟨x, y, e, r⟩ := h
  exact ⟨x, y, g a _ (nv_non a) e, r⟩
theorem Iv.pot1 {H : Hp} {b : Addr} (h : Pot H b) : Iv (Vo.of b) H := ⟨fun x e => by
  cases (show b = x from Option.some.inj e)
  exact ⟨h, fun y hy => (nomatch hy)⟩, fun x hx => (nomatch hx)⟩
section
variable {C CE : Addr} {σ : L2.St} {H : Hp} {ta tb : TE} {K : PySem.W.Frag} {t dt d dx : Addr} {a b : Str}
theorem x_toldL (ha : Ev Vo.non ta σ H (sx (.ref t))) (ht : H t = some (dsk C dt (a ++ b) a.length)) (hb : Ev Vo.non tb σ H (slx [.str a, .str b])) (ga : GT 5000 a) (gb : GT 5000 b) :
    Ev Vo.non (tCall (spTold C) [] E0 (tCons ta (tCons tb tNil))) σ H (sx (.bl true)) := e_call (a_cons ha (a_cons hb a_nil)) fun vs H1 iv g os => by
  obtain ⟨v, ws, rfl, ev, v2, ws2, rfl, ⟨q, us, rfl, nq, hq, eu⟩, rfl⟩ := os
  rw [show v = _ from ev]
  subst eu
  exact fun Q qq => pu_told (g t _ (nv_non t) ht) hq ga gb Q E0 fun H' g' => qq _ H' (iv.grow g') g' rfl
theorem x_toldD (ha : Ev Vo.non ta σ H (sdsk C a)) (hb : Ev Vo.non tb σ H (slx [.str a, .str ""])) (ga : GT 5000 a) :
    Ev Vo.non (tCall (spTold C) [] E0 (tCons ta (tCons tb tNil))) σ H (sx (.bl true)) := e_call (a_cons ha (a_cons hb a_nil)) fun vs H1 iv g os => by
  obtain ⟨v, ws, rfl, ⟨t, dt, rfl, ht⟩, v2, ws2, rfl, ⟨q, us, rfl, nq, hq, eu⟩, rfl⟩ := os
  subst eu
  rw [← app_nil a] at ht
  rw [show (a ++ ("" : Str)).length = a.length by rw [app_nil]] at ht
  exact fun Q qq => pu_told ht hq ga (gt_of (by decide +kernel) (by decide +kernel)) Q E0 fun H' g' => qq _ H' (iv.grow g') g' rfl
theorem x_toldV {q : Addr} (ha : Ev Vo.non ta σ H (sx (.ref t))) (ht : H t = some (dsk C dt (a ++ b) a.length)) (hb : Ev Vo.non tb σ H (sx (.ref q))) (hq : H q = some (.lst [.str a, .str b])) (ga : GT 5000 a) (gb : GT 5000 b) :
    Ev Vo.non (tCall (spTold C) [] E0 (tCons ta (tCons tb tNil))) σ H (sx (.bl true)) := x_call (ws := [.ref t, .ref q]) (a_cons ha (a_cons hb a_nil)) fun H1 g => pu_told (g t _ (nv_non t) ht) (g q _ (nv_non q) hq) ga gb
theorem kept_ok {k : Int} (h0 : 0 ≤ k) (h1 : k ≤ b.length) : keptD (a ++ b) a.length (.int k) = some k := by
  rw [keptD_int, if_pos ⟨h0, by rw [Str.length_append]; omega⟩]
theorem x_crash0 (hd : H d = some (dsk C dx (a ++ b) a.length)) (hz : (a ++ b).length ≤ 100000) (ha : Ev Vo.non ta σ H (sx (.ref d))) : Ev Vo.non (tMeth C "crash" (spCrash C CE) [.int 0] E0 ta tNil) σ H (sdsk C a) := fun H1 i g Q q =>
  ha H1 i g _ fun v H2 i2 g2 e => by
    have hd2 := (g.trans g2) d _ (nv_non d) hd
    refine ⟨d, dx, _, e, hd2, lookN (by decide +kernel) (by decide +kernel), d, dx, a ++ b, a.length, .int 0, .int 0, by rw [show v = _ from e]; rfl, hd2, hz, .int 0, fun k hk H3 t dt g3 _ ht => ?_, fun e => ?_⟩
    · rw [kept_ok (by omega) (by omega)] at hk
      cases hk
      rw [cut_zero] at ht
      exact q _ H3 (Iv.non H3) (g2.trans g3) ⟨t, dt, rfl, ht⟩
    · rw [kept_ok (by omega) (by omega)] at e
      cases e
end
def spCR (C : Addr) : Sp := fun vs H Q _ => ∃ P d dx q a b, vs = [.ref P, .ref d, .ref q] ∧ Pot H P ∧ H d = some (dsk C dx (a ++ b) a.length) ∧ H q = some (.lst [.str a, .str b]) ∧ GT 2000 a ∧ GT 2000 b ∧ ∀ H', Pot H' P → Gr (Vo.of P) H H' → Q (.bl true) H'
section
variable {P : Program} {w : World} {K : PySem.W.Frag} {mg : Str → Option Value} {base : Heap} {C CE fI A5 A6 f : Addr} {fd : FuncData}
theorem ok_crash_right (E : En K mg) (M : Ms P w K mg base C CE) (F : Df K mg "_law_crash_right" s__law_crash_right) (c__law_draw : Ca P w K mg base 1 "_law_draw" spDraw) (c__law_told : CaG P w K mg base 3 "_law_told" (spTold C)) (c__law_refused : CaG P w K mg base 4 "_law_refused" (spRefused K C)) : CaG P w K mg base 5 "_law_crash_right" (spCR C) := by
  refine caG_mk F sc__law_crash_right (fun _ _ _ _ _ _ us hl => match us, hl with | [_, _, _], _ => rfl) (fun vs H Q E h => by obtain ⟨P, d, dx, q, a, b, rfl, _⟩ := h; rfl) (fun f cdv A outer s0 H vs Q E' hg hr h => ?_)
  obtain ⟨Pa, d, dx, q, a, b, rfl, hP, hd, hq, ga, gb, k⟩ := h
  refine ⟨_, (pss_cons (ps_set (i := 3) sc__law_crash_right.nd rfl (Or.inl rfl) (pe_callB (lenU (K := K) rfl) (by rfl) (E.fr (x := "len") (by decide +kernel)) (by decide +kernel) (pa_cons (pe_ix (ixU (K := K) rfl) (pv 2) pe_int (fun _ _ => rfl)) pa_nil)))
      (pss_cons (ps_for PassesOwn.never rfl (pi_list (pe_lst (pa_cons (pe_op op_addU (pv 3) pe_int) (pa_cons (pe_un un_neg pe_int) (pa_cons pe_non (pa_cons pe_bl (pa_cons pe_bl (pa_cons pe_str (pa_cons (pe_lst (pa_cons pe_int pa_nil)) (pa_cons (pe_tup pa_nil) (pa_cons pe_dnewK (pa_cons (pe_op op_powW pe_int pe_int) pa_nil)))))))))))) (pg_name (i := 4) sc__law_crash_right.nd rfl (Or.inl rfl)) (pss_one (ps_if (pt_not (pt_val (pe_cg c__law_refused (by exact hg) (hr.mono (by first | decide | omega)) (by rfl) (pa_cons (pv 1) (pa_cons (pv 4) pa_nil))))) (pss_one (ps_ret pe_bl)) pss_nil)))
      (pss_cons (ps_set (i := 5) sc__law_crash_right.nd rfl (Or.inl rfl) (pe_ca c__law_draw (hr.mono (by first | decide | omega)) (by rfl) (pa_cons (pv 0) (pa_cons (pe_op op_addU (pv 3) pe_int) pa_nil))))
      (pss_cons (ps_set (i := 6) sc__law_crash_right.nd rfl (Or.inl rfl) (pe_mx M.crash M.cls (hr.mono (by first | decide | omega)) passL (pv 1) (pa_cons (pv 5) pa_nil)))
      (pss_cons (ps_set (i := 7) sc__law_crash_right.nd rfl (Or.inl rfl) (pe_mk M.crashK M.cls (hr.mono (by first | decide | omega)) passL (pv 1) (pk_cons (pv 5) pk_nil)))
      (pss_cons (ps_if (PW.pt (pw_or (pt_not (pt_val (pe_cg c__law_told (by exact hg) (hr.mono (by first | decide | omega)) (by rfl) (pa_cons (pv 6) (pa_cons (pe_lst (pa_cons (pe_op op_addU (pe_ix (ixU (K := K) rfl) (pv 2) pe_int (fun _ _ => rfl)) (pe_slice (slU (K := K) rfl) (pe_ix (ixU (K := K) rfl) (pv 2) pe_int (fun _ _ => rfl)) po_none (po_some (pv 5)))) (pa_cons pe_str pa_nil))) pa_nil))))) (pw_or (pt_not (pt_cmpR (op_eqO M.eq (hr.mono (by first | decide | omega))) (pv 6) (pv 7) (nomark _))) (pw_or1 (pt_not (pt_val (pe_cg c__law_told (by exact hg) (hr.mono (by first | decide | omega)) (by rfl) (pa_cons (pv 1) (pa_cons (pv 2) pa_nil))))))))) (pss_one (ps_ret pe_bl)) pss_nil)
      (pss_cons (ps_expr (pe_mx M.write M.cls (hr.mono (by first | decide | omega)) pass0 (pv 6) (pa_cons pe_str pa_nil)))
      (pss_cons (ps_if (PW.pt (pw_or (pt_cmpR (op_eqO M.eq (hr.mono (by first | decide | omega))) (pv 6) (pv 7) (nomark _)) (pw_or (pt_not (pt_val (pe_cg c__law_told (by exact hg) (hr.mono (by first | decide | omega)) (by rfl) (pa_cons (pv 1) (pa_cons (pv 2) pa_nil))))) (pw_or1 (pt_not (pt_val (pe_cg c__law_told (by exact hg) (hr.mono (by first | decide | omega)) (by rfl) (pa_cons (pv 7) (pa_cons (pe_lst (pa_cons (pe_op op_addU (pe_ix (ixU (K := K) rfl) (pv 2) pe_int (fun _ _ => rfl)) (pe_slice (slU (K := K) rfl) (pe_ix (ixU (K := K) rfl) (pv 2) pe_int (fun _ _ => rfl)) po_none (po_some (pv 5)))) (pa_cons pe_str pa_nil))) pa_nil))))))))) (pss_one (ps_ret pe_bl)) pss_nil)
      (pss_one (ps_ret (pe_and (pe_cg c__law_told (by exact hg) (hr.mono (by first | decide | omega)) (by rfl) (pa_cons (pe_mx0 M.crash0 M.cls (hr.mono (by first | decide | omega)) passL (pv 1)) (pa_cons (pe_lst (pa_cons (pe_ix (ixU (K := K) rfl) (pv 2) pe_int (fun _ _ => rfl)) (pa_cons pe_str pa_nil))) pa_nil))) (pe_one (pe_cg c__law_told (by exact hg) (hr.mono (by first | decide | omega)) (by rfl) (pa_cons (pv 6) (pa_cons (pe_lst (pa_cons (pe_op op_addU (pe_ix (ixU (K := K) rfl) (pv 2) pe_int (fun _ _ => rfl)) (pe_slice (slU (K := K) rfl) (pe_ix (ixU (K := K) rfl) (pv 2) pe_int (fun _ _ => rfl)) po_none (po_some (pv 5)))) (pa_cons pe_str pa_nil))) pa_nil))))))))))))))), ?_⟩
  have la := ga.ln
  have lb := gb.ln
  have hl : (a ++ b).length = a.length + b.length := Str.length_append a b
  have hz : (a ++ b).length ≤ 100000 := by omega
  obtain ⟨px, py, hPx, _⟩ := id hP
  have nd : Pa ≠ d := fun e => by rw [e, hd] at hPx; cases hPx
  have nq : Pa ≠ q := fun e => by rw [e, hq] at hPx; cases hPx
  have sq : ∀ {p : Vo} {H1 : Hp}, H1 q = some (.lst [.str a, .str b]) → Nv p q → ∀ v H2, Gr p H1 H2 → (sx (p := p) (.ref q)).P v H2 → ∃ x, v = .ref x ∧ (SqL K H2 x [.str a, .str b] ∨ SqT K H2 x [.str a, .str b]) := fun h n v H2 g2 e => ⟨q, e, .inl (SqL.of (g2 q _ n h))⟩
  have p0 : ∀ {σ : L2.St} {H1 : Hp}, H1 q = some (.lst [.str a, .str b]) → σ[2]? = some (some (.ref q)) → Ev Vo.non (tOp (rIx K) (tVar 2) (tC (.int 0))) σ H1 (sx (.str a)) := fun hq h => x_ixQ (xs := [.str a, .str b]) (e_vx h) (sq hq (nv_non q)) e_cx (atI_nat (j := 0) rfl)
  have p1 : ∀ {σ : L2.St} {H1 : Hp}, H1 q = some (.lst [.str a, .str b]) → σ[2]? = some (some (.ref q)) → Ev Vo.non (tOp (rIx K) (tVar 2) (tC (.int 1))) σ H1 (sx (.str b)) := fun hq h => x_ixQ (xs := [.str a, .str b]) (e_vx h) (sq hq (nv_non q)) e_cx (atI_nat (j := 1) rfl)
  refine q_asgx (v := .int b.length) (Iv.non H) (x_len (p1 hq rfl) (big (by omega))) fun H1 i1 g1 => ?_
  have kb : ∀ {i : Int}, i < 0 ∨ (b.length : Int) < i → keptD (a ++ b) a.length (.int i) = none := fun {i} h => by
    rw [keptD_int, if_neg (fun h2 => by rw [hl] at h2; omega)]
  have so : ∀ i : Int, PyData.strOk (PyData.shown (.int i)) = true := fun i => by
    simp only [PyData.shown]
    exact strOk_of _
  refine z_forL (p := Vo.non) (K := K) (B := slB K (a ++ b) a.length) i1 (e_lst (As := List.replicate 10 (sbad K (a ++ b) a.length)) (a_cons (bad_int (x_addI (e_vx rfl) e_cx) (kb (.inr (by omega))) (g_int (log_small (by omega) (by omega)) (numStr_len10 (by omega) (by omega))) (so _)) (a_cons (bad_int (x_neg e_cx) (kb (.inl (by omega))) (g_int (by decide) (by decide +kernel)) (so _)) (a_cons bad_non (a_cons bad_bl (a_cons bad_bl (a_cons bad_str (a_cons bad_lst (a_cons bad_tup (a_cons bad_dct (a_cons (bad_int (x_ic (c := CPw) (g := fun i j => .int (i ^ j.toNat)) e_cx e_cx ⟨by decide, by decide +kernel⟩) (kb (.inr (by
      have : ((10 : Int) ^ (30 : Int).toNat) = 1000000000000000000000000000000 := by decide +kernel
      omega))) (g_int (by decide +kernel) (by decide +kernel)) (so _)) a_nil)))))))))) (by rw [List.length_replicate, sizeLine_eq]; exact Nat.le_of_ble_eq_true rfl) fun vs x H2 i2 g2 os nx hx => ⟨x, vs, rfl, nx, hx, (oks_rep os).2⟩) fun v H2 i2 g2 hv => ?_
  obtain ⟨x, xs, rfl, nx, hx, hall⟩ := hv
  have g12 := g1.trans g2
  refine ⟨x, xs, fun i σ' H' => (∃ o, σ' = [some (.ref Pa), some (.ref d), some (.ref q), some (.int b.length), o, none, none, none]) ∧ Gr Vo.non H2 H', rfl, nx, hx, ⟨⟨_, rfl⟩, Gr.refl _⟩, fun i σ' H' h => h.2, fun i y σ' H' hy ⟨⟨o, eo⟩, gt⟩ => ?_, fun σ' H3 ⟨⟨o, eo⟩, g3⟩ => ?_⟩
  · subst eo
    have hd' := (g12.trans gt) d _ (nv_non d) hd
    obtain ⟨dd, s, b1, b2, b3, b4⟩ := (sbad K (a ++ b) a.length).st y _ _ gt (hall y (List.mem_of_getElem? hy))
    refine s_ifr (v := .bl false) (b := false) (Iv.non H') (k_to (k_not (k_b (b := true) (x_call (ws := [.ref d, y]) (a_cons (e_vx rfl) (a_cons (e_vx rfl) a_nil)) fun H4 g4 Q E kk => ⟨d, dx, a ++ b, a.length, y, dd, s, rfl, g4 d _ (nv_non d) hd', hz, b1.gr g4, b2, ⟨b3, fun H5 g5 => b4 H5 (g4.trans g5)⟩, kk⟩))) rfl) (fun _ => e_cx) (fun e => nomatch e) fun _ H4 _ g4 => ?_
    exact ⟨⟨some y, rfl⟩, gt.trans g4⟩
  · subst eo
    have g13 := g12.trans g3
    refine q_asg (p := Vo.of Pa) (A := si fun r => 0 ≤ r ∧ r < (b.length : Int) + 1) (Iv.pot1 (Pot.gr hP g13)) (e_drawN rfl (e_vx rfl) (x_addI (e_vx rfl) e_cx) (by omega) (by omega)) fun v H4 i4 g4 hv => ?_
    obtain ⟨r, rfl, r0, r1⟩ := hv
    obtain ⟨m, rfl⟩ := Int.eq_ofNat_of_zero_le r0
    have hd4 := g4 d _ (nv_of nd) (g13 d _ (nv_non d) hd)
    have hq4 := g4 q _ (nv_of nq) (g13 q _ (nv_non q) hq)
    have hP4 := (i4.pot Pa rfl).1
    have gH4 : Gr (Vo.of Pa) H H4 := g13.pure.trans g4
    have kk : ∀ {k : Int}, keptD (a ++ b) a.length (.int ((m : Nat) : Int)) = some k → k = (m : Nat) := fun e => by
      rw [kept_ok r0 (by omega)] at e
      exact (Option.some.inj e).symm
    have kn : ¬ keptD (a ++ b) a.length (.int ((m : Nat) : Int)) = none := fun e => by
      rw [kept_ok r0 (by omega)] at e
      cases e
    refine ⟨.ref d, rfl, d, dx, _, rfl, hd4, lookN (by decide +kernel) (by decide +kernel), .int (m : Nat), rfl, d, dx, a ++ b, a.length, .int (m : Nat), .int (m : Nat), rfl, hd4, hz, .int _, fun k1 hk1 H5 t dt g5 ht0 ht => ?_, fun e => absurd e kn⟩
    rw [kk hk1, cut_app] at ht
    have hd5 := g5 d _ (nv_non d) hd4
    refine ⟨.ref d, rfl, d, dx, _, rfl, hd5, lookN (by decide +kernel) (by decide +kernel), .int (m : Nat), rfl, rfl, d, dx, a ++ b, a.length, .int (m : Nat), .int (m : Nat), rfl, hd5, hz, .int _, fun k2 hk2 H6 o2 do2 g6 ho0 ho => ?_, fun e => absurd e kn⟩
    rw [kk hk2, cut_app] at ho
    have gz : GT 4000 (a ++ cutS b none (some ((m : Nat) : Int))) := (ga.app (gb.cut _ _)).mono (by decide)
    generalize hz' : a ++ cutS b none (some ((m : Nat) : Int)) = z' at ht ho gz
    have lz := gz.ln
    have g46 := g5.trans g6
    have hd6 := g6 d _ (nv_non d) hd5
    have hq6 := g46 q _ (nv_non q) hq4
    have ht6 := g6 t _ (nv_non t) ht
    have nto : t ≠ o2 := fun e => by rw [← e, ht] at ho0; cases ho0
    have ntd : t ≠ d := fun e => by rw [e, hd4] at ht0; cases ht0
    have ntq : t ≠ q := fun e => by rw [e, hq4] at ht0; cases ht0
    have gE : GT 5000 ("" : Str) := gt_of (by decide +kernel) (by decide +kernel)
    have gM : GT 5000 ("more" : Str) := gt_of (by decide +kernel) (by decide +kernel)
    -- a list of the kept text and another one
    have pr : ∀ {σ : L2.St} {H1 : Hp} {y : Str}, H1 q = some (.lst [.str a, .str b]) → σ[2]? = some (some (.ref q)) → σ[5]? = some (some (.int ((m : Nat) : Int))) →
        Ev Vo.non (tLst (tCons (tOp rAddU (tOp (rIx K) (tVar 2) (tC (.int 0))) (tSl (rSlU K) (tOp (rIx K) (tVar 2) (tC (.int 1))) tNoPart (tPart (tVar 5)))) (tCons (tC (.str y)) tNil))) σ H1 (slx [.str z', .str y]) := fun {σ H1 y} hq h2 h5 =>
      x_lst (ws := [.str z', .str y]) (a_cons (x_to (x_addS (p0 hq h2) (x_slS (lo := none) (hi := some ((m : Nat) : Int)) (p1 hq h2) (fun _ _ q => o_none q) (fun _ _ q => o_var h5 q) (big (by omega))) (big (by have := (gb.cut none (some ((m : Nat) : Int))).ln; omega))) (by rw [hz'])) (a_cons e_cx a_nil)) (by rw [sizeLine_eq]; exact Nat.le_of_ble_eq_true rfl)
    have same : ∀ {y : Str} {n : Int}, (decide (V.str y = V.str y) && decide (V.int n = V.int n)) = true := fun {y n} => by rw [decide_eq_true rfl, decide_eq_true rfl]; rfl
    have nil_ : ∀ {H1 : Hp} {x dx : Addr} {y : Str}, H1 x = some (dsk C dx y y.length) → H1 x = some (dsk C dx (y ++ "") y.length) := fun h => by rw [app_nil]; exact h
    refine q_ifr (v := .bl false) (b := false) (Iv.non H6) (k_to (k_or (k_not (k_b (b := true) (x_toldL (a := z') (b := "") (e_vx rfl) (nil_ ht6) (pr hq6 rfl rfl) (gz.mono (by decide)) gE))) fun _ => k_or (k_not (k_test (b := true) (x_to (x_eqD (e_vx rfl) (e_vx rfl) (fun H1 _ g => g t _ (nv_non t) ht6) (fun H1 _ g => g o2 _ (nv_non o2) ho)) (by rw [same])))) fun _ => k_not (k_b (b := true) (x_toldV (e_vx rfl) hd6 (e_vx rfl) hq6 (ga.mono (by decide)) (gb.mono (by decide))))) rfl) (fun _ => e_cx) (fun e => nomatch e) fun _ H7 i7 g7 => ?_
    have ht7 := g7 t _ (nv_non t) ht6
    refine ⟨.ref t, rfl, t, dt, _, rfl, ht7, lookN (by decide +kernel) (by decide +kernel), t, dt, z', z'.length, "more", rfl, ht7, by
      have : ("more" : Str).length = 4 := by decide +kernel
      omega, ?_⟩
    have hd8 : upd H7 t (dsk C dt (z' ++ "more") z'.length) d = some (dsk C dx (a ++ b) a.length) := by rw [upd_ne ntd.symm]; exact g7 d _ (nv_non d) hd6
    have hq8 : upd H7 t (dsk C dt (z' ++ "more") z'.length) q = some (.lst [.str a, .str b]) := by rw [upd_ne ntq.symm]; exact g7 q _ (nv_non q) hq6
    have ho8 : upd H7 t (dsk C dt (z' ++ "more") z'.length) o2 = some (dsk C do2 z' z'.length) := by rw [upd_ne nto.symm]; exact g7 o2 _ (nv_non o2) ho
    have ht8 : upd H7 t (dsk C dt (z' ++ "more") z'.length) t = some (dsk C dt (z' ++ "more") z'.length) := upd_same
    have g48 : Gr Vo.non H4 (upd H7 t (dsk C dt (z' ++ "more") z'.length)) := (g46.trans g7).mut ht0
    generalize upd H7 t (dsk C dt (z' ++ "more") z'.length) = H8 at hd8 hq8 ho8 ht8 g48 ⊢
    have diff : decide (V.str (z' ++ "more") = V.str z') = false := decide_eq_false fun e => by
      have h1 := congrArg Str.length (V.str.inj e)
      rw [Str.length_append] at h1
      have : ("more" : Str).length = 4 := by decide +kernel
      omega
    refine q_ifr (v := .bl false) (b := false) (Iv.non H8) (k_to (k_or (k_test (b := false) (x_to (x_eqD (e_vx rfl) (e_vx rfl) (fun H1 _ g => g t _ (nv_non t) ht8) (fun H1 _ g => g o2 _ (nv_non o2) ho8)) (by rw [diff]; rfl))) fun _ => k_or (k_not (k_b (b := true) (x_toldV (e_vx rfl) hd8 (e_vx rfl) hq8 (ga.mono (by decide)) (gb.mono (by decide))))) fun _ => k_not (k_b (b := true) (x_toldL (a := z') (b := "") (e_vx rfl) (nil_ ho8) (pr hq8 rfl rfl) (gz.mono (by decide)) gE))) rfl) (fun _ => e_cx) (fun e => nomatch e) fun _ H9 i9 g9 => ?_
    refine s_retx i9 (x_to (x_and (a := true) (b := true) (x_toldD (a := a) (x_crash0 (g9 d _ (nv_non d) hd8) hz (e_vx rfl)) (x_lst (ws := [.str a, .str ""]) (a_cons (p0 (g9 q _ (nv_non q) hq8) rfl) (a_cons e_cx a_nil)) (by rw [sizeLine_eq]; exact Nat.le_of_ble_eq_true rfl)) (ga.mono (by decide))) fun _ => x_toldL (a := z') (b := "more") (e_vx rfl) (g9 t _ (nv_non t) ht8) (pr (g9 q _ (nv_non q) hq8) rfl rfl) (gz.mono (by decide)) gM) rfl) fun H10 _ g10 => ?_
    have gE2 := (g48.trans g9).trans g10
    exact k H10 (Pot.gr hP4 gE2) (gH4.trans gE2.pure)
end
end K73
namespace K73
open PySem PySem.Spec PyProof.Rows L2 Hk
/-! ### what is done to a disk -/
structure Pr2 (N : Nat) (a b : Str) : Prop where
  ln : a.length + b.length ≤ N
  ca : ∀ c ∈ a.cps.toList, c < 1114112
  cb : ∀ c ∈ b.cps.toList, c < 1114112
theorem Pr2.a {N : Nat} {a b : Str} (h : Pr2 N a b) : GT N a := ⟨by have := h.ln; omega, h.ca⟩
theorem Pr2.b {N : Nat} {a b : Str} (h : Pr2 N a b) : GT N b := ⟨by have := h.ln; omega, h.cb⟩
theorem chars_app {a b : Str} (ha : ∀ c ∈ a.cps.toList, c < 1114112) (hb : ∀ c ∈ b.cps.toList, c < 1114112) : ∀ c ∈ (a ++ b).cps.toList, c < 1114112 := fun c hc => by
  rw [show (a ++ b).cps.toList = a.cps.toList ++ b.cps.toList from TL.tl_append a b] at hc
  exact (List.mem_append.mp hc).elim (ha c) (hb c)
theorem chars_nil : ∀ c ∈ ("" : Str).cps.toList, c < 1114112 := fun c hc => nomatch (show c ∈ ([] : List Nat) from hc)
theorem Pot.gr2 {H H' : Hp} {a d : Addr} {o : HO} (h : Pot H a) (g : Gr Vo.non H H') (n : a ≠ d) : Pot (upd H' d o) a := by
  obtain ⟨x, y, e, r⟩ := h
  exact ⟨x, y, by rw [upd_ne n]; exact g a _ (nv_non a) e, r⟩
def spDone (C : Addr) : Sp := fun vs H Q _ => ∃ P d dx q a b N, vs = [.ref P, .ref d, .ref q] ∧ Pot H P ∧ H d = some (dsk C dx (a ++ b) a.length) ∧ H q = some (.lst [.str a, .str b]) ∧ Pr2 N a b ∧ N ≤ 1000 ∧
  ∀ H' r a' b', Pot H' P → (∀ x o, x ≠ P → x ≠ d → H x = some o → H' x = some o) → H' d = some (dsk C dx (a' ++ b') a'.length) → H' r = some (.lst [.str a', .str b']) → Pr2 (N + 15) a' b' → Q (.ref r) H'
section
variable {p : Vo} {σ : L2.St} {H : Hp} {tr t1 t2 : TA} {te ta : TE} {D : Ends} {u : TS} {a : Addr}
theorem q_two {A B : Sy p} {i j : Nat} (iv : Iv p H) (h : EvA p tr σ H [A, B]) (kk : ∀ x y H1, Iv p H1 → Gr p H H1 → A.P x H1 → B.P y H1 → u D ((σ.set i (some x)).set j (some y)) H1) : tSeq (tPar i j tr) u D σ H :=
  h H iv (Gr.refl H) _ fun vs H1 i1 g1 ⟨x, w1, e1, hx, y, w2, e2, hy, e3⟩ => ⟨x, y, by rw [e1, e2, e3], kk x y H1 i1 g1 hx hy⟩
theorem x_word (hp : p.pot = some a) (ha : Ev p ta σ H (sx (.ref a))) : Ev p (tCall spWord [] E0 (tCons ta tNil)) σ H (ss fun z => GT 15 z) := e_callP hp (a_cons ha a_nil) fun vs H1 g iv os => by
  obtain ⟨v, ws, rfl, ev, rfl⟩ := os
  obtain rfl : v = .ref a := ev
  exact ⟨rfl, fun v H2 h => h⟩
end
section
variable {P : Program} {w : World} {K : PySem.W.Frag} {mg : Str → Option Value} {base : Heap} {C CE : Addr}
theorem ok_done (E : En K mg) (M : Ms P w K mg base C CE) (F : Df K mg "_law_done" s__law_done) (c__law_draw : Ca P w K mg base 1 "_law_draw" spDraw) (c__law_word : Ca P w K mg base 2 "_law_word" spWord) : Ca P w K mg base 3 "_law_done" (spDone C) := by
  refine ca_mk F sc__law_done (fun _ _ _ _ _ _ us hl => match us, hl with | [_, _, _], _ => rfl) (fun vs H Q E h => by obtain ⟨P, d, dx, q, a, b, N, rfl, _⟩ := h; rfl) (fun f cdv A outer s0 H vs Q E' hr h => ?_)
  obtain ⟨Pa, d, dx, q, a, b, N, rfl, hP, hd, hq, pr, hN, k⟩ := h
  refine ⟨_, (pss_cons (ps_par (i := 3) (j := 4) rfl sc__law_done.nd rfl rfl (by decide) rfl rfl (pa_cons (pe_ca c__law_draw (hr.mono (by first | decide | omega)) (by rfl) (pa_cons (pv 0) (pa_cons pe_int pa_nil))) (pa_cons (pe_ca c__law_word (hr.mono (by first | decide | omega)) (by rfl) (pa_cons (pv 0) pa_nil)) pa_nil)) rfl)
      (pss_cons (ps_if (pt_cmpR op_lt (pv 3) pe_int (nomark _)) (pss_one (ps_par (i := 5) (j := 6) rfl sc__law_done.nd rfl rfl (by decide) rfl rfl (pa_cons (pe_mx M.write M.cls (hr.mono (by first | decide | omega)) pass0 (pv 1) (pa_cons (pv 4) pa_nil)) (pa_cons (pe_lst (pa_cons (pe_ix (ixU (K := K) rfl) (pv 2) pe_int (fun _ _ => rfl)) (pa_cons (pe_op op_addU (pe_ix (ixU (K := K) rfl) (pv 2) pe_int (fun _ _ => rfl)) (pv 4)) pa_nil))) pa_nil)) rfl)) (pss_one (ps_if (pt_cmpR op_lt (pv 3) pe_int (nomark _)) (pss_one (ps_par (i := 5) (j := 6) rfl sc__law_done.nd rfl rfl (by decide) rfl rfl (pa_cons (pe_mx0 M.flush0 M.cls (hr.mono (by first | decide | omega)) pass0 (pv 1)) (pa_cons (pe_lst (pa_cons (pe_op op_addU (pe_ix (ixU (K := K) rfl) (pv 2) pe_int (fun _ _ => rfl)) (pe_ix (ixU (K := K) rfl) (pv 2) pe_int (fun _ _ => rfl))) (pa_cons pe_str pa_nil))) pa_nil)) rfl)) (pss_one (ps_if (pt_cmpR op_eq (pv 3) pe_int (nomark _)) (pss_one (ps_par (i := 5) (j := 6) rfl sc__law_done.nd rfl rfl (by decide) rfl rfl (pa_cons (pe_mx M.replace M.cls (hr.mono (by first | decide | omega)) pass0 (pv 1) (pa_cons (pv 4) pa_nil)) (pa_cons (pe_lst (pa_cons (pv 4) (pa_cons pe_str pa_nil))) pa_nil)) rfl)) (pss_one (ps_par (i := 5) (j := 6) rfl sc__law_done.nd rfl rfl (by decide) rfl rfl (pa_cons (pe_mk M.writeK M.cls (hr.mono (by first | decide | omega)) pass0 (pv 1) (pk_cons (pv 4) pk_nil)) (pa_cons (pe_lst (pa_cons (pe_ix (ixU (K := K) rfl) (pv 2) pe_int (fun _ _ => rfl)) (pa_cons (pe_op op_addU (pe_ix (ixU (K := K) rfl) (pv 2) pe_int (fun _ _ => rfl)) (pv 4)) pa_nil))) pa_nil)) rfl)))))))
      (pss_one (ps_ret (pe_ifExp (pt_cmpR op_isN (pv 5) pe_non (nomark _)) (pv 6) pe_non))))), ?_⟩
  have la := pr.ln
  have hl : (a ++ b).length = a.length + b.length := Str.length_append a b
  obtain ⟨px, py, hPx, _⟩ := id hP
  have nd : Pa ≠ d := fun e => by rw [e, hd] at hPx; cases hPx
  have nq : Pa ≠ q := fun e => by rw [e, hq] at hPx; cases hPx
  have ndq : d ≠ q := fun e => by rw [e, hq] at hd; cases hd
  refine q_two (p := Vo.of Pa) (A := si fun r => 0 ≤ r ∧ r < 8) (B := ss fun z => GT 15 z) (Iv.pot1 hP) (a_cons (e_drawN rfl (e_vx rfl) e_cx (by decide) (by decide)) (a_cons (x_word rfl (e_vx rfl)) a_nil)) fun x y H1 i1 g1 hx hy => ?_
  obtain ⟨r, rfl, r0, r1⟩ := hx
  obtain ⟨z, rfl, hz⟩ := hy
  have lz := hz.ln
  have hP1 := (i1.pot Pa rfl).1
  have hd1 := g1 d _ (nv_of nd) hd
  have hq1 := g1 q _ (nv_of nq) hq
  -- behind all ways
  have fin : ∀ {H3 : Hp} {rr : Addr} {a' b' : Str}, Pot H3 Pa → (∀ x o, x ≠ Pa → x ≠ d → H x = some o → H3 x = some o) → H3 d = some (dsk C dx (a' ++ b') a'.length) → H3 rr = some (.lst [.str a', .str b']) → Pr2 (N + 15) a' b' →
      tRet (tIf (tTest (tOp (fun x y H Q => y = .non ∧ Q (.bl (decide (x = .non))) H) (tVar 5) (tC .non))) (tVar 6) (tC .non)) { nx := fun _ H' => Q .non H', rt := Q } [some (.ref Pa), some (.ref d), some (.ref q), some (.int r), some (.str z), some .non, some (.ref rr)] H3 := fun {H3 rr a' b'} h1 h2 h3 h4 h5 => by
    refine s_retx (p := Vo.non) (v := .ref rr) (Iv.non H3) (e_if (B := fun c => c = true) (k_test (x_to (x_isN (e_vx rfl)) (by rw [decide_eq_true rfl]))) (fun _ => e_vx rfl) (fun e => nomatch e)) fun H4 _ g4 => ?_
    exact k H4 rr a' b' (Pot.gr h1 g4) (fun x o n1 n2 h => g4 x _ (nv_non x) (h2 x o n1 n2 h)) (g4 d _ (nv_non d) h3) (g4 rr _ (nv_non rr) h4) h5
  -- the pair, by its items
  have p0 : ∀ {σ : L2.St} {H1 : Hp}, H1 q = some (.lst [.str a, .str b]) → σ[2]? = some (some (.ref q)) → Ev Vo.non (tOp (rIx K) (tVar 2) (tC (.int 0))) σ H1 (sx (.str a)) := fun hq h => x_ixQ (xs := [.str a, .str b]) (e_vx h) (fun v H2 g2 e => ⟨q, e, .inl (SqL.of (g2 q _ (nv_non q) hq))⟩) e_cx (atI_nat (j := 0) rfl)
  have p1 : ∀ {σ : L2.St} {H1 : Hp}, H1 q = some (.lst [.str a, .str b]) → σ[2]? = some (some (.ref q)) → Ev Vo.non (tOp (rIx K) (tVar 2) (tC (.int 1))) σ H1 (sx (.str b)) := fun hq h => x_ixQ (xs := [.str a, .str b]) (e_vx h) (fun v H2 g2 e => ⟨q, e, .inl (SqL.of (g2 q _ (nv_non q) hq))⟩) e_cx (atI_nat (j := 1) rfl)
  have two : 2 ≤ sizeLine := by rw [sizeLine_eq]; exact Nat.le_of_ble_eq_true rfl
  -- a changed disk, then the new pair
  have way : ∀ {H2 : Hp} {a' b' : Str} {te : TE}, Gr Vo.non H1 H2 → Pr2 (N + 15) a' b' → (∀ H3, H3 q = some (.lst [.str a, .str b]) → Ev Vo.non te [some (.ref Pa), some (.ref d), some (.ref q), some (.int r), some (.str z), none, none] H3 (slx [.str a', .str b'])) →
      tCons te tNil [some (.ref Pa), some (.ref d), some (.ref q), some (.int r), some (.str z), none, none] (upd H2 d (dsk C dx (a' ++ b') a'.length)) fun vs H3 => ∃ v w, V.non :: vs = [v, w] ∧ tRet (tIf (tTest (tOp (fun x y H Q => y = .non ∧ Q (.bl (decide (x = .non))) H) (tVar 5) (tC .non))) (tVar 6) (tC .non)) { nx := fun _ H' => Q .non H', rt := Q } (([some (.ref Pa), some (.ref d), some (.ref q), some (.int r), some (.str z), none, none].set 5 (some v)).set 6 (some w)) H3 := fun {H2 a' b' te} g2 hp ht => by
    have hq2 : upd H2 d (dsk C dx (a' ++ b') a'.length) q = some (.lst [.str a, .str b]) := by rw [upd_ne ndq.symm]; exact g2 q _ (nv_non q) hq1
    refine ht _ hq2 _ (Iv.non _) (Gr.refl _) _ fun v H3 _ g3 hv => ?_
    obtain ⟨rr, us, rfl, _, hr3, eu⟩ := hv
    subst eu
    refine ⟨.non, .ref rr, rfl, fin (Pot.gr (Pot.gr2 hP1 g2 nd) g3) (fun x o n1 n2 h => g3 x _ (nv_non x) ?_) (g3 d _ (nv_non d) upd_same) hr3 hp⟩
    rw [upd_ne n2]
    exact g2 x _ (nv_non x) (g1 x _ (nv_of n1.symm) h)
  have lt : ∀ {H2 : Hp} {j : Int}, Tis Vo.non (tTest (tOp (rI0 fun i j => .bl (decide (i < j))) (tVar 3) (tC (.int j)))) [some (.ref Pa), some (.ref d), some (.ref q), some (.int r), some (.str z), none, none] H2 (decide (r < j)) := fun {H2 j} => k_test (x_ii (i := r) (j := j) (e_vx rfl) e_cx)
  have wr : ∀ {H2 : Hp}, Gr Vo.non H1 H2 → H2 d = some (dsk C dx (a ++ b) a.length) := fun g => g d _ (nv_non d) hd1
  have prW : Pr2 (N + 15) a (b ++ z) := ⟨by rw [Str.length_append]; omega, pr.ca, chars_app pr.cb hz.ch⟩
  have asc : a ++ b ++ z = a ++ (b ++ z) := TL.ext_tl (by rw [TL.tl_append, TL.tl_append, TL.tl_append, TL.tl_append, List.append_assoc])
  have lW : ∀ H3, H3 q = some (.lst [.str a, .str b]) → Ev Vo.non (tLst (tCons (tOp (rIx K) (tVar 2) (tC (.int 0))) (tCons (tOp rAddU (tOp (rIx K) (tVar 2) (tC (.int 1))) (tVar 4)) tNil))) [some (.ref Pa), some (.ref d), some (.ref q), some (.int r), some (.str z), none, none] H3 (slx [.str a, .str (b ++ z)]) := fun H3 hq3 =>
    x_lst (ws := [.str a, .str (b ++ z)]) (a_cons (p0 hq3 rfl) (a_cons (x_addS (p1 hq3 rfl) (e_vx rfl) (big (by omega))) a_nil)) two
  refine q_if (p := Vo.non) (B := fun c => c = decide (r < 4)) (Iv.non H1) lt (fun _ H2 _ g2 => ?_) fun _ H2 _ g2 => ?_
  · refine ⟨.ref d, rfl, d, dx, _, rfl, wr g2, lookN (by decide +kernel) (by decide +kernel), .str z, rfl, d, dx, a ++ b, a.length, z, rfl, wr g2, by omega, ?_⟩
    rw [asc]
    exact way g2 prW lW
  · refine s_if (p := Vo.non) (B := fun c => c = decide (r < 6)) (Iv.non H2) lt (fun _ H3 _ g3 => ?_) fun _ H3 _ g3 => ?_
    · have g23 := g2.trans g3
      refine ⟨.ref d, rfl, d, dx, _, rfl, wr g23, lookN (by decide +kernel) (by decide +kernel), d, dx, a ++ b, a.length, rfl, wr g23, by omega, ?_⟩
      have := way (a' := a ++ b) (b' := "") g23 ⟨by rw [Str.length_append]; have : ("" : Str).length = 0 := rfl; omega, chars_app pr.ca pr.cb, chars_nil⟩ fun H4 hq4 => x_lst (ws := [.str (a ++ b), .str ""]) (a_cons (x_addS (p0 hq4 rfl) (p1 hq4 rfl) (big (by omega))) (a_cons e_cx a_nil)) two
      rw [app_nil] at this
      exact this
    · refine s_if (p := Vo.non) (B := fun c => c = decide (V.int r = V.int 6)) (Iv.non H3) (k_test (x_eq (e_vx rfl) e_cx rfl)) (fun _ H4 _ g4 => ?_) fun _ H4 _ g4 => ?_
      · have g24 := (g2.trans g3).trans g4
        refine ⟨.ref d, rfl, d, dx, _, rfl, wr g24, lookN (by decide +kernel) (by decide +kernel), .str z, rfl, d, dx, a ++ b, a.length, z, rfl, wr g24, by omega, ?_⟩
        have := way (a' := z) (b' := "") g24 ⟨by have : ("" : Str).length = 0 := rfl; omega, hz.ch, chars_nil⟩ fun H4 hq4 => x_lst (ws := [.str z, .str ""]) (a_cons (e_vx (i := 4) rfl) (a_cons e_cx a_nil)) two
        rw [app_nil] at this
        exact this
      · have g24 := (g2.trans g3).trans g4
        refine ⟨.ref d, rfl, d, dx, _, rfl, wr g24, lookN (by decide +kernel) (by decide +kernel), .str z, rfl, rfl, d, dx, a ++ b, a.length, z, rfl, wr g24, by omega, ?_⟩
        rw [asc]
        exact way g24 prW lW
end
end K73
namespace K73
open PySem PySem.Spec PyProof.Rows L2 Hk
/-! ### the law -/
section
variable {C CE : Addr} {σ : L2.St} {H : Hp} {ta tb : TE} {K : PySem.W.Frag} {z z' : Str}
/-- a new disk: it was not there -/
theorem mk_raw {Q : VK} (ha : Ev Vo.non ta σ H (sx (.str z))) (hz : z.length ≤ 100000) (k : ∀ x dx H', Gr Vo.non H H' → H x = none → H' x = some (dsk C dx z z.length) → Q (.ref x) H') : tMake C (spInit C) [] E0 (tCons ta tNil) σ H Q :=
  ha H (Iv.non H) (Gr.refl H) _ fun v H1 i1 g1 e => fun x dx hx hdx hne => by
    have hx0 : H x = none := g1.free (nv_non x) hx
    have g3 : Gr Vo.non H (upd (upd H1 dx (.own x)) x (.ins C dx [])) := (g1.trans (Gr.new hdx)).trans (Gr.new (by rw [upd_ne hne.symm]; exact hx))
    refine ⟨x, dx, z, by rw [show v = _ from e]; rfl, upd_same, hz, rfl, k x dx _ (g3.mut hx0) hx0 upd_same⟩
theorem mk0_raw {Q : VK} (hz : z.length ≤ 100000) (k : ∀ x dx H', Gr Vo.non H H' → H x = none → H' x = some (dsk C dx z z.length) → Q (.ref x) H') : tMake C (spInit C) [.str z] E0 tNil σ H Q := fun x dx hx hdx hne => by
  have g3 : Gr Vo.non H (upd (upd H dx (.own x)) x (.ins C dx [])) := (Gr.new hdx).trans (Gr.new (by rw [upd_ne hne.symm]; exact hx))
  exact ⟨x, dx, z, rfl, upd_same, hz, rfl, k x dx _ (g3.mut hx) hx upd_same⟩
theorem mkK_raw {Q : VK} (ha : Ev Vo.non ta σ H (sx (.str z))) (hz : z.length ≤ 100000) (k : ∀ x dx H', Gr Vo.non H H' → H x = none → H' x = some (dsk C dx z z.length) → Q (.ref x) H') : tMakeK C 0 1 (spInit C) (fun vs zs => vs ++ zs) E0 tNil (tCons ta tNil) σ H Q :=
  ha H (Iv.non H) (Gr.refl H) _ fun v H1 i1 g1 e => ⟨rfl, rfl, fun x dx hx hdx hne => by
    have hx0 : H x = none := g1.free (nv_non x) hx
    have g3 : Gr Vo.non H (upd (upd H1 dx (.own x)) x (.ins C dx [])) := (g1.trans (Gr.new hdx)).trans (Gr.new (by rw [upd_ne hne.symm]; exact hx))
    refine ⟨x, dx, z, by rw [show v = _ from e]; rfl, upd_same, hz, rfl, k x dx _ (g3.mut hx0) hx0 upd_same⟩⟩
/-- a list of two new disks, then another thing -/
theorem q_mk2 {te : TE} {u : TS} {D : Ends} {i j : Nat} (ha : Ev Vo.non ta σ H (sx (.str z))) (hb : ∀ H1, Gr Vo.non H H1 → Ev Vo.non tb σ H1 (sx (.str z'))) (hz : z.length ≤ 100000) (hz' : z'.length ≤ 100000)
    (k : ∀ d0 x0 d1 x1 L H', Gr Vo.non H H' → H d0 = none → H d1 = none → d0 ≠ d1 → H' d0 = some (dsk C x0 z z.length) → H' d1 = some (dsk C x1 z' z'.length) → H' L = some (.lst [.ref d0, .ref d1]) → te σ H' fun w' H3 => ∃ v w, [V.ref L, w'] = [v, w] ∧ u D ((σ.set i (some v)).set j (some w)) H3) :
    tSeq (tPar i j (tCons (tLst (tCons (tMake C (spInit C) [] E0 (tCons ta tNil)) (tCons (tMakeK C 0 1 (spInit C) (fun vs zs => vs ++ zs) E0 tNil (tCons tb tNil)) tNil))) (tCons te tNil))) u D σ H := by
  show tMake C (spInit C) [] E0 (tCons ta tNil) σ H (fun x H1 => tMakeK C 0 1 (spInit C) (fun vs zs => vs ++ zs) E0 tNil (tCons tb tNil) σ H1 fun y H2 => [x, y].length ≤ sizeLine ∧ ∀ p, H2 p = none → te σ (upd H2 p (.lst [x, y])) fun w' H3 => ∃ v w, [V.ref p, w'] = [v, w] ∧ u D ((σ.set i (some v)).set j (some w)) H3)
  refine mk_raw ha hz fun d0 x0 H1 g1 h0 h1 => ?_
  refine mkK_raw (hb H1 g1) hz' fun d1 x1 H2 g2 h2 h3 => ?_
  have nd : d0 ≠ d1 := fun e => by rw [← e, h1] at h2; cases h2
  refine ⟨by rw [sizeLine_eq]; exact Nat.le_of_ble_eq_true rfl, fun L hL => ?_⟩
  exact k d0 x0 d1 x1 L (upd H2 L (.lst [.ref d0, .ref d1])) ((g1.trans g2).trans (Gr.new hL)) h0 (g1.free (nv_non d1) h2) nd ((g2.trans (Gr.new hL)) d0 _ (nv_non d0) h1) ((Gr.new (p := Vo.non) hL) d1 _ (nv_non d1) h3) upd_same
/-- a list of two lists -/
theorem l_two {Q : VK} {us ws : List V} (h1 : Ev Vo.non ta σ H (slx us)) (h2 : ∀ H1, Gr Vo.non H H1 → Ev Vo.non tb σ H1 (slx ws)) (k : ∀ q0 q1 M H', Gr Vo.non H H' → H M = none → H' M = some (.lst [.ref q0, .ref q1]) → H' q0 = some (.lst us) → H' q1 = some (.lst ws) → Q (.ref M) H') :
    tLst (tCons ta (tCons tb tNil)) σ H Q :=
  h1 H (Iv.non H) (Gr.refl H) _ fun v H1 _ g1 hv => (h2 H1 g1) H1 (Iv.non H1) (Gr.refl H1) _ fun v2 H2 _ g2 hv2 => by
    obtain ⟨q0, u0, rfl, _, hq0, eu0⟩ := hv
    obtain ⟨q1, u1, rfl, _, hq1, eu1⟩ := hv2
    subst eu0 eu1
    refine ⟨by rw [sizeLine_eq]; exact Nat.le_of_ble_eq_true rfl, fun M hM => ?_⟩
    exact k q0 q1 M _ ((g1.trans g2).trans (Gr.new hM)) ((g1.trans g2).free (nv_non M) hM) upd_same ((g2.trans (Gr.new hM)) q0 _ (nv_non q0) hq0) ((Gr.new (p := Vo.non) hM) q1 _ (nv_non q1) hq1)
theorem x_mk (ha : Ev Vo.non ta σ H (sx (.str z))) (hz : z.length ≤ 100000) : Ev Vo.non (tMake C (spInit C) [] E0 (tCons ta tNil)) σ H (sdsk C z) := fun H1 i g Q q => mk_raw (ha.mono g) hz fun x dx H' g' _ h => q _ H' (Iv.non H') g' ⟨x, dx, rfl, h⟩
theorem x_mk0 (hz : z.length ≤ 100000) : Ev Vo.non (tMake C (spInit C) [.str z] E0 tNil) σ H (sdsk C z) := fun H1 i g Q q => mk0_raw hz fun x dx H' g' _ h => q _ H' (Iv.non H') g' ⟨x, dx, rfl, h⟩
theorem x_eqS (ha : Ev Vo.non ta σ H (sdsk C z)) (hb : Ev Vo.non tb σ H (sdsk C z')) : Ev Vo.non (tOp (rEqO C (spEqD C)) ta tb) σ H (sx (.bl (decide (V.str z = V.str z') && decide (V.int z.length = V.int z'.length)))) :=
  e_op ha hb fun x y H1 iv g ⟨t, dt, ex, ht⟩ ⟨t', dt', ey, ht'⟩ => rv iv rfl fun Q q => ⟨t, dt, _, ex, ht, .inl ⟨t', dt', _, ey, ht'⟩, t, dt, z, _, y, by rw [ex], ht, .inl ⟨t', dt', z', _, ey, ht', q⟩⟩
theorem x_eqSO {v : V} (ha : Ev Vo.non ta σ H (sdsk C z)) (hv : (∃ s, v = .str s) ∨ v = .non) : Ev Vo.non (tOp (rEqO C (spEqD C)) ta (tC v)) σ H (sx (.bl false)) :=
  e_op ha e_cx fun x y H1 iv g ⟨t, dt, ex, ht⟩ ey => rv iv rfl fun Q q => ⟨t, dt, _, ex, ht, .inr (by rw [show y = _ from ey]; exact hv), t, dt, z, _, y, by rw [ex], ht, .inr ⟨by rw [show y = _ from ey]; exact hv, q⟩⟩
end
/-- two disks and their pairs -/
structure St (C L Mx d0 d1 x0 x1 : Addr) (N : Nat) (H : Hp) (q0 q1 : Addr) (a0 b0 a1 b1 : Str) : Prop where
  hL : H L = some (.lst [.ref d0, .ref d1])
  hM : H Mx = some (.lst [.ref q0, .ref q1])
  e0 : H d0 = some (dsk C x0 (a0 ++ b0) a0.length)
  e1 : H d1 = some (dsk C x1 (a1 ++ b1) a1.length)
  r0 : H q0 = some (.lst [.str a0, .str b0])
  r1 : H q1 = some (.lst [.str a1, .str b1])
  p0 : Pr2 N a0 b0
  p1 : Pr2 N a1 b1
theorem Pr2.mono {N M : Nat} {a b : Str} (h : Pr2 N a b) (hm : N ≤ M) : Pr2 M a b := ⟨Nat.le_trans h.ln hm, h.ca, h.cb⟩
section
variable {C L Mx d0 d1 x0 x1 q0 q1 Pa : Addr} {N : Nat} {H H' : Hp} {a0 b0 a1 b1 : Str}
theorem St.gr (s : St C L Mx d0 d1 x0 x1 N H q0 q1 a0 b0 a1 b1) (g : Gr Vo.non H H') : St C L Mx d0 d1 x0 x1 N H' q0 q1 a0 b0 a1 b1 :=
  ⟨g _ _ (nv_non _) s.hL, g _ _ (nv_non _) s.hM, g _ _ (nv_non _) s.e0, g _ _ (nv_non _) s.e1, g _ _ (nv_non _) s.r0, g _ _ (nv_non _) s.r1, s.p0, s.p1⟩
theorem pot_ne {x : Addr} {o : HO} (hP : Pot H Pa) (h : H x = some o) (ho : ∀ i j : Int, o ≠ .lst [.int i, .int j]) : Pa ≠ x := fun e => by
  obtain ⟨i, j, hh, _⟩ := hP
  rw [e, h] at hh
  exact ho i j (Option.some.inj hh)
theorem St.drawn (s : St C L Mx d0 d1 x0 x1 N H q0 q1 a0 b0 a1 b1) (hP : Pot H Pa) (g : Gr (Vo.of Pa) H H') : St C L Mx d0 d1 x0 x1 N H' q0 q1 a0 b0 a1 b1 :=
  ⟨g _ _ (nv_of (pot_ne hP s.hL fun i j e => by cases e)) s.hL, g _ _ (nv_of (pot_ne hP s.hM fun i j e => by cases e)) s.hM, g _ _ (nv_of (pot_ne hP s.e0 fun i j e => by cases e)) s.e0, g _ _ (nv_of (pot_ne hP s.e1 fun i j e => by cases e)) s.e1,
    g _ _ (nv_of (pot_ne hP s.r0 fun i j e => by cases e)) s.r0, g _ _ (nv_of (pot_ne hP s.r1 fun i j e => by cases e)) s.r1, s.p0, s.p1⟩
/-- the chosen one -/
theorem St.at (s : St C L Mx d0 d1 x0 x1 N H q0 q1 a0 b0 a1 b1) {i : Int} (h0 : 0 ≤ i) (h1 : i < 2) : ∃ dc xc qc ac bc, atI [V.ref d0, .ref d1] i = some (.ref dc) ∧ atI [V.ref q0, .ref q1] i = some (.ref qc) ∧ H dc = some (dsk C xc (ac ++ bc) ac.length) ∧ H qc = some (.lst [.str ac, .str bc]) ∧ Pr2 N ac bc := by
  have : i = ((0 : Nat) : Int) ∨ i = ((1 : Nat) : Int) := by omega
  rcases this with rfl | rfl
  · exact ⟨d0, x0, q0, a0, b0, atI_nat rfl, atI_nat rfl, s.e0, s.r0, s.p0⟩
  · exact ⟨d1, x1, q1, a1, b1, atI_nat rfl, atI_nat rfl, s.e1, s.r1, s.p1⟩
end
section
variable {p : Vo} {σ : L2.St} {H : Hp} {te : TE} {D : Ends} {u tb : TS} {g : TG}
theorem q_forR {C : Int → Prop} (iv : Iv p H) (h : Ev p te σ H (si C)) (hC : ∀ n, C n → 0 ≤ n ∧ n < 1000000) (Pv : Nat → L2.St → Hp → Prop) (h0 : ∀ H1, Iv p H1 → Gr p H H1 → Pv 0 σ H1)
    (hs : ∀ n, C n → ∀ i σ' H', i < n.toNat → Pv i σ' H' → g (.int (0 + (i : Nat))) σ' H' fun σ2 H2 => tb { D with nx := Pv (i + 1), ct := Pv (i + 1), bk := u D } σ2 H2) (hd : ∀ n, C n → ∀ σ' H', Pv n.toNat σ' H' → u D σ' H') : tSeq (tFor (iRng1 (tCons te tNil)) g tb) u D σ H :=
  h H iv (Gr.refl H) _ fun v H1 i1 g1 ⟨n, e, hn⟩ => ⟨n, by rw [e], by have := hC n hn; omega, by have := hC n hn; omega, for_range (lo := 0) (n := n.toNat) (D := { D with nx := u D }) Pv (h0 H1 i1 g1) (hs n hn) (hd n hn)⟩
theorem s_forR {C : Int → Prop} (iv : Iv p H) (h : Ev p te σ H (si C)) (hC : ∀ n, C n → 0 ≤ n ∧ n < 1000000) (Pv : Nat → L2.St → Hp → Prop) (h0 : ∀ H1, Iv p H1 → Gr p H H1 → Pv 0 σ H1)
    (hs : ∀ n, C n → ∀ i σ' H', i < n.toNat → Pv i σ' H' → g (.int (0 + (i : Nat))) σ' H' fun σ2 H2 => tb { D with nx := Pv (i + 1), ct := Pv (i + 1), bk := D.nx } σ2 H2) (hd : ∀ n, C n → ∀ σ' H', Pv n.toNat σ' H' → D.nx σ' H') : tFor (iRng1 (tCons te tNil)) g tb D σ H :=
  h H iv (Gr.refl H) _ fun v H1 i1 g1 ⟨n, e, hn⟩ => ⟨n, by rw [e], by have := hC n hn; omega, by have := hC n hn; omega, for_range (lo := 0) (n := n.toNat) (D := D) Pv (h0 H1 i1 g1) (hs n hn) (hd n hn)⟩
theorem q_callS {sp : Sp} {ta : TA} {ws : List V} {k m : Nat} (iv : Iv p H) (h : EvA p ta σ H (ws.map sx)) (kk : ∀ H1, Iv p H1 → Gr p H H1 → sp ws H1 (fun v H2 => gSub (tVar k) (tVar m) rSetL v σ H2 fun σ' H3 => u D σ' H3) E0) : tSeq (tAsg (tCall sp [] E0 ta) (gSub (tVar k) (tVar m) rSetL)) u D σ H := by
  show ta σ H (fun vs H1 => sp (vs ++ []) H1 (fun v H2 => gSub (tVar k) (tVar m) rSetL v σ H2 fun σ' H3 => u D σ' H3) E0)
  exact h H iv (Gr.refl H) _ fun vs H1 i1 g1 os => by
    rw [List.append_nil, oks_x os]
    exact kk H1 i1 g1
theorem x_min {c d e : Int → Prop} {ta tb : TE} (ha : Ev p ta σ H (si c)) (hb : Ev p tb σ H (si d)) (he : ∀ i j, c i → d j → e (if j < i then j else i)) : Ev p (tCB (fun xs H Q => ∃ i j, xs = [.int i, .int j] ∧ Q (.int (if j < i then j else i)) H) (tCons ta (tCons tb tNil))) σ H (si e) := e_cb (a_cons ha (a_cons hb a_nil)) fun vs H1 iv g os => by
  obtain ⟨v, ws, rfl, ⟨i, rfl, hi⟩, v2, ws2, rfl, ⟨j, rfl, hj⟩, rfl⟩ := os
  exact rv iv ⟨_, rfl, he i j hi hj⟩ fun Q q => ⟨i, j, rfl, q⟩
end
end K73
namespace K73
open PySem PySem.Spec PyProof.Rows L2 Hk
section
variable {C L Mx d0 d1 x0 x1 q0 q1 Pa : Addr} {N : Nat} {H H' : Hp} {a0 b0 a1 b1 : Str}
/-- a turn's change -/
theorem St.turn (s : St C L Mx d0 d1 x0 x1 N H q0 q1 a0 b0 a1 b1) (hP : Pot H Pa) (nd : d0 ≠ d1) {i : Int} (h0 : 0 ≤ i) (h1 : i < 2) : ∃ dc xc qc ac bc, (dc = d0 ∨ dc = d1) ∧ atI [V.ref d0, .ref d1] i = some (.ref dc) ∧ atI [V.ref q0, .ref q1] i = some (.ref qc) ∧ H dc = some (dsk C xc (ac ++ bc) ac.length) ∧ H qc = some (.lst [.str ac, .str bc]) ∧ Pr2 N ac bc ∧
    ∀ H3 r a' b', (∀ x o, x ≠ Pa → x ≠ dc → H x = some o → H3 x = some o) → H3 dc = some (dsk C xc (a' ++ b') a'.length) → H3 r = some (.lst [.str a', .str b']) → Pr2 (N + 15) a' b' →
      ∃ j p0 p1 c0 e0 c1 e1, ixN 2 i = some j ∧ H3 Mx = some (.lst [.ref q0, .ref q1]) ∧ St C L Mx d0 d1 x0 x1 (N + 15) (upd H3 Mx (.lst ([V.ref q0, .ref q1].set j (.ref r)))) p0 p1 c0 e0 c1 e1 := by
  have nL := pot_ne hP s.hL fun i j e => by cases e
  have nM := pot_ne hP s.hM fun i j e => by cases e
  have n0 := pot_ne hP s.e0 fun i j e => by cases e
  have n1 := pot_ne hP s.e1 fun i j e => by cases e
  have m0 := pot_ne hP s.r0 fun i j e => by cases e
  have m1 := pot_ne hP s.r1 fun i j e => by cases e
  have LM : L ≠ Mx := fun e => by
    have h := s.hL
    rw [e, s.hM] at h
    have h2 := congrArg (fun o : Option HO => match o with | some (.lst (V.ref x :: _)) => x | _ => 0) h
    have : q0 = d0 := h2
    have h3 := s.r0
    rw [this, s.e0] at h3
    cases h3
  have ne : ∀ {x y : Addr} {o o' : HO}, H x = some o → H y = some o' → o ≠ o' → x ≠ y := fun {x y o o'} a b n e => by
    rw [e, b] at a
    exact n (Option.some.inj a).symm
  have L0 := ne s.hL s.e0 (fun e => by cases e)
  have L1 := ne s.hL s.e1 (fun e => by cases e)
  have M0 := ne s.hM s.e0 (fun e => by cases e)
  have M1 := ne s.hM s.e1 (fun e => by cases e)
  have q00 := ne s.r0 s.e0 (fun e => by cases e)
  have q01 := ne s.r0 s.e1 (fun e => by cases e)
  have q10 := ne s.r1 s.e0 (fun e => by cases e)
  have q11 := ne s.r1 s.e1 (fun e => by cases e)
  have q0M := ne s.r0 s.hM (fun e => by cases e)
  have q1M := ne s.r1 s.hM (fun e => by cases e)
  have : i = ((0 : Nat) : Int) ∨ i = ((1 : Nat) : Int) := by omega
  rcases this with rfl | rfl
  · refine ⟨d0, x0, q0, a0, b0, .inl rfl, atI_nat rfl, atI_nat rfl, s.e0, s.r0, s.p0, fun H3 r a' b' kp hd hr pr => ?_⟩
    have hM3 := kp Mx _ nM.symm M0 s.hM
    have rM : r ≠ Mx := fun e => by rw [e, hM3] at hr; cases hr
    refine ⟨0, r, q1, a', b', a1, b1, rfl, hM3, ?_⟩
    exact ⟨by rw [upd_ne LM]; exact kp L _ nL.symm L0 s.hL, upd_same, by rw [upd_ne M0.symm]; exact hd, by rw [upd_ne M1.symm]; exact kp d1 _ n1.symm nd.symm s.e1, by rw [upd_ne rM]; exact hr, by rw [upd_ne q1M]; exact kp q1 _ m1.symm q10 s.r1, pr, s.p1.mono (by omega)⟩
  · refine ⟨d1, x1, q1, a1, b1, .inr rfl, atI_nat rfl, atI_nat rfl, s.e1, s.r1, s.p1, fun H3 r a' b' kp hd hr pr => ?_⟩
    have hM3 := kp Mx _ nM.symm M1 s.hM
    have rM : r ≠ Mx := fun e => by rw [e, hM3] at hr; cases hr
    refine ⟨1, q0, r, a0, b0, a', b', rfl, hM3, ?_⟩
    exact ⟨by rw [upd_ne LM]; exact kp L _ nL.symm L1 s.hL, upd_same, by rw [upd_ne M0.symm]; exact kp d0 _ n0.symm nd s.e0, by rw [upd_ne M1.symm]; exact hd, by rw [upd_ne q0M]; exact kp q0 _ m0.symm q01 s.r0, by rw [upd_ne rM]; exact hr, s.p0.mono (by omega), pr⟩
end
theorem ev_slx {p : Vo} {σ : L2.St} {H : Hp} {te : TE} {q : Addr} {vs : List V} (h : Ev p te σ H (sx (.ref q))) (n : Nv p q) (hq : H q = some (.lst vs)) : Ev p te σ H (slx vs) := fun H1 i g Q k => h H1 i g _ fun v H2 i2 g2 e => k v H2 i2 g2 ⟨q, vs, e, n, (g.trans g2) q _ n hq, rfl⟩
theorem app_inj {a b c d : Str} (h : a ++ b = c ++ d) (hl : a.length = c.length) : a = c ∧ b = d := by
  have h2 := congrArg TL.tl h
  rw [TL.tl_append, TL.tl_append] at h2
  rw [TL.len_tl, TL.len_tl] at hl
  obtain ⟨e1, e2⟩ := List.append_inj h2 hl
  exact ⟨TL.ext_tl e1, TL.ext_tl e2⟩
/-- the two equalities agree -/
theorem eq_agree (a b c d : Str) : (decide (V.str (a ++ b) = V.str (c ++ d)) && decide (V.int a.length = V.int c.length)) = PyData.eqvAll [.str a, .str b] [.str c, .str d] := by
  have e : PyData.eqvAll [.str a, .str b] [.str c, .str d] = (decide (a = c) && decide (b = d)) := by
    simp only [PyData.eqvAll, PyData.eqv, Bool.and_true]
    by_cases h1 : a = c
    · by_cases h2 : b = d
      · subst h1 h2
        simp
      · simp [h1, h2]
    · simp [h1]
  rw [e]
  by_cases h1 : a = c
  · subst h1
    by_cases h2 : b = d
    · subst h2
      simp
    · rw [decide_eq_false (p := b = d) h2, Bool.and_false]
      rw [decide_eq_false (p := V.str (a ++ b) = V.str (a ++ d)) fun h => h2 (app_inj (V.str.inj h) rfl).2, Bool.false_and]
  · rw [decide_eq_false (p := a = c) h1, Bool.false_and]
    by_cases h3 : V.str (a ++ b) = V.str (c ++ d)
    · rw [decide_eq_false (p := V.int (a.length : Int) = V.int (c.length : Int)) fun h => h1 (app_inj (V.str.inj h3) (by have := V.int.inj h; omega)).1, Bool.and_false]
    · rw [decide_eq_false h3, Bool.false_and]
theorem shaped2 {s t : Str} (h : PyData.strOk s = true) (h2 : PyData.strOk t = true) : SeqAt.shaped (.list [.str s, .str t]) = true := by
  unfold SeqAt.shaped
  simp only [PyData.canLay0, PyData.canLayAll0, h, h2, Bool.and_true, Bool.true_and, PyData.depth, PyData.depthAll]
  rfl
def spLaw (K : PySem.W.Frag) : Sp := fun vs H Q _ => ∃ (a : Addr) (ns : List Int), vs = [.ref a] ∧ SqL K H a (ns.map V.int) ∧ ns.length ≤ 63 ∧ ∀ H', Q (.bl true) H'
section
variable {P : Program} {w : World} {K : PySem.W.Frag} {mg : Str → Option Value} {base : Heap} {C CE : Addr}
theorem ok_law {f : Addr} {fd : FuncData} (E : En K mg) (M : Ms P w K mg base C CE) (F : Fun K "law" "law" s_law f fd) (c__law_pot : Ca P w K mg base 1 "_law_pot" (spPot K)) (c__law_draw : Ca P w K mg base 1 "_law_draw" spDraw) (c__law_word : Ca P w K mg base 2 "_law_word" spWord) (c__law_done : Ca P w K mg base 3 "_law_done" (spDone C)) (c__law_told : CaG P w K mg base 3 "_law_told" (spTold C)) (c__law_crash_right : CaG P w K mg base 5 "_law_crash_right" (spCR C)) : FnG P w K mg base 6 f fd ["_law_script"] (spLaw K) := by
  refine fnG_mk F sc_law (fun vs H Q E h => by obtain ⟨a, ns, rfl, _⟩ := h; rfl) (fun cdv A outer s H vs Q E' hg hr h => ?_)
  obtain ⟨sc, ns, rfl, hS, hn, q⟩ := h
  have hu64 : (A.deeper (envOfC "law" (defScope s_law) s.heap.objs.size f cdv)).units + 64 < cLine := by
    have := hr.un
    omega
  refine ⟨_, (pss_cons (ps_if (PW.pt (pw_or (pt_not (pt_cmpR (op_eqO M.eq (hr.mono (by first | decide | omega))) (pe_mkx0 M.make0 (hr.mono (by first | decide | omega)) (by rfl)) (pe_mkx M.make (hr.mono (by first | decide | omega)) (by rfl) (pa_cons pe_str pa_nil)) (nomark _))) (pw_or (pt_cmpR (op_eqO M.eq (hr.mono (by first | decide | omega))) (pe_mkx0 M.make0 (hr.mono (by first | decide | omega)) (by rfl)) pe_str (nomark _)) (pw_or (pt_cmpR (op_eqO M.eq (hr.mono (by first | decide | omega))) (pe_mkx0 M.make0 (hr.mono (by first | decide | omega)) (by rfl)) pe_non (nomark _)) (pw_or1 (pt_not (pt_val (pe_cg c__law_told (by exact hg) (hr.mono (by first | decide | omega)) (by rfl) (pa_cons (pe_mkx0 M.make0 (hr.mono (by first | decide | omega)) (by rfl)) (pa_cons (pe_lst (pa_cons pe_str (pa_cons pe_str pa_nil))) pa_nil)))))))))) (pss_one (ps_ret pe_bl)) pss_nil)
      (pss_cons (ps_for PassesOwn.never rfl (pi_range1 (by rfl) (E.fr (x := "range") (by decide +kernel)) (pa_cons (pe_callB (call_max2 rfl) (by rfl) (E.fr (x := "max") (by decide +kernel)) (by decide +kernel) (pa_cons pe_int (pa_cons (pe_callB (call_min2 rfl) (by rfl) (E.fr (x := "min") (by decide +kernel)) (by decide +kernel) (pa_cons (pe_callB (lenU (K := K) rfl) (by rfl) (E.fr (x := "len") (by decide +kernel)) (by decide +kernel) (pa_cons (pv 0) pa_nil)) (pa_cons pe_int pa_nil))) pa_nil))) pa_nil)) (pg_name (i := 1) sc_law.nd rfl (Or.inl rfl)) (pss_cons (ps_set (i := 2) sc_law.nd rfl (Or.inl rfl) (pe_ca c__law_pot (hr.mono (by first | decide | omega)) (by rfl) (pa_cons (pv 0) (pa_cons (pv 1) pa_nil))))
      (pss_cons (ps_set (i := 3) sc_law.nd rfl (Or.inl rfl) (pe_lst (pa_cons (pe_ca c__law_word (hr.mono (by first | decide | omega)) (by rfl) (pa_cons (pv 2) pa_nil)) (pa_cons (pe_ca c__law_word (hr.mono (by first | decide | omega)) (by rfl) (pa_cons (pv 2) pa_nil)) pa_nil))))
      (pss_cons (ps_par (i := 4) (j := 5) rfl sc_law.nd rfl rfl (by decide) rfl rfl (pa_cons (pe_lst (pa_cons (pe_mkx M.make (hr.mono (by first | decide | omega)) (by rfl) (pa_cons (pe_ix (ixU (K := K) rfl) (pv 3) pe_int (fun _ _ => rfl)) pa_nil)) (pa_cons (pe_mkk M.makeK (hr.mono (by first | decide | omega)) (by rfl) (pk_cons (pe_ix (ixU (K := K) rfl) (pv 3) pe_int (fun _ _ => rfl)) pk_nil)) pa_nil))) (pa_cons (pe_lst (pa_cons (pe_lst (pa_cons (pe_ix (ixU (K := K) rfl) (pv 3) pe_int (fun _ _ => rfl)) (pa_cons pe_str pa_nil))) (pa_cons (pe_lst (pa_cons (pe_ix (ixU (K := K) rfl) (pv 3) pe_int (fun _ _ => rfl)) (pa_cons pe_str pa_nil))) pa_nil))) pa_nil)) rfl)
      (pss_one (ps_for PassesOwn.never rfl (pi_range1 (by rfl) (E.fr (x := "range") (by decide +kernel)) (pa_cons (pe_op op_addU pe_int (pe_ca c__law_draw (hr.mono (by first | decide | omega)) (by rfl) (pa_cons (pv 2) (pa_cons pe_int pa_nil)))) pa_nil)) (pg_name (i := 6) sc_law.nd rfl (Or.inl rfl)) (pss_cons (ps_set (i := 7) sc_law.nd rfl (Or.inl rfl) (pe_ca c__law_draw (hr.mono (by first | decide | omega)) (by rfl) (pa_cons (pv 2) (pa_cons pe_int pa_nil))))
      (pss_cons (ps_asg (pe_ca c__law_done (hr.mono (by first | decide | omega)) (by rfl) (pa_cons (pv 2) (pa_cons (pe_ix (ixU (K := K) rfl) (pv 4) (pv 7) (fun _ _ => rfl)) (pa_cons (pe_ix (ixU (K := K) rfl) (pv 5) (pv 7) (fun _ _ => rfl)) pa_nil)))) (pg_sub (pv 5) (pv 7) set_list))
      (pss_cons (ps_if (PW.pt (pw_or (pt_cmpR op_isN (pe_ix (ixU (K := K) rfl) (pv 5) (pv 7) (fun _ _ => rfl)) pe_non (nomark _)) (pw_or (pt_not (pt_val (pe_cg c__law_told (by exact hg) (hr.mono (by first | decide | omega)) (by rfl) (pa_cons (pe_ix (ixU (K := K) rfl) (pv 4) pe_int (fun _ _ => rfl)) (pa_cons (pe_ix (ixU (K := K) rfl) (pv 5) pe_int (fun _ _ => rfl)) pa_nil))))) (pw_or1 (pt_not (pt_val (pe_cg c__law_told (by exact hg) (hr.mono (by first | decide | omega)) (by rfl) (pa_cons (pe_ix (ixU (K := K) rfl) (pv 4) pe_int (fun _ _ => rfl)) (pa_cons (pe_ix (ixU (K := K) rfl) (pv 5) pe_int (fun _ _ => rfl)) pa_nil))))))))) (pss_one (ps_ret pe_bl)) pss_nil)
      (pss_cons (ps_if (PW.pt (pw_or (pt_cmpR op_ne (pe_cmpR (op_eqO M.eq (hr.mono (by first | decide | omega))) (pe_ix (ixU (K := K) rfl) (pv 4) pe_int (fun _ _ => rfl)) (pe_ix (ixU (K := K) rfl) (pv 4) pe_int (fun _ _ => rfl)) (nomark _)) (pe_cmpR (op_eqX hu64) (pe_ix (ixU (K := K) rfl) (pv 5) pe_int (fun _ _ => rfl)) (pe_ix (ixU (K := K) rfl) (pv 5) pe_int (fun _ _ => rfl)) (nomark _)) (nomark _)) (pw_or1 (pt_not (pt_cmpR (op_eqO M.eq (hr.mono (by first | decide | omega))) (pe_ix (ixU (K := K) rfl) (pv 4) (pv 7) (fun _ _ => rfl)) (pe_ix (ixU (K := K) rfl) (pv 4) (pv 7) (fun _ _ => rfl)) (nomark _)))))) (pss_one (ps_ret pe_bl)) pss_nil)
      (pss_one (ps_if (pt_not (pt_val (pe_cg c__law_crash_right (by exact hg) (hr.mono (by first | decide | omega)) (by rfl) (pa_cons (pv 2) (pa_cons (pe_ix (ixU (K := K) rfl) (pv 4) (pv 7) (fun _ _ => rfl)) (pa_cons (pe_ix (ixU (K := K) rfl) (pv 5) (pv 7) (fun _ _ => rfl)) pa_nil)))))) (pss_one (ps_ret pe_bl)) pss_nil))))))))))))
      (pss_one (ps_ret pe_bl)))), ?_⟩
  have seq : ∀ {H1}, Gr Vo.non H H1 → SqL K H1 sc (ns.map V.int) := fun {H1} g => by
    rcases hS with (h | ⟨o, h⟩) | h
    · exact .inl (.inl (g _ _ (nv_non _) h))
    · exact .inl (.inr ⟨o, g _ _ (nv_non _) h⟩)
    · exact .inr h
  have two : 2 ≤ sizeLine := by rw [sizeLine_eq]; exact Nat.le_of_ble_eq_true rfl
  have z0 : ("" : Str).length ≤ 100000 := by show 0 ≤ 100000; omega
  have gE : GT 5000 ("" : Str) := gt_of (by decide +kernel) (by decide +kernel)
  refine q_ifr (v := .bl false) (b := false) (Iv.non H) (k_to (k_or (k_not (k_test (b := true) (x_to (x_eqS (x_mk0 z0) (x_mk e_cx z0)) (by rw [decide_eq_true rfl, decide_eq_true rfl]; rfl)))) fun _ => k_or (k_test (b := false) (x_eqSO (x_mk0 z0) (.inl ⟨_, rfl⟩))) fun _ => k_or (k_test (b := false) (x_eqSO (x_mk0 z0) (.inr rfl))) fun _ => k_not (k_b (b := true) (x_toldD (a := "") (x_mk0 z0) (x_lst (ws := [.str "", .str ""]) (a_cons e_cx (a_cons e_cx a_nil)) two) gE))) rfl) (fun _ => e_cx) (fun e => nomatch e) fun _ H2 i2 g2 => ?_
  refine q_forR (p := Vo.non) (C := fun n => 1 ≤ n ∧ n ≤ 6) i2 (x_max (c := fun i => i = 1) (d := fun j => 0 ≤ j ∧ j ≤ 6) (e_ci rfl) (x_min (c := fun i => i = ((ns.map V.int).length : Int)) (d := fun j => j = 6) (e_sxi (x_lenQ (xs := ns.map V.int) (e_vx rfl) fun v H3 g e => ⟨sc, e, .inl (seq (g2.trans g))⟩) rfl) (e_ci rfl) fun i j hi hj => by
    show 0 ≤ (if j < i then j else i) ∧ (if j < i then j else i) ≤ 6
    split <;> omega) fun i j hi hj => by
    show 1 ≤ (if j > i then j else i) ∧ (if j > i then j else i) ≤ 6
    split <;> omega) (fun n hn => by omega) (fun _ σ' H' => ∃ (x1 x2 x3 x4 x5 x6 x7 : Option V), σ' = [some (.ref sc), x1, x2, x3, x4, x5, x6, x7] ∧ Gr Vo.non H H') (fun H3 i3 g23 => ⟨none, none, none, none, none, none, none, rfl, g2.trans g23⟩) (fun n hn i0 σ' H' hi hP => ?_) fun n hn σ' H' hP => ?_
  · obtain ⟨y1, y2, y3, y4, y5, y6, y7, rfl, g⟩ := hP
    refine ⟨.ref sc, rfl, .int (0 + (i0 : Nat)), rfl, sc, ns, 0 + (i0 : Nat), rfl, seq g, by omega, by omega, fun Pa H4 g4 hb hP => ?_⟩
    have gB := g.trans g4
    have hPa0 : H Pa = none := g.free (nv_non Pa) hb
    refine q_asg (p := Vo.of Pa) (A := sl (fun vs _ => ∃ z0 z1, vs = [.str z0, .str z1] ∧ GT 15 z0 ∧ GT 15 z1) fun _ _ _ _ h => h) (Iv.pot1 hP) (e_lst (As := [ss fun z => GT 15 z, ss fun z => GT 15 z]) (a_cons (x_word rfl (e_vx rfl)) (a_cons (x_word rfl (e_vx rfl)) a_nil)) two fun vs a H5 iv g5 os na ha => by
      obtain ⟨v1, w1, rfl, ⟨z1, rfl, hz1⟩, v2, w2, rfl, ⟨z2, rfl, hz2⟩, rfl⟩ := os
      exact ⟨a, _, rfl, na, ha, z1, z2, rfl, hz1, hz2⟩) fun v5 H5 i5 g5 hv5 => ?_
    obtain ⟨W, us, rfl, nW, hW, za, zb, rfl, hza, hzb⟩ := hv5
    have hP5 := (i5.pot Pa rfl).1
    have g05 : Gr Vo.non H H5 := fun x o n h => g5 x o (nv_of fun e => by rw [← e, hPa0] at h; cases h) (gB x o n h)
    have la := hza.ln
    have lb := hzb.ln
    have w0 : ∀ {σ : L2.St} {H6 : Hp}, Gr Vo.non H5 H6 → σ[3]? = some (some (.ref W)) → Ev Vo.non (tOp (rIx K) (tVar 3) (tC (.int 0))) σ H6 (sx (.str za)) := fun g6 h => x_ixQ (xs := [.str za, .str zb]) (e_vx h) (fun v H7 g7 e => ⟨W, e, .inl (SqL.of ((g6.trans g7) W _ (nv_non W) hW))⟩) e_cx (atI_nat (j := 0) rfl)
    have w1 : ∀ {σ : L2.St} {H6 : Hp}, Gr Vo.non H5 H6 → σ[3]? = some (some (.ref W)) → Ev Vo.non (tOp (rIx K) (tVar 3) (tC (.int 1))) σ H6 (sx (.str zb)) := fun g6 h => x_ixQ (xs := [.str za, .str zb]) (e_vx h) (fun v H7 g7 e => ⟨W, e, .inl (SqL.of ((g6.trans g7) W _ (nv_non W) hW))⟩) e_cx (atI_nat (j := 1) rfl)
    refine q_mk2 (w0 (Gr.refl H5) rfl) (fun H6 g6 => w1 g6 rfl) (by omega) (by omega) fun d0 x0 d1 x1 L H7 g57 hd05 hd15 nd hd07 hd17 hL => ?_
    refine l_two (us := [.str za, .str ""]) (ws := [.str zb, .str ""]) (x_lst (a_cons (w0 g57 rfl) (a_cons e_cx a_nil)) two) (fun H8 g8 => x_lst (a_cons (w1 (g57.trans g8) rfl) (a_cons e_cx a_nil)) two) fun q0 q1 Mx Hb g7b hM7 hM hq0 hq1 => ?_
    refine ⟨.ref L, .ref Mx, rfl, ?_⟩
    have g5b := g57.trans g7b
    have hd00 : H d0 = none := g05.free (nv_non d0) hd05
    have hd10 : H d1 = none := g05.free (nv_non d1) hd15
    have hM0 : H Mx = none := (g05.trans g57).free (nv_non Mx) hM7
    have st0 : St C L Mx d0 d1 x0 x1 (15 + 15 * 0) Hb q0 q1 za "" zb "" :=
      ⟨g7b L _ (nv_non L) hL, hM, by rw [app_nil]; exact g7b d0 _ (nv_non d0) hd07, by rw [app_nil]; exact g7b d1 _ (nv_non d1) hd17, hq0, hq1, ⟨by have : ("" : Str).length = 0 := rfl; omega, hza.ch, chars_nil⟩, ⟨by have : ("" : Str).length = 0 := rfl; omega, hzb.ch, chars_nil⟩⟩
    have hPb : Pot Hb Pa := Pot.gr hP5 g5b
    have g0b := g05.trans g5b
    refine s_forR (p := Vo.of Pa) (C := fun n => 1 ≤ n ∧ n ≤ 12) (Iv.pot1 hPb) (e_addI (c := fun i => i = 1) (d := fun i => 0 ≤ i ∧ i < 12) (e_ci rfl) (e_drawN (n := 12) rfl (e_vx rfl) e_cx (by decide) (by decide)) fun i j hi hj => by omega) (fun n hn => by omega)
      (fun i σ' H' => (∃ o6 o7, σ' = [some (.ref sc), some (.int (0 + (i0 : Nat))), some (.ref Pa), some (.ref W), some (.ref L), some (.ref Mx), o6, o7]) ∧ Gr Vo.non H H' ∧ Pot H' Pa ∧ ∃ q0 q1 a0 b0 a1 b1, St C L Mx d0 d1 x0 x1 (15 + 15 * i) H' q0 q1 a0 b0 a1 b1)
      (fun H11 i11 g11 => ⟨⟨_, _, rfl⟩, fun x o n h => g11 x o (nv_of fun e => by rw [← e, hPa0] at h; cases h) (g0b x o n h), (i11.pot Pa rfl).1, q0, q1, za, "", zb, "", st0.drawn hPb g11⟩) (fun n2 hn2 j σ' H' hj hI => ?_) fun n2 hn2 σ' H' hI => ?_
    · obtain ⟨⟨o6, o7, rfl⟩, gI, hPI, q0', q1', a0, b0, a1, b1, st⟩ := hI
      have hN : 15 + 15 * j ≤ 1000 := by omega
      refine q_asg (p := Vo.of Pa) (A := si fun r => 0 ≤ r ∧ r < 2) (Iv.pot1 hPI) (e_drawN rfl (e_vx rfl) e_cx (by decide) (by decide)) fun v H1 i1 g1 hv => ?_
      obtain ⟨t, rfl, t0, t1⟩ := hv
      have hP1 := (i1.pot Pa rfl).1
      have st1 := st.drawn hPI g1
      have gI1 : Gr Vo.non H H1 := fun x o n h => g1 x o (nv_of fun e => by rw [← e, hPa0] at h; cases h) (gI x o n h)
      obtain ⟨dc, xc, qc, ac, bc, hdc, at1, at2, hdc1, hqc1, prc, step⟩ := st1.turn hP1 nd t0 t1
      have ix : ∀ {p : Vo} {σ : L2.St} {H5 : Hp} {c e : Addr} {k m : Nat} {i : Int} {v w : V} {x : V} {te : TE}, H5 c = some (.lst [v, w]) → Nv p c → σ[k]? = some (some (.ref c)) → Ev p te σ H5 (sx (.int i)) → atI [v, w] i = some x → Ev p (tOp (rIx K) (tVar k) te) σ H5 (sx x) := fun {p σ H5 c e k m i v w x te} hc nc hk hi hx =>
        x_ixQ (xs := [v, w]) (e_vx hk) (fun v2 H6 g6 e => ⟨c, e, .inl (SqL.of (g6 c _ nc hc))⟩) hi hx
      refine q_callS (p := Vo.non) (ws := [V.ref Pa, .ref dc, .ref qc]) (Iv.non H1) (a_cons (e_vx rfl) (a_cons (ix (e := 0) (m := 0) st1.hL (nv_non L) rfl (e_vx rfl) at1) (a_cons (ix (e := 0) (m := 0) st1.hM (nv_non Mx) rfl (e_vx rfl) at2) a_nil))) fun H2 _ g2 => ?_
      refine ⟨Pa, dc, xc, qc, ac, bc, 15 + 15 * j, rfl, Pot.gr hP1 g2, g2 dc _ (nv_non dc) hdc1, g2 qc _ (nv_non qc) hqc1, prc, hN, fun H3 r a' b' hP3 keep hd3 hr3 pr3 => ?_⟩
      have keep1 : ∀ x o, x ≠ Pa → x ≠ dc → H1 x = some o → H3 x = some o := fun x o n1 n2 h => keep x o n1 n2 (g2 x _ (nv_non x) h)
      obtain ⟨jj, q0n, q1n, c0, e0, c1, e1, hjj, hM3, st4⟩ := step H3 r a' b' keep1 hd3 hr3 pr3
      refine ⟨.ref Mx, rfl, .int t, rfl, Mx, _, t, jj, rfl, rfl, hM3, hjj, ?_⟩
      have hdc0 : H dc = none := by
        rcases hdc with e | e <;> rw [e]
        · exact hd00
        · exact hd10
      have hP4 : Pot (upd H3 Mx (.lst ([V.ref q0', .ref q1'].set jj (.ref r)))) Pa := Pot.gr2 hP3 (Gr.refl H3) (pot_ne hP3 hM3 fun i j e => by cases e)
      have gI4 : Gr Vo.non H (upd H3 Mx (.lst ([V.ref q0', .ref q1'].set jj (.ref r)))) := Gr.mut (fun x o n h => keep1 x o (fun e => by rw [e, hPa0] at h; cases h) (fun e => by rw [e, hdc0] at h; cases h) (gI1 x o n h)) hM0
      generalize upd H3 Mx (.lst ([V.ref q0', .ref q1'].set jj (.ref r))) = H4' at st4 hP4 gI4 ⊢
      have hN2 : 15 + 15 * j + 15 ≤ 1000 := by omega
      obtain ⟨d', x', q', a', b', hd', at1, at2, hd4, hq4, pr4, _⟩ := st4.turn hP4 nd t0 t1
      have tl : ∀ {x q : Addr} {xx : Addr} {a b : Str} {ta tb : TE} {σ : L2.St}, Ev Vo.non ta σ H4' (sx (.ref x)) → Ev Vo.non tb σ H4' (sx (.ref q)) → H4' x = some (dsk C xx (a ++ b) a.length) → H4' q = some (.lst [.str a, .str b]) → Pr2 (15 + 15 * j + 15) a b → Ev Vo.non (tCall (spTold C) [] E0 (tCons ta (tCons tb tNil))) σ H4' (sx (.bl true)) := fun h1 h2 h3 h4 h5 =>
        x_toldV h1 h3 h2 h4 (h5.a.mono (by omega)) (h5.b.mono (by omega))
      refine q_ifr (v := .bl false) (b := false) (Iv.non H4') (k_to (k_or (k_test (b := false) (x_to (x_isN (ix (e := 0) (m := 0) st4.hM (nv_non Mx) rfl (e_vx rfl) at2)) (by rw [decide_eq_false (fun e => by cases e)]))) fun _ => k_or (k_not (k_b (b := true) (tl (ix (e := 0) (m := 0) st4.hL (nv_non L) rfl e_cx (atI_nat (j := 0) rfl)) (ix (e := 0) (m := 0) st4.hM (nv_non Mx) rfl e_cx (atI_nat (j := 0) rfl)) st4.e0 st4.r0 st4.p0))) fun _ => k_not (k_b (b := true) (tl (ix (e := 0) (m := 0) st4.hL (nv_non L) rfl e_cx (atI_nat (j := 1) rfl)) (ix (e := 0) (m := 0) st4.hM (nv_non Mx) rfl e_cx (atI_nat (j := 1) rfl)) st4.e1 st4.r1 st4.p1))) rfl) (fun _ => e_cx) (fun e => nomatch e) fun _ H5 _ g5 => ?_
      have st5 := st4.gr g5
      have hd5 := g5 d' _ (nv_non d') hd4
      have same : ∀ {y : Str} {n : Int}, (decide (V.str y = V.str y) && decide (V.int n = V.int n)) = true := fun {y n} => by rw [decide_eq_true rfl, decide_eq_true rfl]; rfl
      have fl : ∀ {x y : Str}, Paired FlatE [V.str x, .str y] [.str x, .str y] := fun {x y} => .cons (.str x) (.cons (.str y) .nil)
      refine q_ifr (v := .bl false) (b := false) (Iv.non H5) (k_to (k_or (k_test (b := false) (x_to (x_ne (x_eqD (ix (e := 0) (m := 0) st5.hL (nv_non L) rfl e_cx (atI_nat (j := 0) rfl)) (ix (e := 0) (m := 0) st5.hL (nv_non L) rfl e_cx (atI_nat (j := 1) rfl)) (fun H6 _ g => g d0 _ (nv_non d0) st5.e0) (fun H6 _ g => g d1 _ (nv_non d1) st5.e1)) (x_eqXs (ev_slx (ix (e := 0) (m := 0) st5.hM (nv_non Mx) rfl e_cx (atI_nat (j := 0) rfl)) (nv_non _) st5.r0) (ev_slx (ix (e := 0) (m := 0) st5.hM (nv_non Mx) rfl e_cx (atI_nat (j := 1) rfl)) (nv_non _) st5.r1) fl fl (shaped2 st5.p0.a.ok st5.p0.b.ok) (shaped2 st5.p1.a.ok st5.p1.b.ok)) rfl) (by rw [eq_agree, decide_eq_true rfl]; rfl))) fun _ => k_not (k_test (b := true) (x_to (x_eqD (ix (e := 0) (m := 0) st5.hL (nv_non L) rfl (e_vx rfl) at1) (ix (e := 0) (m := 0) st5.hL (nv_non L) rfl (e_vx rfl) at1) (fun H6 _ g => g d' _ (nv_non d') hd5) (fun H6 _ g => g d' _ (nv_non d') hd5)) (by rw [same])))) rfl) (fun _ => e_cx) (fun e => nomatch e) fun _ H6 _ g6 => ?_
      have st6 := st5.gr g6
      have hP6 := Pot.gr hP4 (g5.trans g6)
      have hd6 := g6 d' _ (nv_non d') hd5
      have hq6 := (g5.trans g6) q' _ (nv_non q') hq4
      have nL := pot_ne hP6 st6.hL fun i j e => by cases e
      have nM := pot_ne hP6 st6.hM fun i j e => by cases e
      have nd' := pot_ne hP6 hd6 fun i j e => by cases e
      have nq' := pot_ne hP6 hq6 fun i j e => by cases e
      refine s_ifr (p := Vo.of Pa) (v := .bl false) (b := false) (Iv.pot1 hP6) (k_to (k_not (k_b (b := true) ?cr)) rfl) (fun _ => e_cx) (fun e => nomatch e) fun _ H7 i7 g7 => ?_
      case cr =>
        exact e_call (a_cons (e_vx rfl) (a_cons (ix (e := 0) (m := 0) st6.hL (nv_of nL) rfl (e_vx rfl) at1) (a_cons (ix (e := 0) (m := 0) st6.hM (nv_of nM) rfl (e_vx rfl) at2) a_nil))) fun vs H7 i7 g7 os Q' qq => by
          rw [oks_x (ws := [V.ref Pa, .ref d', .ref q']) os]
          exact ⟨Pa, d', x', q', a', b', rfl, (i7.pot Pa rfl).1, g7 d' _ (nv_of nd') hd6, g7 q' _ (nv_of nq') hq6, pr4.a.mono (by omega), pr4.b.mono (by omega), fun H8 hP8 g8 => qq _ H8 (Iv.pot1 hP8) g8 rfl⟩
      refine ⟨⟨_, _, rfl⟩, fun x o n h => g7 x o (nv_of fun e => by rw [← e, hPa0] at h; cases h) ((gI4.trans (g5.trans g6)) x o n h), (i7.pot Pa rfl).1, q0n, q1n, c0, e0, c1, e1, ?_⟩
      have := st6.drawn hP6 g7
      rw [show 15 + 15 * (j + 1) = 15 + 15 * j + 15 by omega]
      exact this
    · obtain ⟨⟨o6, o7, rfl⟩, gE, _⟩ := hI
      exact ⟨_, _, _, _, _, _, _, rfl, gE⟩
  · obtain ⟨x1, x2, x3, x4, x5, x6, x7, rfl, g⟩ := hP
    exact q H'
end
end K73
namespace K73
open PySem PySem.Spec PyProof.Rows L2 Hk
/-! ### what the top leaves -/
def dd_is_integer : He.DefD := ⟨("is_integer", none), "is_integer", "is_integer", defArgs s_is_integer, defBody s_is_integer, defScope s_is_integer, [], []⟩
def dd_is_moment : He.DefD := ⟨("is_moment", none), "is_moment", "is_moment", defArgs s_is_moment, defBody s_is_moment, defScope s_is_moment, [], []⟩
def dd__law_pot : He.DefD := ⟨("_law_pot", none), "_law_pot", "_law_pot", defArgs s__law_pot, defBody s__law_pot, defScope s__law_pot, [], []⟩
def dd__law_draw : He.DefD := ⟨("_law_draw", none), "_law_draw", "_law_draw", defArgs s__law_draw, defBody s__law_draw, defScope s__law_draw, [], []⟩
def dd__law_choice : He.DefD := ⟨("_law_choice", none), "_law_choice", "_law_choice", defArgs s__law_choice, defBody s__law_choice, defScope s__law_choice, [], []⟩
def dd__law_word : He.DefD := ⟨("_law_word", none), "_law_word", "_law_word", defArgs s__law_word, defBody s__law_word, defScope s__law_word, [], []⟩
def dd__law_told : He.DefD := ⟨("_law_told", none), "_law_told", "_law_told", defArgs s__law_told, defBody s__law_told, defScope s__law_told, [], []⟩
def dd__law_refused : He.DefD := ⟨("_law_refused", none), "_law_refused", "_law_refused", defArgs s__law_refused, defBody s__law_refused, defScope s__law_refused, [], []⟩
def dd__law_crash_right : He.DefD := ⟨("_law_crash_right", none), "_law_crash_right", "_law_crash_right", defArgs s__law_crash_right, defBody s__law_crash_right, defScope s__law_crash_right, [], []⟩
def dd__law_done : He.DefD := ⟨("_law_done", none), "_law_done", "_law_done", defArgs s__law_done, defBody s__law_done, defScope s__law_done, [], []⟩
def dd_law : He.DefD := ⟨("law", none), "law", "law", defArgs s_law, defBody s_law, defScope s_law, [], []⟩
def dd_D_init : He.DefD := ⟨("Disk", some "__init__"), "__init__", "Disk.__init__", defArgs s_D_init, defBody s_D_init, defScope s_D_init, [.str ""], []⟩
def dd_D_write : He.DefD := ⟨("Disk", some "write"), "write", "Disk.write", defArgs s_D_write, defBody s_D_write, defScope s_D_write, [], []⟩
def dd_D_flush : He.DefD := ⟨("Disk", some "flush"), "flush", "Disk.flush", defArgs s_D_flush, defBody s_D_flush, defScope s_D_flush, [], []⟩
def dd_D_replace : He.DefD := ⟨("Disk", some "replace"), "replace", "Disk.replace", defArgs s_D_replace, defBody s_D_replace, defScope s_D_replace, [], []⟩
def dd_D_text : He.DefD := ⟨("Disk", some "text"), "text", "Disk.text", defArgs s_D_text, defBody s_D_text, defScope s_D_text, [], []⟩
def dd_D_crash : He.DefD := ⟨("Disk", some "crash"), "crash", "Disk.crash", defArgs s_D_crash, defBody s_D_crash, defScope s_D_crash, [.int 0], []⟩
def dd_D_eq : He.DefD := ⟨("Disk", some "__eq__"), "__eq__", "Disk.__eq__", defArgs s_D_eq, defBody s_D_eq, defScope s_D_eq, [], []⟩
def dd_D_len : He.DefD := ⟨("Disk", some "__len__"), "__len__", "Disk.__len__", defArgs s_D_len, defBody s_D_len, defScope s_D_len, [], []⟩
def dd_D_flushed : He.DefD := ⟨("Disk", some "flushed"), "flushed", "Disk.flushed", defArgs s_D_flushed, defBody s_D_flushed, defScope s_D_flushed, [], []⟩
def fn : List He.DefD := [dd_is_integer, dd_is_moment, dd__law_pot, dd__law_draw, dd__law_choice, dd__law_word, dd__law_told, dd__law_refused, dd__law_crash_right, dd__law_done, dd_law, dd_D_init, dd_D_write, dd_D_flush, dd_D_replace, dd_D_text, dd_D_crash, dd_D_eq, dd_D_len]
def fa1 : List He.Fa := [.glo "is_integer", .glo "is_moment", .glo "_law_pot", .glo "_law_draw", .glo "_law_choice", .glo "_law_word", .glo "_law_told", .glo "_law_refused", .glo "_law_crash_right", .glo "_law_done", .glo "law", .glo "Disk", .glo "InvalidCount", .glo "HeldoverError", .glo "MissingError"]
def fa2 : List He.Fa := frees.map He.Fa.free
def fa3 : List He.Fa := [.cls "Disk", .noat "Disk" "_text", .noat "Disk" "_flushed", .meth "Disk" "write", .meth "Disk" "flush", .meth "Disk" "replace", .meth "Disk" "text", .meth "Disk" "crash", .mkr "Disk"]
def loose1 : List PySem.Str := ["HeldoverError", "InvalidCount", "MissingError", "is_integer", "is_moment", "Disk", "_law_pot", "_law_draw", "_law_choice", "_law_word", "_law_told", "_law_refused", "_law_crash_right", "_law_done"]
def inner : Stmt → Stmt
  | .ClassDef _ _ _ (b :: _) _ _ _ _ _ _ _ => b
  | s => s
def initSt : Stmt := inner (top 2)
def lawFile : Str := PySem.Challenge.pw_heldover_k73_disks.main.file
/-- the error's __init__, as it stands -/
abbrev IW : Type := Option (Str × Str × Arguments × FuncBody × Scope × Addr × List Str × Addr × Bool)
def cE (K : PySem.W.Frag) : Addr := He.ga K "InvalidCount"
def iE (K : PySem.W.Frag) : Addr := He.ma K (cE K) "__init__"
def fileOf : Option Value → Bool
  | some (Value.str f _) => decide (f = lawFile)
  | _ => false
def codeFile (K : PySem.W.Frag) : Value → Bool
  | .ref cda => (match K.lookup cda with
    | some ⟨_, _, .fields vs, _⟩ => fileOf vs[2]?
    | _ => false)
  | _ => false
def cellOf (K : PySem.W.Frag) : List (Str × Addr) → Bool
  | [(_, cc)] => (match K.lookup cc with
    | some ⟨_, _, .cell (some (.ref c)), _⟩ => decide (c = cE K)
    | _ => false)
  | _ => false
def restB (K : PySem.W.Frag) (fd : FuncData) : Bool := decide (fd.defaults = .none) && (decide (fd.kwdefaults = .none) && (PySem.W.codeIn K fd.code fd.qualname && (codeFile K fd.code && cellOf K fd.closure)))
def iw (K : PySem.W.Frag) : IW := match K.lookup (iE K) with
  | some ⟨_, _, .func fd, _⟩ => some (fd.name, fd.qualname, fd.params, fd.body, fd.scope, fd.globals, fd.closure.map (·.1), fd.builtins, restB K fd)
  | _ => none
def iwV : IW := some ("__init__", "InvalidCount.__init__", defArgs initSt, .stmts (defBody initSt), defScope initSt, mainGlobals, ["__class__"], builtinsNs, true)
def clB (K : PySem.W.Frag) (C : Addr) : Bool := match K.lookup C with
  | some ⟨cl, _, .cls cd, sl⟩ => decide (cl = .type "type") && (!cd.hasDel && (cd.hasDict && ((match cd.mro with
      | m :: bm => decide (m = .ref C) && PySem.HandSPX.refsVE bm
      | [] => false) && (match sl.toList with
      | [_, _, _, _, some (.builtin n), _] => decide (n = "ValueError.__new__")
      | _ => false))))
  | _ => false
def e1B (K : PySem.W.Frag) (C : Addr) : Bool :=
  decide (PySem.W.findIn K (.ref C) "__setattr__" = some (some (.builtin "object.__setattr__"))) && (decide (PySem.W.findIn K (.ref C) "value" = some none) && (decide (PySem.W.findIn K (.ref C) "__init__" = some (some (.ref (iE K)))) && (decide (PySem.W.typeIn K (.ref (iE K)) = some (.type "function")) && (PySem.W.keepIn K (.ref C) && (decide (PySem.W.subIn K (.ref C) (.type "BaseException") = some true) &&
  (decide (PySem.W.subIn K (.ref C) (.type "ValueError") = some true) && (decide (PySem.W.mroIn K C (.ref C) = some true) && (decide (PySem.W.ks_superIn K C C "__init__" = some (some (.builtin "ValueError.__init__"))) && (decide (PySem.W.typeIn K (.ref C) = some (.type "type")) && (PySem.W.hasDictIn K C && decide (PySem.W.nsIn K cStatics "thirdparty.any" = some none)))))))))))
def e2B (K : PySem.W.Frag) (C : Addr) : Bool :=
  decide (PySem.W.findIn K (.ref C) "__getattribute__" = some (some (.builtin "BaseException.__getattribute__"))) && (decide (PySem.W.findIn K (.ref C) "__getattr__" = some none) && (decide (PySem.W.findIn K (.ref C) "__class__" = some (some (.builtin "object.__class__"))) && (decide (PySem.W.specialIn K (.builtin "object.__class__") "__get__" = some (some (.builtin "getset_descriptor.__get__"))) && (decide (PySem.W.takesIn K (.builtin "object.__class__") = some true) && decide (PySem.W.mroIn K C (.type "object") = some true)))))

def dA (K : PySem.W.Frag) : Addr := He.ga K "Disk"
def pA (K : PySem.W.Frag) : Addr := He.ma K (dA K) "flushed"
def gA (K : PySem.W.Frag) : Addr := match PySem.W.recIn K (pA K) "property" with
  | some (.ref g :: _) => g
  | _ => 0
def gw (K : PySem.W.Frag) : He.FnW := match K.lookup (gA K) with
  | some ⟨_, _, .func fd, _⟩ => some (fd.name, fd.qualname, fd.params, fd.body, fd.scope, fd.globals, fd.closure, fd.builtins)
  | _ => none
def gok (K : PySem.W.Frag) : Bool := PySem.W.keepIn K (.ref (gA K)) && (match K.lookup (gA K) with
  | some ⟨_, _, .func fd, _⟩ => PySem.W.codeIn K fd.code "Disk.flushed" && (He.dflB K fd.defaults [] && He.kwdB K fd.kwdefaults [])
  | _ => false)
def d1B (K : PySem.W.Frag) (D : Addr) : Bool :=
  decide (PySem.W.findIn K (.ref D) "__class__" = some (some (.builtin "object.__class__"))) && (decide (PySem.W.specialIn K (.builtin "object.__class__") "__get__" = some (some (.builtin "getset_descriptor.__get__"))) && (decide (PySem.W.takesIn K (.builtin "object.__class__") = some true) && (decide (PySem.W.mroIn K D (.type "object") = some true) && (decide (PySem.W.kitOne K (.ref D) (.ref D) = some true) &&
  (decide (PySem.W.kitOne K (.type "str") (.ref D) = some false) && (decide (PySem.W.kitOne K (.type "NoneType") (.ref D) = some false) && (decide (PySem.W.subIn K (.type "str") (.ref D) = some false) && decide (PySem.W.subIn K (.type "NoneType") (.ref D) = some false))))))))
def d2B (K : PySem.W.Frag) (D : Addr) : Bool :=
  decide (PySem.W.findIn K (.ref D) "__eq__" = some (some (.ref (He.ma K D "__eq__")))) && (PySem.W.isFn K (.ref (He.ma K D "__eq__")) && (decide (PySem.W.findIn K (.ref D) "__len__" = some (some (.ref (He.ma K D "__len__")))) && (PySem.W.isFn K (.ref (He.ma K D "__len__")) && (decide (PySem.W.findIn K (.ref D) "flushed" = some (some (.ref (pA K)))) &&
  (decide (PySem.W.specialIn K (.ref (pA K)) "__get__" = some (some (.builtin "property.__get__"))) && (decide (PySem.W.takesIn K (.ref (pA K)) = some true) && ((match PySem.W.recIn K (pA K) "property" with
    | some (.ref _ :: _) => true
    | _ => false) && gok K)))))))
def e3B (K : PySem.W.Frag) (C : Addr) : Bool :=
  decide (PySem.W.exmOne K (.ref C) (.ref C) = some true) && (decide (PySem.W.kitOne K (.ref C) (.ref (He.ga K "HeldoverError")) = some true) && decide (PySem.W.kitOne K (.ref C) (.ref (He.ga K "MissingError")) = some false))
def exB (K : PySem.W.Frag) : Bool := clB K (cE K) && (e1B K (cE K) && (e2B K (cE K) && (e3B K (cE K) && (d1B K (dA K) && d2B K (dA K)))))
def fas : List He.Fa := fa1 ++ fa2 ++ fa3
def asX (g : Addr → Option Obj) : List Addr := cStatics :: He.asD g 5
def hk73 : PySem.W.Hook where
  α := He.AlD × IW × He.FnW × Bool
  obs := fun sh => (He.obsD fas fn (He.frG sh.heap.get? (asX sh.heap.get?)), iw (He.frG sh.heap.get? (asX sh.heap.get?)), gw (He.frG sh.heap.get? (asX sh.heap.get?)), exB (He.frG sh.heap.get? (asX sh.heap.get?)))
  val := fun _ => (He.valD fn, iwV, dd_D_flushed.val, true)
  says := fun _ hp => ∃ F : PySem.W.Frag, F.In hp ∧ He.SaysD fas fn F ∧ iw F = iwV ∧ gw F = dd_D_flushed.val ∧ exB F = true
  of := fun _ _ z => ⟨_, He.frG_in, congrArg (fun y : He.AlD × IW × He.FnW × Bool => y.1) z, congrArg (fun y : He.AlD × IW × He.FnW × Bool => y.2.1) z, congrArg (fun y : He.AlD × IW × He.FnW × Bool => y.2.2.1) z, congrArg (fun y : He.AlD × IW × He.FnW × Bool => y.2.2.2) z⟩
  keeps := fun _ _ _ x kp => Exists.elim x fun F y => ⟨F, PySem.W.Frag.In.keeps y.1 kp, y.2⟩
abbrev R73 : PySem.W.OpenRow := PySem.W.OpenLaw.row PySem.Challenge.rw_heldover_k73_disks
def ob73 (sh : PySem.W.SharedT) : He.AlD × IW × He.FnW × Bool := (He.obsD fas fn (He.frG (HandSHeadRun.getT sh) (asX (HandSHeadRun.getT sh))), iw (He.frG (HandSHeadRun.getT sh) (asX (HandSHeadRun.getT sh))), gw (He.frG (HandSHeadRun.getT sh) (asX (HandSHeadRun.getT sh))), exB (He.frG (HandSHeadRun.getT sh) (asX (HandSHeadRun.getT sh))))
theorem ob73_eq (sh : PySem.W.SharedT) : ob73 sh = hk73.obs sh.abs := by
  have z : HandSHeadRun.getT sh = sh.abs.heap.get? := funext fun b => HandSHeadRun.getT_eq sh b
  unfold ob73
  rw [z]
  rfl
theorem run73 (w : World) : HandSHeadRun.RunEq R73 (PySem.W.view R73.prog [19]) hk73 ob73 3000 loose1 w := by
  intro os
  kernel_rfl
end K73
namespace Hk
open PySem PySem.Spec PyProof.Rows L2
/-- a def without defaults, as the head tells it -/
theorem fun_of {K : PySem.W.Frag} {x : Str} {st : Stmt} {f : Addr} {fd : FuncData} (F : FunD K x x (defArgs st) (defBody st) (defScope st) [] [] f fd) : Fun K x x st f fd := by
  obtain ⟨oc, od, dV, kV, doc, pm, an, cdv, ct, osl, rfl, lk, hcd, hD, _⟩ := F.ex
  rcases hD with ⟨_, rfl⟩ | ⟨e, _⟩
  · exact ⟨⟨oc, od, kV, doc, pm, an, cdv, ct, osl, rfl, lk, hcd⟩, F.kp⟩
  · exact absurd rfl e
/-- the promise of the law's def, where nothing is being shown, at the heap behind the top: the script alone is tracked, and stays -/
theorem callG_end {P : Program} {w : World} {K : PySem.W.Frag} {mg mb : Str → Option Value} {k : Nat} {fa a : Addr} {fd : FuncData} {x : Str} {sp : Sp} {s : Shared} {us : List Value} {ns : List Int}
    (inK : K.In s.heap) (nG : s.heap.Ns mainGlobals mg) (nB : s.heap.Ns builtinsNs mb) (bB : ∀ y : Str, y ≠ "__name__" → mb y = bootBuiltins y) (nL : s.heap.NoLimit) (gn : s.gens = #[])
    (oa : s.heap.get? a = some { cls := .type "list", data := .seq us.toArray }) (ia : IntsAre us ns) (la : ns.length ≤ sizeLine) (room : Room k callerA)
    (F : ∀ base : Heap, K.In base → base.Ns mainGlobals mg → FnG P w K mg base k fa fd [x] sp) (bd : ∀ (s : Shared) (u : Value), BindsTo s fd ⟨[u], []⟩ [(x, u)])
    (due : ∀ H : Hp, SqL K H a (ns.map V.int) → sp [.ref a] H (fun v _ => v = .bl true) fun _ _ _ => False) :
    codeAny (model P w) callerA (.call (.ref fa) ⟨[.ref a], []⟩) (fun r s' => r = .ok (.ret (.bool true)) ∧ OldK s.heap s'.heap ∧ s'.os = s.os ∧ AllBare s'.gens) s := by
  have rel := vals_ints ia
  have go : ∀ H : Hp, (∀ b u, H b = some u → b = a ∧ u = .frz { cls := .type "list", data := .seq us.toArray } (.lst (ns.map V.int))) → (H a = none ∨ K.lookup a = none) → SqL K H a (ns.map V.int) →
      codeAny (model P w) callerA (.call (.ref fa) ⟨[.ref a], []⟩) (fun r s' => r = .ok (.ret (.bool true)) ∧ OldK s.heap s'.heap ∧ s'.os = s.os ∧ AllBare s'.gens) s := by
    intro H only lone sq
    have off : ∀ {b : Addr}, b ≠ a → H b = none := fun {b} n => by
      cases q : H b with
      | none => rfl
      | some u => exact absurd (only b u q).1 n
    have dic : ∀ {b : Addr} {m : Str → Option Value}, s.heap.Ns b m → (hidT s.heap H).Ns b m := fun {b m} ⟨o, es, ep, e, d, r⟩ => ⟨o, es, ep, hidT_get e (off fun z => by
      rw [z, oa] at e
      cases e
      cases (show Data.seq us.toArray _ = Data.dict es ep from d)), d, r⟩
    have inB : K.In (hidT s.heap H) := fun b o e => hidT_get (inK b o e) (by
      by_cases z : b = a
      · rcases lone with h | h
        · rw [z]
          exact h
        · rw [z, h] at e
          cases e
      · exact off z)
    have lim : (hidT s.heap H).NoLimit := by
      obtain ⟨mc, l1, l2⟩ := nL
      exact ⟨mc, dic l1, l2⟩
    have hok : HOk P w H s.heap := fun b u z => by
      obtain ⟨rfl, rfl⟩ := only b u z
      exact ⟨oa, by rw [List.length_map]; exact la, us, _, rel, oa⟩
    have e0 : Env0 P w K mg (hidT s.heap H) callerA [] s H := ⟨rfl, ⟨inB, dic nG, ⟨mb, dic nB, bB⟩, lim⟩, fun b o e => of_hidT e, Nat.le_of_eq (hidT_size _ _), trivial, fun b hb => (nomatch hb), hok, .of_eq gn⟩
    refine codeAny_mono ((F _ inB (dic nG)).run callerA [] s H ⟨[.ref a], []⟩ [.ref a] [.ref a] (fun v _ => v = .bl true) (fun _ _ _ => False) rfl room e0 (bd s (.ref a)) (.cons rfl .nil) (due H sq)) fun r s' h => ?_
    match r, h with
    | .error e, h => exact h.elim
    | .ok .next, h => exact h.elim
    | .ok .brk, h => exact h.elim
    | .ok .cont, h => exact h.elim
    | .ok (.ret u), ⟨v, H', os, bare, un, hok', ru, ev⟩ =>
      cases (show v = V.bl true from ev)
      cases (show u = Value.bool true from ru)
      refine ⟨rfl, OldK.of_keep fun b o e => ?_, os, bare⟩
      cases q : H b with
      | none => exact un.keep b o e q (fun z => (nomatch z)) (fun z => (nomatch z))
      | some t =>
        obtain ⟨rfl, rfl⟩ := only b t q
        rw [oa] at e
        cases e
        exact (hok' _ _ (un.frzs _ _ _ q)).1
  cases hk : K.lookup a with
  | some o =>
    have e := inK a o hk
    rw [oa] at e
    cases e
    exact go (fun _ => none) (fun b u z => (nomatch z)) (.inl rfl) (.inr ⟨_, us.toArray, _, hk, rfl, rfl, rfl, by rw [List.size_toArray, ia.length]; exact la, rel⟩)
  | none =>
    refine go (fun b => if b = a then some (.frz { cls := .type "list", data := .seq us.toArray } (.lst (ns.map V.int))) else none) (fun b u z => ?_) (.inr hk) (.inl (.inr ⟨_, if_pos rfl⟩))
    by_cases e : b = a
    · exact ⟨e, (Option.some.inj ((if_pos e).symm.trans z)).symm⟩
    · cases (if_neg e).symm.trans z
end Hk
namespace K73
open PySem PySem.Spec PyProof.Rows L2 Hk
/-! ### the error's __init__, as it stands -/
def pz : Pos := ⟨0, 0, 0, 0⟩
def iPar : List Pos := (defArgs initSt).args.map (·.pos)
def iPts : Str × Nat × List Pos := match defBody initSt with
  | [.Expr (.Call (.Attribute (.Call (.Name _ q0) [] [] q1) _ q2) [.Constant (.str z) k q3] [] q4) q5, .Assign [.Attribute (.Name _ q6) _ q7] (.Name _ q8) q9] => (z, k, [q0, q1, q2, q3, q4, q5, q6, q7, q8, q9])
  | _ => (Str.empty, 0, [])
def iq (i : Nat) : Pos := iPts.2.2.getD i pz
def ip (i : Nat) : Pos := iPar.getD i pz
theorem init_args : defArgs initSt = PySem.HkE.iA (ip 0) (ip 1) := by kernel_rfl
theorem init_body : defBody initSt = PySem.HkE.iB iPts.1 iPts.2.1 (iq 0) (iq 1) (iq 2) (iq 3) (iq 4) (iq 5) (iq 6) (iq 7) (iq 8) (iq 9) := by kernel_rfl
theorem init_scope : defScope initSt = PySem.HkE.iS := by kernel_rfl
theorem init_line : ((iq 2).endLine == (iq 4).line) = true := by kernel_rfl
section
variable {K : PySem.W.Frag} {h : Heap} {mg : Str → Option Value}
theorem ba {a b : Bool} (h : (a && b) = true) : a = true ∧ b = true := Bool.and_eq_true_iff.mp h
theorem clB_ok {C : Addr} (h : clB K C = true) : ∃ nm q N bs bm sn sub ab col dd k0 k1 k2 k3 k5, K.lookup C = some (excClassObj nm q C N bs bm true sn sub ab col dd k0 k1 k2 k3 k5 "ValueError.__new__") ∧ PySem.HandSPX.refsVE bm = true := by
  unfold clB at h
  split at h
  · rename_i cl dd cd sl e
    obtain ⟨h1, h⟩ := ba h
    obtain ⟨h2, h⟩ := ba h
    obtain ⟨h3, h⟩ := ba h
    obtain ⟨h4, h5⟩ := ba h
    obtain ⟨nm, bs, mro, N, q, hdct, sn, sub, ab, col, hdel⟩ := cd
    obtain ⟨l⟩ := sl
    cases of_decide_eq_true h1
    have h2 : hdel = false := by cases hdel <;> first | rfl | cases h2
    have h3 : hdct = true := h3
    subst h2 h3
    split at h4
    · rename_i m bm em
      obtain ⟨h6, h7⟩ := ba h4
      cases of_decide_eq_true h6
      have em : mro = .ref C :: bm := em
      subst em
      split at h5
      · rename_i k0 k1 k2 k3 n k5 el
        cases of_decide_eq_true h5
        have el : l = [k0, k1, k2, k3, some (.builtin "ValueError.__new__"), k5] := el
        subst el
        exact ⟨nm, q, N, bs, bm, sn, sub, ab, col, dd, k0, k1, k2, k3, k5, e, h7⟩
      · cases h5
    · cases h4
  · cases h
theorem fileOf_ok {o : Option Value} (h : fileOf o = true) : ∃ t, o = some (.str lawFile t) := by
  unfold fileOf at h
  split at h
  · rename_i f t
    cases of_decide_eq_true h
    exact ⟨t, rfl⟩
  · cases h
theorem codeFile_ok {v : Value} (h : codeFile K v = true) : ∃ cda ccl cdd vs ccs tf, v = .ref cda ∧ K.lookup cda = some ⟨ccl, cdd, .fields vs, ccs⟩ ∧ vs[2]? = some (.str lawFile tf) := by
  unfold codeFile at h
  split at h
  · rename_i cda
    split at h
    · rename_i a b vs c e
      obtain ⟨t, ht⟩ := fileOf_ok h
      exact ⟨cda, a, b, vs, c, t, rfl, e, ht⟩
    · cases h
  · cases h
theorem cellOf_ok {l : List (Str × Addr)} (h : cellOf K l = true) (e : l.map (·.1) = [("__class__" : Str)]) : ∃ cc cl cld csl, l = [(("__class__" : Str), cc)] ∧ K.lookup cc = some ⟨cl, cld, .cell (some (.ref (cE K))), csl⟩ := by
  unfold cellOf at h
  split at h
  · rename_i x cc
    have ex : x = "__class__" := (List.cons.inj e).1
    subst ex
    split at h
    · rename_i a b c d e2
      cases of_decide_eq_true h
      exact ⟨cc, a, b, d, rfl, e2⟩
    · cases h
  · cases h
theorem iw_ok (h : iw K = iwV) : ∃ (oc : Value) (od : Option Addr) (qual : Str) (doc pm : Value) (an : Option Addr) (cda cc : Addr) (ct : Value) (osl : Array (Option Value)) (z : Str) (k : Nat) (p1 p2 q0 q1 q2 q3 q4 q5 q6 q7 q8 q9 : Pos) (ccl cl : Value) (cdd cld : Option Addr) (vs : Array Value) (ccs csl : Array (Option Value)) (tf : Tok),
    K.lookup (iE K) = some ⟨oc, od, .func (PySem.W.ksFn "__init__" qual (PySem.HkE.iA p1 p2) (PySem.HkE.iB z k q0 q1 q2 q3 q4 q5 q6 q7 q8 q9) PySem.HkE.iS .none .none doc pm an (.ref cda) ct cc), osl⟩ ∧ PySem.W.codeIn K (.ref cda) qual = true ∧
    K.lookup cda = some ⟨ccl, cdd, .fields vs, ccs⟩ ∧ vs[2]? = some (.str lawFile tf) ∧ K.lookup cc = some ⟨cl, cld, .cell (some (.ref (cE K))), csl⟩ ∧ (q2.endLine == q4.line) = true := by
  unfold iw at h
  split at h
  · rename_i oc od fd osl e
    obtain ⟨nm, qual, params, body, sc, gl, cl0, dV, kV, doc, pm, an, cdv, ct, bl⟩ := fd
    have h := Option.some.inj h
    have a1 : nm = "__init__" := congrArg (·.1) h
    have a2 : qual = "InvalidCount.__init__" := congrArg (·.2.1) h
    have a3 : params = defArgs initSt := congrArg (·.2.2.1) h
    have a4 : body = .stmts (defBody initSt) := congrArg (·.2.2.2.1) h
    have a5 : sc = defScope initSt := congrArg (·.2.2.2.2.1) h
    have a6 : gl = mainGlobals := congrArg (·.2.2.2.2.2.1) h
    have a7 : cl0.map (·.1) = [("__class__" : Str)] := congrArg (·.2.2.2.2.2.2.1) h
    have a8 : bl = builtinsNs := congrArg (·.2.2.2.2.2.2.2.1) h
    have a9 : restB K ⟨nm, qual, params, body, sc, gl, cl0, dV, kV, doc, pm, an, cdv, ct, bl⟩ = true := congrArg (·.2.2.2.2.2.2.2.2) h
    unfold restB at a9
    obtain ⟨b1, b⟩ := ba a9
    obtain ⟨b2, b⟩ := ba b
    obtain ⟨b3, b⟩ := ba b
    obtain ⟨b4, b5⟩ := ba b
    have n1 : dV = .none := of_decide_eq_true b1
    have n2 : kV = .none := of_decide_eq_true b2
    obtain ⟨cda, ccl, cdd, vs, ccs, tf, c1, c2, c3⟩ := codeFile_ok b4
    have n3 : cdv = .ref cda := c1
    obtain ⟨cc, cl, cld, csl, d1, d2⟩ := cellOf_ok b5 a7
    have n4 : cl0 = [(("__class__" : Str), cc)] := d1
    have n5 : PySem.W.codeIn K cdv qual = true := b3
    clear h b1 b2 b3 b4 b5 c1 d1 a7 a9
    subst n1 n2 n3 n4 a1 a6 a8
    rw [init_args] at a3
    rw [init_body] at a4
    rw [init_scope] at a5
    subst a3 a4 a5
    exact ⟨oc, od, qual, doc, pm, an, cda, cc, ct, osl, _, _, _, _, _, _, _, _, _, _, _, _, _, _, ccl, cl, cdd, cld, vs, ccs, csl, tf, e, n5, c2, c3, d2, init_line⟩
  · cases h
theorem df_of (X : K.In h) (G : h.Ns mainGlobals mg) (c : He.SaysD fas fn K) (x : Str) (st : Stmt) (i : Nat) (hd : fn[i]? = some ⟨(x, none), x, x, defArgs st, defBody st, defScope st, [], []⟩ := by rfl) (hg : fas[i]? = some (.glo x) := by rfl) : Df K mg x st := by
  obtain ⟨fd, F⟩ := c.def_ i hd
  exact ⟨He.fAd K (x, none), fd, fun_of F, He.glo_ok X G (c.fact i hg)⟩
theorem fas_free : ∀ {x : Str}, x ∈ frees → He.Fa.free x ∈ fas := fun {x} hx => List.mem_append_left _ (List.mem_append_right _ (show He.Fa.free x ∈ frees.map He.Fa.free from List.mem_map.mpr ⟨x, hx, rfl⟩))
theorem en_of (X : K.In h) (G : h.Ns mainGlobals mg) (c : He.SaysD fas fn K) : En K mg := by
  refine ⟨fun {x} hx => ?_⟩
  obtain ⟨j, e⟩ := List.getElem?_of_mem (fas_free (List.elem_iff.mp hx))
  exact He.free_ok X G (c.fact j e)
theorem ex_of {P : Program} (X : K.In h) (G : h.Ns mainGlobals mg) (c : He.SaysD fas fn K) (hi : iw K = iwV) (ex : exB K = true) (pf : P.main.file = lawFile) (pt : (P.main.scope.names.lookup ("super" : Str)).isSome = false) :
    Ex P K mg (cE K) (iE K) (He.ga K "HeldoverError") (He.ga K "MissingError") := by
  have E := en_of X G c
  obtain ⟨x1, ex⟩ := ba ex
  obtain ⟨x2, ex⟩ := ba ex
  obtain ⟨x3, ex⟩ := ba ex
  obtain ⟨x4, _⟩ := ba ex
  unfold e1B at x2
  unfold e2B at x3
  unfold e3B at x4
  obtain ⟨a1, x2⟩ := ba x2
  obtain ⟨a2, x2⟩ := ba x2
  obtain ⟨a3, x2⟩ := ba x2
  obtain ⟨a4, x2⟩ := ba x2
  obtain ⟨a5, x2⟩ := ba x2
  obtain ⟨a6, x2⟩ := ba x2
  obtain ⟨a7, x2⟩ := ba x2
  obtain ⟨a8, x2⟩ := ba x2
  obtain ⟨a9, x2⟩ := ba x2
  obtain ⟨a10, x2⟩ := ba x2
  obtain ⟨a11, a12⟩ := ba x2
  obtain ⟨b1, x3⟩ := ba x3
  obtain ⟨b2, x3⟩ := ba x3
  obtain ⟨b3, x3⟩ := ba x3
  obtain ⟨b4, x3⟩ := ba x3
  obtain ⟨b5, b6⟩ := ba x3
  obtain ⟨c1, x4⟩ := ba x4
  obtain ⟨c2, c3⟩ := ba x4
  have gl : ∀ {x : Str} (i : Nat), fas[i]? = some (.glo x) → mg x = some (.ref (He.ga K x)) := fun i e => He.glo_ok X G (c.fact i e)
  have T : PySem.HkE.ErrTxt K P.main.file (cE K) (iE K) := by
    rw [pf]
    exact ⟨clB_ok x1, of_decide_eq_true a1, of_decide_eq_true a2, of_decide_eq_true a3, of_decide_eq_true a4, a5, of_decide_eq_true a6, of_decide_eq_true a7, of_decide_eq_true a8, of_decide_eq_true a9, of_decide_eq_true a10, a11, of_decide_eq_true a12, iw_ok hi⟩
  exact ⟨⟨T, gl 12 rfl, E.fr (x := "super") (by decide +kernel), pt⟩, ⟨of_decide_eq_true b1, of_decide_eq_true b2, of_decide_eq_true a6, a11, of_decide_eq_true b3, of_decide_eq_true b4, of_decide_eq_true b5, of_decide_eq_true b6⟩, of_decide_eq_true c1, gl 13 rfl, gl 14 rfl, of_decide_eq_true c2, of_decide_eq_true c3⟩
theorem dk_of (X : K.In h) (G : h.Ns mainGlobals mg) (c : He.SaysD fas fn K) (ex : exB K = true) : Dk K mg (dA K) := by
  obtain ⟨_, ex⟩ := ba ex
  obtain ⟨_, ex⟩ := ba ex
  obtain ⟨_, ex⟩ := ba ex
  obtain ⟨_, ex⟩ := ba ex
  obtain ⟨x1, _⟩ := ba ex
  unfold d1B at x1
  obtain ⟨a1, x1⟩ := ba x1
  obtain ⟨a2, x1⟩ := ba x1
  obtain ⟨a3, x1⟩ := ba x1
  obtain ⟨a4, x1⟩ := ba x1
  obtain ⟨a5, x1⟩ := ba x1
  obtain ⟨a6, x1⟩ := ba x1
  obtain ⟨a7, _⟩ := ba x1
  exact ⟨He.cls_ok (c.fact 26 (f := .cls "Disk") rfl), He.noat_ok (c.fact 27 (f := .noat "Disk" "_text") rfl), He.noat_ok (c.fact 28 (f := .noat "Disk" "_flushed") rfl), of_decide_eq_true a1, of_decide_eq_true a2, of_decide_eq_true a3, of_decide_eq_true a4, of_decide_eq_true a5, of_decide_eq_true a6, of_decide_eq_true a7, He.glo_ok X G (c.fact 11 (f := .glo "Disk") rfl)⟩
/-- the property's def -/
theorem gfun (e : gw K = dd_D_flushed.val) (c : gok K = true) : ∃ fd, FunD K "flushed" "Disk.flushed" (defArgs s_D_flushed) (defBody s_D_flushed) (defScope s_D_flushed) [] [] (gA K) fd := by
  obtain ⟨kp, c2⟩ := ba c
  unfold gw at e
  cases q : K.lookup (gA K) with
  | none =>
    rw [q] at c2
    cases c2
  | some o =>
    obtain ⟨oc, od, dt, osl⟩ := o
    rw [q] at c2 e
    cases dt with
    | func fd =>
      obtain ⟨n1, n2, n3, n4, n5, n6, n7, n8, n9, n10, n11, n12, n13, n14, n15⟩ := fd
      have e2 : (some (n1, n2, n3, n4, n5, n6, n7, n15) : He.FnW) = some (("flushed" : Str), ("Disk.flushed" : Str), defArgs s_D_flushed, FuncBody.stmts (defBody s_D_flushed), defScope s_D_flushed, mainGlobals, [], builtinsNs) := e
      simp only [Option.some.injEq, Prod.mk.injEq] at e2
      obtain ⟨h1, h2, h3, h4, h5, h6, h7, h8⟩ := e2
      subst h1 h2 h3 h4 h5 h6 h7 h8
      have c3 : (PySem.W.codeIn K n13 "Disk.flushed" && (He.dflB K n8 [] && He.kwdB K n9 [])) = true := c2
      obtain ⟨k1, k2⟩ := ba c3
      obtain ⟨k3, k4⟩ := ba k2
      exact ⟨_, ⟨oc, od, n8, n9, n10, n11, n12, n13, n14, osl, rfl, q, k1, He.dflB_ok k3, He.kwdB_ok k4⟩, kp⟩
    | _ => cases c2
theorem kb1 {x qual kw : Str} {params : Arguments} {body : List Stmt} {scope : Scope} {f : Addr} {fd : FuncData} (F : FunD K x qual params body scope [] [] f fd)
    (hk : ∀ (kV doc pm : Value) (an : Option Addr) (cdv ct u v : Value), bindArgs (PySem.W.fnOf x qual params body scope .none kV doc pm an cdv ct) ⟨[u], [(kw, v)]⟩ = pure [(("self" : Str), u), (kw, v)]) : KBn K fd ["self", kw] 1 [kw] (fun us ws => us ++ ws) (fun vs zs => vs ++ zs) := by
  obtain ⟨oc, od, dV, kV, doc, pm, an, cdv, ct, osl, rfl, lk, hcd, hD, hK⟩ := F.ex
  rcases hD with ⟨_, rfl⟩ | ⟨e, _⟩
  · refine ⟨fun s us ws _ l1 l2 => ?_, fun r1 r2 => r1.append r2⟩
    match us, l1, ws, l2 with
    | [u], _, [v], _ => exact .of_eq (hk _ _ _ _ _ _ _ _)
  · exact absurd rfl e
theorem ms_of {P : Program} {w : World} {base : Heap} (X : K.In h) (G : h.Ns mainGlobals mg) (c : He.SaysD fas fn K) (hg : gw K = dd_D_flushed.val) (ex : exB K = true) {CE fI : Addr} (R : Er P K mg CE fI) (c_is_moment : Ca P w K mg base 2 "is_moment" (spD1 momD)) : Ms P w K mg base (dA K) CE := by
  have E := en_of X G c
  have D := dk_of X G c ex
  obtain ⟨_, ex⟩ := ba ex
  obtain ⟨_, ex⟩ := ba ex
  obtain ⟨_, ex⟩ := ba ex
  obtain ⟨_, ex⟩ := ba ex
  obtain ⟨x1, x2⟩ := ba ex
  unfold d1B at x1
  obtain ⟨_, x1⟩ := ba x1
  obtain ⟨_, x1⟩ := ba x1
  obtain ⟨_, x1⟩ := ba x1
  obtain ⟨_, x1⟩ := ba x1
  obtain ⟨_, x1⟩ := ba x1
  obtain ⟨_, x1⟩ := ba x1
  obtain ⟨_, x1⟩ := ba x1
  obtain ⟨ns, nn⟩ := ba x1
  unfold d2B at x2
  obtain ⟨eq1, x2⟩ := ba x2
  obtain ⟨eq2, x2⟩ := ba x2
  obtain ⟨ln1, x2⟩ := ba x2
  obtain ⟨ln2, x2⟩ := ba x2
  obtain ⟨pr1, x2⟩ := ba x2
  obtain ⟨pr2, x2⟩ := ba x2
  obtain ⟨pr3, x2⟩ := ba x2
  obtain ⟨pr4, gk⟩ := ba x2
  obtain ⟨f0, F0⟩ := c.def_ 11 (d := dd_D_init) rfl
  obtain ⟨f1, F1⟩ := c.def_ 12 (d := dd_D_write) rfl
  obtain ⟨f2, F2⟩ := c.def_ 13 (d := dd_D_flush) rfl
  obtain ⟨f3, F3⟩ := c.def_ 14 (d := dd_D_replace) rfl
  obtain ⟨f4, F4⟩ := c.def_ 15 (d := dd_D_text) rfl
  obtain ⟨f5, F5⟩ := c.def_ 16 (d := dd_D_crash) rfl
  obtain ⟨f6, F6⟩ := c.def_ 17 (d := dd_D_eq) rfl
  obtain ⟨f7, F7⟩ := c.def_ 18 (d := dd_D_len) rfl
  obtain ⟨f8, F8⟩ := gfun hg gk
  have F0 : FunD K "__init__" "Disk.__init__" (defArgs s_D_init) (defBody s_D_init) (defScope s_D_init) [.str ""] [] (He.ma K (dA K) "__init__") f0 := F0
  have F1 : FunD K "write" "Disk.write" (defArgs s_D_write) (defBody s_D_write) (defScope s_D_write) [] [] (He.ma K (dA K) "write") f1 := F1
  have F2 : FunD K "flush" "Disk.flush" (defArgs s_D_flush) (defBody s_D_flush) (defScope s_D_flush) [] [] (He.ma K (dA K) "flush") f2 := F2
  have F3 : FunD K "replace" "Disk.replace" (defArgs s_D_replace) (defBody s_D_replace) (defScope s_D_replace) [] [] (He.ma K (dA K) "replace") f3 := F3
  have F4 : FunD K "text" "Disk.text" (defArgs s_D_text) (defBody s_D_text) (defScope s_D_text) [] [] (He.ma K (dA K) "text") f4 := F4
  have F5 : FunD K "crash" "Disk.crash" (defArgs s_D_crash) (defBody s_D_crash) (defScope s_D_crash) [.int 0] [] (He.ma K (dA K) "crash") f5 := F5
  have F6 : FunD K "__eq__" "Disk.__eq__" (defArgs s_D_eq) (defBody s_D_eq) (defScope s_D_eq) [] [] (He.ma K (dA K) "__eq__") f6 := F6
  have F7 : FunD K "__len__" "Disk.__len__" (defArgs s_D_len) (defBody s_D_len) (defScope s_D_len) [] [] (He.ma K (dA K) "__len__") f7 := F7
  have mk := He.mkr_ok (c.fact 34 (f := .mkr "Disk") rfl)
  have m1 := He.meth_ok (c.fact 29 (f := .meth "Disk" "write") rfl)
  have m2 := He.meth_ok (c.fact 30 (f := .meth "Disk" "flush") rfl)
  have m3 := He.meth_ok (c.fact 31 (f := .meth "Disk" "replace") rfl)
  have m4 := He.meth_ok (c.fact 32 (f := .meth "Disk" "text") rfl)
  have m5 := He.meth_ok (c.fact 33 (f := .meth "Disk" "crash") rfl)
  have oi := ok_init (P := P) (w := w) (base := base) E D F0
  -- __init__, crash: with and without their default
  obtain ⟨d0a, v0a, b0a⟩ := FunD.binds1 (ps := ["self", "text"]) F0 2 1 (List.cons_ne_nil _ _) rfl fun T kV doc pm an cdv ct us its l1 l2 => match us, l1, its, l2 with | [_, _], _, [_], _ => ⟨_, rfl, rfl⟩
  obtain ⟨d0b, v0b, b0b⟩ := FunD.binds1 (ps := ["self", "text"]) F0 1 0 (List.cons_ne_nil _ _) rfl fun T kV doc pm an cdv ct us its l1 l2 => match us, l1, its, l2 with | [_], _, [_], _ => ⟨_, rfl, rfl⟩
  obtain ⟨i0c, b0c⟩ := FunD.kbindsD (ps := ["self", "text"]) F0 1 ["text"] (fun us _ ws => us ++ ws) (List.cons_ne_nil _ _) (fun r1 _ r2 => r1.append r2) fun T kV doc pm an cdv ct us its ws l1 l2 l3 => match us, l1, its, l2, ws, l3 with | [_], _, [_], _, [_], _ => ⟨_, rfl, rfl⟩
  obtain ⟨d5a, v5a, b5a⟩ := FunD.binds1 (ps := ["self", "kept"]) F5 2 1 (List.cons_ne_nil _ _) rfl fun T kV doc pm an cdv ct us its l1 l2 => match us, l1, its, l2 with | [_, _], _, [_], _ => ⟨_, rfl, rfl⟩
  obtain ⟨d5b, v5b, b5b⟩ := FunD.binds1 (ps := ["self", "kept"]) F5 1 0 (List.cons_ne_nil _ _) rfl fun T kV doc pm an cdv ct us its l1 l2 => match us, l1, its, l2 with | [_], _, [_], _ => ⟨_, rfl, rfl⟩
  obtain ⟨i5c, b5c⟩ := FunD.kbindsD (ps := ["self", "kept"]) F5 1 ["kept"] (fun us _ ws => us ++ ws) (List.cons_ne_nil _ _) (fun r1 _ r2 => r1.append r2) fun T kV doc pm an cdv ct us its ws l1 l2 l3 => match us, l1, its, l2, ws, l3 with | [_], _, [_], _, [_], _ => ⟨_, rfl, rfl⟩
  have make : MkX P w K mg base 1 "Disk" (dA K) [] (spInit (dA K)) := ⟨⟨_, f0, _, d0a, mk, oi, b0a, v0a⟩, D.gD⟩
  have oc := ok_crash (P := P) (w := w) (base := base) E D R ⟨make⟩ c_is_moment F5
  have one : ∀ {x qual : Str} {params : Arguments} {body : List Stmt} {scope : Scope} {f : Addr} {fd : FuncData} {ps : List Str} (F : FunD K x qual params body scope [] [] f fd), (∀ (kV doc pm : Value) (an : Option Addr) (cdv ct : Value) (us : List Value), us.length = ps.length → bindArgs (PySem.W.fnOf x qual params body scope .none kV doc pm an cdv ct) ⟨us, []⟩ = pure (ps.zip us)) → Binds K fd ps [] := fun F h => FunD.bindsN F h
  exact {
    cls := D.cls
    text0 := ⟨⟨_, f4, _, [], m4, ok_text E D F4, one F4 fun _ _ _ _ _ _ us hl => match us, hl with | [_], _ => rfl, .nil⟩⟩
    flushed := ⟨⟨pA K, gA K, f8, _, ⟨of_decide_eq_true pr1, of_decide_eq_true pr2, of_decide_eq_true pr3, by
      unfold gA
      cases hq : PySem.W.recIn K (pA K) "property" with
      | none => rw [hq] at pr4; cases pr4
      | some l =>
        rw [hq] at pr4
        cases l with
        | nil => cases pr4
        | cons v r =>
          cases v with
          | ref g => exact ⟨r, rfl⟩
          | _ => cases pr4⟩, ok_flushed E D F8, one F8 fun _ _ _ _ _ _ us hl => match us, hl with | [_], _ => rfl⟩⟩
    len := ⟨⟨_, f7, _, of_decide_eq_true ln1, ln2, ok_len E D F7, one F7 fun _ _ _ _ _ _ us hl => match us, hl with | [_], _ => rfl⟩⟩
    eq := ⟨⟨_, f6, _, of_decide_eq_true eq1, eq2, ok_eq E D F6, one F6 fun _ _ _ _ _ _ us hl => match us, hl with | [_, _], _ => rfl⟩, of_decide_eq_true ns, of_decide_eq_true nn⟩
    write := ⟨⟨_, f1, _, [], m1, ok_write E D F1, one F1 fun _ _ _ _ _ _ us hl => match us, hl with | [_, _], _ => rfl, .nil⟩⟩
    writeK := ⟨⟨_, f1, _, _, m1, ok_write E D F1, kb1 F1 fun _ _ _ _ _ _ _ _ => rfl⟩⟩
    flush0 := ⟨⟨_, f2, _, [], m2, ok_flush E D F2, one F2 fun _ _ _ _ _ _ us hl => match us, hl with | [_], _ => rfl, .nil⟩⟩
    replace := ⟨⟨_, f3, _, [], m3, ok_replace E D F3, one F3 fun _ _ _ _ _ _ us hl => match us, hl with | [_, _], _ => rfl, .nil⟩⟩
    make := make
    make0 := ⟨⟨_, f0, _, d0b, mk, oi, b0b, v0b⟩, D.gD⟩
    makeK := ⟨⟨_, f0, _, _, mk, oi, b0c⟩, D.gD⟩
    crash := ⟨⟨_, f5, _, d5a, m5, oc, b5a, v5a⟩⟩
    crash0 := ⟨⟨_, f5, _, d5b, m5, oc, b5b, v5b⟩⟩
    crashK := ⟨⟨_, f5, _, _, m5, oc, b5c⟩⟩ }
theorem facts {P : Program} {w : World} {f : Addr} (X : K.In h) (G : h.Ns mainGlobals mg) (hfa : mg ("law" : Str) = some (.ref f)) (c : He.SaysD fas fn K) (hi : iw K = iwV) (hg : gw K = dd_D_flushed.val) (ex : exB K = true) (pf : P.main.file = lawFile) (pt : (P.main.scope.names.lookup ("super" : Str)).isSome = false) :
    ∃ fd : FuncData, (∀ (s : Shared) (v : Value), BindsTo s fd ⟨[v], []⟩ [("_law_script", v)]) ∧ ∀ base : Heap, K.In base → base.Ns mainGlobals mg → FnG P w K mg base 6 f fd ["_law_script"] (spLaw K) := by
  have E := en_of X G c
  have Z := ex_of (P := P) X G c hi ex pf pt
  obtain ⟨fd, F⟩ := c.def_ 10 (d := dd_law) rfl
  have e := hfa.symm.trans (He.glo_ok X G (c.fact 10 (f := .glo "law") rfl))
  cases e
  have b := FunD.bindsA (ps := ["_law_script"]) F fun _ _ _ _ _ _ us hl => match us, hl with | [_], _ => rfl
  refine ⟨fd, fun s v => b s [v] rfl, fun base _ _ => ?_⟩
  have g_int : Ca P w K mg base 1 "is_integer" (spD1 intD) := ok_is_integer E (df_of X G c _ _ 0)
  have g_mom := ok_is_moment E (df_of X G c _ _ 1) g_int
  have M := ms_of (P := P) (w := w) (base := base) X G c hg ex Z.er g_mom
  have g_pot : Ca P w K mg base 1 "_law_pot" (spPot K) := ok_pot E (df_of X G c _ _ 2)
  have g_draw : Ca P w K mg base 1 "_law_draw" spDraw := ok_draw E (df_of X G c _ _ 3)
  have g_word := ok_word E (df_of X G c _ _ 5) g_draw
  have g_told := ok_told E M (df_of X G c _ _ 6)
  have g_ref := ok_refused E M Z (df_of X G c _ _ 7)
  have g_cr := ok_crash_right E M (df_of X G c _ _ 8) g_draw g_told g_ref
  have g_done := ok_done E M (df_of X G c _ _ 9) g_draw g_word
  exact ok_law E M (fun_of F) g_pot g_draw g_word g_done g_told g_cr
end
end K73
open PySem PySem.W PySem.Calls PyProof.Rows
theorem PySem.Challenge.cw_heldover_k73_disks_holds : PySem.Challenge.rw_heldover_k73_disks.Holds := by
  w_on; o_law
  refine HandSHeadRun.head_any (r := K73.R73) (q := view K73.R73.prog [19]) (H := K73.hk73) (ob := K73.ob73) (M := 3000) (loose := K73.loose1) (d := HandSHeadRun.topDef K73.R73.prog 19) (kwd := []) K73.ob73_eq
    (by kernel_rfl) (fun s => by kernel_rfl) K73.run73 (by kernel_rfl) (by kernel_rfl) (by kernel_rfl) (by rfl) (by first | assumption | decide +kernel) (by decide +kernel) ⟨rfl, rfl, rfl, rfl, rfl, by decide +kernel⟩ ?hw ?hc
  case hw => w_witness2
  case hc =>
    refine Att.attach_call (l := PySem.Challenge.rw_heldover_k73_disks) (n := 63) rfl (by kernel_rfl) fun w s₀ s₁ mg mb fa o pm cd doc a us ns G Y ho hd hcd hmg0 hobj hints hlen hg => ?_
    obtain ⟨K, KX, c, hi, hgw, ex⟩ := Y
    have hmg : mg ("law" : PySem.Str) = some (.ref fa) := by
      have e : (HandSHeadRun.topDef K73.R73.prog 19).name = ("law" : PySem.Str) := by kernel_rfl
      rw [← e]
      exact hmg0
    obtain ⟨fd, hb, hF⟩ := K73.facts (P := (PySem.Challenge.rw_heldover_k73_disks).prog) (w := w) KX G.T.g hmg c hi hgw ex (by kernel_rfl) (by kernel_rfl)
    exact Hk.callG_end KX G.T.g G.T.b G.T.builtins G.T.nolimit hg hobj hints (Nat.le_trans hlen (by decide)) ⟨rfl, by decide, by decide⟩ hF hb fun H hS => ⟨a, ns, rfl, hS, hlen, fun _ => rfl⟩
