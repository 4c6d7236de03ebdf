import PyProof.Rows.All
import Wide.All
import OpenK.AllK
import Wide.FinOn
import PyProof.EqAt
import PyProof.EqKinds
import PyProof.TupleCall
import KE.BitLaws
import Open.SpecLaws
import KE.OsHead
import KE.OsGo
import KE.KDictList
import PySem.Challenge.RW_markedgrainsdesk_s01_answers
set_option Elab.async false
set_option compiler.extract_closed false
set_option linter.all false
namespace Ea
variable {T0 T1 T2 T3 T4 T5 T6 T7 T8 T9 T10 T11 T12 T13 T14 T15 : Type} {Q : Prop}
theorem e1 {R : T0 → Prop} (h : ∃ a, R a) (f : ∀ a, R a → Q) : Q :=
  h.elim f
theorem e2 {R : T0 → T1 → Prop} (h : ∃ a b, R a b) (f : ∀ a b, R a b → Q) : Q :=
  e1 h fun a h => h.elim fun b h => f a b h
theorem e3 {R : T0 → T1 → T2 → Prop} (h : ∃ a b c, R a b c) (f : ∀ a b c, R a b c → Q) : Q :=
  e2 h fun a b h => h.elim fun c h => f a b c h
theorem e4 {R : T0 → T1 → T2 → T3 → Prop} (h : ∃ a b c d, R a b c d) (f : ∀ a b c d, R a b c d → Q) : Q :=
  e3 h fun a b c h => h.elim fun d h => f a b c d h
theorem e5 {R : T0 → T1 → T2 → T3 → T4 → Prop} (h : ∃ a b c d e, R a b c d e) (f : ∀ a b c d e, R a b c d e → Q) : Q :=
  e4 h fun a b c d h => h.elim fun e h => f a b c d e h
theorem e6 {R : T0 → T1 → T2 → T3 → T4 → T5 → Prop} (h : ∃ a b c d e i, R a b c d e i) (f : ∀ a b c d e i, R a b c d e i → Q) : Q :=
  e5 h fun a b c d e h => h.elim fun i h => f a b c d e i h
theorem e7 {R : T0 → T1 → T2 → T3 → T4 → T5 → T6 → Prop} (h : ∃ a b c d e i j, R a b c d e i j) (f : ∀ a b c d e i j, R a b c d e i j → Q) : Q :=
  e6 h fun a b c d e i h => h.elim fun j h => f a b c d e i j h
theorem e8 {R : T0 → T1 → T2 → T3 → T4 → T5 → T6 → T7 → Prop} (h : ∃ a b c d e i j k, R a b c d e i j k) (f : ∀ a b c d e i j k, R a b c d e i j k → Q) : Q :=
  e7 h fun a b c d e i j h => h.elim fun k h => f a b c d e i j k h
theorem e9 {R : T0 → T1 → T2 → T3 → T4 → T5 → T6 → T7 → T8 → Prop} (h : ∃ a b c d e i j k l, R a b c d e i j k l) (f : ∀ a b c d e i j k l, R a b c d e i j k l → Q) : Q :=
  e8 h fun a b c d e i j k h => h.elim fun l h => f a b c d e i j k l h
theorem e10 {R : T0 → T1 → T2 → T3 → T4 → T5 → T6 → T7 → T8 → T9 → Prop} (h : ∃ a b c d e i j k l m, R a b c d e i j k l m) (f : ∀ a b c d e i j k l m, R a b c d e i j k l m → Q) : Q :=
  e9 h fun a b c d e i j k l h => h.elim fun m h => f a b c d e i j k l m h
theorem e11 {R : T0 → T1 → T2 → T3 → T4 → T5 → T6 → T7 → T8 → T9 → T10 → Prop} (h : ∃ a b c d e i j k l m n, R a b c d e i j k l m n) (f : ∀ a b c d e i j k l m n, R a b c d e i j k l m n → Q) : Q :=
  e10 h fun a b c d e i j k l m h => h.elim fun n h => f a b c d e i j k l m n h
theorem e12 {R : T0 → T1 → T2 → T3 → T4 → T5 → T6 → T7 → T8 → T9 → T10 → T11 → Prop} (h : ∃ a b c d e i j k l m n o, R a b c d e i j k l m n o) (f : ∀ a b c d e i j k l m n o, R a b c d e i j k l m n o → Q) : Q :=
  e11 h fun a b c d e i j k l m n h => h.elim fun o h => f a b c d e i j k l m n o h
theorem e13 {R : T0 → T1 → T2 → T3 → T4 → T5 → T6 → T7 → T8 → T9 → T10 → T11 → T12 → Prop} (h : ∃ a b c d e i j k l m n o p, R a b c d e i j k l m n o p) (f : ∀ a b c d e i j k l m n o p, R a b c d e i j k l m n o p → Q) : Q :=
  e12 h fun a b c d e i j k l m n o h => h.elim fun p h => f a b c d e i j k l m n o p h
theorem e14 {R : T0 → T1 → T2 → T3 → T4 → T5 → T6 → T7 → T8 → T9 → T10 → T11 → T12 → T13 → Prop} (h : ∃ a b c d e i j k l m n o p r, R a b c d e i j k l m n o p r) (f : ∀ a b c d e i j k l m n o p r, R a b c d e i j k l m n o p r → Q) : Q :=
  e13 h fun a b c d e i j k l m n o p h => h.elim fun r h => f a b c d e i j k l m n o p r h
theorem e16 {R : T0 → T1 → T2 → T3 → T4 → T5 → T6 → T7 → T8 → T9 → T10 → T11 → T12 → T13 → T14 → T15 → Prop} (h : ∃ a b c d e i j k l m n o p r s t, R a b c d e i j k l m n o p r s t) (f : ∀ a b c d e i j k l m n o p r s t, R a b c d e i j k l m n o p r s t → Q) : Q :=
  e14 h fun a b c d e i j k l m n o p r h => h.elim fun s h => h.elim fun t h => f a b c d e i j k l m n o p r s t h
theorem a2 {A0 A1 : Prop} (h : A0 ∧ A1) (f : A0 → A1 → Q) : Q :=
  f h.1 h.2
theorem a3 {A0 A1 A2 : Prop} (h : A0 ∧ A1 ∧ A2) (f : A0 → A1 → A2 → Q) : Q :=
  f h.1 h.2.1 h.2.2
theorem a4 {A0 A1 A2 A3 : Prop} (h : A0 ∧ A1 ∧ A2 ∧ A3) (f : A0 → A1 → A2 → A3 → Q) : Q :=
  f h.1 h.2.1 h.2.2.1 h.2.2.2
theorem a5 {A0 A1 A2 A3 A4 : Prop} (h : A0 ∧ A1 ∧ A2 ∧ A3 ∧ A4) (f : A0 → A1 → A2 → A3 → A4 → Q) : Q :=
  f h.1 h.2.1 h.2.2.1 h.2.2.2.1 h.2.2.2.2
theorem a6 {A0 A1 A2 A3 A4 A5 : Prop} (h : A0 ∧ A1 ∧ A2 ∧ A3 ∧ A4 ∧ A5) (f : A0 → A1 → A2 → A3 → A4 → A5 → Q) : Q :=
  f h.1 h.2.1 h.2.2.1 h.2.2.2.1 h.2.2.2.2.1 h.2.2.2.2.2
theorem a7 {A0 A1 A2 A3 A4 A5 A6 : Prop} (h : A0 ∧ A1 ∧ A2 ∧ A3 ∧ A4 ∧ A5 ∧ A6) (f : A0 → A1 → A2 → A3 → A4 → A5 → A6 → Q) : Q :=
  f h.1 h.2.1 h.2.2.1 h.2.2.2.1 h.2.2.2.2.1 h.2.2.2.2.2.1 h.2.2.2.2.2.2
theorem a8 {A0 A1 A2 A3 A4 A5 A6 A7 : Prop} (h : A0 ∧ A1 ∧ A2 ∧ A3 ∧ A4 ∧ A5 ∧ A6 ∧ A7) (f : A0 → A1 → A2 → A3 → A4 → A5 → A6 → A7 → Q) : Q :=
  f h.1 h.2.1 h.2.2.1 h.2.2.2.1 h.2.2.2.2.1 h.2.2.2.2.2.1 h.2.2.2.2.2.2.1 h.2.2.2.2.2.2.2
theorem a9 {A0 A1 A2 A3 A4 A5 A6 A7 A8 : Prop} (h : A0 ∧ A1 ∧ A2 ∧ A3 ∧ A4 ∧ A5 ∧ A6 ∧ A7 ∧ A8) (f : A0 → A1 → A2 → A3 → A4 → A5 → A6 → A7 → A8 → Q) : Q :=
  f h.1 h.2.1 h.2.2.1 h.2.2.2.1 h.2.2.2.2.1 h.2.2.2.2.2.1 h.2.2.2.2.2.2.1 h.2.2.2.2.2.2.2.1 h.2.2.2.2.2.2.2.2
theorem a10 {A0 A1 A2 A3 A4 A5 A6 A7 A8 A9 : Prop} (h : A0 ∧ A1 ∧ A2 ∧ A3 ∧ A4 ∧ A5 ∧ A6 ∧ A7 ∧ A8 ∧ A9) (f : A0 → A1 → A2 → A3 → A4 → A5 → A6 → A7 → A8 → A9 → Q) : Q :=
  f h.1 h.2.1 h.2.2.1 h.2.2.2.1 h.2.2.2.2.1 h.2.2.2.2.2.1 h.2.2.2.2.2.2.1 h.2.2.2.2.2.2.2.1 h.2.2.2.2.2.2.2.2.1 h.2.2.2.2.2.2.2.2.2
theorem a11 {A0 A1 A2 A3 A4 A5 A6 A7 A8 A9 A10 : Prop} (h : A0 ∧ A1 ∧ A2 ∧ A3 ∧ A4 ∧ A5 ∧ A6 ∧ A7 ∧ A8 ∧ A9 ∧ A10) (f : A0 → A1 → A2 → A3 → A4 → A5 → A6 → A7 → A8 → A9 → A10 → Q) : Q :=
  f h.1 h.2.1 h.2.2.1 h.2.2.2.1 h.2.2.2.2.1 h.2.2.2.2.2.1 h.2.2.2.2.2.2.1 h.2.2.2.2.2.2.2.1 h.2.2.2.2.2.2.2.2.1 h.2.2.2.2.2.2.2.2.2.1 h.2.2.2.2.2.2.2.2.2.2
theorem a12 {A0 A1 A2 A3 A4 A5 A6 A7 A8 A9 A10 A11 : Prop} (h : A0 ∧ A1 ∧ A2 ∧ A3 ∧ A4 ∧ A5 ∧ A6 ∧ A7 ∧ A8 ∧ A9 ∧ A10 ∧ A11) (f : A0 → A1 → A2 → A3 → A4 → A5 → A6 → A7 → A8 → A9 → A10 → A11 → Q) : Q :=
  f h.1 h.2.1 h.2.2.1 h.2.2.2.1 h.2.2.2.2.1 h.2.2.2.2.2.1 h.2.2.2.2.2.2.1 h.2.2.2.2.2.2.2.1 h.2.2.2.2.2.2.2.2.1 h.2.2.2.2.2.2.2.2.2.1 h.2.2.2.2.2.2.2.2.2.2.1 h.2.2.2.2.2.2.2.2.2.2.2
theorem a13 {A0 A1 A2 A3 A4 A5 A6 A7 A8 A9 A10 A11 A12 : Prop} (h : A0 ∧ A1 ∧ A2 ∧ A3 ∧ A4 ∧ A5 ∧ A6 ∧ A7 ∧ A8 ∧ A9 ∧ A10 ∧ A11 ∧ A12) (f : A0 → A1 → A2 → A3 → A4 → A5 → A6 → A7 → A8 → A9 → A10 → A11 → A12 → Q) : Q :=
  f h.1 h.2.1 h.2.2.1 h.2.2.2.1 h.2.2.2.2.1 h.2.2.2.2.2.1 h.2.2.2.2.2.2.1 h.2.2.2.2.2.2.2.1 h.2.2.2.2.2.2.2.2.1 h.2.2.2.2.2.2.2.2.2.1 h.2.2.2.2.2.2.2.2.2.2.1 h.2.2.2.2.2.2.2.2.2.2.2.1 h.2.2.2.2.2.2.2.2.2.2.2.2
theorem x1_2 {P0 P1 : T0 → Prop} (h : ∃ a, P0 a ∧ P1 a) (f : ∀ a, P0 a → P1 a → Q) : Q :=
  e1 h fun a z => a2 z (f a)
theorem x1_3 {P0 P1 P2 : T0 → Prop} (h : ∃ a, P0 a ∧ P1 a ∧ P2 a) (f : ∀ a, P0 a → P1 a → P2 a → Q) : Q :=
  e1 h fun a z => a3 z (f a)
theorem x1_4 {P0 P1 P2 P3 : T0 → Prop} (h : ∃ a, P0 a ∧ P1 a ∧ P2 a ∧ P3 a) (f : ∀ a, P0 a → P1 a → P2 a → P3 a → Q) : Q :=
  e1 h fun a z => a4 z (f a)
theorem x1_5 {P0 P1 P2 P3 P4 : T0 → Prop} (h : ∃ a, P0 a ∧ P1 a ∧ P2 a ∧ P3 a ∧ P4 a) (f : ∀ a, P0 a → P1 a → P2 a → P3 a → P4 a → Q) : Q :=
  e1 h fun a z => a5 z (f a)
theorem x2_1 {P0 : T0 → T1 → Prop} (h : ∃ a b, P0 a b) (f : ∀ a b, P0 a b → Q) : Q :=
  e2 h f
theorem x2_2 {P0 P1 : T0 → T1 → Prop} (h : ∃ a b, P0 a b ∧ P1 a b) (f : ∀ a b, P0 a b → P1 a b → Q) : Q :=
  e2 h fun a b z => a2 z (f a b)
theorem x2_3 {P0 P1 P2 : T0 → T1 → Prop} (h : ∃ a b, P0 a b ∧ P1 a b ∧ P2 a b) (f : ∀ a b, P0 a b → P1 a b → P2 a b → Q) : Q :=
  e2 h fun a b z => a3 z (f a b)
theorem x2_4 {P0 P1 P2 P3 : T0 → T1 → Prop} (h : ∃ a b, P0 a b ∧ P1 a b ∧ P2 a b ∧ P3 a b) (f : ∀ a b, P0 a b → P1 a b → P2 a b → P3 a b → Q) : Q :=
  e2 h fun a b z => a4 z (f a b)
theorem x2_6 {P0 P1 P2 P3 P4 P5 : T0 → T1 → Prop} (h : ∃ a b, P0 a b ∧ P1 a b ∧ P2 a b ∧ P3 a b ∧ P4 a b ∧ P5 a b) (f : ∀ a b, P0 a b → P1 a b → P2 a b → P3 a b → P4 a b → P5 a b → Q) : Q :=
  e2 h fun a b z => a6 z (f a b)
theorem x3_2 {P0 P1 : T0 → T1 → T2 → Prop} (h : ∃ a b c, P0 a b c ∧ P1 a b c) (f : ∀ a b c, P0 a b c → P1 a b c → Q) : Q :=
  e3 h fun a b c z => a2 z (f a b c)
theorem x3_3 {P0 P1 P2 : T0 → T1 → T2 → Prop} (h : ∃ a b c, P0 a b c ∧ P1 a b c ∧ P2 a b c) (f : ∀ a b c, P0 a b c → P1 a b c → P2 a b c → Q) : Q :=
  e3 h fun a b c z => a3 z (f a b c)
theorem x3_4 {P0 P1 P2 P3 : T0 → T1 → T2 → Prop} (h : ∃ a b c, P0 a b c ∧ P1 a b c ∧ P2 a b c ∧ P3 a b c) (f : ∀ a b c, P0 a b c → P1 a b c → P2 a b c → P3 a b c → Q) : Q :=
  e3 h fun a b c z => a4 z (f a b c)
theorem x3_5 {P0 P1 P2 P3 P4 : T0 → T1 → T2 → Prop} (h : ∃ a b c, P0 a b c ∧ P1 a b c ∧ P2 a b c ∧ P3 a b c ∧ P4 a b c) (f : ∀ a b c, P0 a b c → P1 a b c → P2 a b c → P3 a b c → P4 a b c → Q) : Q :=
  e3 h fun a b c z => a5 z (f a b c)
theorem x3_6 {P0 P1 P2 P3 P4 P5 : T0 → T1 → T2 → Prop} (h : ∃ a b c, P0 a b c ∧ P1 a b c ∧ P2 a b c ∧ P3 a b c ∧ P4 a b c ∧ P5 a b c) (f : ∀ a b c, P0 a b c → P1 a b c → P2 a b c → P3 a b c → P4 a b c → P5 a b c → Q) : Q :=
  e3 h fun a b c z => a6 z (f a b c)
theorem x4_2 {P0 P1 : T0 → T1 → T2 → T3 → Prop} (h : ∃ a b c d, P0 a b c d ∧ P1 a b c d) (f : ∀ a b c d, P0 a b c d → P1 a b c d → Q) : Q :=
  e4 h fun a b c d z => a2 z (f a b c d)
theorem x4_3 {P0 P1 P2 : T0 → T1 → T2 → T3 → Prop} (h : ∃ a b c d, P0 a b c d ∧ P1 a b c d ∧ P2 a b c d) (f : ∀ a b c d, P0 a b c d → P1 a b c d → P2 a b c d → Q) : Q :=
  e4 h fun a b c d z => a3 z (f a b c d)
theorem x4_4 {P0 P1 P2 P3 : T0 → T1 → T2 → T3 → Prop} (h : ∃ a b c d, P0 a b c d ∧ P1 a b c d ∧ P2 a b c d ∧ P3 a b c d) (f : ∀ a b c d, P0 a b c d → P1 a b c d → P2 a b c d → P3 a b c d → Q) : Q :=
  e4 h fun a b c d z => a4 z (f a b c d)
theorem x4_5 {P0 P1 P2 P3 P4 : T0 → T1 → T2 → T3 → Prop} (h : ∃ a b c d, P0 a b c d ∧ P1 a b c d ∧ P2 a b c d ∧ P3 a b c d ∧ P4 a b c d) (f : ∀ a b c d, P0 a b c d → P1 a b c d → P2 a b c d → P3 a b c d → P4 a b c d → Q) : Q :=
  e4 h fun a b c d z => a5 z (f a b c d)
theorem x4_6 {P0 P1 P2 P3 P4 P5 : T0 → T1 → T2 → T3 → Prop} (h : ∃ a b c d, P0 a b c d ∧ P1 a b c d ∧ P2 a b c d ∧ P3 a b c d ∧ P4 a b c d ∧ P5 a b c d) (f : ∀ a b c d, P0 a b c d → P1 a b c d → P2 a b c d → P3 a b c d → P4 a b c d → P5 a b c d → Q) : Q :=
  e4 h fun a b c d z => a6 z (f a b c d)
theorem x5_4 {P0 P1 P2 P3 : T0 → T1 → T2 → T3 → T4 → Prop} (h : ∃ a b c d e, P0 a b c d e ∧ P1 a b c d e ∧ P2 a b c d e ∧ P3 a b c d e) (f : ∀ a b c d e, P0 a b c d e → P1 a b c d e → P2 a b c d e → P3 a b c d e → Q) : Q :=
  e5 h fun a b c d e z => a4 z (f a b c d e)
theorem x5_6 {P0 P1 P2 P3 P4 P5 : T0 → T1 → T2 → T3 → T4 → Prop} (h : ∃ a b c d e, P0 a b c d e ∧ P1 a b c d e ∧ P2 a b c d e ∧ P3 a b c d e ∧ P4 a b c d e ∧ P5 a b c d e) (f : ∀ a b c d e, P0 a b c d e → P1 a b c d e → P2 a b c d e → P3 a b c d e → P4 a b c d e → P5 a b c d e → Q) : Q :=
  e5 h fun a b c d e z => a6 z (f a b c d e)
theorem x6_5 {P0 P1 P2 P3 P4 : T0 → T1 → T2 → T3 → T4 → T5 → Prop} (h : ∃ a b c d e i, P0 a b c d e i ∧ P1 a b c d e i ∧ P2 a b c d e i ∧ P3 a b c d e i ∧ P4 a b c d e i) (f : ∀ a b c d e i, P0 a b c d e i → P1 a b c d e i → P2 a b c d e i → P3 a b c d e i → P4 a b c d e i → Q) : Q :=
  e6 h fun a b c d e i z => a5 z (f a b c d e i)
theorem x7_4 {P0 P1 P2 P3 : T0 → T1 → T2 → T3 → T4 → T5 → T6 → Prop} (h : ∃ a b c d e i j, P0 a b c d e i j ∧ P1 a b c d e i j ∧ P2 a b c d e i j ∧ P3 a b c d e i j) (f : ∀ a b c d e i j, P0 a b c d e i j → P1 a b c d e i j → P2 a b c d e i j → P3 a b c d e i j → Q) : Q :=
  e7 h fun a b c d e i j z => a4 z (f a b c d e i j)
theorem x8_9 {P0 P1 P2 P3 P4 P5 P6 P7 P8 : T0 → T1 → T2 → T3 → T4 → T5 → T6 → T7 → Prop} (h : ∃ a b c d e i j k, P0 a b c d e i j k ∧ P1 a b c d e i j k ∧ P2 a b c d e i j k ∧ P3 a b c d e i j k ∧ P4 a b c d e i j k ∧ P5 a b c d e i j k ∧ P6 a b c d e i j k ∧ P7 a b c d e i j k ∧ P8 a b c d e i j k) (f : ∀ a b c d e i j k, P0 a b c d e i j k → P1 a b c d e i j k → P2 a b c d e i j k → P3 a b c d e i j k → P4 a b c d e i j k → P5 a b c d e i j k → P6 a b c d e i j k → P7 a b c d e i j k → P8 a b c d e i j k → Q) : Q :=
  e8 h fun a b c d e i j k z => a9 z (f a b c d e i j k)
theorem x9_3 {P0 P1 P2 : T0 → T1 → T2 → T3 → T4 → T5 → T6 → T7 → T8 → Prop} (h : ∃ a b c d e i j k l, P0 a b c d e i j k l ∧ P1 a b c d e i j k l ∧ P2 a b c d e i j k l) (f : ∀ a b c d e i j k l, P0 a b c d e i j k l → P1 a b c d e i j k l → P2 a b c d e i j k l → Q) : Q :=
  e9 h fun a b c d e i j k l z => a3 z (f a b c d e i j k l)
theorem x14_8 {P0 P1 P2 P3 P4 P5 P6 P7 : T0 → T1 → T2 → T3 → T4 → T5 → T6 → T7 → T8 → T9 → T10 → T11 → T12 → T13 → Prop} (h : ∃ a b c d e i j k l m n o p r, P0 a b c d e i j k l m n o p r ∧ P1 a b c d e i j k l m n o p r ∧ P2 a b c d e i j k l m n o p r ∧ P3 a b c d e i j k l m n o p r ∧ P4 a b c d e i j k l m n o p r ∧ P5 a b c d e i j k l m n o p r ∧ P6 a b c d e i j k l m n o p r ∧ P7 a b c d e i j k l m n o p r) (f : ∀ a b c d e i j k l m n o p r, P0 a b c d e i j k l m n o p r → P1 a b c d e i j k l m n o p r → P2 a b c d e i j k l m n o p r → P3 a b c d e i j k l m n o p r → P4 a b c d e i j k l m n o p r → P5 a b c d e i j k l m n o p r → P6 a b c d e i j k l m n o p r → P7 a b c d e i j k l m n o p r → Q) : Q :=
  e14 h fun a b c d e i j k l m n o p r z => a8 z (f a b c d e i j k l m n o p r)
theorem x16_13 {P0 P1 P2 P3 P4 P5 P6 P7 P8 P9 P10 P11 P12 : T0 → T1 → T2 → T3 → T4 → T5 → T6 → T7 → T8 → T9 → T10 → T11 → T12 → T13 → T14 → T15 → Prop} (h : ∃ a b c d e i j k l m n o p r s t, P0 a b c d e i j k l m n o p r s t ∧ P1 a b c d e i j k l m n o p r s t ∧ P2 a b c d e i j k l m n o p r s t ∧ P3 a b c d e i j k l m n o p r s t ∧ P4 a b c d e i j k l m n o p r s t ∧ P5 a b c d e i j k l m n o p r s t ∧ P6 a b c d e i j k l m n o p r s t ∧ P7 a b c d e i j k l m n o p r s t ∧ P8 a b c d e i j k l m n o p r s t ∧ P9 a b c d e i j k l m n o p r s t ∧ P10 a b c d e i j k l m n o p r s t ∧ P11 a b c d e i j k l m n o p r s t ∧ P12 a b c d e i j k l m n o p r s t) (f : ∀ a b c d e i j k l m n o p r s t, P0 a b c d e i j k l m n o p r s t → P1 a b c d e i j k l m n o p r s t → P2 a b c d e i j k l m n o p r s t → P3 a b c d e i j k l m n o p r s t → P4 a b c d e i j k l m n o p r s t → P5 a b c d e i j k l m n o p r s t → P6 a b c d e i j k l m n o p r s t → P7 a b c d e i j k l m n o p r s t → P8 a b c d e i j k l m n o p r s t → P9 a b c d e i j k l m n o p r s t → P10 a b c d e i j k l m n o p r s t → P11 a b c d e i j k l m n o p r s t → P12 a b c d e i j k l m n o p r s t → Q) : Q :=
  e16 h fun a b c d e i j k l m n o p r s t z => a13 z (f a b c d e i j k l m n o p r s t)
theorem l1 {P R : T0 → Prop} (h : ∃ a, P a ∧ R a) (f : ∀ a, P a → Q) : Q :=
  e1 h fun a z => f a z.1
theorem l2 {P R : T0 → T1 → Prop} (h : ∃ a b, P a b ∧ R a b) (f : ∀ a b, P a b → Q) : Q :=
  e2 h fun a b z => f a b z.1
theorem l3 {P R : T0 → T1 → T2 → Prop} (h : ∃ a b c, P a b c ∧ R a b c) (f : ∀ a b c, P a b c → Q) : Q :=
  e3 h fun a b c z => f a b c z.1
theorem l4 {P R : T0 → T1 → T2 → T3 → Prop} (h : ∃ a b c d, P a b c d ∧ R a b c d) (f : ∀ a b c d, P a b c d → Q) : Q :=
  e4 h fun a b c d z => f a b c d z.1
theorem l5 {P R : T0 → T1 → T2 → T3 → T4 → Prop} (h : ∃ a b c d e, P a b c d e ∧ R a b c d e) (f : ∀ a b c d e, P a b c d e → Q) : Q :=
  e5 h fun a b c d e z => f a b c d e z.1
theorem l6 {P R : T0 → T1 → T2 → T3 → T4 → T5 → Prop} (h : ∃ a b c d e i, P a b c d e i ∧ R a b c d e i) (f : ∀ a b c d e i, P a b c d e i → Q) : Q :=
  e6 h fun a b c d e i z => f a b c d e i z.1
theorem l7 {P R : T0 → T1 → T2 → T3 → T4 → T5 → T6 → Prop} (h : ∃ a b c d e i j, P a b c d e i j ∧ R a b c d e i j) (f : ∀ a b c d e i j, P a b c d e i j → Q) : Q :=
  e7 h fun a b c d e i j z => f a b c d e i j z.1
theorem l8 {P R : T0 → T1 → T2 → T3 → T4 → T5 → T6 → T7 → Prop} (h : ∃ a b c d e i j k, P a b c d e i j k ∧ R a b c d e i j k) (f : ∀ a b c d e i j k, P a b c d e i j k → Q) : Q :=
  e8 h fun a b c d e i j k z => f a b c d e i j k z.1
theorem l10 {P R : T0 → T1 → T2 → T3 → T4 → T5 → T6 → T7 → T8 → T9 → Prop} (h : ∃ a b c d e i j k l m, P a b c d e i j k l m ∧ R a b c d e i j k l m) (f : ∀ a b c d e i j k l m, P a b c d e i j k l m → Q) : Q :=
  e10 h fun a b c d e i j k l m z => f a b c d e i j k l m z.1
theorem l11 {P R : T0 → T1 → T2 → T3 → T4 → T5 → T6 → T7 → T8 → T9 → T10 → Prop} (h : ∃ a b c d e i j k l m n, P a b c d e i j k l m n ∧ R a b c d e i j k l m n) (f : ∀ a b c d e i j k l m n, P a b c d e i j k l m n → Q) : Q :=
  e11 h fun a b c d e i j k l m n z => f a b c d e i j k l m n z.1
theorem l12 {P R : T0 → T1 → T2 → T3 → T4 → T5 → T6 → T7 → T8 → T9 → T10 → T11 → Prop} (h : ∃ a b c d e i j k l m n o, P a b c d e i j k l m n o ∧ R a b c d e i j k l m n o) (f : ∀ a b c d e i j k l m n o, P a b c d e i j k l m n o → Q) : Q :=
  e12 h fun a b c d e i j k l m n o z => f a b c d e i j k l m n o z.1
theorem l13 {P R : T0 → T1 → T2 → T3 → T4 → T5 → T6 → T7 → T8 → T9 → T10 → T11 → T12 → Prop} (h : ∃ a b c d e i j k l m n o p, P a b c d e i j k l m n o p ∧ R a b c d e i j k l m n o p) (f : ∀ a b c d e i j k l m n o p, P a b c d e i j k l m n o p → Q) : Q :=
  e13 h fun a b c d e i j k l m n o p z => f a b c d e i j k l m n o p z.1
theorem l14 {P R : T0 → T1 → T2 → T3 → T4 → T5 → T6 → T7 → T8 → T9 → T10 → T11 → T12 → T13 → Prop} (h : ∃ a b c d e i j k l m n o p r, P a b c d e i j k l m n o p r ∧ R a b c d e i j k l m n o p r) (f : ∀ a b c d e i j k l m n o p r, P a b c d e i j k l m n o p r → Q) : Q :=
  e14 h fun a b c d e i j k l m n o p r z => f a b c d e i j k l m n o p r z.1
theorem l16 {P R : T0 → T1 → T2 → T3 → T4 → T5 → T6 → T7 → T8 → T9 → T10 → T11 → T12 → T13 → T14 → T15 → Prop} (h : ∃ a b c d e i j k l m n o p r s t, P a b c d e i j k l m n o p r s t ∧ R a b c d e i j k l m n o p r s t) (f : ∀ a b c d e i j k l m n o p r s t, P a b c d e i j k l m n o p r s t → Q) : Q :=
  e16 h fun a b c d e i j k l m n o p r s t z => f a b c d e i j k l m n o p r s t z.1
theorem i3 {R : T0 → T1 → T2 → Prop} (a : T0) (b : T1) (c : T2) (h : R a b c) : ∃ a b c, R a b c :=
  ⟨a, b, c, h⟩
theorem i4 {R : T0 → T1 → T2 → T3 → Prop} (a : T0) (b : T1) (c : T2) (d : T3) (h : R a b c d) : ∃ a b c d, R a b c d :=
  i3 a b c ⟨d, h⟩
theorem i5 {R : T0 → T1 → T2 → T3 → T4 → Prop} (a : T0) (b : T1) (c : T2) (d : T3) (e : T4) (h : R a b c d e) : ∃ a b c d e, R a b c d e :=
  i4 a b c d ⟨e, h⟩
theorem i6 {R : T0 → T1 → T2 → T3 → T4 → T5 → Prop} (a : T0) (b : T1) (c : T2) (d : T3) (e : T4) (i : T5) (h : R a b c d e i) : ∃ a b c d e i, R a b c d e i :=
  i5 a b c d e ⟨i, h⟩
theorem i7 {R : T0 → T1 → T2 → T3 → T4 → T5 → T6 → Prop} (a : T0) (b : T1) (c : T2) (d : T3) (e : T4) (i : T5) (j : T6) (h : R a b c d e i j) : ∃ a b c d e i j, R a b c d e i j :=
  i6 a b c d e i ⟨j, h⟩
theorem i8 {R : T0 → T1 → T2 → T3 → T4 → T5 → T6 → T7 → Prop} (a : T0) (b : T1) (c : T2) (d : T3) (e : T4) (i : T5) (j : T6) (k : T7) (h : R a b c d e i j k) : ∃ a b c d e i j k, R a b c d e i j k :=
  i7 a b c d e i j ⟨k, h⟩
theorem i9 {R : T0 → T1 → T2 → T3 → T4 → T5 → T6 → T7 → T8 → Prop} (a : T0) (b : T1) (c : T2) (d : T3) (e : T4) (i : T5) (j : T6) (k : T7) (l : T8) (h : R a b c d e i j k l) : ∃ a b c d e i j k l, R a b c d e i j k l :=
  i8 a b c d e i j k ⟨l, h⟩
theorem i10 {R : T0 → T1 → T2 → T3 → T4 → T5 → T6 → T7 → T8 → T9 → Prop} (a : T0) (b : T1) (c : T2) (d : T3) (e : T4) (i : T5) (j : T6) (k : T7) (l : T8) (m : T9) (h : R a b c d e i j k l m) : ∃ a b c d e i j k l m, R a b c d e i j k l m :=
  i9 a b c d e i j k l ⟨m, h⟩
theorem i11 {R : T0 → T1 → T2 → T3 → T4 → T5 → T6 → T7 → T8 → T9 → T10 → Prop} (a : T0) (b : T1) (c : T2) (d : T3) (e : T4) (i : T5) (j : T6) (k : T7) (l : T8) (m : T9) (n : T10) (h : R a b c d e i j k l m n) : ∃ a b c d e i j k l m n, R a b c d e i j k l m n :=
  i10 a b c d e i j k l m ⟨n, h⟩
theorem i12 {R : T0 → T1 → T2 → T3 → T4 → T5 → T6 → T7 → T8 → T9 → T10 → T11 → Prop} (a : T0) (b : T1) (c : T2) (d : T3) (e : T4) (i : T5) (j : T6) (k : T7) (l : T8) (m : T9) (n : T10) (o : T11) (h : R a b c d e i j k l m n o) : ∃ a b c d e i j k l m n o, R a b c d e i j k l m n o :=
  i11 a b c d e i j k l m n ⟨o, h⟩
theorem i13 {R : T0 → T1 → T2 → T3 → T4 → T5 → T6 → T7 → T8 → T9 → T10 → T11 → T12 → Prop} (a : T0) (b : T1) (c : T2) (d : T3) (e : T4) (i : T5) (j : T6) (k : T7) (l : T8) (m : T9) (n : T10) (o : T11) (p : T12) (h : R a b c d e i j k l m n o p) : ∃ a b c d e i j k l m n o p, R a b c d e i j k l m n o p :=
  i12 a b c d e i j k l m n o ⟨p, h⟩
theorem i14 {R : T0 → T1 → T2 → T3 → T4 → T5 → T6 → T7 → T8 → T9 → T10 → T11 → T12 → T13 → Prop} (a : T0) (b : T1) (c : T2) (d : T3) (e : T4) (i : T5) (j : T6) (k : T7) (l : T8) (m : T9) (n : T10) (o : T11) (p : T12) (r : T13) (h : R a b c d e i j k l m n o p r) : ∃ a b c d e i j k l m n o p r, R a b c d e i j k l m n o p r :=
  i13 a b c d e i j k l m n o p ⟨r, h⟩
theorem i16 {R : T0 → T1 → T2 → T3 → T4 → T5 → T6 → T7 → T8 → T9 → T10 → T11 → T12 → T13 → T14 → T15 → Prop} (a : T0) (b : T1) (c : T2) (d : T3) (e : T4) (i : T5) (j : T6) (k : T7) (l : T8) (m : T9) (n : T10) (o : T11) (p : T12) (r : T13) (s : T14) (t : T15) (h : R a b c d e i j k l m n o p r s t) : ∃ a b c d e i j k l m n o p r s t, R a b c d e i j k l m n o p r s t :=
  i14 a b c d e i j k l m n o p r ⟨s, t, h⟩
end Ea
section
namespace Mg
open Ks176 (Went)
theorem snoc_ind {α : Type} {P : List α → Prop} (h0 : P []) (h1 : ∀ l a, P l → P (l ++ [a])) (l : List α) : P l := by
  have key : ∀ r : List α, P r.reverse := by
    intro r
    induction r with
    | nil => exact h0
    | cons a r ih => rw [List.reverse_cons]; exact h1 _ _ ih
  have := key l.reverse
  rwa [List.reverse_reverse] at this
noncomputable def Stp (c x : List Nat) (e : Went) (k : Nat) (y : List Nat) : Prop :=
  match e with
  | .went (.in_ t _ lo hi) => lo ≤ k ∧ k ≤ hi ∧ y = Ks175.add x t k
  | .went (.pour a b n) => k ≤ n ∧ k ≤ x.getD a 0 ∧ n - k ≤ c.getD a 0 - x.getD a 0 ∧ y = Ks175.add (Ks175.less x a k) b k
  | .found t lo hi => k = 0 ∧ lo ≤ x.getD t 0 ∧ x.getD t 0 ≤ hi ∧ y = x
theorem mem_next {c x y : List Nat} {e : Went} : y ∈ Ks176.next c x e ↔ ∃ k, Stp c x e k y := by
  cases e with
  | went e =>
    cases e with
    | in_ t n lo hi =>
      simp only [Ks176.next, Ks175.next, Stp, List.mem_map, List.mem_range]
      constructor
      · intro qz1
        refine Ea.x1_2 qz1 fun j hj qz2 => ?_; try clear qz1; subst qz2
        exact ⟨lo + j, by lia, by lia, rfl⟩
      · intro qz3
        refine Ea.x1_3 qz3 fun k h1 h2 qz4 => ?_; try clear qz3; subst qz4
        exact ⟨k - lo, by lia, by rw [Nat.add_sub_cancel' h1]⟩
    | pour a b n =>
      simp only [Ks176.next, Ks175.next, Stp, List.mem_map, List.mem_filter, List.mem_range, Bool.and_eq_true, decide_eq_true_eq]
      constructor
      · intro qz5
        refine Ea.x1_2 qz5 fun j qz6 qz7 => ?_; try clear qz5; obtain ⟨hj, h1, h2⟩ := qz6; subst qz7
        exact ⟨j, by lia, h1, h2, rfl⟩
      · intro qz8
        refine Ea.x1_4 qz8 fun k h0 h1 h2 qz9 => ?_; try clear qz8; subst qz9
        exact ⟨k, ⟨by lia, h1, h2⟩, rfl⟩
  | found t lo hi =>
    simp only [Ks176.next, Stp]
    by_cases h : lo ≤ x.getD t 0 ∧ x.getD t 0 ≤ hi
    · rw [if_pos h, List.mem_singleton]
      exact ⟨fun e => ⟨0, rfl, h.1, h.2, e⟩, fun ⟨_, _, _, _, e⟩ => e⟩
    · rw [if_neg h]
      constructor
      · intro q; cases q
      · intro qz10
        refine Ea.x1_4 qz10 fun _ _ h1 h2 _ => ?_; try clear qz10
        exact absurd ⟨h1, h2⟩ h
noncomputable def gr (n : Nat) (l : List Went) : List Nat := (Ks176.courses n l).1
noncomputable def ms (n : Nat) (l : List Went) : List (List Nat) := (Ks176.courses n l).2
theorem gr_nil (n : Nat) : gr n [] = Ks175.none_ n := rfl
theorem gr_snoc (n : Nat) (l : List Went) (e : Went) : gr n (l ++ [e]) = Ks176.after (gr n l) e := by
  simp only [gr, Ks176.courses, List.foldl_append, List.foldl_cons, List.foldl_nil]
theorem ms_snoc (n : Nat) (l : List Went) (e : Went) : ms n (l ++ [e]) = ((ms n l).flatMap fun x => Ks176.next (gr n l) x e).eraseDups := by
  simp only [gr, ms, Ks176.courses, List.foldl_append, List.foldl_cons, List.foldl_nil]
inductive Crs (n : Nat) : List Went → List Nat → List Nat → Prop
  | nil : Crs n [] [] (Ks175.none_ n)
  | snoc {l : List Went} {ks x : List Nat} {e : Went} {k : Nat} {y : List Nat} : Crs n l ks x → Stp (gr n l) x e k y → Crs n (l ++ [e]) (ks ++ [k]) y
theorem crs_nil {n : Nat} {ks x : List Nat} : Crs n [] ks x ↔ ks = [] ∧ x = Ks175.none_ n := by
  constructor
  · generalize hl : ([] : List Went) = l
    intro h
    cases h with
    | nil => exact ⟨rfl, rfl⟩
    | snoc _ _ => simp at hl
  · rintro ⟨rfl, rfl⟩; exact .nil
theorem crs_snoc {n : Nat} {l : List Went} {e : Went} {ks' y : List Nat} : Crs n (l ++ [e]) ks' y ↔ ∃ ks k x, ks' = ks ++ [k] ∧ Crs n l ks x ∧ Stp (gr n l) x e k y := by
  constructor
  · generalize hl : l ++ [e] = l'
    intro h
    cases h with
    | nil => simp at hl
    | snoc h s =>
      obtain ⟨rfl, h2⟩ := List.append_inj' hl rfl
      cases h2
      exact ⟨_, _, _, rfl, h, s⟩
  · rintro ⟨ks, k, x, rfl, h, s⟩; exact .snoc h s
theorem Crs.len {n : Nat} {l : List Went} {ks x : List Nat} (h : Crs n l ks x) : ks.length = l.length := by
  induction h with
  | nil => rfl
  | snoc _ _ ih => simp [ih]
theorem mem_ms {n : Nat} (l : List Went) : ∀ {y : List Nat}, y ∈ ms n l ↔ ∃ ks, Crs n l ks y := by
  induction l using snoc_ind with
  | h0 =>
    intro y
    simp only [crs_nil]
    show y ∈ [Ks175.none_ n] ↔ _
    rw [List.mem_singleton]
    exact ⟨fun e => ⟨[], rfl, e⟩, fun ⟨_, _, e⟩ => e⟩
  | h1 l e ih =>
    intro y
    rw [ms_snoc, List.mem_eraseDups, List.mem_flatMap]
    simp only [mem_next, crs_snoc]
    constructor
    · rintro ⟨x, hx, k, hk⟩
      obtain ⟨ks, hc⟩ := ih.mp hx
      exact (Ea.i4 _ ks k x ⟨rfl, hc, hk⟩)
    · intro qz12
      refine Ea.x4_3 qz12 fun _ ks k x qz13 hc hk => ?_; try clear qz12; subst qz13
      exact ⟨x, ih.mpr ⟨ks, hc⟩, k, hk⟩
theorem len_add (l : List Nat) (t n : Nat) : (Ks175.add l t n).length = l.length := by simp [Ks175.add]
theorem len_less (l : List Nat) (t n : Nat) : (Ks175.less l t n).length = l.length := by simp [Ks175.less]
theorem getD_set (l : List Nat) (t v j : Nat) : (l.set t v).getD j 0 = if t = j ∧ j < l.length then v else l.getD j 0 := by
  simp only [List.getD_eq_getElem?_getD, List.getElem?_set]
  by_cases h : t = j
  · subst h
    by_cases h2 : t < l.length
    · simp [h2]
    · simp [h2]
  · simp [h]
theorem getD_add {l : List Nat} {t n j : Nat} (ht : t < l.length) : (Ks175.add l t n).getD j 0 = if t = j then l.getD j 0 + n else l.getD j 0 := by
  rw [Ks175.add, getD_set]
  by_cases h : t = j
  · subst h; simp [ht]
  · simp [h]
theorem getD_less {l : List Nat} {t n j : Nat} (ht : t < l.length) : (Ks175.less l t n).getD j 0 = if t = j then l.getD j 0 - n else l.getD j 0 := by
  rw [Ks175.less, getD_set]
  by_cases h : t = j
  · subst h; simp [ht]
  · simp [h]
theorem getD_none (n j : Nat) : (Ks175.none_ n).getD j 0 = 0 := by
  simp only [Ks175.none_, List.getD_eq_getElem?_getD, List.getElem?_replicate]
  split <;> rfl
noncomputable def EvOk (n : Nat) (c : List Nat) : Went → Prop
  | .went (.in_ t a _ hi) => t < n ∧ hi ≤ a
  | .went (.pour f t a) => f < n ∧ t < n ∧ f ≠ t ∧ a ≤ c.getD f 0
  | .found t _ _ => t < n
inductive Wf (n : Nat) : List Went → Prop
  | nil : Wf n []
  | snoc {l : List Went} {e : Went} : Wf n l → EvOk n (gr n l) e → Wf n (l ++ [e])
theorem wf_snoc {n : Nat} {l : List Went} {e : Went} : Wf n (l ++ [e]) ↔ Wf n l ∧ EvOk n (gr n l) e := by
  constructor
  · generalize hl : l ++ [e] = l'
    intro h
    cases h with
    | nil => simp at hl
    | snoc h s =>
      obtain ⟨rfl, h2⟩ := List.append_inj' hl rfl
      cases h2
      exact ⟨h, s⟩
  · rintro ⟨h, s⟩; exact .snoc h s
theorem len_gr {n : Nat} (l : List Went) : (gr n l).length = n := by
  induction l using snoc_ind with
  | h0 => simp [gr_nil, Ks175.none_]
  | h1 l e ih =>
    rw [gr_snoc]
    cases e with
    | went e =>
      cases e with
      | in_ t a lo hi => simp only [Ks176.after, Ks175.after, len_add, ih]
      | pour f t a => simp only [Ks176.after, Ks175.after, len_add, len_less, ih]
    | found t lo hi => exact ih
theorem Crs.size {n : Nat} {l : List Went} {ks x : List Nat} (h : Crs n l ks x) : x.length = n := by
  induction h with
  | nil => simp [Ks175.none_]
  | @snoc l ks x e k y _ s ih =>
    cases e with
    | went e =>
      cases e with
      | in_ t a lo hi => obtain ⟨_, _, rfl⟩ := s; rw [len_add, ih]
      | pour f t a => obtain ⟨_, _, _, rfl⟩ := s; rw [len_add, len_less, ih]
    | found t lo hi => obtain ⟨_, _, _, rfl⟩ := s; exact ih
theorem Crs.le {n : Nat} {l : List Went} {ks x : List Nat} (h : Crs n l ks x) : Wf n l → ∀ j, x.getD j 0 ≤ (gr n l).getD j 0 := by
  induction h with
  | nil => intro _ j; rw [getD_none]; exact Nat.zero_le _
  | @snoc l ks x e k y hc s ih =>
    intro hw j
    rw [wf_snoc] at hw
    have ihj := ih hw.1 j
    have lx := hc.size
    have lg := len_gr (n := n) l
    rw [gr_snoc]
    cases e with
    | went e =>
      cases e with
      | in_ t a lo hi =>
        refine Ea.a3 s fun h1 h2 qz15 => ?_; try clear s; subst qz15
        obtain ⟨w1, w2⟩ := hw.2
        simp only [Ks176.after, Ks175.after]
        rw [getD_add (by lia), getD_add (by lia)]
        split <;> lia
      | pour f t a =>
        refine Ea.a4 s fun h1 h2 h3 qz16 => ?_; try clear s; subst qz16
        refine Ea.a4 hw.2 fun w1 w2 w3 w4 => ?_
        simp only [Ks176.after, Ks175.after]
        rw [getD_add (by rw [len_less]; lia), getD_add (by rw [len_less]; lia), getD_less (by lia), getD_less (by lia)]
        have ihf := ih hw.1 f
        by_cases e1 : t = j
        · subst e1
          rw [if_pos rfl, if_pos rfl, if_neg w3, if_neg w3]
          lia
        · rw [if_neg e1, if_neg e1]
          by_cases e2 : f = j
          · subst e2
            rw [if_pos rfl, if_pos rfl]
            lia
          · rw [if_neg e2, if_neg e2]; exact ihj
    | found t lo hi =>
      refine Ea.a4 s fun _ _ _ qz17 => ?_; try clear s; subst qz17
      exact ihj
theorem set_snoc_lt {α : Type} (l : List α) (a b : α) {k : Nat} (h : k < l.length) : (l ++ [a]).set k b = l.set k b ++ [a] := by
  rw [List.set_append_left _ _ h]
theorem set_snoc_eq {α : Type} (l : List α) (a b : α) : (l ++ [a]).set l.length b = l ++ [b] := by
  rw [List.set_append_right _ _ (Nat.le_refl _)]; simp
theorem gr_set {n : Nat} {t a lo hi lo' hi' : Nat} (l : List Went) : ∀ {k : Nat}, l[k]? = some (.went (.in_ t a lo hi)) → gr n (l.set k (.went (.in_ t a lo' hi'))) = gr n l := by
  induction l using snoc_ind with
  | h0 => intro k h; simp at h
  | h1 l e ih =>
    intro k h
    by_cases hk : k < l.length
    · rw [List.getElem?_append_left hk] at h
      rw [set_snoc_lt _ _ _ hk, gr_snoc, gr_snoc, ih h]
    · have hk2 : k = l.length := by
        have := (List.getElem?_eq_some_iff.mp h).1
        simp at this; lia
      subst hk2
      simp at h
      subst h
      rw [set_snoc_eq, gr_snoc, gr_snoc]
      rfl
theorem crs_set {n : Nat} {t a lo hi lo' hi' : Nat} (l : List Went) : ∀ {k : Nat} {ks x : List Nat}, l[k]? = some (.went (.in_ t a lo hi)) →
    (Crs n (l.set k (.went (.in_ t a (max lo lo') (min hi hi')))) ks x ↔ Crs n l ks x ∧ ∃ v, ks[k]? = some v ∧ lo' ≤ v ∧ v ≤ hi') := by
  induction l using snoc_ind with
  | h0 => intro k ks x h; simp at h
  | h1 l e ih =>
    intro k ks x h
    by_cases hk : k < l.length
    · rw [List.getElem?_append_left hk] at h
      rw [set_snoc_lt _ _ _ hk, crs_snoc, crs_snoc]
      simp only [gr_set l h]
      constructor
      · intro qz18
        refine Ea.x3_3 qz18 fun ks1 j z qz19 hc hs => ?_; try clear qz18; subst qz19
        obtain ⟨hc, v, hv, hb⟩ := (ih h).mp hc
        refine ⟨⟨ks1, j, z, rfl, hc, hs⟩, v, ?_, hb⟩
        rw [List.getElem?_append_left (by rw [hc.len]; exact hk)]; exact hv
      · rintro ⟨⟨ks1, j, z, rfl, hc, hs⟩, v, hv, hb⟩
        rw [List.getElem?_append_left (by rw [hc.len]; exact hk)] at hv
        exact ⟨ks1, j, z, rfl, (ih h).mpr ⟨hc, v, hv, hb⟩, hs⟩
    · have hk2 : k = l.length := by
        have := (List.getElem?_eq_some_iff.mp h).1
        simp at this; lia
      subst hk2
      simp at h
      subst h
      rw [set_snoc_eq, crs_snoc, crs_snoc]
      constructor
      · intro qz22
        refine Ea.x3_5 qz22 fun ks1 j z qz23 hc h1 h2 qz24 => ?_; try clear qz22; subst qz23; subst qz24
        refine ⟨(Ea.i3 ks1 j z ⟨rfl, hc, by lia, by lia, rfl⟩), j, ?_, by lia, by lia⟩
        rw [← hc.len]; simp
      · rintro ⟨⟨ks1, j, z, rfl, hc, h1, h2, rfl⟩, v, hv, h3, h4⟩
        rw [← hc.len] at hv
        simp at hv
        subst hv
        exact (Ea.i3 ks1 j z ⟨rfl, hc, by lia, by lia, rfl⟩)
theorem wf_set {n : Nat} {t a lo hi lo' hi' : Nat} (hh : hi' ≤ hi) (l : List Went) : ∀ {k : Nat}, l[k]? = some (.went (.in_ t a lo hi)) → Wf n l → Wf n (l.set k (.went (.in_ t a lo' hi'))) := by
  induction l using snoc_ind with
  | h0 => intro k h; simp at h
  | h1 l e ih =>
    intro k h hw
    rw [wf_snoc] at hw
    by_cases hk : k < l.length
    · rw [List.getElem?_append_left hk] at h
      rw [set_snoc_lt _ _ _ hk, wf_snoc, gr_set l h]
      exact ⟨ih h hw.1, hw.2⟩
    · have hk2 : k = l.length := by
        have := (List.getElem?_eq_some_iff.mp h).1
        simp at this; lia
      subst hk2
      simp at h
      subst h
      rw [set_snoc_eq, wf_snoc]
      exact ⟨hw.1, hw.2.1, Nat.le_trans hh hw.2.2⟩
theorem foldl_max_le (l : List Nat) : ∀ (a b : Nat), l.foldl max a ≤ b ↔ a ≤ b ∧ ∀ x ∈ l, x ≤ b := by
  induction l with
  | nil => intro a b; simp
  | cons c l ih =>
    intro a b
    rw [List.foldl_cons, ih]
    simp only [List.mem_cons, forall_eq_or_imp, Nat.max_le, and_assoc]
theorem foldl_max_ge (l : List Nat) : ∀ (a : Nat), a ≤ l.foldl max a ∧ ∀ x ∈ l, x ≤ l.foldl max a := by
  intro a
  exact (foldl_max_le l a _).mp (Nat.le_refl _)
theorem foldl_min_ge (l : List Nat) : ∀ (a b : Nat), b ≤ l.foldl min a ↔ b ≤ a ∧ ∀ x ∈ l, b ≤ x := by
  induction l with
  | nil => intro a b; simp
  | cons c l ih =>
    intro a b
    rw [List.foldl_cons, ih]
    simp only [List.mem_cons, forall_eq_or_imp, Nat.le_min, and_assoc]
theorem greatest_eq {l : List Nat} {M : Nat} (h1 : M ∈ l) (h2 : ∀ x ∈ l, x ≤ M) : Ks175.greatest l = M := by
  apply Nat.le_antisymm
  · exact (foldl_max_le l 0 M).mpr ⟨Nat.zero_le _, h2⟩
  · exact (foldl_max_ge l 0).2 M h1
theorem smallest_eq {l : List Nat} {M : Nat} (h1 : M ∈ l) (h2 : ∀ x ∈ l, M ≤ x) : Ks175.smallest l = M := by
  cases l with
  | nil => cases h1
  | cons c l =>
    apply Nat.le_antisymm
    · exact ((foldl_min_ge (c :: l) c _).mp (Nat.le_refl _)).2 M h1
    · exact (foldl_min_ge (c :: l) c M).mpr ⟨h2 c (List.mem_cons_self ..), h2⟩
noncomputable def sumN : Nat → (Nat → Int) → Int
  | 0, _ => 0
  | n + 1, f => sumN n f + f n
theorem sum_snoc (l : List Nat) (a : Nat) : Ks175.sum (l ++ [a]) = Ks175.sum l + a := by
  simp [Ks175.sum, List.foldl_append]
theorem sum_range (n : Nat) (f : Nat → Nat) : ((Ks175.sum ((List.range n).map f) : Nat) : Int) = sumN n fun t => (f t : Int) := by
  induction n with
  | zero => rfl
  | succ n ih => rw [List.range_succ, List.map_append, List.map_cons, List.map_nil, sum_snoc, sumN, ← ih]; simp
theorem on_eq (s : Nat) (x : List Nat) : ((Ks175.on s x : Nat) : Int) = sumN x.length fun t => if s.testBit t then (x.getD t 0 : Int) else 0 := by
  rw [Ks175.on, sum_range]
  congr 1
  funext t
  split <;> simp
end Mg
end
section
namespace Mg
open Ks176 (Went)
theorem sumN_congr {n : Nat} {f g : Nat → Int} (h : ∀ i, i < n → f i = g i) : sumN n f = sumN n g := by
  induction n with
  | zero => rfl
  | succ n ih => rw [sumN, sumN, ih fun i hi => h i (by lia), h n (by lia)]
theorem sumN_zero {n : Nat} {f : Nat → Int} (h : ∀ i, i < n → f i = 0) : sumN n f = 0 := by
  induction n with
  | zero => rfl
  | succ n ih => rw [sumN, ih fun i hi => h i (by lia), h n (by lia)]; rfl
theorem sumN_add (n : Nat) (f g : Nat → Int) : sumN n (fun i => f i + g i) = sumN n f + sumN n g := by
  induction n with
  | zero => rfl
  | succ n ih => simp only [sumN, ih]; lia
theorem sumN_sub (n : Nat) (f g : Nat → Int) : sumN n (fun i => f i - g i) = sumN n f - sumN n g := by
  induction n with
  | zero => rfl
  | succ n ih => simp only [sumN, ih]; lia
theorem sumN_le {n : Nat} {f g : Nat → Int} (h : ∀ i, i < n → f i ≤ g i) : sumN n f ≤ sumN n g := by
  induction n with
  | zero => exact Int.le_refl _
  | succ n ih =>
    have := ih fun i hi => h i (by lia)
    have := h n (by lia)
    simp only [sumN]; lia
theorem sumN_one {n k : Nat} {f : Nat → Int} (hk : k < n) (h : ∀ i, i < n → i ≠ k → f i = 0) : sumN n f = f k := by
  induction n with
  | zero => lia
  | succ n ih =>
    by_cases e : k = n
    · subst e
      rw [sumN, sumN_zero fun i hi => h i (by lia) (by lia)]; lia
    · rw [sumN, ih (by lia) fun i hi hne => h i (by lia) hne, h n (by lia) (by lia)]; lia
theorem sumN_chg {n k : Nat} {f g : Nat → Int} (hk : k < n) (h : ∀ i, i < n → i ≠ k → f i = g i) : sumN n f = sumN n g + (f k - g k) := by
  have e := sumN_sub n f g
  rw [sumN_one (f := fun i => f i - g i) hk fun i hi hne => by rw [h i hi hne]; lia] at e
  lia
theorem sumN_comm (n m : Nat) (f : Nat → Nat → Int) : sumN n (fun i => sumN m (f i)) = sumN m (fun j => sumN n fun i => f i j) := by
  induction n with
  | zero => exact (sumN_zero fun _ _ => rfl).symm
  | succ n ih => simp only [sumN]; rw [ih, ← sumN_add]
noncomputable def exc (m : Nat) (og gl : Nat → Nat) (d : Nat → Int) (p : Nat) : Int :=
  sumN m fun e => (if gl e = p then d e else 0) - (if og e = p then d e else 0)
noncomputable def up1 (d : Nat → Int) (e : Nat) (v : Int) : Nat → Int := fun i => if i = e then v else d i
theorem up1_same (d : Nat → Int) (e : Nat) (v : Int) : up1 d e v e = v := by simp [up1]
theorem up1_ne {d : Nat → Int} {e i : Nat} {v : Int} (h : i ≠ e) : up1 d e v i = d i := by simp [up1, h]
theorem exc_congr {m : Nat} {og gl og' gl' : Nat → Nat} {d d' : Nat → Int} (p : Nat) (h1 : ∀ e, e < m → og e = og' e) (h2 : ∀ e, e < m → gl e = gl' e) (h3 : ∀ e, e < m → d e = d' e) : exc m og gl d p = exc m og' gl' d' p :=
  sumN_congr fun e he => by rw [h1 e he, h2 e he, h3 e he]
theorem exc_succ (m : Nat) (og gl : Nat → Nat) (d : Nat → Int) (p : Nat) : exc (m + 1) og gl d p = exc m og gl d p + ((if gl m = p then d m else 0) - (if og m = p then d m else 0)) := rfl
theorem exc_upd {m e : Nat} (he : e < m) (og gl : Nat → Nat) (d : Nat → Int) (v : Int) (p : Nat) : exc m og gl (up1 d e v) p = exc m og gl d p + ((if gl e = p then v - d e else 0) - (if og e = p then v - d e else 0)) := by
  unfold exc
  rw [sumN_chg (g := fun e => (if gl e = p then d e else 0) - (if og e = p then d e else 0)) he fun i _ hne => by simp only [up1_ne hne]]
  simp only [up1_same]
  split <;> split <;> lia
theorem exc_goal {m e : Nat} (he : e < m) {og gl gl' : Nat → Nat} (h : ∀ i, i < m → i ≠ e → gl' i = gl i) (d : Nat → Int) (p : Nat) : exc m og gl' d p = exc m og gl d p + ((if gl' e = p then d e else 0) - (if gl e = p then d e else 0)) := by
  unfold exc
  rw [sumN_chg (g := fun e => (if gl e = p then d e else 0) - (if og e = p then d e else 0)) he fun i hi hne => by simp only [h i hi hne]]
  lia
theorem exc_add (m : Nat) (og gl : Nat → Nat) (d d' : Nat → Int) (p : Nat) : exc m og gl (fun e => d e + d' e) p = exc m og gl d p + exc m og gl d' p := by
  unfold exc
  rw [← sumN_add]
  exact sumN_congr fun e _ => by dsimp only; split <;> split <;> lia
theorem exc_sub (m : Nat) (og gl : Nat → Nat) (d d' : Nat → Int) (p : Nat) : exc m og gl (fun e => d e - d' e) p = exc m og gl d p - exc m og gl d' p := by
  unfold exc
  rw [← sumN_sub]
  exact sumN_congr fun e _ => by dsimp only; split <;> split <;> lia
theorem exc_zero (m : Nat) (og gl : Nat → Nat) (p : Nat) : exc m og gl (fun _ => 0) p = 0 := sumN_zero fun e _ => by split <;> split <;> rfl
theorem exc_set {m N : Nat} {og gl : Nat → Nat} (d : Nat → Int) (S : Nat → Bool) (ho : ∀ e, e < m → og e < N) (hg : ∀ e, e < m → gl e < N) :
    sumN N (fun p => if S p then exc m og gl d p else 0) = sumN m fun e => (if S (gl e) then d e else 0) - (if S (og e) then d e else 0) := by
  have e1 : sumN N (fun p => if S p then exc m og gl d p else 0) = sumN N fun p => sumN m fun e => if S p then ((if gl e = p then d e else 0) - (if og e = p then d e else 0)) else 0 := by
    refine sumN_congr fun p _ => ?_
    by_cases h : S p = true
    · simp only [h, if_true]; rfl
    · simp only [h]; exact (sumN_zero fun e _ => rfl).symm
  rw [e1, sumN_comm]
  refine sumN_congr fun e he => ?_
  have e2 : sumN N (fun p => if S p then ((if gl e = p then d e else 0) - (if og e = p then d e else 0)) else 0) = sumN N fun p => (if gl e = p then (if S p then d e else 0) else 0) - (if og e = p then (if S p then d e else 0) else 0) := by
    refine sumN_congr fun p _ => ?_
    by_cases h : S p = true <;> simp [h]
  rw [e2, sumN_sub, sumN_one (k := gl e) (hg e he) fun i _ hne => by rw [if_neg (fun q => hne q.symm)], sumN_one (k := og e) (ho e he) fun i _ hne => by rw [if_neg (fun q => hne q.symm)]]
  simp
theorem cut_le {m N : Nat} {og gl : Nat → Nat} {up dn d : Nat → Int} (S : Nat → Bool) (ho : ∀ e, e < m → og e < N) (hg : ∀ e, e < m → gl e < N)
    (hb : ∀ e, e < m → - dn e ≤ d e ∧ d e ≤ up e) (hin : ∀ e, e < m → S (gl e) = true → S (og e) = false → up e ≤ 0) (hout : ∀ e, e < m → S (og e) = true → S (gl e) = false → dn e ≤ 0) :
    sumN N (fun p => if S p then exc m og gl d p else 0) ≤ 0 := by
  rw [exc_set d S ho hg]
  have z : sumN m (fun _ => (0 : Int)) = 0 := sumN_zero fun _ _ => rfl
  rw [← z]
  refine sumN_le fun e he => ?_
  have b := hb e he
  cases h1 : S (gl e) <;> cases h2 : S (og e) <;> simp
  · have := hout e he h2 h1; lia
  · have := hin e he h1 h2; lia
end Mg
end
section
set_option maxHeartbeats 1000000
namespace Mg
open Ks176 (Went)
structure Rep (n : Nat) (l : List Went) (m N : Nat) (og gl : Nat → Nat) (up dn : Nat → Int) (ot iw : Nat → Nat) : Prop where
  ogN : ∀ e, e < m → og e < N
  glN : ∀ e, e < m → gl e < N
  otm : ∀ t, t < n → ot t < m
  oti : ∀ s t, s < n → t < n → ot s = ot t → s = t
  otg : ∀ t, t < n → gl (ot t) = 0
  otp : ∀ t, t < n → 0 < og (ot t)
  amt : ∀ t, t < n → up (ot t) + dn (ot t) = ((gr n l).getD t 0 : Int)
  iwm : ∀ k t a lo hi : Nat, l[k]? = some (.went (.in_ t a lo hi)) → iw k < m ∧ (∀ t, t < n → iw k ≠ ot t) ∧ up (iw k) + dn (iw k) = (hi : Int) - (lo : Int)
  iwi : ∀ k k' t a lo hi t' a' lo' hi' : Nat, l[k]? = some (.went (.in_ t a lo hi)) → l[k']? = some (.went (.in_ t' a' lo' hi')) → iw k = iw k' → k = k'
  fwd : ∀ ks x, Crs n l ks x → ∃ d : Nat → Int, (∀ p, 0 < p → p < N → exc m og gl d p = 0) ∧ (∀ e, e < m → (∀ t, t < n → e ≠ ot t) → - dn e ≤ d e ∧ d e ≤ up e) ∧
    (∀ t, t < n → (x.getD t 0 : Int) = dn (ot t) + d (ot t)) ∧ ∀ k t a lo hi v : Nat, l[k]? = some (.went (.in_ t a lo hi)) → ks[k]? = some v → (v : Int) = lo + dn (iw k) + d (iw k)
  bwd : ∀ d : Nat → Int, (∀ p, 0 < p → p < N → exc m og gl d p = 0) → (∀ e, e < m → (∀ t, t < n → e ≠ ot t) → - dn e ≤ d e ∧ d e ≤ up e) →
    ∃ ks x, Crs n l ks x ∧ (∀ t, t < n → (x.getD t 0 : Int) = dn (ot t) + d (ot t)) ∧ ∀ k t a lo hi v : Nat, l[k]? = some (.went (.in_ t a lo hi)) → ks[k]? = some v → (v : Int) = lo + dn (iw k) + d (iw k)
section
variable {n : Nat} {l : List Went} {m N : Nat} {og gl og' gl' : Nat → Nat} {up dn up' dn' : Nat → Int} {ot iw ot' : Nat → Nat}
theorem get_snoc {α : Type} {l : List α} {a b : α} {k : Nat} (h : (l ++ [a])[k]? = some b) : (k < l.length ∧ l[k]? = some b) ∨ (k = l.length ∧ b = a) := by
  by_cases hk : k < l.length
  · rw [List.getElem?_append_left hk] at h; exact .inl ⟨hk, h⟩
  · have := (List.getElem?_eq_some_iff.mp h).1
    have e : k = l.length := by simp at this; lia
    subst e
    simp at h
    exact .inr ⟨rfl, h.symm⟩
theorem Rep.come (R : Rep n l m N og gl up dn ot iw) {t a lo hi : Nat} (ht : t < n)
    (eo : ∀ e, e < m → og' e = og e) (eo' : og' m = 0) (eg : ∀ e, e < m → gl' e = gl e) (eg' : gl' m = og (ot t))
    (eu : ∀ e, e < m → e ≠ ot t → up' e = up e) (ed : ∀ e, e < m → e ≠ ot t → dn' e = dn e) (eut : up' (ot t) = up (ot t) + a - lo) (edt : dn' (ot t) = dn (ot t) + lo) (eum : up' m = (hi : Int) - lo) (edm : dn' m = 0) :
    Rep n (l ++ [.went (.in_ t a lo hi)]) (m + 1) N og' gl' up' dn' ot (fun k => if k = l.length then m else iw k) := by
  have htm := R.otm t ht
  have N0 : 0 < N := Nat.lt_of_le_of_lt (Nat.zero_le _) (R.ogN _ htm)
  have exN : ∀ (d : Nat → Int) p, exc (m + 1) og' gl' d p = exc m og gl d p + ((if og (ot t) = p then d m else 0) - (if 0 = p then d m else 0)) := by
    intro d p
    rw [exc_succ, eg', eo', exc_congr p eo eg fun _ _ => rfl]
  refine ⟨?_, ?_, ?_, R.oti, ?_, ?_, ?_, ?_, ?_, ?_, ?_⟩
  · intro e he
    by_cases h : e = m
    · subst h; rw [eo']; exact N0
    · rw [eo e (by lia)]; exact R.ogN e (by lia)
  · intro e he
    by_cases h : e = m
    · subst h; rw [eg']; exact R.ogN _ htm
    · rw [eg e (by lia)]; exact R.glN e (by lia)
  · intro s hs; have := R.otm s hs; lia
  · intro s hs; rw [eg _ (R.otm s hs)]; exact R.otg s hs
  · intro s hs; rw [eo _ (R.otm s hs)]; exact R.otp s hs
  · intro s hs
    rw [gr_snoc]
    simp only [Ks176.after, Ks175.after]
    rw [getD_add (by rw [len_gr]; exact ht)]
    have q := R.amt s hs
    by_cases h : t = s
    · subst h; rw [if_pos rfl, eut, edt]; lia
    · have hne : ot s ≠ ot t := fun e => h (R.oti s t hs ht e).symm
      rw [if_neg h, eu _ (R.otm s hs) hne, ed _ (R.otm s hs) hne]; exact q
  · intro k t' a' lo' hi' h
    rcases get_snoc h with ⟨hk, g⟩ | ⟨rfl, g⟩
    · rw [if_neg (by lia)]
      refine Ea.a3 (R.iwm k _ _ _ _ g) fun q1 q2 q3 => ?_
      refine ⟨by lia, q2, ?_⟩
      rw [eu _ q1 (q2 t ht), ed _ q1 (q2 t ht)]; exact q3
    · cases g
      rw [if_pos rfl]
      refine ⟨by lia, fun s hs => by have := R.otm s hs; lia, by rw [eum, edm]; lia⟩
  · intro k k' t1 a1 lo1 hi1 t2 a2 lo2 hi2 h1 h2 he
    rcases get_snoc h1 with ⟨hk, g1⟩ | ⟨e1, _⟩ <;> rcases get_snoc h2 with ⟨hk', g2⟩ | ⟨e2, _⟩
    · simp only [if_neg (show ¬ k = l.length by lia), if_neg (show ¬ k' = l.length by lia)] at he
      exact R.iwi k k' _ _ _ _ _ _ _ _ g1 g2 he
    · simp only [if_neg (show ¬ k = l.length by lia), if_pos e2] at he
      have := (R.iwm k _ _ _ _ g1).1; lia
    · simp only [if_pos e1, if_neg (show ¬ k' = l.length by lia)] at he
      have := (R.iwm k' _ _ _ _ g2).1; lia
    · lia
  · intro ks' y hc'
    refine Ea.x3_5 (crs_snoc.mp hc') fun ks k x qz28 hc h1 h2 qz29 => ?_; subst qz28; subst qz29
    refine Ea.x1_4 (R.fwd ks x hc) fun d b1 b2 b3 b4 => ?_
    have lx := hc.size
    refine ⟨up1 (up1 d (ot t) (d (ot t) + ((k : Int) - lo))) m ((k : Int) - lo), ?_, ?_, ?_, ?_⟩
    · intro p hp hpN
      rw [exN, up1_same, exc_congr p (og' := og) (gl' := gl) (d' := up1 d (ot t) (d (ot t) + ((k : Int) - lo))) (fun _ _ => rfl) (fun _ _ => rfl) (fun e he => up1_ne (by lia)), exc_upd htm, b1 p hp hpN, R.otg t ht]
      have h0 : ¬ 0 = p := by lia
      rw [if_neg h0, if_neg h0]
      split <;> lia
    · intro e he hne
      by_cases h : e = m
      · subst h; rw [up1_same, eum, edm]; lia
      · rw [up1_ne h, up1_ne (hne t ht), eu e (by lia) (hne t ht), ed e (by lia) (hne t ht)]
        exact b2 e (by lia) hne
    · intro s hs
      have hsm := R.otm s hs
      rw [up1_ne (by lia), getD_add (by lia)]
      have q := b3 s hs
      by_cases h : t = s
      · subst h; rw [if_pos rfl, up1_same, edt]; lia
      · have hne : ot s ≠ ot t := fun e => h (R.oti s t hs ht e).symm
        rw [if_neg h, up1_ne hne, ed _ hsm hne]; exact q
    · intro j t' a' lo' hi' v h hv
      rcases get_snoc h with ⟨hj, g⟩ | ⟨rfl, g⟩
      · rw [List.getElem?_append_left (by rw [hc.len]; exact hj)] at hv
        refine Ea.a3 (R.iwm j _ _ _ _ g) fun q1 q2 q3 => ?_
        rw [if_neg (by lia), up1_ne (by lia), up1_ne (q2 t ht), ed _ q1 (q2 t ht)]
        exact b4 j _ _ _ _ v g hv
      · cases g
        rw [← hc.len] at hv
        simp at hv
        subst hv
        rw [if_pos rfl, up1_same, edm]; lia
  · intro d b1 b2
    have bm := b2 m (by lia) fun s hs => by have := R.otm s hs; lia
    rw [eum, edm] at bm
    obtain ⟨ks, x, hc, c1, c2⟩ := R.bwd (up1 d (ot t) (d (ot t) - d m)) (by
      intro p hp hpN
      have q := b1 p hp hpN
      rw [exN] at q
      rw [exc_upd htm, R.otg t ht]
      have h0 : ¬ 0 = p := by lia
      rw [if_neg h0] at q
      rw [if_neg h0]
      by_cases h : og (ot t) = p
      · rw [if_pos h] at q ⊢; lia
      · rw [if_neg h] at q ⊢; lia) (by
      intro e he hne
      have q := b2 e (by lia) hne
      rw [eu e he (hne t ht), ed e he (hne t ht)] at q
      rw [up1_ne (hne t ht)]; exact q)
    have lx := hc.size
    obtain ⟨k, hk⟩ : ∃ k : Nat, (k : Int) = lo + d m := ⟨(lo + d m).toNat, by lia⟩
    refine ⟨ks ++ [k], Ks175.add x t k, crs_snoc.mpr (Ea.i3 ks k x ⟨rfl, hc, by lia, by lia, rfl⟩), ?_, ?_⟩
    · intro s hs
      have hsm := R.otm s hs
      rw [getD_add (by lia)]
      have q := c1 s hs
      by_cases h : t = s
      · subst h; rw [up1_same] at q; rw [if_pos rfl, edt]; lia
      · have hne : ot s ≠ ot t := fun e => h (R.oti s t hs ht e).symm
        rw [up1_ne hne] at q
        rw [if_neg h, ed _ hsm hne]; exact q
    · intro j t' a' lo' hi' v h hv
      rcases get_snoc h with ⟨hj, g⟩ | ⟨rfl, g⟩
      · rw [List.getElem?_append_left (by rw [hc.len]; exact hj)] at hv
        refine Ea.a3 (R.iwm j _ _ _ _ g) fun q1 q2 q3 => ?_
        have q := c2 j _ _ _ _ v g hv
        rw [up1_ne (q2 t ht)] at q
        rw [if_neg (by lia), ed _ q1 (q2 t ht)]
        exact q
      · cases g
        rw [← hc.len] at hv
        simp at hv
        subst hv
        rw [if_pos rfl, edm]; lia
theorem exc_none {m p : Nat} {og gl : Nat → Nat} (d : Nat → Int) (h1 : ∀ e, e < m → og e ≠ p) (h2 : ∀ e, e < m → gl e ≠ p) : exc m og gl d p = 0 :=
  sumN_zero fun e he => by rw [if_neg (h1 e he), if_neg (h2 e he)]; rfl
theorem Rep.shift (R : Rep n l m N og gl up dn ot iw) {δ : Nat → Int} (hδ : ∀ p, 0 < p → p < N → exc m og gl δ p = 0)
    (eu : ∀ e, e < m → up' e = up e - δ e) (ed : ∀ e, e < m → dn' e = dn e + δ e) : Rep n l m N og gl up' dn' ot iw := by
  refine ⟨R.ogN, R.glN, R.otm, R.oti, R.otg, R.otp, ?_, ?_, R.iwi, ?_, ?_⟩
  · intro t ht
    rw [eu _ (R.otm t ht), ed _ (R.otm t ht), ← R.amt t ht]; lia
  · intro k t a lo hi h
    refine Ea.a3 (R.iwm k _ _ _ _ h) fun q1 q2 q3 => ?_
    refine ⟨q1, q2, ?_⟩
    rw [eu _ q1, ed _ q1, ← q3]; lia
  · intro ks x hc
    refine Ea.x1_4 (R.fwd ks x hc) fun d b1 b2 b3 b4 => ?_
    refine ⟨fun e => d e - δ e, ?_, ?_, ?_, ?_⟩
    · intro p hp hpN; rw [exc_sub, b1 p hp hpN, hδ p hp hpN]; rfl
    · intro e he hne; have := b2 e he hne; rw [eu e he, ed e he]; dsimp only; lia
    · intro t ht; rw [ed _ (R.otm t ht), b3 t ht]; dsimp only; lia
    · intro k t a lo hi v h hv
      rw [ed _ (R.iwm k _ _ _ _ h).1, b4 k _ _ _ _ v h hv]; dsimp only; lia
  · intro d b1 b2
    obtain ⟨ks, x, hc, c1, c2⟩ := R.bwd (fun e => d e + δ e) (fun p hp hpN => by rw [exc_add, b1 p hp hpN, hδ p hp hpN]; rfl)
      (fun e he hne => by have := b2 e he hne; rw [eu e he, ed e he] at this; lia)
    refine ⟨ks, x, hc, ?_, ?_⟩
    · intro t ht; rw [ed _ (R.otm t ht), c1 t ht]; lia
    · intro k t a lo hi v h hv
      rw [ed _ (R.iwm k _ _ _ _ h).1, c2 k _ _ _ _ v h hv]; lia
theorem Rep.find (R : Rep n l m N og gl up dn ot iw) {t lo hi : Nat} (ht : t < n)
    (eo : ∀ e, e < m → og' e = og e) (eo' : og' m = N) (eg : ∀ e, e < m → e ≠ ot t → gl' e = gl e) (egt : gl' (ot t) = N) (eg' : gl' m = 0)
    (eu : ∀ e, e < m → e ≠ ot t → up' e = up e) (ed : ∀ e, e < m → e ≠ ot t → dn' e = dn e) (eut : up' (ot t) = hi - dn (ot t)) (edt : dn' (ot t) = dn (ot t) - lo) (eum : up' m = up (ot t)) (edm : dn' m = dn (ot t))
    (eot : ∀ s, s < n → s ≠ t → ot' s = ot s) (eot' : ot' t = m) :
    Rep n (l ++ [.found t lo hi]) (m + 1) (N + 1) og' gl' up' dn' ot' iw := by
  have htm := R.otm t ht
  have N0 : 0 < N := Nat.lt_of_le_of_lt (Nat.zero_le _) (R.ogN _ htm)
  have onn : ∀ s, s < n → s ≠ t → ot s ≠ ot t := fun s hs h e => h (R.oti s t hs ht e)
  have otc : ∀ s, s < n → (s = t ∧ ot' s = m) ∨ (s ≠ t ∧ ot' s = ot s ∧ ot s < m ∧ ot s ≠ ot t) := by
    intro s hs
    by_cases h : s = t
    · subst h; exact .inl ⟨rfl, eot'⟩
    · exact .inr ⟨h, eot s hs h, R.otm s hs, onn s hs h⟩
  have exN : ∀ (d : Nat → Int) p, exc (m + 1) og' gl' d p = exc m og gl d p + ((if N = p then d (ot t) else 0) - (if 0 = p then d (ot t) else 0)) + ((if 0 = p then d m else 0) - (if N = p then d m else 0)) := by
    intro d p
    rw [exc_succ, eg', eo', exc_congr p (og' := og) (gl' := gl') (d' := d) eo (fun _ _ => rfl) fun _ _ => rfl, exc_goal htm (gl := gl) eg, egt, R.otg t ht]
  have exn : ∀ d : Nat → Int, exc m og gl d N = 0 := fun d => exc_none d (fun e he => by have := R.ogN e he; lia) (fun e he => by have := R.glN e he; lia)
  refine ⟨?_, ?_, ?_, ?_, ?_, ?_, ?_, ?_, ?_, ?_, ?_⟩
  · intro e he
    by_cases h : e = m
    · subst h; rw [eo']; lia
    · rw [eo e (by lia)]; have := R.ogN e (by lia); lia
  · intro e he
    by_cases h : e = m
    · subst h; rw [eg']; lia
    · by_cases h2 : e = ot t
      · subst h2; rw [egt]; lia
      · rw [eg e (by lia) h2]; have := R.glN e (by lia); lia
  · intro s hs
    rcases otc s hs with ⟨_, q⟩ | ⟨_, q, q2, _⟩ <;> lia
  · intro s s' hs hs' he
    rcases otc s hs with ⟨a1, a2⟩ | ⟨a1, a2, a3, a4⟩ <;> rcases otc s' hs' with ⟨c1, c2⟩ | ⟨c1, c2, c3, c4⟩
    · lia
    · lia
    · lia
    · exact R.oti s s' hs hs' (by lia)
  · intro s hs
    rcases otc s hs with ⟨_, q⟩ | ⟨_, q, q2, q3⟩
    · rw [q, eg']
    · rw [q, eg _ q2 q3]; exact R.otg s hs
  · intro s hs
    rcases otc s hs with ⟨_, q⟩ | ⟨_, q, q2, q3⟩
    · rw [q, eo']; exact N0
    · rw [q, eo _ q2]; exact R.otp s hs
  · intro s hs
    rw [gr_snoc]
    show _ = (((gr n l).getD s 0 : Nat) : Int)
    rcases otc s hs with ⟨rfl, q⟩ | ⟨_, q, q2, q3⟩
    · rw [q, eum, edm]; exact R.amt s hs
    · rw [q, eu _ q2 q3, ed _ q2 q3]; exact R.amt s hs
  · intro k t' a' lo' hi' h
    rcases get_snoc h with ⟨hk, g⟩ | ⟨rfl, g⟩
    · refine Ea.a3 (R.iwm k _ _ _ _ g) fun q1 q2 q3 => ?_
      refine ⟨by lia, fun s hs => ?_, ?_⟩
      · rcases otc s hs with ⟨_, q⟩ | ⟨_, q, _, _⟩
        · lia
        · rw [q]; exact q2 s hs
      · rw [eu _ q1 (q2 t ht), ed _ q1 (q2 t ht)]; exact q3
    · cases g
  · intro k k' t1 a1 lo1 hi1 t2 a2 lo2 hi2 h1 h2 he
    rcases get_snoc h1 with ⟨_, g1⟩ | ⟨_, g1⟩
    · rcases get_snoc h2 with ⟨_, g2⟩ | ⟨_, g2⟩
      · exact R.iwi k k' _ _ _ _ _ _ _ _ g1 g2 he
      · cases g2
    · cases g1
  · intro ks' y hc'
    refine Ea.x3_6 (crs_snoc.mp hc') fun ks k x qz31 hc hk0 h1 h2 qz32 => ?_; subst qz31; subst qz32
    refine Ea.x1_4 (R.fwd ks y hc) fun d b1 b2 b3 b4 => ?_
    have xt := b3 t ht
    refine ⟨up1 d m (d (ot t)), ?_, ?_, ?_, ?_⟩
    · intro p hp hpN
      rw [exN, up1_same, up1_ne (show ot t ≠ m by lia), exc_congr p (og' := og) (gl' := gl) (d' := d) (fun _ _ => rfl) (fun _ _ => rfl) (fun e he => up1_ne (by lia))]
      have h0 : ¬ 0 = p := by lia
      simp only [if_neg h0]
      by_cases h : N = p
      · subst h; rw [exn]; simp; lia
      · simp only [if_neg h]; rw [b1 p hp (by lia)]; rfl
    · intro e he hne
      have hm : e ≠ m := by rw [← eot']; exact hne t ht
      rw [up1_ne hm]
      by_cases h : e = ot t
      · subst h; rw [eut, edt]; lia
      · rw [eu e (by lia) h, ed e (by lia) h]
        refine b2 e (by lia) fun s hs => ?_
        by_cases h3 : s = t
        · subst h3; exact h
        · rw [← eot s hs h3]; exact hne s hs
    · intro s hs
      rcases otc s hs with ⟨rfl, q⟩ | ⟨_, q, q2, q3⟩
      · rw [q, edm, up1_same]; exact xt
      · rw [q, ed _ q2 q3, up1_ne (by lia)]; exact b3 s hs
    · intro j t' a' lo' hi' v h hv
      rcases get_snoc h with ⟨hj, g⟩ | ⟨rfl, g⟩
      · rw [List.getElem?_append_left (by rw [hc.len]; exact hj)] at hv
        refine Ea.a3 (R.iwm j _ _ _ _ g) fun q1 q2 q3 => ?_
        rw [up1_ne (by lia), ed _ q1 (q2 t ht)]
        exact b4 j _ _ _ _ v g hv
      · cases g
  · intro d b1 b2
    have hN := b1 N N0 (by lia)
    rw [exN, exn, if_pos rfl, if_pos rfl, if_neg (show ¬ 0 = N by lia), if_neg (show ¬ 0 = N by lia)] at hN
    have bo := b2 (ot t) (by lia) fun s hs => by
      rcases otc s hs with ⟨_, q⟩ | ⟨_, q, q2, q3⟩
      · lia
      · rw [q]; exact fun e => q3 e.symm
    rw [eut, edt] at bo
    obtain ⟨ks, x, hc, c1, c2⟩ := R.bwd d (by
      intro p hp hpN
      have q := b1 p hp (by lia)
      rw [exN] at q
      rw [if_neg (show ¬ 0 = p by lia), if_neg (show ¬ 0 = p by lia), if_neg (show ¬ N = p by lia), if_neg (show ¬ N = p by lia)] at q
      lia) (by
      intro e he hne
      have q := b2 e (by lia) fun s hs => by
        rcases otc s hs with ⟨_, q⟩ | ⟨_, q, q2, q3⟩
        · lia
        · rw [q]; exact hne s hs
      rw [eu e he (hne t ht), ed e he (hne t ht)] at q
      exact q)
    have xt := c1 t ht
    refine ⟨ks ++ [0], x, crs_snoc.mpr (Ea.i3 ks 0 x ⟨rfl, hc, rfl, by lia, by lia, rfl⟩), ?_, ?_⟩
    · intro s hs
      rcases otc s hs with ⟨rfl, q⟩ | ⟨_, q, q2, q3⟩
      · rw [q, edm]; lia
      · rw [q, ed _ q2 q3]; exact c1 s hs
    · intro j t' a' lo' hi' v h hv
      rcases get_snoc h with ⟨hj, g⟩ | ⟨rfl, g⟩
      · rw [List.getElem?_append_left (by rw [hc.len]; exact hj)] at hv
        refine Ea.a3 (R.iwm j _ _ _ _ g) fun q1 q2 q3 => ?_
        rw [ed _ q1 (q2 t ht)]
        exact c2 j _ _ _ _ v g hv
      · cases g
theorem Rep.pours (R : Rep n l m N og gl up dn ot iw) (wf : Wf n l) {a b A : Nat} {al : Int} (ha : a < n) (hb : b < n) (hab : a ≠ b)
    (hA : A ≤ (gr n l).getD a 0)
    (eo : ∀ e, e < m → og' e = og e) (eo1 : og' m = N) (eo2 : og' (m + 1) = og (ot a))
    (eg : ∀ e, e < m → e ≠ ot a → gl' e = gl e) (ega : gl' (ot a) = N) (eg1 : gl' m = 0) (eg2 : gl' (m + 1) = og (ot b))
    (eu : ∀ e, e < m → e ≠ ot a → e ≠ ot b → up' e = up e) (ed : ∀ e, e < m → e ≠ ot a → e ≠ ot b → dn' e = dn e)
    (eua : up' (ot a) = ((gr n l).getD a 0 : Int) - A - (dn (ot a) - al)) (eda : dn' (ot a) = dn (ot a) - al)
    (eum : up' m = ((gr n l).getD a 0 : Int) - A - (dn (ot a) - al)) (edm : dn' m = dn (ot a) - al)
    (eum1 : up' (m + 1) = A - al) (edm1 : dn' (m + 1) = al) (eub : up' (ot b) = up (ot b) + A - al) (edb : dn' (ot b) = dn (ot b) + al)
    (eot : ∀ s, s < n → s ≠ a → ot' s = ot s) (eot' : ot' a = m) :
    Rep n (l ++ [.went (.pour a b A)]) (m + 2) (N + 1) og' gl' up' dn' ot' iw := by
  have ham := R.otm a ha
  have hbm := R.otm b hb
  have N0 : 0 < N := Nat.lt_of_le_of_lt (Nat.zero_le _) (R.ogN _ ham)
  have hob : ot b ≠ ot a := fun e => hab (R.oti b a hb ha e).symm
  have lg := len_gr (n := n) l
  have otc : ∀ s, s < n → (s = a ∧ ot' s = m) ∨ (s ≠ a ∧ ot' s = ot s ∧ ot s < m ∧ ot s ≠ ot a) := by
    intro s hs
    by_cases h : s = a
    · subst h; exact .inl ⟨rfl, eot'⟩
    · exact .inr ⟨h, eot s hs h, R.otm s hs, fun e => h (R.oti s a hs ha e)⟩
  have exN : ∀ (d : Nat → Int) p, exc (m + 2) og' gl' d p = exc m og gl d p + ((if N = p then d (ot a) else 0) - (if 0 = p then d (ot a) else 0)) + ((if 0 = p then d m else 0) - (if N = p then d m else 0)) + ((if og (ot b) = p then d (m + 1) else 0) - (if og (ot a) = p then d (m + 1) else 0)) := by
    intro d p
    rw [exc_succ, exc_succ, eg1, eo1, eg2, eo2, exc_congr p (og' := og) (gl' := gl') (d' := d) eo (fun _ _ => rfl) fun _ _ => rfl, exc_goal ham (gl := gl) eg, ega, R.otg a ha]
  have exn : ∀ d : Nat → Int, exc m og gl d N = 0 := fun d => exc_none d (fun e he => by have := R.ogN e he; lia) (fun e he => by have := R.glN e he; lia)
  have pa := R.ogN _ ham
  have pb := R.ogN _ hbm
  have bnd : ∀ s, s < n → s ≠ a → s ≠ b → up' (ot s) = up (ot s) ∧ dn' (ot s) = dn (ot s) := by
    intro s hs h1 h2
    exact ⟨eu _ (R.otm s hs) (fun e => h1 (R.oti s a hs ha e)) (fun e => h2 (R.oti s b hs hb e)), ed _ (R.otm s hs) (fun e => h1 (R.oti s a hs ha e)) (fun e => h2 (R.oti s b hs hb e))⟩
  refine ⟨?_, ?_, ?_, ?_, ?_, ?_, ?_, ?_, ?_, ?_, ?_⟩
  · intro e he
    by_cases h : e = m
    · subst h; rw [eo1]; lia
    · by_cases h2 : e = m + 1
      · subst h2; rw [eo2]; lia
      · rw [eo e (by lia)]; have := R.ogN e (by lia); lia
  · intro e he
    by_cases h : e = m
    · subst h; rw [eg1]; lia
    · by_cases h1 : e = m + 1
      · subst h1; rw [eg2]; lia
      · by_cases h2 : e = ot a
        · subst h2; rw [ega]; lia
        · rw [eg e (by lia) h2]; have := R.glN e (by lia); lia
  · intro s hs
    rcases otc s hs with ⟨_, q⟩ | ⟨_, q, q2, _⟩ <;> lia
  · intro s s' hs hs' he
    rcases otc s hs with ⟨a1, a2⟩ | ⟨a1, a2, a3, a4⟩ <;> rcases otc s' hs' with ⟨c1, c2⟩ | ⟨c1, c2, c3, c4⟩
    · lia
    · lia
    · lia
    · exact R.oti s s' hs hs' (by lia)
  · intro s hs
    rcases otc s hs with ⟨_, q⟩ | ⟨_, q, q2, q3⟩
    · rw [q, eg1]
    · rw [q, eg _ q2 q3]; exact R.otg s hs
  · intro s hs
    rcases otc s hs with ⟨_, q⟩ | ⟨_, q, q2, q3⟩
    · rw [q, eo1]; exact N0
    · rw [q, eo _ q2]; exact R.otp s hs
  · intro s hs
    rw [gr_snoc]
    simp only [Ks176.after, Ks175.after]
    rw [getD_add (by rw [len_less]; lia), getD_less (by lia)]
    rcases otc s hs with ⟨rfl, q⟩ | ⟨h1, q, q2, q3⟩
    · rw [q, eum, edm, if_neg (fun e => hab e.symm), if_pos rfl]; lia
    · have w := R.amt s hs
      by_cases h2 : b = s
      · subst h2; rw [q, eub, edb, if_pos rfl, if_neg hab]; lia
      · obtain ⟨w1, w2⟩ := bnd s hs h1 (fun e => h2 e.symm)
        rw [q, w1, w2, if_neg h2, if_neg (fun e => h1 e.symm)]; exact w
  · intro k t' a' lo' hi' h
    rcases get_snoc h with ⟨hk, g⟩ | ⟨rfl, g⟩
    · refine Ea.a3 (R.iwm k _ _ _ _ g) fun q1 q2 q3 => ?_
      refine ⟨by lia, fun s hs => ?_, ?_⟩
      · rcases otc s hs with ⟨_, q⟩ | ⟨_, q, _, _⟩
        · lia
        · rw [q]; exact q2 s hs
      · rw [eu _ q1 (q2 a ha) (q2 b hb), ed _ q1 (q2 a ha) (q2 b hb)]; exact q3
    · cases g
  · intro k k' t1 a1 lo1 hi1 t2 a2 lo2 hi2 h1 h2 he
    rcases get_snoc h1 with ⟨_, g1⟩ | ⟨_, g1⟩
    · rcases get_snoc h2 with ⟨_, g2⟩ | ⟨_, g2⟩
      · exact R.iwi k k' _ _ _ _ _ _ _ _ g1 g2 he
      · cases g2
    · cases g1
  · intro ks' y hc'
    refine Ea.x3_6 (crs_snoc.mp hc') fun ks k x qz34 hc h1 h2 h3 qz35 => ?_; subst qz34; subst qz35
    refine Ea.x1_4 (R.fwd ks x hc) fun d b1 b2 b3 b4 => ?_
    have xa := b3 a ha
    have xb := b3 b hb
    have lx := hc.size
    have xc := hc.le wf a
    have hq : ∃ q : Int, q = k - al := ⟨_, rfl⟩
    obtain ⟨q, hq⟩ := hq
    refine ⟨up1 (up1 (up1 (up1 d (ot a) (d (ot a) - q)) (ot b) (d (ot b) + q)) m (d (ot a) - q)) (m + 1) q, ?_, ?_, ?_, ?_⟩
    · intro p hp hpN
      rw [exN, up1_same, up1_ne (show m ≠ m + 1 by lia), up1_same, up1_ne (show ot a ≠ m + 1 by lia), up1_ne (show ot a ≠ m by lia), up1_ne (fun e => hob e.symm), up1_same,
        exc_congr p (og' := og) (gl' := gl) (d' := up1 (up1 d (ot a) (d (ot a) - q)) (ot b) (d (ot b) + q)) (fun _ _ => rfl) (fun _ _ => rfl) (fun e he => by rw [up1_ne (by lia), up1_ne (by lia)]),
        exc_upd hbm, exc_upd ham, up1_ne hob, R.otg a ha, R.otg b hb]
      have h0 : ¬ 0 = p := by lia
      simp only [if_neg h0]
      by_cases h : N = p
      · subst h
        rw [exn, if_neg (show ¬ og (ot a) = N by lia), if_neg (show ¬ og (ot b) = N by lia), if_neg (show ¬ og (ot a) = N by lia), if_neg (show ¬ og (ot b) = N by lia)]; simp; lia
      · simp only [if_neg h]; rw [b1 p hp (by lia)]
        split <;> split <;> lia
    · intro e he hne
      have hm : e ≠ m := by rw [← eot']; exact hne a ha
      by_cases h1 : e = m + 1
      · subst h1; rw [up1_same, eum1, edm1]; lia
      · have hneb : e ≠ ot b := by rw [← eot b hb (fun e => hab e.symm)]; exact hne b hb
        rw [up1_ne h1, up1_ne hm, up1_ne hneb]
        by_cases h : e = ot a
        · subst h; rw [up1_same, eua, eda]; lia
        · rw [up1_ne h, eu e (by lia) h hneb, ed e (by lia) h hneb]
          refine b2 e (by lia) fun s hs => ?_
          by_cases h3 : s = a
          · subst h3; exact h
          · rw [← eot s hs h3]; exact hne s hs
    · intro s hs
      rw [getD_add (by rw [len_less]; lia), getD_less (by lia)]
      rcases otc s hs with ⟨rfl, w⟩ | ⟨h1, w, q2, q3⟩
      · rw [w, edm, up1_ne (by lia), up1_same, if_neg (fun e => hab e.symm), if_pos rfl]; lia
      · rw [w, up1_ne (by lia), up1_ne (by lia)]
        by_cases h2 : b = s
        · subst h2; rw [up1_same, edb, if_pos rfl, if_neg hab]; lia
        · rw [up1_ne (fun e => h2 (R.oti s b hs hb e).symm), up1_ne q3, (bnd s hs h1 (fun e => h2 e.symm)).2, if_neg h2, if_neg (fun e => h1 e.symm)]
          exact b3 s hs
    · intro j t' a' lo' hi' v h hv
      rcases get_snoc h with ⟨hj, g⟩ | ⟨rfl, g⟩
      · rw [List.getElem?_append_left (by rw [hc.len]; exact hj)] at hv
        refine Ea.a3 (R.iwm j _ _ _ _ g) fun q1 q2 q3 => ?_
        rw [up1_ne (by lia), up1_ne (by lia), up1_ne (q2 b hb), up1_ne (q2 a ha), ed _ q1 (q2 a ha) (q2 b hb)]
        exact b4 j _ _ _ _ v g hv
      · cases g
  · intro d b1 b2
    have hN := b1 N N0 (by lia)
    rw [exN, exn, if_pos rfl, if_pos rfl, if_neg (show ¬ 0 = N by lia), if_neg (show ¬ 0 = N by lia), if_neg (show ¬ og (ot a) = N by lia), if_neg (show ¬ og (ot b) = N by lia)] at hN
    have bo := b2 (ot a) (by lia) fun s hs => by
      rcases otc s hs with ⟨_, q⟩ | ⟨_, q, q2, q3⟩
      · lia
      · rw [q]; exact fun e => q3 e.symm
    rw [eua, eda] at bo
    have bp := b2 (m + 1) (by lia) fun s hs => by
      rcases otc s hs with ⟨_, q⟩ | ⟨_, q, q2, q3⟩ <;> lia
    rw [eum1, edm1] at bp
    obtain ⟨ks, x, hc, c1, c2⟩ := R.bwd (up1 (up1 d (ot a) (d (ot a) + d (m + 1))) (ot b) (d (ot b) - d (m + 1))) (by
      intro p hp hpN
      have q := b1 p hp (by lia)
      rw [exN] at q
      have h0 : ¬ 0 = p := by lia
      have h1 : ¬ N = p := by lia
      simp only [if_neg h0, if_neg h1] at q
      rw [exc_upd hbm, exc_upd ham, up1_ne hob, R.otg a ha, R.otg b hb]
      simp only [if_neg h0]
      revert q
      split <;> split <;> lia) (by
      intro e he hne
      have q := b2 e (by lia) fun s hs => by
        rcases otc s hs with ⟨_, q⟩ | ⟨_, q, q2, q3⟩
        · lia
        · rw [q]; exact hne s hs
      rw [eu e he (hne a ha) (hne b hb), ed e he (hne a ha) (hne b hb)] at q
      rw [up1_ne (hne b hb), up1_ne (hne a ha)]
      exact q)
    have xa := c1 a ha
    rw [up1_ne (fun e => hob e.symm), up1_same] at xa
    have xb := c1 b hb
    rw [up1_same] at xb
    have lx := hc.size
    obtain ⟨k, hk⟩ : ∃ k : Nat, (k : Int) = al + d (m + 1) := ⟨(al + d (m + 1)).toNat, by lia⟩
    refine ⟨ks ++ [k], _, crs_snoc.mpr (Ea.i3 ks k x ⟨rfl, hc, by lia, by lia, by lia, rfl⟩), ?_, ?_⟩
    · intro s hs
      rw [getD_add (by rw [len_less]; lia), getD_less (by lia)]
      rcases otc s hs with ⟨rfl, w⟩ | ⟨h1, w, q2, q3⟩
      · rw [w, edm, if_neg (fun e => hab e.symm), if_pos rfl]; lia
      · by_cases h2 : b = s
        · subst h2; rw [w, edb, if_pos rfl, if_neg hab]; lia
        · have z := c1 s hs
          rw [up1_ne (fun e => h2 (R.oti s b hs hb e).symm), up1_ne q3] at z
          rw [w, (bnd s hs h1 (fun e => h2 e.symm)).2, if_neg h2, if_neg (fun e => h1 e.symm)]
          exact z
    · intro j t' a' lo' hi' v h hv
      rcases get_snoc h with ⟨hj, g⟩ | ⟨rfl, g⟩
      · rw [List.getElem?_append_left (by rw [hc.len]; exact hj)] at hv
        refine Ea.a3 (R.iwm j _ _ _ _ g) fun q1 q2 q3 => ?_
        have z := c2 j _ _ _ _ v g hv
        rw [up1_ne (q2 b hb), up1_ne (q2 a ha)] at z
        rw [ed _ q1 (q2 a ha) (q2 b hb)]
        exact z
      · cases g
theorem Rep.hear (R : Rep n l m N og gl up dn ot iw) {k t a lo hi lo' hi' : Nat} (hk : l[k]? = some (.went (.in_ t a lo hi)))
    (eu : ∀ e, e < m → e ≠ iw k → up' e = up e) (ed : ∀ e, e < m → e ≠ iw k → dn' e = dn e)
    (euk : up' (iw k) = (min hi hi' : Nat) - (lo + dn (iw k))) (edk : dn' (iw k) = lo + dn (iw k) - (max lo lo' : Nat)) :
    Rep n (l.set k (.went (.in_ t a (max lo lo') (min hi hi')))) m N og gl up' dn' ot iw := by
  refine Ea.a3 (R.iwm k _ _ _ _ hk) fun k1 k2 k3 => ?_
  have kl : k < l.length := (List.getElem?_eq_some_iff.mp hk).1
  have ne : ∀ t, t < n → ot t ≠ iw k := fun t ht e => k2 t ht e.symm
  have gk : (l.set k (.went (.in_ t a (max lo lo') (min hi hi'))))[k]? = some (.went (.in_ t a (max lo lo') (min hi hi'))) := by
    rw [List.getElem?_set_self kl]
  have cas : ∀ {j t1 a1 lo1 hi1 : Nat}, (l.set k (.went (.in_ t a (max lo lo') (min hi hi'))))[j]? = some (.went (.in_ t1 a1 lo1 hi1)) →
      (j = k ∧ lo1 = max lo lo' ∧ hi1 = min hi hi') ∨ (j ≠ k ∧ l[j]? = some (.went (.in_ t1 a1 lo1 hi1))) := by
    intro j t1 a1 lo1 hi1 h
    by_cases e : j = k
    · subst e
      rw [gk] at h
      cases h
      exact .inl ⟨rfl, rfl, rfl⟩
    · rw [List.getElem?_set_ne (fun q => e q.symm)] at h
      exact .inr ⟨e, h⟩
  have nei : ∀ {j t1 a1 lo1 hi1 : Nat}, j ≠ k → l[j]? = some (.went (.in_ t1 a1 lo1 hi1)) → iw j ≠ iw k := fun hj h e => hj (R.iwi _ _ _ _ _ _ _ _ _ _ h hk e)
  refine ⟨R.ogN, R.glN, R.otm, R.oti, R.otg, R.otp, ?_, ?_, ?_, ?_, ?_⟩
  · intro s hs
    rw [gr_set l hk, eu _ (R.otm s hs) (ne s hs), ed _ (R.otm s hs) (ne s hs)]
    exact R.amt s hs
  · intro j t1 a1 lo1 hi1 h
    rcases cas h with ⟨rfl, rfl, rfl⟩ | ⟨hj, h⟩
    · refine ⟨k1, k2, ?_⟩
      rw [euk, edk]; lia
    · refine Ea.a3 (R.iwm j _ _ _ _ h) fun q1 q2 q3 => ?_
      refine ⟨q1, q2, ?_⟩
      rw [eu _ q1 (nei hj h), ed _ q1 (nei hj h)]; exact q3
  · intro j j' t1 a1 lo1 hi1 t2 a2 lo2 hi2 h1 h2 he
    rcases cas h1 with ⟨e1, _, _⟩ | ⟨e1, g1⟩ <;> rcases cas h2 with ⟨e2, _, _⟩ | ⟨e2, g2⟩
    · lia
    · subst e1; exact absurd he.symm (nei e2 g2)
    · subst e2; exact absurd he (nei e1 g1)
    · exact R.iwi _ _ _ _ _ _ _ _ _ _ g1 g2 he
  · intro ks x hc'
    obtain ⟨hc, v, hv, v1, v2⟩ := (crs_set l hk).mp hc'
    refine Ea.x1_4 (R.fwd ks x hc) fun d b1 b2 b3 b4 => ?_
    have vk := b4 k _ _ _ _ v hk hv
    have bk := b2 _ k1 k2
    refine ⟨d, b1, ?_, ?_, ?_⟩
    · intro e he hne
      by_cases h : e = iw k
      · subst h; rw [euk, edk]; lia
      · rw [eu e he h, ed e he h]; exact b2 e he hne
    · intro s hs
      rw [ed _ (R.otm s hs) (ne s hs)]; exact b3 s hs
    · intro j t1 a1 lo1 hi1 w h hw
      rcases cas h with ⟨rfl, rfl, rfl⟩ | ⟨hj, h⟩
      · rw [hv] at hw
        cases hw
        rw [edk]; lia
      · rw [ed _ (R.iwm j _ _ _ _ h).1 (nei hj h)]
        exact b4 j _ _ _ _ w h hw
  · intro d b1 b2
    have bk := b2 _ k1 k2
    rw [euk, edk] at bk
    obtain ⟨ks, x, hc, c1, c2⟩ := R.bwd d b1 (by
      intro e he hne
      have q := b2 e he hne
      by_cases h : e = iw k
      · subst h; lia
      · rw [eu e he h, ed e he h] at q; exact q)
    have kk : k < ks.length := by rw [hc.len]; exact kl
    have hv : ks[k]? = some ks[k] := List.getElem?_eq_getElem kk
    have vk := c2 k _ _ _ _ _ hk hv
    refine ⟨ks, x, (crs_set l hk).mpr ⟨hc, _, hv, by lia, by lia⟩, ?_, ?_⟩
    · intro s hs
      rw [ed _ (R.otm s hs) (ne s hs)]; exact c1 s hs
    · intro j t1 a1 lo1 hi1 w h hw
      rcases cas h with ⟨rfl, rfl, rfl⟩ | ⟨hj, h⟩
      · rw [hv] at hw
        cases hw
        rw [edk]; lia
      · rw [ed _ (R.iwm j _ _ _ _ h).1 (nei hj h)]
        exact c2 j _ _ _ _ w h hw
end
end Mg
end
section
set_option maxHeartbeats 1000000
namespace Mg
open Ks176 (Went)
theorem exc_all {m N : Nat} {og gl : Nat → Nat} (d : Nat → Int) (ho : ∀ e, e < m → og e < N) (hg : ∀ e, e < m → gl e < N) : sumN N (exc m og gl d) = 0 := by
  have q := exc_set d (fun _ => true) ho hg
  simp only [if_true] at q
  rw [q]
  exact sumN_zero fun e _ => Int.sub_self _
theorem sumN_head (n : Nat) (f : Nat → Int) : sumN (n + 1) f = f 0 + sumN n fun i => f (i + 1) := by
  induction n with
  | zero => simp [sumN]
  | succ n ih => rw [sumN, ih, sumN]; lia
theorem exc_0 {m N : Nat} {og gl : Nat → Nat} {d : Nat → Int} (ho : ∀ e, e < m → og e < N) (hg : ∀ e, e < m → gl e < N) (N0 : 0 < N) (h : ∀ p, 0 < p → p < N → exc m og gl d p = 0) : exc m og gl d 0 = 0 := by
  have q := exc_all d ho hg
  rw [sumN_one (k := 0) N0 fun p hp hne => h p (by lia) hp] at q
  exact q
theorem cut_gen {m N : Nat} {og gl : Nat → Nat} {up dn d : Nat → Int} (S X : Nat → Bool) (ho : ∀ e, e < m → og e < N) (hg : ∀ e, e < m → gl e < N) (N0 : 0 < N)
    (hz : ∀ p, 0 < p → p < N → exc m og gl d p = 0) (hb : ∀ e, e < m → X e = false → - dn e ≤ d e ∧ d e ≤ up e)
    (hin : ∀ e, e < m → X e = false → S (gl e) = true → S (og e) = false → up e ≤ 0) (hout : ∀ e, e < m → X e = false → S (og e) = true → S (gl e) = false → dn e ≤ 0) :
    0 ≤ sumN m fun e => if X e then (if S (gl e) then d e else 0) - (if S (og e) then d e else 0) else 0 := by
  have q := exc_set d S ho hg
  rw [sumN_zero fun p hp => by
    by_cases e : p = 0
    · subst e; rw [exc_0 ho hg N0 hz]; simp
    · rw [hz p (by lia) hp]; simp] at q
  refine Int.le_trans (Int.le_of_eq q) (sumN_le fun e he => ?_)
  cases hX : X e
  · have b := hb e he hX
    cases h1 : S (gl e) <;> cases h2 : S (og e) <;> simp
    · have := hout e he hX h2 h1; lia
    · have := hin e he hX h1 h2; lia
  · simp
section
variable {n : Nat} {l : List Went} {m N : Nat} {og gl : Nat → Nat} {up dn : Nat → Int} {ot iw : Nat → Nat}
theorem Rep.all (R : Rep n l m N og gl up dn ot iw) (wf : Wf n l) {ks x : List Nat} (hc : Crs n l ks x) : ∃ d : Nat → Int, (∀ p, 0 < p → p < N → exc m og gl d p = 0) ∧ (∀ e, e < m → - dn e ≤ d e ∧ d e ≤ up e) ∧
    (∀ t, t < n → (x.getD t 0 : Int) = dn (ot t) + d (ot t)) ∧ ∀ k t a lo hi v : Nat, l[k]? = some (.went (.in_ t a lo hi)) → ks[k]? = some v → (v : Int) = lo + dn (iw k) + d (iw k) := by
  refine Ea.x1_4 (R.fwd ks x hc) fun d b1 b2 b3 b4 => ?_
  refine ⟨d, b1, fun e he => ?_, b3, b4⟩
  by_cases h : ∃ t, t < n ∧ e = ot t
  · refine Ea.x1_2 h fun t ht qz37 => ?_; try clear h; subst qz37
    have q1 := b3 t ht
    have q2 := R.amt t ht
    have q3 := hc.le wf t
    lia
  · exact b2 e he fun t ht e' => h ⟨t, ht, e'⟩
theorem Rep.hand (R : Rep n l m N og gl up dn ot iw) (h0 : ∀ e, e < m → 0 ≤ up e ∧ 0 ≤ dn e) : ∃ ks x, Crs n l ks x ∧ (∀ t, t < n → (x.getD t 0 : Int) = dn (ot t)) ∧ ∀ k t a lo hi v : Nat, l[k]? = some (.went (.in_ t a lo hi)) → ks[k]? = some v → (v : Int) = lo + dn (iw k) := by
  obtain ⟨ks, x, hc, c1, c2⟩ := R.bwd (fun _ => 0) (fun p _ _ => exc_zero _ _ _ p) (fun e he _ => by have := h0 e he; lia)
  exact ⟨ks, x, hc, fun t ht => by rw [c1 t ht]; lia, fun k t a lo hi v h hv => by rw [c2 k t a lo hi v h hv]; lia⟩
noncomputable def outs (n : Nat) (ot : Nat → Nat) (T : Nat → Bool) (e : Nat) : Bool := (List.range n).any fun t => T t && ot t == e
theorem outs_iff {n : Nat} {ot : Nat → Nat} {T : Nat → Bool} {e : Nat} : outs n ot T e = true ↔ ∃ t, t < n ∧ T t = true ∧ ot t = e := by
  simp [outs]
theorem sum_outs {n m : Nat} {ot : Nat → Nat} {T : Nat → Bool} (hm : ∀ t, t < n → ot t < m) (inj : ∀ s t, s < n → t < n → ot s = ot t → s = t) (f : Nat → Int) :
    sumN m (fun e => if outs n ot T e then f e else 0) = sumN n fun t => if T t then f (ot t) else 0 := by
  have e1 : ∀ e, e < m → (if outs n ot T e then f e else 0) = sumN n fun t => if ot t = e then (if T t then f e else 0) else 0 := by
    intro e _
    by_cases h : outs n ot T e = true
    · refine Ea.x1_3 (outs_iff.mp h) fun t ht hT he => ?_
      rw [if_pos h, sumN_one (k := t) ht fun i hi hne => if_neg fun q => hne (inj i t hi ht (q.trans he.symm)), if_pos he, if_pos hT]
    · rw [if_neg h]
      refine (sumN_zero fun t ht => ?_).symm
      by_cases h1 : ot t = e
      · rw [if_pos h1, if_neg fun h2 => h (outs_iff.mpr ⟨t, ht, h2, h1⟩)]
      · rw [if_neg h1]
  rw [sumN_congr e1, sumN_comm]
  refine sumN_congr fun t ht => ?_
  rw [sumN_one (k := ot t) (hm t ht) fun i _ hne => if_neg fun q => hne q.symm, if_pos rfl]
theorem can_iff {n : Nat} {l : List Went} : Ks176.Abs.can ⟨n, l⟩ = true ↔ ∃ ks x, Crs n l ks x := by
  show (!(ms n l).isEmpty) = true ↔ _
  rw [Bool.not_eq_true', List.isEmpty_eq_false_iff_exists_mem]
  constructor
  · rintro ⟨x, h⟩
    obtain ⟨ks, hc⟩ := (mem_ms l).mp h
    exact ⟨ks, x, hc⟩
  · intro qz38
    refine Ea.x2_1 qz38 fun ks x hc => ?_; try clear qz38
    exact ⟨x, (mem_ms l).mpr ⟨ks, hc⟩⟩
theorem most_is {n : Nat} {l : List Went} {s M : Nat} {ks x : List Nat} (hc : Crs n l ks x) (hx : Ks175.on s x = M) (h : ∀ ks y, Crs n l ks y → Ks175.on s y ≤ M) : Ks176.Abs.most ⟨n, l⟩ s = M := by
  refine greatest_eq (List.mem_map.mpr ⟨x, (mem_ms l).mpr ⟨ks, hc⟩, hx⟩) fun y hy => ?_
  refine Ea.x1_2 (List.mem_map.mp hy) fun z hz qz39 => ?_; subst qz39
  obtain ⟨ks', hz⟩ := (mem_ms l).mp hz
  exact h ks' z hz
theorem least_is {n : Nat} {l : List Went} {s M : Nat} {ks x : List Nat} (hc : Crs n l ks x) (hx : Ks175.on s x = M) (h : ∀ ks y, Crs n l ks y → M ≤ Ks175.on s y) : Ks176.Abs.least ⟨n, l⟩ s = M := by
  refine smallest_eq (List.mem_map.mpr ⟨x, (mem_ms l).mpr ⟨ks, hc⟩, hx⟩) fun y hy => ?_
  refine Ea.x1_2 (List.mem_map.mp hy) fun z hz qz40 => ?_; subst qz40
  obtain ⟨ks', hz⟩ := (mem_ms l).mp hz
  exact h ks' z hz
theorem Crs.on {n : Nat} {l : List Went} {s : Nat} {ks x : List Nat} (hc : Crs n l ks x) : ((Ks175.on s x : Nat) : Int) = sumN n fun t => if s.testBit t then (x.getD t 0 : Int) else 0 := by
  rw [on_eq, hc.size]
end
end Mg
end
section
set_option maxHeartbeats 1000000
namespace Mg
theorem xor1_even (e : Nat) : (2 * e) ^^^ 1 = 2 * e + 1 := by
  apply Nat.eq_of_testBit_eq
  intro i
  rw [Nat.testBit_xor]
  cases i with
  | zero => simp
  | succ i => simp [Nat.testBit_succ]; congr 1; lia
theorem xor1_odd (e : Nat) : (2 * e + 1) ^^^ 1 = 2 * e := by
  have := xor1_even e
  rw [← this, Nat.xor_assoc]; simp
theorem xor1_xor1 (w : Nat) : (w ^^^ 1) ^^^ 1 = w := by rw [Nat.xor_assoc]; simp
theorem xor1_lt {w m : Nat} (h : w < 2 * m) : w ^^^ 1 < 2 * m := by
  obtain ⟨e, h1 | h1⟩ : ∃ e, w = 2 * e ∨ w = 2 * e + 1 := ⟨w / 2, by lia⟩
  · subst h1; rw [xor1_even]; lia
  · subst h1; rw [xor1_odd]; lia
theorem xor1_ne (w : Nat) : w ^^^ 1 ≠ w := by
  obtain ⟨e, h1 | h1⟩ : ∃ e, w = 2 * e ∨ w = 2 * e + 1 := ⟨w / 2, by lia⟩
  · subst h1; rw [xor1_even]; lia
  · subst h1; rw [xor1_odd]; lia
noncomputable abbrev wy (ways : List (List Nat)) (p : Nat) : List Nat := ways.getD p []
structure Fit (m : Nat) (goals : List Nat) (rooms : List Int) (ways : List (List Nat)) : Prop where
  gl : goals.length = 2 * m
  rl : rooms.length = 2 * m
  gN : ∀ w, w < 2 * m → goals.getD w 0 < ways.length
  wi : ∀ w, w < 2 * m → w ∈ wy ways (goals.getD (w ^^^ 1) 0)
  wo : ∀ p w, w ∈ wy ways p → w < 2 * m ∧ goals.getD (w ^^^ 1) 0 = p
  nd : ∀ p, (wy ways p).Nodup
  r0 : ∀ w, 0 ≤ rooms.getD w 0
theorem getI_set (l : List Int) (t : Nat) (v : Int) (j : Nat) (b : Int) : (l.set t v).getD j b = if t = j ∧ j < l.length then v else l.getD j b := by
  simp only [List.getD_eq_getElem?_getD, List.getElem?_set]
  by_cases h : t = j
  · subst h
    by_cases h2 : t < l.length
    · simp [h2]
    · simp [h2]
  · simp [h]
noncomputable def negs (far : List Int) : Nat := far.countP fun v => decide (v < 0)
theorem negs_set {far : List Int} : ∀ {p : Nat} {v : Int}, far.getD p 0 < 0 → 0 ≤ v → negs (far.set p v) + 1 = negs far := by
  induction far with
  | nil => intro p v h _; simp at h
  | cons a far ih =>
    intro p v h hv
    cases p with
    | zero =>
      simp at h
      simp only [negs, List.set_cons_zero, List.countP_cons]
      have h1 : ¬ v < 0 := by lia
      simp [h, h1]
    | succ p =>
      have h' : far.getD p 0 < 0 := by simpa [List.getD_cons_succ] using h
      have := ih h' hv
      simp only [negs, List.set_cons_succ, List.countP_cons] at this ⊢
      lia
section
variable {m : Nat} {goals : List Nat} {rooms : List Int} {ways : List (List Nat)} {goal : Nat}
structure Lay (goals : List Nat) (rooms : List Int) (ways : List (List Nat)) (goal k : Nat) (far : List Int) (layer : List Nat) : Prop where
  len : far.length = ways.length
  rng : ∀ p, p < ways.length → far.getD p 0 = -1 ∨ (0 ≤ far.getD p 0 ∧ far.getD p 0 ≤ k)
  zero : ∀ p, p < ways.length → far.getD p 0 = 0 → p = goal
  gz : far.getD goal 0 = 0
  mem : ∀ p, p ∈ layer ↔ p < ways.length ∧ far.getD p 0 = k
  step : ∀ p (j : Nat), p < ways.length → far.getD p 0 = (j : Int) + 1 → ∃ w, w ∈ wy ways p ∧ 0 < rooms.getD w 0 ∧ far.getD (goals.getD w 0) 0 = j
  clos : ∀ w, w < goals.length → 0 < rooms.getD w 0 → 0 ≤ far.getD (goals.getD w 0) 0 → far.getD (goals.getD w 0) 0 < k → 0 ≤ far.getD (goals.getD (w ^^^ 1) 0) 0
theorem getD_rep (n p : Nat) : p < n → (List.replicate n (-1 : Int)).getD p 0 = -1 := by
  intro h
  simp [List.getD_eq_getElem?_getD, h]
theorem lay_start (hg : goal < ways.length) : Lay goals rooms ways goal 0 ((List.replicate ways.length (-1)).set goal 0) [goal] := by
  have val : ∀ p, p < ways.length → ((List.replicate ways.length (-1 : Int)).set goal 0).getD p 0 = if goal = p then 0 else -1 := by
    intro p hp
    rw [getI_set]
    by_cases h : goal = p
    · subst h; rw [if_pos ⟨rfl, by simp; exact hp⟩, if_pos rfl]
    · rw [if_neg (fun q => h q.1), if_neg h, getD_rep _ _ hp]
  refine ⟨by simp, ?_, ?_, ?_, ?_, ?_, ?_⟩
  · intro p hp; rw [val p hp]; split
    · right; lia
    · left; rfl
  · intro p hp h; rw [val p hp] at h; split at h
    · lia
    · lia
  · rw [val goal hg, if_pos rfl]
  · intro p
    rw [List.mem_singleton]
    constructor
    · rintro rfl; exact ⟨hg, by rw [val p hg, if_pos rfl]; rfl⟩
    · rintro ⟨hp, h⟩
      rw [val p hp] at h; split at h
      · lia
      · simp at h
  · intro p j hp h
    rw [val p hp] at h; split at h <;> lia
  · intro w _ _ h1 h2; lia
structure Trn (goals : List Nat) (rooms : List Int) (ways : List (List Nat)) (k : Nat) (far0 : List Int) (hd : List Nat) (far : List Int) (farther : List Nat) : Prop where
  len : far.length = ways.length
  old : ∀ p, p < ways.length → 0 ≤ far0.getD p 0 → far.getD p 0 = far0.getD p 0
  new : ∀ p, p < ways.length → far0.getD p 0 < 0 → far.getD p 0 = -1 ∨ far.getD p 0 = (k : Int) + 1
  mem : ∀ p, p ∈ farther ↔ p < ways.length ∧ far.getD p 0 = (k : Int) + 1
  step : ∀ p, p < ways.length → far.getD p 0 = (k : Int) + 1 → ∃ w, w ∈ wy ways p ∧ 0 < rooms.getD w 0 ∧ far0.getD (goals.getD w 0) 0 = k
  clos : ∀ w, w ∈ hd → 0 < rooms.getD (w ^^^ 1) 0 → 0 ≤ far.getD (goals.getD w 0) 0
  cnt : negs far + farther.length = negs far0
theorem trn_start {k : Nat} {far0 : List Int} {layer : List Nat} (L : Lay goals rooms ways goal k far0 layer) : Trn goals rooms ways k far0 [] far0 [] := by
  refine ⟨L.len, fun _ _ _ => rfl, ?_, ?_, ?_, (fun w hw => by cases hw), rfl⟩
  · intro p hp h
    rcases L.rng p hp with q | q <;> lia
  · intro p
    constructor
    · intro h; cases h
    · rintro ⟨hp, h⟩
      rcases L.rng p hp with q | q <;> lia
  · intro p hp h
    rcases L.rng p hp with q | q <;> lia
theorem trn_yes {k : Nat} {far0 : List Int} {hd : List Nat} {far : List Int} {farther : List Nat} {w place : Nat} (F : Fit m goals rooms ways) (T : Trn goals rooms ways k far0 hd far farther) (hw : w ∈ wy ways place) (hp : far0.getD place 0 = k)
    (h1 : far.getD (goals.getD w 0) 0 < 0) (h2 : 0 < rooms.getD (w ^^^ 1) 0) : Trn goals rooms ways k far0 (hd ++ [w]) (far.set (goals.getD w 0) ((k : Int) + 1)) (farther ++ [goals.getD w 0]) := by
  obtain ⟨wm, wp⟩ := F.wo place w hw
  have hb := F.gN w wm
  have f0 : far0.getD (goals.getD w 0) 0 < 0 := by
    by_cases q : 0 ≤ far0.getD (goals.getD w 0) 0
    · rw [T.old _ hb q] at h1; lia
    · lia
  have val : ∀ p, p < ways.length → (far.set (goals.getD w 0) ((k : Int) + 1)).getD p 0 = if goals.getD w 0 = p then (k : Int) + 1 else far.getD p 0 := by
    intro p hp
    rw [getI_set]
    by_cases h : goals.getD w 0 = p
    · rw [if_pos ⟨h, by rw [T.len]; exact hp⟩, if_pos h]
    · rw [if_neg (fun q => h q.1), if_neg h]
  refine ⟨by rw [List.length_set]; exact T.len, ?_, ?_, ?_, ?_, ?_, ?_⟩
  · intro p hp h
    rw [val p hp]
    by_cases e : goals.getD w 0 = p
    · rw [e] at f0; lia
    · rw [if_neg e]; exact T.old p hp h
  · intro p hp h
    rw [val p hp]
    split
    · exact .inr rfl
    · exact T.new p hp h
  · intro p
    rw [List.mem_append, List.mem_singleton, T.mem]
    constructor
    · rintro (⟨q1, q2⟩ | rfl)
      · refine ⟨q1, ?_⟩
        rw [val p q1]; split
        · rfl
        · exact q2
      · refine ⟨hb, ?_⟩
        rw [val _ hb, if_pos rfl]
    · rintro ⟨q1, q2⟩
      rw [val p q1] at q2
      split at q2
      · rename_i e; exact .inr e.symm
      · exact .inl ⟨q1, q2⟩
  · intro p hp' h
    rw [val p hp'] at h
    split at h
    · rename_i e
      subst e
      refine ⟨w ^^^ 1, ?_, h2, ?_⟩
      · have := F.wi (w ^^^ 1) (xor1_lt wm)
        rwa [xor1_xor1] at this
      · rw [wp]; exact hp
    · exact T.step p hp' h
  · intro v hv hr
    rw [List.mem_append, List.mem_singleton] at hv
    rcases hv with hv | rfl
    · have hvN : goals.getD v 0 < ways.length := by
        by_cases q : v < 2 * m
        · exact F.gN v q
        · have e0 : goals.getD v 0 = 0 := by
            rw [List.getD_eq_getElem?_getD, List.getElem?_eq_none (by rw [F.gl]; lia)]; rfl
          rw [e0]; exact Nat.lt_of_le_of_lt (Nat.zero_le _) hb
      rw [val _ hvN]; split
      · lia
      · exact T.clos v hv hr
    · rw [val _ hb, if_pos rfl]; lia
  · have := negs_set (v := (k : Int) + 1) h1 (by lia)
    have := T.cnt
    rw [List.length_append, List.length_singleton]; lia
theorem trn_no {k : Nat} {far0 : List Int} {hd : List Nat} {far : List Int} {farther : List Nat} {w : Nat} (T : Trn goals rooms ways k far0 hd far farther)
    (h : ¬ (far.getD (goals.getD w 0) 0 < 0 ∧ 0 < rooms.getD (w ^^^ 1) 0)) : Trn goals rooms ways k far0 (hd ++ [w]) far farther := by
  refine ⟨T.len, T.old, T.new, T.mem, T.step, ?_, T.cnt⟩
  intro v hv hr
  rw [List.mem_append, List.mem_singleton] at hv
  rcases hv with hv | rfl
  · exact T.clos v hv hr
  · by_cases q : far.getD (goals.getD v 0) 0 < 0
    · exact absurd ⟨q, hr⟩ h
    · lia
theorem lay_next {k : Nat} {far0 far : List Int} {layer farther : List Nat} (F : Fit m goals rooms ways) (L : Lay goals rooms ways goal k far0 layer) (hg : goal < ways.length)
    (T : Trn goals rooms ways k far0 (layer.flatMap (wy ways)) far farther) : Lay goals rooms ways goal (k + 1) far farther := by
  have up : ∀ p, p < ways.length → 0 ≤ far0.getD p 0 → 0 ≤ far.getD p 0 := fun p hp h => by rw [T.old p hp h]; exact h
  refine ⟨T.len, ?_, ?_, ?_, ?_, ?_, ?_⟩
  · intro p hp
    by_cases h : 0 ≤ far0.getD p 0
    · rw [T.old p hp h]
      rcases L.rng p hp with q | q
      · lia
      · right; lia
    · rcases T.new p hp (by lia) with q | q
      · exact .inl q
      · right; lia
  · intro p hp h
    by_cases h0 : 0 ≤ far0.getD p 0
    · rw [T.old p hp h0] at h; exact L.zero p hp h
    · rcases T.new p hp (by lia) with q | q <;> lia
  · rw [T.old goal hg (by rw [L.gz]; exact Int.le_refl 0)]; exact L.gz
  · intro p
    rw [T.mem p]
    constructor <;> rintro ⟨a, b⟩ <;> exact ⟨a, by lia⟩
  · intro p j hp h
    by_cases h0 : 0 ≤ far0.getD p 0
    · rw [T.old p hp h0] at h
      refine Ea.x1_3 (L.step p j hp h) fun w w1 w2 w3 => ?_
      have := (F.wo p w w1).1
      exact ⟨w, w1, w2, by rw [T.old _ (F.gN w this) (by lia)]; exact w3⟩
    · rcases T.new p hp (by lia) with q | q
      · lia
      · have hj : (j : Int) = k := by lia
        refine Ea.x1_3 (T.step p hp q) fun w w1 w2 w3 => ?_
        have := (F.wo p w w1).1
        exact ⟨w, w1, w2, by rw [T.old _ (F.gN w this) (by lia), w3, hj]⟩
  · intro w hw hr h1 h2
    have wm : w < 2 * m := by rw [← F.gl]; exact hw
    have gN := F.gN w wm
    have g1 := F.gN _ (xor1_lt wm)
    by_cases h0 : 0 ≤ far0.getD (goals.getD w 0) 0
    · rw [T.old _ gN h0] at h2
      by_cases h3 : far0.getD (goals.getD w 0) 0 < k
      · exact up _ g1 (L.clos w hw hr h0 h3)
      · have hk : far0.getD (goals.getD w 0) 0 = k := by lia
        have hl := (L.mem _).mpr ⟨gN, hk⟩
        have hv : w ^^^ 1 ∈ wy ways (goals.getD w 0) := by
          have := F.wi (w ^^^ 1) (xor1_lt wm)
          rwa [xor1_xor1] at this
        exact T.clos (w ^^^ 1) (List.mem_flatMap.mpr ⟨_, hl, hv⟩) (by rw [xor1_xor1]; exact hr)
    · rcases T.new _ gN (by lia) with q | q <;> lia
structure Bfs (goals : List Nat) (rooms : List Int) (ways : List (List Nat)) (origin goal : Nat) (far : List Int) : Prop where
  len : far.length = ways.length
  neg : ∀ p, p < ways.length → far.getD p 0 = -1 ∨ 0 ≤ far.getD p 0
  le : ∀ p, p < ways.length → far.getD p 0 ≤ (ways.length : Int)
  zero : ∀ p, p < ways.length → far.getD p 0 = 0 → p = goal
  gz : far.getD goal 0 = 0
  step : ∀ p (j : Nat), p < ways.length → far.getD p 0 = (j : Int) + 1 → ∃ w, w ∈ wy ways p ∧ 0 < rooms.getD w 0 ∧ far.getD (goals.getD w 0) 0 = j
  clos : far.getD origin 0 < 0 → ∀ w, w < goals.length → 0 < rooms.getD w 0 → 0 ≤ far.getD (goals.getD w 0) 0 → 0 ≤ far.getD (goals.getD (w ^^^ 1) 0) 0
theorem lay_end {k origin : Nat} {far : List Int} {layer : List Nat} (F : Fit m goals rooms ways) (L : Lay goals rooms ways goal k far layer) (hk : k ≤ ways.length) (h : ¬ (layer ≠ [] ∧ far.getD origin 0 < 0)) : Bfs goals rooms ways origin goal far := by
  refine ⟨L.len, ?_, ?_, L.zero, L.gz, L.step, ?_⟩
  · intro p hp
    rcases L.rng p hp with q | q
    · exact .inl q
    · exact .inr q.1
  · intro p hp
    rcases L.rng p hp with q | q <;> lia
  · intro ho w hw hr h0
    have gN := F.gN w (by rw [← F.gl]; exact hw)
    by_cases hk' : far.getD (goals.getD w 0) 0 < k
    · exact L.clos w hw hr h0 hk'
    · have hl : layer = [] := by
        by_cases q : layer = []
        · exact q
        · exact absurd ⟨q, ho⟩ h
      have : goals.getD w 0 ∈ layer := (L.mem _).mpr ⟨gN, by
        rcases L.rng _ gN with q | q <;> lia⟩
      rw [hl] at this; cases this
end
end Mg
end
section
set_option autoImplicit false
set_option maxHeartbeats 1000000
namespace Mg
noncomputable abbrev ogF (goals : List Nat) (e : Nat) : Nat := goals.getD (2 * e + 1) 0
noncomputable abbrev glF (goals : List Nat) (e : Nat) : Nat := goals.getD (2 * e) 0
noncomputable abbrev upF (rooms : List Int) (e : Nat) : Int := rooms.getD (2 * e) 0
noncomputable abbrev dnF (rooms : List Int) (e : Nat) : Int := rooms.getD (2 * e + 1) 0
structure Sh (m : Nat) (rooms rooms' : List Int) (δ : Nat → Int) : Prop where
  len : rooms'.length = rooms.length
  up : ∀ e, e < m → upF rooms' e = upF rooms e - δ e
  dn : ∀ e, e < m → dnF rooms' e = dnF rooms e + δ e
noncomputable def Flo (m : Nat) (goals : List Nat) (a b : Nat) (v : Int) (rooms rooms' : List Int) : Prop :=
  ∃ δ, Sh m rooms rooms' δ ∧ ∀ p, exc m (ogF goals) (glF goals) δ p = (if b = p then v else 0) - (if a = p then v else 0)
section
variable {m : Nat} {goals : List Nat} {ways : List (List Nat)}
theorem Flo.refl (a b : Nat) (rooms : List Int) : Flo m goals a b 0 rooms rooms :=
  ⟨fun _ => 0, ⟨rfl, fun e _ => by simp, fun e _ => by simp⟩, fun p => by rw [exc_zero]; split <;> split <;> rfl⟩
theorem Flo.idle (a : Nat) (v : Int) (rooms : List Int) : Flo m goals a a v rooms rooms :=
  ⟨fun _ => 0, ⟨rfl, fun e _ => by simp, fun e _ => by simp⟩, fun p => by rw [exc_zero]; lia⟩
theorem Sh.comp {r r1 r2 : List Int} {δ δ1 : Nat → Int} (h : Sh m r r1 δ) (k : Sh m r1 r2 δ1) : Sh m r r2 (fun e => δ e + δ1 e) :=
  ⟨k.len.trans h.len, fun e he => by rw [k.up e he, h.up e he]; lia, fun e he => by rw [k.dn e he, h.dn e he]; lia⟩
theorem Flo.more {a b : Nat} {v v' : Int} {r r1 r2 : List Int} (h : Flo m goals a b v r r1) (k : Flo m goals a b v' r1 r2) : Flo m goals a b (v + v') r r2 := by
  refine Ea.x1_2 h fun δ h1 h2 => ?_; try clear h
  refine Ea.x1_2 k fun δ1 k1 k2 => ?_; try clear k
  refine ⟨_, h1.comp k1, fun p => ?_⟩
  rw [exc_add, h2, k2]; split <;> split <;> lia
theorem Flo.on {a b c : Nat} {v : Int} {r r1 r2 : List Int} (h : Flo m goals a b v r r1) (k : Flo m goals b c v r1 r2) : Flo m goals a c v r r2 := by
  refine Ea.x1_2 h fun δ h1 h2 => ?_; try clear h
  refine Ea.x1_2 k fun δ1 k1 k2 => ?_; try clear k
  refine ⟨_, h1.comp k1, fun p => ?_⟩
  rw [exc_add, h2, k2]; lia
theorem Flo.len {a b : Nat} {v : Int} {r r1 : List Int} (h : Flo m goals a b v r r1) : r1.length = r.length := h.choose_spec.1.len
noncomputable def pushW (v : Int) (rooms : List Int) (w : Nat) : List Int := (rooms.set w (rooms.getD w 0 - v)).set (w ^^^ 1) (rooms.getD (w ^^^ 1) 0 + v)
theorem pushW_len (v : Int) (rooms : List Int) (w : Nat) : (pushW v rooms w).length = rooms.length := by simp [pushW]
theorem pushW_get {v : Int} {rooms : List Int} {w : Nat} (h : w < 2 * m) (hl : rooms.length = 2 * m) (j : Nat) : (pushW v rooms w).getD j 0 = if j = w then rooms.getD w 0 - v else if j = w ^^^ 1 then rooms.getD (w ^^^ 1) 0 + v else rooms.getD j 0 := by
  have h1 := xor1_lt h
  have hne := xor1_ne w
  rw [pushW, getI_set, getI_set]
  by_cases e1 : j = w
  · subst e1
    rw [if_neg (fun q => hne q.1), if_pos ⟨rfl, by lia⟩, if_pos rfl]
  · by_cases e2 : j = w ^^^ 1
    · subst e2
      rw [if_pos ⟨rfl, by simp; lia⟩, if_neg e1, if_pos rfl]
    · rw [if_neg (fun q => e2 q.1.symm), if_neg (fun q => e1 q.1.symm), if_neg e1, if_neg e2]
theorem pushW_flo {v : Int} {rooms : List Int} {w : Nat} (h : w < 2 * m) (hl : rooms.length = 2 * m) : Flo m goals (goals.getD (w ^^^ 1) 0) (goals.getD w 0) v rooms (pushW v rooms w) := by
  have G := pushW_get (v := v) h hl
  obtain ⟨e, h1 | h1⟩ : ∃ e, w = 2 * e ∨ w = 2 * e + 1 := ⟨w / 2, by lia⟩
  · subst h1
    refine ⟨up1 (fun _ => 0) e v, ⟨pushW_len _ _ _, fun i hi => ?_, fun i hi => ?_⟩, fun p => ?_⟩
    · show (pushW v rooms (2 * e)).getD (2 * i) 0 = _
      rw [G, xor1_even]
      by_cases q : i = e
      · subst q; rw [if_pos rfl, up1_same]
      · rw [if_neg (by lia), if_neg (by lia), up1_ne q]; exact (Int.sub_zero _).symm
    · show (pushW v rooms (2 * e)).getD (2 * i + 1) 0 = _
      rw [G, xor1_even]
      by_cases q : i = e
      · subst q; rw [if_neg (by lia), if_pos rfl, up1_same]
      · rw [if_neg (by lia), if_neg (by lia), up1_ne q]; exact (Int.add_zero _).symm
    · rw [exc_upd (by lia), exc_zero, xor1_even]; simp
  · subst h1
    refine ⟨up1 (fun _ => 0) e (-v), ⟨pushW_len _ _ _, fun i hi => ?_, fun i hi => ?_⟩, fun p => ?_⟩
    · show (pushW v rooms (2 * e + 1)).getD (2 * i) 0 = _
      rw [G, xor1_odd]
      by_cases q : i = e
      · subst q; rw [if_neg (by lia), if_pos rfl, up1_same]; show _ = rooms.getD (2 * i) 0 - -v; lia
      · rw [if_neg (by lia), if_neg (by lia), up1_ne q]; exact (Int.sub_zero _).symm
    · show (pushW v rooms (2 * e + 1)).getD (2 * i + 1) 0 = _
      rw [G, xor1_odd]
      by_cases q : i = e
      · subst q; rw [if_pos rfl, up1_same]; show _ = rooms.getD (2 * i + 1) 0 + -v; lia
      · rw [if_neg (by lia), if_neg (by lia), up1_ne q]; exact (Int.add_zero _).symm
    · rw [exc_upd (by lia), exc_zero, xor1_odd]; split <;> split <;> lia
noncomputable def Chn (goals : List Nat) : Nat → List Nat → Nat → Prop
  | a, [], b => a = b
  | a, w :: ws, b => goals.getD (w ^^^ 1) 0 = a ∧ Chn goals (goals.getD w 0) ws b
theorem chn_snoc {goals : List Nat} {w b : Nat} : ∀ {ws : List Nat} {a : Nat}, Chn goals a (ws ++ [w]) b ↔ Chn goals a ws (goals.getD (w ^^^ 1) 0) ∧ goals.getD w 0 = b
  | [], a => by
    simp only [List.nil_append, Chn]
    exact ⟨fun ⟨x, y⟩ => ⟨x.symm, y⟩, fun ⟨x, y⟩ => ⟨x.symm, y⟩⟩
  | v :: ws, a => by
    show (goals.getD (v ^^^ 1) 0 = a ∧ Chn goals (goals.getD v 0) (ws ++ [w]) b) ↔ _
    rw [chn_snoc]
    simp only [Chn, and_assoc]
structure Psh (m : Nat) (goals : List Nat) (a b : Nat) (v : Int) (rooms0 rooms : List Int) (x : Nat) (rest : List Nat) : Prop where
  len : rooms.length = 2 * m
  flo : Flo m goals a x v rooms0 rooms
  nn : ∀ w, 0 ≤ rooms.getD w 0
  rs : ∀ w, w ∈ rest → w < 2 * m ∧ v ≤ rooms.getD w 0
  nd : rest.Nodup
  chn : Chn goals x rest b
theorem psh_start {a b : Nat} {v : Int} {rooms : List Int} {path : List Nat} (F : Fit m goals rooms ways) (h : ∀ w, w ∈ path → w < 2 * m ∧ v ≤ rooms.getD w 0) (nd : path.Nodup) (c : Chn goals a path b) : Psh m goals a b v rooms rooms a path :=
  ⟨F.rl, .idle a v rooms, F.r0, h, nd, c⟩
theorem psh_step {a b x w : Nat} {v : Int} {rooms0 rooms : List Int} {rest : List Nat} (hv : 0 ≤ v) (P : Psh m goals a b v rooms0 rooms x (w :: rest)) : Psh m goals a b v rooms0 (pushW v rooms w) (goals.getD w 0) rest := by
  obtain ⟨wm, wv⟩ := P.rs w (List.mem_cons_self ..)
  have G := pushW_get (v := v) wm P.len
  obtain ⟨c1, c2⟩ := P.chn
  have nd := List.nodup_cons.mp P.nd
  refine ⟨by rw [pushW_len]; exact P.len, ?_, ?_, ?_, nd.2, c2⟩
  · refine P.flo.on ?_
    rw [← c1]
    exact pushW_flo wm P.len
  · intro j
    rw [G]
    have := P.nn j
    have := P.nn (w ^^^ 1)
    split
    · lia
    · split <;> lia
  · intro j hj
    obtain ⟨jm, jv⟩ := P.rs j (List.mem_cons_of_mem _ hj)
    refine ⟨jm, ?_⟩
    rw [G, if_neg (fun e : j = w => nd.1 (by rw [← e]; exact hj))]
    have := P.nn (w ^^^ 1)
    split <;> lia
theorem psh_end {a b x : Nat} {v : Int} {rooms0 rooms : List Int} (P : Psh m goals a b v rooms0 rooms x []) : Flo m goals a b v rooms0 rooms ∧ ∀ w, 0 ≤ rooms.getD w 0 := by
  have e : x = b := P.chn
  subst e
  exact ⟨P.flo, P.nn⟩
theorem Fit.rooms {rooms rooms' : List Int} (F : Fit m goals rooms ways) (hl : rooms'.length = 2 * m) (h : ∀ w, 0 ≤ rooms'.getD w 0) : Fit m goals rooms' ways :=
  ⟨F.gl, hl, F.gN, F.wi, F.wo, F.nd, h⟩
noncomputable def Adm (goals : List Nat) (rooms far : List Int) (p w : Nat) : Prop := far.getD (goals.getD w 0) 0 = far.getD p 0 - 1 ∧ 0 < rooms.getD w 0
structure Srch (m : Nat) (goals : List Nat) (ways : List (List Nat)) (far : List Int) (origin goal : Nat) (rooms0 rooms : List Int) (tried path : List Nat) (place : Nat) (pushed : Int) : Prop where
  fit : Fit m goals rooms ways
  flo : Flo m goals origin goal pushed rooms0 rooms
  tl : tried.length = ways.length
  tle : ∀ q, q < ways.length → tried.getD q 0 ≤ (wy ways q).length
  chn : Chn goals origin path place
  pth : ∀ (i w : Nat), path[i]? = some w → w < 2 * m ∧ Adm goals rooms far (goals.getD (w ^^^ 1) 0) w ∧ (wy ways (goals.getD (w ^^^ 1) 0))[tried.getD (goals.getD (w ^^^ 1) 0) 0]? = some w ∧ far.getD (goals.getD (w ^^^ 1) 0) 0 + i = far.getD origin 0
  plc : place < ways.length
  fp : far.getD place 0 + path.length = far.getD origin 0
  fpos : 0 < far.getD place 0
  p0 : 0 ≤ pushed
  dead : pushed = 0 → rooms = rooms0 ∧ ∀ (q i w : Nat), q < ways.length → i < tried.getD q 0 → (wy ways q)[i]? = some w → Adm goals rooms far q w → goals.getD w 0 ≠ goal ∧ tried.getD (goals.getD w 0) 0 = (wy ways (goals.getD w 0)).length
variable {far : List Int} {origin goal : Nat} {rooms0 rooms : List Int} {tried path : List Nat} {place : Nat} {pushed : Int}
theorem srch_start (F : Fit m goals rooms ways) (ho : origin < ways.length) (hf : 0 < far.getD origin 0) : Srch m goals ways far origin goal rooms rooms (List.replicate ways.length 0) [] origin 0 := by
  have z : ∀ q, (List.replicate ways.length 0 : List Nat).getD q 0 = 0 := by
    intro q
    simp only [List.getD_eq_getElem?_getD, List.getElem?_replicate]
    split <;> rfl
  refine ⟨F, .refl _ _ _, by simp, fun q _ => by rw [z]; exact Nat.zero_le _, rfl, fun i w h => by simp at h, ho, by simp, hf, Int.le_refl 0, fun _ => ⟨rfl, fun q i w _ hi => ?_⟩⟩
  rw [z] at hi; lia
theorem setN_get (l : List Nat) (t v j : Nat) : (l.set t v).getD j 0 = if t = j ∧ j < l.length then v else l.getD j 0 := getD_set l t v j
theorem srch_go (S : Srch m goals ways far origin goal rooms0 rooms tried path place pushed) (hz : ∀ p, p < ways.length → far.getD p 0 = 0 → p = goal) {i w : Nat} (h0 : tried.getD place 0 ≤ i) (hi : (wy ways place)[i]? = some w) (ha : Adm goals rooms far place w)
    (hno : ∀ (j v : Nat), tried.getD place 0 ≤ j → j < i → (wy ways place)[j]? = some v → ¬ Adm goals rooms far place v) (hg : goals.getD w 0 ≠ goal) :
    Srch m goals ways far origin goal rooms0 rooms (tried.set place i) (path ++ [w]) (goals.getD w 0) pushed := by
  obtain ⟨wm, wp⟩ := S.fit.wo place w (List.mem_of_getElem? hi)
  have il := (List.getElem?_eq_some_iff.mp hi).1
  have gN := S.fit.gN w wm
  have T : ∀ q, (tried.set place i).getD q 0 = if place = q then i else tried.getD q 0 := by
    intro q
    rw [setN_get]
    by_cases e : place = q
    · rw [if_pos ⟨e, by rw [S.tl, ← e]; exact S.plc⟩, if_pos e]
    · rw [if_neg (fun q => e q.1), if_neg e]
  refine ⟨S.fit, S.flo, by simp [S.tl], ?_, ?_, ?_, gN, ?_, ?_, S.p0, ?_⟩
  · intro q hq
    rw [T]
    split
    · rename_i e; subst e; lia
    · exact S.tle q hq
  · rw [chn_snoc, wp]; exact ⟨S.chn, rfl⟩
  · intro j v hv
    rcases get_snoc hv with ⟨hj, hv⟩ | ⟨hj, hv⟩
    · refine Ea.a4 (S.pth j v hv) fun a1 a2 a3 a4 => ?_
      refine ⟨a1, a2, ?_, a4⟩
      rw [T, if_neg (fun e => ?_)]
      · exact a3
      · have := S.fp
        rw [← e] at a4
        lia
    · subst hv
      rw [wp]
      refine ⟨wm, ha, by rw [T, if_pos rfl]; exact hi, ?_⟩
      have := S.fp; lia
  · have := S.fp
    have := ha.1
    rw [List.length_append, List.length_singleton]; push_cast; lia
  · have h1 := ha.1
    have h2 := S.fpos
    by_cases q : far.getD (goals.getD w 0) 0 = 0
    · exact absurd (hz _ gN q) hg
    · lia
  · intro e
    obtain ⟨d1, d2⟩ := S.dead e
    refine ⟨d1, fun q j v hq hj hv hA => ?_⟩
    have key : goals.getD v 0 ≠ goal ∧ tried.getD (goals.getD v 0) 0 = (wy ways (goals.getD v 0)).length := by
      rw [T] at hj
      split at hj
      · rename_i e; subst e
        by_cases h3 : j < tried.getD place 0
        · exact d2 _ j v hq h3 hv hA
        · exact absurd hA (hno j v (by lia) hj hv)
      · exact d2 q j v hq hj hv hA
    refine ⟨key.1, ?_⟩
    rw [T]
    split
    · rename_i e
      rw [← e] at key
      have := key.2
      lia
    · exact key.2
theorem srch_path (S : Srch m goals ways far origin goal rooms0 rooms tried path place pushed) {i w : Nat} (hi : (wy ways place)[i]? = some w) (ha : Adm goals rooms far place w) (hg : goals.getD w 0 = goal) :
    Chn goals origin (path ++ [w]) goal ∧ (path ++ [w]).Nodup ∧ ∀ v, v ∈ path ++ [w] → v < 2 * m ∧ 0 < rooms.getD v 0 := by
  obtain ⟨wm, wp⟩ := S.fit.wo place w (List.mem_of_getElem? hi)
  have all : ∀ (j v : Nat), (path ++ [w])[j]? = some v → v < 2 * m ∧ 0 < rooms.getD v 0 ∧ far.getD (goals.getD (v ^^^ 1) 0) 0 + j = far.getD origin 0 := by
    intro j v hv
    rcases get_snoc hv with ⟨hj, hv⟩ | ⟨hj, hv⟩
    · refine Ea.a4 (S.pth j v hv) fun a1 a2 _ a4 => ?_
      exact ⟨a1, a2.2, a4⟩
    · subst hv
      exact ⟨wm, ha.2, by rw [wp]; have := S.fp; lia⟩
  refine ⟨by rw [chn_snoc, wp]; exact ⟨S.chn, hg⟩, ?_, ?_⟩
  · rw [List.nodup_iff_pairwise_ne, List.pairwise_iff_getElem]
    intro a b ha hb hab e
    have q1 := (all a _ (List.getElem?_eq_getElem ha)).2.2
    have q2 := (all b _ (List.getElem?_eq_getElem hb)).2.2
    rw [e] at q1
    lia
  · intro v hv
    obtain ⟨j, hj⟩ := List.mem_iff_getElem?.mp hv
    have := all j v hj
    exact ⟨this.1, this.2.1⟩
theorem srch_hit (S : Srch m goals ways far origin goal rooms0 rooms tried path place pushed) {i w : Nat} {rooms' : List Int} {v : Int} (hi : (wy ways place)[i]? = some w)
    (hv : 0 < v) (ho : origin < ways.length) (hfo : 0 < far.getD origin 0) (hf : Flo m goals origin goal v rooms rooms') (hn : ∀ w, 0 ≤ rooms'.getD w 0) :
    Srch m goals ways far origin goal rooms0 rooms' (tried.set place i) [] origin (pushed + v) := by
  have il := (List.getElem?_eq_some_iff.mp hi).1
  refine ⟨S.fit.rooms (hf.len.trans S.fit.rl) hn, S.flo.more hf, by simp [S.tl], ?_, rfl, fun i w h => by simp at h, ho, by simp, hfo, ?_, ?_⟩
  · intro q hq
    rw [setN_get]
    split
    · rename_i e; rw [← e.1]; lia
    · exact S.tle q hq
  · have := S.p0; lia
  · intro e; have := S.p0; lia
theorem srch_back {w : Nat} (S : Srch m goals ways far origin goal rooms0 rooms tried (path ++ [w]) place pushed) (hg0 : far.getD goal 0 = 0)
    (hno : ∀ (j v : Nat), tried.getD place 0 ≤ j → (wy ways place)[j]? = some v → ¬ Adm goals rooms far place v) :
    Srch m goals ways far origin goal rooms0 rooms ((tried.set place (wy ways place).length).set (goals.getD (w ^^^ 1) 0) (tried.getD (goals.getD (w ^^^ 1) 0) 0 + 1)) path (goals.getD (w ^^^ 1) 0) pushed ∧
      goals.getD (w ^^^ 1) 0 ≠ goal ∧ goals.getD (w ^^^ 1) 0 ≠ place ∧ goals.getD (w ^^^ 1) 0 < ways.length ∧ tried.getD (goals.getD (w ^^^ 1) 0) 0 < (wy ways (goals.getD (w ^^^ 1) 0)).length ∧ far.getD (goals.getD (w ^^^ 1) 0) 0 = far.getD place 0 + 1 := by
  obtain ⟨c1, c2⟩ := chn_snoc.mp S.chn
  have hl : (path ++ [w])[path.length]? = some w := by simp
  refine Ea.a4 (S.pth _ _ hl) fun wm wa wt wf => ?_
  have hfp := S.fp
  rw [List.length_append, List.length_singleton] at hfp
  have fpos := S.fpos
  obtain ⟨B, hB⟩ : ∃ B, B = goals.getD (w ^^^ 1) 0 := ⟨_, rfl⟩
  have bN : B < ways.length := by rw [hB]; exact S.fit.gN _ (xor1_lt wm)
  rw [← hB] at wa wt wf c1 ⊢
  have ft : far.getD B 0 = far.getD place 0 + 1 := by push_cast at hfp; lia
  have hbp : B ≠ place := fun e => by rw [e] at ft; lia
  have tlt := (List.getElem?_eq_some_iff.mp wt).1
  have T : ∀ q, ((tried.set place (wy ways place).length).set B (tried.getD B 0 + 1)).getD q 0 = if B = q then tried.getD B 0 + 1 else if place = q then (wy ways place).length else tried.getD q 0 := by
    intro q
    rw [setN_get, setN_get]
    by_cases e : B = q
    · rw [if_pos ⟨e, by rw [List.length_set, S.tl, ← e]; exact bN⟩, if_pos e]
    · rw [if_neg (fun q => e q.1), if_neg e]
      by_cases e2 : place = q
      · rw [if_pos ⟨e2, by rw [S.tl, ← e2]; exact S.plc⟩, if_pos e2]
      · rw [if_neg (fun q => e2 q.1), if_neg e2]
  have hgl : B ≠ goal := fun e => by rw [e, hg0] at ft; lia
  refine ⟨⟨S.fit, S.flo, by simp [S.tl], ?_, c1, ?_, bN, by lia, by lia, S.p0, ?_⟩, hgl, hbp, bN, tlt, ft⟩
  · intro q hq
    rw [T]
    split
    · rename_i e; subst e; lia
    · split
      · rename_i e; subst e; exact Nat.le_refl _
      · exact S.tle q hq
  · intro j v hv
    have hj := (List.getElem?_eq_some_iff.mp hv).1
    obtain ⟨a1, a2, a3, a4⟩ := S.pth j v (by rw [List.getElem?_append_left hj]; exact hv)
    refine ⟨a1, a2, ?_, a4⟩
    rw [T, if_neg (fun e => ?_), if_neg (fun e => ?_)]
    · exact a3
    · rw [← e] at a4; lia
    · rw [← e] at a4; lia
  · intro e
    obtain ⟨d1, d2⟩ := S.dead e
    refine ⟨d1, fun q j v hq hj hv hA => ?_⟩
    have fin : ∀ u, tried.getD u 0 = (wy ways u).length ∨ u = place → ((tried.set place (wy ways place).length).set B (tried.getD B 0 + 1)).getD u 0 = (wy ways u).length := by
      intro u hu
      rw [T]
      by_cases e1 : B = u
      · subst e1
        rcases hu with hu | hu
        · lia
        · exact absurd hu hbp
      · rw [if_neg e1]
        by_cases e2 : place = u
        · subst e2; rw [if_pos rfl]
        · rw [if_neg e2]
          rcases hu with hu | hu
          · exact hu
          · exact absurd hu.symm e2
    rw [T] at hj
    by_cases e1 : B = q
    · subst e1
      rw [if_pos rfl] at hj
      by_cases h3 : j < tried.getD B 0
      · obtain ⟨k1, k2⟩ := d2 _ j v hq h3 hv hA
        exact ⟨k1, fin _ (.inl k2)⟩
      · have hj2 : j = tried.getD B 0 := by lia
        subst hj2
        rw [wt] at hv
        cases hv
        refine ⟨fun e => ?_, fin _ (.inr c2)⟩
        rw [c2] at e
        rw [e, hg0] at fpos
        lia
    · rw [if_neg e1] at hj
      by_cases e2 : place = q
      · subst e2
        rw [if_pos rfl] at hj
        by_cases h3 : j < tried.getD place 0
        · obtain ⟨k1, k2⟩ := d2 _ j v hq h3 hv hA
          exact ⟨k1, fin _ (.inl k2)⟩
        · exact absurd hA (hno j v (by lia) hv)
      · rw [if_neg e2] at hj
        obtain ⟨k1, k2⟩ := d2 _ j v hq hj hv hA
        exact ⟨k1, fin _ (.inl k2)⟩
theorem srch_some (S : Srch m goals ways far origin goal rooms0 rooms tried path origin pushed) (B : Bfs goals rooms0 ways origin goal far)
    (hno : ∀ (j v : Nat), tried.getD origin 0 ≤ j → (wy ways origin)[j]? = some v → ¬ Adm goals rooms far origin v) : 0 < pushed := by
  have hp0 := S.p0
  by_cases hp : pushed = 0
  · exfalso
    obtain ⟨d1, d2⟩ := S.dead hp
    subst d1
    have all : ∀ (k : Nat) (q : Nat), q < ways.length → far.getD q 0 = (k : Int) + 1 → (∀ (i w : Nat), (wy ways q)[i]? = some w → Adm goals rooms far q w → goals.getD w 0 ≠ goal ∧ tried.getD (goals.getD w 0) 0 = (wy ways (goals.getD w 0)).length) → False := by
      intro k
      induction k with
      | zero =>
        intro q hq hk h
        refine Ea.x1_3 (B.step q 0 hq hk) fun w w1 w2 w3 => ?_
        obtain ⟨i, hi⟩ := List.mem_iff_getElem?.mp w1
        have gN := S.fit.gN w (S.fit.wo q w w1).1
        exact (h i w hi ⟨by rw [w3, hk]; simp, w2⟩).1 (B.zero _ gN w3)
      | succ k ih =>
        intro q hq hk h
        refine Ea.x1_3 (B.step q (k + 1) hq hk) fun w w1 w2 w3 => ?_
        obtain ⟨i, hi⟩ := List.mem_iff_getElem?.mp w1
        have gN := S.fit.gN w (S.fit.wo q w w1).1
        have ht := (h i w hi ⟨by rw [w3, hk]; lia, w2⟩).2
        refine ih _ gN (by rw [w3]; rfl) fun j v hv hA => d2 _ j v gN ?_ hv hA
        rw [ht]
        exact (List.getElem?_eq_some_iff.mp hv).1
    have fpos := S.fpos
    obtain ⟨k, hk⟩ : ∃ k : Nat, far.getD origin 0 = (k : Int) + 1 := ⟨(far.getD origin 0 - 1).toNat, by lia⟩
    refine all k origin S.plc hk fun i w hi hA => ?_
    by_cases h3 : i < tried.getD origin 0
    · exact d2 origin i w S.plc h3 hi hA
    · exact absurd hA (hno i w (by lia) hi)
  · lia
noncomputable def slk (ways : List (List Nat)) (tried : List Nat) : Int := sumN ways.length fun q => ((wy ways q).length : Int) - (tried.getD q 0 : Int)
theorem slk_nn (h : ∀ q, q < ways.length → tried.getD q 0 ≤ (wy ways q).length) : 0 ≤ slk ways tried := by
  have z : sumN ways.length (fun _ => (0 : Int)) = 0 := sumN_zero fun _ _ => rfl
  rw [slk, ← z]
  exact sumN_le fun q hq => by have := h q hq; lia
theorem slk_set {p v : Nat} (hp : p < ways.length) (hl : tried.length = ways.length) : slk ways (tried.set p v) = slk ways tried + ((tried.getD p 0 : Int) - (v : Int)) := by
  unfold slk
  rw [sumN_chg (k := p) (g := fun q => ((wy ways q).length : Int) - (tried.getD q 0 : Int)) hp fun i hi hne => by rw [setN_get, if_neg (fun q => hne q.1.symm)]]
  rw [setN_get, if_pos ⟨rfl, by lia⟩]
  lia
end
end Mg
end
section
set_option autoImplicit false
set_option maxHeartbeats 1000000
namespace Mg
open Ks176 (Went)
structure Good (s : Ks176.Abs) : Prop where
  wf : Wf s.tanks s.went
  crs : ∃ ks x, Crs s.tanks s.went ks x
theorem good_none (n : Nat) : Good ⟨n, []⟩ := ⟨.nil, [], _, .nil⟩
theorem act_in {n : Nat} {l : List Went} (G : Good ⟨n, l⟩) {t a lo hi : Nat} (h : ¬ (n ≤ t ∨ a = 0 ∨ Ks175.AMOUNT < a ∨ hi < lo ∨ a < hi)) (hm : ¬ Ks175.MANY ≤ l.length) :
    Ks176.act ⟨n, l⟩ (.in_ t a lo hi) = (⟨n, l ++ [.went (.in_ t a lo hi)]⟩, Ks176.say l.length) ∧ Good ⟨n, l ++ [.went (.in_ t a lo hi)]⟩ := by
  refine Ea.x2_1 G.crs fun ks x hc => ?_
  have hc' : Crs n (l ++ [.went (.in_ t a lo hi)]) (ks ++ [lo]) (Ks175.add x t lo) := .snoc hc ⟨Nat.le_refl _, by lia, rfl⟩
  refine ⟨?_, wf_snoc.mpr ⟨G.wf, show t < n by lia, by lia⟩, _, _, hc'⟩
  have hcan : Ks176.Abs.can ⟨n, l ++ [.went (.in_ t a lo hi)]⟩ = true := can_iff.mpr ⟨_, _, hc'⟩
  simp only [Ks176.act, if_neg h, Ks176.Abs.goes, if_neg hm]
  rw [if_pos hcan]
theorem act_pour {n : Nat} {l : List Went} (G : Good ⟨n, l⟩) {f t a : Nat} (h : ¬ (n ≤ f ∨ n ≤ t ∨ f = t ∨ a = 0)) (hh : ¬ (gr n l).getD f 0 < a) (hm : ¬ Ks175.MANY ≤ l.length) :
    Ks176.act ⟨n, l⟩ (.pour f t a) = (⟨n, l ++ [.went (.pour f t a)]⟩, Ks176.say l.length) ∧ Good ⟨n, l ++ [.went (.pour f t a)]⟩ := by
  refine Ea.x2_1 G.crs fun ks x hc => ?_
  have hle : x.getD f 0 ≤ (gr n l).getD f 0 := hc.le G.wf f
  have hc' : Crs n (l ++ [.went (.pour f t a)]) (ks ++ [min a (x.getD f 0)]) _ := .snoc hc ⟨by lia, by lia, by lia, rfl⟩
  refine ⟨?_, wf_snoc.mpr ⟨G.wf, show f < n by lia, show t < n by lia, by lia, show a ≤ (gr n l).getD f 0 by lia⟩, _, _, hc'⟩
  have hcan : Ks176.Abs.can ⟨n, l ++ [.went (.pour f t a)]⟩ = true := can_iff.mpr ⟨_, _, hc'⟩
  have hh' : ¬ Ks176.Abs.has ⟨n, l⟩ f < a := hh
  simp only [Ks176.act, if_neg h, if_neg hh', Ks176.Abs.goes, if_neg hm]
  rw [if_pos hcan]
theorem act_found_yes {n : Nat} {l : List Went} (G : Good ⟨n, l⟩) {t lo hi : Nat} (h : ¬ (n ≤ t ∨ hi < lo)) (hm : ¬ Ks175.MANY ≤ l.length) {ks x : List Nat} (hc : Crs n l ks x) (h1 : lo ≤ x.getD t 0) (h2 : x.getD t 0 ≤ hi) :
    Ks176.act ⟨n, l⟩ (.found t lo hi) = (⟨n, l ++ [.found t lo hi]⟩, Ks176.say l.length) ∧ Good ⟨n, l ++ [.found t lo hi]⟩ := by
  have hc' : Crs n (l ++ [.found t lo hi]) (ks ++ [0]) x := .snoc hc ⟨rfl, h1, h2, rfl⟩
  refine ⟨?_, wf_snoc.mpr ⟨G.wf, by show t < n; lia⟩, _, _, hc'⟩
  have hcan : Ks176.Abs.can ⟨n, l ++ [.found t lo hi]⟩ = true := can_iff.mpr ⟨_, _, hc'⟩
  simp only [Ks176.act, if_neg h, Ks176.Abs.goes, if_neg hm]
  rw [if_pos hcan]
theorem act_found_no {n : Nat} {l : List Went} {t lo hi : Nat} (h : ¬ (n ≤ t ∨ hi < lo)) (hm : ¬ Ks175.MANY ≤ l.length) (hno : ∀ ks x, Crs n l ks x → ¬ (lo ≤ x.getD t 0 ∧ x.getD t 0 ≤ hi)) :
    Ks176.act ⟨n, l⟩ (.found t lo hi) = (⟨n, l⟩, Ks176.say (-74)) := by
  have hcan : ¬ Ks176.Abs.can ⟨n, l ++ [.found t lo hi]⟩ = true := fun q => by
    refine Ea.x2_1 (can_iff.mp q) fun ks' y hc' => ?_
    refine Ea.x3_6 (crs_snoc.mp hc') fun ks k x _ hc _ h1 h2 _ => ?_
    exact hno ks x hc ⟨h1, h2⟩
  simp only [Ks176.act, if_neg h, Ks176.Abs.goes, if_neg hm]
  rw [if_neg hcan]
theorem narrow_at {n : Nat} {l : List Went} {k lo hi : Nat} {e : Went} (h : l[k]? = some e) : Ks176.Abs.narrow ⟨n, l⟩ k lo hi = (Ks176.narrowed lo hi e).map fun f => ⟨n, l.set k f⟩ := by
  simp only [Ks176.Abs.narrow, h, Option.bind_some]
theorem act_narrow_yes {n : Nat} {l : List Went} (G : Good ⟨n, l⟩) {k lo' hi' t a lo hi : Nat} (hk : l[k]? = some (.went (.in_ t a lo hi))) (h : ¬ hi' < lo') {ks x : List Nat} {v : Nat} (hc : Crs n l ks x) (hv : ks[k]? = some v) (h1 : lo' ≤ v) (h2 : v ≤ hi') :
    Ks176.act ⟨n, l⟩ (.narrow k lo' hi') = (⟨n, l.set k (.went (.in_ t a (max lo lo') (min hi hi')))⟩, Ks176.say 0) ∧ Good ⟨n, l.set k (.went (.in_ t a (max lo lo') (min hi hi')))⟩ := by
  have hc' := (crs_set (n := n) l hk (lo' := lo') (hi' := hi')).mpr ⟨hc, v, hv, h1, h2⟩
  refine ⟨?_, wf_set (Nat.min_le_left _ _) l hk G.wf, _, _, hc'⟩
  have hcan : Ks176.Abs.can ⟨n, l.set k (.went (.in_ t a (max lo lo') (min hi hi')))⟩ = true := can_iff.mpr ⟨_, _, hc'⟩
  simp only [Ks176.act, if_neg h, narrow_at hk, Ks176.narrowed, Option.map_some]
  rw [if_pos hcan]
theorem act_narrow_no {n : Nat} {l : List Went} {k lo' hi' t a lo hi : Nat} (hk : l[k]? = some (.went (.in_ t a lo hi))) (h : ¬ hi' < lo') (hno : ∀ (ks x : List Nat) (v : Nat), Crs n l ks x → ks[k]? = some v → ¬ (lo' ≤ v ∧ v ≤ hi')) :
    Ks176.act ⟨n, l⟩ (.narrow k lo' hi') = (⟨n, l⟩, Ks176.say (-74)) := by
  have hcan : ¬ Ks176.Abs.can ⟨n, l.set k (.went (.in_ t a (max lo lo') (min hi hi')))⟩ = true := fun q => by
    refine Ea.x2_1 (can_iff.mp q) fun ks x hc' => ?_
    obtain ⟨hc, v, hv, h1, h2⟩ := (crs_set l hk).mp hc'
    exact hno ks x v hc hv ⟨h1, h2⟩
  simp only [Ks176.act, if_neg h, narrow_at hk, Ks176.narrowed, Option.map_some]
  rw [if_neg hcan]
theorem act_narrow_22 {n : Nat} {l : List Went} {k lo' hi' : Nat} (h : hi' < lo' ∨ ∀ t a lo hi, l[k]? ≠ some (.went (.in_ t a lo hi))) : Ks176.act ⟨n, l⟩ (.narrow k lo' hi') = (⟨n, l⟩, Ks176.say (-22)) := by
  by_cases h1 : hi' < lo'
  · simp only [Ks176.act, if_pos h1]
  · have h := h.resolve_left h1
    have e : Ks176.Abs.narrow ⟨n, l⟩ k lo' hi' = none := by
      cases q : l[k]? with
      | none => simp only [Ks176.Abs.narrow, q, Option.bind_none]
      | some e =>
        rw [narrow_at q]
        cases e with
        | found _ _ _ => rfl
        | went e =>
          cases e with
          | in_ t a lo hi => exact absurd q (h t a lo hi)
          | pour _ _ _ => rfl
    simp only [Ks176.act, if_neg h1, e]
theorem whole_no {p : Int} {t : List Int} {r : List (List Int)} (h0 : ¬ p = 0) (h1 : ¬ p = 1) (h2 : ¬ p = 2) (h3 : ¬ p = 3) (h4 : ¬ p = 4) (h5 : ¬ p = 5) (h6 : ¬ p = 6) (h7 : ¬ p = 7) : PyKs176.whole ((p :: t) :: r) = (p :: t) :: r := by
  delta PyKs176.whole PyKs176.whole.match_1
  exact (dif_neg h0).trans ((dif_neg h1).trans ((dif_neg h2).trans ((dif_neg h3).trans ((dif_neg h4).trans ((dif_neg h5).trans ((dif_neg h6).trans (dif_neg h7)))))))
theorem whole_1 {p : Int} (h : p = 0 ∨ p = 5 ∨ p = 6 ∨ p = 7) : ∀ (t : List Int) (r : List (List Int)), PyKs176.whole ((p :: t) :: r) = (p :: t) :: r := by
  rcases h with rfl | rfl | rfl | rfl <;> intro t r <;> rcases t with _ | ⟨_, _ | _⟩ <;> try rfl
  all_goals cases r <;> rfl
theorem whole_3 {p : Int} (h : p = 2 ∨ p = 3 ∨ p = 4) : ∀ (t : List Int) (r : List (List Int)), PyKs176.whole ((p :: t) :: r) = (p :: t) :: r := by
  rcases h with rfl | rfl | rfl <;> intro t r <;> rcases t with _ | ⟨_, _ | ⟨_, _ | ⟨_, _ | _⟩⟩⟩ <;> try rfl
  all_goals cases r <;> rfl
theorem whole_4 (t : List Int) (r : List (List Int)) : PyKs176.whole ((1 :: t) :: r) = (1 :: t) :: r := by
  rcases t with _ | ⟨_, _ | ⟨_, _ | ⟨_, _ | ⟨_, _ | _⟩⟩⟩⟩ <;> try rfl
  cases r <;> rfl
theorem whole_id (c : List (List Int)) : PyKs176.whole c = c := by
  rcases c with _ | ⟨_ | ⟨p, t⟩, r⟩
  · rfl
  · rfl
  · by_cases a : p = 0 ∨ p = 5 ∨ p = 6 ∨ p = 7
    · exact whole_1 a t r
    · by_cases b : p = 2 ∨ p = 3 ∨ p = 4
      · exact whole_3 b t r
      · by_cases e : p = 1
        · subst e; exact whole_4 t r
        · exact whole_no (fun h => a (.inl h)) e (fun h => b (.inl h)) (fun h => b (.inr (.inl h))) (fun h => b (.inr (.inr h))) (fun h => a (.inr (.inl h))) (fun h => a (.inr (.inr (.inl h)))) (fun h => a (.inr (.inr (.inr h))))
theorem nl1 : ∀ {l : List Nat}, l.length = 1 → ∃ a, l = [a]
  | [a], _ => ⟨a, rfl⟩
theorem nl3 {l : List Nat} (h : l.length = 3) : ∃ a b c, l = [a, b, c] := by
  obtain ⟨a, r, rfl⟩ := List.exists_cons_of_length_eq_add_one h
  obtain ⟨b, r, rfl⟩ := List.exists_cons_of_length_eq_add_one (Nat.succ.inj h)
  obtain ⟨c, rfl⟩ := nl1 (Nat.succ.inj (Nat.succ.inj h))
  exact ⟨a, b, c, rfl⟩
theorem nl4 {l : List Nat} (h : l.length = 4) : ∃ a b c d, l = [a, b, c, d] := by
  obtain ⟨a, r, rfl⟩ := List.exists_cons_of_length_eq_add_one h
  obtain ⟨b, c, d, rfl⟩ := nl3 (Nat.succ.inj h)
  exact ⟨a, b, c, d, rfl⟩

theorem calls_eq (l : List Int) : PyKs176.calls l = PyFlat.calls PyKs176.shape l.length l := by
  unfold PyKs176.calls
  cases h : PyFlat.calls PyKs176.shape l.length l with
  | none => rfl
  | some cs => simp only [Option.some.injEq]; exact (List.map_congr_left fun c _ => whole_id c).trans (List.map_id _)
noncomputable def nums (p : Int) : Nat := if p = 0 then 1 else if p = 1 then 4 else if p = 2 then 3 else if p = 3 then 3 else if p = 4 then 3 else 1
theorem shape_is {p : Int} {n k : Nat} (h : PyKs176.shape p = some (n, k)) : (0 ≤ p ∧ p ≤ 7) ∧ n = nums p ∧ k = 0 := by
  unfold PyKs176.shape at h
  unfold nums
  repeat' split at h
  all_goals first
    | (cases h; subst_vars; decide)
    | cases h
theorem calls_step {f : Nat} {p : Int} {r : List Int} {cs : List (List (List Int))} (h : PyFlat.calls PyKs176.shape (f + 1) (p :: r) = some cs) :
    (0 ≤ p ∧ p ≤ 7) ∧ nums p ≤ r.length ∧ ∃ cs', cs = [p :: r.take (nums p)] :: cs' ∧ PyFlat.calls PyKs176.shape f (r.drop (nums p)) = some cs' := by
  unfold PyFlat.calls PyFlat.call at h
  cases hs : PyKs176.shape p with
  | none => simp only [hs] at h; cases h
  | some nk =>
    obtain ⟨n, k⟩ := nk
    refine Ea.a3 (shape_is hs) fun h1 qz42 qz43 => ?_; subst qz42; subst qz43
    simp only [hs] at h
    by_cases hl : r.length < nums p
    · simp only [if_pos hl] at h; cases h
    · simp only [if_neg hl, PyFlat.rows] at h
      cases hc : PyFlat.calls PyKs176.shape f (r.drop (nums p)) with
      | none => rw [hc] at h; cases h
      | some cs' =>
        rw [hc] at h
        exact ⟨h1, by lia, cs', (Option.some.inj h).symm, rfl⟩
theorem calls_nil {f : Nat} {cs : List (List (List Int))} (h : PyFlat.calls PyKs176.shape f [] = some cs) : cs = [] := by
  cases f <;> (unfold PyFlat.calls at h; exact (Option.some.inj h).symm)
end Mg
end
section
set_option autoImplicit false
set_option maxHeartbeats 1000000
namespace Mg
open Ks176 (Went)
structure Sk (n m N : Nat) (g : Nat → Nat) (W : Nat → List Nat) (O : Nat → Nat) (ks : List Nat) : Prop where
  N2 : 2 ≤ N
  gN : ∀ w, w < 2 * m → g w < N
  wi : ∀ w, w < 2 * m → 2 ≤ g (w ^^^ 1) → w ∈ W (g (w ^^^ 1))
  wo : ∀ p w, 2 ≤ p → w ∈ W p → w < 2 * m ∧ g (w ^^^ 1) = p
  nd : ∀ p, 2 ≤ p → (W p).Nodup
  oe : ∀ t, t < n → ∃ e, e < m ∧ O t = 2 * e ∧ g (2 * e) < 2 ∧ 2 ≤ g (2 * e + 1)
  oi : ∀ s t, s < n → t < n → O s = O t → s = t
  kn : ks.Nodup
  ke : ∀ w, w ∈ ks → ∃ e, e < m ∧ w = 2 * e ∧ g (2 * e + 1) = 0 ∧ 2 ≤ g (2 * e)
  lo : ∀ w, w < 2 * m → g (w ^^^ 1) < 2 → w ∈ ks ∨ ∃ t, t < n ∧ w = O t + 1
  cap : ∀ p, (W p).length ≤ 2 * m
theorem lt2 {w m : Nat} (h : w < 2 * (m + 1)) : w < 2 * m ∨ w = 2 * m ∨ w = 2 * m + 1 := by lia
theorem nodup_snoc {l : List Nat} {a : Nat} (h : l.Nodup) (ha : a ∉ l) : (l ++ [a]).Nodup := by
  rw [List.nodup_append]
  refine ⟨h, by simp, fun x hx y hy => ?_⟩
  rw [List.mem_singleton] at hy
  subst hy
  exact fun e => ha (e ▸ hx)
theorem iflen {c : Prop} [Decidable c] {a : Nat} : (if c then [a] else []).length ≤ 1 := by split <;> simp
section
variable {n m N : Nat} {g g' : Nat → Nat} {W W' : Nat → List Nat} {O O' : Nat → Nat} {ks : List Nat}
theorem Sk.come (K : Sk n m N g W O ks) {p : Nat} (hp : 2 ≤ p) (hpN : p < N) (eg : ∀ w, w < 2 * m → g' w = g w) (eg0 : g' (2 * m) = p) (eg1 : g' (2 * m + 1) = 0)
    (eW : ∀ x, x < N → W' x = W x ++ (if x = 0 then [2 * m] else []) ++ (if x = p then [2 * m + 1] else [])) (eWo : ∀ x, N ≤ x → W' x = W x) : Sk n (m + 1) N g' W' O (ks ++ [2 * m]) := by
  have x0 := xor1_even m
  have x1 := xor1_odd m
  have eW2 : ∀ x, 2 ≤ x → W' x = W x ++ (if x = p then [2 * m + 1] else []) := by
    intro x hx
    by_cases h : x < N
    · rw [eW x h, if_neg (show ¬ x = 0 by lia), List.append_nil]
    · rw [eWo x (by lia), if_neg (show ¬ x = p by lia), List.append_nil]
  refine ⟨K.N2, ?_, ?_, ?_, ?_, ?_, K.oi, ?_, ?_, ?_, ?_⟩
  · intro w hw
    rcases lt2 hw with h | rfl | rfl
    · rw [eg w h]; exact K.gN w h
    · rw [eg0]; exact hpN
    · rw [eg1]; have := K.N2; lia
  · intro w hw h2
    rcases lt2 hw with h | rfl | rfl
    · rw [eg _ (xor1_lt h)] at h2 ⊢
      rw [eW2 _ h2]
      exact List.mem_append_left _ (K.wi w h h2)
    · rw [x0, eg1] at h2; lia
    · rw [x1, eg0, eW2 p hp, if_pos rfl]
      exact List.mem_append_right _ (by simp)
  · intro q w hq hw
    rw [eW2 q hq, List.mem_append] at hw
    rcases hw with hw | hw
    · obtain ⟨a, b⟩ := K.wo q w hq hw
      exact ⟨by lia, by rw [eg _ (xor1_lt a)]; exact b⟩
    · by_cases e : q = p
      · rw [if_pos e, List.mem_singleton] at hw
        subst hw
        exact ⟨by lia, by rw [x1, eg0, e]⟩
      · rw [if_neg e] at hw; cases hw
  · intro q hq
    rw [eW2 q hq]
    by_cases e : q = p
    · rw [if_pos e]
      exact nodup_snoc (K.nd q hq) fun h => by have := (K.wo q _ hq h).1; lia
    · rw [if_neg e, List.append_nil]; exact K.nd q hq
  · intro t ht
    refine Ea.x1_4 (K.oe t ht) fun e a b c d => ?_
    exact ⟨e, by lia, b, by rw [eg _ (by lia)]; exact c, by rw [eg _ (by lia)]; exact d⟩
  · exact nodup_snoc K.kn fun h => by obtain ⟨e, a, b, _⟩ := K.ke _ h; lia
  · intro w hw
    rw [List.mem_append, List.mem_singleton] at hw
    rcases hw with hw | rfl
    · refine Ea.x1_4 (K.ke w hw) fun e a b c d => ?_
      exact ⟨e, by lia, b, by rw [eg _ (by lia)]; exact c, by rw [eg _ (by lia)]; exact d⟩
    · exact ⟨m, by lia, rfl, eg1, by rw [eg0]; exact hp⟩
  · intro w hw h2
    rcases lt2 hw with h | rfl | rfl
    · rw [eg _ (xor1_lt h)] at h2
      rcases K.lo w h h2 with a | a
      · exact .inl (List.mem_append_left _ a)
      · exact .inr a
    · exact .inl (by simp)
    · rw [x1, eg0] at h2; lia
  · intro q
    have := K.cap q
    by_cases h : q < N
    · rw [eW q h, List.length_append, List.length_append]
      have h1 := iflen (c := q = 0) (a := 2 * m)
      have h2 := iflen (c := q = p) (a := 2 * m + 1)
      lia
    · rw [eWo q (by lia)]; lia
theorem Sk.mid (K : Sk n m N g W O ks) {p q : Nat} (hp : 2 ≤ p) (hpN : p < N) (hq : 2 ≤ q) (hqN : q < N) (eg : ∀ w, w < 2 * m → g' w = g w) (eg0 : g' (2 * m) = q) (eg1 : g' (2 * m + 1) = p)
    (eW : ∀ x, x < N → W' x = W x ++ (if x = p then [2 * m] else []) ++ (if x = q then [2 * m + 1] else [])) (eWo : ∀ x, N ≤ x → W' x = W x) : Sk n (m + 1) N g' W' O ks := by
  have x0 := xor1_even m
  have x1 := xor1_odd m
  have eW2 : ∀ x, W' x = W x ++ (if x = p then [2 * m] else []) ++ (if x = q then [2 * m + 1] else []) := by
    intro x
    by_cases h : x < N
    · exact eW x h
    · rw [eWo x (by lia), if_neg (show ¬ x = p by lia), if_neg (show ¬ x = q by lia), List.append_nil, List.append_nil]
  refine ⟨K.N2, ?_, ?_, ?_, ?_, ?_, K.oi, K.kn, ?_, ?_, ?_⟩
  · intro w hw
    rcases lt2 hw with h | rfl | rfl
    · rw [eg w h]; exact K.gN w h
    · rw [eg0]; exact hqN
    · rw [eg1]; exact hpN
  · intro w hw h2
    rcases lt2 hw with h | rfl | rfl
    · rw [eg _ (xor1_lt h)] at h2 ⊢
      rw [eW2]
      exact List.mem_append_left _ (List.mem_append_left _ (K.wi w h h2))
    · rw [x0, eg1, eW2, if_pos rfl]
      exact List.mem_append_left _ (List.mem_append_right _ (by simp))
    · rw [x1, eg0, eW2]
      refine List.mem_append_right _ ?_
      rw [if_pos rfl]; simp
  · intro x w hx hw
    rw [eW2, List.mem_append, List.mem_append] at hw
    rcases hw with (hw | hw) | hw
    · obtain ⟨a, b⟩ := K.wo x w hx hw
      exact ⟨by lia, by rw [eg _ (xor1_lt a)]; exact b⟩
    · by_cases e : x = p
      · rw [if_pos e, List.mem_singleton] at hw
        subst hw
        exact ⟨by lia, by rw [x0, eg1, e]⟩
      · rw [if_neg e] at hw; cases hw
    · by_cases e : x = q
      · rw [if_pos e, List.mem_singleton] at hw
        subst hw
        exact ⟨by lia, by rw [x1, eg0, e]⟩
      · rw [if_neg e] at hw; cases hw
  · intro x hx
    rw [eW2]
    have h1 : (W x ++ (if x = p then [2 * m] else [])).Nodup := by
      by_cases e : x = p
      · rw [if_pos e]
        exact nodup_snoc (K.nd x hx) fun h => by have := (K.wo x _ hx h).1; lia
      · rw [if_neg e, List.append_nil]; exact K.nd x hx
    by_cases e : x = q
    · rw [if_pos e]
      refine nodup_snoc h1 fun h => ?_
      rw [List.mem_append] at h
      rcases h with h | h
      · have := (K.wo x _ hx h).1; lia
      · split at h
        · rw [List.mem_singleton] at h; lia
        · cases h
    · rw [if_neg e, List.append_nil]; exact h1
  · intro t ht
    refine Ea.x1_4 (K.oe t ht) fun e a b c d => ?_
    exact ⟨e, by lia, b, by rw [eg _ (by lia)]; exact c, by rw [eg _ (by lia)]; exact d⟩
  · intro w hw
    refine Ea.x1_4 (K.ke w hw) fun e a b c d => ?_
    exact ⟨e, by lia, b, by rw [eg _ (by lia)]; exact c, by rw [eg _ (by lia)]; exact d⟩
  · intro w hw h2
    rcases lt2 hw with h | rfl | rfl
    · rw [eg _ (xor1_lt h)] at h2
      exact K.lo w h h2
    · rw [x0, eg1] at h2; lia
    · rw [x1, eg0] at h2; lia
  · intro x
    have := K.cap x
    rw [eW2, List.length_append, List.length_append]
    have h1 := iflen (c := x = p) (a := 2 * m)
    have h2 := iflen (c := x = q) (a := 2 * m + 1)
    lia
theorem Sk.go (K : Sk n m N g W O ks) {t : Nat} (ht : t < n) (eg : ∀ w, w < 2 * m → w ≠ O t → g' w = g w) (egt : g' (O t) = N) (eg0 : g' (2 * m) = 0) (eg1 : g' (2 * m + 1) = N)
    (eW : ∀ x, 2 ≤ x → x < N → W' x = W x) (eW0 : W' 0 = W 0 ++ [2 * m + 1]) (eW1 : W' 1 = W 1) (eWN : W' N = [O t ^^^ 1, 2 * m]) (eWo : ∀ x, N < x → W' x = [])
    (eO : ∀ s, s < n → s ≠ t → O' s = O s) (eOt : O' t = 2 * m) : Sk n (m + 1) (N + 1) g' W' O' ks := by
  have x0 := xor1_even m
  have x1 := xor1_odd m
  have N2 := K.N2
  refine Ea.x1_4 (K.oe t ht) fun e ea eb ec ed => ?_
  have ox : O t ^^^ 1 = 2 * e + 1 := by rw [eb, xor1_even]
  have ox2 : (2 * e + 1) ^^^ 1 = 2 * e := xor1_odd e
  rw [eb] at eg egt
  have ogt : ∀ w, w < 2 * m → w ≠ 2 * e + 1 → g' (w ^^^ 1) = g (w ^^^ 1) := fun w hw h => eg _ (xor1_lt hw) (fun q => h (by rw [← xor1_xor1 w, q, xor1_even]))
  have oth : ∀ s, s < n → s ≠ t → ∃ e', e' < m ∧ O s = 2 * e' ∧ g (2 * e') < 2 ∧ 2 ≤ g (2 * e' + 1) ∧ e' ≠ e := by
    intro s hs hne
    refine Ea.x1_4 (K.oe s hs) fun e' a b c d => ?_
    exact ⟨e', a, b, c, d, fun q => hne (K.oi s t hs ht (by rw [b, eb, q]))⟩
  refine ⟨by lia, ?_, ?_, ?_, ?_, ?_, ?_, K.kn, ?_, ?_, ?_⟩
  · intro w hw
    rcases lt2 hw with h | rfl | rfl
    · by_cases q : w = 2 * e
      · subst q; rw [egt]; lia
      · rw [eg w h q]; have := K.gN w h; lia
    · rw [eg0]; lia
    · rw [eg1]; lia
  · intro w hw h2
    rcases lt2 hw with h | rfl | rfl
    · by_cases q : w = 2 * e + 1
      · subst q; rw [ox2, egt, eWN, ox]; simp
      · rw [ogt w h q] at h2 ⊢
        have := K.gN _ (xor1_lt h)
        rw [eW _ h2 this]; exact K.wi w h h2
    · rw [x0, eg1, eWN]; simp
    · rw [x1, eg0] at h2; lia
  · intro p w hp hw
    by_cases hN : p < N
    · rw [eW p hp hN] at hw
      obtain ⟨a, b⟩ := K.wo p w hp hw
      have q : w ≠ 2 * e + 1 := by
        rintro rfl
        rw [ox2] at b; lia
      exact ⟨by lia, by rw [ogt w a q]; exact b⟩
    · by_cases hN2 : p = N
      · subst hN2
        rw [eWN, ox] at hw
        rcases List.mem_cons.mp hw with rfl | hw
        · exact ⟨by lia, by rw [ox2, egt]⟩
        · rw [List.mem_singleton] at hw
          subst hw
          exact ⟨by lia, by rw [x0, eg1]⟩
      · rw [eWo p (by lia)] at hw; cases hw
  · intro p hp
    by_cases hN : p < N
    · rw [eW p hp hN]; exact K.nd p hp
    · by_cases hN2 : p = N
      · subst hN2
        rw [eWN, ox]; simp; lia
      · rw [eWo p (by lia)]; exact List.nodup_nil
  · intro s hs
    by_cases q : s = t
    · subst q
      exact ⟨m, by lia, eOt, by rw [eg0]; lia, by rw [eg1]; lia⟩
    · refine Ea.x1_5 (oth s hs q) fun e' a b c d f => ?_
      refine ⟨e', by lia, by rw [eO s hs q]; exact b, ?_, ?_⟩
      · rw [eg _ (by lia) (by lia)]; exact c
      · rw [eg _ (by lia) (by lia)]; exact d
  · intro s s' hs hs' h
    by_cases q : s = t <;> by_cases q' : s' = t
    · rw [q, q']
    · subst q
      refine Ea.x1_3 (oth s' hs' q') fun e' a b _ => ?_
      rw [eOt, eO s' hs' q'] at h; lia
    · subst q'
      refine Ea.x1_3 (oth s hs q) fun e' a b _ => ?_
      rw [eOt, eO s hs q] at h; lia
    · rw [eO s hs q, eO s' hs' q'] at h; exact K.oi s s' hs hs' h
  · intro w hw
    refine Ea.x1_4 (K.ke w hw) fun e' a b c d => ?_
    refine ⟨e', by lia, b, by rw [eg _ (by lia) (by lia)]; exact c, ?_⟩
    by_cases q : e' = e
    · subst q; lia
    · rw [eg _ (by lia) (by lia)]; exact d
  · intro w hw h2
    rcases lt2 hw with h | rfl | rfl
    · by_cases q : w = 2 * e + 1
      · subst q; rw [ox2, egt] at h2; lia
      · rw [ogt w h q] at h2
        rcases K.lo w h h2 with a | ⟨s, a, b⟩
        · exact .inl a
        · by_cases z : s = t
          · subst z; lia
          · exact .inr ⟨s, a, by rw [eO s a z]; exact b⟩
    · rw [x0, eg1] at h2; lia
    · exact .inr ⟨t, ht, by rw [eOt]⟩
  · intro p
    by_cases h0 : p = 0
    · subst h0; rw [eW0, List.length_append, List.length_singleton]; have := K.cap 0; lia
    · by_cases h1 : p = 1
      · subst h1; rw [eW1]; have := K.cap 1; lia
      · by_cases hN : p < N
        · rw [eW p (by lia) hN]; have := K.cap p; lia
        · by_cases hN2 : p = N
          · subst hN2; rw [eWN]; simp; lia
          · rw [eWo p (by lia)]; simp
end
end Mg
end
section
set_option autoImplicit false
set_option maxHeartbeats 1000000
namespace Mg
open Ks176 (Went)
noncomputable def outsB (n : Nat) (O : Nat → Nat) (ch : Nat → Bool) (b : Bool) : List Nat := ((List.range n).filter fun t => ch t == b).map fun t => O t ^^^ 1
theorem mem_outsB {n : Nat} {O : Nat → Nat} {ch : Nat → Bool} {b : Bool} {w : Nat} : w ∈ outsB n O ch b ↔ ∃ t, t < n ∧ ch t = b ∧ w = O t ^^^ 1 := by
  unfold outsB
  rw [List.mem_map]
  constructor
  · intro qz45
    refine Ea.x1_2 qz45 fun t h qz46 => ?_; try clear qz45; subst qz46
    rw [List.mem_filter, List.mem_range, beq_iff_eq] at h
    exact ⟨t, h.1, h.2, rfl⟩
  · intro qz47
    refine Ea.x1_3 qz47 fun t h1 h2 qz48 => ?_; try clear qz47; subst qz48
    exact ⟨t, by rw [List.mem_filter, List.mem_range, beq_iff_eq]; exact ⟨h1, h2⟩, rfl⟩
theorem nodup_map {α β : Type} {l : List α} {f : α → β} (h : l.Nodup) (inj : ∀ a, a ∈ l → ∀ b, b ∈ l → f a = f b → a = b) : (l.map f).Nodup := by
  induction l with
  | nil => exact List.nodup_nil
  | cons a l ih =>
    rw [List.nodup_cons] at h
    rw [List.map_cons, List.nodup_cons]
    refine ⟨fun q => ?_, ih h.2 fun x hx y hy => inj x (List.mem_cons_of_mem _ hx) y (List.mem_cons_of_mem _ hy)⟩
    refine Ea.x1_2 (List.mem_map.mp q) fun b hb e => ?_
    have := inj b (List.mem_cons_of_mem _ hb) a (List.mem_cons_self ..) e
    exact h.1 (this ▸ hb)
theorem nodup_outsB {n : Nat} {O : Nat → Nat} {ch : Nat → Bool} {b : Bool} (oi : ∀ s t, s < n → t < n → O s = O t → s = t) : (outsB n O ch b).Nodup := by
  refine nodup_map (List.Pairwise.filter _ List.nodup_range) fun s hs t ht e => ?_
  rw [List.mem_filter, List.mem_range] at hs ht
  refine oi s t hs.1 ht.1 ?_
  have := congrArg (· ^^^ 1) e
  simpa [xor1_xor1] using this
noncomputable def ct (p : Nat) : Nat := if p = 1 then 0 else p
theorem ct_lt {p : Nat} (h : p < 2) : ct p = 0 := by unfold ct; split <;> lia
theorem ct_ge {p : Nat} (h : 2 ≤ p) : ct p = p := by unfold ct; split <;> lia
theorem ct_ne1 (p : Nat) : ct p ≠ 1 := by unfold ct; split <;> lia
section
variable {n m N : Nat} {g g' : Nat → Nat} {W W' : Nat → List Nat} {O O' : Nat → Nat} {ks : List Nat}
structure Prt (n m : Nat) (g g' : Nat → Nat) (W' : Nat → List Nat) (O : Nat → Nat) (ch : Nat → Bool) : Prop where
  wi : ∀ w, w < 2 * m → w ∈ W' (g' (w ^^^ 1))
  wo : ∀ p w, w ∈ W' p → w < 2 * m ∧ g' (w ^^^ 1) = p
  nd : ∀ p, (W' p).Nodup
  ctE : ∀ w, w < 2 * m → ct (g' w) = ct (g w)
  odd : ∀ e, e < m → g' (2 * e + 1) = g (2 * e + 1)
  out : ∀ t, t < n → g' (O t) = if ch t then 1 else 0
  evn : ∀ e, e < m → (∀ t, t < n → 2 * e ≠ O t) → g' (2 * e) = g (2 * e) ∧ 2 ≤ g (2 * e)
theorem len_le : ∀ {k : Nat} {l : List Nat}, l.Nodup → (∀ w, w ∈ l → w < k) → l.length ≤ k := by
  intro k
  induction k with
  | zero =>
    intro l _ h
    cases l with
    | nil => exact Nat.le_refl _
    | cons a l => have := h a (List.mem_cons_self ..); lia
  | succ k ih =>
    intro l hn h
    have := ih (l := l.erase k) (hn.erase k) fun w hw => by
      rw [hn.mem_erase_iff] at hw
      have := h w hw.2
      lia
    by_cases hk : k ∈ l
    · rw [List.length_erase_of_mem hk] at this; lia
    · rw [List.erase_of_not_mem hk] at this; lia
theorem Sk.part (K : Sk n m N g W O ks) (ch : Nat → Bool) (eg : ∀ w, w < 2 * m → (∀ t, t < n → w ≠ O t) → g' w = g w) (ego : ∀ t, t < n → g' (O t) = if ch t then 1 else 0)
    (eW : ∀ x, 2 ≤ x → W' x = W x) (eW0 : W' 0 = ks ++ outsB n O ch false) (eW1 : W' 1 = outsB n O ch true) : Sk n m N g' W' O ks ∧ Prt n m g g' W' O ch := by
  have odd : ∀ e, e < m → g' (2 * e + 1) = g (2 * e + 1) := fun e he => eg _ (by lia) fun t ht q => by
    refine Ea.x1_3 (K.oe t ht) fun e' a b _ => ?_
    lia
  have cas : ∀ w, w < 2 * m → (∃ t, t < n ∧ w = O t) ∨ ((∀ t, t < n → w ≠ O t) ∧ g' w = g w) := by
    intro w hw
    by_cases h : ∃ t, t < n ∧ w = O t
    · exact .inl h
    · have h2 : ∀ t, t < n → w ≠ O t := fun t ht e => h ⟨t, ht, e⟩
      exact .inr ⟨h2, eg w hw h2⟩
  have ox : ∀ t, t < n → O t ^^^ 1 = O t + 1 ∧ O t < 2 * m ∧ O t + 1 < 2 * m ∧ (O t + 1) ^^^ 1 = O t := by
    intro t ht
    refine Ea.x1_3 (K.oe t ht) fun e a b _ => ?_
    rw [b, xor1_even, xor1_odd]; exact ⟨rfl, by lia, by lia, rfl⟩
  have ctE : ∀ w, w < 2 * m → ct (g' w) = ct (g w) := by
    intro w hw
    rcases cas w hw with ⟨t, ht, rfl⟩ | ⟨_, e⟩
    · refine Ea.x1_4 (K.oe t ht) fun e a b c d => ?_
      rw [ego t ht, b, ct_lt c]
      split <;> rfl
    · rw [e]
  have wi : ∀ w, w < 2 * m → w ∈ W' (g' (w ^^^ 1)) := by
    intro w hw
    rcases cas _ (xor1_lt hw) with ⟨t, ht, q⟩ | ⟨h, e⟩
    · have hm : ∀ b, ch t = b → w ∈ outsB n O ch b := fun b hb => mem_outsB.mpr ⟨t, ht, hb, by rw [← q, xor1_xor1]⟩
      rw [q, ego t ht]
      cases hb : ch t
      · simp only [Bool.false_eq_true, if_false]; rw [eW0]; exact List.mem_append_right _ (hm _ hb)
      · simp only [if_true]; rw [eW1]; exact hm _ hb
    · rw [e]
      by_cases h2 : 2 ≤ g (w ^^^ 1)
      · rw [eW _ h2]; exact K.wi w hw h2
      · rcases K.lo w hw (by lia) with a | ⟨t, a, b⟩
        · refine Ea.x1_4 (K.ke w a) fun e' a1 a2 a3 _ => ?_
          rw [a2, xor1_even, a3, eW0, ← a2]
          exact List.mem_append_left _ a
        · exact absurd (by rw [b, (ox t a).2.2.2]) (h t a)
  have wo : ∀ p w, w ∈ W' p → w < 2 * m ∧ g' (w ^^^ 1) = p := by
    intro p w hw
    have outC : ∀ b, w ∈ outsB n O ch b → w < 2 * m ∧ g' (w ^^^ 1) = if b then 1 else 0 := by
      intro b hb
      refine Ea.x1_3 (mem_outsB.mp hb) fun t h1 h2 qz49 => ?_; subst qz49
      refine Ea.a4 (ox t h1) fun a1 a2 a3 a4 => ?_
      rw [xor1_xor1, ego t h1, h2]
      exact ⟨xor1_lt a2, rfl⟩
    by_cases h0 : p = 0
    · subst h0
      rw [eW0, List.mem_append] at hw
      rcases hw with hw | hw
      · refine Ea.x1_4 (K.ke w hw) fun e' a1 a2 a3 _ => ?_
        refine ⟨by lia, ?_⟩
        rw [a2, xor1_even, odd e' a1, a3]
      · exact outC false hw
    · by_cases h1 : p = 1
      · subst h1
        rw [eW1] at hw
        exact outC true hw
      · rw [eW p (by lia)] at hw
        obtain ⟨a, b⟩ := K.wo p w (by lia) hw
        refine ⟨a, ?_⟩
        rcases cas _ (xor1_lt a) with ⟨t, ht, q⟩ | ⟨_, e⟩
        · refine Ea.x1_4 (K.oe t ht) fun e a1 a2 a3 _ => ?_
          rw [q, a2] at b; lia
        · rw [e]; exact b
  have nd : ∀ p, (W' p).Nodup := by
    intro p
    by_cases h0 : p = 0
    · subst h0
      rw [eW0, List.nodup_append]
      refine ⟨K.kn, nodup_outsB K.oi, fun a ha b hb e => ?_⟩
      refine Ea.x1_3 (K.ke a ha) fun e' a1 a2 _ => ?_
      refine Ea.x1_3 (mem_outsB.mp hb) fun t h1 _ h3 => ?_
      refine Ea.x1_3 (K.oe t h1) fun e2 b1 b2 _ => ?_
      rw [b2, xor1_even] at h3
      lia
    · by_cases h1 : p = 1
      · subst h1; rw [eW1]; exact nodup_outsB K.oi
      · rw [eW p (by lia)]; exact K.nd p (by lia)
  refine ⟨⟨K.N2, ?_, fun w hw _ => wi w hw, fun p w _ => wo p w, fun p _ => nd p, ?_, K.oi, K.kn, ?_, ?_, ?_⟩, wi, wo, nd, ctE, odd, ego, ?_⟩
  · intro w hw
    rcases cas w hw with ⟨t, ht, rfl⟩ | ⟨_, e⟩
    · rw [ego t ht]; have := K.N2; split <;> lia
    · rw [e]; exact K.gN w hw
  · intro t ht
    refine Ea.x1_4 (K.oe t ht) fun e a b c d => ?_
    refine ⟨e, a, b, ?_, by rw [odd e a]; exact d⟩
    rw [← b, ego t ht]; split <;> lia
  · intro w hw
    refine Ea.x1_4 (K.ke w hw) fun e a b c d => ?_
    refine ⟨e, a, b, by rw [odd e a]; exact c, ?_⟩
    rw [eg _ (by lia) fun t ht q => ?_]
    · exact d
    · refine Ea.x1_4 (K.oe t ht) fun e2 b1 b2 b3 _ => ?_
      rw [← b2, ← q] at b3; lia
  · intro w hw h2
    rcases cas _ (xor1_lt hw) with ⟨t, ht, q⟩ | ⟨h, e⟩
    · right
      refine ⟨t, ht, ?_⟩
      rw [← (ox t ht).1, ← q, xor1_xor1]
    · rw [e] at h2; exact K.lo w hw h2
  · intro p
    exact len_le (nd p) fun w hw => (wo p w hw).1
  · intro e he h
    refine ⟨eg _ (by lia) h, ?_⟩
    by_cases h2 : 2 ≤ g (2 * e)
    · exact h2
    · exfalso
      rcases K.lo (2 * e + 1) (by lia) (by rw [xor1_odd]; lia) with a | ⟨t, a, b⟩
      · refine Ea.x1_3 (K.ke _ a) fun e' a1 a2 _ => ?_
        lia
      · exact h t a (by lia)
end
end Mg
end
section
set_option autoImplicit false
set_option maxHeartbeats 1000000
namespace Mg
open Ks176 (Went)
noncomputable def look (l : List (Nat × Int)) (k : Nat) : Option Int := (l.find? fun p => decide (p.1 = k)).map (·.2)
noncomputable def putN (l : List (Nat × Int)) (k : Nat) (v : Int) : List (Nat × Int) :=
  if (l.any fun p => decide (p.1 = k)) = true then l.map (fun p => if p.1 = k then (p.1, v) else p) else l ++ [(k, v)]
noncomputable abbrev keysN (l : List (Nat × Int)) : List Nat := l.map (·.1)
theorem look_pos {p : Nat × Int} {r : List (Nat × Int)} {k : Nat} (e : p.1 = k) : look (p :: r) k = some p.2 := by simp [look, List.find?_cons, e]
theorem look_neg {p : Nat × Int} {r : List (Nat × Int)} {k : Nat} (e : ¬ p.1 = k) : look (p :: r) k = look r k := by simp [look, List.find?_cons, e]
theorem look_any (k : Nat) : ∀ l : List (Nat × Int), (l.any fun p => decide (p.1 = k)) = (look l k).isSome
  | [] => rfl
  | p :: r => by
    rw [List.any_cons]
    by_cases e : p.1 = k
    · simp only [look_pos e, decide_eq_true e, Bool.true_or, Option.isSome_some]
    · rw [look_neg e, decide_eq_false e, Bool.false_or]; exact look_any k r
theorem look_mem {l : List (Nat × Int)} {k : Nat} : (look l k).isSome = true ↔ k ∈ keysN l := by
  rw [← look_any, List.any_eq_true]
  constructor
  · intro qz50
    refine Ea.x1_2 qz50 fun p h1 h2 => ?_; try clear qz50
    exact List.mem_map.mpr ⟨p, h1, of_decide_eq_true h2⟩
  · intro h
    refine Ea.x1_2 (List.mem_map.mp h) fun p h1 h2 => ?_
    exact ⟨p, h1, decide_eq_true h2⟩
theorem look_map (k j : Nat) (y : Int) : ∀ l : List (Nat × Int), look (l.map fun p => if p.1 = k then (p.1, y) else p) j = (look l j).map fun x => if j = k then y else x
  | [] => rfl
  | p :: r => by
    have ih := look_map k j y r
    rw [List.map_cons]
    by_cases h : p.1 = k
    · rw [if_pos h]
      by_cases e : p.1 = j
      · rw [look_pos (p := (p.1, y)) e, look_pos e, Option.map_some, if_pos (e.symm.trans h)]
      · rw [look_neg (p := (p.1, y)) e, look_neg e, ih]
    · rw [if_neg h]
      by_cases e : p.1 = j
      · rw [look_pos (p := p) e, look_pos e, Option.map_some, if_neg (fun z => h (e.trans z))]
      · rw [look_neg (p := p) e, look_neg e, ih]
theorem look_snoc (k j : Nat) (y : Int) : ∀ l : List (Nat × Int), look l k = none → look (l ++ [(k, y)]) j = if j = k then some y else look l j
  | [], _ => by
    by_cases e : k = j
    · rw [if_pos e.symm]; exact look_pos (p := (k, y)) e
    · rw [if_neg (fun z => e z.symm)]; exact look_neg (p := (k, y)) e
  | p :: r, hn => by
    rw [List.cons_append]
    have hk : ¬ p.1 = k := fun z => by rw [look_pos z] at hn; cases hn
    rw [look_neg hk] at hn
    have ih := look_snoc k j y r hn
    by_cases e : p.1 = j
    · rw [look_pos e, look_pos e, if_neg (fun z => hk (e.trans z))]
    · rw [look_neg e, look_neg e, ih]
theorem look_put (l : List (Nat × Int)) (k j : Nat) (y : Int) : look (putN l k y) j = if j = k then some y else look l j := by
  unfold putN
  by_cases a : (l.any fun p => decide (p.1 = k)) = true
  · rw [if_pos a, look_map]
    rw [look_any] at a
    by_cases e : j = k
    · obtain ⟨x, hx⟩ := Option.isSome_iff_exists.mp a
      rw [if_pos e, e, hx, Option.map_some, if_pos rfl]
    · rw [if_neg e]
      cases look l j with
      | none => rfl
      | some x => rw [Option.map_some, if_neg e]
  · rw [if_neg a]
    refine look_snoc k j y l ?_
    rw [look_any] at a
    cases q : look l k with
    | none => rfl
    | some x => rw [q] at a; exact (a rfl).elim
theorem len_putN (l : List (Nat × Int)) (k : Nat) (v : Int) : (putN l k v).length ≤ l.length + 1 := by
  unfold putN
  split
  · rw [List.length_map]; lia
  · rw [List.length_append, List.length_cons, List.length_nil]; lia
theorem keys_put_new {l : List (Nat × Int)} {k : Nat} (v : Int) (h : k ∉ keysN l) : keysN (putN l k v) = keysN l ++ [k] := by
  have : ¬ (l.any fun p => decide (p.1 = k)) = true := by rw [look_any, look_mem]; exact h
  unfold putN
  rw [if_neg this, keysN, List.map_append]; rfl
theorem keys_put_old {l : List (Nat × Int)} {k : Nat} (v : Int) (h : k ∈ keysN l) : keysN (putN l k v) = keysN l := by
  have : (l.any fun p => decide (p.1 = k)) = true := by rw [look_any, look_mem]; exact h
  unfold putN
  rw [if_pos this, keysN, List.map_map]
  apply List.map_congr_left
  intro p _
  simp only [Function.comp]
  split <;> rfl
structure Cs where
  goals : List Nat
  rooms : List Int
  ways : List (List Nat)
  outlets : List Nat
  leasts : List (Nat × Int)
  highest : List (Nat × Int)
  lowest : List (Nat × Int)
namespace Cs
noncomputable abbrev g (S : Cs) (w : Nat) : Nat := S.goals.getD w 0
noncomputable abbrev r (S : Cs) (w : Nat) : Int := S.rooms.getD w 0
noncomputable abbrev W (S : Cs) (p : Nat) : List Nat := wy S.ways p
noncomputable abbrev O (S : Cs) (t : Nat) : Nat := S.outlets.getD t 0
noncomputable abbrev N (S : Cs) : Nat := S.ways.length
noncomputable def addWay (S : Cs) (o q : Nat) (more fewer : Int) : Cs :=
  { S with
    goals := (S.goals ++ [q]) ++ [o]
    rooms := (S.rooms ++ [more]) ++ [fewer]
    ways := (S.ways.set o (S.W o ++ [S.goals.length])).set q (wy (S.ways.set o (S.W o ++ [S.goals.length])) q ++ [S.goals.length + 1]) }
noncomputable def place (S : Cs) (t : Nat) : Nat := S.g (S.O t ^^^ 1)
noncomputable def marked (S : Cs) (t : Nat) : Int := S.r (S.O t ^^^ 1)
noncomputable def amount (S : Cs) (t : Nat) : Int := S.r (S.O t) + S.marked t
noncomputable def setOutlet (S : Cs) (t : Nat) (am mk : Int) : Cs := { S with rooms := (S.rooms.set (S.O t) (am - mk)).set (S.O t ^^^ 1) mk }
noncomputable def forget (S : Cs) : Cs := { S with highest := [], lowest := [] }
noncomputable def putLeast (S : Cs) (w : Nat) (v : Int) : Cs := { S with leasts := putN S.leasts w v }
noncomputable def comeIn (S : Cs) (t : Nat) (a lo hi : Int) : Cs :=
  let S3 := ((S.forget).addWay 0 (S.place t) (hi - lo) 0).putLeast S.goals.length lo
  S3.setOutlet t (S3.amount t + a) (S3.marked t + lo)
noncomputable def newPlace (S : Cs) (t : Nat) (mk lo hi : Int) : Cs :=
  { S.forget with
    ways := S.ways ++ [[S.O t ^^^ 1]]
    goals := S.goals.set (S.O t) S.ways.length
    rooms := (S.rooms.set (S.O t) (hi - mk)).set (S.O t ^^^ 1) (mk - lo) }
noncomputable def goOn (S : Cs) (t : Nat) (am mk lo hi : Int) : Cs :=
  { (S.newPlace t mk lo hi).addWay S.ways.length 0 (am - mk) mk with outlets := S.outlets.set t S.goals.length }
noncomputable def pourS (S : Cs) (a b : Nat) (A : Int) : Cs :=
  let left := S.amount a - A
  let al := if S.marked a - left > 0 then S.marked a - left else 0
  let S1 := S.goOn a left (S.marked a - al) 0 left
  let S2 := S1.addWay (S.place a) (S1.place b) (A - al) al
  S2.setOutlet b (S2.amount b + A) (S2.marked b + al)
noncomputable def setBounds (S : Cs) (w : Nat) (lo mk hi : Int) : Cs := { S.putLeast w lo with rooms := (S.rooms.set w (hi - mk)).set (w ^^^ 1) (mk - lo) }
end Cs
theorem getN_snoc2 (l : List Nat) (a b j : Nat) : ((l ++ [a]) ++ [b]).getD j 0 = if j < l.length then l.getD j 0 else if j = l.length then a else if j = l.length + 1 then b else 0 := by
  simp only [List.getD_eq_getElem?_getD, List.append_assoc]
  by_cases h : j < l.length
  · rw [if_pos h, List.getElem?_append_left h]
  · rw [if_neg h, List.getElem?_append_right (by lia)]
    by_cases h1 : j = l.length
    · rw [if_pos h1, h1]; simp
    · rw [if_neg h1]
      by_cases h2 : j = l.length + 1
      · rw [if_pos h2, h2]; simp
      · rw [if_neg h2, List.getElem?_eq_none (by simp; lia)]; rfl
theorem getI_snoc2 (l : List Int) (a b : Int) (j : Nat) : ((l ++ [a]) ++ [b]).getD j 0 = if j < l.length then l.getD j 0 else if j = l.length then a else if j = l.length + 1 then b else 0 := by
  simp only [List.getD_eq_getElem?_getD, List.append_assoc]
  by_cases h : j < l.length
  · rw [if_pos h, List.getElem?_append_left h]
  · rw [if_neg h, List.getElem?_append_right (by lia)]
    by_cases h1 : j = l.length
    · rw [if_pos h1, h1]; simp
    · rw [if_neg h1]
      by_cases h2 : j = l.length + 1
      · rw [if_pos h2, h2]; simp
      · rw [if_neg h2, List.getElem?_eq_none (by simp; lia)]; rfl
theorem wy_set (ways : List (List Nat)) (o : Nat) (v : List Nat) (p : Nat) : wy (ways.set o v) p = if o = p ∧ p < ways.length then v else wy ways p := by
  simp only [wy, List.getD_eq_getElem?_getD, List.getElem?_set]
  by_cases h : o = p
  · subst h
    by_cases h2 : o < ways.length
    · simp [h2]
    · simp [h2]
  · simp [h]
theorem wy_out {ways : List (List Nat)} {p : Nat} (h : ways.length ≤ p) : wy ways p = [] := by
  rw [wy, List.getD_eq_getElem?_getD, List.getElem?_eq_none h]; rfl
theorem wy_snoc (ways : List (List Nat)) (v : List Nat) (p : Nat) : wy (ways ++ [v]) p = if p < ways.length then wy ways p else if p = ways.length then v else [] := by
  simp only [wy, List.getD_eq_getElem?_getD]
  by_cases h : p < ways.length
  · rw [if_pos h, List.getElem?_append_left h]
  · rw [if_neg h]
    by_cases h1 : p = ways.length
    · rw [if_pos h1, h1]; simp
    · rw [if_neg h1, List.getElem?_eq_none (by simp; lia)]; rfl
namespace Cs
section
variable {S : Cs} {m : Nat}
theorem addWay_len {o q : Nat} {x y : Int} : (S.addWay o q x y).goals.length = S.goals.length + 2 := by simp [addWay]
theorem addWay_rlen {o q : Nat} {x y : Int} : (S.addWay o q x y).rooms.length = S.rooms.length + 2 := by simp [addWay]
theorem addWay_N {o q : Nat} {x y : Int} : (S.addWay o q x y).N = S.N := by simp [addWay, N]
theorem addWay_g {o q : Nat} {x y : Int} (h : S.goals.length = 2 * m) (w : Nat) : (S.addWay o q x y).g w = if w < 2 * m then S.g w else if w = 2 * m then q else if w = 2 * m + 1 then o else 0 := by
  show ((S.goals ++ [q]) ++ [o]).getD w 0 = _
  rw [getN_snoc2, h]
theorem addWay_r {o q : Nat} {x y : Int} (h : S.rooms.length = 2 * m) (w : Nat) : (S.addWay o q x y).r w = if w < 2 * m then S.r w else if w = 2 * m then x else if w = 2 * m + 1 then y else 0 := by
  show ((S.rooms ++ [x]) ++ [y]).getD w 0 = _
  rw [getI_snoc2, h]
theorem addWay_W {o q : Nat} {x y : Int} (h : S.goals.length = 2 * m) (ho : o < S.N) (hq : q < S.N) (p : Nat) : (S.addWay o q x y).W p = S.W p ++ (if p = o then [2 * m] else []) ++ (if p = q then [2 * m + 1] else []) := by
  show wy ((S.ways.set o (S.W o ++ [S.goals.length])).set q (wy (S.ways.set o (S.W o ++ [S.goals.length])) q ++ [S.goals.length + 1])) p = _
  have hoN : o < S.ways.length := ho
  have hqN : q < S.ways.length := hq
  rw [wy_set, wy_set, wy_set, h, List.length_set]
  by_cases e2 : p = q
  · subst e2
    rw [if_pos ⟨rfl, hqN⟩, if_pos rfl]
    by_cases e1 : p = o
    · subst e1; rw [if_pos ⟨rfl, hqN⟩, if_pos rfl]
    · rw [if_neg (fun z => e1 z.1.symm), if_neg e1, List.append_nil]
  · rw [if_neg (fun z => e2 z.1.symm), if_neg e2, List.append_nil]
    by_cases e1 : p = o
    · subst e1; rw [if_pos ⟨rfl, hoN⟩, if_pos rfl]
    · rw [if_neg (fun z => e1 z.1.symm), if_neg e1, List.append_nil]
theorem setOutlet_r {t : Nat} {am mk : Int} {e : Nat} (hO : S.O t = 2 * e) (he : e < m) (hr : S.rooms.length = 2 * m) (w : Nat) : (S.setOutlet t am mk).r w = if w = 2 * e then am - mk else if w = 2 * e + 1 then mk else S.r w := by
  show ((S.rooms.set (S.O t) (am - mk)).set (S.O t ^^^ 1) mk).getD w 0 = _
  rw [hO, xor1_even, getI_set, getI_set, List.length_set, hr]
  by_cases h1 : w = 2 * e
  · rw [if_neg (by lia), if_pos (by lia), if_pos h1]
  · rw [if_neg h1]
    by_cases h2 : w = 2 * e + 1
    · rw [if_pos (by lia), if_pos h2]
    · rw [if_neg (by lia), if_neg (by lia), if_neg h2]
end
end Cs
end Mg
end
section
set_option autoImplicit false
set_option maxHeartbeats 1000000
namespace Mg
open Ks176 (Went)
noncomputable abbrev RepF (n : Nat) (l : List Went) (m N : Nat) (g : Nat → Nat) (r : Nat → Int) (O : Nat → Nat) (iw : Nat → Nat) : Prop :=
  Rep n l m N (fun e => ct (g (2 * e + 1))) (fun e => ct (g (2 * e))) (fun e => r (2 * e)) (fun e => r (2 * e + 1)) (fun t => O t / 2) iw
structure Ok (n : Nat) (l : List Went) (m : Nat) (iw : Nat → Nat) (S : Cs) : Prop where
  gl : S.goals.length = 2 * m
  rl : S.rooms.length = 2 * m
  ol : S.outlets.length = n
  r0 : ∀ w, 0 ≤ S.r w
  sk : Sk n m S.N S.g S.W S.O (keysN S.leasts)
  rep : RepF n l m S.N S.g S.r S.O iw
  wf : Wf n l
  lst : ∀ k t a lo hi : Nat, l[k]? = some (.went (.in_ t a lo hi)) → look S.leasts (2 * iw k) = some (lo : Int)
  mb : m ≤ n + 2 * l.length
  Nb : S.N ≤ 2 + n + l.length
section
variable {n m : Nat} {l : List Went} {iw : Nat → Nat} {S : Cs}
structure OutAt (n m : Nat) (S : Cs) (t e : Nat) : Prop where
  lt : e < m
  O : S.O t = 2 * e
  dv : S.O t / 2 = e
  x : S.O t ^^^ 1 = 2 * e + 1
  pl : S.place t = S.g (2 * e + 1)
  p2 : 2 ≤ S.g (2 * e + 1)
  pN : S.g (2 * e + 1) < S.N
  mkd : S.marked t = S.r (2 * e + 1)
  am : S.amount t = S.r (2 * e) + S.r (2 * e + 1)
theorem Ok.out (K : Ok n l m iw S) {t : Nat} (ht : t < n) : ∃ e, OutAt n m S t e := by
  refine Ea.x1_4 (K.sk.oe t ht) fun e a b c d => ?_
  have x : S.O t ^^^ 1 = 2 * e + 1 := by rw [b, xor1_even]
  refine ⟨e, a, b, by lia, x, ?_, d, K.sk.gN _ (by lia), ?_, ?_⟩
  · unfold Cs.place; rw [x]
  · unfold Cs.marked; rw [x]
  · unfold Cs.amount Cs.marked; rw [x, b]
theorem OutAt.inj (K : Ok n l m iw S) {s t e e' : Nat} (hs : s < n) (ht : t < n) (a : OutAt n m S s e) (b : OutAt n m S t e') (h : e = e') : s = t :=
  K.sk.oi s t hs ht (by rw [a.O, b.O, h])
theorem Ok.amt (K : Ok n l m iw S) {t : Nat} (ht : t < n) : S.amount t = ((gr n l).getD t 0 : Int) := by
  obtain ⟨e, E⟩ := K.out ht
  have q := K.rep.amt t ht
  simp only [E.dv] at q
  rw [E.am]; exact q
theorem Ok.come (K : Ok n l m iw S) {t a lo hi : Nat} (ht : t < n) (h1 : lo ≤ hi) (h2 : hi ≤ a) :
    Ok n (l ++ [.went (.in_ t a lo hi)]) (m + 1) (fun k => if k = l.length then m else iw k) (S.comeIn t a lo hi) := by
  obtain ⟨e, E⟩ := K.out ht
  have N2 := K.sk.N2
  obtain ⟨S3, hS3⟩ : ∃ S3, S3 = ((S.forget).addWay 0 (S.place t) ((hi : Int) - lo) 0).putLeast S.goals.length lo := ⟨_, rfl⟩
  have fl : S.forget.goals.length = 2 * m := K.gl
  have frl : S.forget.rooms.length = 2 * m := K.rl
  have g3 : ∀ w, S3.g w = if w < 2 * m then S.g w else if w = 2 * m then S.place t else if w = 2 * m + 1 then 0 else 0 := fun w => by rw [hS3]; exact Cs.addWay_g (x := (hi : Int) - lo) (y := 0) fl w
  have r3 : ∀ w, S3.r w = if w < 2 * m then S.r w else if w = 2 * m then (hi : Int) - lo else if w = 2 * m + 1 then 0 else 0 := fun w => by rw [hS3]; exact Cs.addWay_r (o := 0) (q := S.place t) frl w
  have pN : S.place t < S.N := by rw [E.pl]; exact E.pN
  have W3 : ∀ p, S3.W p = S.W p ++ (if p = 0 then [2 * m] else []) ++ (if p = S.place t then [2 * m + 1] else []) := fun p => by rw [hS3]; exact Cs.addWay_W (x := (hi : Int) - lo) (y := 0) fl (show 0 < S.N by lia) pN p
  have O3 : S3.O = S.O := by rw [hS3]; rfl
  have l3 : S3.rooms.length = 2 * (m + 1) := by rw [hS3]; show ((S.forget).addWay 0 (S.place t) ((hi : Int) - lo) 0).rooms.length = _; rw [Cs.addWay_rlen, frl]; lia
  have N3 : S3.N = S.N := by rw [hS3]; exact Cs.addWay_N (S := S.forget) (o := 0) (q := S.place t) (x := (hi : Int) - lo) (y := 0)
  have E3 : S3.O t ^^^ 1 = 2 * e + 1 := by rw [O3]; exact E.x
  have elt := E.lt
  have m3 : S3.marked t = S.r (2 * e + 1) := by unfold Cs.marked; rw [E3, r3, if_pos (by lia)]
  have a3 : S3.amount t = S.r (2 * e) + S.r (2 * e + 1) := by unfold Cs.amount; rw [m3, O3, E.O, r3, if_pos (by lia)]
  have eS : S.comeIn t a lo hi = S3.setOutlet t (S3.amount t + a) (S3.marked t + lo) := by rw [hS3]; rfl
  have R : ∀ w, (S.comeIn t a lo hi).r w = if w = 2 * e then S.r (2 * e) + a - lo else if w = 2 * e + 1 then S.r (2 * e + 1) + lo else if w < 2 * m then S.r w else if w = 2 * m then (hi : Int) - lo else 0 := by
    intro w
    rw [eS, Cs.setOutlet_r (m := m + 1) (by rw [O3]; exact E.O) (by lia) l3, a3, m3, r3]
    by_cases q1 : w = 2 * e
    · rw [if_pos q1, if_pos q1]; lia
    · rw [if_neg q1, if_neg q1]
      by_cases q2 : w = 2 * e + 1
      · rw [if_pos q2, if_pos q2]
      · rw [if_neg q2, if_neg q2]
        by_cases q3 : w < 2 * m
        · rw [if_pos q3, if_pos q3]
        · rw [if_neg q3, if_neg q3]
          by_cases q4 : w = 2 * m
          · rw [if_pos q4, if_pos q4]
          · rw [if_neg q4, if_neg q4]; split <;> rfl
  have G : (S.comeIn t a lo hi).g = S3.g := by rw [eS]; rfl
  have Wc : (S.comeIn t a lo hi).W = S3.W := by rw [eS]; rfl
  have Oc : (S.comeIn t a lo hi).O = S.O := by rw [eS]; exact O3
  have Nc : (S.comeIn t a lo hi).N = S.N := by rw [eS]; exact N3
  have Lc : (S.comeIn t a lo hi).leasts = putN S.leasts (2 * m) lo := by rw [← K.gl]; rfl
  have new : 2 * m ∉ keysN S.leasts := fun h => by
    refine Ea.x1_3 (K.sk.ke _ h) fun e' a1 a2 _ => ?_
    lia
  have og : ∀ e', e' < m → (S.comeIn t a lo hi).g (2 * e' + 1) = S.g (2 * e' + 1) ∧ (S.comeIn t a lo hi).g (2 * e') = S.g (2 * e') := fun e' he => by
    rw [G, g3, g3, if_pos (by lia), if_pos (by lia)]; exact ⟨rfl, rfl⟩
  have gm : (S.comeIn t a lo hi).g (2 * m) = S.place t := by rw [G, g3, if_neg (by lia), if_pos rfl]
  have gm1 : (S.comeIn t a lo hi).g (2 * m + 1) = 0 := by rw [G, g3, if_neg (by lia), if_neg (by lia), if_pos rfl]
  have nne : ∀ {e'}, e' ≠ S.O t / 2 → e' ≠ e := fun h q => h (by rw [E.dv]; exact q)
  refine ⟨?_, ?_, ?_, ?_, ?_, ?_, ?_, ?_, ?_, ?_⟩
  · rw [eS, hS3]; show ((S.forget).addWay 0 (S.place t) ((hi : Int) - lo) 0).goals.length = _; rw [Cs.addWay_len, fl]; lia
  · rw [eS]; show ((S3.rooms.set (S3.O t) (S3.amount t + a - (S3.marked t + lo))).set (S3.O t ^^^ 1) (S3.marked t + lo)).length = _; rw [List.length_set, List.length_set, l3]
  · rw [eS, hS3]; exact K.ol
  · intro w
    rw [R]
    have := K.r0 (2 * e)
    have := K.r0 (2 * e + 1)
    have := K.r0 w
    split
    · lia
    · split
      · lia
      · split
        · assumption
        · split <;> lia
  · rw [Nc, Lc, keys_put_new _ new, Oc]
    exact K.sk.come (p := S.place t) (by rw [E.pl]; exact E.p2) pN (fun w hw => by rw [G, g3, if_pos hw]) gm gm1 (fun x _ => by rw [Wc, W3]) (fun x hx => by
      have hx' : S.N ≤ x := hx
      rw [Wc, W3, if_neg (by lia), if_neg (by lia), List.append_nil, List.append_nil])
  · rw [Nc]
    refine K.rep.come ht (fun e' he => ?_) ?_ (fun e' he => ?_) ?_ (fun e' he hn => ?_) (fun e' he hn => ?_) ?_ ?_ ?_ ?_
    · rw [(og e' he).1]
    · rw [gm1]; rfl
    · rw [(og e' he).2]
    · rw [gm, E.pl, E.dv]
    · have := nne hn
      rw [R, if_neg (by lia), if_neg (by lia), if_pos (by lia)]
    · have := nne hn
      rw [R, if_neg (by lia), if_neg (by lia), if_pos (by lia)]
    · rw [E.dv, R, if_pos rfl]
    · rw [E.dv, R, if_neg (by lia), if_pos rfl]
    · rw [R, if_neg (by lia), if_neg (by lia), if_neg (by lia), if_pos rfl]
    · rw [R, if_neg (by lia), if_neg (by lia), if_neg (by lia), if_neg (by lia)]
  · exact wf_snoc.mpr ⟨K.wf, ht, h2⟩
  · intro k t' a' lo' hi' h
    rw [Lc, look_put]
    rcases get_snoc h with ⟨hk, g⟩ | ⟨rfl, g⟩
    · rw [if_neg (show ¬ k = l.length by lia)]
      have := (K.rep.iwm k _ _ _ _ g).1
      rw [if_neg (by lia)]
      exact K.lst k _ _ _ _ g
    · cases g
      rw [if_pos rfl, if_pos rfl]
  · have := K.mb; rw [List.length_append, List.length_singleton]; lia
  · have := K.Nb; rw [Nc, List.length_append, List.length_singleton]; lia
structure Went2 (n m : Nat) (S S' : Cs) (t e : Nat) (am mk lo hi : Int) : Prop where
  gl : S'.goals.length = 2 * (m + 1)
  rl : S'.rooms.length = 2 * (m + 1)
  ol : S'.outlets.length = n
  N : S'.N = S.N + 1
  g : ∀ w, S'.g w = if w < 2 * m then (if w = 2 * e then S.N else S.g w) else if w = 2 * m then 0 else if w = 2 * m + 1 then S.N else 0
  r : ∀ w, S'.r w = if w < 2 * m then (if w = 2 * e then hi - mk else if w = 2 * e + 1 then mk - lo else S.r w) else if w = 2 * m then am - mk else if w = 2 * m + 1 then mk else 0
  O : ∀ s, S'.O s = if s = t then 2 * m else S.O s
  ls : S'.leasts = S.leasts
  sk : Sk n (m + 1) S'.N S'.g S'.W S'.O (keysN S.leasts)
theorem Ok.go (K : Ok n l m iw S) {t e : Nat} (ht : t < n) (E : OutAt n m S t e) (am mk lo hi : Int) : Went2 n m S (S.goOn t am mk lo hi) t e am mk lo hi := by
  have elt := E.lt
  have N2 := K.sk.N2
  obtain ⟨S2, hS2⟩ : ∃ S2, S2 = S.newPlace t mk lo hi := ⟨_, rfl⟩
  have l2 : S2.goals.length = 2 * m := by rw [hS2]; show (S.goals.set _ _).length = _; rw [List.length_set, K.gl]
  have rl2 : S2.rooms.length = 2 * m := by rw [hS2]; show ((S.rooms.set _ _).set _ _).length = _; rw [List.length_set, List.length_set, K.rl]
  have N3 : S2.N = S.N + 1 := by rw [hS2]; show (S.ways ++ [_]).length = _; rw [List.length_append]; rfl
  have g2 : ∀ w, w < 2 * m → S2.g w = if w = 2 * e then S.N else S.g w := by
    intro w hw
    rw [hS2]
    show (S.goals.set (S.O t) S.ways.length).getD w 0 = _
    rw [E.O, getD_set, K.gl]
    by_cases q : w = 2 * e
    · rw [if_pos ⟨q.symm, hw⟩, if_pos q]
    · rw [if_neg (fun z => q z.1.symm), if_neg q]
  have r2 : ∀ w, w < 2 * m → S2.r w = if w = 2 * e then hi - mk else if w = 2 * e + 1 then mk - lo else S.r w := by
    intro w hw
    rw [hS2]
    show ((S.rooms.set (S.O t) (hi - mk)).set (S.O t ^^^ 1) (mk - lo)).getD w 0 = _
    rw [E.x, E.O, getI_set, getI_set, List.length_set, K.rl]
    by_cases q : w = 2 * e
    · rw [if_neg (by lia), if_pos (by lia), if_pos q]
    · rw [if_neg q]
      by_cases q2 : w = 2 * e + 1
      · rw [if_pos (by lia), if_pos q2]
      · rw [if_neg (by lia), if_neg (by lia), if_neg q2]
  have W2 : ∀ p, S2.W p = if p < S.N then S.W p else if p = S.N then [2 * e + 1] else [] := by
    intro p
    rw [hS2]
    show wy (S.ways ++ [[S.O t ^^^ 1]]) p = _
    rw [wy_snoc, E.x]
  have eS : S.goOn t am mk lo hi = { S2.addWay S.ways.length 0 (am - mk) mk with outlets := S.outlets.set t S.goals.length } := by rw [hS2]; rfl
  have G : ∀ w, (S.goOn t am mk lo hi).g w = if w < 2 * m then (if w = 2 * e then S.N else S.g w) else if w = 2 * m then 0 else if w = 2 * m + 1 then S.N else 0 := by
    intro w
    rw [eS]
    show (S2.addWay S.ways.length 0 (am - mk) mk).g w = _
    rw [Cs.addWay_g l2]
    by_cases q : w < 2 * m
    · rw [if_pos q, if_pos q, g2 w q]
    · rw [if_neg q, if_neg q]
  have R : ∀ w, (S.goOn t am mk lo hi).r w = if w < 2 * m then (if w = 2 * e then hi - mk else if w = 2 * e + 1 then mk - lo else S.r w) else if w = 2 * m then am - mk else if w = 2 * m + 1 then mk else 0 := by
    intro w
    rw [eS]
    show (S2.addWay S.ways.length 0 (am - mk) mk).r w = _
    rw [Cs.addWay_r rl2]
    by_cases q : w < 2 * m
    · rw [if_pos q, if_pos q, r2 w q]
    · rw [if_neg q, if_neg q]
  have Wc : ∀ p, (S.goOn t am mk lo hi).W p = (if p < S.N then S.W p else if p = S.N then [2 * e + 1] else []) ++ (if p = S.N then [2 * m] else []) ++ (if p = 0 then [2 * m + 1] else []) := by
    intro p
    rw [eS]
    show (S2.addWay S.ways.length 0 (am - mk) mk).W p = _
    rw [Cs.addWay_W l2 (by rw [N3]; exact Nat.lt_succ_self _) (by rw [N3]; lia), W2]
  have Oc : ∀ s, (S.goOn t am mk lo hi).O s = if s = t then 2 * m else S.O s := by
    intro s
    rw [eS]
    show (S.outlets.set t S.goals.length).getD s 0 = _
    rw [getD_set, K.gl, K.ol]
    by_cases q : s = t
    · rw [if_pos ⟨q.symm, by lia⟩, if_pos q]
    · rw [if_neg (fun z => q z.1.symm), if_neg q]
  have Nc : (S.goOn t am mk lo hi).N = S.N + 1 := by rw [eS]; show (S2.addWay S.ways.length 0 (am - mk) mk).N = _; rw [Cs.addWay_N, N3]
  have Lc : (S.goOn t am mk lo hi).leasts = S.leasts := rfl
  refine ⟨?_, ?_, ?_, Nc, G, R, Oc, Lc, ?_⟩
  · rw [eS]; show (S2.addWay S.ways.length 0 (am - mk) mk).goals.length = _; rw [Cs.addWay_len, l2]; lia
  · rw [eS]; show (S2.addWay S.ways.length 0 (am - mk) mk).rooms.length = _; rw [Cs.addWay_rlen, rl2]; lia
  · rw [eS]; show (S.outlets.set t S.goals.length).length = _; rw [List.length_set]; exact K.ol
  · rw [Nc]
    refine K.sk.go ht (fun w hw hne => ?_) ?_ ?_ ?_ (fun x hx hx2 => ?_) ?_ ?_ ?_ (fun x hx => ?_) (fun s hs hne => ?_) ?_
    · rw [G, if_pos hw, if_neg (by rw [← E.O]; exact hne)]
    · rw [E.O, G, if_pos (by lia), if_pos rfl]
    · rw [G, if_neg (by lia), if_pos rfl]
    · rw [G, if_neg (by lia), if_neg (by lia), if_pos rfl]
    · rw [Wc, if_pos hx2, if_neg (by lia), if_neg (by lia), List.append_nil, List.append_nil]
    · rw [Wc, if_pos (by lia), if_neg (by lia), if_pos rfl, List.append_nil]
    · rw [Wc, if_pos (by lia), if_neg (by lia), if_neg (by lia), List.append_nil, List.append_nil]
    · rw [Wc, if_neg (Nat.lt_irrefl _), if_pos rfl, if_pos rfl, if_neg (by lia), E.x]; rfl
    · rw [Wc, if_neg (by lia), if_neg (by lia), if_neg (by lia), if_neg (by lia)]; rfl
    · rw [Oc, if_neg hne]
    · rw [Oc, if_pos rfl]
end
end Mg
end
section
set_option autoImplicit false
set_option maxHeartbeats 1000000
namespace Mg
open Ks176 (Went)
section
variable {n m : Nat} {l : List Went} {iw : Nat → Nat} {S : Cs}
theorem Ok.found (K : Ok n l m iw S) {t lo hi : Nat} (ht : t < n) (h1 : (lo : Int) ≤ S.marked t) (h2 : S.marked t ≤ hi) :
    Ok n (l ++ [.found t lo hi]) (m + 1) iw (S.goOn t (S.amount t) (S.marked t) lo hi) := by
  obtain ⟨e, E⟩ := K.out ht
  have elt := E.lt
  have G := K.go ht E (S.amount t) (S.marked t) lo hi
  rw [E.mkd, E.am] at *
  obtain ⟨S', hS'⟩ : ∃ S', S' = S.goOn t (S.r (2 * e) + S.r (2 * e + 1)) (S.r (2 * e + 1)) lo hi := ⟨_, rfl⟩
  rw [← hS'] at G ⊢
  have a0 := K.r0 (2 * e)
  have a1 := K.r0 (2 * e + 1)
  have nne : ∀ {e'}, e' ≠ S.O t / 2 → e' ≠ e := fun h q => h (by rw [E.dv]; exact q)
  refine ⟨G.gl, G.rl, G.ol, ?_, ?_, ?_, ?_, ?_, ?_, ?_⟩
  · intro w
    have := K.r0 w
    rw [G.r]
    repeat' split
    all_goals lia
  · rw [G.ls]; exact G.sk
  · rw [G.N]
    refine K.rep.find ht (fun e' he => ?_) ?_ (fun e' he hn => ?_) ?_ ?_ (fun e' he hn => ?_) (fun e' he hn => ?_) ?_ ?_ ?_ ?_ (fun s hs hn => ?_) ?_
    · rw [G.g, if_pos (by lia), if_neg (by lia)]
    · rw [G.g, if_neg (by lia), if_neg (by lia), if_pos rfl]; exact ct_ge K.sk.N2
    · have := nne hn
      rw [G.g, if_pos (by lia), if_neg (by lia)]
    · rw [E.dv, G.g, if_pos (by lia), if_pos rfl]; exact ct_ge K.sk.N2
    · rw [G.g, if_neg (by lia), if_pos rfl]; rfl
    · have := nne hn
      rw [G.r, if_pos (by lia), if_neg (by lia), if_neg (by lia)]
    · have := nne hn
      rw [G.r, if_pos (by lia), if_neg (by lia), if_neg (by lia)]
    · rw [E.dv, G.r, if_pos (by lia), if_pos rfl]
    · rw [E.dv, G.r, if_pos (by lia), if_neg (by lia), if_pos rfl]
    · rw [E.dv, G.r, if_neg (by lia), if_pos rfl]; lia
    · rw [E.dv, G.r, if_neg (by lia), if_neg (by lia), if_pos rfl]
    · rw [G.O, if_neg hn]
    · rw [G.O, if_pos rfl]; lia
  · exact wf_snoc.mpr ⟨K.wf, ht⟩
  · intro k t' a' lo' hi' h
    rw [G.ls]
    rcases get_snoc h with ⟨_, g⟩ | ⟨_, g⟩
    · exact K.lst k _ _ _ _ g
    · cases g
  · have := K.mb; rw [List.length_append, List.length_singleton]; lia
  · have := K.Nb; rw [G.N, List.length_append, List.length_singleton]; lia
theorem Ok.pour (K : Ok n l m iw S) {a b A : Nat} (ha : a < n) (hb : b < n) (hab : a ≠ b) (hA : A ≤ (gr n l).getD a 0) :
    Ok n (l ++ [.went (.pour a b A)]) (m + 2) iw (S.pourS a b A) := by
  obtain ⟨e, E⟩ := K.out ha
  obtain ⟨f, F⟩ := K.out hb
  have elt := E.lt
  have flt := F.lt
  have hef : e ≠ f := fun q => hab (OutAt.inj K ha hb E F q)
  have amt := K.amt ha
  obtain ⟨left, hleft⟩ : ∃ left, left = S.amount a - A := ⟨_, rfl⟩
  obtain ⟨al, hal⟩ : ∃ al, al = if S.marked a - left > 0 then S.marked a - left else 0 := ⟨_, rfl⟩
  have N2 := K.sk.N2
  have a0 := K.r0 (2 * e)
  have a1 := K.r0 (2 * e + 1)
  have b0 := K.r0 (2 * f)
  have b1 := K.r0 (2 * f + 1)
  have Eam := E.am
  have Emk := E.mkd
  have al0 : 0 ≤ al := by rw [hal]; split <;> lia
  have al1 : al ≤ A := by rw [hal]; split <;> lia
  have al2 : S.marked a - al ≤ left := by rw [hal]; split <;> lia
  have al3 : al ≤ S.marked a := by rw [hal]; split <;> lia
  obtain ⟨S1, hS1⟩ : ∃ S1, S1 = S.goOn a left (S.marked a - al) 0 left := ⟨_, rfl⟩
  have G := K.go ha E left (S.marked a - al) 0 left
  rw [← hS1] at G
  have Ob : S1.O b = 2 * f := by rw [G.O, if_neg (fun q => hab q.symm), F.O]
  have plb : S1.place b = S.g (2 * f + 1) := by unfold Cs.place; rw [Ob, xor1_even, G.g, if_pos (by lia), if_neg (by lia)]
  obtain ⟨S2, hS2⟩ : ∃ S2, S2 = S1.addWay (S.place a) (S1.place b) (A - al) al := ⟨_, rfl⟩
  have eS : S.pourS a b A = S2.setOutlet b (S2.amount b + A) (S2.marked b + al) := by rw [hS2, hS1, hal, hleft]; rfl
  have g2 : ∀ w, S2.g w = if w < 2 * (m + 1) then S1.g w else if w = 2 * (m + 1) then S.g (2 * f + 1) else if w = 2 * (m + 1) + 1 then S.g (2 * e + 1) else 0 := fun w => by rw [hS2, Cs.addWay_g G.gl, plb, E.pl]
  have r2 : ∀ w, S2.r w = if w < 2 * (m + 1) then S1.r w else if w = 2 * (m + 1) then A - al else if w = 2 * (m + 1) + 1 then al else 0 := fun w => by rw [hS2, Cs.addWay_r G.rl]
  have pN := E.pN
  have qN := F.pN
  have W2 : ∀ p, S2.W p = S1.W p ++ (if p = S.g (2 * e + 1) then [2 * (m + 1)] else []) ++ (if p = S.g (2 * f + 1) then [2 * (m + 1) + 1] else []) := fun p => by
    rw [hS2, Cs.addWay_W G.gl (by rw [G.N, E.pl]; lia) (by rw [G.N, plb]; lia), plb, E.pl]
  have O2 : S2.O = S1.O := by rw [hS2]; rfl
  have l2 : S2.rooms.length = 2 * (m + 2) := by rw [hS2, Cs.addWay_rlen, G.rl]; lia
  have N3 : S2.N = S.N + 1 := by rw [hS2, Cs.addWay_N, G.N]
  have x2 : S2.O b ^^^ 1 = 2 * f + 1 := by rw [O2, Ob, xor1_even]
  have m2 : S2.marked b = S.r (2 * f + 1) := by
    unfold Cs.marked; rw [x2, r2, if_pos (by lia), G.r, if_pos (by lia), if_neg (by lia), if_neg (by lia)]
  have am2 : S2.amount b = S.r (2 * f) + S.r (2 * f + 1) := by
    unfold Cs.amount; rw [m2, O2, Ob, r2, if_pos (by lia), G.r, if_pos (by lia), if_neg (by lia), if_neg (by lia)]
  have R : ∀ w, (S.pourS a b A).r w = if w = 2 * f then S.r (2 * f) + A - al else if w = 2 * f + 1 then S.r (2 * f + 1) + al else S2.r w := by
    intro w
    rw [eS, Cs.setOutlet_r (m := m + 2) (by rw [O2]; exact Ob) (by lia) l2, am2, m2]
    by_cases q1 : w = 2 * f
    · rw [if_pos q1, if_pos q1]; lia
    · rw [if_neg q1, if_neg q1]
  have Gc : (S.pourS a b A).g = S2.g := by rw [eS]; rfl
  have Wc : (S.pourS a b A).W = S2.W := by rw [eS]; rfl
  have Oc : (S.pourS a b A).O = S1.O := by rw [eS]; exact O2
  have Nc : (S.pourS a b A).N = S.N + 1 := by rw [eS]; exact N3
  have Lc : (S.pourS a b A).leasts = S.leasts := rfl
  have dvE : S.O a / 2 = e := E.dv
  have dvF : S.O b / 2 = f := F.dv
  have nne : ∀ {e'}, e' ≠ S.O a / 2 → e' ≠ e := fun h q => h (by rw [E.dv]; exact q)
  have nnf : ∀ {e'}, e' ≠ S.O b / 2 → e' ≠ f := fun h q => h (by rw [F.dv]; exact q)
  refine ⟨?_, ?_, ?_, ?_, ?_, ?_, ?_, ?_, ?_, ?_⟩
  · rw [eS]; show S2.goals.length = _; rw [hS2, Cs.addWay_len, G.gl]; lia
  · rw [eS]; show ((S2.rooms.set (S2.O b) (S2.amount b + A - (S2.marked b + al))).set (S2.O b ^^^ 1) (S2.marked b + al)).length = _
    rw [List.length_set, List.length_set, l2]
  · rw [eS]; show S2.outlets.length = _; rw [hS2]; exact G.ol
  · intro w
    have := K.r0 w
    rw [R, r2, G.r]
    repeat' split
    all_goals lia
  · rw [Nc, Lc, Oc, ← G.N]
    exact G.sk.mid (p := S.g (2 * e + 1)) (q := S.g (2 * f + 1)) E.p2 (by rw [G.N]; lia) F.p2 (by rw [G.N]; lia) (fun w hw => by rw [Gc, g2, if_pos hw]) (by rw [Gc, g2, if_neg (by lia), if_pos rfl]) (by rw [Gc, g2, if_neg (by lia), if_neg (by lia), if_pos rfl])
      (fun x _ => by rw [Wc, W2]) (fun x hx => by
        rw [G.N] at hx
        rw [Wc, W2, if_neg (by lia), if_neg (by lia), List.append_nil, List.append_nil])
  · rw [Nc]
    refine K.rep.pours (A := A) (al := al) K.wf ha hb hab hA (fun e' he => ?_) ?_ ?_ (fun e' he hn => ?_) ?_ ?_ ?_ (fun e' he hn hn2 => ?_) (fun e' he hn hn2 => ?_) ?_ ?_ ?_ ?_ ?_ ?_ ?_ ?_ (fun s hs hn => ?_) ?_
    · rw [Gc, g2, if_pos (by lia), G.g, if_pos (by lia), if_neg (by lia)]
    · rw [Gc, g2, if_pos (by lia), G.g, if_neg (by lia), if_neg (by lia), if_pos rfl]; exact ct_ge K.sk.N2
    · rw [Gc, dvE, g2, if_neg (by lia), if_neg (by lia), if_pos (by lia)]
    · have := nne hn
      rw [Gc, g2, if_pos (by lia), G.g, if_pos (by lia), if_neg (by lia)]
    · rw [Gc, dvE, g2, if_pos (by lia), G.g, if_pos (by lia), if_pos rfl]; exact ct_ge K.sk.N2
    · rw [Gc, g2, if_pos (by lia), G.g, if_neg (by lia), if_pos rfl]; rfl
    · rw [Gc, dvF, g2, if_neg (by lia), if_pos (by lia)]
    · have := nne hn
      have := nnf hn2
      rw [R, if_neg (by lia), if_neg (by lia), r2, if_pos (by lia), G.r, if_pos (by lia), if_neg (by lia), if_neg (by lia)]
    · have := nne hn
      have := nnf hn2
      rw [R, if_neg (by lia), if_neg (by lia), r2, if_pos (by lia), G.r, if_pos (by lia), if_neg (by lia), if_neg (by lia)]
    · rw [dvE, R, if_neg (by lia), if_neg (by lia), r2, if_pos (by lia), G.r, if_pos (by lia), if_pos rfl]; lia
    · rw [dvE, R, if_neg (by lia), if_neg (by lia), r2, if_pos (by lia), G.r, if_pos (by lia), if_neg (by lia), if_pos rfl]; lia
    · rw [dvE, R, if_neg (by lia), if_neg (by lia), r2, if_pos (by lia), G.r, if_neg (by lia), if_pos rfl]; lia
    · rw [dvE, R, if_neg (by lia), if_neg (by lia), r2, if_pos (by lia), G.r, if_neg (by lia), if_neg (by lia), if_pos rfl]; lia
    · rw [R, if_neg (by lia), if_neg (by lia), r2, if_neg (by lia), if_pos rfl]
    · rw [R, if_neg (by lia), if_neg (by lia), r2, if_neg (by lia), if_neg (by lia), if_pos rfl]
    · rw [dvF, R, if_pos rfl]
    · rw [dvF, R, if_neg (by lia), if_pos rfl]
    · rw [Oc, G.O, if_neg hn]
    · rw [Oc, G.O, if_pos rfl]; lia
  · exact wf_snoc.mpr ⟨K.wf, ha, hb, hab, hA⟩
  · intro k t' a' lo' hi' h
    rw [Lc]
    rcases get_snoc h with ⟨_, g⟩ | ⟨_, g⟩
    · exact K.lst k _ _ _ _ g
    · cases g
  · have := K.mb; rw [List.length_append, List.length_singleton]; lia
  · have := K.Nb; rw [Nc, List.length_append, List.length_singleton]; lia
theorem Ok.hear (K : Ok n l m iw S) {k t a lo hi lo' hi' : Nat} (hk : l[k]? = some (.went (.in_ t a lo hi))) (h1 : (lo' : Int) ≤ lo + S.r (2 * iw k + 1)) (h2 : lo + S.r (2 * iw k + 1) ≤ hi') :
    Ok n (l.set k (.went (.in_ t a (max lo lo') (min hi hi')))) m iw (S.setBounds (2 * iw k) (max lo lo' : Nat) (lo + S.r (2 * iw k + 1)) (min hi hi' : Nat)) := by
  refine Ea.a3 (K.rep.iwm k _ _ _ _ hk) fun k1 k2 k3 => ?_
  have kl : k < l.length := (List.getElem?_eq_some_iff.mp hk).1
  have b0 := K.r0 (2 * iw k)
  have b1 := K.r0 (2 * iw k + 1)
  have R : ∀ w, (S.setBounds (2 * iw k) (max lo lo' : Nat) (lo + S.r (2 * iw k + 1)) (min hi hi' : Nat)).r w = if w = 2 * iw k then ((min hi hi' : Nat) : Int) - (lo + S.r (2 * iw k + 1)) else if w = 2 * iw k + 1 then lo + S.r (2 * iw k + 1) - (max lo lo' : Nat) else S.r w := by
    intro w
    show ((S.rooms.set (2 * iw k) (((min hi hi' : Nat) : Int) - (lo + S.r (2 * iw k + 1)))).set (2 * iw k ^^^ 1) (lo + S.r (2 * iw k + 1) - (max lo lo' : Nat))).getD w 0 = _
    rw [xor1_even, getI_set, getI_set, List.length_set, K.rl]
    by_cases q : w = 2 * iw k
    · rw [if_neg (by lia), if_pos (by lia), if_pos q]
    · rw [if_neg q]
      by_cases q2 : w = 2 * iw k + 1
      · rw [if_pos (by lia), if_pos q2]
      · rw [if_neg (by lia), if_neg (by lia), if_neg q2]
  have key : 2 * iw k ∈ keysN S.leasts := look_mem.mp (by rw [K.lst k _ _ _ _ hk]; rfl)
  have cas : ∀ {j t1 a1 lo1 hi1 : Nat}, (l.set k (.went (.in_ t a (max lo lo') (min hi hi'))))[j]? = some (.went (.in_ t1 a1 lo1 hi1)) →
      (j = k ∧ lo1 = max lo lo' ∧ hi1 = min hi hi') ∨ (j ≠ k ∧ l[j]? = some (.went (.in_ t1 a1 lo1 hi1))) := by
    intro j t1 a1 lo1 hi1 h
    by_cases e : j = k
    · subst e
      rw [List.getElem?_set_self kl] at h
      cases h
      exact .inl ⟨rfl, rfl, rfl⟩
    · rw [List.getElem?_set_ne (fun q => e q.symm)] at h
      exact .inr ⟨e, h⟩
  refine ⟨K.gl, ?_, K.ol, ?_, ?_, ?_, wf_set (Nat.min_le_left _ _) l hk K.wf, ?_, ?_, ?_⟩
  · show ((S.rooms.set (2 * iw k) _).set (2 * iw k ^^^ 1) _).length = _
    rw [List.length_set, List.length_set, K.rl]
  · intro w
    have := K.r0 w
    have k3' : S.r (2 * iw k) + S.r (2 * iw k + 1) = (hi : Int) - lo := k3
    rw [R]
    split
    · lia
    · split <;> lia
  · show Sk n m S.N S.g S.W S.O (keysN (putN S.leasts (2 * iw k) _))
    rw [keys_put_old _ key]; exact K.sk
  · refine K.rep.hear hk (fun e he hn => ?_) (fun e he hn => ?_) ?_ ?_
    · rw [R, if_neg (by lia), if_neg (by lia)]
    · rw [R, if_neg (by lia), if_neg (by lia)]
    · rw [R, if_pos rfl]
    · rw [R, if_neg (by lia), if_pos rfl]
  · intro j t1 a1 lo1 hi1 h
    show look (putN S.leasts (2 * iw k) _) _ = _
    rw [look_put]
    rcases cas h with ⟨rfl, rfl, rfl⟩ | ⟨hj, h⟩
    · rw [if_pos rfl]
    · rw [if_neg (fun q => hj (K.rep.iwi _ _ _ _ _ _ _ _ _ _ h hk (by lia)))]
      exact K.lst j _ _ _ _ h
  · have := K.mb; rw [List.length_set]; exact this
  · have := K.Nb; rw [List.length_set]; exact this
end
end Mg
end
section
set_option autoImplicit false
set_option maxHeartbeats 1000000
namespace Mg
open Ks176 (Went)
theorem Rep.congr {n : Nat} {l : List Went} {m N : Nat} {og gl og' gl' : Nat → Nat} {up dn up' dn' : Nat → Int} {ot iw : Nat → Nat} (R : Rep n l m N og gl up dn ot iw)
    (eo : ∀ e, e < m → og' e = og e) (eg : ∀ e, e < m → gl' e = gl e) (eu : ∀ e, e < m → up' e = up e) (ed : ∀ e, e < m → dn' e = dn e) : Rep n l m N og' gl' up' dn' ot iw := by
  refine ⟨?_, ?_, R.otm, R.oti, ?_, ?_, ?_, ?_, R.iwi, ?_, ?_⟩
  · intro e he; rw [eo e he]; exact R.ogN e he
  · intro e he; rw [eg e he]; exact R.glN e he
  · intro t ht; rw [eg _ (R.otm t ht)]; exact R.otg t ht
  · intro t ht; rw [eo _ (R.otm t ht)]; exact R.otp t ht
  · intro t ht; rw [eu _ (R.otm t ht), ed _ (R.otm t ht)]; exact R.amt t ht
  · intro k t a lo hi h
    refine Ea.a3 (R.iwm k _ _ _ _ h) fun q1 q2 q3 => ?_
    exact ⟨q1, q2, by rw [eu _ q1, ed _ q1]; exact q3⟩
  · intro ks x hc
    refine Ea.x1_4 (R.fwd ks x hc) fun d b1 b2 b3 b4 => ?_
    refine ⟨d, fun p hp hN => ?_, fun e he hn => ?_, fun t ht => ?_, fun k t a lo hi v h hv => ?_⟩
    · rw [exc_congr p eo eg fun _ _ => rfl]; exact b1 p hp hN
    · rw [eu e he, ed e he]; exact b2 e he hn
    · rw [ed _ (R.otm t ht)]; exact b3 t ht
    · rw [ed _ (R.iwm k _ _ _ _ h).1]; exact b4 k _ _ _ _ v h hv
  · intro d b1 b2
    obtain ⟨ks, x, hc, c1, c2⟩ := R.bwd d (fun p hp hN => by rw [← exc_congr (d := d) (d' := d) p eo eg fun _ _ => rfl]; exact b1 p hp hN) (fun e he hn => by rw [← eu e he, ← ed e he]; exact b2 e he hn)
    refine ⟨ks, x, hc, fun t ht => ?_, fun k t a lo hi v h hv => ?_⟩
    · rw [ed _ (R.otm t ht)]; exact c1 t ht
    · rw [ed _ (R.iwm k _ _ _ _ h).1]; exact c2 k _ _ _ _ v h hv
noncomputable def bt (ch t : Nat) : Nat := if ch.testBit t then 1 else 0
namespace Cs
noncomputable def part0 (S : Cs) : Cs := { S with ways := (S.ways.set 0 (keysN S.leasts)).set 1 [] }
noncomputable def partStep (S : Cs) (ch i : Nat) : Cs := { S with goals := S.goals.set (S.O i) (bt ch i), ways := S.ways.set (bt ch i) (S.W (bt ch i) ++ [S.O i ^^^ 1]) }
noncomputable def partI (S : Cs) (ch : Nat) : Nat → Cs
  | 0 => S.part0
  | i + 1 => (S.partI ch i).partStep ch i
noncomputable def part (S : Cs) (ch : Nat) : Cs := S.partI ch S.outlets.length
end Cs
theorem outsB_succ (i : Nat) (O : Nat → Nat) (ch : Nat → Bool) (b : Bool) : outsB (i + 1) O ch b = outsB i O ch b ++ (if ch i = b then [O i ^^^ 1] else []) := by
  unfold outsB
  rw [List.range_succ, List.filter_append, List.map_append]
  congr 1
  by_cases h : ch i = b
  · rw [if_pos h, List.filter_cons, if_pos (by rw [beq_iff_eq]; exact h)]; rfl
  · rw [if_neg h, List.filter_cons, if_neg (by rw [beq_iff_eq]; exact h)]; rfl
structure Parted (S S' : Cs) (ch i : Nat) : Prop where
  o : S'.outlets = S.outlets
  ls : S'.leasts = S.leasts
  rm : S'.rooms = S.rooms
  h : S'.highest = S.highest
  lw : S'.lowest = S.lowest
  gl : S'.goals.length = S.goals.length
  N : S'.N = S.N
  g : ∀ w, (∀ t, t < i → w ≠ S.O t) → S'.g w = S.g w
  go : ∀ t, t < i → S'.g (S.O t) = bt ch t
  W : ∀ x, 2 ≤ x → S'.W x = S.W x
  W0 : S'.W 0 = keysN S.leasts ++ outsB i S.O ch.testBit false
  W1 : S'.W 1 = outsB i S.O ch.testBit true
theorem parted {S : Cs} {n : Nat} (ch : Nat) (N2 : 2 ≤ S.N) (oi : ∀ s t, s < n → t < n → S.O s = S.O t → s = t) (ob : ∀ t, t < n → S.O t < S.goals.length) : ∀ i, i ≤ n → Parted S (S.partI ch i) ch i
  | 0, _ => by
    have hN : 2 ≤ S.ways.length := N2
    have ww : ∀ x, S.part0.W x = if x = 1 then [] else if x = 0 then keysN S.leasts else S.W x := by
      intro x
      show wy ((S.ways.set 0 (keysN S.leasts)).set 1 []) x = _
      rw [wy_set, wy_set, List.length_set]
      by_cases h1 : x = 1
      · rw [if_pos (by lia), if_pos h1]
      · rw [if_neg (by lia), if_neg h1]
        by_cases h0 : x = 0
        · rw [if_pos (by lia), if_pos h0]
        · rw [if_neg (by lia), if_neg h0]
    refine ⟨rfl, rfl, rfl, rfl, rfl, rfl, ?_, fun w _ => rfl, fun t h => by lia, fun x hx => ?_, ?_, ?_⟩
    · show ((S.ways.set 0 _).set 1 _).length = _; rw [List.length_set, List.length_set]
    · show S.part0.W x = _; rw [ww, if_neg (by lia), if_neg (by lia)]
    · show S.part0.W 0 = _; rw [ww, if_neg (by lia), if_pos rfl]; simp [outsB]
    · show S.part0.W 1 = _; rw [ww, if_pos rfl]; simp [outsB]
  | i + 1, hi => by
    have P := parted (S := S) ch N2 oi ob i (by lia)
    obtain ⟨S1, hS1⟩ : ∃ S1, S1 = S.partI ch i := ⟨_, rfl⟩
    rw [← hS1] at P
    show Parted S ((S.partI ch i).partStep ch i) ch (i + 1)
    rw [← hS1]
    have O1 : S1.O = S.O := by unfold Cs.O; rw [P.o]
    have bl : bt ch i < S1.ways.length := by
      have : S1.ways.length = S.N := P.N
      unfold bt; split <;> lia
    have gg : ∀ w, (S1.partStep ch i).g w = if w = S.O i then bt ch i else S1.g w := by
      intro w
      show (S1.goals.set (S1.O i) (bt ch i)).getD w 0 = _
      rw [getD_set, P.gl, O1]
      by_cases h : w = S.O i
      · rw [if_pos ⟨h.symm, by rw [h]; exact ob i (by lia)⟩, if_pos h]
      · rw [if_neg (fun q => h q.1.symm), if_neg h]
    have WW : ∀ x, (S1.partStep ch i).W x = S1.W x ++ (if x = bt ch i then [S.O i ^^^ 1] else []) := by
      intro x
      show wy (S1.ways.set (bt ch i) (S1.W (bt ch i) ++ [S1.O i ^^^ 1])) x = _
      rw [wy_set, O1]
      by_cases h : x = bt ch i
      · subst h
        rw [if_pos ⟨rfl, bl⟩, if_pos rfl]
      · rw [if_neg (fun q => h q.1.symm), if_neg h, List.append_nil]
    have bd : bt ch i = 0 ∧ ch.testBit i = false ∨ bt ch i = 1 ∧ ch.testBit i = true := by
      unfold bt
      cases ch.testBit i
      · exact .inl ⟨rfl, rfl⟩
      · exact .inr ⟨rfl, rfl⟩
    refine ⟨P.o, P.ls, P.rm, P.h, P.lw, ?_, ?_, fun w h => ?_, fun t h => ?_, fun x hx => ?_, ?_, ?_⟩
    · show (S1.goals.set _ _).length = _; rw [List.length_set]; exact P.gl
    · show (S1.ways.set _ _).length = _; rw [List.length_set]; exact P.N
    · rw [gg, if_neg (h i (by lia))]
      exact P.g w fun t ht => h t (by lia)
    · rw [gg]
      by_cases e : t = i
      · subst e; rw [if_pos rfl]
      · rw [if_neg (fun q => e (oi t i (by lia) (by lia) q))]
        exact P.go t (by lia)
    · rw [WW, if_neg (by rcases bd with ⟨q, _⟩ | ⟨q, _⟩ <;> lia), List.append_nil]; exact P.W x hx
    · rw [WW, P.W0, outsB_succ, List.append_assoc]
      rcases bd with ⟨q, z⟩ | ⟨q, z⟩
      · rw [if_pos q.symm, if_pos z]
      · rw [if_neg (by lia), if_neg (by rw [z]; decide)]
    · rw [WW, P.W1, outsB_succ]
      rcases bd with ⟨q, z⟩ | ⟨q, z⟩
      · rw [if_neg (by lia), if_neg (by rw [z]; decide)]
      · rw [if_pos q.symm, if_pos z]
section
variable {n m : Nat} {l : List Went} {iw : Nat → Nat} {S : Cs}
theorem Ok.parted (K : Ok n l m iw S) (ch : Nat) {i : Nat} (hi : i ≤ n) : Parted S (S.partI ch i) ch i :=
  Mg.parted ch K.sk.N2 K.sk.oi (fun t ht => by obtain ⟨e, E⟩ := K.out ht; rw [E.O, K.gl]; have := E.lt; lia) i hi
theorem Ok.part (K : Ok n l m iw S) (ch : Nat) : Ok n l m iw (S.part ch) ∧ Fit m (S.part ch).goals (S.part ch).rooms (S.part ch).ways ∧ Prt n m S.g (S.part ch).g (S.part ch).W (S.part ch).O ch.testBit ∧ Parted S (S.part ch) ch n := by
  have P : Parted S (S.part ch) ch n := by
    have := K.parted ch (Nat.le_refl n)
    unfold Cs.part; rw [K.ol]; exact this
  obtain ⟨S', hS'⟩ : ∃ S', S' = S.part ch := ⟨_, rfl⟩
  rw [← hS'] at P ⊢
  have O1 : S'.O = S.O := by unfold Cs.O; rw [P.o]
  have r1 : S'.r = S.r := by unfold Cs.r; rw [P.rm]
  obtain ⟨sk, pr⟩ := K.sk.part (g' := S'.g) (W' := S'.W) ch.testBit (fun w _ h => P.g w h) (fun t ht => by rw [P.go t ht]; rfl) P.W P.W0 P.W1
  refine ⟨⟨?_, ?_, ?_, ?_, ?_, ?_, K.wf, ?_, K.mb, ?_⟩, ⟨?_, ?_, ?_, pr.wi, pr.wo, pr.nd, ?_⟩, ?_, P⟩
  · rw [P.gl]; exact K.gl
  · rw [P.rm]; exact K.rl
  · rw [P.o]; exact K.ol
  · rw [r1]; exact K.r0
  · rw [P.N, O1, P.ls]; exact sk
  · rw [P.N, O1, r1]
    exact K.rep.congr (fun e he => pr.ctE _ (by lia)) (fun e he => pr.ctE _ (by lia)) (fun _ _ => rfl) fun _ _ => rfl
  · rw [P.ls]; exact K.lst
  · rw [P.N]; exact K.Nb
  · rw [P.gl]; exact K.gl
  · rw [P.rm]; exact K.rl
  · intro w hw; show S'.g w < S'.N; rw [P.N]; rw [← P.N]; exact P.N ▸ sk.gN w hw
  · show ∀ w, 0 ≤ S'.r w; rw [r1]; exact K.r0
  · rw [O1]; exact pr
theorem exc_ct {a b : Nat → Nat} (d : Nat → Int) {p : Nat} (hp : 2 ≤ p) : exc m (fun e => ct (a e)) (fun e => ct (b e)) d p = exc m a b d p := by
  have h : ∀ x, (ct x = p) ↔ x = p := fun x => by
    unfold ct
    split
    · lia
    · exact Iff.rfl
  refine sumN_congr fun e _ => ?_
  simp only [h]
theorem exc_ct1 {a b : Nat → Nat} (d : Nat → Int) : exc m (fun e => ct (a e)) (fun e => ct (b e)) d 1 = 0 := exc_none d (fun e _ => ct_ne1 _) (fun e _ => ct_ne1 _)
theorem Ok.turn (K : Ok n l m iw S) {δ : Nat → Int} {rooms' : List Int} (sh : Sh m S.rooms rooms' δ) (hz : ∀ p, 2 ≤ p → exc m (ogF S.goals) (glF S.goals) δ p = 0) (h0 : ∀ w, 0 ≤ rooms'.getD w 0) :
    Ok n l m iw { S with rooms := rooms' } := by
  refine ⟨K.gl, sh.len.trans K.rl, K.ol, h0, K.sk, ?_, K.wf, K.lst, K.mb, K.Nb⟩
  refine K.rep.shift (δ := δ) (fun p hp _ => ?_) (fun e he => sh.up e he) (fun e he => sh.dn e he)
  by_cases h1 : p = 1
  · subst h1; exact exc_ct1 δ
  · rw [exc_ct δ (show 2 ≤ p by lia)]; exact hz p (by lia)
noncomputable def mkS (S : Cs) (ch n : Nat) : Int := sumN n fun t => if ch.testBit t then S.marked t else 0
noncomputable def amS (S : Cs) (ch n : Nat) : Int := sumN n fun t => if ch.testBit t then S.amount t else 0
theorem Ok.hand (K : Ok n l m iw S) : ∃ ks x, Crs n l ks x ∧ (∀ t, t < n → (x.getD t 0 : Int) = S.marked t) ∧ ∀ k t a lo hi v : Nat, l[k]? = some (.went (.in_ t a lo hi)) → ks[k]? = some v → (v : Int) = lo + S.r (2 * iw k + 1) := by
  refine Ea.x2_3 (K.rep.hand fun e _ => ⟨K.r0 _, K.r0 _⟩) fun ks x hc c1 c2 => ?_
  refine ⟨ks, x, hc, fun t ht => ?_, c2⟩
  obtain ⟨e, E⟩ := K.out ht
  have q := c1 t ht
  simp only [E.dv] at q
  rw [E.mkd]; exact q
theorem Ok.handOn (K : Ok n l m iw S) (ch : Nat) : ∃ ks x, Crs n l ks x ∧ ((Ks175.on ch x : Nat) : Int) = mkS S ch n := by
  refine Ea.x2_3 K.hand fun ks x hc c1 _ => ?_
  refine ⟨ks, x, hc, ?_⟩
  rw [hc.on]
  exact sumN_congr fun t ht => by rw [c1 t ht]
theorem Ok.onLe (K : Ok n l m iw S) {ch : Nat} {ks x : List Nat} (hc : Crs n l ks x) : ((Ks175.on ch x : Nat) : Int) ≤ amS S ch n := by
  rw [hc.on]
  refine sumN_le fun t ht => ?_
  have := hc.le K.wf t
  rw [K.amt ht]
  split <;> lia
noncomputable def Shut (m : Nat) (goals : List Nat) (rooms : List Int) (S : Nat → Bool) : Prop := ∀ w, w < 2 * m → 0 < rooms.getD w 0 → S (goals.getD w 0) = true → S (goals.getD (w ^^^ 1) 0) = true
theorem shut_in {goals : List Nat} {rooms : List Int} {S : Nat → Bool} (h : Shut m goals rooms S) {e : Nat} (he : e < m) (a : S (glF goals e) = true) (b : S (ogF goals e) = false) : upF rooms e ≤ 0 := by
  by_cases q : 0 < upF rooms e
  · have := h (2 * e) (by lia) q a
    rw [xor1_even] at this
    rw [b] at this; cases this
  · lia
theorem shut_out {goals : List Nat} {rooms : List Int} {S : Nat → Bool} (h : Shut m goals rooms S) {e : Nat} (he : e < m) (a : S (ogF goals e) = true) (b : S (glF goals e) = false) : dnF rooms e ≤ 0 := by
  by_cases q : 0 < dnF rooms e
  · have := h (2 * e + 1) (by lia) q a
    rw [xor1_odd] at this
    rw [b] at this; cases this
  · lia
theorem Ok.gathered (K : Ok n l m iw S) {g0 : Nat → Nat} {ch : Nat} (P : Prt n m g0 S.g S.W S.O ch.testBit) (d : Nat → Int) : exc m (ogF S.goals) (glF S.goals) d 1 = sumN n fun t => if ch.testBit t then d (S.O t / 2) else 0 := by
  have otm : ∀ t, t < n → S.O t / 2 < m := fun t ht => by obtain ⟨e, E⟩ := K.out ht; rw [E.dv]; exact E.lt
  have oti : ∀ s t, s < n → t < n → S.O s / 2 = S.O t / 2 → s = t := fun s t hs ht h => by
    obtain ⟨e, E⟩ := K.out hs
    obtain ⟨f, F⟩ := K.out ht
    rw [E.dv, F.dv] at h
    exact OutAt.inj K hs ht E F h
  rw [← sum_outs (ot := fun t => S.O t / 2) (T := ch.testBit) otm oti d]
  refine sumN_congr fun e he => ?_
  have h1 : ¬ ogF S.goals e = 1 := fun q => by
    have q' : S.g (2 * e + 1) = 1 := q
    rcases K.sk.lo (2 * e) (by lia) (by rw [xor1_even, q']; lia) with a | ⟨t, ht, b⟩
    · refine Ea.x1_4 (K.sk.ke _ a) fun e' a1 a2 a3 _ => ?_
      have : e' = e := by lia
      subst this
      lia
    · obtain ⟨f, F⟩ := K.out ht
      have := F.O
      lia
  rw [if_neg h1]
  by_cases h : outs n (fun t => S.O t / 2) ch.testBit e = true
  · refine Ea.x1_3 (outs_iff.mp h) fun t ht hT ht2 => ?_
    obtain ⟨f, F⟩ := K.out ht
    have : f = e := by rw [← F.dv]; exact ht2
    subst this
    have : glF S.goals f = 1 := by
      have q := P.out t ht
      rw [F.O, if_pos hT] at q
      exact q
    rw [if_pos h, if_pos this]; lia
  · have h2 : ¬ glF S.goals e = 1 := fun q => by
      have q' : S.g (2 * e) = 1 := q
      by_cases h3 : ∀ t, t < n → 2 * e ≠ S.O t
      · have := (P.evn e he h3)
        lia
      · refine h (outs_iff.mpr ?_)
        have h4 : ∃ t, t < n ∧ 2 * e = S.O t := by
          refine Classical.byContradiction fun z => h3 fun t ht q => z ⟨t, ht, q⟩
        refine Ea.x1_2 h4 fun t ht h5 => ?_; try clear h4
        refine ⟨t, ht, ?_, by show S.O t / 2 = e; lia⟩
        have q2 := P.out t ht
        rw [← h5, q'] at q2
        cases hb : ch.testBit t
        · rw [hb] at q2; cases q2
        · rfl
    rw [if_neg h, if_neg h2]; rfl
theorem Ok.mkTurn (K : Ok n l m iw S) {g0 : Nat → Nat} {ch : Nat} (P : Prt n m g0 S.g S.W S.O ch.testBit) {δ : Nat → Int} {rooms' : List Int} (sh : Sh m S.rooms rooms' δ) :
    mkS { S with rooms := rooms' } ch n = mkS S ch n + exc m (ogF S.goals) (glF S.goals) δ 1 := by
  rw [K.gathered P, mkS, mkS, ← sumN_add]
  refine sumN_congr fun t ht => ?_
  obtain ⟨e, E⟩ := K.out ht
  have h1 : ({ S with rooms := rooms' } : Cs).marked t = dnF rooms' e := by unfold Cs.marked; show rooms'.getD (S.O t ^^^ 1) 0 = _; rw [E.x]
  rw [h1, E.mkd, E.dv, sh.dn e E.lt]
  split
  · rfl
  · rfl
theorem Ok.courseFlow (K : Ok n l m iw S) {ks x : List Nat} (hc : Crs n l ks x) : ∃ d : Nat → Int, (∀ p, 2 ≤ p → exc m (ogF S.goals) (glF S.goals) d p = 0) ∧ (∀ e, e < m → - dnF S.rooms e ≤ d e ∧ d e ≤ upF S.rooms e) ∧
    (∀ t, t < n → (x.getD t 0 : Int) = S.marked t + d (S.O t / 2)) ∧ ∀ k t a lo hi v : Nat, l[k]? = some (.went (.in_ t a lo hi)) → ks[k]? = some v → (v : Int) = lo + S.r (2 * iw k + 1) + d (iw k) := by
  refine Ea.x1_4 (K.rep.all K.wf hc) fun d b1 b2 b3 b4 => ?_
  refine ⟨d, fun p hp => ?_, b2, fun t ht => ?_, b4⟩
  · by_cases hN : p < S.N
    · have := b1 p (by lia) hN
      rw [exc_ct d hp] at this
      exact this
    · refine exc_none d (fun e he q => ?_) (fun e he q => ?_)
      · have := K.sk.gN (2 * e + 1) (by lia)
        have q' : S.g (2 * e + 1) = p := q
        lia
      · have := K.sk.gN (2 * e) (by lia)
        have q' : S.g (2 * e) = p := q
        lia
  · obtain ⟨e, E⟩ := K.out ht
    have q := b3 t ht
    simp only [E.dv] at q
    rw [E.mkd, E.dv]; exact q
theorem Ok.top (K : Ok n l m iw S) {g0 : Nat → Nat} {ch : Nat} (P : Prt n m g0 S.g S.W S.O ch.testBit) {C : Nat → Bool} (c0 : C 0 = false) (c1 : C 1 = true) (sh : Shut m S.goals S.rooms C) {ks x : List Nat} (hc : Crs n l ks x) :
    ((Ks175.on ch x : Nat) : Int) ≤ mkS S ch n := by
  refine Ea.x1_4 (K.courseFlow hc) fun d b1 b2 b3 _ => ?_
  have q := cut_le (N := S.N) (d := d) C (fun e he => K.sk.gN _ (show 2 * e + 1 < 2 * m by lia)) (fun e he => K.sk.gN _ (show 2 * e < 2 * m by lia)) b2 (fun e he => shut_in sh he) (fun e he => shut_out sh he)
  rw [sumN_one (k := 1) (show 1 < S.N from K.sk.N2) fun p hp hne => by
    by_cases h0 : p = 0
    · subst h0; rw [c0]; rfl
    · rw [b1 p (by lia)]; simp] at q
  simp only [c1, if_true] at q
  rw [K.gathered P] at q
  rw [hc.on]
  have e1 : (sumN n fun t => if ch.testBit t then (x.getD t 0 : Int) else 0) = mkS S ch n + sumN n fun t => if ch.testBit t then d (S.O t / 2) else 0 := by
    rw [mkS, ← sumN_add]
    exact sumN_congr fun t ht => by rw [b3 t ht]; split <;> rfl
  rw [e1]; lia
theorem Ok.low (K : Ok n l m iw S) {g0 : Nat → Nat} {ch : Nat} (P : Prt n m g0 S.g S.W S.O ch.testBit) {C : Nat → Bool} (c0 : C 0 = true) (c1 : C 1 = false) (sh : Shut m S.goals S.rooms C) {ks x : List Nat} (hc : Crs n l ks x) :
    mkS S ch n ≤ ((Ks175.on ch x : Nat) : Int) := by
  refine Ea.x1_4 (K.courseFlow hc) fun d b1 b2 b3 _ => ?_
  have hN : 2 ≤ S.N := K.sk.N2
  have ho : ∀ e, e < m → ogF S.goals e < S.N := fun e he => K.sk.gN _ (show 2 * e + 1 < 2 * m by lia)
  have hg : ∀ e, e < m → glF S.goals e < S.N := fun e he => K.sk.gN _ (show 2 * e < 2 * m by lia)
  have q := cut_le (N := S.N) (d := d) C ho hg b2 (fun e he => shut_in sh he) (fun e he => shut_out sh he)
  rw [sumN_one (k := 0) (by lia) fun p hp hne => by
    by_cases h0 : p = 1
    · subst h0; rw [c1]; rfl
    · rw [b1 p (by lia)]; simp] at q
  simp only [c0, if_true] at q
  have q2 := exc_all d ho hg
  have e0 : sumN S.N (exc m (ogF S.goals) (glF S.goals) d) = exc m (ogF S.goals) (glF S.goals) d 0 + exc m (ogF S.goals) (glF S.goals) d 1 := by
    obtain ⟨M, hM⟩ : ∃ M, S.N = M + 2 := ⟨S.N - 2, by lia⟩
    rw [hM, sumN_head, sumN_head, sumN_zero fun p _ => b1 (p + 1 + 1) (by lia)]; simp
  rw [e0, K.gathered P] at q2
  rw [hc.on]
  have e1 : (sumN n fun t => if ch.testBit t then (x.getD t 0 : Int) else 0) = mkS S ch n + sumN n fun t => if ch.testBit t then d (S.O t / 2) else 0 := by
    rw [mkS, ← sumN_add]
    exact sumN_congr fun t ht => by rw [b3 t ht]; split <;> rfl
  rw [e1]; lia
end
end Mg
end
section
set_option autoImplicit false
set_option maxHeartbeats 1000000
namespace Mg
open Ks176 (Went)
structure Eqv (n : Nat) (l0 l : List Went) : Prop where
  crs : ∀ ks x, Crs n l0 ks x ↔ Crs n l ks x
  gr : gr n l0 = gr n l
  len : l0.length = l.length
  to : ∀ k t a lo hi : Nat, l0[k]? = some (.went (.in_ t a lo hi)) → ∃ lo' hi', l[k]? = some (.went (.in_ t a lo' hi'))
  fro : ∀ k t a lo hi : Nat, l[k]? = some (.went (.in_ t a lo hi)) → ∃ lo' hi', l0[k]? = some (.went (.in_ t a lo' hi'))
theorem Eqv.refl (n : Nat) (l : List Went) : Eqv n l l := ⟨fun _ _ => Iff.rfl, rfl, rfl, fun k t a lo hi h => ⟨lo, hi, h⟩, fun k t a lo hi h => ⟨lo, hi, h⟩⟩
theorem Eqv.snoc {n : Nat} {l0 l : List Went} (E : Eqv n l0 l) (e : Went) : Eqv n (l0 ++ [e]) (l ++ [e]) := by
  refine ⟨fun ks x => ?_, by rw [gr_snoc, gr_snoc, E.gr], by rw [List.length_append, List.length_append, E.len], fun k t a lo hi h => ?_, fun k t a lo hi h => ?_⟩
  · rw [crs_snoc, crs_snoc]
    simp only [E.crs, E.gr]
  · rcases get_snoc h with ⟨hk, g⟩ | ⟨hk, g⟩
    · refine Ea.x2_1 (E.to k t a lo hi g) fun x y q => ?_
      exact ⟨x, y, by rw [List.getElem?_append_left (by rw [← E.len]; exact hk)]; exact q⟩
    · refine ⟨lo, hi, ?_⟩
      rw [hk, E.len, ← g]; simp
  · rcases get_snoc h with ⟨hk, g⟩ | ⟨hk, g⟩
    · refine Ea.x2_1 (E.fro k t a lo hi g) fun x y q => ?_
      exact ⟨x, y, by rw [List.getElem?_append_left (by rw [E.len]; exact hk)]; exact q⟩
    · refine ⟨lo, hi, ?_⟩
      rw [hk, ← E.len, ← g]; simp
theorem in_set {l : List Went} {k t a lo hi lo' hi' : Nat} (h : l[k]? = some (.went (.in_ t a lo hi))) {j t1 a1 lo1 hi1 : Nat} : (l.set k (.went (.in_ t a lo' hi')))[j]? = some (.went (.in_ t1 a1 lo1 hi1)) →
    ∃ lo2 hi2, l[j]? = some (.went (.in_ t1 a1 lo2 hi2)) := by
  intro q
  have kl : k < l.length := (List.getElem?_eq_some_iff.mp h).1
  by_cases e : j = k
  · subst e
    rw [List.getElem?_set_self kl] at q
    cases q
    exact ⟨lo, hi, h⟩
  · rw [List.getElem?_set_ne (fun z => e z.symm)] at q
    exact ⟨lo1, hi1, q⟩
theorem set_in {l : List Went} {k t a lo hi lo' hi' : Nat} (h : l[k]? = some (.went (.in_ t a lo hi))) {j t1 a1 lo1 hi1 : Nat} : l[j]? = some (.went (.in_ t1 a1 lo1 hi1)) →
    ∃ lo2 hi2, (l.set k (.went (.in_ t a lo' hi')))[j]? = some (.went (.in_ t1 a1 lo2 hi2)) := by
  intro q
  have kl : k < l.length := (List.getElem?_eq_some_iff.mp h).1
  by_cases e : j = k
  · subst e
    rw [List.getElem?_set_self kl]
    rw [h] at q
    cases q
    exact ⟨lo', hi', rfl⟩
  · rw [List.getElem?_set_ne (fun z => e z.symm)]
    exact ⟨lo1, hi1, q⟩
theorem Eqv.hear {n : Nat} {l0 l : List Went} (E : Eqv n l0 l) {k t a lo0 hi0 lo hi lo' hi' : Nat} (h0 : l0[k]? = some (.went (.in_ t a lo0 hi0))) (h : l[k]? = some (.went (.in_ t a lo hi))) :
    Eqv n (l0.set k (.went (.in_ t a (max lo0 lo') (min hi0 hi')))) (l.set k (.went (.in_ t a (max lo lo') (min hi hi')))) := by
  refine ⟨fun ks x => ?_, by rw [gr_set l0 h0, gr_set l h, E.gr], by rw [List.length_set, List.length_set, E.len], fun j t1 a1 lo1 hi1 q => ?_, fun j t1 a1 lo1 hi1 q => ?_⟩
  · rw [crs_set l0 h0, crs_set l h, E.crs]
  · refine Ea.x2_1 (in_set h0 q) fun x y z => ?_
    refine Ea.x2_1 (E.to _ _ _ _ _ z) fun x y z => ?_
    exact set_in h z
  · refine Ea.x2_1 (in_set h q) fun x y z => ?_
    refine Ea.x2_1 (E.fro _ _ _ _ _ z) fun x y z => ?_
    exact set_in h0 z
theorem Eqv.tight {n : Nat} {l0 l : List Went} (E : Eqv n l0 l) {k t a lo hi lo' hi' : Nat} (h : l[k]? = some (.went (.in_ t a lo hi))) (all : ∀ (ks x : List Nat) (v : Nat), Crs n l ks x → ks[k]? = some v → lo' ≤ v ∧ v ≤ hi') :
    Eqv n l0 (l.set k (.went (.in_ t a (max lo lo') (min hi hi')))) := by
  refine ⟨fun ks x => ?_, by rw [gr_set l h, E.gr], by rw [List.length_set, E.len], fun j t1 a1 lo1 hi1 q => ?_, fun j t1 a1 lo1 hi1 q => ?_⟩
  · rw [crs_set l h, E.crs]
    constructor
    · intro hc
      have kk : k < ks.length := by rw [hc.len]; exact (List.getElem?_eq_some_iff.mp h).1
      have hv : ks[k]? = some ks[k] := List.getElem?_eq_getElem kk
      exact ⟨hc, _, hv, all ks x _ hc hv⟩
    · exact fun q => q.1
  · refine Ea.x2_1 (E.to _ _ _ _ _ q) fun x y z => ?_
    exact set_in h z
  · refine Ea.x2_1 (in_set h q) fun x y z => ?_
    exact E.fro _ _ _ _ _ z
noncomputable def MostIs (n : Nat) (l : List Went) (s : Nat) (v : Int) : Prop := (∃ ks x, Crs n l ks x ∧ ((Ks175.on s x : Nat) : Int) = v) ∧ ∀ ks x, Crs n l ks x → ((Ks175.on s x : Nat) : Int) ≤ v
noncomputable def LeastIs (n : Nat) (l : List Went) (s : Nat) (v : Int) : Prop := (∃ ks x, Crs n l ks x ∧ ((Ks175.on s x : Nat) : Int) = v) ∧ ∀ ks x, Crs n l ks x → v ≤ ((Ks175.on s x : Nat) : Int)
theorem MostIs.eq {n : Nat} {l : List Went} {s : Nat} {v : Int} (h : MostIs n l s v) : ((Ks176.Abs.most ⟨n, l⟩ s : Nat) : Int) = v := by
  obtain ⟨⟨ks, x, hc, e⟩, a⟩ := h
  rw [most_is hc rfl fun ks' y hy => by have := a ks' y hy; lia, e]
theorem LeastIs.eq {n : Nat} {l : List Went} {s : Nat} {v : Int} (h : LeastIs n l s v) : ((Ks176.Abs.least ⟨n, l⟩ s : Nat) : Int) = v := by
  obtain ⟨⟨ks, x, hc, e⟩, a⟩ := h
  rw [least_is hc rfl fun ks' y hy => by have := a ks' y hy; lia, e]
theorem MostIs.eqv {n : Nat} {l0 l : List Went} {s : Nat} {v : Int} (E : Eqv n l0 l) (h : MostIs n l s v) : MostIs n l0 s v := by
  obtain ⟨⟨ks, x, hc, e⟩, a⟩ := h
  exact ⟨⟨ks, x, (E.crs _ _).mpr hc, e⟩, fun ks x hc => a ks x ((E.crs _ _).mp hc)⟩
theorem LeastIs.eqv {n : Nat} {l0 l : List Went} {s : Nat} {v : Int} (E : Eqv n l0 l) (h : LeastIs n l s v) : LeastIs n l0 s v := by
  obtain ⟨⟨ks, x, hc, e⟩, a⟩ := h
  exact ⟨⟨ks, x, (E.crs _ _).mpr hc, e⟩, fun ks x hc => a ks x ((E.crs _ _).mp hc)⟩
structure Cch (n : Nat) (l : List Went) (S : Cs) : Prop where
  hi : ∀ s v, look S.highest s = some v → MostIs n l s v
  lo : ∀ s v, look S.lowest s = some v → LeastIs n l s v
theorem Cch.none {n : Nat} {l : List Went} {S : Cs} (h1 : S.highest = []) (h2 : S.lowest = []) : Cch n l S := ⟨fun s v h => (by rw [h1] at h; cases h), fun s v h => (by rw [h2] at h; cases h)⟩
theorem Rep.none2 {n : Nat} {og gl : Nat → Nat} {up dn : Nat → Int} {ot iw : Nat → Nat} (eo : ∀ e, e < n → og e = e + 2) (eg : ∀ e, e < n → gl e = 0) (eu : ∀ e, e < n → up e = 0) (ed : ∀ e, e < n → dn e = 0) (eot : ∀ t, t < n → ot t = t) :
    Rep n [] n (n + 2) og gl up dn ot iw := by
  refine ⟨?_, ?_, ?_, ?_, ?_, ?_, ?_, ?_, ?_, ?_, ?_⟩
  · intro e he; rw [eo e he]; lia
  · intro e he; rw [eg e he]; lia
  · intro t ht; rw [eot t ht]; exact ht
  · intro s t hs ht h; rw [eot s hs, eot t ht] at h; exact h
  · intro t ht; rw [eot t ht, eg t ht]
  · intro t ht; rw [eot t ht, eo t ht]; lia
  · intro t ht; rw [eot t ht, eu t ht, ed t ht, gr_nil, getD_none]; rfl
  · intro k t a lo hi h; simp at h
  · intro k k' t a lo hi t' a' lo' hi' h; simp at h
  · intro ks x hc
    obtain ⟨rfl, rfl⟩ := crs_nil.mp hc
    refine ⟨fun _ => 0, fun p _ _ => exc_zero _ _ _ p, fun e he hne => absurd (eot e he).symm (hne e he), ?_, ?_⟩
    · intro t ht; rw [eot t ht, ed t ht, getD_none]; rfl
    · intro k t a lo hi v h; simp at h
  · intro d b1 b2
    refine ⟨[], _, .nil, ?_, ?_⟩
    · intro t ht
      rw [eot t ht, ed t ht, getD_none]
      have q := b1 (t + 2) (by lia) (by lia)
      unfold exc at q
      rw [sumN_one (k := t) ht fun i hi hne => by rw [eo i hi, eg i hi, if_neg (by lia), if_neg (by lia)]; rfl, eo t ht, eg t ht, if_neg (by lia), if_pos rfl] at q
      lia
    · intro k t a lo hi v h; simp at h
section
variable {n m : Nat} {l : List Went} {iw : Nat → Nat} {S : Cs}
structure Brt (n m : Nat) (l : List Went) (iw : Nat → Nat) (S : Cs) (ch : Nat) (rooms' : List Int) (v : Int) : Prop where
  ok : Ok n l m iw { S.part ch with rooms := rooms' }
  prt : Prt n m S.g ({ S.part ch with rooms := rooms' } : Cs).g ({ S.part ch with rooms := rooms' } : Cs).W ({ S.part ch with rooms := rooms' } : Cs).O ch.testBit
  mk' : mkS { S.part ch with rooms := rooms' } ch n = v
theorem Ok.bring (K : Ok n l m iw S) {ch : Nat} {a b : Nat} {v x : Int} {rooms' : List Int} (hab : (a = 0 ∧ b = 1 ∧ x = v) ∨ (a = 1 ∧ b = 0 ∧ x = - v)) (F : Flo m (S.part ch).goals a b v (S.part ch).rooms rooms') (h0 : ∀ w, 0 ≤ rooms'.getD w 0) :
    Brt n m l iw S ch rooms' (mkS S ch n + x) := by
  refine Ea.a4 (K.part ch) fun K1 Fi P Pd => ?_
  refine Ea.x1_2 F fun δ sh ex => ?_; try clear F
  have K2 : Ok n l m iw { S.part ch with rooms := rooms' } := K1.turn sh (fun p hp => by rw [ex]; rcases hab with ⟨rfl, rfl, _⟩ | ⟨rfl, rfl, _⟩ <;> rw [if_neg (by lia), if_neg (by lia)] <;> rfl) h0
  refine ⟨K2, P, ?_⟩
  rw [K1.mkTurn P sh, ex]
  have e1 : mkS (S.part ch) ch n = mkS S ch n := by
    refine sumN_congr fun t _ => ?_
    unfold Cs.marked Cs.r Cs.O
    rw [Pd.rm, Pd.o]
  rw [e1]
  rcases hab with ⟨rfl, rfl, rfl⟩ | ⟨rfl, rfl, rfl⟩
  · simp
  · simp
theorem Brt.most {ch : Nat} {rooms' : List Int} {v : Int} (B : Brt n m l iw S ch rooms' v) {C : Nat → Bool} (c0 : C 0 = false) (c1 : C 1 = true) (sh : Shut m (S.part ch).goals rooms' C) : MostIs n l ch v := by
  refine ⟨?_, fun ks x hc => ?_⟩
  · refine Ea.x2_2 (B.ok.handOn ch) fun ks x hc e => ?_
    exact ⟨ks, x, hc, by rw [e, B.mk']⟩
  · have := B.ok.top B.prt c0 c1 sh hc
    rwa [B.mk'] at this
theorem Brt.least {ch : Nat} {rooms' : List Int} {v : Int} (B : Brt n m l iw S ch rooms' v) {C : Nat → Bool} (c0 : C 0 = true) (c1 : C 1 = false) (sh : Shut m (S.part ch).goals rooms' C) : LeastIs n l ch v := by
  refine ⟨?_, fun ks x hc => ?_⟩
  · refine Ea.x2_2 (B.ok.handOn ch) fun ks x hc e => ?_
    exact ⟨ks, x, hc, by rw [e, B.mk']⟩
  · have := B.ok.low B.prt c0 c1 sh hc
    rwa [B.mk'] at this
noncomputable def setRm (rooms : List Int) (e : Nat) (x y : Int) : List Int := (rooms.set (2 * e) x).set (2 * e + 1) y
theorem setRm_len (rooms : List Int) (e : Nat) (x y : Int) : (setRm rooms e x y).length = rooms.length := by simp [setRm]
theorem setRm_get {rooms : List Int} {e : Nat} (he : e < m) (hr : rooms.length = 2 * m) (x y : Int) (w : Nat) : (setRm rooms e x y).getD w 0 = if w = 2 * e then x else if w = 2 * e + 1 then y else rooms.getD w 0 := by
  rw [setRm, getI_set, getI_set, List.length_set, hr]
  by_cases q : w = 2 * e
  · rw [if_neg (by lia), if_pos (by lia), if_pos q]
  · rw [if_neg q]
    by_cases q2 : w = 2 * e + 1
    · rw [if_pos (by lia), if_pos q2]
    · rw [if_neg (by lia), if_neg (by lia), if_neg q2]
theorem setRm_up {rooms : List Int} {e : Nat} (he : e < m) (hr : rooms.length = 2 * m) (x y : Int) (i : Nat) : upF (setRm rooms e x y) i = if i = e then x else upF rooms i := by
  show (setRm rooms e x y).getD (2 * i) 0 = _
  rw [setRm_get he hr]
  by_cases q : i = e
  · rw [if_pos (by lia), if_pos q]
  · rw [if_neg (by lia), if_neg (by lia), if_neg q]
theorem setRm_dn {rooms : List Int} {e : Nat} (he : e < m) (hr : rooms.length = 2 * m) (x y : Int) (i : Nat) : dnF (setRm rooms e x y) i = if i = e then y else dnF rooms i := by
  show (setRm rooms e x y).getD (2 * i + 1) 0 = _
  rw [setRm_get he hr]
  by_cases q : i = e
  · rw [if_neg (by lia), if_pos (by lia), if_pos q]
  · rw [if_neg (by lia), if_neg (by lia), if_neg q]
structure InAt (m : Nat) (S : Cs) (e : Nat) : Prop where
  lt : e < m
  og : S.g (2 * e + 1) = 0
  gl : 2 ≤ S.g (2 * e)
theorem Ok.inAt (K : Ok n l m iw S) {k t a lo hi : Nat} (hk : l[k]? = some (.went (.in_ t a lo hi))) : InAt m S (iw k) := by
  have key : 2 * iw k ∈ keysN S.leasts := look_mem.mp (by rw [K.lst k _ _ _ _ hk]; rfl)
  refine Ea.x1_4 (K.sk.ke _ key) fun e a1 a2 a3 a4 => ?_
  have : e = iw k := by lia
  subst this
  exact ⟨a1, a3, a4⟩
theorem Ok.zeroFit (K : Ok n l m iw S) {e : Nat} (he : e < m) : Fit m (S.part 0).goals (setRm S.rooms e 0 0) (S.part 0).ways := by
  refine Ea.a4 (K.part 0) fun K1 Fi P Pd => ?_
  refine Fi.rooms ((setRm_len _ _ _ _).trans K.rl) fun w => ?_
  rw [setRm_get he K.rl]
  have := K.r0 w
  split
  · exact Int.le_refl 0
  · split
    · exact Int.le_refl 0
    · exact this
theorem Ok.along (K : Ok n l m iw S) {e a b : Nat} {v x : Int} {rooms' : List Int} (I : InAt m S e) (hab : (a = S.g (2 * e) ∧ b = 0 ∧ x = v) ∨ (a = 0 ∧ b = S.g (2 * e) ∧ x = - v)) (F : Flo m (S.part 0).goals a b v (setRm S.rooms e 0 0) rooms') (h0 : ∀ w, 0 ≤ rooms'.getD w 0)
    (hu : x ≤ S.r (2 * e)) (hd : - S.r (2 * e + 1) ≤ x) :
    Ok n l m iw { S.part 0 with rooms := setRm rooms' e (S.r (2 * e) - x) (S.r (2 * e + 1) + x) } ∧ (S.part 0).g (2 * e) = S.g (2 * e) ∧ (S.part 0).g (2 * e + 1) = 0 := by
  refine Ea.a4 (K.part 0) fun K1 Fi P Pd => ?_
  refine Ea.x1_2 F fun δ sh ex => ?_; try clear F
  have he := I.lt
  have g1 : (S.part 0).g (2 * e + 1) = 0 := by rw [P.odd e he]; exact I.og
  have notout : ∀ t, t < n → 2 * e ≠ S.O t := fun t ht q => by
    refine Ea.x1_4 (K.sk.oe t ht) fun f a1 a2 a3 a4 => ?_
    have : f = e := by lia
    subst this
    have := I.gl
    lia
  have O1 : (S.part 0).O = S.O := by unfold Cs.O; rw [Pd.o]
  have g2 : (S.part 0).g (2 * e) = S.g (2 * e) := (P.evn e he (by rw [O1]; exact notout)).1
  have rl' : rooms'.length = 2 * m := sh.len.trans ((setRm_len _ _ _ _).trans K.rl)
  have de : δ e = 0 := by
    have u := sh.up e he
    have d := sh.dn e he
    rw [setRm_up he K.rl, if_pos rfl] at u
    rw [setRm_dn he K.rl, if_pos rfl] at d
    have q1 : 0 ≤ upF rooms' e := h0 _
    have q2 : 0 ≤ dnF rooms' e := h0 _
    lia
  refine ⟨K1.turn (δ := up1 δ e x) ⟨?_, fun i hi => ?_, fun i hi => ?_⟩ (fun p hp => ?_) (fun w => ?_), g2, g1⟩
  · rw [setRm_len, rl', Pd.rm, K.rl]
  · rw [setRm_up he rl', Pd.rm]
    by_cases q : i = e
    · subst q; rw [if_pos rfl, up1_same]
    · rw [if_neg q, up1_ne q, sh.up i hi, setRm_up he K.rl, if_neg q]
  · rw [setRm_dn he rl', Pd.rm]
    by_cases q : i = e
    · subst q; rw [if_pos rfl, up1_same]
    · rw [if_neg q, up1_ne q, sh.dn i hi, setRm_dn he K.rl, if_neg q]
  · rw [exc_upd he, ex, de]
    have q1 : glF (S.part 0).goals e = S.g (2 * e) := g2
    have q2 : ogF (S.part 0).goals e = 0 := g1
    rw [q1, q2]
    have h0 : ¬ 0 = p := by lia
    rcases hab with ⟨rfl, rfl, rfl⟩ | ⟨rfl, rfl, rfl⟩
    · rw [if_neg h0, if_neg h0]; split <;> lia
    · rw [if_neg h0, if_neg h0]; split <;> lia
  · rw [setRm_get he rl']
    have := h0 w
    split
    · lia
    · split <;> lia
theorem Ok.alongCut (K : Ok n l m iw S) {e : Nat} {x y : Int} {rooms' : List Int} (I : InAt m S e) (K2 : Ok n l m iw { S.part 0 with rooms := setRm rooms' e x y }) (rl : rooms'.length = 2 * m) {C : Nat → Bool} (sh : Shut m (S.part 0).goals rooms' C) (hd : Nat → Int)
    (g2 : (S.part 0).g (2 * e) = S.g (2 * e)) (g1 : (S.part 0).g (2 * e + 1) = 0) {ks xs : List Nat} (hc : Crs n l ks xs) :
    ∃ d : Nat → Int, (0 ≤ (if C (S.g (2 * e)) then d e else 0) - (if C 0 then d e else 0)) ∧ ∀ k t a lo hi v : Nat, l[k]? = some (.went (.in_ t a lo hi)) → ks[k]? = some v → (v : Int) = lo + dnF (setRm rooms' e x y) (iw k) + d (iw k) := by
  refine Ea.a4 (K.part 0) fun _ _ P Pd => ?_
  have he := I.lt
  refine Ea.x1_4 (K2.courseFlow hc) fun d b1 b2 b3 b4 => ?_
  refine ⟨d, ?_, b4⟩
  have z1 : exc m (ogF (S.part 0).goals) (glF (S.part 0).goals) d 1 = 0 := by
    have := K2.gathered (ch := 0) (g0 := S.g) P d
    rw [show exc m (ogF (S.part 0).goals) (glF (S.part 0).goals) d 1 = _ from this]
    exact sumN_zero fun t _ => by simp
  have q := cut_gen (N := S.N) (og := ogF (S.part 0).goals) (gl := glF (S.part 0).goals) (up := upF (setRm rooms' e x y)) (dn := dnF (setRm rooms' e x y)) (d := d) C (fun i => decide (i = e)) (fun i hi => by have := K2.sk.gN (2 * i + 1) (by lia); rw [← Pd.N]; exact this) (fun i hi => by have := K2.sk.gN (2 * i) (by lia); rw [← Pd.N]; exact this) (by have := K.sk.N2; lia)
    (fun p hp _ => by
      by_cases h1 : p = 1
      · subst h1; exact z1
      · exact b1 p (by lia))
    (fun i hi _ => b2 i hi)
    (fun i hi hX ha hb => by
      have hne : i ≠ e := of_decide_eq_false hX
      rw [setRm_up he rl, if_neg hne]
      exact shut_in sh hi ha hb)
    (fun i hi hX ha hb => by
      have hne : i ≠ e := of_decide_eq_false hX
      rw [setRm_dn he rl, if_neg hne]
      exact shut_out sh hi ha hb)
  rw [sumN_one (k := e) he fun i _ hne => by rw [if_neg (by simpa using hne)]] at q
  rw [if_pos (by simp)] at q
  have q1 : glF (S.part 0).goals e = S.g (2 * e) := g2
  have q2 : ogF (S.part 0).goals e = 0 := g1
  rw [q1, q2] at q
  exact q
structure Ini (i : Nat) (S : Cs) : Prop where
  gl : S.goals.length = 2 * i
  rl : S.rooms.length = 2 * i
  N : S.N = i + 2
  ol : S.outlets.length = i
  g0 : ∀ e, e < i → S.g (2 * e) = 0
  g1 : ∀ e, e < i → S.g (2 * e + 1) = e + 2
  r : ∀ w, S.r w = 0
  W : ∀ e, e < i → S.W (e + 2) = [2 * e]
  W0 : (S.W 0).length ≤ i
  W1 : S.W 1 = []
  O : ∀ t, t < i → S.O t = 2 * t
  ls : S.leasts = []
  h : S.highest = []
  lw : S.lowest = []
theorem Ini.zero : Ini 0 ⟨[], [], [[], []], [], [], [], []⟩ :=
  ⟨rfl, rfl, rfl, rfl, fun e h => by lia, fun e h => by lia, fun w => rfl, fun e h => by lia, Nat.le_refl _, rfl, fun t h => by lia, rfl, rfl, rfl⟩
noncomputable def Cs.iniStep (S : Cs) : Cs :=
  let S1 : Cs := { S with ways := S.ways ++ [[]] }
  { S1.addWay S.N 0 0 0 with outlets := S.outlets ++ [S.goals.length] }
theorem Ini.step {i : Nat} {S : Cs} (I : Ini i S) : Ini (i + 1) S.iniStep := by
  obtain ⟨S1, hS1⟩ : ∃ S1 : Cs, S1 = { S with ways := S.ways ++ [[]] } := ⟨_, rfl⟩
  have e1 : S.iniStep = { S1.addWay S.N 0 0 0 with outlets := S.outlets ++ [S.goals.length] } := by rw [hS1]; rfl
  have gl1 : S1.goals.length = 2 * i := by rw [hS1]; exact I.gl
  have rl1 : S1.rooms.length = 2 * i := by rw [hS1]; exact I.rl
  have N1 : S1.N = i + 3 := by rw [hS1]; show (S.ways ++ [[]]).length = _; rw [List.length_append]; have := I.N; unfold Cs.N at this; simp; lia
  have G : ∀ w, S.iniStep.g w = if w < 2 * i then S.g w else if w = 2 * i then 0 else if w = 2 * i + 1 then S.N else 0 := fun w => by
    rw [e1]; show (S1.addWay S.N 0 0 0).g w = _; rw [Cs.addWay_g gl1, hS1]
  have R : ∀ w, S.iniStep.r w = 0 := fun w => by
    rw [e1]; show (S1.addWay S.N 0 0 0).r w = _; rw [Cs.addWay_r rl1, hS1]
    have := I.r w
    repeat' split
    all_goals first | rfl | exact this
  have hN := I.N
  have Wc : ∀ p, S.iniStep.W p = (if p < i + 2 then S.W p else []) ++ (if p = i + 2 then [2 * i] else []) ++ (if p = 0 then [2 * i + 1] else []) := fun p => by
    rw [e1]; show (S1.addWay S.N 0 0 0).W p = _
    rw [Cs.addWay_W gl1 (by lia) (by lia), hN]
    congr 2
    rw [hS1]
    show wy (S.ways ++ [[]]) p = _
    rw [wy_snoc, show S.ways.length = i + 2 from hN]
    split
    · rfl
    · split <;> rfl
  refine ⟨?_, ?_, ?_, ?_, ?_, ?_, R, ?_, ?_, ?_, ?_, I.ls, I.h, I.lw⟩
  · rw [e1]; show (S1.addWay S.N 0 0 0).goals.length = _; rw [Cs.addWay_len, gl1]; lia
  · rw [e1]; show (S1.addWay S.N 0 0 0).rooms.length = _; rw [Cs.addWay_rlen, rl1]; lia
  · rw [e1]; show (S1.addWay S.N 0 0 0).N = _; rw [Cs.addWay_N, N1]
  · rw [e1]; show (S.outlets ++ [S.goals.length]).length = _; rw [List.length_append, I.ol]; rfl
  · intro e he
    rw [G]
    by_cases q : e = i
    · rw [if_neg (by lia), if_pos (by lia)]
    · rw [if_pos (by lia)]; exact I.g0 e (by lia)
  · intro e he
    rw [G]
    by_cases q : e = i
    · rw [if_neg (by lia), if_neg (by lia), if_pos (by lia)]; lia
    · rw [if_pos (by lia)]; exact I.g1 e (by lia)
  · intro e he
    rw [Wc]
    by_cases q : e = i
    · rw [if_neg (by lia), if_pos (by lia), if_neg (by lia), q]; rfl
    · rw [if_pos (by lia), if_neg (by lia), if_neg (by lia), List.append_nil, List.append_nil]; exact I.W e (by lia)
  · rw [Wc, if_pos (by lia), if_neg (by lia), if_pos rfl, List.append_nil, List.length_append, List.length_singleton]
    have := I.W0
    lia
  · rw [Wc, if_pos (by lia), if_neg (by lia), if_neg (by lia), I.W1]; rfl
  · intro t ht
    rw [e1]; show (S.outlets ++ [S.goals.length]).getD t 0 = _
    rw [List.getD_eq_getElem?_getD]
    by_cases q : t = i
    · rw [q, List.getElem?_append_right (by rw [I.ol]; exact Nat.le_refl _), I.ol, I.gl]; simp
    · rw [List.getElem?_append_left (by rw [I.ol]; lia), ← List.getD_eq_getElem?_getD]; exact I.O t (by lia)
theorem Ini.ok {n : Nat} {S : Cs} (I : Ini n S) (iw : Nat → Nat) : Ok n [] n iw S := by
  refine ⟨I.gl, I.rl, I.ol, (fun w => by rw [I.r]; exact Int.le_refl 0), ?_, ?_, .nil, fun k t a lo hi h => by simp at h, by lia, by rw [I.N]; simp; lia⟩
  · rw [I.N, I.ls]
    have cas : ∀ w, w < 2 * n → ∃ e, e < n ∧ (w = 2 * e ∨ w = 2 * e + 1) := fun w hw => ⟨w / 2, by lia, by lia⟩
    refine ⟨by lia, ?_, ?_, ?_, ?_, ?_, ?_, List.nodup_nil, (fun w hw => by cases hw), ?_, ?_⟩
    · intro w hw
      obtain ⟨e, he, rfl | rfl⟩ := cas w hw
      · rw [I.g0 e he]; lia
      · rw [I.g1 e he]; lia
    · intro w hw h2
      obtain ⟨e, he, rfl | rfl⟩ := cas w hw
      · rw [xor1_even, I.g1 e he, I.W e he]; simp
      · rw [xor1_odd, I.g0 e he] at h2; lia
    · intro p w hp hw
      by_cases hN : p < n + 2
      · obtain ⟨e, rfl⟩ : ∃ e, p = e + 2 := ⟨p - 2, by lia⟩
        rw [I.W e (by lia), List.mem_singleton] at hw
        subst hw
        exact ⟨by lia, by rw [xor1_even]; exact I.g1 e (by lia)⟩
      · rw [show S.W p = [] from wy_out (by have := I.N; unfold Cs.N at this; lia)] at hw; cases hw
    · intro p hp
      by_cases hN : p < n + 2
      · obtain ⟨e, rfl⟩ : ∃ e, p = e + 2 := ⟨p - 2, by lia⟩
        rw [I.W e (by lia)]; simp
      · rw [show S.W p = [] from wy_out (by have := I.N; unfold Cs.N at this; lia)]; exact List.nodup_nil
    · intro t ht
      exact ⟨t, ht, I.O t ht, by rw [I.g0 t ht]; lia, by rw [I.g1 t ht]; lia⟩
    · intro s t hs ht h
      rw [I.O s hs, I.O t ht] at h; lia
    · intro w hw h2
      obtain ⟨e, he, rfl | rfl⟩ := cas w hw
      · rw [xor1_even, I.g1 e he] at h2; lia
      · exact .inr ⟨e, he, by rw [I.O e he]⟩
    · intro p
      by_cases h0 : p = 0
      · subst h0; have := I.W0; lia
      · by_cases h1 : p = 1
        · subst h1; rw [I.W1]; simp
        · by_cases hN : p < n + 2
          · obtain ⟨e, rfl⟩ : ∃ e, p = e + 2 := ⟨p - 2, by lia⟩
            rw [I.W e (by lia)]; simp; lia
          · rw [show S.W p = [] from wy_out (by have := I.N; unfold Cs.N at this; lia)]; simp
  · rw [I.N]
    refine Rep.none2 (fun e he => ?_) (fun e he => ?_) (fun e he => I.r _) (fun e he => I.r _) (fun t ht => ?_)
    · rw [I.g1 e he]; exact ct_ge (by lia)
    · rw [I.g0 e he]; rfl
    · rw [I.O t ht]; lia
end
end Mg
end
section
set_option autoImplicit false
set_option maxHeartbeats 1000000
namespace Mg
open Ks176 (Went)
structure Rl (s : Ks176.Abs) (S : Cs) (co : List (Nat × Int)) (l : List Went) (m : Nat) (iw : Nat → Nat) : Prop where
  ok : Ok s.tanks l m iw S
  eqv : Eqv s.tanks s.went l
  good : Good s
  cch : Cch s.tanks l S
  cw : ∀ (k : Nat) (v : Int), look co k = some v → ∃ t a lo hi : Nat, l[k]? = some (.went (.in_ t a lo hi)) ∧ v = ((2 * iw k : Nat) : Int)
  cx : ∀ k t a lo hi : Nat, l[k]? = some (.went (.in_ t a lo hi)) → look co k = some ((2 * iw k : Nat) : Int)
  t32 : s.tanks ≤ 32
  w256 : s.went.length ≤ 256
  cl : co.length ≤ s.went.length
structure Bring (n m : Nat) (l : List Went) (iw : Nat → Nat) (S S' : Cs) (ch : Nat) (lo hi v : Int) : Prop where
  ok : Ok n l m iw S'
  cch : Cch n l S'
  inn : lo ≤ v → v ≤ hi → mkS S' ch n = v
  below : v < lo → MostIs n l ch v
  above : hi < v → LeastIs n l ch v
  hl : S'.highest.length ≤ S.highest.length + 1
  ll : S'.lowest.length ≤ S.lowest.length + 1
structure BrC (n m : Nat) (l : List Went) (iw : Nat → Nat) (S S' : Cs) (k lo : Nat) (lo' hi' v : Int) : Prop where
  ok : Ok n l m iw S'
  hh : S'.highest = S.highest
  ll : S'.lowest = S.lowest
  veq : v = lo + S'.r (2 * iw k + 1)
  below : v < lo' → ∀ (ks x : List Nat) (u : Nat), Crs n l ks x → ks[k]? = some u → (u : Int) ≤ v
  above : hi' < v → ∀ (ks x : List Nat) (u : Nat), Crs n l ks x → ks[k]? = some u → v ≤ (u : Int)
theorem Cch.of {n : Nat} {l : List Went} {S S' : Cs} (h : Cch n l S) (e1 : S'.highest = S.highest) (e2 : S'.lowest = S.lowest) : Cch n l S' := ⟨by rw [e1]; exact h.hi, by rw [e2]; exact h.lo⟩
theorem Cch.putHi {n : Nat} {l : List Went} {S : Cs} (h : Cch n l S) {ch : Nat} {v : Int} (q : MostIs n l ch v) : Cch n l { S with highest := putN S.highest ch v } :=
  ⟨fun s u e => by
    have e2 : look (putN S.highest ch v) s = some u := e
    clear e
    rw [look_put] at e2
    split at e2
    · rename_i z; subst z; cases e2; exact q
    · exact h.hi s u e2, h.lo⟩
theorem Cch.putLo {n : Nat} {l : List Went} {S : Cs} (h : Cch n l S) {ch : Nat} {v : Int} (q : LeastIs n l ch v) : Cch n l { S with lowest := putN S.lowest ch v } :=
  ⟨h.hi, fun s u e => by
    have e2 : look (putN S.lowest ch v) s = some u := e
    clear e
    rw [look_put] at e2
    split at e2
    · rename_i z; subst z; cases e2; exact q
    · exact h.lo s u e2⟩
theorem Cch.eqv {n : Nat} {l l' : List Went} {S : Cs} (h : Cch n l S) (e : ∀ ks x, Crs n l ks x ↔ Crs n l' ks x) : Cch n l' S := by
  refine ⟨fun s v q => ?_, fun s v q => ?_⟩
  · obtain ⟨⟨ks, x, hc, z⟩, a⟩ := h.hi s v q
    exact ⟨⟨ks, x, (e _ _).mp hc, z⟩, fun ks x hc => a ks x ((e _ _).mpr hc)⟩
  · obtain ⟨⟨ks, x, hc, z⟩, a⟩ := h.lo s v q
    exact ⟨⟨ks, x, (e _ _).mp hc, z⟩, fun ks x hc => a ks x ((e _ _).mpr hc)⟩
theorem Ok.put {n m : Nat} {l : List Went} {iw : Nat → Nat} {S : Cs} (K : Ok n l m iw S) (h lw : List (Nat × Int)) : Ok n l m iw { S with highest := h, lowest := lw } :=
  ⟨K.gl, K.rl, K.ol, K.r0, K.sk, K.rep, K.wf, K.lst, K.mb, K.Nb⟩
theorem bit1 (t i : Nat) : (1 * 2 ^ t).testBit i = decide (t = i) := by rw [Nat.one_mul, Nat.testBit_two_pow]
theorem sum1 {n t : Nat} (ht : t < n) (f : Nat → Int) : (sumN n fun i => if (1 * 2 ^ t).testBit i then f i else 0) = f t := by
  rw [sumN_one (k := t) ht fun i _ hne => by rw [bit1, decide_eq_false (fun e => hne e.symm)]; rfl, bit1, decide_eq_true rfl]; rfl
theorem on1 {n t : Nat} {l : List Went} {ks x : List Nat} (hc : Crs n l ks x) (ht : t < n) : ((Ks175.on (1 * 2 ^ t) x : Nat) : Int) = x.getD t 0 := by
  rw [hc.on]; exact sum1 ht fun i => (x.getD i 0 : Int)
theorem mkS1 {n t : Nat} (S : Cs) (ht : t < n) : mkS S (1 * 2 ^ t) n = S.marked t := sum1 ht S.marked
section
variable {s : Ks176.Abs} {S : Cs} {co : List (Nat × Int)} {l : List Went} {m : Nat} {iw : Nat → Nat}
theorem Rl.begin {n : Nat} {S : Cs} (I : Ini n S) (h : n ≤ 32) : Rl ⟨n, []⟩ S [] [] n iw :=
  ⟨I.ok iw, .refl _ _, good_none n, .none I.h I.lw, fun k v h => (by cases h), fun k t a lo hi h => (by simp at h), h, Nat.zero_le _, Nat.le_refl _⟩
theorem Rl.has (R : Rl s S co l m iw) {t : Nat} (ht : t < s.tanks) : S.amount t = (Ks176.Abs.has s t : Nat) := by
  rw [R.ok.amt ht, ← R.eqv.gr]; rfl
theorem Rl.come (R : Rl s S co l m iw) {t a lo hi : Nat} (h : ¬ (s.tanks ≤ t ∨ a = 0 ∨ Ks175.AMOUNT < a ∨ hi < lo ∨ a < hi)) (hm : ¬ Ks175.MANY ≤ s.went.length) :
    ∃ s', Ks176.act s (.in_ t a lo hi) = (s', Ks176.say s.went.length) ∧ s'.tanks = s.tanks ∧ s'.went.length = s.went.length + 1 ∧ ∃ l' iw', Rl s' (S.comeIn t a lo hi) (putN co s.went.length (S.goals.length : Nat)) l' (m + 1) iw' := by
  obtain ⟨n, l0⟩ := s
  obtain ⟨e1, e2⟩ := act_in R.good h hm
  have ht : t < n := by have : ¬ n ≤ t := fun q => h (.inl q); lia
  have hm' : ¬ 256 ≤ l0.length := hm
  have len : l0.length = l.length := R.eqv.len
  refine ⟨_, e1, rfl, by simp, _, _, R.ok.come ht (by lia) (by lia), R.eqv.snoc _, e2, .none rfl rfl, fun k v q => ?_, fun k t' a' lo' hi' q => ?_, R.t32, by simp; lia, ?_⟩
  · rw [look_put] at q
    show ∃ t a lo hi : Nat, (l ++ _)[k]? = _ ∧ _
    split at q
    · rename_i z
      cases q
      refine ⟨t, a, lo, hi, ?_, ?_⟩
      · rw [z, len]; simp
      · rw [if_pos (by rw [z, len]), R.ok.gl]
    · rename_i z
      refine Ea.x4_2 (R.cw k v q) fun t1 a1 lo1 hi1 b1 b2 => ?_
      have kl : k < l.length := (List.getElem?_eq_some_iff.mp b1).1
      refine ⟨t1, a1, lo1, hi1, by rw [List.getElem?_append_left kl]; exact b1, ?_⟩
      rw [if_neg (by lia)]; exact b2
  · rw [look_put]
    rcases get_snoc q with ⟨hk, g⟩ | ⟨hk, g⟩
    · have : k ≠ l0.length := by lia
      rw [if_neg this, if_neg (by lia)]
      exact R.cx k _ _ _ _ g
    · have : k = l0.length := by lia
      rw [if_pos this, if_pos hk, R.ok.gl]
  · have := len_putN co l0.length (S.goals.length : Nat)
    have := R.cl
    simp at *
    lia
theorem Rl.pour (R : Rl s S co l m iw) {f t a : Nat} (h : ¬ (s.tanks ≤ f ∨ s.tanks ≤ t ∨ f = t ∨ a = 0)) (hh : ¬ Ks176.Abs.has s f < a) (hm : ¬ Ks175.MANY ≤ s.went.length) :
    ∃ s', Ks176.act s (.pour f t a) = (s', Ks176.say s.went.length) ∧ s'.tanks = s.tanks ∧ s'.went.length = s.went.length + 1 ∧ ∃ l' iw', Rl s' (S.pourS f t a) co l' (m + 2) iw' := by
  obtain ⟨n, l0⟩ := s
  obtain ⟨e1, e2⟩ := act_pour R.good h hh hm
  have hf : f < n := by have : ¬ n ≤ f := fun q => h (.inl q); lia
  have ht : t < n := by have : ¬ n ≤ t := fun q => h (.inr (.inl q)); lia
  have hm' : ¬ 256 ≤ l0.length := hm
  have hA : a ≤ (gr n l).getD f 0 := by
    have : (gr n l) = gr n l0 := R.eqv.gr.symm
    rw [this]
    have : ¬ (gr n l0).getD f 0 < a := hh
    lia
  refine ⟨_, e1, rfl, by simp, _, _, R.ok.pour hf ht (fun q => h (.inr (.inr (.inl q)))) hA, R.eqv.snoc _, e2, .none rfl rfl, fun k v q => ?_, fun k t' a' lo' hi' q => ?_, R.t32, by simp; lia, ?_⟩
  · refine Ea.x4_2 (R.cw k v q) fun t1 a1 lo1 hi1 b1 b2 => ?_
    have kl : k < l.length := (List.getElem?_eq_some_iff.mp b1).1
    exact ⟨t1, a1, lo1, hi1, by rw [List.getElem?_append_left kl]; exact b1, b2⟩
  · rcases get_snoc q with ⟨hk, g⟩ | ⟨hk, g⟩
    · exact R.cx k _ _ _ _ g
    · cases g
  · have := R.cl
    simp at *
    lia
theorem Rl.turn (R : Rl s S co l m iw) {S' : Cs} (K : Ok s.tanks l m iw S') (C : Cch s.tanks l S') : Rl s S' co l m iw := ⟨K, R.eqv, R.good, C, R.cw, R.cx, R.t32, R.w256, R.cl⟩
theorem Rl.found_no (R : Rl s S co l m iw) {S' : Cs} {t lo hi : Nat} {v : Int} (B : Bring s.tanks m l iw S S' (1 * 2 ^ t) lo hi v) (h : ¬ (s.tanks ≤ t ∨ hi < lo)) (hm : ¬ Ks175.MANY ≤ s.went.length) (hv : v < lo ∨ (hi : Int) < v) :
    Ks176.act s (.found t lo hi) = (s, Ks176.say (-74)) ∧ Rl s S' co l m iw := by
  obtain ⟨n, l0⟩ := s
  refine ⟨act_found_no h hm fun ks x hc q => ?_, R.turn B.ok B.cch⟩
  have hc' := (R.eqv.crs ks x).mp hc
  have ht : t < n := by have : ¬ n ≤ t := fun q => h (.inl q); lia
  have e := on1 hc' ht
  rcases hv with hv | hv
  · have := (B.below hv).2 ks x hc'
    lia
  · have := (B.above hv).2 ks x hc'
    lia
theorem Rl.found_yes (R : Rl s S co l m iw) {S' : Cs} {t lo hi : Nat} {v : Int} (B : Bring s.tanks m l iw S S' (1 * 2 ^ t) lo hi v) (h : ¬ (s.tanks ≤ t ∨ hi < lo)) (hm : ¬ Ks175.MANY ≤ s.went.length) (h1 : (lo : Int) ≤ v) (h2 : v ≤ hi) :
    S'.marked t = v ∧ ∃ s', Ks176.act s (.found t lo hi) = (s', Ks176.say s.went.length) ∧ s'.tanks = s.tanks ∧ s'.went.length = s.went.length + 1 ∧ ∃ l' iw', Rl s' (S'.goOn t (S'.amount t) v lo hi) co l' (m + 1) iw' := by
  obtain ⟨n, l0⟩ := s
  have ht : t < n := by have : ¬ n ≤ t := fun q => h (.inl q); lia
  have mk := B.inn h1 h2
  rw [mkS1 S' ht] at mk
  refine Ea.x2_3 B.ok.hand fun ks x hc c1 _ => ?_
  have hx := c1 t ht
  obtain ⟨e1, e2⟩ := act_found_yes R.good h hm ((R.eqv.crs ks x).mpr hc) (by lia) (by lia)
  have hm' : ¬ 256 ≤ l0.length := hm
  refine ⟨mk, _, e1, rfl, by simp, _, iw, ?_, R.eqv.snoc _, e2, .none rfl rfl, fun k v q => ?_, fun k t' a' lo' hi' q => ?_, R.t32, by simp; lia, ?_⟩
  · have := B.ok.found ht (lo := lo) (hi := hi) (by lia) (by lia)
    rw [← mk]
    exact this
  · refine Ea.x4_2 (R.cw k v q) fun t1 a1 lo1 hi1 b1 b2 => ?_
    have kl : k < l.length := (List.getElem?_eq_some_iff.mp b1).1
    exact ⟨t1, a1, lo1, hi1, by rw [List.getElem?_append_left kl]; exact b1, b2⟩
  · rcases get_snoc q with ⟨hk, g⟩ | ⟨hk, g⟩
    · exact R.cx k _ _ _ _ g
    · cases g
  · have := R.cl
    simp at *
    lia
theorem Rl.most (R : Rl s S co l m iw) {ch : Nat} {v : Int} (h : MostIs s.tanks l ch v) : ((Ks176.Abs.most s ch : Nat) : Int) = v := (h.eqv R.eqv).eq
theorem Rl.least (R : Rl s S co l m iw) {ch : Nat} {v : Int} (h : LeastIs s.tanks l ch v) : ((Ks176.Abs.least s ch : Nat) : Int) = v := (h.eqv R.eqv).eq
theorem Bring.isMost {n : Nat} {S' : Cs} {ch : Nat} {v : Int} (B : Bring n m l iw S S' ch (amS S ch n) (amS S ch n) v) (K : Ok n l m iw S) : MostIs n l ch v := by
  by_cases h1 : v < amS S ch n
  · exact B.below h1
  · by_cases h2 : amS S ch n < v
    · obtain ⟨⟨ks, x, hc, e⟩, _⟩ := B.above h2
      have := K.onLe (ch := ch) hc
      lia
    · have mk := B.inn (by lia) (by lia)
      refine Ea.x2_2 (B.ok.handOn ch) fun ks x hc e => ?_
      refine ⟨⟨ks, x, hc, by rw [e, mk]⟩, fun ks x hc => ?_⟩
      have := K.onLe (ch := ch) hc
      lia
theorem Bring.isLeast {n : Nat} {S' : Cs} {ch : Nat} {v : Int} (B : Bring n m l iw S S' ch 0 0 v) : LeastIs n l ch v := by
  by_cases h1 : v < 0
  · obtain ⟨⟨ks, x, hc, e⟩, _⟩ := B.below h1
    lia
  · by_cases h2 : 0 < v
    · exact B.above h2
    · have mk := B.inn (by lia) (by lia)
      refine Ea.x2_2 (B.ok.handOn ch) fun ks x hc e => ?_
      refine ⟨⟨ks, x, hc, by rw [e, mk]⟩, fun ks x hc => ?_⟩
      lia
theorem Rl.narrow_22 (R : Rl s S co l m iw) {k lo' hi' : Nat} (h : look co k = none ∨ hi' < lo') : Ks176.act s (.narrow k lo' hi') = (s, Ks176.say (-22)) := by
  obtain ⟨n, l0⟩ := s
  refine act_narrow_22 ?_
  rcases h with h | h
  · right
    intro t a lo hi q
    refine Ea.x2_1 (R.eqv.to k t a lo hi q) fun x y z => ?_
    have := R.cx k _ _ _ _ z
    rw [h] at this; cases this
  · exact .inl h
theorem Rl.set (R : Rl s S co l m iw) {s' : Ks176.Abs} {S' : Cs} {k t a lo hi lo2 hi2 : Nat} (hk : l[k]? = some (.went (.in_ t a lo hi))) (ht : s'.tanks = s.tanks) (hw : s'.went.length = s.went.length) (K : Ok s.tanks (l.set k (.went (.in_ t a lo2 hi2))) m iw S') (E : Eqv s.tanks s'.went (l.set k (.went (.in_ t a lo2 hi2)))) (G : Good s') (C : Cch s.tanks (l.set k (.went (.in_ t a lo2 hi2))) S') :
    Rl s' S' co (l.set k (.went (.in_ t a lo2 hi2))) m iw := by
  refine ⟨ht ▸ K, ht ▸ E, G, ht ▸ C, fun j v q => ?_, fun j t1 a1 lo1 hi1 q => ?_, by rw [ht]; exact R.t32, by rw [hw]; exact R.w256, by rw [hw]; exact R.cl⟩
  · refine Ea.x4_2 (R.cw j v q) fun t1 a1 lo1 hi1 b1 b2 => ?_
    refine Ea.x2_1 (set_in (lo' := lo2) (hi' := hi2) hk b1) fun x y z => ?_
    exact ⟨t1, a1, x, y, z, b2⟩
  · refine Ea.x2_1 (in_set hk q) fun x y z => ?_
    exact R.cx j _ _ _ _ z
theorem Ok.inBounds {n : Nat} (K : Ok n l m iw S) {k t a lo hi : Nat} (hk : l[k]? = some (.went (.in_ t a lo hi))) : S.r (2 * iw k) + S.r (2 * iw k + 1) = (hi : Int) - lo ∧ (∀ (ks x : List Nat) (u : Nat), Crs n l ks x → ks[k]? = some u → lo ≤ u ∧ u ≤ hi) := by
  refine Ea.a3 (K.rep.iwm k _ _ _ _ hk) fun k1 k2 k3 => ?_
  refine ⟨k3, fun ks x u hc hu => ?_⟩
  refine Ea.x1_4 (K.courseFlow hc) fun d b1 b2 b3 b4 => ?_
  have q := b4 k _ _ _ _ u hk hu
  have b := b2 _ k1
  have e1 : dnF S.rooms (iw k) = S.r (2 * iw k + 1) := rfl
  have e2 : upF S.rooms (iw k) = S.r (2 * iw k) := rfl
  have k3' : S.r (2 * iw k) + S.r (2 * iw k + 1) = (hi : Int) - lo := k3
  lia
theorem Rl.narrow_no (R : Rl s S co l m iw) {S' : Cs} {k t a lo hi lo' hi' : Nat} {v : Int} (hk : l[k]? = some (.went (.in_ t a lo hi))) (B : BrC s.tanks m l iw S S' k lo lo' hi' v) (h : ¬ hi' < lo') :
    (v < lo' → Ks176.act s (.narrow k lo' hi') = (s, Ks176.say (-74)) ∧ ∃ l', Rl s (S'.setBounds (2 * iw k) lo v v) co l' m iw) ∧
    ((hi' : Int) < v → Ks176.act s (.narrow k lo' hi') = (s, Ks176.say (-74)) ∧ ∃ l', Rl s (S'.setBounds (2 * iw k) v v hi) co l' m iw) := by
  obtain ⟨n, l0⟩ := s
  have B' : BrC n m l iw S S' k lo lo' hi' v := B
  obtain ⟨w1, w2⟩ := B'.ok.inBounds hk
  refine Ea.x2_1 (R.eqv.fro k t a lo hi hk) fun x0 y0 z0 => ?_
  have b0 := B'.ok.r0 (2 * iw k)
  have b1 := B'.ok.r0 (2 * iw k + 1)
  have hv := B'.veq
  obtain ⟨vn, hvn⟩ : ∃ vn : Nat, (vn : Int) = v := ⟨v.toNat, by lia⟩
  have no : v < lo' ∨ (hi' : Int) < v → Ks176.act ⟨n, l0⟩ (.narrow k lo' hi') = (⟨n, l0⟩, Ks176.say (-74)) := by
    intro hv2
    refine act_narrow_no z0 h fun ks x u hc hu q => ?_
    have hc' := (R.eqv.crs ks x).mp hc
    rcases hv2 with hv2 | hv2
    · have := B'.below hv2 ks x u hc' hu; lia
    · have := B'.above hv2 ks x u hc' hu; lia
  have fin : ∀ (lo2 hi2 : Nat), (∀ (ks x : List Nat) (u : Nat), Crs n l ks x → ks[k]? = some u → lo2 ≤ u ∧ u ≤ hi2) → (lo2 : Int) ≤ v → v ≤ hi2 →
      Rl ⟨n, l0⟩ (S'.setBounds (2 * iw k) (max lo lo2 : Nat) v (min hi hi2 : Nat)) co (l.set k (.went (.in_ t a (max lo lo2) (min hi hi2)))) m iw := by
    intro lo2 hi2 all q1 q2
    have K2 := B'.ok.hear hk (lo' := lo2) (hi' := hi2) (by lia) (by lia)
    rw [← hv] at K2
    have E2 : Eqv n l0 _ := R.eqv.tight hk all
    refine R.set hk rfl rfl K2 E2 R.good ?_
    have c1 : Cch n l S' := R.cch.of B'.hh B'.ll
    refine (c1.eqv (l' := l.set k (.went (.in_ t a (max lo lo2) (min hi hi2)))) fun ks x => ?_).of rfl rfl
    rw [← E2.crs]
    exact (R.eqv.crs ks x).symm
  refine ⟨fun hv2 => ⟨no (.inl hv2), ?_⟩, fun hv2 => ⟨no (.inr hv2), ?_⟩⟩
  · have q := fin lo vn (fun ks x u hc hu => ⟨(w2 ks x u hc hu).1, by have := B'.below hv2 ks x u hc hu; lia⟩) (by lia) (by lia)
    have e1 : max lo lo = lo := Nat.max_self lo
    have e2 : min hi vn = vn := by lia
    rw [e1, e2] at q
    exact ⟨_, by rw [← hvn]; rw [← hvn] at q; exact q⟩
  · have q := fin vn hi (fun ks x u hc hu => ⟨by have := B'.above hv2 ks x u hc hu; lia, (w2 ks x u hc hu).2⟩) (by lia) (by lia)
    have e1 : max lo vn = vn := by lia
    have e2 : min hi hi = hi := Nat.min_self hi
    rw [e1, e2] at q
    exact ⟨_, by rw [← hvn]; rw [← hvn] at q; exact q⟩
theorem Rl.narrow_yes (R : Rl s S co l m iw) {S' : Cs} {k t a lo hi lo' hi' : Nat} {v : Int} (hk : l[k]? = some (.went (.in_ t a lo hi))) (B : BrC s.tanks m l iw S S' k lo lo' hi' v) (h : ¬ hi' < lo') (h1 : (lo' : Int) ≤ v) (h2 : v ≤ hi') :
    ∃ s', Ks176.act s (.narrow k lo' hi') = (s', Ks176.say 0) ∧ s'.tanks = s.tanks ∧ s'.went.length = s.went.length ∧
      (∃ l', Rl s' (S'.forget.setBounds (2 * iw k) (max lo lo' : Nat) v (min hi hi' : Nat)) co l' m iw) ∧ (lo' ≤ lo → hi ≤ hi' → ∃ l', Rl s' S' co l' m iw) := by
  obtain ⟨n, l0⟩ := s
  have B' : BrC n m l iw S S' k lo lo' hi' v := B
  refine Ea.x2_1 (R.eqv.fro k t a lo hi hk) fun x0 y0 z0 => ?_
  have hv := B'.veq
  refine Ea.x2_3 B'.ok.hand fun ks x hc c1 c2 => ?_
  have kk : k < ks.length := by rw [hc.len]; exact (List.getElem?_eq_some_iff.mp hk).1
  have hu : ks[k]? = some ks[k] := List.getElem?_eq_getElem kk
  have cv := c2 k _ _ _ _ _ hk hu
  obtain ⟨e1, e2⟩ := act_narrow_yes R.good z0 h ((R.eqv.crs ks x).mpr hc) hu (by lia) (by lia)
  have E2 : Eqv n _ _ := R.eqv.hear z0 hk (lo' := lo') (hi' := hi')
  refine ⟨_, e1, rfl, by simp, ?_, fun g1 g2 => ?_⟩
  · have K2 := B'.ok.hear hk (lo' := lo') (hi' := hi') (by lia) (by lia)
    rw [← hv] at K2
    refine ⟨_, R.set hk rfl (by simp) (K2.put [] []) E2 e2 (.none rfl rfl)⟩
  · have q1 : max lo lo' = lo := by lia
    have q2 : min hi hi' = hi := by lia
    rw [q1, q2] at E2
    have q3 : l.set k (.went (.in_ t a lo hi)) = l := by
      apply List.ext_getElem?
      intro j
      by_cases e : j = k
      · subst e; rw [List.getElem?_set_self (List.getElem?_eq_some_iff.mp hk).1, hk]
      · rw [List.getElem?_set_ne (fun z => e z.symm)]
    have C2 : Cch n l S' := R.cch.of B'.hh B'.ll
    exact ⟨_, R.set (S' := S') (lo2 := lo) (hi2 := hi) hk rfl (by simp) (by rw [q3]; exact B'.ok) E2 e2 (by rw [q3]; exact C2)⟩
end
end Mg
end
section
set_option maxRecDepth 100000
namespace L2
open PySem PySem.Spec PyProof.Rows
noncomputable abbrev Key := Sum Int Str
noncomputable def keyIs : Key → Value → Bool
  | .inl k, v => Value.isInt k v
  | .inr x, v => Value.isStrOf x v
noncomputable def keyH (w : World) : Key → Int
  | .inl k => hashInt k
  | .inr x => hashStr w x
theorem keyIs_shape : ∀ {k : Key} {v : Value}, keyIs k v = true → (∃ i t, k = Sum.inl i ∧ v = Value.int i t) ∨ (∃ x t, k = Sum.inr x ∧ v = Value.str x t)
  | .inl i, v, h => by
    obtain ⟨t, e⟩ := Value.isInt_shape (k := i) (v := v) h
    exact .inl ⟨i, t, rfl, e⟩
  | .inr x, v, h => by
    obtain ⟨t, e⟩ := Value.isStrOf_shape (x := x) (v := v) h
    exact .inr ⟨x, t, rfl, e⟩
theorem keyIs_int (i : Int) (t : Tok) : keyIs (.inl i) (.int i t) = true := by simp [keyIs, Value.isInt]
theorem keyIs_str (x : Str) (t : Tok) : keyIs (.inr x) (.str x t) = true := by simp [keyIs, Value.isStrOf]
theorem key_ll (a b : Int) : decide ((Sum.inl a : Key) = Sum.inl b) = (a == b) := by
  by_cases e : a = b
  · subst e; simp
  · have h : ¬ (Sum.inl a : Key) = Sum.inl b := fun q => e (Sum.inl.inj q)
    rw [decide_eq_false h]
    exact (beq_eq_false_iff_ne.mpr e).symm
theorem key_rr (a b : Str) : decide ((Sum.inr a : Key) = Sum.inr b) = decide (a = b) := by
  by_cases e : a = b
  · subst e; simp
  · have h : ¬ (Sum.inr a : Key) = Sum.inr b := fun q => e (Sum.inr.inj q)
    rw [decide_eq_false h, decide_eq_false e]
theorem key_lr (a : Int) (b : Str) : decide ((Sum.inl a : Key) = Sum.inr b) = false := decide_eq_false (fun q => nomatch q)
theorem key_rl (a : Str) (b : Int) : decide ((Sum.inr a : Key) = Sum.inl b) = false := decide_eq_false (fun q => nomatch q)
noncomputable def mixKind (prog : Program) (w : World) : PySem.KeyKind prog w Key where
  is := keyIs
  hash := keyH w
  inj := fun v a b ha hb => by
    rcases keyIs_shape ha with ⟨i, t, rfl, rfl⟩ | ⟨x, t, rfl, rfl⟩
    · rcases keyIs_shape hb with ⟨j, u, rfl, e⟩ | ⟨y, u, rfl, e⟩
      · injection e with e1 _; rw [e1]
      · exact nomatch e
    · rcases keyIs_shape hb with ⟨j, u, rfl, e⟩ | ⟨y, u, rfl, e⟩
      · exact nomatch e
      · injection e with e1 _; rw [e1]
  byValue := fun k v h => by
    rcases keyIs_shape h with ⟨i, t, rfl, rfl⟩ | ⟨x, t, rfl, rfl⟩ <;> rfl
  pyHash := fun hv h => by
    rcases keyIs_shape hv with ⟨i, t, rfl, rfl⟩ | ⟨x, t, rfl, rfl⟩
    · exact wpAny_pyHash_int h
    · exact wpAny_pyHash_str h
  eqBool := fun hu hv h => by
    rcases keyIs_shape hu with ⟨i, t, rfl, rfl⟩ | ⟨x, t, rfl, rfl⟩
    · rcases keyIs_shape hv with ⟨j, u, rfl, rfl⟩ | ⟨y, u, rfl, rfl⟩
      · rw [key_ll] at h; exact wpAny_eqBool_int h
      · rw [key_lr] at h; exact SeqAt.EqAt.int_str i t y u _ _ _ _ h
    · rcases keyIs_shape hv with ⟨j, u, rfl, rfl⟩ | ⟨y, u, rfl, rfl⟩
      · rw [key_rl] at h; exact SeqAt.EqAt.str_int x t j u _ _ _ _ h
      · rw [key_rr] at h; exact wpAny_eqBool_str h
  «strs» := fun k x t v h => by
    rcases keyIs_shape h with ⟨i, u, rfl, e⟩ | ⟨y, u, rfl, e⟩
    · exact nomatch e
    · injection e with e1 _
      subst e1
      cases v <;> rfl
theorem mixKind_int (prog : Program) (w : World) (i : Int) (t : Tok) : (mixKind prog w).is (.inl i) (.int i t) = true := keyIs_int i t
theorem mixKind_str (prog : Program) (w : World) (x : Str) (t : Tok) : (mixKind prog w).is (.inr x) (.str x t) = true := keyIs_str x t
end L2
namespace L2
open PySem PySem.Spec PyProof.Rows
inductive V where
  | non | bl (b : Bool) | int (i : Int) | str (x : Str) | byt (b : Array UInt8) | flt (b : UInt64) | ref (a : Addr) | ty (n : String)
  deriving DecidableEq
noncomputable def RelV : V → Value → Prop
  | .non, u => u = Value.none
  | .bl b, u => u = Value.bool b
  | .int i, u => ∃ t, u = Value.int i t
  | .str x, u => ∃ t, u = Value.str x t
  | .byt b, u => ∃ t, u = Value.bytes b t
  | .flt b, u => ∃ t, u = Value.float b t
  | .ref a, u => u = Value.ref a
  | .ty n, u => u = Value.type n
noncomputable abbrev Vals : List V → List Value → Prop := Paired RelV
theorem Vals.length {xs : List V} {us : List Value} (r : Vals xs us) : xs.length = us.length := Paired.length r
theorem Vals.get : ∀ {xs : List V} {us : List Value} {i : Nat} {x : V}, Vals xs us → xs[i]? = some x → ∃ u, us[i]? = some u ∧ RelV x u
  | _, _, _, _, .nil, e => by simp at e
  | _, _, 0, _, .cons r _, e => by simp at e; subst e; exact ⟨_, rfl, r⟩
  | _, _, i + 1, x, .cons _ t, e => by
    refine Ea.x1_2 (Vals.get (i := i) (x := x) t (by simpa using e)) fun u h1 h2 => ?_
    exact ⟨u, by simpa using h1, h2⟩
theorem Vals.set {x : V} {u : Value} (r : RelV x u) : ∀ {xs : List V} {us : List Value} (i : Nat), Vals xs us → Vals (xs.set i x) (us.set i u)
  | _, _, _, .nil => .nil
  | _, _, 0, .cons _ t => .cons r t
  | _, _, i + 1, .cons q t => .cons q (Vals.set r i t)
theorem Vals.append {xs ys : List V} {us ws : List Value} (r : Vals xs us) (s : Vals ys ws) : Vals (xs ++ ys) (us ++ ws) := by
  induction r with
  | nil => exact s
  | cons r _ ih => exact .cons r ih
theorem Vals.take : ∀ {xs : List V} {us : List Value} (n : Nat), Vals xs us → Vals (xs.take n) (us.take n)
  | _, _, 0, _ => .nil
  | _, _, _ + 1, .nil => .nil
  | _, _, n + 1, .cons r t => .cons r (Vals.take n t)
theorem Vals.drop : ∀ {xs : List V} {us : List Value} (n : Nat), Vals xs us → Vals (xs.drop n) (us.drop n)
  | _, _, 0, r => r
  | _, _, _ + 1, .nil => .nil
  | _, _, n + 1, .cons _ t => Vals.drop n t
noncomputable def RelO : Option V → Option Value → Prop
  | some v, some u => RelV v u
  | none, none => True
  | _, _ => False
noncomputable def KV {κ : Type} : List (κ × V) → List (κ × Value) → Prop := Paired fun (p : κ × V) (q : κ × Value) => p.1 = q.1 ∧ RelV p.2 q.2
noncomputable def kV : Key → V
  | .inl i => .int i
  | .inr x => .str x
inductive HO where
  /-- a list -/
  | lst (xs : List V)
  /-- a tuple (never changes) -/
  | tup (xs : List V)
  /-- a dict whose keys are ints and texts; one whose keys are tuples of ints and texts (the empty one is both) -/
  | dK (kvs : List (Key × V)) | dT (kvs : List (List Key × V))
  /-- a set of ints: its members, its size -/
  | set (S : Int → Bool) (n : Nat)
  /-- an instance of the class at C, its dict at dx, its attributes -/
  | ins (C dx : Addr) (fs : List (Str × V))
  /-- the dict of the instance at x -/
  | own (x : Addr)
  /-- the dict of an exception -/
  | xd (fs : List (Str × V))
  /-- a bound method, f of x -/
  | met (f x : Addr)
  /-- a range object lo, lo + 1, .. below hi -/
  | rng (lo hi : Int)
  /-- a thing that is known to the object (the script; a dict while a loop walks it): read, never written while it is so -/
  | frz (o : Obj) (u : HO)
  /-- a code object's table -/
  | tbl (ps : Array Value)
  /-- any other thing, by what is true of its one object (a def of one's own: SetO a S n := HO.ext fun h => ..) -/
  | ext (φ : Heap → Prop)
noncomputable abbrev Hp := Addr → Option HO
noncomputable def upd (H : Hp) (a : Addr) (o : HO) : Hp := fun b => if b = a then some o else H b
theorem upd_same {H : Hp} {a : Addr} {o : HO} : upd H a o a = some o := by unfold upd; rw [if_pos rfl]
theorem upd_ne {H : Hp} {a b : Addr} {o : HO} (h : b ≠ a) : upd H a o b = H b := by unfold upd; rw [if_neg h]
theorem upd_upd {H : Hp} {a : Addr} {o u : HO} : upd (upd H a o) a u = upd H a u := by
  funext b; unfold upd; split <;> rfl
theorem ne_of {H : Hp} {a b : Addr} {o u : HO} (h : H a = some o) (h' : H b = some u) (d : o ≠ u) : a ≠ b := by
  intro e; subst e; rw [h] at h'; exact d (Option.some.inj h')
theorem ne_of_none {H : Hp} {a b : Addr} {o : HO} (h : H a = some o) (h' : H b = none) : a ≠ b := by
  intro e; subst e; rw [h] at h'; cases h'
section
variable (P : Program) (w : World)
noncomputable def ObjOk (H : Hp) (h : Heap) (a : Addr) : HO → Prop
  | .lst xs => xs.length ≤ sizeLine ∧ ∃ (its : List Value) (n : Nat), Vals xs its ∧ h.get? a = some { cls := .type "list", data := .seq its.toArray n }
  | .tup xs => xs.length ≤ sizeLine ∧ ∃ its : List Value, Vals xs its ∧ IsTup h a its.toArray
  | .dK kvs => kvs.length ≤ sizeLine ∧ (a == sysModules) = false ∧ ∃ vs, KV kvs vs ∧ h.DictOf (mixKind P w) a vs
  | .dT kvs => kvs.length ≤ sizeLine ∧ (a == sysModules) = false ∧ ∃ xs : List (List Key × Addr × Value),
      Paired (fun (p : List Key × V) (q : List Key × Addr × Value) => p.1 = q.1 ∧ H q.2.1 = some (.tup (p.1.map kV)) ∧ RelV p.2 q.2.2) kvs xs ∧
      ∃ o es ep, h.get? a = some o ∧ o.ExactDict ∧ o.data = .dict es ep ∧ es.toList = xs.map (entryOfKey (tupleKind (mixKind P w))) ∧ (xs.map (·.1)).Nodup
  | .set S n => h.SetOf (intKind P w) a S n
  | .ins C dx fs => H dx = some (.own a) ∧ fs.length ≤ 1000 ∧ dx ≠ a ∧ h.get? a = some (PySem.W.instObj C dx) ∧
      ∃ mA, h.Ns1 dx mA ∧ (∀ f, RelO (fs.lookup f) (mA f)) ∧ PySem.Within mA (fs.map (·.1))
  | .own _ => ∃ o, h.get? a = some o
  | .xd fs => ∃ mA, h.Ns1 a mA ∧ ∀ f, RelO (fs.lookup f) (mA f)
  | .rng lo hi => ∃ t u v, h.get? a = some { cls := .type "range", data := .fields #[.int lo t, .int hi u, .int 1 v] }
  | .frz o u => h.get? a = some o ∧ ObjOk H h a u
  | .tbl ps => h.get? a = some { cls := .none, data := .fields ps }
  | .met f x => h.get? a = some (PySem.W.methodObj (.ref f) (.ref x))
  | .ext φ => φ h ∧ (∃ o, h.get? a = some o) ∧ ∀ h1 h2 : Heap, φ h1 → (∀ o, h1.get? a = some o → h2.get? a = some o) → φ h2
noncomputable def HOk (H : Hp) (h : Heap) : Prop := ∀ a o, H a = some o → ObjOk P w H h a o
end
section
variable {P : Program} {w : World} {H H' : Hp} {h h' : Heap} {a : Addr} {o : HO}
theorem ObjOk.lt (x : ObjOk P w H h a o) : a < h.objs.size := by
  cases o with
  | lst xs => obtain ⟨_, _, _, _, e⟩ := x; exact Heap.lt_size e
  | tup xs => obtain ⟨_, _, _, p⟩ := x; exact p.lt
  | dK kvs => obtain ⟨_, _, _, _, o, _, _, e, _⟩ := x; exact Heap.lt_size e
  | dT kvs => obtain ⟨_, _, _, _, o, _, _, e, _⟩ := x; exact Heap.lt_size e
  | set S n => obtain ⟨o, _, _, _, e, _⟩ := x; exact Heap.lt_size e
  | ins C dx fs => obtain ⟨_, _, _, e, _⟩ := x; exact Heap.lt_size e
  | own y => obtain ⟨_, e⟩ := x; exact Heap.lt_size e
  | xd fs => obtain ⟨_, ⟨_, _, _, e, _⟩, _⟩ := x; exact Heap.lt_size e
  | rng lo hi => obtain ⟨_, _, _, e⟩ := x; exact Heap.lt_size e
  | frz ob u => obtain ⟨e, _⟩ := x; exact Heap.lt_size e
  | tbl ps => exact Heap.lt_size (show h.get? a = some _ from x)
  | met f y => exact Heap.lt_size (show h.get? a = some _ from x)
  | ext φ => obtain ⟨_, ⟨_, e⟩, _⟩ := x; exact Heap.lt_size e
theorem Paired.mapP {α β : Type} {F G : α → β → Prop} {l₁ : List α} {l₂ : List β} (h : Paired F l₁ l₂) (f : ∀ a b, F a b → G a b) : Paired G l₁ l₂ := by
  induction h with
  | nil => exact .nil
  | cons r _ ih => exact .cons (f _ _ r) ih
theorem ObjOk.stay (x : ObjOk P w H h a o) (k : ∀ b u, (b = a ∨ H b = some (.own a)) → h.get? b = some u → h'.get? b = some u)
    (ho : ∀ b, H b = some (.own a) → H' b = some (.own a)) (ht : ∀ b xs, H b = some (.tup xs) → H' b = some (.tup xs)) : ObjOk P w H' h' a o := by
  induction o with
  | lst xs => obtain ⟨z, its, n, r, e⟩ := x; exact ⟨z, its, n, r, k _ _ (.inl rfl) e⟩
  | tup xs => obtain ⟨z, its, r, ob, e, c⟩ := x; exact ⟨z, its, r, ob, k _ _ (.inl rfl) e, c⟩
  | dK kvs => obtain ⟨z, y, vs, r, ob, es, ep, e, c⟩ := x; exact ⟨z, y, vs, r, ob, es, ep, k _ _ (.inl rfl) e, c⟩
  | dT kvs =>
    obtain ⟨z, y, xs, r, ob, es, ep, e, c⟩ := x
    exact ⟨z, y, xs, Paired.mapP r fun p q z => ⟨z.1, ht _ _ z.2.1, z.2.2⟩, ob, es, ep, k _ _ (.inl rfl) e, c⟩
  | set S n => obtain ⟨ob, es, ep, t, e, c⟩ := x; exact ⟨ob, es, ep, t, k _ _ (.inl rfl) e, c⟩
  | ins C dx fs =>
    obtain ⟨d, z, ne, e, mA, ⟨od, es, ep, e2, c⟩, r⟩ := x
    exact ⟨ho _ d, z, ne, k _ _ (.inl rfl) e, mA, ⟨od, es, ep, k _ _ (.inr d) e2, c⟩, r⟩
  | own y => obtain ⟨ob, e⟩ := x; exact ⟨ob, k _ _ (.inl rfl) e⟩
  | xd fs => obtain ⟨mA, ⟨od, es, ep, e, c⟩, r⟩ := x; exact ⟨mA, ⟨od, es, ep, k _ _ (.inl rfl) e, c⟩, r⟩
  | rng lo hi => obtain ⟨t, u, v, e⟩ := x; exact ⟨t, u, v, k _ _ (.inl rfl) e⟩
  | frz ob u ih => obtain ⟨e, q⟩ := x; exact ⟨k _ _ (.inl rfl) e, ih q⟩
  | tbl ps =>
    have e : h.get? a = some { cls := .none, data := .fields ps } := x
    show h'.get? a = some { cls := .none, data := .fields ps }
    exact k a _ (.inl rfl) e
  | met f y =>
    have e : h.get? a = some (PySem.W.methodObj (.ref f) (.ref y)) := x
    show h'.get? a = some (PySem.W.methodObj (.ref f) (.ref y))
    exact k a _ (.inl rfl) e
  | ext φ => obtain ⟨p, ⟨o, e⟩, st⟩ := x; exact ⟨st _ _ p fun o q => k _ _ (.inl rfl) q, ⟨o, k _ _ (.inl rfl) e⟩, st⟩
theorem HOk.lt (x : HOk P w H h) (e : H a = some o) : a < h.objs.size := (x a o e).lt
theorem HOk.fresh (x : HOk P w H h) (e : h.objs.size ≤ a) : H a = none := by
  cases q : H a with
  | none => rfl
  | some u => exact absurd (Nat.lt_of_lt_of_le (x.lt q) e) (Nat.lt_irrefl _)
theorem HOk.kept (x : HOk P w H h) (k : ∀ b u, h.get? b = some u → h'.get? b = some u) : HOk P w H h' := fun a o e =>
  (x a o e).stay (fun b u _ q => k b u q) (fun _ q => q) fun _ _ q => q
theorem HOk.laid (x : HOk P w H h) (k : ∀ b u, h.get? b = some u → h'.get? b = some u) (hp : h.objs.size ≤ a) (new : ObjOk P w (upd H a o) h' a o) : HOk P w (upd H a o) h' := fun b u e => by
  have hn := x.fresh hp
  by_cases hb : b = a
  · subst hb; rw [upd_same] at e; cases e; exact new
  · rw [upd_ne hb] at e
    exact (x b u e).stay (fun c v _ q => k c v q) (fun c q => by rw [upd_ne (ne_of_none q hn)]; exact q) fun c xs q => by rw [upd_ne (ne_of_none q hn)]; exact q
end
noncomputable def Rd (H : Hp) (a : Addr) (u : HO) : Prop := H a = some u ∨ ∃ o, H a = some (.frz o u)
theorem Rd.ok {P : Program} {w : World} {H : Hp} {h : Heap} {a : Addr} {u : HO} (r : Rd H a u) (x : HOk P w H h) : ObjOk P w H h a u := by
  rcases r with r | ⟨o, r⟩
  · exact x a u r
  · obtain ⟨_, q⟩ := x a _ r
    exact q
noncomputable def Mut : Option HO → Prop
  | some (.lst _) => True
  | some (.dK _) => True
  | some (.dT _) => True
  | some (.set _ _) => True
  | some (.ins _ _ _) => True
  | some (.ext _) => True
  | _ => False
section
variable {P : Program} {w : World} {H : Hp} {h h' : Heap} {x e : Addr} {o' : HO}
theorem HOk.write (ok : HOk P w H h) (mu : Mut (H x)) (he : e = x ∨ H e = some (.own x)) (k : ∀ b u, b ≠ e → h.get? b = some u → h'.get? b = some u) (heo : ∃ u, h'.get? e = some u)
    (new : ObjOk P w (upd H x o') h' x o') : HOk P w (upd H x o') h' := fun b u q => by
  have nown : ∀ c y, H c = some (.own y) → c ≠ x := fun c y r z => by subst z; rw [r] at mu; exact mu
  have ntup : ∀ c xs, H c = some (.tup xs) → c ≠ x := fun c xs r z => by subst z; rw [r] at mu; exact mu
  by_cases hb : b = x
  · subst hb; rw [upd_same] at q; cases q; exact new
  · rw [upd_ne hb] at q
    by_cases hbe : b = e
    · have q' : H b = some (.own x) := by
        rcases he with z | z
        · exact absurd (hbe.trans z) hb
        · rw [hbe]; exact z
      rw [q] at q'; cases q'
      obtain ⟨v, hv⟩ := heo
      exact ⟨v, by rw [hbe]; exact hv⟩
    · refine (ok b u q).stay (fun c v hc r => k c v ?_ r) (fun c r => by rw [upd_ne (nown c b r)]; exact r) fun c xs r => by rw [upd_ne (ntup c xs r)]; exact r
      rcases hc with rfl | hc
      · exact hbe
      · rintro rfl
        rcases he with z | z
        · exact nown c b hc z
        · rw [hc] at z; cases z; exact hb rfl
end
structure Un (fs ex : List Addr) (H H' : Hp) (h h' : Heap) : Prop where
  keep : ∀ b o, h.get? b = some o → H b = none → b ∉ fs → b ∉ ex → h'.get? b = some o
  slot : ∀ b o, h.get? b = some o → H b = none → b ∈ fs → b ∉ ex → ∃ sl, h'.get? b = some { o with slots := sl }
  free : ∀ b o, h.get? b = some o → H b = none → b ∉ ex → H' b = none
  there : ∀ b o, h.get? b = some o → b ∉ ex → ∃ o', h'.get? b = some o'
  tups : ∀ b xs, H b = some (.tup xs) → H' b = some (.tup xs)
  frzs : ∀ b o u, H b = some (.frz o u) → H' b = some (.frz o u)
  tbls : ∀ b ps, H b = some (.tbl ps) → ∃ more, H' b = some (.tbl (ps ++ more))
section
variable {fs fs' ex ex' : List Addr} {H H1 H2 : Hp} {h h1 h2 h' : Heap} {a x e : Addr} {o : HO}
theorem Un.any (u : Un fs ex H H1 h h1) {b : Addr} {ob : Obj} (q : h.get? b = some ob) (n : H b = none) (hx : b ∉ ex) : ∃ sl, h1.get? b = some { ob with slots := sl } := by
  by_cases hb : b ∈ fs
  · exact u.slot b ob q n hb hx
  · exact ⟨ob.slots, u.keep b ob q n hb hx⟩
theorem Un.kept (k : ∀ b u, h.get? b = some u → h'.get? b = some u) : Un fs ex H H h h' :=
  ⟨fun b ob q _ _ _ => k b ob q, fun b ob q _ _ _ => ⟨ob.slots, k b ob q⟩, fun _ _ _ n _ => n, fun b ob q _ => ⟨ob, k b ob q⟩, fun _ _ q => q, fun _ _ _ q => q, fun _ ps q => ⟨#[], by rw [q]; simp⟩⟩
theorem Un.refl : Un fs ex H H h h := Un.kept fun _ _ q => q
theorem Un.laid (k : ∀ b u, h.get? b = some u → h'.get? b = some u) (hp : h.objs.size ≤ a) (hn : H a = none) : Un fs ex H (upd H a o) h h' where
  keep := fun b u q _ _ _ => k b u q
  slot := fun b u q _ _ _ => ⟨u.slots, k b u q⟩
  free := fun b u q n _ => by rw [upd_ne (Nat.ne_of_lt (Nat.lt_of_lt_of_le (Heap.lt_size q) hp))]; exact n
  there := fun b u q _ => ⟨u, k b u q⟩
  tups := fun b xs q => by rw [upd_ne (ne_of_none q hn)]; exact q
  frzs := fun b u xs q => by rw [upd_ne (ne_of_none q hn)]; exact q
  tbls := fun b ps q => ⟨#[], by rw [upd_ne (ne_of_none q hn), q]; simp⟩
theorem Un.write (mu : Mut (H x)) (he : e = x ∨ H e = some (.own x)) (k : ∀ b u, b ≠ e → h.get? b = some u → h'.get? b = some u) (heo : ∃ u, h'.get? e = some u) : Un fs ex H (upd H x o) h h' := by
  have hx : ∀ b, H b = none → b ≠ x := fun b n z => by subst z; rw [n] at mu; exact mu
  have hb : ∀ b, H b = none → b ≠ e := fun b n z => by
    subst z
    rcases he with r | r
    · exact hx b n r
    · rw [n] at r; cases r
  have hm : ∀ b u, H b = some u → ¬ Mut (some u) → b ≠ x := fun b u q nm z => by subst z; rw [q] at mu; exact nm mu
  refine ⟨fun b u q n _ _ => k b u (hb b n) q, fun b u q n _ _ => ⟨u.slots, k b u (hb b n) q⟩, fun b u q n _ => by rw [upd_ne (hx b n)]; exact n, fun b u q _ => ?_,
    fun b xs q => by rw [upd_ne (hm b _ q fun z => z)]; exact q, fun b u xs q => by rw [upd_ne (hm b _ q fun z => z)]; exact q, fun b ps q => ⟨#[], by rw [upd_ne (hm b _ q fun z => z), q]; simp⟩⟩
  by_cases hbe : b = e
  · subst hbe; exact heo
  · exact ⟨u, k b u hbe q⟩
end
noncomputable def trk (h : Heap) (H : Hp) : List Addr := (List.range h.objs.size).filter fun a => (H a).isSome
noncomputable def hidT (h : Heap) (H : Hp) : Heap := PySem.W.hideAll h (trk h H)
theorem hidT_size (h : Heap) (H : Hp) : (hidT h H).objs.size = h.objs.size := PySem.W.hideAll_size _ _
theorem hidT_get {h : Heap} {H : Hp} {b : Addr} {o : Obj} (e : h.get? b = some o) (n : H b = none) : (hidT h H).get? b = some o :=
  PySem.W.hideAll_get _ e fun hm => by
    have q : (H b).isSome = true := (List.mem_filter.mp hm).2
    rw [n] at q; simp at q
theorem of_hidT {h : Heap} {H : Hp} {b : Addr} {o : Obj} (e : (hidT h H).get? b = some o) : h.get? b = some o ∧ H b = none := by
  have e' : h.get? b = some o := PySem.W.of_hideAll (trk h H) e
  refine ⟨e', ?_⟩
  cases q : H b with
  | none => rfl
  | some x =>
    have hm : b ∈ trk h H := List.mem_filter.mpr ⟨List.mem_range.mpr (Heap.lt_size e'), by simp [q]⟩
    have z : (hidT h H).get? b = none := PySem.W.hideAll_none (trk h H) hm
    rw [z] at e; cases e
end L2
namespace L2
open PySem PySem.Spec PyProof.Rows
structure Mod (K : PySem.W.Frag) (mg : Str → Option Value) (base : Heap) : Prop where
  kin : K.In base
  glob : base.Ns mainGlobals mg
  blt : ∃ mb, base.Ns builtinsNs mb ∧ ∀ x : Str, x ≠ "__name__" → mb x = bootBuiltins x
  nolimit : base.NoLimit
structure Cx where
  prog : Program
  w : World
  K : PySem.W.Frag
  mg : Str → Option Value
  base : Heap
  A : Around
  N : List Str
  s_0 : Shared
  H_0 : Hp
  env : Env
  outer : List Env
  stack : List Env
  ex : List Addr
  fn : Str → Bool
  calm : Bool
  pn : List (Addr × Obj)
  xe : Value → Shared → Prop
noncomputable def frs (l : List Env) : List Addr := l.filterMap (·.frame)
noncomputable abbrev Cx.fs (X : Cx) : List Addr := frs X.outer
noncomputable def Vis (sc : Scope) (x : Str) : Prop := sc.names.lookup x = some .local ∨ sc.names.lookup x = some .cell ∨ sc.names.lookup x = some .free
noncomputable def Loc (sc : Scope) (x : Str) : Prop := sc.names.lookup x = some .local ∨ sc.names.lookup x = some .cell
noncomputable def Look (env : Env) (h : Heap) (m : Str → Option Value) (x : Str) (u : Value) : Prop :=
  (env.kindOf x = some .local ∧ m x = some u) ∨ ((env.kindOf x = some .cell ∨ env.kindOf x = some .free) ∧ ∃ c, env.cells.lookup x = some c ∧ h.IsCell c (some u))
structure Cx.Ok (X : Cx) : Prop where
  mod : Mod X.K X.mg X.base
  kind : X.env.scope.kind = .function
  glob : X.env.globals = mainGlobals
  blt : X.env.builtins = builtinsNs
  above : X.s_0.heap.objs.size ≤ X.env.locals
  inj : ∀ x y c, X.env.cells.lookup x = some c → X.env.cells.lookup y = some c → x = y
  has : ∀ x, (X.env.kindOf x = some .cell ∨ X.env.kindOf x = some .free) → ∃ c, X.env.cells.lookup x = some c
  cab : ∀ x c, X.fn x = true → X.env.cells.lookup x = some c → X.s_0.heap.objs.size ≤ c
  hd : X.calm = true → X.A.handled = none
  frames : X.A.frames = some X.stack
  stk : X.stack = X.outer ∨ (X.stack = X.env :: X.outer ∧ X.env.frame = some X.env.locals)
  exf : ∀ b ∈ X.ex, b ≠ X.env.locals ∧ ∀ x c, X.env.cells.lookup x = some c → c ≠ b
  bs : ∀ b o, X.base.get? b = some o → X.s_0.heap.get? b = some o ∧ X.H_0 b = none
  bsz : X.base.objs.size ≤ X.s_0.heap.objs.size
  noex : ∀ b o, X.base.get? b = some o → b ∉ X.ex
  exfs : ∀ b ∈ X.ex, b ∉ X.fs
  funs : X.s_0.heap.FunFrames X.base X.outer
  frf : ∀ b ∈ X.fs, X.H_0 b = none
structure Inv (X : Cx) (pins : List (Addr × Obj)) (σ : List (Option V)) (H : Hp) (s : Shared) : Prop where
  ok : X.Ok
  os : s.os = X.s_0.os
  bare : AllBare s.gens
  base : Un X.fs X.ex X.H_0 H X.s_0.heap s.heap
  loc : ∃ m, s.heap.Ns X.env.locals m ∧ ∀ (i : Nat) (x : Str) (v : V), X.N[i]? = some x → σ[i]? = some (some v) → Vis X.env.scope x → ∃ u, RelV v u ∧ Look X.env s.heap m x u
  cell : ∀ x c, X.env.cells.lookup x = some c → ∃ v, s.heap.IsCell c v
  free : H X.env.locals = none
  freeC : ∀ x c, X.env.cells.lookup x = some c → H c = none
  pin : ∀ p ∈ X.pn ++ pins, s.heap.get? p.1 = some p.2 ∧ H p.1 = none ∧ p.1 ≠ X.env.locals ∧ p.1 ∉ X.fs ∧ ∀ v, p.2.data ≠ .cell v
  hok : HOk X.prog X.w H s.heap
  len : σ.length = X.N.length
section
variable {X : Cx} {pins : List (Addr × Obj)} {σ : List (Option V)} {H H' : Hp} {s : Shared} {h' : Heap}
theorem Cx.Ok.nofr (ok : X.Ok) {b : Addr} {o : Obj} (e : X.base.get? b = some o) : b ∉ X.fs := fun hb => by
  have := (ok.funs.mem hb).1
  rw [e] at this; cases this
theorem Inv.bs (I : Inv X pins σ H s) : ∀ b o, X.base.get? b = some o → s.heap.get? b = some o ∧ H b = none := fun b o e =>
  ⟨I.base.keep b o (I.ok.bs b o e).1 (I.ok.bs b o e).2 (I.ok.nofr e) (I.ok.noex b o e), I.base.free b o (I.ok.bs b o e).1 (I.ok.bs b o e).2 (I.ok.noex b o e)⟩
theorem Inv.bk (I : Inv X pins σ H s) : ∀ b o, X.base.get? b = some o → s.heap.get? b = some o := fun b o e => (I.bs b o e).1
theorem Inv.mod (I : Inv X pins σ H s) : Mod X.K X.mg X.base := I.ok.mod
theorem Inv.kIn (I : Inv X pins σ H s) : X.K.In s.heap := I.ok.mod.kin.keeps I.bk
theorem Inv.lt (I : Inv X pins σ H s) : X.env.locals < s.heap.objs.size := let ⟨_, hn, _⟩ := I.loc; hn.lt
theorem Inv.sz (I : Inv X pins σ H s) : X.s_0.heap.objs.size ≤ s.heap.objs.size := Nat.le_trans I.ok.above (Nat.le_of_lt I.lt)
theorem Inv.nofs (I : Inv X pins σ H s) {a : Addr} (h : s.heap.objs.size ≤ a) : a ∉ X.fs := fun hb => by
  obtain ⟨_, o, ho, _⟩ := I.ok.funs.mem hb
  exact absurd (Nat.lt_of_lt_of_le (Heap.lt_size ho) (Nat.le_trans I.sz h)) (Nat.lt_irrefl _)
theorem Inv.cne (I : Inv X pins σ H s) : ∀ x c, X.env.cells.lookup x = some c → c ≠ X.env.locals := fun x c e z => by
  refine Ea.x2_2 (I.cell x c e) fun v o ho hd => ?_
  refine Ea.l1 I.loc fun m qz211 => ?_; obtain ⟨o', es, ep, ho', hd', _⟩ := qz211
  rw [z, ho'] at ho; cases ho; rw [hd'] at hd; cases hd
theorem Inv.funs (I : Inv X pins σ H s) : s.heap.FunFrames X.base X.outer := by
  have all : ∀ (l : List Env), (∀ b ∈ frs l, b ∈ X.fs) → X.s_0.heap.FunFrames X.base l → s.heap.FunFrames X.base l := by
    intro l
    induction l with
    | nil => intro _ _; trivial
    | cons env r ih =>
      intro hs hl
      refine Ea.a3 hl fun hk qz212 hr => ?_; try clear hl; obtain ⟨L, o, hf, hn, ho, hd⟩ := qz212
      have hL : L ∈ X.fs := hs L (by unfold frs; rw [List.filterMap_cons, hf]; exact List.mem_cons_self)
      obtain ⟨sl, e⟩ := I.base.slot L o ho (I.ok.frf L hL) hL fun z => I.ok.exfs L z hL
      exact ⟨hk, ⟨L, _, hf, hn, e, hd⟩, ih (fun b hb => hs b (by unfold frs; rw [List.filterMap_cons, hf]; exact List.mem_cons_of_mem _ hb)) hr⟩
  exact all X.outer (fun _ hb => hb) I.ok.funs
theorem Inv.stack (I : Inv X pins σ H s) : s.heap.FunFrames X.base X.stack := by
  rcases I.ok.stk with e | ⟨e, hf⟩
  · rw [e]; exact I.funs
  · rw [e]
    refine Ea.l1 I.loc fun m hn => ?_
    refine .cons (by rw [I.ok.kind]; decide) hf hn ?_ I.funs
    exact Heap.get?_none_of_le (Nat.le_trans I.ok.bsz I.ok.above)
theorem Inv.stkSub (I : Inv X pins σ H s) : ∀ b ∈ frs X.stack, b ∈ X.env.locals :: X.fs := fun b hb => by
  rcases I.ok.stk with e | ⟨e, hf⟩
  · rw [e] at hb; exact List.mem_cons_of_mem _ hb
  · rw [e] at hb
    unfold frs at hb
    rw [List.filterMap_cons, hf] at hb
    exact hb
theorem Inv.stkFree (I : Inv X pins σ H s) : ∀ b ∈ frs X.stack, H b = none := fun b hb => by
  rcases List.mem_cons.mp (I.stkSub b hb) with e | hb
  · rw [e]; exact I.free
  · obtain ⟨_, o, ho, _⟩ := I.ok.funs.mem hb
    exact I.base.free b o ho (I.ok.frf b hb) fun z => I.ok.exfs b z hb
theorem Inv.step {g' : Array GenState} {t' : Nat} {d' : Drawn} {ch : List Addr} (I : Inv X pins σ H s)
    (hch : ∀ b ∈ ch, (b ∈ X.ex ∨ X.s_0.heap.objs.size ≤ b) ∧ b ≠ X.env.locals ∧ (∀ x c, X.env.cells.lookup x = some c → c ≠ b) ∧ ∀ p ∈ X.pn ++ pins, p.1 ≠ b)
    (keep : ∀ b o, b ≠ X.env.locals → b ∉ X.fs → b ∉ ch → s.heap.get? b = some o → H b = none → h'.get? b = some o)
    (slot : ∀ b o, b ≠ X.env.locals → b ∈ X.fs → b ∉ ch → s.heap.get? b = some o → H b = none → ∃ sl, h'.get? b = some { o with slots := sl }) (free : ∀ b o, b ∉ ch → s.heap.get? b = some o → H b = none → H' b = none)
    (there : ∀ b o, b ∉ ch → s.heap.get? b = some o → ∃ o', h'.get? b = some o')
    (tups : ∀ b xs, H b = some (.tup xs) → H' b = some (.tup xs)) (frzs : ∀ b o u, H b = some (.frz o u) → H' b = some (.frz o u)) (tbls : ∀ b ps, H b = some (.tbl ps) → ∃ more, H' b = some (.tbl (ps ++ more)))
    (ns : ∀ m, s.heap.Ns X.env.locals m → h'.Ns X.env.locals m) (hok : HOk X.prog X.w H' h') (hg : AllBare g') :
    Inv X pins σ H' { s with heap := h', gens := g', drawn := d', toks := t' } := by
  have neL : ∀ b o, X.s_0.heap.get? b = some o → b ≠ X.env.locals := fun b o e => Nat.ne_of_lt (Nat.lt_of_lt_of_le (Heap.lt_size e) I.ok.above)
  have neC : ∀ b o, X.s_0.heap.get? b = some o → b ∉ X.ex → b ∉ ch := fun b o e hx hb => by
    rcases (hch b hb).1 with z | z
    · exact hx z
    · exact absurd (Nat.lt_of_lt_of_le (Heap.lt_size e) z) (Nat.lt_irrefl _)
  have cellK : ∀ x c, X.env.cells.lookup x = some c → ∀ v, s.heap.IsCell c v → h'.IsCell c v := fun x c e v ⟨o, ho, hd⟩ => by
    have nch : c ∉ ch := fun z => (hch c z).2.2.1 x c e rfl
    by_cases hc : c ∈ X.fs
    · obtain ⟨sl, q⟩ := slot c o (I.cne x c e) hc nch ho (I.freeC x c e)
      exact ⟨_, q, hd⟩
    · exact ⟨o, keep c o (I.cne x c e) hc nch ho (I.freeC x c e), hd⟩
  refine ⟨I.ok, I.os, hg, ⟨fun b o e n hb hx => ?_, fun b o e n hb hx => ?_, fun b o e n hx => ?_, fun b o e hx => ?_, fun b xs e => tups b xs (I.base.tups b xs e), fun b o xs e => frzs b o xs (I.base.frzs b o xs e), fun b ps e => ?_⟩, ?_, fun x c e => ?_, ?_, fun x c e => ?_, fun p hp => ?_, hok, I.len⟩
  · exact keep b o (neL b o e) hb (neC b o e hx) (I.base.keep b o e n hb hx) (I.base.free b o e n hx)
  · obtain ⟨sl, e1⟩ := I.base.slot b o e n hb hx
    obtain ⟨sl', e2⟩ := slot b _ (neL b o e) hb (neC b o e hx) e1 (I.base.free b o e n hx)
    exact ⟨sl', e2⟩
  · obtain ⟨o', e1⟩ := I.base.there b o e hx
    exact free b o' (neC b o e hx) e1 (I.base.free b o e n hx)
  · obtain ⟨o', e1⟩ := I.base.there b o e hx
    exact there b o' (neC b o e hx) e1
  · obtain ⟨m1, e1⟩ := I.base.tbls b ps e
    obtain ⟨m2, e2⟩ := tbls b _ e1
    exact ⟨m1 ++ m2, by rw [e2, Array.append_assoc]⟩
  · refine Ea.x1_2 I.loc fun m hn hl => ?_
    refine ⟨m, ns m hn, fun i x v e1 e2 e3 => ?_⟩
    refine Ea.x1_2 (hl i x v e1 e2 e3) fun u r l => ?_
    refine ⟨u, r, ?_⟩
    rcases l with l | ⟨k, c, e, z⟩
    · exact .inl l
    · exact .inr ⟨k, c, e, cellK x c e _ z⟩
  · obtain ⟨v, z⟩ := I.cell x c e
    exact ⟨v, cellK x c e v z⟩
  · refine Ea.l1 I.loc fun m qz213 => ?_; obtain ⟨o, _, _, ho, _⟩ := qz213
    exact free _ o (fun z => (hch _ z).2.1 rfl) ho I.free
  · refine Ea.x2_2 (I.cell x c e) fun v o ho hd => ?_
    exact free c o (fun z => (hch c z).2.2.1 x c e rfl) ho (I.freeC x c e)
  · refine Ea.a5 (I.pin p hp) fun e n ne nf d => ?_
    have nch : p.1 ∉ ch := fun z => (hch p.1 z).2.2.2 p hp rfl
    exact ⟨keep p.1 p.2 ne nf nch e n, free p.1 p.2 nch e n, ne, nf, d⟩
theorem Inv.un {t' : Nat} (I : Inv X pins σ H s) (u : Un X.fs [] H H' s.heap h') (hok : HOk X.prog X.w H' h') : Inv X pins σ H' { s with heap := h', toks := t' } := by
  refine Ea.l1 (id I.loc) fun m qz214 => ?_; obtain ⟨o, es, ep, ho, r⟩ := qz214
  obtain ⟨sl, hL⟩ := u.any ho I.free (by simp)
  exact I.step (g' := s.gens) (d' := s.drawn) (ch := []) (fun _ z => nomatch z) (fun b o _ hb _ e n => u.keep b o e n hb (by simp)) (fun b o _ hb _ e n => u.slot b o e n hb (by simp)) (fun b o _ e n => u.free b o e n (by simp)) (fun b o _ e => u.there b o e (by simp)) u.tups u.frzs u.tbls (fun m' hm => by
    refine Ea.x3_2 hm fun o' es' ep' ho' r' => ?_; try clear hm
    rw [ho] at ho'; cases ho'
    exact ⟨_, es', ep', hL, r'⟩) hok I.bare
theorem Inv.call {g' : Array GenState} {t' : Nat} {d' : Drawn} {ch : List Addr} (I : Inv X pins σ H s) (u : Un (frs X.stack) ch H H' s.heap h') (hok : HOk X.prog X.w H' h') (hg : AllBare g')
    (hch : ∀ b ∈ ch, (b ∈ X.ex ∨ X.s_0.heap.objs.size ≤ b) ∧ b ≠ X.env.locals ∧ (∀ x c, X.env.cells.lookup x = some c → c ≠ b) ∧ ∀ p ∈ X.pn ++ pins, p.1 ≠ b) :
    Inv X pins σ H' { s with heap := h', gens := g', drawn := d', toks := t' } := by
  refine Ea.l1 (id I.loc) fun m qz215 => ?_; obtain ⟨o, es, ep, ho, r⟩ := qz215
  obtain ⟨sl, hL⟩ := u.any ho I.free fun z => (hch _ z).2.1 rfl
  exact I.step (ch := ch) hch (fun b o hL hb hc e n => u.keep b o e n (fun z => (List.mem_cons.mp (I.stkSub b z)).elim hL hb) hc) (fun b o _ _ hc e n => u.any e n hc) (fun b o hc e n => u.free b o e n hc) (fun b o hc e => u.there b o e hc) u.tups u.frzs u.tbls (fun m' hm => by
    refine Ea.x3_2 hm fun o' es' ep' ho' r' => ?_; try clear hm
    rw [ho] at ho'; cases ho'
    exact ⟨_, es', ep', hL, r'⟩) hok hg
theorem Inv.turned {t' : Nat} {it : Addr} (I : Inv X pins σ H s) (k : ∀ b o, b ≠ it → s.heap.get? b = some o → h'.get? b = some o) (hn : H it = none) (hL : it ≠ X.env.locals)
    (h1 : it ∈ X.ex ∨ X.s_0.heap.objs.size ≤ it) (h2 : ∀ x c, X.env.cells.lookup x = some c → c ≠ it) (h3 : ∀ p ∈ X.pn ++ pins, p.1 ≠ it) : Inv X pins σ H { s with heap := h', toks := t' } := by
  have nit : ∀ b u, H b = some u → b ≠ it := fun b u e z => by rw [z, hn] at e; cases e
  refine I.step (g' := s.gens) (d' := s.drawn) (ch := [it]) (fun b hb => ?_) (fun b o _ _ hc e _ => k b o (fun z => hc (by simp [z])) e) (fun b o _ _ hc e _ => ⟨o.slots, k b o (fun z => hc (by simp [z])) e⟩) (fun _ _ _ _ n => n)
    (fun b o hc e => ⟨o, k b o (fun z => hc (by simp [z])) e⟩) (fun _ _ e => e) (fun _ _ _ e => e) (fun b ps e => ⟨#[], by rw [e]; simp⟩) (fun m hm => ?_) (fun b u e => ?_) I.bare
  · have e : b = it := by simpa using hb
    subst e
    exact ⟨h1, hL, h2, h3⟩
  · refine Ea.x3_2 hm fun o es ep ho r => ?_; try clear hm
    exact ⟨o, es, ep, k _ o (Ne.symm hL) ho, r⟩
  · refine (I.hok b u e).stay (fun c v hc q => k c v ?_ q) (fun _ q => q) fun _ _ q => q
    rcases hc with z | z
    · rw [z]; exact nit b u e
    · exact nit c _ z
theorem Inv.tok (I : Inv X pins σ H s) (t : Nat) : Inv X pins σ H { s with toks := t } := I.un (h' := s.heap) (t' := t) Un.refl I.hok
theorem Inv.kept {t' : Nat} (I : Inv X pins σ H s) (k : ∀ b u, s.heap.get? b = some u → h'.get? b = some u) : Inv X pins σ H { s with heap := h', toks := t' } := I.un (Un.kept k) (I.hok.kept k)
theorem Inv.laid {a : Addr} {o : HO} {t' : Nat} (I : Inv X pins σ H s) (k : ∀ b u, s.heap.get? b = some u → h'.get? b = some u) (hp : s.heap.objs.size ≤ a) (new : ObjOk X.prog X.w (upd H a o) h' a o) :
    Inv X pins σ (upd H a o) { s with heap := h', toks := t' } := I.un (Un.laid k hp (I.hok.fresh hp)) (I.hok.laid k hp new)
theorem Inv.write {x e : Addr} {o : HO} {t' : Nat} (I : Inv X pins σ H s) (mu : Mut (H x)) (he : e = x ∨ H e = some (.own x)) (k : ∀ b u, b ≠ e → s.heap.get? b = some u → h'.get? b = some u) (heo : ∃ u, h'.get? e = some u)
    (new : ObjOk X.prog X.w (upd H x o) h' x o) : Inv X pins σ (upd H x o) { s with heap := h', toks := t' } := I.un (Un.write mu he k heo) (I.hok.write mu he k heo new)
theorem Inv.weak {σ' : List (Option V)} (I : Inv X pins σ H s) (hl : σ'.length = σ.length) (w : ∀ (i : Nat) v, σ'[i]? = some (some v) → σ[i]? = some (some v)) : Inv X pins σ' H s :=
  ⟨I.ok, I.os, I.bare, I.base, let ⟨m, hn, hl'⟩ := I.loc; ⟨m, hn, fun i x v e1 e2 e3 => hl' i x v e1 (w i v e2) e3⟩, I.cell, I.free, I.freeC, I.pin, I.hok, hl.trans I.len⟩
theorem Inv.pins_of {pins' : List (Addr × Obj)} (I : Inv X pins σ H s) (h : ∀ p ∈ pins', s.heap.get? p.1 = some p.2 ∧ H p.1 = none ∧ p.1 ≠ X.env.locals ∧ p.1 ∉ X.fs ∧ ∀ v, p.2.data ≠ .cell v) : Inv X pins' σ H s :=
  ⟨I.ok, I.os, I.bare, I.base, I.loc, I.cell, I.free, I.freeC, fun p hp => (List.mem_append.mp hp).elim (fun z => I.pin p (List.mem_append_left _ z)) (h p), I.hok, I.len⟩
theorem nodup_ix {N : List Str} (hN : N.Nodup) {i j : Nat} {x : Str} (a : N[i]? = some x) (b : N[j]? = some x) : i = j := by
  obtain ⟨h1, e1⟩ := List.getElem?_eq_some_iff.mp a
  obtain ⟨h2, e2⟩ := List.getElem?_eq_some_iff.mp b
  exact (List.getElem_inj hN).mp (e1.trans e2.symm)
theorem store_ok2 {M : Model} {A : Around} {E : Value → Shared → Prop} {i : Nat} {x : Str} {v : V} {u : Value} {Q : Unit → Shared → Prop} (I : Inv X pins σ H s) (hN : X.N.Nodup) (hi : X.N[i]? = some x) (hx : Loc X.env.scope x) (r : RelV v u)
    (h : ∀ s', Inv X pins (σ.set i (some v)) H s' → (∃ a, Heap.SameBut a s.heap s'.heap ∧ (a = X.env.locals ∨ X.env.cells.lookup x = some a)) → Q () s') (hf : X.fn x = true ∨ X.env.scope.names.lookup x = some .local) : wpAny M A (storeName X.env x u) Q E s := by
  refine Ea.x1_2 (id I.loc) fun m hn hl => ?_
  have hcls : (X.env.scope.kind == .class || (X.env.scope.kind == .module && X.env.locals != X.env.globals)) = false := by rw [I.ok.kind]; rfl
  have hiσ : i < σ.length := by rw [I.len]; exact (List.getElem?_eq_some_iff.mp hi).1
  have cne := I.cne
  have tracked : ∀ {a : Addr} {h' : Heap}, (∃ o, s.heap.get? a = some o ∧ H a = none) → Heap.SameBut a s.heap h' → HOk X.prog X.w H h' := fun {a h'} ha hs b ob e => by
    refine Ea.x1_2 ha fun _ _ hfree => ?_; try clear ha
    refine (I.hok b ob e).stay (fun c w' hc q => (hs.2 c ?_).trans q) (fun _ q => q) fun _ _ q => q
    rintro rfl
    rcases hc with rfl | hc
    · rw [hfree] at e; cases e
    · rw [hfree] at hc; cases hc
  rcases hx with hk | hk
  · refine wpAny_storeName_local hk hn (fun h' hn' hs => ?_) hcls
    refine Ea.l3 (id hn) fun oL _ _ hoL => ?_
    refine h _ ⟨I.ok, I.os, I.bare, ⟨fun b o e n hb hx => ?_, fun b o e n hb hx => ?_, I.base.free, fun b o e hx => ?_, I.base.tups, I.base.frzs, I.base.tbls⟩, ⟨_, hn', fun j y v' e1 e2 e3 => ?_⟩, fun y c e => ?_, I.free, I.freeC, fun p hp => ?_, tracked ⟨oL, hoL, I.free⟩ hs, by simpa using I.len⟩ ⟨_, hs, .inl rfl⟩
    · exact (hs.2 b (Nat.ne_of_lt (Nat.lt_of_lt_of_le (Heap.lt_size e) I.ok.above))).trans (I.base.keep b o e n hb hx)
    · obtain ⟨sl, e1⟩ := I.base.slot b o e n hb hx
      exact ⟨sl, (hs.2 b (Nat.ne_of_lt (Nat.lt_of_lt_of_le (Heap.lt_size e) I.ok.above))).trans e1⟩
    · obtain ⟨o', e1⟩ := I.base.there b o e hx
      exact ⟨o', (hs.2 b (Nat.ne_of_lt (Nat.lt_of_lt_of_le (Heap.lt_size e) I.ok.above))).trans e1⟩
    · by_cases hj : j = i
      · subst hj
        rw [hi] at e1; cases e1
        rw [List.getElem?_set_self hiσ] at e2
        cases e2
        exact ⟨u, r, .inl ⟨hk, by simp⟩⟩
      · rw [List.getElem?_set_ne (Ne.symm hj)] at e2
        refine Ea.x1_2 (hl j y v' e1 e2 e3) fun u' r' q => ?_
        refine ⟨u', r', ?_⟩
        rcases q with ⟨k, e⟩ | ⟨k, c, e, z⟩
        · refine .inl ⟨k, ?_⟩
          have : y ≠ x := fun e => hj (nodup_ix hN e1 (e ▸ hi))
          simp [this, e]
        · exact .inr ⟨k, c, e, z.sameBut hs (cne y c e)⟩
    · obtain ⟨w', z⟩ := I.cell y c e
      exact ⟨w', z.sameBut hs (cne y c e)⟩
    · refine Ea.a5 (I.pin p hp) fun e n ne nf d => ?_
      exact ⟨(hs.2 p.1 ne).trans e, n, ne, nf, d⟩
  · have hfn : X.fn x = true := by
      rcases hf with z | z
      · exact z
      · rw [z] at hk; cases hk
    obtain ⟨c, hc⟩ := I.ok.has x (.inl hk)
    obtain ⟨w', z⟩ := I.cell x c hc
    refine wpAny_storeName_cell I.ok.kind hk hc z (fun h' hc' hs => ?_)
    refine Ea.x1_2 (id z) fun oc hoc hocd => ?_
    refine h { s with heap := h' } ⟨I.ok, I.os, I.bare, ⟨fun b o e n hb hx => ?_, fun b o e n hb hx => ?_, I.base.free, fun b o e hx => ?_, I.base.tups, I.base.frzs, I.base.tbls⟩, ⟨m, hn.sameBut hs (Ne.symm (cne x c hc)), fun j y v' e1 e2 e3 => ?_⟩, fun y c' e => ?_, I.free, I.freeC, fun p hp => ?_, tracked ⟨oc, hoc, I.freeC x c hc⟩ hs, by simpa using I.len⟩ ⟨c, hs, .inr hc⟩
    · exact (hs.2 b (Nat.ne_of_lt (Nat.lt_of_lt_of_le (Heap.lt_size e) (I.ok.cab x c hfn hc)))).trans (I.base.keep b o e n hb hx)
    · obtain ⟨sl, e1⟩ := I.base.slot b o e n hb hx
      exact ⟨sl, (hs.2 b (Nat.ne_of_lt (Nat.lt_of_lt_of_le (Heap.lt_size e) (I.ok.cab x c hfn hc)))).trans e1⟩
    · obtain ⟨o', e1⟩ := I.base.there b o e hx
      exact ⟨o', (hs.2 b (Nat.ne_of_lt (Nat.lt_of_lt_of_le (Heap.lt_size e) (I.ok.cab x c hfn hc)))).trans e1⟩
    · by_cases hj : j = i
      · subst hj
        rw [hi] at e1; cases e1
        rw [List.getElem?_set_self hiσ] at e2
        cases e2
        exact ⟨u, r, .inr ⟨.inl hk, c, hc, hc'⟩⟩
      · rw [List.getElem?_set_ne (Ne.symm hj)] at e2
        refine Ea.x1_2 (hl j y v' e1 e2 e3) fun u' r' q => ?_
        refine ⟨u', r', ?_⟩
        rcases q with q | ⟨k, c', e, z'⟩
        · exact .inl q
        · refine .inr ⟨k, c', e, z'.sameBut hs ?_⟩
          rintro rfl
          exact hj (nodup_ix hN e1 (I.ok.inj _ _ _ e hc ▸ hi))
    · by_cases hcc : c' = c
      · subst hcc; exact ⟨_, hc'⟩
      · obtain ⟨w2, z2⟩ := I.cell y c' e
        exact ⟨w2, z2.sameBut hs hcc⟩
    · refine Ea.a5 (I.pin p hp) fun e n ne nf d => ?_
      refine ⟨(hs.2 p.1 ?_).trans e, n, ne, nf, d⟩
      intro q
      rw [q, hoc] at e
      have q' : oc = p.2 := Option.some.inj e
      exact d w' (by rw [← q']; exact hocd)
theorem store_ok {M : Model} {A : Around} {E : Value → Shared → Prop} {i : Nat} {x : Str} {v : V} {u : Value} {Q : Unit → Shared → Prop} (I : Inv X pins σ H s) (hN : X.N.Nodup) (hi : X.N[i]? = some x) (hx : Loc X.env.scope x) (r : RelV v u)
    (h : ∀ s', Inv X pins (σ.set i (some v)) H s' → Q () s') (hf : X.fn x = true ∨ X.env.scope.names.lookup x = some .local) : wpAny M A (storeName X.env x u) Q E s :=
  store_ok2 I hN hi hx r (fun s' I' _ => h s' I') hf
theorem Inv.call' {s' : Shared} {ch : List Addr} (I : Inv X pins σ H s) (ho : s'.os = s.os) (u : Un (frs X.stack) ch H H' s.heap s'.heap) (hok : HOk X.prog X.w H' s'.heap) (hg : AllBare s'.gens)
    (hch : ∀ b ∈ ch, (b ∈ X.ex ∨ X.s_0.heap.objs.size ≤ b) ∧ b ≠ X.env.locals ∧ (∀ x c, X.env.cells.lookup x = some c → c ≠ b) ∧ ∀ p ∈ X.pn ++ pins, p.1 ≠ b) : Inv X pins σ H' s' := by
  obtain ⟨h', g', d', t', o'⟩ := s'
  have e : o' = s.os := ho
  subst e
  exact I.call (g' := g') (t' := t') (d' := d') u hok hg hch
end
noncomputable abbrev XK := Value → Option Addr → Hp → Prop
noncomputable abbrev St := List (Option V)
noncomputable abbrev VK := V → Hp → Prop
noncomputable abbrev TE := St → Hp → VK → Prop
noncomputable abbrev TT := St → Hp → (Bool → Hp → Prop) → Prop
noncomputable abbrev TA := St → Hp → (List V → Hp → Prop) → Prop
structure Ends where
  nx : St → Hp → Prop
  rt : VK
  bk : St → Hp → Prop := fun _ _ => False
  ct : St → Hp → Prop := fun _ _ => False
noncomputable abbrev TS := Ends → St → Hp → Prop
noncomputable def EP (X : Cx) (pins : List (Addr × Obj)) (σ : St) (Q : VK) (u : Value) (s' : Shared) : Prop := ∃ v H', Inv X pins σ H' s' ∧ RelV v u ∧ Q v H'
noncomputable def TP (X : Cx) (pins : List (Addr × Obj)) (σ : St) (Q : Bool → Hp → Prop) (b : Bool) (s' : Shared) : Prop := ∃ H', Inv X pins σ H' s' ∧ Q b H'
noncomputable def AP (X : Cx) (pins : List (Addr × Obj)) (σ : St) (Q : List V → Hp → Prop) (us : List Value) (s' : Shared) : Prop := ∃ vs H', Inv X pins σ H' s' ∧ Vals vs us ∧ Q vs H'
noncomputable def SP (X : Cx) (pins : List (Addr × Obj)) (D : Ends) (f : Flow) (s' : Shared) : Prop :=
  match f with
  | .next => ∃ σ' H', Inv X pins σ' H' s' ∧ D.nx σ' H'
  | .brk => ∃ σ' H', Inv X pins σ' H' s' ∧ D.bk σ' H'
  | .cont => ∃ σ' H', Inv X pins σ' H' s' ∧ D.ct σ' H'
  | .ret u => ∃ v σ' H', Inv X pins σ' H' s' ∧ RelV v u ∧ D.rt v H'
noncomputable def PE (X : Cx) (e : Expr) (t : TE) : Prop :=
  ∀ (pins : List (Addr × Obj)) (s : Shared) (σ : St) (H : Hp) (Q : VK), Inv X pins σ H s → t σ H Q → wpAny (model X.prog X.w) X.A (eval e X.env) (EP X pins σ Q) X.xe s
noncomputable def PT (X : Cx) (e : Expr) (t : TT) : Prop :=
  ∀ (pins : List (Addr × Obj)) (s : Shared) (σ : St) (H : Hp) (Q : Bool → Hp → Prop), Inv X pins σ H s → t σ H Q → wpAny (model X.prog X.w) X.A (isTrue e X.env (eval e X.env)) (TP X pins σ Q) X.xe s
noncomputable def PW (X : Cx) (e : Expr) (t : TT) : Prop :=
  ∀ (whole : Sem Value) (pins : List (Addr × Obj)) (s : Shared) (σ : St) (H : Hp) (Q : Bool → Hp → Prop), Inv X pins σ H s → t σ H Q → wpAny (model X.prog X.w) X.A (isTrue e X.env whole) (TP X pins σ Q) X.xe s
theorem PW.pt {X : Cx} {e : Expr} {t : TT} (h : PW X e t) : PT X e t := h _
noncomputable def PA (X : Cx) (es : List Expr) (t : TA) : Prop :=
  ∀ (pos : Pos) (pins : List (Addr × Obj)) (s : Shared) (σ : St) (H : Hp) (Q : List V → Hp → Prop), Inv X pins σ H s → t σ H Q → wpAny (model X.prog X.w) X.A (spliced (backTo pos (starEach es X.env))) (AP X pins σ Q) X.xe s
noncomputable def PS (X : Cx) (st : Stmt) (t : TS) : Prop :=
  ∀ (pins : List (Addr × Obj)) (s : Shared) (σ : St) (H : Hp) (D : Ends), Inv X pins σ H s → t D σ H → wpAny (model X.prog X.w) X.A (exec st X.env) (SP X pins D) X.xe s
noncomputable def PSs (X : Cx) (st : List Stmt) (t : TS) : Prop :=
  ∀ (pins : List (Addr × Obj)) (s : Shared) (σ : St) (H : Hp) (D : Ends), Inv X pins σ H s → t D σ H → wpAny (model X.prog X.w) X.A (execs st X.env) (SP X pins D) X.xe s
theorem thn {α : Type} {t : Sem α} {Q Q' : α → Shared → Prop} {M : Model} {A : Around} {E : Value → Shared → Prop} {s : Shared} (h : wpAny M A t Q E s) (hQ : ∀ a s, Q a s → Q' a s) : wpAny M A t Q' E s := wpAny_mono h hQ fun _ _ x => x
end L2
namespace L2
open PySem PySem.Spec PyProof.Rows
section
variable {X : Cx}
noncomputable def tVar (i : Nat) : TE := fun σ H Q => ∃ v, σ[i]? = some (some v) ∧ Q v H
noncomputable def tC (v : V) : TE := fun _ H Q => Q v H
theorem pe_var {i : Nat} {x : Str} {pos : Pos} (hN : X.N[i]? = some x) (hv : Vis X.env.scope x) (hd : (x == ("__debug__" : Str)) = false := by decide) (hcd : (x == ("__classdict__" : Str)) = false := by decide) : PE X (.Name x pos) (tVar i) := by
  intro pins s σ H Q I h
  refine Ea.x1_2 h ?_; clear h; intro v e h
  refine Ea.x1_2 I.loc fun m hn hl => ?_
  refine Ea.x1_2 (hl i x v hN e hv) fun u r l => ?_
  have fin : EP X pins σ Q u s := ⟨v, H, I, r, h⟩
  rcases l with ⟨hk, hm⟩ | ⟨hk, c, hc, hcell⟩
  · exact wpAny_Name (wpAny_loadName_local I.ok.kind hk hn hm fin) hd
  · rcases hk with hk | hk
    · exact wpAny_Name (wpAny_loadName_cell I.ok.kind hk hc hcell fin) hd
    · exact wpAny_Name (wpAny_loadName_free I.ok.kind hk hc hcell fin hcd) hd
theorem pe_int {i j pos} : PE X (.Constant (.int i) j pos) (tC (.int i)) := fun _ _ _ H _ I h => wpAny_Constant_int ⟨.int i, H, I.tok _, ⟨_, rfl⟩, h⟩
theorem pe_bl {b j pos} : PE X (.Constant (.bool b) j pos) (tC (.bl b)) := fun _ _ _ H _ I h => Constant_bool ⟨.bl b, H, I, rfl, h⟩
noncomputable def Gl (X : Cx) (x : Str) : Prop := X.env.kindOf x = some .globalImplicit
theorem ld_glob {E : Value → Shared → Prop} {pins : List (Addr × Obj)} {s : Shared} {σ : St} {H : Hp} {x : Str} {u : Value} {pos : Pos} {Q : Value → Shared → Prop} (I : Inv X pins σ H s) (hg : Gl X x) (hm : X.mg x = some u) (h : Q u s)
    (hd : (x == ("__debug__" : Str)) = false := by decide) : wpAny (model X.prog X.w) X.A (eval (.Name x pos) X.env) Q E s :=
  Calls.Name_function_global I.ok.kind hg (Calls.loadGlobal_global (by rw [I.ok.glob]; exact I.mod.glob.keeps I.bk) hm h) hd
theorem ld_blt {E : Value → Shared → Prop} {pins : List (Addr × Obj)} {s : Shared} {σ : St} {H : Hp} {x : Str} {u : Value} {pos : Pos} {Q : Value → Shared → Prop} (I : Inv X pins σ H s) (hg : Gl X x) (hm : X.mg x = none) (hv : bootBuiltins x = some u) (h : Q u s)
    (hn : x ≠ "__name__" := by decide) (hd : (x == ("__debug__" : Str)) = false := by decide) : wpAny (model X.prog X.w) X.A (eval (.Name x pos) X.env) Q E s := by
  refine Ea.x1_2 I.mod.blt fun mb h1 h2 => ?_
  exact Calls.Name_function_global I.ok.kind hg (Calls.loadGlobal_builtin (by rw [I.ok.glob]; exact I.mod.glob.keeps I.bk) hm (by rw [I.ok.blt]; exact h1.keeps I.bk) ((h2 x hn).trans hv) h) hd
theorem pe_glob {x : Str} {v : V} {u : Value} {pos : Pos} (hg : Gl X x) (hm : X.mg x = some u) (r : RelV v u) (hd : (x == ("__debug__" : Str)) = false := by decide) : PE X (.Name x pos) (tC v) :=
  fun _ _ _ H _ I h => ld_glob I hg hm ⟨v, H, I, r, h⟩ hd
variable {a b : Expr} {ta tb : TE} {pos : Pos}
noncomputable def PC (X : Cx) (op : CmpOp) (a b : Expr) (t : TE) : Prop :=
  ∀ (pins : List (Addr × Obj)) (s : Shared) (σ : St) (H : Hp) (Q : VK), Inv X pins σ H s → t σ H Q →
    wpAny (model X.prog X.w) X.A (eval a X.env) (fun v s₁ => wpAny (model X.prog X.w) X.A (eval b X.env) (fun u s₂ => wpAny (model X.prog X.w) X.A (compareOp op v u) (EP X pins σ Q) X.xe s₂) X.xe s₁) X.xe s
noncomputable def tB (t : TE) : TT := fun σ H Q => t σ H fun x H1 => ∃ c, x = .bl c ∧ Q c H1
theorem pt_cmp {op : CmpOp} {t : TE} (h : PC X op a b t) (h1 : behindInMarks op b = false := by rfl) : PT X (.Compare a [op] [b] pos) (tB t) := by
  intro pins s σ H Q I hw
  refine wpAny_isTrue_Compare1 (thn (h pins s σ H _ I hw) fun v s1 h1 => thn h1 fun u s2 h2 => thn h2 fun c s3 qz55 => Ea.x2_3 qz55 fun x H1 I1 r1 q1 => ?_) h1
  refine Ea.x1_2 q1 fun d qz225 q => ?_; try clear q1; subst qz225
  cases r1
  exact wpAny_truthy_bool ⟨H1, I1, q⟩
variable {tA tB' : TT} {rest : List Expr}
noncomputable def tAnd (t u : TT) : TT := fun σ H Q => t σ H fun c H1 => if c = true then u σ H1 Q else Q false H1
noncomputable def tOr (t u : TT) : TT := fun σ H Q => t σ H fun c H1 => if c = true then Q true H1 else u σ H1 Q
noncomputable def tNot (t : TT) : TT := fun σ H Q => t σ H fun c H1 => Q (!c) H1
theorem pw_and1 (ha : PT X a tA) : PW X (.BoolOp .And [a] pos) tA := by
  intro wh pins s σ H Q I h
  refine isTrue_and (thn (ha pins s σ H Q I h) fun c s1 e => ?_)
  cases c with
  | true => exact isTrue_and_nil e
  | false => exact e
theorem pw_or1 (ha : PT X a tA) : PW X (.BoolOp .Or [a] pos) tA := by
  intro wh pins s σ H Q I h
  refine isTrue_or (thn (ha pins s σ H Q I h) fun c s1 e => ?_)
  cases c with
  | false => exact isTrue_or_nil e
  | true => exact e
theorem pw_and (ha : PT X a tA) (hb : PW X (.BoolOp .And (b :: rest) pos) tB') : PW X (.BoolOp .And (a :: b :: rest) pos) (tAnd tA tB') := by
  intro wh pins s σ H Q I h
  refine isTrue_and (thn (ha pins s σ H _ I h) fun c s1 qz227 => ?_)
  refine Ea.x1_2 qz227 fun H1 I1 q1 => ?_; try clear qz227
  cases c with
  | true => exact hb wh pins s1 σ H1 Q I1 q1
  | false => exact ⟨H1, I1, q1⟩
theorem pw_or (ha : PT X a tA) (hb : PW X (.BoolOp .Or (b :: rest) pos) tB') : PW X (.BoolOp .Or (a :: b :: rest) pos) (tOr tA tB') := by
  intro wh pins s σ H Q I h
  refine isTrue_or (thn (ha pins s σ H _ I h) fun c s1 qz228 => ?_)
  refine Ea.x1_2 qz228 fun H1 I1 q1 => ?_; try clear qz228
  cases c with
  | true => exact ⟨H1, I1, q1⟩
  | false => exact hb wh pins s1 σ H1 Q I1 q1
theorem pt_not (ha : PT X a tA) : PT X (.UnaryOp .Not a pos) (tNot tA) := by
  intro pins s σ H Q I h
  exact isTrue_not (ha pins s σ H (fun c H1 => Q (!c) H1) I h)
noncomputable def tIf (t : TT) (ta tb : TE) : TE := fun σ H Q => t σ H fun c H1 => if c = true then ta σ H1 Q else tb σ H1 Q
theorem pe_ifExp {c : Expr} (hc : PT X c tA) (ha : PE X a ta) (hb : PE X b tb) : PE X (.IfExp c a b pos) (tIf tA ta tb) := by
  intro pins s σ H Q I h
  refine wpAny_IfExp (thn (hc pins s σ H _ I h) fun d s1 qz232 => ?_)
  refine Ea.x1_2 qz232 fun H1 I1 q1 => ?_; try clear qz232
  cases d with
  | true => exact ha pins s1 σ H1 Q I1 q1
  | false => exact hb pins s1 σ H1 Q I1 q1
end
end L2
namespace L2
open PySem PySem.Spec PyProof.Rows
noncomputable def SqL (K : PySem.W.Frag) (H : Hp) (a : Addr) (xs : List V) : Prop :=
  Rd H a (.lst xs) ∨
    ∃ (o : Obj) (its : Array Value) (n : Nat), K.lookup a = some o ∧ o.cls = .type "list" ∧ o.dict = none ∧ o.data = .seq its n ∧ its.size ≤ sizeLine ∧ Vals xs its.toList
noncomputable def SqT (K : PySem.W.Frag) (H : Hp) (a : Addr) (xs : List V) : Prop :=
  Rd H a (.tup xs) ∨
    ∃ (o : Obj) (its : Array Value) (n : Nat), K.lookup a = some o ∧ o.cls = .type "tuple" ∧ o.data = .seq its n ∧ its.size ≤ sizeLine ∧ Vals xs its.toList
noncomputable def absV : Value → Option V
  | .none => some .non
  | .bool b => some (.bl b)
  | .int i _ => some (.int i)
  | .str x _ => some (.str x)
  | .bytes b _ => some (.byt b)
  | .float b _ => some (.flt b)
  | .ref a => some (.ref a)
  | .type n => some (.ty n)
  | _ => none
theorem RelV.abs {x : V} {u : Value} (r : RelV x u) : absV u = some x := by
  cases x with
  | non => cases r; rfl
  | bl _ => cases r; rfl
  | int _ => obtain ⟨t, rfl⟩ := r; rfl
  | str _ => obtain ⟨t, rfl⟩ := r; rfl
  | byt _ => obtain ⟨t, rfl⟩ := r; rfl
  | flt _ => obtain ⟨t, rfl⟩ := r; rfl
  | ref _ => cases r; rfl
  | ty _ => cases r; rfl
theorem RelV.inj {x y : V} {u : Value} (r : RelV x u) (q : RelV y u) : x = y := Option.some.inj (r.abs.symm.trans q.abs)
theorem Vals.inj {xs ys : List V} {us : List Value} (h : Vals xs us) (k : Vals ys us) : xs = ys := by
  induction h generalizing ys with
  | nil => cases k; rfl
  | cons r _ ih => cases k with | cons r' t' => rw [r.inj r', ih t']
section
variable {X : Cx} {pins : List (Addr × Obj)} {σ : St} {H : Hp} {s : Shared} {a : Addr} {xs ys : List V}
theorem SqL.of {K : PySem.W.Frag} (h : H a = some (.lst xs)) : SqL K H a xs := .inl (.inl h)
theorem SqT.of {K : PySem.W.Frag} (h : H a = some (.tup xs)) : SqT K H a xs := .inl (.inl h)
theorem Inv.list (I : Inv X pins σ H s) (h : SqL X.K H a xs) : ∃ its : List Value, Vals xs its ∧ PlainL s.heap a its.toArray ∧ xs.length ≤ sizeLine := by
  rcases h with h | ⟨o, its, n, hk, hc, hd, hs, hz, r⟩
  · obtain ⟨z, its, n, r, e⟩ := h.ok I.hok
    exact ⟨its, r, ⟨_, n, e, rfl, rfl, rfl⟩, z⟩
  · refine ⟨its.toList, r, ⟨o, n, I.kIn a o hk, hc, hd, by simpa using hs⟩, ?_⟩
    have e := r.length
    simp only [Array.length_toList] at e
    lia
theorem Inv.tuple (I : Inv X pins σ H s) (h : SqT X.K H a xs) : ∃ its : List Value, Vals xs its ∧ IsTup s.heap a its.toArray ∧ xs.length ≤ sizeLine := by
  rcases h with h | ⟨o, its, n, hk, hc, hs, hz, r⟩
  · obtain ⟨z, its, r, p⟩ := h.ok I.hok
    exact ⟨its, r, p, z⟩
  · refine ⟨its.toList, r, ⟨o, I.kIn a o hk, hc, n, by simpa using hs⟩, ?_⟩
    have e := r.length
    simp only [Array.length_toList] at e
    lia
theorem Inv.list_inj (I : Inv X pins σ H s) (h : SqL X.K H a xs) (h' : SqL X.K H a ys) : xs = ys := by
  refine Ea.x1_3 (I.list h) fun its r qz233 _ => ?_; obtain ⟨o, n, e, _, _, d⟩ := qz233
  refine Ea.x1_3 (I.list h') fun its' r' qz234 _ => ?_; obtain ⟨o', n', e', _, _, d'⟩ := qz234
  rw [e] at e'; cases e'
  rw [d] at d'
  injection d' with d1 _
  have : its = its' := by simpa using congrArg Array.toList d1
  subst this
  exact r.inj r'
end
noncomputable abbrev Cx.wish (X : Cx) (E : Value → Shared → Prop) : Cx := { X with xe := E }
noncomputable abbrev Cx.nox (X : Cx) : Cx := X.wish fun _ _ => False
theorem Cx.Ok.wish {X : Cx} (ok : X.Ok) (E : Value → Shared → Prop) : (X.wish E).Ok :=
  ⟨ok.mod, ok.kind, ok.glob, ok.blt, ok.above, ok.inj, ok.has, ok.cab, ok.hd, ok.frames, ok.stk, ok.exf, ok.bs, ok.bsz, ok.noex, ok.exfs, ok.funs, ok.frf⟩
theorem Cx.Ok.unwish {X : Cx} {E : Value → Shared → Prop} (ok : (X.wish E).Ok) : X.Ok :=
  ⟨ok.mod, ok.kind, ok.glob, ok.blt, ok.above, ok.inj, ok.has, ok.cab, ok.hd, ok.frames, ok.stk, ok.exf, ok.bs, ok.bsz, ok.noex, ok.exfs, ok.funs, ok.frf⟩
section
variable {X : Cx} {pins : List (Addr × Obj)} {σ : St} {H : Hp} {s : Shared} {E : Value → Shared → Prop}
theorem Inv.wish (I : Inv X pins σ H s) (E : Value → Shared → Prop) : Inv (X.wish E) pins σ H s := ⟨I.ok.wish E, I.os, I.bare, I.base, I.loc, I.cell, I.free, I.freeC, I.pin, I.hok, I.len⟩
theorem Inv.unwish (I : Inv (X.wish E) pins σ H s) : Inv X pins σ H s := ⟨I.ok.unwish, I.os, I.bare, I.base, I.loc, I.cell, I.free, I.freeC, I.pin, I.hok, I.len⟩
theorem SP.unwish {D : Ends} {f : Flow} {s' : Shared} (h : SP (X.wish E) pins D f s') : SP X pins D f s' := by
  cases f with
  | next => obtain ⟨σ', H', I, q⟩ := h; exact ⟨σ', H', I.unwish, q⟩
  | brk => obtain ⟨σ', H', I, q⟩ := h; exact ⟨σ', H', I.unwish, q⟩
  | cont => obtain ⟨σ', H', I, q⟩ := h; exact ⟨σ', H', I.unwish, q⟩
  | ret u => obtain ⟨v, σ', H', I, r, q⟩ := h; exact ⟨v, σ', H', I.unwish, r, q⟩
theorem PSs.nox {st : List Stmt} {t : TS} (h : PSs X.nox st t) : PSs X st t := fun pins s σ H D I hw =>
  wpAny_mono (h pins s σ H D (I.wish _) hw) (fun _ _ q => q.unwish) fun _ _ z => False.elim z
end
section
variable {X : Cx} {st : Stmt} {rest : List Stmt} {t u : TS} {e : Expr} {te : TE} {pos : Pos}
noncomputable def tNext : TS := fun D σ H => D.nx σ H
noncomputable def tSeq (t u : TS) : TS := fun D σ H => t { D with nx := u D } σ H
theorem pss_nil : PSs X [] tNext := fun _ _ σ H _ I h => wpAny_execs_nil ⟨σ, H, I, h⟩
theorem pss_cons (h1 : PS X st t) (h2 : PSs X rest u) : PSs X (st :: rest) (tSeq t u) := by
  intro pins s σ H D I h
  refine wpAny_execs_cons (thn (h1 pins s σ H { D with nx := u D } I h) fun f s1 q => ?_)
  cases f with
  | next =>
    refine Ea.x2_2 q ?_; clear q; intro σ' H' I' q
    exact h2 pins s1 σ' H' D I' q
  | ret v => exact q
  | brk => exact q
  | cont => exact q
theorem pss_one (h1 : PS X st t) : PSs X [st] t := by
  intro pins s σ H D I h
  refine wpAny_execs_cons (thn (h1 pins s σ H D I h) fun f s1 q => ?_)
  cases f with
  | next => exact wpAny_execs_nil q
  | ret v => exact q
  | brk => exact q
  | cont => exact q
theorem Inv.quiet {pins : List (Addr × Obj)} {σ : St} {H : Hp} {s : Shared} (I : Inv X pins σ H s) : interactive X.env = false := by simp [interactive, I.ok.kind]
noncomputable def tDrop (te : TE) : TS := fun D σ H => te σ H fun _ H1 => D.nx σ H1
theorem ps_expr (he : PE X e te) (hs : swapsWith e none pos.line X.env = pure false := by rfl) : PS X (.Expr e pos) (tDrop te) := by
  intro pins s σ H D I h
  exact wpAny_Expr_any (thn (he pins s σ H _ I h) fun v s1 qz60 => Ea.x2_3 qz60 fun x H1 I1 r1 q1 => ⟨σ, H1, I1, q1⟩) I.quiet hs
noncomputable def tRet (te : TE) : TS := fun D σ H => te σ H D.rt
theorem ps_ret (he : PE X e te) : PS X (.Return (some e) pos) (tRet te) := by
  intro pins s σ H D I h
  exact wpAny_Return_some (thn (he pins s σ H _ I h) fun v s1 qz61 => Ea.x2_3 qz61 fun x H1 I1 r1 q1 => ⟨x, σ, H1, I1, r1, q1⟩)
noncomputable def tIfS (c : TT) (t u : TS) : TS := fun D σ H => c σ H fun b H1 => if b = true then t D σ H1 else u D σ H1
theorem ps_if {c : Expr} {a b : List Stmt} {tc : TT} (hc : PT X c tc) (ha : PSs X a t) (hb : PSs X b u) : PS X (.If c a b pos) (tIfS tc t u) := by
  intro pins s σ H D I h
  refine wpAny_If (thn (hc pins s σ H _ I h) fun d s1 qz237 => ?_)
  refine Ea.x1_2 qz237 fun H1 I1 q1 => ?_; try clear qz237
  cases d with
  | true => exact ha pins s1 σ H1 D I1 q1
  | false => exact hb pins s1 σ H1 D I1 q1
end
noncomputable abbrev TG := V → St → Hp → (St → Hp → Prop) → Prop
noncomputable abbrev TGs := List V → St → Hp → (St → Hp → Prop) → Prop
noncomputable def PG (X : Cx) (target : Expr) (t : TG) : Prop :=
  ∀ (pins : List (Addr × Obj)) (s : Shared) (σ : St) (H : Hp) (v : V) (u : Value) (Q : St → Hp → Prop), Inv X pins σ H s → RelV v u → t v σ H Q →
    wpAny (model X.prog X.w) X.A (assign target X.env u) (fun _ s' => ∃ σ' H', Inv X pins σ' H' s' ∧ Q σ' H') X.xe s
noncomputable def PGs (X : Cx) (ts : List Expr) (t : TGs) : Prop :=
  ∀ (pins : List (Addr × Obj)) (s : Shared) (σ : St) (H : Hp) (vs : List V) (us : List Value) (Q : St → Hp → Prop), Inv X pins σ H s → Vals vs us → t vs σ H Q →
    wpAny (model X.prog X.w) X.A (assignInOrder ((assignEach ts X.env).map (·.2)) us) (fun _ s' => ∃ σ' H', Inv X pins σ' H' s' ∧ Q σ' H') X.xe s
noncomputable abbrev TSet := V → V → V → Hp → (Hp → Prop) → Prop
noncomputable def PSet (X : Cx) (t : TSet) : Prop :=
  ∀ (pins : List (Addr × Obj)) (s : Shared) (σ : St) (H : Hp) (o i v : V) (ov iv u : Value) (Q : Hp → Prop), Inv X pins σ H s → RelV o ov → RelV i iv → RelV v u → t o i v H Q →
    wpAny (model X.prog X.w) X.A (setItem ov iv u) (fun _ s' => ∃ H', Inv X pins σ H' s' ∧ Q H') X.xe s
noncomputable abbrev TIp := V → V → Hp → VK → Prop
noncomputable def PIp (X : Cx) (op : Operator) (t : TIp) : Prop :=
  ∀ (pins : List (Addr × Obj)) (s : Shared) (σ : St) (H : Hp) (x y : V) (v u : Value) (Q : VK), Inv X pins σ H s → RelV x v → RelV y u → t x y H Q →
    wpAny (model X.prog X.w) X.A (inplaceOp op v u) (EP X pins σ Q) X.xe s
section
variable {X : Cx} {pos : Pos}
noncomputable def gName (i : Nat) : TG := fun v σ H Q => Q (σ.set i (some v)) H
theorem pg_name {i : Nat} {x : Str} (hN : X.N.Nodup) (hi : X.N[i]? = some x) (hx : Loc X.env.scope x) (hf : X.fn x = true ∨ X.env.scope.names.lookup x = some .local := by first | left; rfl | right; rfl) : PG X (.Name x pos) (gName i) := by
  intro pins s σ H v u Q I r h
  exact wpAny_assign_Name (store_ok I hN hi hx r (fun s' I' => ⟨_, H, I', h⟩) hf)
noncomputable def gNil : TGs := fun vs σ H Q => vs = [] ∧ Q σ H
noncomputable def gCons (t : TG) (u : TGs) : TGs := fun vs σ H Q => ∃ v r, vs = v :: r ∧ t v σ H fun σ' H' => u r σ' H' Q
theorem pgs_nil : PGs X [] gNil := by
  intro pins s σ H vs us Q I r h
  obtain ⟨e, h⟩ := h
  subst e
  cases r
  exact assignInOrder_nil ⟨σ, H, I, h⟩
theorem pgs_cons {e : Expr} {es : List Expr} {t : TG} {u : TGs} (h1 : PG X e t) (h2 : PGs X es u)
    (hs : (assignEach (e :: es) X.env).map (·.2) = assign e X.env :: (assignEach es X.env).map (·.2) := by rfl) : PGs X (e :: es) (gCons t u) := by
  intro pins s σ H vs us Q I r h
  refine Ea.x2_2 h ?_; clear h; intro v vr e1 h
  subst e1
  cases r with
  | cons r rr =>
    rw [hs]
    refine assignInOrder_cons (thn (h1 pins s σ H _ _ _ I r h) fun _ s1 qz238 => ?_)
    refine Ea.x2_2 qz238 fun σ1 H1 I1 q1 => ?_; try clear qz238
    exact h2 pins s1 σ1 H1 _ _ Q I1 rr q1
noncomputable def gTup (K : PySem.W.Frag) (n : Nat) (t : TGs) : TG := fun v σ H Q => ∃ a xs, v = .ref a ∧ SqT K H a xs ∧ xs.length = n ∧ t xs σ H Q
theorem pg_tup {es : List Expr} {k : Nat} {t : TGs} {n : Nat} (hc : X.calm = true) (h : PGs X es t)
    (hn : (assignEach es X.env).length = n := by rfl) (hst : (assignEach es X.env).findIdx? (·.1) = none := by rfl) : PG X (.Tuple es k pos) (gTup X.K n t) := by
  intro pins s σ H v u Q I r hw
  refine Ea.x2_4 hw ?_; clear hw; intro a xs e1 hq hl hw
  subst e1
  cases r
  refine Ea.x1_3 (I.tuple hq) fun its rv ht hz => ?_
  refine assign_Tuple_tuple (I.ok.hd hc) ht (by simp [hn, ← hl, rv.length]) hst fun h' hx => ?_
  have I1 : Inv X pins σ H { s with heap := h' } := I.kept (t' := s.toks) fun b o e => hx b o (Nat.ne_of_lt (Heap.lt_size e)) e
  exact h pins _ σ H xs _ Q I1 (by simpa using rv) hw
noncomputable def gSub (to ti : TE) (t : TSet) : TG := fun v σ H Q => to σ H fun o H1 => ti σ H1 fun i H2 => t o i v H2 fun H3 => Q σ H3
theorem pg_sub {o i : Expr} {to ti : TE} {t : TSet} (ho : PE X o to) (hi : PE X i ti) (hs : PSet X t)
    (ha : ∀ v, assign (.Subscript o i pos) X.env v = (do
      let ov ← holding [v] (eval o X.env)
      let iv ← holding [v, ov] (eval i X.env)
      standAt pos
      holding [v, ov, iv] (setItem ov iv v)
      release [v, ov, iv] []) := by intro _; rfl) : PG X (.Subscript o i pos) (gSub to ti t) := by
  intro pins s σ H v u Q I r h
  rw [ha]
  refine wpAny_bind (wpAny_holding (thn (ho pins s σ H _ I h) fun ov s1 qz62 => Ea.x2_3 qz62 fun x H1 I1 r1 q1 => ?_))
  refine wpAny_bind (wpAny_holding (thn (hi pins s1 σ H1 _ I1 q1) fun iv s2 qz63 => Ea.x2_3 qz63 fun y H2 I2 r2 q2 => ?_))
  refine wpAny_bind (wpAny_standAt (wpAny_bind (wpAny_holding (thn (hs pins s2 σ H2 x y v ov iv u _ I2 r1 r2 r q2) fun _ s3 qz239 => ?_))))
  refine Ea.x1_2 qz239 fun H3 I3 q3 => ?_; try clear qz239
  exact wpAny_release ⟨σ, H3, I3, q3⟩
noncomputable def tAsg (te : TE) (g : TG) : TS := fun D σ H => te σ H fun x H1 => g x σ H1 D.nx
theorem ps_asg {tg e : Expr} {te : TE} {g : TG} (he : PE X e te) (hg : PG X tg g) (hs : swapsWithSole [tg] e pos.line X.env = pure false := by rfl) (hw : swappedStores [tg] e X.env = pure none := by rfl)
    (h1 : (assignEach [tg] X.env).map (·.2) = [assign tg X.env] := by rfl) : PS X (.Assign [tg] e pos) (tAsg te g) := by
  intro pins s σ H D I h
  refine wpAny_Assign_stores (thn (he pins s σ H _ I h) fun v s1 qz64 => Ea.x2_3 qz64 fun x H1 I1 r1 q1 => ?_) hs hw
  rw [h1]
  exact thn (hg pins s1 σ H1 x v _ I1 r1 q1) fun _ s2 q => q
theorem ps_set {i : Nat} {x : Str} {e : Expr} {te : TE} {pos' : Pos} (hN : X.N.Nodup) (hi : X.N[i]? = some x) (hx : Loc X.env.scope x) (he : PE X e te) (hs : swapsWith e (some (.Name x pos')) pos.line X.env = pure false := by rfl) (hf : X.fn x = true ∨ X.env.scope.names.lookup x = some .local := by first | left; rfl | right; rfl) :
    PS X (.Assign [.Name x pos'] e pos) (tAsg te (gName i)) := by
  intro pins s σ H D I h
  refine wpAny_Assign_Name (thn (he pins s σ H _ I h) fun v s1 qz65 => Ea.x2_3 qz65 fun y H1 I1 r1 q1 => ?_) hs
  exact store_ok I1 hN hi hx r1 (fun s2 I2 => ⟨_, H1, I2, q1⟩) hf
noncomputable def tAug (i : Nat) (te : TE) (ti : TIp) : TS := fun D σ H => ∃ x, σ[i]? = some (some x) ∧ te σ H fun y H1 => ti x y H1 fun z H2 => D.nx (σ.set i (some z)) H2
theorem ps_aug {i : Nat} {x : Str} {e : Expr} {te : TE} {op : Operator} {ti : TIp} {pos' : Pos} (hN : X.N.Nodup) (hi : X.N[i]? = some x) (hx : Loc X.env.scope x) (he : PE X e te) (ho : PIp X op ti) (hf : X.fn x = true ∨ X.env.scope.names.lookup x = some .local := by first | left; rfl | right; rfl) :
    PS X (.AugAssign (.Name x pos') op e pos) (tAug i te ti) := by
  intro pins s σ H D I h
  refine Ea.x1_2 h ?_; clear h; intro v e1 h
  refine Ea.x1_2 I.loc fun m hn hl => ?_
  have vis : Vis X.env.scope x := by rcases hx with k | k; exact .inl k; exact .inr (.inl k)
  refine Ea.x1_2 (hl i x v hi e1 vis) fun u r l => ?_
  refine wpAny_AugAssign_Name ?_
  have go : wpAny (model X.prog X.w) X.A (eval e X.env) (fun w s₂ => wpAny (model X.prog X.w) X.A (inplaceOp op u w) (fun r s₃ => wpAny (model X.prog X.w) X.A (storeName X.env x r) (fun _ => SP X pins D .next) X.xe s₃) X.xe s₂) X.xe s := by
    refine thn (he pins s σ H _ I h) fun w s1 qz67 => Ea.x2_3 qz67 fun y H1 I1 r1 q1 => ?_
    refine thn (ho pins s1 σ H1 v y u w _ I1 r r1 q1) fun z s2 qz68 => Ea.x2_3 qz68 fun zv H2 I2 r2 q2 => ?_
    exact store_ok I2 hN hi hx r2 (fun s3 I3 => ⟨_, H2, I3, q2⟩) hf
  rcases l with ⟨hk, hm⟩ | ⟨hk, c, hc, hcell⟩
  · exact wpAny_loadName_local I.ok.kind hk hn hm go
  · rcases hk with hk | hk
    · exact wpAny_loadName_cell I.ok.kind hk hc hcell go
    · rcases hx with k | k
      · have : X.env.scope.names.lookup x = some .free := hk
        rw [k] at this; cases this
      · have : X.env.scope.names.lookup x = some .free := hk
        rw [k] at this; cases this
noncomputable def tAugS (to ti te : TE) (tget : V → V → Hp → VK → Prop) (tip : TIp) (tset : TSet) : TS := fun D σ H => to σ H fun o H1 => ti σ H1 fun i H2 => tget o i H2 fun x H3 => te σ H3 fun y H4 => tip x y H4 fun z H5 => tset o i z H5 fun H6 => D.nx σ H6
noncomputable def PGet (X : Cx) (t : V → V → Hp → VK → Prop) : Prop :=
  ∀ (pins : List (Addr × Obj)) (s : Shared) (σ : St) (H : Hp) (o i : V) (ov iv : Value) (Q : VK), Inv X pins σ H s → RelV o ov → RelV i iv → t o i H Q →
    wpAny (model X.prog X.w) X.A (getItem ov iv) (EP X pins σ Q) X.xe s
theorem ps_augS {o i e : Expr} {to ti te : TE} {tget : V → V → Hp → VK → Prop} {tip : TIp} {tset : TSet} {op : Operator} {tpos : Pos} (ho : PE X o to) (hi : PE X i ti) (hg : PGet X tget) (he : PE X e te) (hp : PIp X op tip) (hs : PSet X tset)
    (ha : ∀ ov iv new, augStore i ov iv new = (do holding [new, ov, iv] (setItem ov iv new); release [new, ov, iv] []; pure .next) := by intros; rfl) : PS X (.AugAssign (.Subscript o i tpos) op e pos) (tAugS to ti te tget tip tset) := by
  intro pins s σ H D I h
  refine wpAny_AugAssign_SubscriptAny (thn (ho pins s σ H _ I h) fun ov s1 qz69 => Ea.x2_3 qz69 fun x1 H1 I1 r1 q1 => ?_) ha
  refine thn (hi pins s1 σ H1 _ I1 q1) fun iv s2 qz70 => Ea.x2_3 qz70 fun x2 H2 I2 r2 q2 => ?_
  refine thn (hg pins s2 σ H2 x1 x2 ov iv _ I2 r1 r2 q2) fun old s3 qz71 => Ea.x2_3 qz71 fun x3 H3 I3 r3 q3 => ?_
  refine thn (he pins s3 σ H3 _ I3 q3) fun v s4 qz72 => Ea.x2_3 qz72 fun x4 H4 I4 r4 q4 => ?_
  refine thn (hp pins s4 σ H4 x3 x4 old v _ I4 r3 r4 q4) fun new s5 qz73 => Ea.x2_3 qz73 fun x5 H5 I5 r5 q5 => ?_
  exact thn (hs pins s5 σ H5 x1 x2 x5 ov iv new _ I5 r1 r2 r5 q5) fun _ s6 ⟨H6, I6, q6⟩ => ⟨σ, H6, I6, q6⟩
noncomputable def ipI (f : Int → Int → Int) : TIp := fun x y H Q => ∃ i j, x = .int i ∧ y = .int j ∧ Q (.int (f i j)) H
theorem ip_add : PIp X .Add (ipI fun i j => i + j) := by
  intro pins s σ H x y v u Q I r1 r2 h
  refine Ea.x2_3 h fun i j e1 e2 q => ?_; try clear h
  subst e1; subst e2
  obtain ⟨t, rfl⟩ := r1
  obtain ⟨t', rfl⟩ := r2
  exact iadd_int ⟨.int _, H, I.tok _, ⟨_, rfl⟩, q⟩
theorem ip_sub : PIp X .Sub (ipI fun i j => i - j) := by
  intro pins s σ H x y v u Q I r1 r2 h
  refine Ea.x2_3 h fun i j e1 e2 q => ?_; try clear h
  subst e1; subst e2
  obtain ⟨t, rfl⟩ := r1
  obtain ⟨t', rfl⟩ := r2
  exact isub_int ⟨.int _, H, I.tok _, ⟨_, rfl⟩, q⟩
end
section
variable {X : Cx} {pos : Pos}
noncomputable def tWhile (c : TT) (tb : TS) : TS := fun D σ H => ∃ W : Nat → St → Hp → Prop, (∃ m, W m σ H) ∧ ∀ m σ H, W m σ H →
  c σ H fun b H1 => if b = true then ∃ N : St → Hp → Prop, (∀ σ' H', N σ' H' → ∃ m', m' < m ∧ W m' σ' H') ∧ tb { D with nx := N, ct := N, bk := D.nx } σ H1 else D.nx σ H1
theorem ps_while {c : Expr} {body : List Stmt} {tc : TT} {tb : TS} (hp : PassesOwn (model X.prog X.w) X.A X.env X.xe) (hc : PT X c tc) (hb : PSs X body tb) : PS X (.While c body [] pos) (tWhile tc tb) := by
  intro pins s σ H D I h
  refine Ea.x1_2 h fun W qz240 turn => ?_; try clear h; obtain ⟨m0, w0⟩ := qz240
  refine wpAny_While (codeAny_whileLoop (fun n s' => ∃ σ' H', Inv X pins σ' H' s' ∧ W n σ' H') ?_ m0 ⟨σ, H, I, w0⟩)
  intro n s1 qz241
  refine Ea.x2_2 qz241 fun σ1 H1 I1 w1 => ?_; try clear qz241
  refine wpAny_passesOwn hp (thn (hc pins s1 σ1 H1 _ I1 (turn n σ1 H1 w1)) fun b s2 qz242 => ?_)
  refine Ea.x1_2 qz242 fun H2 I2 q2 => ?_; try clear qz242
  cases b with
  | true =>
    refine Ea.x1_2 q2 ?_; clear q2; intro N hN q2
    rw [if_pos rfl]
    refine wpAny_passesOwn hp (thn (hb pins s2 σ1 H2 _ I2 q2) fun f s3 q3 => ?_)
    cases f with
    | next =>
      refine Ea.x2_2 q3 fun σ3 H3 I3 n3 => ?_; try clear q3
      refine Ea.x1_2 (hN σ3 H3 n3) fun m' hm w3 => ?_
      exact ⟨m', hm, σ3, H3, I3, w3⟩
    | cont =>
      refine Ea.x2_2 q3 fun σ3 H3 I3 n3 => ?_; try clear q3
      refine Ea.x1_2 (hN σ3 H3 n3) fun m' hm w3 => ?_
      exact ⟨m', hm, σ3, H3, I3, w3⟩
    | brk => exact q3
    | ret v => exact q3
  | false =>
    rw [if_neg Bool.false_ne_true]
    exact wpAny_execs_nil ⟨σ1, H2, I2, q2⟩
end
structure It where
  go : Nat → Hp → Prop
  yld : Nat → Hp → V → Hp → Prop
  stop : Nat → Hp → Prop
noncomputable def FpOk (X : Cx) (pins : List (Addr × Obj)) (H : Hp) (b : Addr) : Prop :=
  H b = none ∧ b ≠ X.env.locals ∧ b ∉ X.fs ∧ (b ∈ X.ex ∨ X.s_0.heap.objs.size ≤ b) ∧ (∀ x c, X.env.cells.lookup x = some c → c ≠ b) ∧ ∀ p ∈ X.pn ++ pins, p.1 ≠ b
theorem Inv.fpOk {X : Cx} {pins : List (Addr × Obj)} {σ : St} {H H' : Hp} {s : Shared} {b : Addr} (I : Inv X pins σ H s) (hb : s.heap.objs.size ≤ b) (hn : H' b = none) : FpOk X pins H' b := by
  refine ⟨hn, Nat.ne_of_gt (Nat.lt_of_lt_of_le I.lt hb), I.nofs hb, .inr (Nat.le_trans I.sz hb), fun x c e z => ?_, fun p hp z => ?_⟩
  · obtain ⟨v, q⟩ := I.cell x c e
    exact absurd (Nat.lt_of_lt_of_le q.lt (by rw [z]; exact hb)) (Nat.lt_irrefl _)
  · exact absurd (Nat.lt_of_lt_of_le (Heap.lt_size (I.pin p hp).1) (by rw [z]; exact hb)) (Nat.lt_irrefl _)
structure Turn (P : Program) (w : World) (K : PySem.W.Frag) (tg : Expr) (J : It) (fp : List Addr) (it : Addr) (tn : Nat → Heap → Prop) : Prop where
  mem : it ∈ fp
  obj : ∀ i h, tn i h → ∀ b ∈ fp, ∃ o, h.get? b = some o ∧ ∀ v, o.data ≠ .cell v
  keep : ∀ i h h', tn i h → (∀ b ∈ fp, ∀ o, h.get? b = some o → h'.get? b = some o) → tn i h'
  item : ∀ (X : Cx), X.prog = P → X.w = w → X.K = K → X.calm = true → ∀ (i : Nat) (pins : List (Addr × Obj)) (s : Shared) (σ : St) (H : Hp) (E : Value → Shared → Prop), Inv X pins σ H s → (∀ b ∈ fp, FpOk X pins H b) → tn i s.heap → J.go i H →
    wpAny (model P w) X.A (pyNext (.ref it)) (fun r s1 => ∃ u, r = some u ∧
      wpAny (model P w) X.A (letOwnedTupleGo tg (.ref it) u) (fun _ s2 => ∃ x H', Inv X pins σ H' s2 ∧ RelV x u ∧ J.yld i H x H' ∧ tn (i + 1) s2.heap ∧ ∀ b ∈ fp, H' b = none) E s1) E s
  done : ∀ (X : Cx), X.prog = P → X.w = w → X.K = K → X.calm = true → ∀ (i : Nat) (pins : List (Addr × Obj)) (s : Shared) (σ : St) (H : Hp) (E : Value → Shared → Prop), Inv X pins σ H s → (∀ b ∈ fp, FpOk X pins H b) → tn i s.heap → J.stop i H →
    wpAny (model P w) X.A (pyNext (.ref it)) (fun r s1 => r = none ∧ Inv X pins σ H s1) E s
  self : ∀ (A : Around) (i : Nat) (s : Shared) (Q : Value → Shared → Prop) (E : Value → Shared → Prop), tn i s.heap → Q (.ref it) s → wpAny (model P w) A (pyIter (.ref it)) Q E s
noncomputable abbrev TI := St → Hp → (It → Hp → Prop) → Prop
noncomputable def PIE (X : Cx) (pins : List (Addr × Obj)) (σ : St) (tg : Expr) (R : It → Hp → Prop) (itv : Value) (s2 : Shared) : Prop :=
  ∃ (it : Addr) (fp : List Addr) (tn : Nat → Heap → Prop) (J : It) (H' : Hp), itv = .ref it ∧ Inv X pins σ H' s2 ∧ Turn X.prog X.w X.K tg J fp it tn ∧ tn 0 s2.heap ∧ (∀ b ∈ fp, FpOk X pins H' b) ∧ R J H'
noncomputable def PI (X : Cx) (tg iter : Expr) (wi : TI) : Prop :=
  ∀ (pins : List (Addr × Obj)) (s : Shared) (σ : St) (H : Hp) (R : It → Hp → Prop), Inv X pins σ H s → wi σ H R →
    wpAny (model X.prog X.w) X.A (eval iter X.env) (fun v s1 => wpAny (model X.prog X.w) X.A (pyIter v) (PIE X pins σ tg R) X.xe s1) X.xe s
theorem go_of {M : Model} {A : Around} {E : Value → Shared → Prop} {s : Shared} {tg : Expr} {it : Addr} {u : Value} {o : Obj} {n : String} {vs : Array Value} {Q : Unit → Shared → Prop} (ho : s.heap.get? it = some o) (hc : o.cls = .type n) (hd : o.data = .fields vs)
    (hn : ["enumerate", "zip", "dict_itemiterator", "dict_reverseitemiterator", "odict_iterator", "itertools.zip_longest", "itertools.pairwise"].contains n = false) (hQ : Q () s) : wpAny M A (letOwnedTupleGo tg (.ref it) u) Q E s := by
  unfold letOwnedTupleGo
  cases tg <;> first
    | exact wpAny_pure hQ
    | (cases u <;> first
        | exact wpAny_pure hQ
        | (refine wpAny_bind (wpAny_load ho ?_)
           rw [hc, hd]
           show wpAny M A (if (["enumerate", "zip", "dict_itemiterator", "dict_reverseitemiterator", "odict_iterator", "itertools.zip_longest", "itertools.pairwise"].contains n && vs[0]? == some (rawInt _)) = true then _ else _) Q E s
           rw [if_neg (by intro h; rw [hn, Bool.false_and] at h; cases h)]
           exact wpAny_pure hQ))
noncomputable def Itl (K : PySem.W.Frag) (a : Addr) : It :=
  ⟨fun i H => ∃ xs x, SqL K H a xs ∧ xs[i]? = some x, fun i H x H' => H' = H ∧ ∀ xs, SqL K H a xs → xs[i]? = some x, fun i H => ∃ xs, SqL K H a xs ∧ xs.length ≤ i⟩
noncomputable def Itr (lo : Int) (n : Nat) : It := ⟨fun i _ => i < n, fun i H x H' => H' = H ∧ x = .int (lo + i), fun i _ => n ≤ i⟩
theorem turn_list {P : Program} {w : World} {K : PySem.W.Frag} {tg : Expr} (a it : Addr) : Turn P w K tg (Itl K a) [it] it (fun i h => h.IsListIter it a i) where
  mem := by simp
  obj := fun i h st b hb => by
    have e : b = it := by simpa using hb
    subst e
    refine Ea.x1_3 st fun o e c d => ?_; try clear st
    exact ⟨o, e, fun v z => by rw [d] at z; cases z⟩
  keep := fun i h h' st k => st.at fun o e => k it (by simp) o e
  item := by
    intro X hP hw hK hc i pins s σ H E I hf st hg
    subst hP hw hK
    refine Ea.x2_2 hg fun xs x hq hx => ?_; try clear hg
    refine Ea.x1_3 (I.list hq) fun its rv p hz => ?_
    refine Ea.x1_2 (rv.get hx) fun u hu ru => ?_
    refine Ea.a6 (hf it (by simp)) fun f0 f1 f2 f3 f4 f5 => ?_
    refine wpAny_pyNext_list_item st p.isList (x := u) (by simpa using hu) fun h' st' sb => ?_
    have I1 : Inv X pins σ H { s with heap := h' } := I.turned (t' := s.toks) (fun b o hb e => (sb.2 b hb).trans e) f0 f1 f3 f4 f5
    refine Ea.x1_3 (id st') fun o e c d => ?_
    exact ⟨u, rfl, go_of (s := { s with heap := h' }) e c d (by decide) ⟨x, H, I1, ru, ⟨rfl, fun ys hy => by rw [I.list_inj hy hq]; exact hx⟩, st', fun b hb => (hf b hb).1⟩⟩
  done := by
    intro X hP hw hK hc i pins s σ H E I hf st hg
    subst hP hw hK
    refine Ea.x1_2 hg fun xs hq hx => ?_; try clear hg
    refine Ea.x1_3 (I.list hq) fun its rv p hz => ?_
    refine Ea.a6 (hf it (by simp)) fun f0 f1 f2 f3 f4 f5 => ?_
    have hl := rv.length
    exact wpAny_pyNext_list_end (I.ok.hd hc) st p.isList (by simp; lia) fun h' eb => ⟨rfl, I.turned (t' := s.toks) (fun b o hb e => eb b o hb e) f0 f1 f3 f4 f5⟩
  self := fun _ _ _ _ _ st h => wpAny_pyIter_listiter st h
theorem turn_range {P : Program} {w : World} {K : PySem.W.Frag} {tg : Expr} (it : Addr) (lo : Int) (n : Nat) : Turn P w K tg (Itr lo n) [it] it (fun i h => IsRangeIter h it (lo + (i : Nat) * 1) ((n : Int) - (i : Nat)) 1) where
  mem := by simp
  obj := fun i h st b hb => by
    have e : b = it := by simpa using hb
    subst e
    exact ⟨_, st, fun v z => by
      have z' : Data.fields _ = Data.cell v := z
      cases z'⟩
  keep := fun i h h' st k => k it (by simp) _ st
  item := by
    intro X hP hw hK hc i pins s σ H E I hf st hg
    subst hP hw hK
    refine Ea.a6 (hf it (by simp)) fun f0 f1 f2 f3 f4 f5 => ?_
    have W := Walks.range (prog := X.prog) (w := X.w) (I.ok.hd hc) it lo 1 n
    refine W.item i s _ _ hg st fun v h' tk hv st' kk => ?_
    obtain ⟨t, rfl⟩ := hv
    have I1 : Inv X pins σ H { s with heap := h', toks := tk } := I.turned (fun b o hb e => kk b o (by simpa using hb) e) f0 f1 f3 f4 f5
    refine ⟨_, rfl, go_of (s := { s with heap := h', toks := tk }) (n := "range_iterator") st' rfl rfl (by decide) ⟨.int (lo + i), H, I1, ⟨t, ?_⟩, ⟨rfl, rfl⟩, st', fun b hb => (hf b hb).1⟩⟩
    rw [Int.mul_one]
  done := by
    intro X hP hw hK hc i pins s σ H E I hf st hg
    subst hP hw hK
    refine Ea.a6 (hf it (by simp)) fun f0 f1 f2 f3 f4 f5 => ?_
    exact wpAny_pyNext_range_end (I.ok.hd hc) st (by have : n ≤ i := hg; lia) fun h' eb => ⟨rfl, I.turned (t' := s.toks) (fun b o hb e => eb b o hb e) f0 f1 f3 f4 f5⟩
  self := fun _ _ _ _ _ st h => wpAny_pyIter_rangeiter st h
end L2
namespace L2
open PySem PySem.Spec PyProof.Rows
section
variable {X : Cx} {tg : Expr}
noncomputable def iList (K : PySem.W.Frag) (tl : TE) : TI := fun σ H R => tl σ H fun x H1 => ∃ a, x = .ref a ∧ (∃ xs, SqL K H1 a xs) ∧ R (Itl K a) H1
theorem pi_list {l : Expr} {tl : TE} (hl : PE X l tl) : PI X tg l (iList X.K tl) := by
  intro pins s σ H R I h
  refine thn (hl pins s σ H _ I h) fun v s1 qz74 => Ea.x2_3 qz74 fun x H1 I1 r1 q1 => ?_
  refine Ea.x1_3 q1 fun a e qz243 q => ?_; try clear q1; obtain ⟨xs, hq⟩ := qz243
  subst e
  cases r1
  refine Ea.x1_3 (I1.list hq) fun its rv p hz => ?_
  refine wpAny_pyIter_list p.isList ?_
  refine ⟨s1.heap.objs.size, [s1.heap.objs.size], _, _, H1, rfl, I1.kept (t' := s1.toks) fun b o e => Heap.get?_push_of_some _ e, turn_list a _, ⟨_, Heap.get?_push_size _ rfl, rfl, rfl⟩, fun b hb => ?_, q⟩
  have e : b = s1.heap.objs.size := by simpa using hb
  subst e
  exact I1.fpOk (Nat.le_refl _) (I1.hok.fresh (Nat.le_refl _))
theorem range_it {pins : List (Addr × Obj)} {σ : St} {H : Hp} {s : Shared} {R : It → Hp → Prop} {E : Value → Shared → Prop} {lo hi : Int} {t u v : Tok} {tk : Nat} (I : Inv X pins σ H s) (h1 : -(2 ^ 62) ≤ lo) (h2 : lo < 2 ^ 62) (h3 : -(2 ^ 62) ≤ hi) (h4 : hi < 2 ^ 62)
    (q : R (Itr lo (hi - lo).toNat) H) : wpAny (model X.prog X.w) X.A (pyIter (.ref s.heap.objs.size)) (PIE X pins σ tg R) E { s with heap := s.heap.push { cls := .type "range", data := .fields #[.int lo t, .int hi u, .int 1 v] }, toks := tk } := by
  refine wpAny_pyIter_range (IsRange.new ..) (small_one h1 h2 h3 h4) ?_
  have I1 : Inv X pins σ H { s with heap := s.heap.push { cls := .type "range", data := .fields #[.int lo t, .int hi u, .int 1 v] }, toks := tk } := I.kept fun b o e => Heap.get?_push_of_some _ e
  refine ⟨(s.heap.push { cls := .type "range", data := .fields #[.int lo t, .int hi u, .int 1 v] }).objs.size, [(s.heap.push { cls := .type "range", data := .fields #[.int lo t, .int hi u, .int 1 v] }).objs.size], _, _, H, rfl,
    I1.kept (t' := tk) fun b o e => Heap.get?_push_of_some _ e, turn_range _ lo (hi - lo).toNat, ?_, fun b hb => ?_, q⟩
  · have e1 : lo + ((0 : Nat) : Int) * 1 = lo := by simp
    have e2 : (((hi - lo).toNat : Nat) : Int) - ((0 : Nat) : Int) = Builtin.Range.rangeSize lo hi 1 := by rw [rangeSize_one]; split <;> lia
    show IsRangeIter _ _ (lo + ((0 : Nat) : Int) * 1) ((((hi - lo).toNat : Nat) : Int) - ((0 : Nat) : Int)) 1
    rw [e1, e2]
    exact Heap.get?_push_size _ rfl
  · have e : b = (s.heap.push { cls := .type "range", data := .fields #[.int lo t, .int hi u, .int 1 v] }).objs.size := by simpa using hb
    subst e
    exact I1.fpOk (Nat.le_refl _) (I1.hok.fresh (Nat.le_refl _))
noncomputable def iRng1 (ta : TA) : TI := fun σ H R => ta σ H fun vs H1 => ∃ j : Int, vs = [.int j] ∧ -(2 ^ 62) ≤ j ∧ j < 2 ^ 62 ∧ R (Itr 0 j.toNat) H1
noncomputable def iRng2 (ta : TA) : TI := fun σ H R => ta σ H fun vs H1 => ∃ i j : Int, vs = [.int i, .int j] ∧ (-(2 ^ 62) ≤ i ∧ i < 2 ^ 62 ∧ -(2 ^ 62) ≤ j ∧ j < 2 ^ 62) ∧ R (Itr i (j - i).toNat) H1
theorem pi_range1 {a : Expr} {ta : TA} {p pos : Pos} (hg : Gl X "range") (hm : X.mg "range" = none) (ha : PA X [a] ta) (hs : starEach [a] X.env = [(false, eval a X.env)] := by rfl) : PI X tg (.Call (.Name "range" p) [a] [] pos) (iRng1 ta) := by
  intro pins s σ H R I h
  refine Call_ (ld_blt I hg hm boot_range (PyProof.Rows.callWith_type1 (thn (ha pos pins s σ H _ I h) fun us s1 qz76 => Ea.x2_3 qz76 fun vs H1 I1 r1 q1 => ?_) hs rfl))
  refine Ea.x1_4 q1 ?_; clear q1; intro j e q1 q2 q
  subst e
  cases r1 with
  | cons r rr =>
    cases rr
    obtain ⟨t, rfl⟩ := r
    exact call_range_1 (range_it I1 (by lia) (by lia) q1 q2 (by simpa using q))
theorem pi_range2 {a b : Expr} {ta : TA} {p pos : Pos} (hg : Gl X "range") (hm : X.mg "range" = none) (ha : PA X [a, b] ta) (hs : starEach [a, b] X.env = [(false, eval a X.env), (false, eval b X.env)] := by rfl) (hs2 : starEach [b] X.env = [(false, eval b X.env)] := by rfl) :
    PI X tg (.Call (.Name "range" p) [a, b] [] pos) (iRng2 ta) := by
  intro pins s σ H R I h
  refine Call_ (ld_blt I hg hm boot_range (PyProof.Rows.callWith_type1 (thn (ha pos pins s σ H _ I h) fun us s1 qz77 => Ea.x2_3 qz77 fun vs H1 I1 r1 q1 => ?_) (by rw [hs, hs2]) (by rw [hs2]; rfl)))
  refine Ea.x2_3 q1 fun i j e qz245 q => ?_; try clear q1; obtain ⟨q1, q2, q3, q4⟩ := qz245
  subst e
  cases r1 with
  | cons r rr =>
    cases rr with
    | cons r' rr =>
      cases rr
      obtain ⟨t, rfl⟩ := r
      obtain ⟨t', rfl⟩ := r'
      exact call_range_2 (range_it I1 q1 q2 q3 q4 q)
noncomputable def tFor (wi : TI) (g : TG) (tb : TS) : TS := fun D σ H => wi σ H fun J H1 => ∃ W : Nat → Nat → St → Hp → Prop, (∃ m, W 0 m σ H1) ∧ ∀ i m σ H, W i m σ H →
  (J.stop i H ∧ D.nx σ H) ∨ (J.go i H ∧ ∃ N : St → Hp → Prop, (∀ σ' H', N σ' H' → ∃ m', m' < m ∧ W (i + 1) m' σ' H') ∧ ∀ x H', J.yld i H x H' → g x σ H' fun σ2 H2 => tb { D with nx := N, ct := N, bk := D.nx } σ2 H2)
noncomputable def pinsAt (fp : List Addr) (h : Heap) : List (Addr × Obj) := fp.filterMap fun b => (h.get? b).map fun o => (b, o)
theorem mem_pinsAt {fp : List Addr} {h : Heap} {b : Addr} {o : Obj} (hb : b ∈ fp) (e : h.get? b = some o) : (b, o) ∈ pinsAt fp h := List.mem_filterMap.mpr ⟨b, hb, by rw [e]; rfl⟩
theorem of_pinsAt {fp : List Addr} {h : Heap} {p : Addr × Obj} (hp : p ∈ pinsAt fp h) : p.1 ∈ fp ∧ h.get? p.1 = some p.2 := by
  refine Ea.x1_2 (List.mem_filterMap.mp hp) fun b hb e => ?_
  cases q : h.get? b with
  | none => rw [q] at e; cases e
  | some o =>
    rw [q] at e
    have e' : (b, o) = p := Option.some.inj e
    subst e'
    exact ⟨hb, q⟩
theorem Inv.pinned {pins : List (Addr × Obj)} {σ : St} {H : Hp} {s : Shared} {fp : List Addr} (I : Inv X pins σ H s) (hf : ∀ b ∈ fp, FpOk X pins H b) (ho : ∀ b ∈ fp, ∃ o, s.heap.get? b = some o ∧ ∀ v, o.data ≠ .cell v) : Inv X (pins ++ pinsAt fp s.heap) σ H s :=
  I.pins_of fun p hp => (List.mem_append.mp hp).elim (fun z => I.pin p (List.mem_append_right _ z)) fun z => by
    obtain ⟨hb, e⟩ := of_pinsAt z
    refine Ea.a4 (hf p.1 hb) fun f0 f1 f2 _ => ?_
    refine Ea.x1_2 (ho p.1 hb) fun o e' d => ?_
    rw [e] at e'; cases e'
    exact ⟨e, f0, f1, f2, d⟩
theorem Inv.unpinned {pins pl : List (Addr × Obj)} {σ : St} {H : Hp} {s : Shared} (I : Inv X (pins ++ pl) σ H s) : Inv X pins σ H s := I.pins_of fun p hp => I.pin p (List.mem_append_right _ (List.mem_append_left _ hp))
theorem ps_for {iter : Expr} {body : List Stmt} {wi : TI} {g : TG} {tb : TS} {pos : Pos} (hp : PassesOwn (model X.prog X.w) X.A X.env X.xe) (hc : X.calm = true) (hi : PI X tg iter wi) (hg : PG X tg g) (hb : PSs X body tb)
    (hs : ∀ x, foldedSetIterable iter X.env x = pure x := by intro _; rfl) : PS X (.For tg iter body [] pos) (tFor wi g tb) := by
  intro pins s σ H D I h
  refine wpAny_For (thn (hi pins s σ H _ I h) fun v s1 h1 => thn h1 fun itv s2 h2 => ?_) hs
  obtain ⟨it, fp, tn, J, H2, e, I2, T, st2, f2, W, ⟨m0, w0⟩, turn⟩ := h2
  subst e
  have stat : ∀ {H' : Hp}, (∀ b ∈ fp, H' b = none) → ∀ b ∈ fp, FpOk X pins H' b := fun hn b hb => ⟨hn b hb, (f2 b hb).2⟩
  refine codeAny_forLoop_any (fun n s' => ∃ i σ' H', Inv X pins σ' H' s' ∧ tn i s'.heap ∧ (∀ b ∈ fp, H' b = none) ∧ W i n σ' H') ?_ m0 ⟨0, σ, H2, I2, st2, fun b hb => (f2 b hb).1, w0⟩
  intro n s3 qz247
  refine Ea.x3_4 qz247 fun i σ3 H3 I3 st3 fr3 w3 => ?_; try clear qz247
  rcases turn i n σ3 H3 w3 with ⟨stop, qn⟩ | ⟨go, N, hN, step⟩
  · refine wpAny_passesOwn hp (thn (T.done X rfl rfl rfl hc i pins s3 σ3 H3 X.xe I3 (stat fr3) st3 stop) fun r s4 ⟨hr, I4⟩ => ?_)
    subst hr
    exact wpAny_execs_nil ⟨σ3, H3, I4, qn⟩
  · refine wpAny_passesOwn hp (thn (T.item X rfl rfl rfl hc i pins s3 σ3 H3 X.xe I3 (stat fr3) st3 go) fun r s4 qz249 => ?_)
    refine Ea.x1_2 qz249 fun u hr h4 => ?_; try clear qz249
    subst hr
    refine wpAny_passesOwn hp (thn h4 fun _ s5 qz78 => Ea.x2_3 qz78 fun x H5 I5 r5 qz79 => ?_)
    refine Ea.a3 qz79 fun y5 st5 fr5 => ?_; try clear qz79
    have I5' := I5.pinned (stat fr5) (T.obj _ _ st5)
    refine wpAny_passesOwn hp (thn (hg _ s5 σ3 H5 x u _ I5' r5 (step x H5 y5)) fun _ s6 qz250 => ?_)
    refine Ea.x2_2 qz250 fun σ6 H6 I6 q6 => ?_; try clear qz250
    refine wpAny_passesOwn hp (thn (hb _ s6 σ6 H6 _ I6 q6) fun f s7 q7 => ?_)
    have again : ∀ {σ7 : St} {H7 : Hp}, Inv X (pins ++ pinsAt fp s5.heap) σ7 H7 s7 → N σ7 H7 → ∃ m, m < n ∧ ∃ i σ' H', Inv X pins σ' H' s7 ∧ tn i s7.heap ∧ (∀ b ∈ fp, H' b = none) ∧ W i m σ' H' := fun {σ7 H7} I7 n7 => by
      refine Ea.x1_2 (hN σ7 H7 n7) fun m' hm w7 => ?_
      refine ⟨m', hm, i + 1, σ7, H7, I7.unpinned, T.keep _ _ _ st5 fun b hb o e => (I7.pin (b, o) (List.mem_append_right _ (List.mem_append_right _ (mem_pinsAt hb e)))).1, fun b hb => ?_, w7⟩
      refine Ea.x1_2 (T.obj _ _ st5 b hb) fun o e d => ?_
      exact (I7.pin (b, o) (List.mem_append_right _ (List.mem_append_right _ (mem_pinsAt hb e)))).2.1
    cases f with
    | next => obtain ⟨σ7, H7, I7, n7⟩ := q7; exact again I7 n7
    | cont => obtain ⟨σ7, H7, I7, n7⟩ := q7; exact again I7 n7
    | brk => obtain ⟨σ7, H7, I7, q7⟩ := q7; exact ⟨σ7, H7, I7.unpinned, q7⟩
    | ret v => obtain ⟨x7, σ7, H7, I7, r7, q7⟩ := q7; exact ⟨x7, σ7, H7, I7.unpinned, r7, q7⟩
end
theorem for_list {K : PySem.W.Frag} {a : Addr} {xs : List V} {g : TG} {tb : TS} {D : Ends} {σ : St} {H : Hp} (Pv : Nat → St → Hp → Prop) (h0 : Pv 0 σ H) (hl : ∀ i σ H, i ≤ xs.length → Pv i σ H → SqL K H a xs)
    (hs : ∀ i x σ H, xs[i]? = some x → Pv i σ H → g x σ H fun σ2 H2 => tb { D with nx := Pv (i + 1), ct := Pv (i + 1), bk := D.nx } σ2 H2) (hd : ∀ σ H, Pv xs.length σ H → D.nx σ H) :
    ∃ W : Nat → Nat → St → Hp → Prop, (∃ m, W 0 m σ H) ∧ ∀ i m σ H, W i m σ H →
      ((Itl K a).stop i H ∧ D.nx σ H) ∨ ((Itl K a).go i H ∧ ∃ N : St → Hp → Prop, (∀ σ' H', N σ' H' → ∃ m', m' < m ∧ W (i + 1) m' σ' H') ∧ ∀ x H', (Itl K a).yld i H x H' → g x σ H' fun σ2 H2 => tb { D with nx := N, ct := N, bk := D.nx } σ2 H2) := by
  refine ⟨fun i m σ H => m = xs.length - i ∧ i ≤ xs.length ∧ Pv i σ H, ⟨xs.length, by simp, Nat.zero_le _, h0⟩, ?_⟩
  intro i m σ H qz251
  refine Ea.a3 qz251 fun qz252 hi p => ?_; try clear qz251; subst qz252
  have q := hl i σ H hi p
  by_cases hlt : i < xs.length
  · refine .inr ⟨⟨xs, xs[i], q, by simp [hlt]⟩, Pv (i + 1), fun σ' H' p' => ⟨xs.length - (i + 1), by lia, rfl, hlt, p'⟩, fun x H' y => ?_⟩
    obtain ⟨e, y⟩ := y
    subst e
    exact hs i x σ _ (y xs q) p
  · have e : i = xs.length := by lia
    subst e
    exact .inl ⟨⟨xs, q, Nat.le_refl _⟩, hd σ H p⟩
theorem for_range {lo : Int} {n : Nat} {g : TG} {tb : TS} {D : Ends} {σ : St} {H : Hp} (Pv : Nat → St → Hp → Prop) (h0 : Pv 0 σ H)
    (hs : ∀ i σ H, i < n → Pv i σ H → g (.int (lo + i)) σ H fun σ2 H2 => tb { D with nx := Pv (i + 1), ct := Pv (i + 1), bk := D.nx } σ2 H2) (hd : ∀ σ H, Pv n σ H → D.nx σ H) :
    ∃ W : Nat → Nat → St → Hp → Prop, (∃ m, W 0 m σ H) ∧ ∀ i m σ H, W i m σ H →
      ((Itr lo n).stop i H ∧ D.nx σ H) ∨ ((Itr lo n).go i H ∧ ∃ N : St → Hp → Prop, (∀ σ' H', N σ' H' → ∃ m', m' < m ∧ W (i + 1) m' σ' H') ∧ ∀ x H', (Itr lo n).yld i H x H' → g x σ H' fun σ2 H2 => tb { D with nx := N, ct := N, bk := D.nx } σ2 H2) := by
  refine ⟨fun i m σ H => m = n - i ∧ i ≤ n ∧ Pv i σ H, ⟨n, by simp, Nat.zero_le _, h0⟩, ?_⟩
  intro i m σ H qz255
  refine Ea.a3 qz255 fun qz256 hi p => ?_; try clear qz255; subst qz256
  by_cases hlt : i < n
  · refine .inr ⟨hlt, Pv (i + 1), fun σ' H' p' => ⟨n - (i + 1), by lia, rfl, hlt, p'⟩, fun x H' y => ?_⟩
    obtain ⟨e, y⟩ := y
    subst e y
    exact hs i σ _ hlt p
  · have e : i = n := by lia
    subst e
    exact .inl ⟨Nat.le_refl _, hd σ H p⟩
end L2
namespace L2
open PySem PySem.Spec PyProof.Rows
noncomputable abbrev R2 := V → V → Hp → VK → Prop
noncomputable def OpR (X : Cx) (f : Value → Value → Sem Value) (r : R2) : Prop :=
  ∀ (pins : List (Addr × Obj)) (s : Shared) (σ : St) (H : Hp) (x y : V) (v u : Value) (Q : VK), Inv X pins σ H s → RelV x v → RelV y u → r x y H Q →
    wpAny (model X.prog X.w) X.A (f v u) (EP X pins σ Q) X.xe s
noncomputable def UnR (X : Cx) (f : Value → Sem Value) (r : V → Hp → VK → Prop) : Prop :=
  ∀ (pins : List (Addr × Obj)) (s : Shared) (σ : St) (H : Hp) (x : V) (v : Value) (Q : VK), Inv X pins σ H s → RelV x v → r x H Q →
    wpAny (model X.prog X.w) X.A (f v) (EP X pins σ Q) X.xe s
noncomputable def CallR (X : Cx) (f : Value) (r : List V → Hp → VK → Prop) : Prop :=
  ∀ (pins : List (Addr × Obj)) (s : Shared) (σ : St) (H : Hp) (xs : List V) (us : List Value) (Q : VK), Inv X pins σ H s → Vals xs us → r xs H Q →
    wpAny (model X.prog X.w) X.A (call f us) (EP X pins σ Q) X.xe s
noncomputable def TruR (X : Cx) (r : V → Hp → (Bool → Hp → Prop) → Prop) : Prop :=
  ∀ (pins : List (Addr × Obj)) (s : Shared) (σ : St) (H : Hp) (x : V) (v : Value) (Q : Bool → Hp → Prop), Inv X pins σ H s → RelV x v → r x H Q →
    wpAny (model X.prog X.w) X.A (truthy v) (TP X pins σ Q) X.xe s
noncomputable def tOp (r : R2) (ta tb : TE) : TE := fun σ H Q => ta σ H fun x H1 => tb σ H1 fun y H2 => r x y H2 Q
noncomputable def tUn (r : V → Hp → VK → Prop) (ta : TE) : TE := fun σ H Q => ta σ H fun x H1 => r x H1 Q
noncomputable def rI (C : Int → Int → Prop) (g : Int → Int → V) : R2 := fun x y H Q => ∃ i j, x = .int i ∧ y = .int j ∧ C i j ∧ Q (g i j) H
noncomputable def rI0 (g : Int → Int → V) : R2 := fun x y H Q => ∃ i j, x = .int i ∧ y = .int j ∧ Q (g i j) H
noncomputable def rU (g : Int → V) : V → Hp → VK → Prop := fun x H Q => ∃ i, x = .int i ∧ Q (g i) H
section
variable {X : Cx} {a b c : Expr} {ta tb tc : TE} {pos : Pos}
theorem binT (ha : PE X a ta) (hb : PE X b tb) {pins : List (Addr × Obj)} {s : Shared} {σ : St} {H : Hp} {R : V → V → Hp → Prop} (I : Inv X pins σ H s)
    (h : ta σ H fun x H1 => tb σ H1 fun y H2 => R x y H2) {Q : Value → Shared → Prop} {f : Value → Value → Sem Value}
    (hf : ∀ v u s2 x y H2, Inv X pins σ H2 s2 → RelV x v → RelV y u → R x y H2 → wpAny (model X.prog X.w) X.A (f v u) Q X.xe s2) :
    wpAny (model X.prog X.w) X.A (eval a X.env) (fun v s₁ => wpAny (model X.prog X.w) X.A (eval b X.env) (fun u s₂ => wpAny (model X.prog X.w) X.A (f v u) Q X.xe s₂) X.xe s₁) X.xe s := by
  refine thn (ha pins s σ H _ I h) fun v s1 qz80 => Ea.x2_3 qz80 fun x H1 I1 r1 q1 => ?_
  refine thn (hb pins s1 σ H1 _ I1 q1) fun u s2 qz81 => Ea.x2_3 qz81 fun y H2 I2 r2 q2 => ?_
  exact hf v u s2 x y H2 I2 r1 r2 q2
theorem pe_op {op : Operator} {r : R2} (ho : OpR X (binaryOp op) r) (ha : PE X a ta) (hb : PE X b tb) : PE X (.BinOp a op b pos) (tOp r ta tb) := by
  intro pins s σ H Q I h
  exact wpAny_BinOp (binT ha hb I h fun v u s2 x y H2 I2 rx ry q => ho pins s2 σ H2 x y v u Q I2 rx ry q)
theorem pe_un {op : UnaryOp} {r : V → Hp → VK → Prop} (ho : UnR X (unaryOp op) r) (ha : PE X a ta) : PE X (.UnaryOp op a pos) (tUn r ta) := by
  intro pins s σ H Q I h
  exact UnaryOp_ (thn (ha pins s σ H _ I h) fun v s1 qz82 => Ea.x2_3 qz82 fun x H1 I1 r1 q1 => ho pins s1 σ H1 x v Q I1 r1 q1)
theorem opI {f : Value → Value → Sem Value} {C : Int → Int → Prop} {g : Int → Int → Int}
    (rule : ∀ (i j : Int) (t u : Tok) (s : Shared) (Q : Value → Shared → Prop) (E : Value → Shared → Prop), C i j → Q (.int (g i j) s.toks) { s with toks := s.toks + 1 } → wpAny (model X.prog X.w) X.A (f (.int i t) (.int j u)) Q E s) :
    OpR X f (rI C fun i j => .int (g i j)) := by
  intro pins s σ H x y v u Q I rx ry h
  refine Ea.x2_4 h fun i j qz257 qz258 hc q => ?_; try clear h; subst qz257; subst qz258
  obtain ⟨t, rfl⟩ := rx
  obtain ⟨t', rfl⟩ := ry
  exact rule i j t t' s _ _ hc ⟨.int (g i j), H, I.tok _, ⟨_, rfl⟩, q⟩
theorem opI0 {f : Value → Value → Sem Value} {g : Int → Int → Int}
    (rule : ∀ (i j : Int) (t u : Tok) (s : Shared) (Q : Value → Shared → Prop) (E : Value → Shared → Prop), Q (.int (g i j) s.toks) { s with toks := s.toks + 1 } → wpAny (model X.prog X.w) X.A (f (.int i t) (.int j u)) Q E s) :
    OpR X f (rI0 fun i j => .int (g i j)) := by
  intro pins s σ H x y v u Q I rx ry h
  refine Ea.x2_3 h fun i j qz259 qz260 q => ?_; try clear h; subst qz259; subst qz260
  obtain ⟨t, rfl⟩ := rx
  obtain ⟨t', rfl⟩ := ry
  exact rule i j t t' s _ _ ⟨.int (g i j), H, I.tok _, ⟨_, rfl⟩, q⟩
theorem opB0 {f : Value → Value → Sem Value} {g : Int → Int → Bool}
    (rule : ∀ (i j : Int) (t u : Tok) (s : Shared) (Q : Value → Shared → Prop) (E : Value → Shared → Prop), Q (.bool (g i j)) s → wpAny (model X.prog X.w) X.A (f (.int i t) (.int j u)) Q E s) :
    OpR X f (rI0 fun i j => .bl (g i j)) := by
  intro pins s σ H x y v u Q I rx ry h
  refine Ea.x2_3 h fun i j qz261 qz262 q => ?_; try clear h; subst qz261; subst qz262
  obtain ⟨t, rfl⟩ := rx
  obtain ⟨t', rfl⟩ := ry
  exact rule i j t t' s _ _ ⟨.bl (g i j), H, I, rfl, q⟩
noncomputable def CPow (i j : Int) : Prop := 0 ≤ j ∧ j ≤ 1000000 ∧ i.natAbs < 2 ^ 64
theorem two_pow_nn (k : Nat) : (0 : Int) ≤ 2 ^ k := by
  rw [two_pow_cast]
  exact Int.natCast_nonneg _
theorem op_add : OpR X (binaryOp .Add) (rI0 fun i j => .int (i + j)) := opI0 fun _ _ _ _ _ _ _ q => add_int q
theorem op_sub : OpR X (binaryOp .Sub) (rI0 fun i j => .int (i - j)) := opI0 fun _ _ _ _ _ _ _ q => sub_int q
theorem op_shl : OpR X (binaryOp .LShift) (rI CPow fun i j => .int (i * 2 ^ j.toNat)) := opI fun _ _ _ _ _ _ _ hc q => lshift_int_small hc.1 hc.2.1 hc.2.2 q
theorem op_shr : OpR X (binaryOp .RShift) (rI (fun _ j => 0 ≤ j) fun i j => .int (i / 2 ^ j.toNat)) := opI fun i j _ _ _ _ _ hc q =>
  rshift_int hc (by rw [Int.fdiv_eq_ediv_of_nonneg i (two_pow_nn _)]; exact q)
theorem op_and : OpR X (binaryOp .BitAnd) (rI0 fun i j => .int (Builtin.bitAnd i j)) := opI0 fun _ _ _ _ _ _ _ q => and_int q
theorem op_xor : OpR X (binaryOp .BitXor) (rI0 fun i j => .int (Builtin.bitXor i j)) := opI0 fun _ _ _ _ _ _ _ q => xor_int q
theorem unI {f : Value → Sem Value} {g : Int → Int}
    (rule : ∀ (i : Int) (t : Tok) (s : Shared) (Q : Value → Shared → Prop) (E : Value → Shared → Prop), Q (.int (g i) s.toks) { s with toks := s.toks + 1 } → wpAny (model X.prog X.w) X.A (f (.int i t)) Q E s) :
    UnR X f (rU fun i => .int (g i)) := by
  intro pins s σ H x v Q I rx h
  refine Ea.x1_2 h fun i qz263 q => ?_; try clear h; subst qz263
  obtain ⟨t, rfl⟩ := rx
  exact rule i t s _ _ ⟨.int (g i), H, I.tok _, ⟨_, rfl⟩, q⟩
theorem un_neg : UnR X (unaryOp .USub) (rU fun i => .int (-i)) := unI fun _ _ _ _ _ q => neg_int q
end
noncomputable def scal : V → V → Bool
  | .non, .non => true | .non, .int _ => true | .int _, .non => true | .non, .bl _ => true | .bl _, .non => true | .non, .str _ => true | .str _, .non => true
  | .int _, .int _ => true | .bl _, .bl _ => true | .str _, .str _ => true | .byt _, .byt _ => true
  | .int _, .str _ => true | .str _, .int _ => true | .bl _, .str _ => true | .str _, .bl _ => true
  | _, _ => false
noncomputable def rEq : R2 := fun x y H Q => scal x y = true ∧ Q (.bl (decide (x = y))) H
theorem dec_int {i j : Int} : decide (V.int i = V.int j) = (i == j) := by
  rw [Bool.eq_iff_iff]
  simp
theorem dec_bl {i j : Bool} : decide (V.bl i = V.bl j) = (i == j) := by
  rw [Bool.eq_iff_iff]
  simp
theorem dec_str {i j : Str} : decide (V.str i = V.str j) = (i == j) := by
  rw [Bool.eq_iff_iff]
  simp
theorem dec_byt {i j : Array UInt8} : decide (V.byt i = V.byt j) = (i.toList == j.toList) := by
  rw [Bool.eq_iff_iff]
  cases i
  cases j
  simp
section
variable {X : Cx} {a b c : Expr} {ta tb tc : TE} {pos : Pos}
theorem fin_bl {pins : List (Addr × Obj)} {σ : St} {H : Hp} {s : Shared} {Q : VK} {k k' : Bool} (I : Inv X pins σ H s) (q : Q (.bl k) H) (e : k = k') : EP X pins σ Q (.bool k') s := by
  subst e
  exact ⟨.bl k, H, I, rfl, q⟩
theorem op_eq : OpR X (compareOp .Eq) rEq := by
  intro pins s σ H x y v u Q I rx ry h
  obtain ⟨hs, q⟩ := h
  cases x with
  | non =>
    cases rx
    cases y with
    | non => cases ry; exact PySem.EqNone.eq_none_none (fin_bl I q (by simp))
    | bl j => cases ry; exact PySem.EqNone.eq_none_bool (fin_bl I q (by simp))
    | int j => obtain ⟨t', rfl⟩ := ry; exact PySem.EqNone.eq_none_int (fin_bl I q (by simp))
    | str j => obtain ⟨t', rfl⟩ := ry; exact PySem.EqNone.eq_none_str (fin_bl I q (by simp))
    | _ => exact absurd (show false = true from hs) Bool.false_ne_true
  | bl i =>
    cases rx
    cases y with
    | non => cases ry; exact PySem.EqNone.eq_bool_none (fin_bl I q (by simp))
    | bl j => cases ry; exact eq_bool (fin_bl I q dec_bl)
    | str j => obtain ⟨t', rfl⟩ := ry; exact PySem.EqMixed.eq_bool_str (fin_bl I q (by simp))
    | _ => exact absurd (show false = true from hs) Bool.false_ne_true
  | int i =>
    obtain ⟨t, rfl⟩ := rx
    cases y with
    | non => cases ry; exact PySem.EqNone.eq_int_none (fin_bl I q (by simp))
    | int j => obtain ⟨t', rfl⟩ := ry; exact eq_int (fin_bl I q dec_int)
    | str j => obtain ⟨t', rfl⟩ := ry; exact PySem.EqMixed.eq_int_str (fin_bl I q (by simp))
    | _ => exact absurd (show false = true from hs) Bool.false_ne_true
  | str i =>
    obtain ⟨t, rfl⟩ := rx
    cases y with
    | non => cases ry; exact PySem.EqNone.eq_str_none (fin_bl I q (by simp))
    | bl j => cases ry; exact PySem.EqMixed.eq_str_bool (fin_bl I q (by simp))
    | int j => obtain ⟨t', rfl⟩ := ry; exact PySem.EqMixed.eq_str_int (fin_bl I q (by simp))
    | str j => obtain ⟨t', rfl⟩ := ry; exact eq_str (fin_bl I q dec_str)
    | _ => exact absurd (show false = true from hs) Bool.false_ne_true
  | byt i =>
    obtain ⟨t, rfl⟩ := rx
    cases y with
    | byt j => obtain ⟨t', rfl⟩ := ry; exact PySem.W.eq_bytes (fin_bl I q dec_byt)
    | _ => exact absurd (show false = true from hs) Bool.false_ne_true
  | _ => cases y <;> exact absurd (show false = true from hs) Bool.false_ne_true
theorem op_lt : OpR X (compareOp .Lt) (rI0 fun i j => .bl (decide (i < j))) := opB0 fun _ _ _ _ _ _ _ q => lt_int q
theorem op_gt : OpR X (compareOp .Gt) (rI0 fun i j => .bl (decide (j < i))) := opB0 fun _ _ _ _ _ _ _ q => gt_int q
theorem op_ge : OpR X (compareOp .GtE) (rI0 fun i j => .bl (decide (j ≤ i))) := opB0 fun _ _ _ _ _ _ _ q => ge_int q
theorem nomark (b : Expr) {op : CmpOp} (h : op ≠ .In := by decide) (h2 : op ≠ .NotIn := by decide) : behindInMarks op b = false := by
  have e1 : (op == CmpOp.In) = false := by cases op <;> first | rfl | exact absurd rfl h
  have e2 : (op == CmpOp.NotIn) = false := by cases op <;> first | rfl | exact absurd rfl h2
  cases b with
  | Set l k p =>
    show (k == 0 && (op == .In || op == .NotIn) && l.all (constantsAlone 8)) = false
    rw [e1, e2, Bool.or_self, Bool.and_false, Bool.false_and]
  | _ => rfl
theorem pe_cmpR {op : CmpOp} {r : R2} (ho : OpR X (compareOp op) r) (ha : PE X a ta) (hb : PE X b tb) (hm : behindInMarks op b = false) : PE X (.Compare a [op] [b] pos) (tOp r ta tb) := by
  intro pins s σ H Q I h
  exact wpAny_Compare1 (binT ha hb I h fun v u s2 x y H2 I2 rx ry q => ho pins s2 σ H2 x y v u Q I2 rx ry q) hm
noncomputable def tTest (t : TE) : TT := fun σ H Q => t σ H fun x H' => ∃ k, x = .bl k ∧ Q k H'
theorem pt_cmpR {op : CmpOp} {r : R2} (ho : OpR X (compareOp op) r) (ha : PE X a ta) (hb : PE X b tb) (hm : behindInMarks op b = false) : PT X (.Compare a [op] [b] pos) (tTest (tOp r ta tb)) := by
  intro pins s σ H Q I h
  refine wpAny_isTrue_Compare1 (thn (ha pins s σ H _ I h) fun v s1 qz83 => Ea.x2_3 qz83 fun x H1 I1 r1 q1 => thn (hb pins s1 σ H1 _ I1 q1) fun u s2 qz84 => Ea.x2_3 qz84 fun y H2 I2 r2 q2 =>
    thn (ho pins s2 σ H2 x y v u _ I2 r1 r2 q2) fun c s3 ⟨z, H3, I3, r3, k, e, q3⟩ => ?_) hm
  subst e
  cases r3
  exact wpAny_truthy_bool ⟨H3, I3, q3⟩
noncomputable def TruV (K : PySem.W.Frag) (x : V) (H : Hp) (k : Bool) : Prop :=
  match x with
  | .non => k = false
  | .bl b => k = b
  | .int i => k = (i != 0)
  | .str y => y.length ≤ sizeLine ∧ k = ((y.length : Int) != 0)
  | .byt y => y.size ≤ sizeLine ∧ k = ((y.size : Int) != 0)
  | .ref p => (∃ xs, SqL K H p xs ∧ k = !xs.isEmpty) ∨ (∃ xs, SqT K H p xs ∧ k = !xs.isEmpty) ∨ ∃ kvs, H p = some (.dK kvs) ∧ k = !kvs.isEmpty
  | _ => False
theorem isEmpty_kv {κ : Type} {kvs : List (κ × V)} {vs : List (κ × Value)} (r : KV kvs vs) : (!vs.isEmpty) = !kvs.isEmpty := by
  cases r <;> rfl
theorem isEmpty_of {xs : List V} {its : List Value} (r : Vals xs its) : (!its.toArray.isEmpty) = !xs.isEmpty := by
  cases r <;> simp
theorem line63 : (sizeLine : Nat) < 2 ^ 63 := by rw [sizeLine_eq]; decide
theorem tru_ok : TruR X (fun x H Q => ∃ k, TruV X.K x H k ∧ Q k H) := by
  intro pins s σ H x v Q I rx h
  refine Ea.x1_2 h fun k e q => ?_; try clear h
  have hl := line63
  have hs : sizeLine = 16777216 := sizeLine_eq
  cases x with
  | non =>
    cases rx
    have e' : k = false := e
    subst e'
    exact truthy_none ⟨H, I, q⟩
  | bl b =>
    cases rx
    have e' : k = b := e
    subst e'
    exact wpAny_truthy_bool ⟨H, I, q⟩
  | int i =>
    obtain ⟨t, rfl⟩ := rx
    have e' : k = (i != 0) := e
    subst e'
    exact PySem.P.truthy_int ⟨H, I, q⟩
  | str y =>
    obtain ⟨t, rfl⟩ := rx
    obtain ⟨hy, e'⟩ : y.length ≤ sizeLine ∧ k = ((y.length : Int) != 0) := e
    subst e'
    exact PySem.P.truthy_str (by lia) ⟨H, I.tok _, q⟩
  | byt y =>
    obtain ⟨t, rfl⟩ := rx
    obtain ⟨hy, e'⟩ : y.size ≤ sizeLine ∧ k = ((y.size : Int) != 0) := e
    subst e'
    exact PySem.W.truthy_bytes (by lia) ⟨H, I.tok _, q⟩
  | ref p =>
    cases rx
    have e' : (∃ xs, SqL X.K H p xs ∧ k = !xs.isEmpty) ∨ (∃ xs, SqT X.K H p xs ∧ k = !xs.isEmpty) ∨ ∃ kvs, H p = some (.dK kvs) ∧ k = !kvs.isEmpty := e
    rcases e' with ⟨xs, hx, e'⟩ | ⟨xs, hx, e'⟩ | ⟨kvs, hx, e'⟩
    · subst e'
      refine Ea.x1_3 (I.list hx) fun its r pl hz => ?_
      have hlen := r.length
      exact wpAny_truthy_list pl.isList (by simp only [List.size_toArray]; lia) ⟨H, I.tok _, by rw [isEmpty_of r]; exact q⟩
    · subst e'
      refine Ea.x1_3 (I.tuple hx) fun its r pl hz => ?_
      have hlen := r.length
      exact truthy_tuple pl (by simp only [List.size_toArray]; lia) ⟨H, I.tok _, by rw [isEmpty_of r]; exact q⟩
    · subst e'
      obtain ⟨hz, hS, vs, r, m⟩ : kvs.length ≤ sizeLine ∧ (p == sysModules) = false ∧ ∃ vs, KV kvs vs ∧ s.heap.DictOf (mixKind X.prog X.w) p vs := I.hok p _ hx
      have hlen : kvs.length = vs.length := Paired.length r
      exact wpAny_truthy_dict hS m (by lia) ⟨H, I.tok _, by rw [isEmpty_kv r]; exact q⟩
  | _ => exact (show False from e).elim
theorem pt_truth (ha : PE X a ta) (he : ∀ whole, isTrue a X.env whole = (do let v ← whole; standAt a.pos; holding [v] (truthy v))) :
    PT X a (fun σ H Q => ta σ H fun x H' => ∃ k, TruV X.K x H' k ∧ Q k H') := by
  intro pins s σ H Q I h
  exact isTrue_plain (thn (ha pins s σ H _ I h) fun v s1 qz96 => Ea.x2_3 qz96 fun x H1 I1 r1 q1 => tru_ok pins s1 σ H1 x v Q I1 r1 q1) (he _)
theorem vals1 {x : V} {us : List Value} (r : Vals [x] us) : ∃ u, us = [u] ∧ RelV x u := by
  cases r with
  | cons r1 r2 => cases r2; exact ⟨_, rfl, r1⟩
theorem vals2 {x y : V} {us : List Value} (r : Vals [x, y] us) : ∃ u w', us = [u, w'] ∧ RelV x u ∧ RelV y w' := by
  cases r with
  | cons r1 r2 =>
    cases r2 with
    | cons r3 r4 => cases r4; exact ⟨_, _, rfl, r1, r3⟩
theorem call_max2 (hc : X.calm = true) : CallR X (.builtin "max") (fun xs H Q => ∃ i j, xs = [.int i, .int j] ∧ Q (.int (if j > i then j else i)) H) := by
  intro pins s σ H xs us Q I r h
  refine Ea.x2_2 h fun i j qz293 q => ?_; try clear h; subst qz293
  refine Ea.x2_3 (vals2 r) fun u w' qz294 qz295 qz296 => ?_; subst qz294; obtain ⟨t, rfl⟩ := qz295; obtain ⟨t', rfl⟩ := qz296
  refine max_two_ints (I.ok.hd hc) fun h' tk k => ⟨_, H, I.kept k, ?_, q⟩
  by_cases hj : j > i
  · rw [if_pos hj, if_pos hj]; exact ⟨_, rfl⟩
  · rw [if_neg hj, if_neg hj]; exact ⟨_, rfl⟩
theorem call_min2 (hc : X.calm = true) : CallR X (.builtin "min") (fun xs H Q => ∃ i j, xs = [.int i, .int j] ∧ Q (.int (if j < i then j else i)) H) := by
  intro pins s σ H xs us Q I r h
  refine Ea.x2_2 h fun i j qz297 q => ?_; try clear h; subst qz297
  refine Ea.x2_3 (vals2 r) fun u w' qz298 qz299 qz300 => ?_; subst qz298; obtain ⟨t, rfl⟩ := qz299; obtain ⟨t', rfl⟩ := qz300
  refine min_two_ints (I.ok.hd hc) fun h' tk k => ⟨_, H, I.kept k, ?_, q⟩
  by_cases hj : j < i
  · rw [if_pos hj, if_pos hj]; exact ⟨_, rfl⟩
  · rw [if_neg hj, if_neg hj]; exact ⟨_, rfl⟩
end
end L2
namespace L2
open PySem PySem.Spec PyProof.Rows
structure ObjM (h : Heap) (x dx C : Addr) (mA : Str → Option Value) : Prop where
  obj : h.get? x = some (PySem.W.instObj C dx)
  ns : h.Ns1 dx mA
  ne : dx ≠ x
theorem lookIn_ns {h : Heap} {dx : Addr} {mA : Str → Option Value} (n : h.Ns1 dx mA) : ∃ od, h.get? dx = some od ∧ ∀ name, PySem.W.lookIn name od = some (mA name) := by
  refine Ea.x3_5 n fun o es ep ho hd hk _ hm => ?_; try clear n
  refine ⟨o, ho, fun name => ?_⟩
  have e := hm name
  unfold nsFind findBy at e
  rw [← Array.find?_toList] at e
  unfold PySem.W.lookIn
  rw [hd]
  dsimp only
  split
  · rename_i y q
    rw [q] at e
    exact congrArg some e
  · rename_i q
    rw [q] at e
    have a : es.toList.any (·.refKey) = false := by
      rw [List.any_eq_false]
      intro y hy
      refine Ea.x2_1 (hk y (Array.mem_toList_iff.mp hy)) fun z t hkey => ?_
      simp [DictEntry.refKey, hkey]
    have a' : ¬ es.toList.any (·.refKey) = true := by rw [a]; exact Bool.false_ne_true
    rw [if_neg a']
    exact congrArg some e
theorem ObjM.look {h : Heap} {x dx C : Addr} {mA : Str → Option Value} (I : ObjM h x dx C mA) : ∃ od, PySem.W.InstAt h x (PySem.W.instObj C dx) C (some od) ∧ ∀ name, PySem.W.lookIn name od = some (mA name) :=
  let ⟨od, ho, hl⟩ := lookIn_ns I.ns
  ⟨od, ⟨I.obj, rfl, rfl, ho⟩, hl⟩
section
variable {prog : Program} {w : World} {A : Around} {E : Value → Shared → Prop} {s : Shared} {K : PySem.W.Frag} {x dx C f : Addr} {mA : Str → Option Value} {name : Str} {v : Value}
theorem get_map {expr : Bool} {Q : Value → Shared → Prop} (X : K.In s.heap) (I : ObjM s.heap x dx C mA) (hg : PySem.W.plainGet K C name = true) (hh : PySem.W.hasDictIn K C = true)
    (ha : PySem.W.findIn K (.ref C) name = some none) (hv : mA name = some v) (hv' : PySem.W.handedIn v = true) (h : Q v { s with toks := s.toks + 1 }) :
    wpAny (model prog w) A (getAttr (.ref x) name expr) Q E s := by
  refine Ea.x1_2 I.look fun od J hl => ?_
  exact PySem.W.get_value X J (PySem.W.plainGet_of hg).1 (PySem.W.findObj_own hh ha rfl (by rw [hl, hv])) hv' h
theorem get_meth {pl : Sem Bool} {Q : Value × List Value → Shared → Prop} (X : K.In s.heap) (I : ObjM s.heap x dx C mA) (hg : PySem.W.plainGet K C name = true)
    (hf : PySem.W.findIn K (.ref C) name = some (some (.ref f))) (ht : PySem.W.isFn K (.ref f) = true) (hv : mA name = none) (h : Q (.ref f, [.ref x]) s) :
    wpAny (model prog w) A (getMethod (.ref x) name pl) Q E s := by
  refine Ea.x1_2 I.look fun od J hl => ?_
  exact PySem.W.method_fn X J (PySem.W.plainGet_of hg).1 (PySem.W.plainGet_of hg).2 hf (beq_iff_eq.mp ht) (by show (PySem.W.lookIn name od).map (·.isSome) = some false; rw [hl, hv]; rfl) h
theorem set_map {ns : List Str} {Q : Unit → Shared → Prop} (X : K.In s.heap) (I : ObjM s.heap x dx C mA)
    (hs : PySem.W.findIn K (.ref C) "__setattr__" = some (some (.builtin "object.__setattr__"))) (hp : PySem.W.plainOver K C = true) (ht : PySem.W.takerIn K C name = some none) (hh : PySem.W.hasDictIn K C = true)
    (hw : PySem.Within mA ns) (hsz : ns.length ≤ sizeLine)
    (h : ∀ h', ObjM h' x dx C (fun y => if y = name then some v else mA y) → Heap.SameBut dx s.heap h' → Q () { s with heap := h', toks := s.toks + 2 }) :
    wpAny (model prog w) A (setAttr (.ref x) name v) Q E s := by
  refine Ea.x1_2 I.look fun od J hl => ?_
  refine PySem.W.set_plain X J hs (PySem.W.osa_open (s := { s with toks := s.toks + 1 }) (r := none) X J hp ht fun b => ?_)
  refine Ea.x1_2 (PySem.W.any_some hh) fun cd hc hd' => ?_
  have hx : s.heap.get? x = some ⟨.ref C, some dx, .plain, #[]⟩ := I.obj
  refine wpAny_bind (wpAny_pure (wpAny_bind (wpAny_bind (wpAny_loadPart hx (wpAny_bind (PySem.W.Looks.here (s := { s with toks := s.toks + 1 }) (PySem.W.looks_clsIn X hc) ?_))))))
  rw [hd']
  refine wpAny_pure (a := some dx) (wpAny_bind (wpAny_pure (wpAny_bind ?_)))
  refine wpAny_nsSet1 (s := { s with toks := s.toks + 1 }) I.ns fun h' hn2 hs2 => ?_
  refine Ea.x3_3 (hn2.count (PySem.Within.cons name v hw)) fun oD esD epD hoD hdD hcD => ?_
  refine wpAny_bind (wpAny_lookBehind hoD (by rw [hdD]; exact pastItsLine_dict (Nat.le_trans hcD (by rw [List.length_cons]; lia))) ?_)
  exact wpAny_pure (h _ ⟨(hs2.2 _ (Ne.symm I.ne)).trans I.obj, hn2, I.ne⟩ hs2)
theorem make_map {R : Result → Shared → Prop} {vs : List Value} {kw : List (Str × Value)} (X : K.In s.heap) (hm : PySem.W.makesIn K C = true)
    (hi : PySem.W.findIn K (.ref C) "__init__" = some (some (.ref f))) (hf : PySem.W.typeIn K (.ref f) = some (.type "function"))
    (h : codeAny (model prog w) (A.under (.builtin "type.__call__" ⟨.ref C :: vs, kw⟩)) (.call (.ref f) ⟨.ref (s.heap.objs.size + 1) :: vs, kw⟩) (PySem.W.InitBack (s.heap.objs.size + 1) R)
      { s with heap := (s.heap.push PySem.W.emptyDict).push (PySem.W.instObj C s.heap.objs.size) }) :
    codeAny (model prog w) A (.call (.ref C) ⟨vs, kw⟩) R s := by
  obtain ⟨hh, g, d, t, os⟩ := s
  exact PySem.W.make_core (PySem.W.makes_of X hm) (PySem.W.looks_findIn X hi) (fun self => PySem.W.bind_fn X self hf) (.inl rfl) h
end
noncomputable def putF (f : Str) (v : V) : List (Str × V) → List (Str × V)
  | [] => [(f, v)]
  | (g, x) :: r => if g = f then (g, v) :: r else (g, x) :: putF f v r
theorem lookup_putF (f g : Str) (v : V) : ∀ fs : List (Str × V), (putF f v fs).lookup g = if g = f then some v else fs.lookup g
  | [] => by
    show List.lookup g [(f, v)] = _
    by_cases h : g = f
    · have hb : (g == f) = true := beq_iff_eq.mpr h
      simp only [List.lookup, hb, if_pos h]
    · have hb : (g == f) = false := beq_eq_false_iff_ne.mpr h
      simp only [List.lookup, hb, if_neg h]
  | (k, x) :: r => by
    have ih := lookup_putF f g v r
    rw [show putF f v ((k, x) :: r) = (if k = f then (k, v) :: r else (k, x) :: putF f v r) from rfl]
    by_cases hk : k = f
    · rw [if_pos hk]
      by_cases h : g = k
      · have hb : (g == k) = true := beq_iff_eq.mpr h
        simp only [List.lookup, hb, if_pos (h.trans hk)]
      · have hb : (g == k) = false := beq_eq_false_iff_ne.mpr h
        simp only [List.lookup, hb, if_neg (fun e : g = f => h (e.trans hk.symm))]
    · rw [if_neg hk]
      by_cases h : g = k
      · have hb : (g == k) = true := beq_iff_eq.mpr h
        simp only [List.lookup, hb, if_neg (fun e : g = f => hk (h.symm.trans e))]
      · have hb : (g == k) = false := beq_eq_false_iff_ne.mpr h
        simp only [List.lookup, hb]
        exact ih
theorem keys_putF (f : Str) (v : V) : ∀ fs : List (Str × V), f ∈ (putF f v fs).map (·.1) ∧ ∀ g, g ∈ fs.map (·.1) → g ∈ (putF f v fs).map (·.1)
  | [] => ⟨by simp [putF], fun g h => by simp at h⟩
  | (k, x) :: r => by
    obtain ⟨i1, i2⟩ := keys_putF f v r
    rw [show putF f v ((k, x) :: r) = (if k = f then (k, v) :: r else (k, x) :: putF f v r) from rfl]
    by_cases hk : k = f
    · rw [if_pos hk]
      subst hk
      exact ⟨by simp, fun g h => by simpa using h⟩
    · rw [if_neg hk]
      refine ⟨?_, fun g h => ?_⟩
      · rw [List.map_cons]
        exact List.mem_cons_of_mem _ i1
      · rw [List.map_cons] at h ⊢
        rcases List.mem_cons.mp h with e | e
        · exact List.mem_cons.mpr (.inl e)
        · exact List.mem_cons_of_mem _ (i2 g e)
theorem length_putF (f : Str) (v : V) : ∀ fs : List (Str × V), (putF f v fs).length ≤ fs.length + 1
  | [] => by simp [putF]
  | (k, x) :: r => by
    have ih := length_putF f v r
    rw [show putF f v ((k, x) :: r) = (if k = f then (k, v) :: r else (k, x) :: putF f v r) from rfl]
    by_cases hk : k = f
    · rw [if_pos hk, List.length_cons, List.length_cons]; lia
    · rw [if_neg hk, List.length_cons, List.length_cons]; lia
theorem RelO.some_of {v : V} {o : Option Value} (r : RelO (some v) o) : ∃ u, o = some u ∧ RelV v u := by
  cases o with
  | none => exact (show False from r).elim
  | some u => exact ⟨u, rfl, r⟩
theorem RelO.none_of {o : Option Value} (r : RelO none o) : o = none := by
  cases o with
  | none => rfl
  | some u => exact (show False from r).elim
theorem handed_of {v : V} {u : Value} (r : RelV v u) : PySem.W.handedIn u = true := by
  cases v with
  | non => cases (show u = Value.none from r); rfl
  | bl b => cases (show u = Value.bool b from r); rfl
  | int i => obtain ⟨t, e⟩ := (show ∃ t, u = Value.int i t from r); cases e; rfl
  | str x => obtain ⟨t, e⟩ := (show ∃ t, u = Value.str x t from r); cases e; rfl
  | byt b => obtain ⟨t, e⟩ := (show ∃ t, u = Value.bytes b t from r); cases e; rfl
  | flt b => obtain ⟨t, e⟩ := (show ∃ t, u = Value.float b t from r); cases e; rfl
  | ref a => cases (show u = Value.ref a from r); rfl
  | ty n => cases (show u = Value.type n from r); rfl
section
variable {P : Program} {w : World} {H H' : Hp} {h h' : Heap} {a C dx : Addr} {fs fs' : List (Str × V)}
theorem ins_get (hok : HOk P w H h) (e : H a = some (.ins C dx fs)) : ∃ mA, ObjM h a dx C mA ∧ (∀ f, RelO (fs.lookup f) (mA f)) ∧ PySem.Within mA (fs.map (·.1)) ∧ fs.length ≤ 1000 ∧ H dx = some (.own a) := by
  obtain ⟨d, z, ne, ob, mA, n, r, q⟩ := (show ObjOk P w H h a (.ins C dx fs) from hok a _ e)
  exact ⟨mA, ⟨ob, n, ne⟩, r, q, z, d⟩
end
structure Cls (K : PySem.W.Frag) (C : Addr) : Prop where
  pg : PySem.W.plainGet K C Str.empty = true
  hd : PySem.W.hasDictIn K C = true
  po : PySem.W.plainOver K C = true
  sa : PySem.W.findIn K (.ref C) "__setattr__" = some (some (.builtin "object.__setattr__"))
theorem Cls.get {K : PySem.W.Frag} {C : Addr} (c : Cls K C) (f : Str) : PySem.W.plainGet K C f = true := c.pg
noncomputable def NoAttr (K : PySem.W.Frag) (C : Addr) (f : Str) : Prop := PySem.W.findIn K (.ref C) f = some none
theorem NoAttr.taker {K : PySem.W.Frag} {C : Addr} {f : Str} (n : NoAttr K C f) : PySem.W.takerIn K C f = some none := by
  unfold PySem.W.takerIn
  rw [show PySem.W.findIn K (.ref C) f = some none from n]
  rfl
structure Meth (K : PySem.W.Frag) (C : Addr) (m : Str) (f : Addr) : Prop where
  at_ : PySem.W.findIn K (.ref C) m = some (some (.ref f))
  fn : PySem.W.isFn K (.ref f) = true
  kp : PySem.W.keepIn K (.ref f) = true
section
variable {X : Cx} {pins : List (Addr × Obj)} {σ : St} {H : Hp} {s : Shared} {a C dx : Addr} {fs : List (Str × V)} {f : Str} {v : V} {A : Around} {E : Value → Shared → Prop}
theorem getattr_ok {b : Bool} {Q : Value → Shared → Prop} (I : Inv X pins σ H s) (e : H a = some (.ins C dx fs)) (c : Cls X.K C) (n : NoAttr X.K C f) (l : fs.lookup f = some v)
    (h : ∀ u s', Inv X pins σ H s' → RelV v u → Q u s') : wpAny (model X.prog X.w) A (getAttr (.ref a) f b) Q E s := by
  refine Ea.x1_5 (ins_get I.hok e) fun mA O r _ _ _ => ?_
  obtain ⟨u, hu, ru⟩ := RelO.some_of (v := v) (o := mA f) (by rw [← l]; exact r f)
  exact get_map I.kIn O (c.get f) c.hd n hu (handed_of ru) (h u _ (I.tok _) ru)
theorem getmeth_ok {m : Str} {g : Addr} {pl : Sem Bool} {Q : Value × List Value → Shared → Prop} (I : Inv X pins σ H s) (e : H a = some (.ins C dx fs)) (c : Cls X.K C) (k : Meth X.K C m g) (l : fs.lookup m = none)
    (h : Q (.ref g, [.ref a]) s) : wpAny (model X.prog X.w) A (getMethod (.ref a) m pl) Q E s := by
  refine Ea.x1_5 (ins_get I.hok e) fun mA O r _ _ _ => ?_
  have hn : mA m = none := RelO.none_of (by rw [← l]; exact r m)
  exact get_meth I.kIn O (c.get m) k.at_ k.fn hn h
theorem setattr_ok {y : V} {u : Value} {Q : Unit → Shared → Prop} (I : Inv X pins σ H s) (e : H a = some (.ins C dx fs)) (c : Cls X.K C) (n : NoAttr X.K C f) (hl : fs.length < 1000) (ry : RelV y u)
    (h : ∀ s', Inv X pins σ (upd H a (.ins C dx (putF f y fs))) s' → Q () s') : wpAny (model X.prog X.w) A (setAttr (.ref a) f u) Q E s := by
  refine Ea.x1_5 (ins_get I.hok e) fun mA O r wi _ ho => ?_
  have hz : (fs.map (·.1)).length ≤ sizeLine := by rw [List.length_map, sizeLine_eq]; lia
  refine set_map I.kIn O c.sa c.po n.taker c.hd wi hz fun h' O' sb => h _ ?_
  have hd : ∃ o, h'.get? dx = some o := let ⟨o, _, _, e', _⟩ := O'.ns; ⟨o, e'⟩
  refine I.write (x := a) (e := dx) (by rw [e]; exact True.intro) (.inr ho) (fun b q hb z => (sb.2 b hb).trans z) hd ?_
  refine ⟨by rw [upd_ne O.ne]; exact ho, ?_, O.ne, O'.obj, _, O'.ns, fun g => ?_, fun g hg => ?_⟩
  · have := length_putF f y fs; lia
  · show RelO ((putF f y fs).lookup g) (if g = f then some u else mA g)
    rw [lookup_putF]
    by_cases q : g = f
    · rw [if_pos q, if_pos q]; exact ry
    · rw [if_neg q, if_neg q]; exact r g
  · by_cases q : g = f
    · rw [q]; exact (keys_putF f y fs).1
    · refine (keys_putF f y fs).2 g (wi g fun z => hg ?_)
      show (if g = f then some u else mA g) = none
      rw [if_neg q]; exact z
theorem Inv.made (I : Inv X pins σ H s) : Inv X pins σ (upd (upd H s.heap.objs.size (.own (s.heap.objs.size + 1))) (s.heap.objs.size + 1) (.ins C s.heap.objs.size []))
    { s with heap := (s.heap.push PySem.W.emptyDict).push (PySem.W.instObj C s.heap.objs.size) } := by
  have e1 : (s.heap.push PySem.W.emptyDict).get? s.heap.objs.size = some PySem.W.emptyDict := Heap.get?_push_size s.heap rfl
  have e2 : ((s.heap.push PySem.W.emptyDict).push (PySem.W.instObj C s.heap.objs.size)).get? (s.heap.objs.size + 1) = some (PySem.W.instObj C s.heap.objs.size) := by
    have := Heap.get?_push_size (s.heap.push PySem.W.emptyDict) (o := PySem.W.instObj C s.heap.objs.size) rfl
    rwa [Heap.size_push] at this
  have e3 : (s.heap.push PySem.W.emptyDict).Ns s.heap.objs.size (fun _ => none) := ⟨PySem.W.emptyDict, #[], _, e1, rfl, (fun e he => absurd he (by simp)), fun _ => rfl⟩
  have I1 := I.laid (a := s.heap.objs.size) (o := .own (s.heap.objs.size + 1)) (h' := s.heap.push PySem.W.emptyDict) (t' := s.toks) (fun b u q => Heap.get?_push_of_some _ q) (Nat.le_refl _) ⟨_, e1⟩
  refine I1.laid (a := s.heap.objs.size + 1) (o := .ins C s.heap.objs.size []) (t' := s.toks) (fun b u q => Heap.get?_push_of_some _ q) (Nat.le_of_eq (Heap.size_push _ _)) ?_
  have ne : s.heap.objs.size ≠ s.heap.objs.size + 1 := Nat.ne_of_lt (Nat.lt_succ_self _)
  refine ⟨by rw [upd_ne ne, upd_same], Nat.zero_le _, ne, e2, fun _ => none, (Heap.Ns1.of_empty e3).at fun o q => Heap.get?_push_of_some _ q, fun _ => True.intro, fun y hy => absurd rfl hy⟩
theorem attr_of {prog : Program} {w : World} {env : Env} {e : Expr} {f : Str} {pos : Pos} {s : Shared} {Q : Value → Shared → Prop} (hb : attributeBase e f env (eval e env) = eval e env)
    (h : wpAny (model prog w) A (eval e env) (fun o s₁ => wpAny (model prog w) A (getAttr o f true) Q E s₁) E s) : wpAny (model prog w) A (eval (.Attribute e f pos) env) Q E s :=
  Attribute_any_ h (by rw [arm_eval_Attribute, hb])
end
noncomputable def tFld (K : PySem.W.Frag) (ta : TE) (f : Str) : TE := fun σ H Q => ta σ H fun x H1 => ∃ a C dx fs v, x = .ref a ∧ H1 a = some (.ins C dx fs) ∧ Cls K C ∧ NoAttr K C f ∧ fs.lookup f = some v ∧ Q v H1
noncomputable def sFld (K : PySem.W.Frag) (ta tv : TE) (f : Str) : TS := fun D σ H => tv σ H fun y H1 => ta σ H1 fun x H2 => ∃ a C dx fs, x = .ref a ∧ H2 a = some (.ins C dx fs) ∧ Cls K C ∧ NoAttr K C f ∧ fs.length < 1000 ∧
  D.nx σ (upd H2 a (.ins C dx (putF f y fs)))
noncomputable def InOp (X : Cx) (op : Operator) (rd : V → V → Hp → VK → Prop) : Prop :=
  ∀ (pins : List (Addr × Obj)) (s : Shared) (σ : St) (H : Hp) (x y : V) (u v : Value) (Q : VK), Inv X pins σ H s → RelV x u → RelV y v → rd x y H Q → wpAny (model X.prog X.w) X.A (inplaceOp op u v) (EP X pins σ Q) X.xe s
noncomputable def sFldAug (K : PySem.W.Frag) (ta tv : TE) (rd : V → V → Hp → VK → Prop) (f : Str) : TS := fun D σ H => ta σ H fun x H1 => ∃ a C dx fs v, x = .ref a ∧ H1 a = some (.ins C dx fs) ∧ Cls K C ∧ NoAttr K C f ∧ fs.lookup f = some v ∧
  tv σ H1 fun y H2 => rd v y H2 fun z H3 => ∃ dx' fs', H3 a = some (.ins C dx' fs') ∧ fs'.length < 1000 ∧ D.nx σ (upd H3 a (.ins C dx' (putF f z fs')))
section
variable {X : Cx} {o e value : Expr} {f : Str} {pos pos' tpos : Pos} {ta tv : TE}
theorem pe_fld (he : PE X e ta) (hb : attributeBase e f X.env (eval e X.env) = eval e X.env) : PE X (.Attribute e f pos) (tFld X.K ta f) := by
  intro pins s σ H Q I h
  refine attr_of hb (thn (he pins s σ H _ I h) fun u s1 qz97 => Ea.x2_3 qz97 fun x H1 I1 rx qz98 => ?_)
  refine Ea.x5_6 qz98 fun a C dx fs v ex ea c n l q => ?_; try clear qz98
  subst ex
  obtain rfl : u = Value.ref a := rx
  exact getattr_ok I1 ea c n l fun u' s2 I2 ru => ⟨v, H1, I2, ru, q⟩
theorem ps_fld (ha : PE X o ta) (hv : PE X value tv) (hs : swapsWith value (some (.Attribute o f pos')) pos.line X.env = pure false) : PS X (.Assign [.Attribute o f pos'] value pos) (sFld X.K ta tv f) := by
  intro pins s σ H D I h
  refine plainObj_wpAny_Assign_Attribute (thn (hv pins s σ H _ I h) fun u s1 qz101 => Ea.x2_3 qz101 fun y H1 I1 ry q => thn (ha pins s1 σ H1 _ I1 q) fun ov s2 qz102 => Ea.x2_3 qz102 fun x H2 I2 rx qz103 => ?_) hs
  refine Ea.x4_6 qz103 fun a C dx fs ex ea c n l q2 => ?_; try clear qz103
  subst ex
  obtain rfl : ov = Value.ref a := rx
  exact setattr_ok I2 ea c n l ry fun s3 I3 => ⟨σ, _, I3, q2⟩
theorem ps_fldaug {op : Operator} {rd : V → V → Hp → VK → Prop} (ha : PE X o ta) (hv : PE X value tv) (hop : InOp X op rd) : PS X (.AugAssign (.Attribute o f tpos) op value pos) (sFldAug X.K ta tv rd f) := by
  intro pins s σ H D I h
  refine wpAny_AugAssign_AttributeAny (thn (ha pins s σ H _ I h) fun ov s1 qz104 => Ea.x2_3 qz104 fun x H1 I1 rx qz105 => ?_)
  refine Ea.x5_6 qz105 fun a C dx fs v ex ea c n l q => ?_; try clear qz105
  subst ex
  obtain rfl : ov = Value.ref a := rx
  refine getattr_ok I1 ea c n l fun u s2 I2 ru => thn (hv pins s2 σ H1 _ I2 q) fun w3 s3 qz106 => Ea.x2_3 qz106 fun y H2 I3 ry q3 => thn (hop pins s3 σ H2 v y u w3 _ I3 ru ry q3) fun w4 s4 qz107 => Ea.x2_3 qz107 fun z H3 I4 rz qz108 => ?_
  refine Ea.x2_3 qz108 fun dx' fs' ea' l' q4 => ?_; try clear qz108
  exact setattr_ok I4 ea' c n l' rz fun s5 I5 => ⟨σ, _, I5, q4⟩
noncomputable def rAdd : V → V → Hp → VK → Prop := fun x y H Q => ∃ i j, x = .int i ∧ y = .int j ∧ Q (.int (i + j)) H
theorem in_add : InOp X .Add rAdd := by
  intro pins s σ H x y u v Q I rx ry qz332
  refine Ea.x2_3 qz332 fun i j qz333 qz334 q => ?_; try clear qz332; subst qz333; subst qz334
  obtain ⟨t, rfl⟩ := (show ∃ t, u = Value.int i t from rx)
  obtain ⟨t', rfl⟩ := (show ∃ t', v = Value.int j t' from ry)
  exact PyProof.Rows.iadd_int ⟨.int (i + j), H, I.tok _, ⟨_, rfl⟩, q⟩
end
end L2
namespace L2
open PySem PySem.Spec PyProof.Rows
structure Room (k : Nat) (A : Around) : Prop where
  hd : A.handled = none
  dp : A.depth + 3 * k + 5 < recursionLimit
  un : A.units + 16 * k + 200 < cLine
theorem Room.mono {j k : Nat} {A : Around} (r : Room k A) (h : j ≤ k) : Room j A := ⟨r.hd, by have := r.dp; lia, by have := r.un; lia⟩
theorem Room.deeper {k : Nat} {A : Around} (r : Room (k + 1) A) (env : Env) : Room k (A.deeper env) :=
  ⟨r.hd, by have := r.dp; show A.depth + 1 + 3 * k + 5 < _; lia, by have := r.un; show A.units + 3 + 16 * k + 200 < _; lia⟩
theorem make_depth {A : Around} {C : Addr} {us : List Value} {kw : List (Str × Value)} : (A.under (.builtin "type.__call__" ⟨.ref C :: us, kw⟩)).depth = A.depth + 1 := by
  first | rfl | simp [Around.under, Code.weight, Code.isCreation, Code.isGuard, Code.isCaller, Code.frames, Code.isFrame, guardIds]
theorem make_units {A : Around} {C : Addr} {us : List Value} {kw : List (Str × Value)} : (A.under (.builtin "type.__call__" ⟨.ref C :: us, kw⟩)).units = A.units + 1 := by
  first | rfl | simp [Around.under, Code.cUnits, Code.frames, Code.isFrame]
theorem Room.make {k : Nat} {A : Around} (r : Room (k + 1) A) (C : Addr) (us : List Value) (kw : List (Str × Value)) : Room k (A.under (.builtin "type.__call__" ⟨.ref C :: us, kw⟩)) :=
  ⟨r.hd, by have := r.dp; rw [make_depth]; lia, by have := r.un; rw [make_units]; lia⟩
theorem Room.depth {k : Nat} {A : Around} (r : Room k A) : A.depth < recursionLimit := by have := r.dp; lia
theorem Room.units {k : Nat} {A : Around} (r : Room k A) : A.units + 64 < cLine := by have := r.un; lia
noncomputable def tNil : TA := fun _ H Q => Q [] H
noncomputable def tCons (ta : TE) (tr : TA) : TA := fun σ H Q => ta σ H fun x H1 => tr σ H1 fun xs H2 => Q (x :: xs) H2
section
variable {X : Cx} {e : Expr} {es : List Expr} {te : TE} {t : TA} {pos : Pos}
theorem pa_nil : PA X [] tNil := fun _ _ _ _ H Q I h => Calls.spliced_nil ⟨[], H, I, .nil, h⟩
theorem pa_cons (ha : PE X e te) (hr : PA X es t) (hs : starEach (e :: es) X.env = (false, eval e X.env) :: starEach es X.env := by rfl) : PA X (e :: es) (tCons te t) := by
  intro pos pins s σ H Q I h
  rw [hs]
  show wpAny _ _ (spliced ((false, eval e X.env) :: backTo pos (starEach es X.env))) _ _ s
  refine Calls.spliced_cons (thn (ha pins s σ H _ I h) fun u s1 qz111 => Ea.x2_3 qz111 fun x H1 I1 r1 q1 => ?_)
  exact thn (hr pos pins s1 σ H1 _ I1 q1) fun us s2 qz112 => Ea.x2_3 qz112 fun xs H2 I2 r2 q2 => ⟨x :: xs, H2, I2, .cons r1 r2, q2⟩
noncomputable def tLst (t : TA) : TE := fun σ H Q => t σ H fun xs H1 => xs.length ≤ sizeLine ∧ ∀ p, H1 p = none → Q (.ref p) (upd H1 p (.lst xs))
theorem pe_lst (h : PA X es t) : PE X (.List es pos) (tLst t) := by
  intro pins s σ H Q I hq
  refine wpAny_List_spliced (thn (h pos pins s σ H _ I hq) fun us s1 ⟨xs, H1, I1, r, z, q⟩ => ⟨by rw [← r.length]; exact z, ?_⟩)
  have hf : H1 s1.heap.objs.size = none := I1.hok.fresh (Nat.le_refl _)
  refine ⟨.ref s1.heap.objs.size, upd H1 s1.heap.objs.size (.lst xs), I1.laid (t' := s1.toks) (fun b u e => Heap.get?_push_of_some _ e) (Nat.le_refl _) ?_, rfl, q _ hf⟩
  exact ⟨z, us, 0, r, Heap.get?_push_size _ rfl⟩
end
noncomputable abbrev Sp := List V → Hp → VK → XK → Prop
noncomputable abbrev CXT := List Env → Hp → Shared → XK → Value → Shared → Prop
structure Env0 (P : Program) (w : World) (K : PySem.W.Frag) (mg : Str → Option Value) (base : Heap) (A : Around) (outer : List Env) (s : Shared) (H : Hp) : Prop where
  frames : A.frames = some outer
  mod : Mod K mg base
  bs : ∀ b o, base.get? b = some o → s.heap.get? b = some o ∧ H b = none
  bsz : base.objs.size ≤ s.heap.objs.size
  funs : s.heap.FunFrames base outer
  frf : ∀ b ∈ frs outer, H b = none
  hok : HOk P w H s.heap
  bare : AllBare s.gens
noncomputable def CE (outer : List Env) (P : Program) (w : World) (H : Hp) (s : Shared) (Q : VK) (u : Value) (s' : Shared) : Prop :=
  ∃ v H', s'.os = s.os ∧ AllBare s'.gens ∧ Un (frs outer) [] H H' s.heap s'.heap ∧ HOk P w H' s'.heap ∧ RelV v u ∧ Q v H'
noncomputable def CR (CX : CXT) (outer : List Env) (P : Program) (w : World) (H : Hp) (s : Shared) (Q : VK) (E : XK) (r : Result) (s' : Shared) : Prop :=
  match r with
  | .ok (.ret u) => CE outer P w H s Q u s'
  | .ok _ => False
  | .error e => CX outer H s E e s'
structure FnOk (P : Program) (w : World) (K : PySem.W.Frag) (mg : Str → Option Value) (base : Heap) (CX : CXT) (k : Nat) (f : Addr) (fd : FuncData) (ps : List Str) (sp : Sp) : Prop where
  len : ∀ vs H Q E, sp vs H Q E → vs.length = ps.length
  run : ∀ (A : Around) (outer : List Env) (s : Shared) (H : Hp) (args : Args) (us : List Value) (vs : List V) (Q : VK) (E : XK), Room k A → Env0 P w K mg base A outer s H → BindsTo s fd args (ps.zip us) → Vals vs us → sp vs H Q E →
    codeAny (model P w) A (.call (.ref f) args) (CR CX outer P w H s Q E) s
theorem Env0.make {P : Program} {w : World} {K : PySem.W.Frag} {mg : Str → Option Value} {base : Heap} {A : Around} {outer : List Env} {s : Shared} {H : Hp} (e : Env0 P w K mg base A outer s H) (C : Addr) (us : List Value) (kw : List (Str × Value)) :
    Env0 P w K mg base (A.under (.builtin "type.__call__" ⟨.ref C :: us, kw⟩)) outer s H := ⟨by first | exact e.frames | (simpa [Around.under, Code.envs, Code.isFrame, pushEnvs] using e.frames), e.mod, e.bs, e.bsz, e.funs, e.frf, e.hok, e.bare⟩
section
variable {X : Cx} {pins : List (Addr × Obj)} {σ : St} {H : Hp} {s s' : Shared}
theorem Inv.env0 (I : Inv X pins σ H s) : Env0 X.prog X.w X.K X.mg X.base X.A X.stack s H :=
  ⟨I.ok.frames, I.ok.mod, I.bs, Nat.le_trans I.ok.bsz I.sz, I.stack, I.stkFree, I.hok, I.bare⟩
theorem Inv.after {Q : VK} {u : Value} (I : Inv X pins σ H s) (h : CE X.stack X.prog X.w H s Q u s') : EP X pins σ Q u s' := by
  refine Ea.x2_6 h fun v H' os bare un hok r q => ?_; try clear h
  obtain ⟨hh, g, d, t, os'⟩ := s'
  obtain rfl : os' = s.os := os
  exact ⟨v, H', I.call (h' := hh) (g' := g) (d' := d) (t' := t) (ch := []) un hok bare (fun b z => absurd z (by simp)), r, q⟩
end
noncomputable def tMeth (C : Addr) (m : Str) (sp : Sp) (dvs : List V) (E : XK) (ta : TE) (t : TA) : TE := fun σ H Q => ta σ H fun x H1 => ∃ a dx fs, x = .ref a ∧ H1 a = some (.ins C dx fs) ∧ fs.lookup m = none ∧
  t σ H1 fun vs H2 => sp (x :: (vs ++ dvs)) H2 Q E
noncomputable def tMake (C : Addr) (sp : Sp) (dvs : List V) (E : XK) (t : TA) : TE := fun σ H Q => t σ H fun vs H1 => ∀ x dx, H1 x = none → H1 dx = none → dx ≠ x →
  sp (.ref x :: (vs ++ dvs)) (upd (upd H1 dx (.own x)) x (.ins C dx [])) (fun v H2 => v = .non ∧ Q (.ref x) H2) E
noncomputable def Binds (K : PySem.W.Frag) (fd : FuncData) (ps : List Str) (ds : List Value) : Prop :=
  ∀ (s : Shared) (us : List Value), K.In s.heap → (us ++ ds).length = ps.length → BindsTo s fd ⟨us, []⟩ (ps.zip (us ++ ds))
theorem Binds.all {K : PySem.W.Frag} {fd : FuncData} {ps : List Str} (h : ∀ us : List Value, us.length = ps.length → bindArgs fd ⟨us, []⟩ = pure (ps.zip us)) : Binds K fd ps [] := fun s us _ hl => by
  rw [List.append_nil] at hl ⊢
  exact .of_eq (h us hl)
noncomputable def Passes (CX : CXT) (X : Cx) (E : XK) : Prop := ∀ (pins : List (Addr × Obj)) (σ : St) (H : Hp) (s : Shared) (e : Value) (s' : Shared), Inv X pins σ H s → CX X.stack H s E e s' → X.xe e s'
section
variable {X : Cx} {CX : CXT} {k : Nat} {f C : Addr} {fd : FuncData} {ps : List Str} {sp : Sp} {dvs : List V} {ds : List Value} {E : XK} {x m : Str} {p pos apos : Pos} {e o : Expr} {es : List Expr} {ta : TE} {t : TA}
theorem run_fn {pins : List (Addr × Obj)} {σ : St} {H : Hp} {s : Shared} {Q : VK} {us : List Value} {vs : List V} (F : FnOk X.prog X.w X.K X.mg X.base CX k f fd ps sp) (hr : Room k X.A) (hb : Binds X.K fd ps ds) (hd : Vals dvs ds) (hx : Passes CX X E)
    (I : Inv X pins σ H s) (r : Vals vs us) (h : sp (vs ++ dvs) H Q E) : wpAny (model X.prog X.w) X.A (call (.ref f) us) (EP X pins σ Q) X.xe s := by
  have r2 : Vals (vs ++ dvs) (us ++ ds) := r.append hd
  have hl : (us ++ ds).length = ps.length := by rw [← r2.length]; exact F.len _ _ _ _ h
  refine wpAny_call (codeAny_mono (F.run X.A X.stack s H ⟨us, []⟩ (us ++ ds) (vs ++ dvs) Q E hr I.env0 (hb s us I.kIn hl) r2 h) fun r s' hq => ?_)
  cases r with
  | error e => exact hx pins σ H s e s' I hq
  | ok fl =>
    cases fl with
    | ret u => exact I.after hq
    | next => exact False.elim hq
    | brk => exact False.elim hq
    | cont => exact False.elim hq
theorem pe_meth {pl : Sem Bool} (he : PE X o ta) (c : Cls X.K C) (hm : Meth X.K C m f) (F : FnOk X.prog X.w X.K X.mg X.base CX k f fd ps sp) (hr : Room k X.A) (hb : Binds X.K fd ps ds) (hd : Vals dvs ds) (hx : Passes CX X E) (ha : PA X (e :: es) t)
    (hst : starEach (e :: es) X.env = (false, eval e X.env) :: starEach es X.env := by rfl) (hpl : (backTo pos (starEach es X.env)).any (·.1) = false := by rfl)
    (ht : eval (.Call (.Attribute o m apos) (e :: es) [] pos) X.env = (do
      let ov ← eval o X.env
      standAt apos.atName
      let (f, first) ← holding [ov] (getMethod ov m pl)
      callWith pos f first (backTo pos (starEach (e :: es) X.env)) (backToKw pos (keywordEach [] X.env))) := by rfl) :
    PE X (.Call (.Attribute o m apos) (e :: es) [] pos) (tMeth C m sp dvs E ta t) := by
  intro pins s σ H Q I h
  refine PySem.W.methodCall_KW (pl := pl) (thn (he pins s σ H _ I h) fun u s1 qz116 => Ea.x2_3 qz116 fun x H1 I1 rx qz117 => ?_) ht
  refine Ea.x3_4 qz117 fun a dx fs ex ea l q => ?_; try clear qz117
  subst ex
  obtain rfl : u = Value.ref a := rx
  refine getmeth_ok I1 ea c hm l ?_
  refine PySem.W.callWith_K (first := [.ref a]) (h₀ := X.base) I.ok.mod.kin hm.kp (thn (ha pos pins s1 σ H1 _ I1 q) fun us s2 qz118 => Ea.x2_3 qz118 fun vs H2 I2 r q2 => ⟨I2.kIn, ?_⟩) hst hpl
  exact run_fn (us := .ref a :: us) (vs := .ref a :: vs) F hr hb hd hx I2 (.cons rfl r) q2
theorem pe_meth0 {pl : Sem Bool} (he : PE X o ta) (c : Cls X.K C) (hm : Meth X.K C m f) (F : FnOk X.prog X.w X.K X.mg X.base CX k f fd ps sp) (hr : Room k X.A) (hb : Binds X.K fd ps ds) (hd : Vals dvs ds) (hx : Passes CX X E)
    (ht : eval (.Call (.Attribute o m apos) [] [] pos) X.env = (do
      let ov ← eval o X.env
      standAt apos.atName
      let (f, first) ← holding [ov] (getMethod ov m pl)
      callWith pos f first (backTo pos (starEach [] X.env)) (backToKw pos (keywordEach [] X.env))) := by rfl) :
    PE X (.Call (.Attribute o m apos) [] [] pos) (tMeth C m sp dvs E ta tNil) := by
  intro pins s σ H Q I h
  refine PySem.W.methodCall_KW (pl := pl) (thn (he pins s σ H _ I h) fun u s1 qz119 => Ea.x2_3 qz119 fun x H1 I1 rx qz120 => ?_) ht
  refine Ea.x3_4 qz120 fun a dx fs ex ea l q => ?_; try clear qz120
  subst ex
  obtain rfl : u = Value.ref a := rx
  refine getmeth_ok I1 ea c hm l ?_
  exact PySem.W.callWith_K0 (first := [.ref a]) I1.kIn hm.kp (run_fn (us := [.ref a]) (vs := [.ref a]) F hr hb hd hx I1 (.cons rfl .nil) q)
structure Mk (K : PySem.W.Frag) (C f : Addr) : Prop where
  makes : PySem.W.makesIn K C = true
  init : PySem.W.findIn K (.ref C) "__init__" = some (some (.ref f))
  fn : PySem.W.isFn K (.ref f) = true
  kp : PySem.W.keepIn K (.ref C) = true
theorem run_make {pins : List (Addr × Obj)} {σ : St} {H : Hp} {s : Shared} {Q : VK} {us : List Value} {vs : List V} (M : Mk X.K C f) (F : FnOk X.prog X.w X.K X.mg X.base CX k f fd ps sp) (hr : Room (k + 1) X.A) (hb : Binds X.K fd ps ds) (hd : Vals dvs ds)
    (hx : Passes CX X E) (I : Inv X pins σ H s) (r : Vals vs us)
    (h : ∀ x dx, H x = none → H dx = none → dx ≠ x → sp (.ref x :: (vs ++ dvs)) (upd (upd H dx (.own x)) x (.ins C dx [])) (fun v H2 => v = .non ∧ Q (.ref x) H2) E) :
    wpAny (model X.prog X.w) X.A (call (.ref C) us) (EP X pins σ Q) X.xe s := by
  have hq := h (s.heap.objs.size + 1) s.heap.objs.size (I.hok.fresh (Nat.le_succ _)) (I.hok.fresh (Nat.le_refl _)) (Nat.ne_of_lt (Nat.lt_succ_self _))
  have I2 := Inv.made (C := C) I
  have r2 : Vals (V.ref (s.heap.objs.size + 1) :: (vs ++ dvs)) (Value.ref (s.heap.objs.size + 1) :: (us ++ ds)) := .cons rfl (r.append hd)
  have hl : (Value.ref (s.heap.objs.size + 1) :: us ++ ds).length = ps.length := by
    have e := r2.length
    rw [F.len _ _ _ _ hq] at e
    exact e.symm
  refine wpAny_call (make_map (f := f) I.kIn M.makes M.init (beq_iff_eq.mp M.fn) (codeAny_mono (F.run _ X.stack _ _ ⟨Value.ref (s.heap.objs.size + 1) :: us, []⟩ (Value.ref (s.heap.objs.size + 1) :: (us ++ ds)) _ _ E (hr.make C us [])
    (I2.env0.make C us []) (hb _ (Value.ref (s.heap.objs.size + 1) :: us) I2.kIn hl) r2 hq) fun r s' hq' => ?_))
  cases r with
  | error e => exact hx pins σ _ _ e s' I2 hq'
  | ok fl =>
    cases fl with
    | ret u =>
      refine Ea.x2_4 (I2.after hq') fun v H' I3 rv ev q3 => ?_
      subst ev
      exact ⟨rv, ⟨V.ref (s.heap.objs.size + 1), H', I3, rfl, q3⟩⟩
    | next => exact False.elim hq'
    | brk => exact False.elim hq'
    | cont => exact False.elim hq'
theorem pe_make (M : Mk X.K C f) (F : FnOk X.prog X.w X.K X.mg X.base CX k f fd ps sp) (hr : Room (k + 1) X.A) (hg : Gl X x) (hm : X.mg x = some (.ref C)) (hb : Binds X.K fd ps ds) (hd : Vals dvs ds) (hx : Passes CX X E)
    (ha : PA X (e :: es) t) (hdb : (x == ("__debug__" : Str)) = false := by decide) (he : starEach (e :: es) X.env = (false, eval e X.env) :: starEach es X.env := by rfl) (hpl : (backTo pos (starEach es X.env)).any (·.1) = false := by rfl) :
    PE X (.Call (.Name x p) (e :: es) [] pos) (tMake C sp dvs E t) := by
  intro pins s σ H Q I h
  refine wpAny_Call_Name_kw (ld_glob I hg hm ?_ hdb)
  refine PySem.W.callWith_K (h₀ := X.base) I.ok.mod.kin M.kp (thn (ha pos pins s σ H _ I h) fun us s1 qz121 => Ea.x2_3 qz121 fun vs H1 I1 r q => ⟨I1.kIn, ?_⟩) he hpl
  exact run_make M F hr hb hd hx I1 r q
theorem pe_make0 (M : Mk X.K C f) (F : FnOk X.prog X.w X.K X.mg X.base CX k f fd ps sp) (hr : Room (k + 1) X.A) (hg : Gl X x) (hm : X.mg x = some (.ref C)) (hb : Binds X.K fd ps ds) (hd : Vals dvs ds) (hx : Passes CX X E)
    (hdb : (x == ("__debug__" : Str)) = false := by decide) : PE X (.Call (.Name x p) [] [] pos) (tMake C sp dvs E tNil) := by
  intro pins s σ H Q I h
  refine wpAny_Call_Name_kw (ld_glob I hg hm ?_ hdb)
  exact PySem.W.callWith_K0 I.kIn M.kp (run_make (us := []) M F hr hb hd hx I .nil h)
end
structure FnScope (N P : List Str) (sc : Scope) : Prop where
  kind : sc.kind = .function
  co : sc.isCoroutine = false
  gen : sc.isGenerator = false
  nd : N.Nodup
  pre : N.take P.length = P
  par : ∀ x ∈ P, sc.names.lookup x = some .local ∨ sc.names.lookup x = some .cell
  nofree : ∀ y ∈ sc.names, y.2 ≠ .free
theorem bindL_out {kindOf : Str → Option NameKind} {x : Str} : ∀ {binds : List (Str × Value)} {m : Str → Option Value}, (∀ v, (x, v) ∉ binds) → bindL kindOf binds m x = m x
  | [], _, _ => rfl
  | (n, v) :: r, m, h => by
    unfold bindL
    rw [bindL_out fun w hw => h w (List.mem_cons_of_mem _ hw)]
    split
    · have : x ≠ n := by rintro rfl; exact h v List.mem_cons_self
      simp [this]
    · rfl
theorem bindC_out {kindOf : Str → Option NameKind} {x : Str} : ∀ {binds : List (Str × Value)} {m : Str → Option Value}, (∀ v, (x, v) ∉ binds) → bindC kindOf binds m x = m x
  | [], _, _ => rfl
  | (n, v) :: r, m, h => by
    unfold bindC
    rw [bindC_out fun w hw => h w (List.mem_cons_of_mem _ hw)]
    split
    · rfl
    · have : x ≠ n := by rintro rfl; exact h v List.mem_cons_self
      simp [this]
theorem bindL_get {kindOf : Str → Option NameKind} {x : Str} {v : Value} : ∀ {P : List Str} {vs : List Value} {i : Nat} {m : Str → Option Value}, P.Nodup → P[i]? = some x → vs[i]? = some v → kindOf x = some .local →
    bindL kindOf (P.zip vs) m x = some v
  | [], _, _, _, _, h, _, _ => by simp at h
  | _ :: _, [], _, _, _, _, h, _ => by simp at h
  | p :: P, w :: vs, 0, m, nd, h1, h2, hk => by
    simp at h1 h2; subst h1; subst h2
    show bindL kindOf ((p, w) :: P.zip vs) m p = _
    unfold bindL
    rw [bindL_out fun v hv => (List.nodup_cons.mp nd).1 (List.of_mem_zip hv).1, if_pos hk]
    simp
  | p :: P, w :: vs, i + 1, m, nd, h1, h2, hk => by
    show bindL kindOf ((p, w) :: P.zip vs) m x = _
    unfold bindL
    exact bindL_get (i := i) (List.nodup_cons.mp nd).2 (by simpa using h1) (by simpa using h2) hk
theorem bindC_get {kindOf : Str → Option NameKind} {x : Str} {v : Value} : ∀ {P : List Str} {vs : List Value} {i : Nat} {m : Str → Option Value}, P.Nodup → P[i]? = some x → vs[i]? = some v → kindOf x ≠ some .local →
    bindC kindOf (P.zip vs) m x = some v
  | [], _, _, _, _, h, _, _ => by simp at h
  | _ :: _, [], _, _, _, _, h, _ => by simp at h
  | p :: P, w :: vs, 0, m, nd, h1, h2, hk => by
    simp at h1 h2; subst h1; subst h2
    show bindC kindOf ((p, w) :: P.zip vs) m p = _
    unfold bindC
    rw [bindC_out fun v hv => (List.nodup_cons.mp nd).1 (List.of_mem_zip hv).1, if_neg hk]
    simp
  | p :: P, w :: vs, i + 1, m, nd, h1, h2, hk => by
    show bindC kindOf ((p, w) :: P.zip vs) m x = _
    unfold bindC
    exact bindC_get (i := i) (List.nodup_cons.mp nd).2 (by simpa using h1) (by simpa using h2) hk
noncomputable def start (N : List Str) (vs : List V) : St := vs.map some ++ List.replicate (N.length - vs.length) none
noncomputable def cxOf (CX : CXT) (P : Program) (w : World) (K : PySem.W.Frag) (mg : Str → Option Value) (base : Heap) (N : List Str) (qual : Str) (scope : Scope) (f : Addr) (cd : Value) (A : Around) (outer : List Env) (s : Shared) (H : Hp) (E : XK) : Cx where
  prog := P
  w := w
  K := K
  mg := mg
  base := base
  A := A.deeper (envOfC qual scope s.heap.objs.size f cd)
  N := N
  s_0 := s
  H_0 := H
  env := envOfC qual scope s.heap.objs.size f cd
  outer := outer
  stack := envOfC qual scope s.heap.objs.size f cd :: outer
  ex := []
  calm := true
  fn := fun _ => true
  pn := []
  xe := fun e s' => wpAny (model P w) (A.deeper (envOfC qual scope s.heap.objs.size f cd)) (leaving (envOfC qual scope s.heap.objs.size f cd) e) (fun _ s'' => CX outer H s E e s'') (fun e' s'' => CX outer H s E e' s'') s'
theorem cell_has {sc : Scope} {n : Nat} {x : Str} (h : sc.names.lookup x = some .cell) : ∃ c, (cellsFrom n sc.names []).lookup x = some c := by
  have q := PySem.W.cellsFrom_some sc.names n [] (.inl h)
  exact Option.isSome_iff_exists.mp q
theorem inv_start {CX : CXT} {P : Program} {w : World} {K : PySem.W.Frag} {mg : Str → Option Value} {base : Heap} {N ps : List Str} {qual : Str} {scope : Scope} {f : Addr} {cd : Value} {A : Around} {outer : List Env} {s s1 : Shared} {H : Hp} {E : XK} {us : List Value} {vs : List V}
    (S : FnScope N ps scope) (hd : A.handled = none) (e0 : Env0 P w K mg base A outer s H) (hl : vs.length = ps.length) (r : Vals vs us)
    (x : InCallC s s.heap.objs.size (bindL (envOfC qual scope s.heap.objs.size f cd).kindOf (ps.zip us) fun _ => none) (cellsFrom (s.heap.objs.size + 1) scope.names []) (bindC (envOfC qual scope s.heap.objs.size f cd).kindOf (ps.zip us) fun _ => none) s1) :
    Inv (cxOf CX P w K mg base N qual scope f cd A outer s H E) [] (start N vs) H s1 := by
  have hpl : ps.length ≤ N.length := by have := congrArg List.length S.pre; rw [List.length_take] at this; lia
  refine Ea.x2_2 x.done fun h1 tk qz342 hk => ?_; subst qz342
  have noA : ∀ b : Addr, b ∉ (cxOf CX P w K mg base N qual scope f cd A outer s H E).ex := fun b z => absurd (show b ∈ ([] : List Addr) from z) (by simp)
  refine ⟨⟨e0.mod, S.kind, rfl, rfl, Nat.le_refl _, fun y z c h1 h2 => ?_, fun y hy => ?_, fun y c _ h => ?_, fun _ => hd, Around.frames_deeper e0.frames, .inr ⟨rfl, rfl⟩, fun b z => absurd z (noA b), e0.bs, e0.bsz, fun b _ _ => noA b, fun b z => absurd z (noA b), e0.funs, e0.frf⟩,
    rfl, e0.bare, Un.kept hk, ⟨_, x.toInCall.ns, fun i y v h1 h2 h3 => ?_⟩, fun y c h => ⟨_, x.cell y c h⟩, e0.hok.fresh (Nat.le_refl _), fun y c h => ?_, fun p hp => absurd (show p ∈ ([] : List (Addr × Obj)) from hp) (by simp), e0.hok.kept hk, ?_⟩
  · exact name_of_addr x.apart (PySem.mem_of_lookup h1) (PySem.mem_of_lookup h2)
  · have hy : scope.names.lookup y = some .cell ∨ scope.names.lookup y = some .free := hy
    rcases hy with hy | hy
    · exact cell_has hy
    · exact absurd rfl (S.nofree _ (PySem.mem_of_lookup hy))
  · exact Nat.le_of_lt (x.above y c (PySem.mem_of_lookup h))
  · have hi : i < vs.length := by
      unfold start at h2
      by_cases hi : i < vs.length
      · exact hi
      · rw [List.getElem?_append_right (by simpa using hi)] at h2
        rw [List.getElem?_replicate] at h2
        split at h2 <;> cases h2
    have ha : vs[i]? = some v := by
      unfold start at h2
      rw [List.getElem?_append_left (by simpa using hi), List.getElem?_map] at h2
      cases e : vs[i]? with
      | none => rw [e] at h2; cases h2
      | some a => rw [e] at h2; cases h2; rfl
    refine Ea.x1_2 (r.get ha) fun u hu rv => ?_
    have hp : ps[i]? = some y := by
      rw [← S.pre, List.getElem?_take_of_lt (by lia)]; exact h1
    have ndP : ps.Nodup := by rw [← S.pre]; exact S.nd.sublist (List.take_sublist _ _)
    refine ⟨u, rv, ?_⟩
    rcases S.par y (List.mem_of_getElem? hp) with k | k
    · exact .inl ⟨k, bindL_get ndP hp hu k⟩
    · obtain ⟨c, e⟩ := cell_has (n := s.heap.objs.size + 1) k
      refine .inr ⟨.inl k, c, e, ?_⟩
      have q := x.cell y c e
      rw [bindC_get ndP hp hu (by show scope.names.lookup y ≠ _; rw [k]; decide)] at q
      exact q
  · exact e0.hok.fresh (Nat.le_of_lt (x.above y c (PySem.mem_of_lookup h)))
  · unfold start
    show _ = N.length
    rw [List.length_append, List.length_map, List.length_replicate]
    lia
theorem fn_of {CX : CXT} {P : Program} {w : World} {K : PySem.W.Frag} {mg : Str → Option Value} {base : Heap} {k : Nat} {f : Addr} {name qual : Str} {params : Arguments} {body : List Stmt} {scope : Scope} {dV kV doc pm cdv ct oc : Value} {an od : Option Addr}
    {osl : Array (Option Value)} {N ps : List Str} {sp : Sp} (lk : K.lookup f = some ⟨oc, od, .func (PySem.W.fnOf name qual params body scope dV kV doc pm an cdv ct), osl⟩) (hcd : PySem.W.codeIn K cdv qual = true) (S : FnScope N ps scope)
    (len : ∀ vs H Q E, sp vs H Q E → vs.length = ps.length)
    (hbody : ∀ (A : Around) (outer : List Env) (s : Shared) (H : Hp) (vs : List V) (Q : VK) (E : XK), Room k (A.deeper (envOfC qual scope s.heap.objs.size f cdv)) → sp vs H Q E →
      ∃ t, PSs (cxOf CX P w K mg base N qual scope f cdv A outer s H E) body t ∧ t { nx := fun _ H' => Q .non H', rt := Q } (start N vs) H) :
    FnOk P w K mg base CX (k + 1) f (PySem.W.fnOf name qual params body scope dV kV doc pm an cdv ct) ps sp := by
  refine ⟨len, fun A outer s H args us vs Q E hr e0 hb r hsp => ?_⟩
  have hl := len _ _ _ _ hsp
  have KX : K.In s.heap := e0.mod.kin.keeps fun b o e => (e0.bs b o e).1
  have lim : s.heap.NoLimit := e0.mod.nolimit.keeps fun b o e => (e0.bs b o e).1
  have hkind : ∀ y ∈ ps.zip us, scope.names.lookup y.1 = some .local ∨ (scope.names.lookup y.1 = some .cell ∧ ((cellsFrom (s.heap.objs.size + 1) scope.names []).lookup y.1).isSome = true) := fun ⟨n, v⟩ hy => by
    rcases S.par n (List.of_mem_zip hy).1 with q | q
    · exact .inl q
    · exact .inr ⟨q, PySem.W.cellsFrom_some _ _ _ (.inl q)⟩
  refine codeAny_call_function hr.depth (KX _ _ lk) rfl S.co S.gen rfl (PySem.W.codeRec_of KX hcd) (hb _ _ _ _ ?_)
  refine wpAny_newFunctionEnv_cells S.kind hkind fun env he s1 x => ?_
  subst he
  refine ⟨lim.keeps x.toInCall.keep, codeAny_func ?_⟩
  refine Ea.x1_2 (hbody A outer s H vs Q E (hr.deeper _) hsp) fun t ht hq => ?_
  have I : Inv (cxOf CX P w K mg base N qual scope f cdv A outer s H E) [] (start N vs) H s1 := inv_start S hr.hd e0 hl r x
  refine wpAny_mono (ht [] s1 (start N vs) H _ I hq) (fun fl s' hs => ?_) fun e s' hs => hs
  have fin : ∀ {σ' : St} {H' : Hp} {v : V} {u : Value}, Inv (cxOf CX P w K mg base N qual scope f cdv A outer s H E) [] σ' H' s' → RelV v u → Q v H' → CE outer P w H s Q u s' :=
    fun {σ' H' v u} J rv q => ⟨v, H', J.os, J.bare, J.base, J.hok, rv, q⟩
  cases fl with
  | ret u =>
    refine Ea.x3_3 hs fun v σ' H' J rv q => ?_; try clear hs
    exact fin J rv q
  | next =>
    refine Ea.x2_2 hs fun σ' H' J q => ?_; try clear hs
    exact fin (v := V.non) (u := Value.none) J rfl q
  | brk =>
    refine Ea.x2_2 hs fun _ _ _ q => ?_; try clear hs
    exact False.elim q
  | cont =>
    refine Ea.x2_2 hs fun _ _ _ q => ?_; try clear hs
    exact False.elim q
end L2
namespace L2
open PySem PySem.Spec PyProof.Rows
section
variable {X : Cx} {x : Str} {p pos : Pos} {e : Expr} {es : List Expr} {t : TA} {id T : String} {r : List V → Hp → VK → Prop}
noncomputable def tCB (r : List V → Hp → VK → Prop) (t : TA) : TE := fun σ H Q => t σ H fun vs H1 => r vs H1 Q
theorem pe_callB (hc : CallR X (.builtin id) r) (hg : Gl X x) (hm : X.mg x = none) (hv : bootBuiltins x = some (.builtin id)) (ha : PA X (e :: es) t) (hn : x ≠ "__name__" := by decide) (hdb : (x == ("__debug__" : Str)) = false := by decide)
    (he : starEach (e :: es) X.env = (false, eval e X.env) :: starEach es X.env := by rfl) (hpl : (backTo pos (starEach es X.env)).any (·.1) = false := by rfl) : PE X (.Call (.Name x p) (e :: es) [] pos) (tCB r t) := by
  intro pins s σ H Q I h
  refine wpAny_Call_Name_kw (ld_blt I hg hm hv ?_ hn hdb)
  exact PyProof.Rows.callWith_builtin1 (thn (ha pos pins s σ H _ I h) fun us s1 qz126 => Ea.x2_3 qz126 fun vs H1 I1 r1 q1 => hc pins s1 σ H1 vs us Q I1 r1 q1) he hpl
theorem pe_callTy (hc : CallR X (.type T) r) (hg : Gl X x) (hm : X.mg x = none) (hv : bootBuiltins x = some (.type T)) (ha : PA X (e :: es) t) (hn : x ≠ "__name__" := by decide) (hdb : (x == ("__debug__" : Str)) = false := by decide)
    (he : starEach (e :: es) X.env = (false, eval e X.env) :: starEach es X.env := by rfl) (hpl : (backTo pos (starEach es X.env)).any (·.1) = false := by rfl) : PE X (.Call (.Name x p) (e :: es) [] pos) (tCB r t) := by
  intro pins s σ H Q I h
  refine wpAny_Call_Name_kw (ld_blt I hg hm hv ?_ hn hdb)
  exact PyProof.Rows.callWith_type1 (thn (ha pos pins s σ H _ I h) fun us s1 qz127 => Ea.x2_3 qz127 fun vs H1 I1 r1 q1 => hc pins s1 σ H1 vs us Q I1 r1 q1) he hpl
end
end L2
namespace HT
open PySem PyProof.Rows
section
variable {prog : Program} {w : World} {A : Around} {E : Value → Shared → Prop} {s : Shared}
noncomputable def sIx (n d : Nat) : Option Int → Nat
  | none => d
  | some v => if v < 0 then (v + (n : Int)).toNat else min v.toNat n
theorem sIx_nat (n d k : Nat) : sIx n d (some (k : Int)) = min k n := by
  show (if (k : Int) < 0 then ((k : Int) + (n : Int)).toNat else min (k : Int).toNat n) = min k n
  rw [if_neg (by lia), Int.toNat_natCast]
end
end HT
namespace L2
open PySem PySem.Spec PyProof.Rows
noncomputable abbrev TO := St → Hp → (Option Int → Hp → Prop) → Prop
noncomputable def PO (X : Cx) (e : Option Expr) (t : TO) : Prop :=
  ∀ (pins : List (Addr × Obj)) (s : Shared) (σ : St) (H : Hp) (Q : Option Int → Hp → Prop), Inv X pins σ H s → t σ H Q →
    wpAny (model X.prog X.w) X.A (evalPart e X.env) (fun u s' => ∃ o H', Inv X pins σ H' s' ∧ IsPart u o ∧ Q o H') X.xe s
noncomputable def tPart (t : TE) : TO := fun σ H Q => t σ H fun x H1 => ∃ i, x = .int i ∧ Q (some i) H1
section
variable {X : Cx} {e : Expr} {te : TE} {lo hi : Option Expr} {tl th : TO} {pos p2 : Pos}
theorem po_some (h : PE X e te) : PO X (some e) (tPart te) := by
  intro pins s σ H Q I hw
  rw [evalPart_some]
  refine thn (h pins s σ H _ I hw) fun u s1 qz128 => Ea.x2_3 qz128 fun x H1 I1 r1 q1 => ?_
  refine Ea.x1_2 q1 fun i qz347 q => ?_; try clear q1; subst qz347
  obtain ⟨t, rfl⟩ := r1
  exact ⟨some i, H1, I1, .int i t, q⟩
noncomputable def SlR (X : Cx) (r : V → Option Int → Option Int → Hp → VK → Prop) : Prop :=
  ∀ (pins : List (Addr × Obj)) (s : Shared) (σ : St) (H : Hp) (x : V) (v vl vu : Value) (lo hi : Option Int) (sl : Addr) (Q : VK), Inv X pins σ H s → RelV x v → s.heap.IsSliceOf sl vl vu .none → IsPart vl lo → IsPart vu hi → r x lo hi H Q →
    ∃ T id, typeLookup (.type T) "__getitem__" = pure (some (.builtin id)) ∧ s.TypeIs v T ∧ wpAny (model X.prog X.w) X.A (getItem v (.ref sl)) (EP X pins σ Q) X.xe s
noncomputable def tSl (r : V → Option Int → Option Int → Hp → VK → Prop) (te : TE) (tl th : TO) : TE := fun σ H Q => te σ H fun x H1 => tl σ H1 fun l H2 => th σ H2 fun u H3 => r x l u H3 Q
theorem pe_slice {r : V → Option Int → Option Int → Hp → VK → Prop} (hr : SlR X r) (he : PE X e te) (hl : PO X lo tl) (hu : PO X hi th) : PE X (.Subscript e (.Slice lo hi none p2) pos) (tSl r te tl th) := by
  intro pins s σ H Q I h
  refine Subscript_ (thn (he pins s σ H _ I h) fun v s1 qz129 => Ea.x2_3 qz129 fun x H1 I1 r1 q1 => ?_)
  refine wpAny_Slice (thn (hl pins s1 σ H1 _ I1 q1) fun vl s2 qz130 => Ea.x2_3 qz130 fun l H2 I2 pl q2 => thn (hu pins s2 σ H2 _ I2 q2) fun vu s3 qz131 => Ea.x2_3 qz131 fun u H3 I3 pu q3 => ?_)
  rw [evalPart_none]
  refine wpAny_pure ?_
  have I4 : Inv X pins σ H3 { s3 with heap := s3.heap.push { cls := .type "slice", data := .fields #[vl, vu, .none] } } := I3.kept (t' := s3.toks) fun b ob q => Heap.get?_push_of_some _ q
  refine Ea.x2_3 (hr pins { s3 with heap := s3.heap.push { cls := .type "slice", data := .fields #[vl, vu, .none] } } σ H3 x v vl vu l u s3.heap.objs.size Q I4 r1 (Heap.IsSliceOf.new ..) pl pu q3) fun T id hT ht hg => ?_
  show wpAny (model X.prog X.w) X.A (subscriptTail e (.Slice lo hi none p2) v (.ref s3.heap.objs.size)) (EP X pins σ Q) X.xe { s3 with heap := s3.heap.push { cls := .type "slice", data := .fields #[vl, vu, .none] } }
  exact tail_any (ops := [.ref s3.heap.objs.size, v]) ht hT hg (by with_unfolding_all rfl)
noncomputable def cutV (xs : List V) (lo hi : Option Int) : List V := (xs.drop (HT.sIx xs.length 0 lo)).take (HT.sIx xs.length xs.length hi - HT.sIx xs.length 0 lo)
theorem cutV_length (xs : List V) (lo hi : Option Int) : (cutV xs lo hi).length ≤ xs.length := by
  unfold cutV
  rw [List.length_take, List.length_drop]
  lia
end
end L2
namespace L2
open PySem PySem.Spec PyProof.Rows
noncomputable def ixN (n : Nat) (i : Int) : Option Nat := if 0 ≤ i then (if i < n then some i.toNat else none) else if -(n : Int) ≤ i then some (i + n).toNat else none
noncomputable def atI {α : Type} (xs : List α) (i : Int) : Option α := (ixN xs.length i).bind fun j => xs[j]?
theorem ixN_seq {n : Nat} {i : Int} {j : Nat} (h : ixN n i = some j) : seqIndex? i n = some j ∧ j < n ∧ -(n : Int) ≤ i ∧ i < n := by
  unfold ixN at h
  by_cases h0 : 0 ≤ i
  · rw [if_pos h0] at h
    by_cases h1 : i < n
    · rw [if_pos h1] at h
      have e : i.toNat = j := Option.some.inj h
      exact ⟨by rw [seqIndex_of h0 h1, e], by lia, by lia, h1⟩
    · rw [if_neg h1] at h; cases h
  · rw [if_neg h0] at h
    by_cases h1 : -(n : Int) ≤ i
    · rw [if_pos h1] at h
      have e : (i + n).toNat = j := Option.some.inj h
      exact ⟨by rw [seqIndex_neg (by lia) h1, e], by lia, h1, by lia⟩
    · rw [if_neg h1] at h; cases h
theorem atI_get {α : Type} {xs : List α} {i : Int} {v : α} (h : atI xs i = some v) : ∃ j, seqIndex? i xs.length = some j ∧ xs[j]? = some v ∧ j < xs.length ∧ -(xs.length : Int) ≤ i ∧ i < xs.length := by
  unfold atI at h
  cases e : ixN xs.length i with
  | none => rw [e] at h; cases h
  | some j =>
    rw [e] at h
    refine Ea.a4 (ixN_seq e) fun h1 h2 h3 h4 => ?_
    exact ⟨j, h1, h, h2, h3, h4⟩
theorem atI_nat {α : Type} {xs : List α} {j : Nat} {v : α} (h : xs[j]? = some v) : atI xs (j : Int) = some v := by
  have hj : j < xs.length := (List.getElem?_eq_some_iff.mp h).1
  have e : ixN xs.length (j : Int) = some j := by
    unfold ixN
    rw [if_pos (by lia), if_pos (by lia)]; simp
  unfold atI; rw [e]; exact h
noncomputable def PlainIx (b : Expr) : Prop := ∀ o i, subscripted b false o i = operate [o, i] (getItem o i)
noncomputable def IxR (X : Cx) (r : R2) : Prop :=
  ∀ (value slice : Expr) (pins : List (Addr × Obj)) (s : Shared) (σ : St) (H : Hp) (x y : V) (v u : Value) (Q : VK), Inv X pins σ H s → RelV x v → RelV y u → r x y H Q →
    subscripted slice false v u = operate [v, u] (getItem v u) → wpAny (model X.prog X.w) X.A (subscriptTail value slice v u) (EP X pins σ Q) X.xe s
noncomputable def MtR (X : Cx) (id : String) (r : V → List V → Hp → VK → Prop) : Prop :=
  ∀ (pins : List (Addr × Obj)) (s : Shared) (σ : St) (H : Hp) (x : V) (xs : List V) (v : Value) (us : List Value) (Q : VK), Inv X pins σ H s → RelV x v → Vals xs us → r x xs H Q →
    wpAny (model X.prog X.w) X.A (call (.builtin id) (v :: us)) (EP X pins σ Q) X.xe s
section
variable {X : Cx} {a b : Expr} {ta tb : TE} {pos : Pos}
theorem pe_ix {r : R2} (hr : IxR X r) (ha : PE X a ta) (hb : PE X b tb) (hs : PlainIx b) : PE X (.Subscript a b pos) (tOp r ta tb) := by
  intro pins s σ H Q I h
  exact Subscript_ (binT ha hb I h fun v u s2 x y H2 I2 rx ry q => hr a b pins s2 σ H2 x y v u Q I2 rx ry q (hs _ _))
noncomputable def rIxL (K : PySem.W.Frag) : R2 := fun x y H Q => ∃ p xs i v, x = .ref p ∧ y = .int i ∧ SqL K H p xs ∧ atI xs i = some v ∧ Q v H
noncomputable def rIxT (K : PySem.W.Frag) : R2 := fun x y H Q => ∃ p xs i v, x = .ref p ∧ y = .int i ∧ SqT K H p xs ∧ atI xs i = some v ∧ Q v H
theorem ix_list : IxR X (rIxL X.K) := by
  intro value slice pins s σ H x y v u Q I rx ry h hs
  refine Ea.x4_5 h fun p xs i z qz357 qz358 hq he q => ?_; try clear h; subst qz357; subst qz358
  cases rx
  obtain ⟨t, rfl⟩ := ry
  refine Ea.x1_3 (I.list hq) fun its r pl hz => ?_
  refine Ea.x1_5 (atI_get he) fun j h1 h2 h3 h4 h5 => ?_
  refine Ea.x1_2 (r.get h2) fun w ew rw' => ?_
  have hl := r.length
  have hn := line63
  have fin : EP X pins σ Q w s := ⟨z, H, I, rw', q⟩
  by_cases h0 : 0 ≤ i
  · have hj : i.toNat = j := by
      rw [seqIndex_of h0 h5] at h1
      exact Option.some.inj h1
    exact item_listR pl.isList h0 (by lia) (by rw [hj]; simpa using ew) fin hs
  · have hj : (i + (its.toArray.size : Int)).toNat = j := by
      rw [seqIndex_neg (by lia) h4] at h1
      rw [List.size_toArray, ← hl]
      exact Option.some.inj h1
    exact subscriptTail_builtinR (x := w) pl.isList.typeIs slot_list_getitem.lookup
      (wpAny_getItem_list_neg (Q := fun r s' => r = w ∧ EP X pins σ Q r s') pl.isList (by lia) (by rw [List.size_toArray] <;> lia) (by lia) (by rw [hj]; simpa using ew) ⟨rfl, fin⟩) hs
theorem ix_tup : IxR X (rIxT X.K) := by
  intro value slice pins s σ H x y v u Q I rx ry h hs
  refine Ea.x4_5 h fun p xs i z qz361 qz362 hq he q => ?_; try clear h; subst qz361; subst qz362
  cases rx
  obtain ⟨t, rfl⟩ := ry
  refine Ea.x1_3 (I.tuple hq) fun its r pl hz => ?_
  refine Ea.x1_5 (atI_get he) fun j h1 h2 h3 h4 h5 => ?_
  refine Ea.x1_2 (r.get h2) fun w ew rw' => ?_
  have hl := r.length
  have hn := line63
  have fin : EP X pins σ Q w s := ⟨z, H, I, rw', q⟩
  exact subscriptTail_builtinR (x := w) pl.typeIs slot_tuple_getitem.lookup
    (getItem_tuple (j := j) (Q := fun r s' => r = w ∧ EP X pins σ Q r s') pl (by lia) (by lia) (by rw [List.size_toArray, ← hl]; exact h1) (by simpa using ew) ⟨rfl, fin⟩) hs
theorem mapSeq_set (its : List Value) (n j : Nat) (u : Value) : Obj.mapSeq (·.setIfInBounds j u) { cls := .type "list", data := .seq its.toArray n } = { cls := .type "list", data := .seq (its.set j u).toArray n } := by
  simp [Obj.mapSeq]
theorem Inv.lst {pins : List (Addr × Obj)} {σ : St} {H : Hp} {s : Shared} {p : Addr} {xs : List V} (I : Inv X pins σ H s) (h : H p = some (.lst xs)) :
    ∃ (its : List Value) (n : Nat), Vals xs its ∧ s.heap.get? p = some { cls := .type "list", data := .seq its.toArray n } ∧ xs.length ≤ sizeLine := by
  obtain ⟨z, its, n, r, e⟩ := I.hok p _ h
  exact ⟨its, n, r, e, z⟩
theorem Inv.lstUpd {pins : List (Addr × Obj)} {σ : St} {H : Hp} {s : Shared} {p : Addr} {xs ys : List V} {its its' : List Value} {n n' : Nat} {f : Obj → Obj} (I : Inv X pins σ H s) (h : H p = some (.lst xs))
    (ho : s.heap.get? p = some { cls := .type "list", data := .seq its.toArray n }) (hf : f { cls := .type "list", data := .seq its.toArray n } = { cls := .type "list", data := .seq its'.toArray n' }) (r : Vals ys its') (hz : ys.length ≤ sizeLine) (t : Nat) :
    Inv X pins σ (upd H p (.lst ys)) { s with heap := s.heap.update p f, toks := t } := by
  have e : (s.heap.update p f).get? p = some { cls := .type "list", data := .seq its'.toArray n' } := by
    rw [Heap.get?_update_self f ho (by rw [hf] <;> rfl), hf]
  refine I.write (x := p) (e := p) (by rw [h]; trivial) (.inl rfl) (fun b u hb q => (Heap.get?_update_other _ _ (Ne.symm hb)).trans q) ⟨_, e⟩ ?_
  exact ⟨hz, its', n', r, e⟩
noncomputable def rSetL : V → V → V → Hp → (Hp → Prop) → Prop := fun o i v H Q => ∃ p xs k j, o = .ref p ∧ i = .int k ∧ H p = some (.lst xs) ∧ ixN xs.length k = some j ∧ Q (upd H p (.lst (xs.set j v)))
theorem set_list : PSet X rSetL := by
  intro pins s σ H o i v ov iv u Q I ro ri rv h
  refine Ea.x4_5 h fun p xs k j qz369 qz370 hp hj q => ?_; try clear h; subst qz369; subst qz370
  cases ro
  obtain ⟨t, rfl⟩ := ri
  refine Ea.x2_3 (I.lst hp) fun its n r ho hz => ?_
  refine Ea.a4 (ixN_seq hj) fun h1 h2 h3 h4 => ?_
  have hl := r.length
  have hn := line63
  have I' : Inv X pins σ (upd H p (.lst (xs.set j v))) { s with heap := s.heap.update p (Obj.mapSeq (·.setIfInBounds j u)) } :=
    I.lstUpd hp ho (mapSeq_set its n j u) (r.set rv j) (by rw [List.length_set]; exact hz) s.toks
  by_cases h0 : 0 ≤ k
  · have hk : k.toNat = j := by
      rw [seqIndex_of h0 h4] at h1
      exact Option.some.inj h1
    exact PySem.W.ki_setAt ho h0 (by lia) (by rw [List.size_toArray, ← hl]; exact h4) (by rw [hk]; exact ⟨_, I', q⟩)
  · have hk : (k + (its.toArray.size : Int)).toNat = j := by
      rw [seqIndex_neg (by lia) h3] at h1
      rw [List.size_toArray, ← hl]
      exact Option.some.inj h1
    exact PySem.W.ki_setBack ho (by lia) (by rw [List.size_toArray, ← hl]; exact h3) (by lia) (by rw [hk]; exact ⟨_, I', q⟩)
theorem slice_bounds (lo hi : Option Int) (n : Nat) : (sliceBounds lo hi none n).1 = ((HT.sIx n 0 lo : Nat) : Int) ∧ (sliceBounds lo hi none n).2.1 = ((HT.sIx n n hi : Nat) : Int) ∧ (sliceBounds lo hi none n).2.2 = 1 := by
  refine ⟨?_, ?_, rfl⟩
  · cases lo with
    | none => simp [sliceBounds, HT.sIx]
    | some i =>
      simp only [sliceBounds, HT.sIx, Option.getD_none, show (1 : Int) > 0 by decide, if_true]
      by_cases h : i < 0
      · simp only [h, if_true] <;> lia
      · simp only [h, if_false] <;> lia
  · cases hi with
    | none => simp [sliceBounds, HT.sIx]
    | some i =>
      simp only [sliceBounds, HT.sIx, Option.getD_none, show (1 : Int) > 0 by decide, if_true]
      by_cases h : i < 0
      · simp only [h, if_true] <;> lia
      · simp only [h, if_false] <;> lia
theorem slicePick_cut (its : List Value) (lo hi : Option Int) : slicePick its.toArray lo hi none = ((its.drop (HT.sIx its.length 0 lo)).take (HT.sIx its.length its.length hi - HT.sIx its.length 0 lo)).toArray := by
  refine Ea.a3 (slice_bounds lo hi its.toArray.size) fun h1 h2 h3 => ?_
  unfold slicePick
  rw [h1, h2, h3]
  simp only [sliceRange_one, pick_run, List.size_toArray] <;> rfl
noncomputable def rSlL (K : PySem.W.Frag) : V → Option Int → Option Int → Hp → VK → Prop := fun x lo hi H Q => ∃ a xs, x = .ref a ∧ SqL K H a xs ∧ ∀ p, H p = none → Q (.ref p) (upd H p (.lst (cutV xs lo hi)))
theorem sl_list : SlR X (rSlL X.K) := by
  intro pins s σ H x v vl vu lo hi sl Q I rx hs pl pu h
  refine Ea.x2_3 h fun a xs qz372 hx q => ?_; try clear h; subst qz372
  cases rx
  refine Ea.x1_3 (I.list hx) fun its r ht hz => ?_
  have hlen := r.length
  refine ⟨"list", _, slot_list_getitem.lookup, ht.isList.typeIs, ?_⟩
  refine wpAny_getItem_list_slice ht.isList hs pl pu .none (by simp) ?_ (by rw [List.size_toArray] <;> lia)
  rw [slicePick_cut, ← hlen]
  refine ⟨.ref s.heap.objs.size, _, I.laid (t' := s.toks) (o := .lst (cutV xs lo hi)) (fun b ob q => Heap.get?_push_of_some _ q) (Nat.le_refl _) ?_, rfl, q _ (I.hok.fresh (Nat.le_refl _))⟩
  exact ⟨Nat.le_trans (cutV_length xs lo hi) hz, _, 0, (r.drop (HT.sIx xs.length 0 lo)).take (HT.sIx xs.length xs.length hi - HT.sIx xs.length 0 lo), Heap.get?_push_size _ rfl⟩
theorem call_len_seq : CallR X (.builtin "len") (fun xs H Q => ∃ p ys, xs = [.ref p] ∧ (SqL X.K H p ys ∨ SqT X.K H p ys) ∧ Q (.int ys.length) H) := by
  intro pins s σ H xs us Q I r h
  refine Ea.x2_3 h fun p ys qz379 hq q => ?_; try clear h; subst qz379
  refine Ea.x1_2 (vals1 r) fun u qz380 rx => ?_; subst qz380
  cases rx
  have hn := line63
  rcases hq with hq | hq
  · refine Ea.x1_3 (I.list hq) fun its r' pl hz => ?_
    have hlen := r'.length
    exact Calls.call_len_list pl.isList (by simp only [List.size_toArray] <;> lia) ⟨.int ys.length, H, I.tok _, ⟨s.toks + 1, by rw [List.size_toArray, hlen]⟩, q⟩
  · refine Ea.x1_3 (I.tuple hq) fun its r' pl hz => ?_
    have hlen := r'.length
    exact len_tuple pl (by simp only [List.size_toArray] <;> lia) ⟨.int ys.length, H, I.tok _, ⟨s.toks + 1, by rw [List.size_toArray, hlen]⟩, q⟩
noncomputable def tyV (K : PySem.W.Frag) (T : String) (x : V) (H : Hp) : Prop := match x with
  | .str _ => T = "str"
  | .int _ => T = "int"
  | .ref p => (T = "list" ∧ ∃ xs, SqL K H p xs) ∨ (T = "tuple" ∧ ∃ o, K.lookup p = some o ∧ o.cls = .type "tuple" ∧ o.dict = none) ∨
      (T = "dict" ∧ ((∃ kvs, H p = some (.dK kvs)) ∨ ∃ kvs, H p = some (.dT kvs))) ∨ (T = "set" ∧ ∃ S n, H p = some (.set S n))
  | _ => False
theorem tyV_is {pins : List (Addr × Obj)} {σ : St} {H : Hp} {s : Shared} {T : String} {x : V} {v : Value} (I : Inv X pins σ H s) (r : RelV x v) (ty : tyV X.K T x H) :
    s.TypeIs v T ∧ ∀ a, v = .ref a → ∃ ob, s.heap.get? a = some ob ∧ ob.dict = none := by
  cases x with
  | str z =>
    obtain ⟨t, rfl⟩ := r
    cases (show T = "str" from ty)
    exact ⟨typeIs_str s z t, fun _ e => nomatch e⟩
  | int i =>
    obtain ⟨t, rfl⟩ := r
    cases (show T = "int" from ty)
    exact ⟨typeIs_int s i t, fun _ e => nomatch e⟩
  | ref p =>
    cases r
    rcases ty with ⟨rfl, xs, hq⟩ | ⟨rfl, o, hk, hc, hd⟩ | ⟨rfl, hk⟩ | ⟨rfl, S, n, hk⟩
    · refine Ea.x1_3 (I.list hq) fun its _ pl _ => ?_
      refine ⟨pl.isList.typeIs, fun a e => ?_⟩
      cases e
      refine Ea.x2_4 pl fun o n e c hd _ => ?_; try clear pl
      exact ⟨o, e, hd⟩
    · refine ⟨⟨o, I.kIn p o hk, hc⟩, fun a e => ?_⟩
      cases e
      exact ⟨o, I.kIn _ o hk, hd⟩
    · have z : ∃ o, s.heap.get? p = some o ∧ o.ExactDict := by
        rcases hk with ⟨kvs, hk⟩ | ⟨kvs, hk⟩
        · obtain ⟨_, _, _, _, o, _, _, e, ex, _⟩ := I.hok p _ hk
          exact ⟨o, e, ex⟩
        · obtain ⟨_, _, _, _, o, _, _, e, ex, _⟩ := I.hok p _ hk
          exact ⟨o, e, ex⟩
      refine Ea.x1_2 z fun o e ex => ?_; try clear z
      refine ⟨⟨o, e, ex.1⟩, fun a e2 => ?_⟩
      cases e2
      exact ⟨o, e, ex.2.1⟩
    · refine Ea.x4_3 (I.hok p _ hk) fun o _ _ _ e ex _ => ?_
      refine ⟨⟨o, e, ex.1⟩, fun a e2 => ?_⟩
      cases e2
      exact ⟨o, e, ex.2.1⟩
  | _ => exact False.elim ty
noncomputable def tBM0 (K : PySem.W.Frag) (T : String) (r : V → List V → Hp → VK → Prop) (to : TE) : TE := fun σ H Q => to σ H fun x H1 => tyV K T x H1 ∧ r x [] H1 Q
noncomputable def tBM (K : PySem.W.Frag) (T : String) (r : V → List V → Hp → VK → Prop) (to : TE) (t : TA) : TE := fun σ H Q => to σ H fun x H1 => tyV K T x H1 ∧ t σ H1 fun xs H2 => r x xs H2 Q
variable {o e : Expr} {es : List Expr} {to : TE} {t : TA} {name : Str} {apos cpos : Pos} {T id : String} {r : V → List V → Hp → VK → Prop}
theorem pe_bm0 (pa : PlainAttrs T) (slot : Slot T name id) (hty : typeOf (.builtin id) = pure (.type "method_descriptor")) (hm : MtR X id r) (ho : PE X o to)
    (hbase : attributeBase o name X.env (eval o X.env) = eval o X.env := by rfl) (hline : (apos.endLine == cpos.line) = true := by rfl) : PE X (.Call (.Attribute o name apos) [] [] cpos) (tBM0 X.K T r to) := by
  intro pins s σ H Q I h
  refine wpAny_Call_method0_late hbase hline (thn (ho pins s σ H _ I h) fun v s1 qz132 => Ea.x2_3 qz132 fun x H1 I1 r1 qz133 => ?_)
  obtain ⟨ty, q1⟩ := qz133
  obtain ⟨h1, h2⟩ := tyV_is I1 r1 ty
  exact ⟨T, id, pa, slot, hty, h1, h2, Calls.callWith_builtin rfl (PySem.evalArgs_none (hm pins s1 σ H1 x [] v [] Q I1 r1 .nil q1))⟩
theorem pe_bm (pa : PlainAttrs T) (slot : Slot T name id) (hty : typeOf (.builtin id) = pure (.type "method_descriptor")) (hm : MtR X id r) (ho : PE X o to) (ha : PA X (e :: es) t)
    (hbase : attributeBase o name X.env (eval o X.env) = eval o X.env := by rfl)
    (hfew : ((backTo cpos (starEach (e :: es) X.env)).all (fun x => !x.1) && (backToKw cpos (keywordEach [] X.env)).all (fun x => x.1.isSome)
      && decide ((e :: es).length + ([] : List Keyword).length + (if ([] : List Keyword).isEmpty then 0 else 1) < 30)) = true := by rfl)
    (hline : (apos.endLine == cpos.line) = true := by rfl) (hs : starEach (e :: es) X.env = (false, eval e X.env) :: starEach es X.env := by rfl) (hplain : (backTo cpos (starEach es X.env)).any (·.1) = false := by rfl) :
    PE X (.Call (.Attribute o name apos) (e :: es) [] cpos) (tBM X.K T r to t) := by
  intro pins s σ H Q I h
  refine wpAny_Call_method_late hbase hfew hline rfl (thn (ho pins s σ H _ I h) fun v s1 qz134 => Ea.x2_3 qz134 fun x H1 I1 r1 qz135 => ?_)
  obtain ⟨ty, q1⟩ := qz135
  obtain ⟨h1, h2⟩ := tyV_is I1 r1 ty
  refine ⟨T, id, pa, slot, hty, h1, h2, ?_⟩
  have hA := ha cpos pins s1 σ H1 _ I1 q1
  rw [hs] at hA ⊢
  refine Calls.callWith_builtin (by show (false || (backTo cpos (starEach es X.env)).any (·.1)) = false; rw [hplain] <;> rfl) (Calls.evalArgs_plain ?_)
  exact thn hA fun us s2 qz136 => Ea.x2_3 qz136 fun vs H2 I2 r2 q2 => hm pins s2 σ H2 x vs v us Q I2 r1 r2 q2
end
end L2
namespace L2
open PySem PySem.Spec PyProof.Rows
noncomputable def MtM (X : Cx) (id : String) (r : V → List V → Hp → VK → Prop) : Prop :=
  ∀ (pins : List (Addr × Obj)) (s : Shared) (σ : St) (H : Hp) (x : V) (xs : List V) (v : Value) (us : List Value) (Q : VK), Inv X pins σ H s → RelV x v → Vals xs us → r x xs H Q →
    wpAny (model X.prog X.w) X.A (call (.builtin id) (v :: us)) (EP X pins σ Q) X.xe s
theorem Vals.one {x : V} {us : List Value} (h : Vals [x] us) : ∃ u, us = [u] ∧ RelV x u := by
  cases h with | cons r t => cases t; exact ⟨_, rfl, r⟩
theorem Vals.zero : ∀ {us : List Value}, Vals [] us → us = []
  | _, .nil => rfl
theorem Vals.dropLast {xs : List V} {us : List Value} (h : Vals xs us) : Vals xs.dropLast us.dropLast := by
  induction h with
  | nil => exact .nil
  | cons r t ih =>
    cases t with
    | nil => exact .nil
    | cons q t' => exact .cons r ih
theorem Vals.rep {xs : List V} {us : List Value} (h : Vals xs us) : ∀ k : Nat, Vals (List.replicate k xs).flatten (List.replicate k us).flatten
  | 0 => .nil
  | k + 1 => by
    rw [List.replicate_succ, List.replicate_succ, List.flatten_cons, List.flatten_cons]
    exact Vals.append h (Vals.rep h k)
theorem erase_last {α : Type} (l : List α) : l.eraseIdx (l.length - 1) = l.dropLast := by
  induction l with
  | nil => rfl
  | cons a r ih =>
    cases r with
    | nil => rfl
    | cons b r =>
      have e : (a :: b :: r).length - 1 = ((b :: r).length - 1) + 1 := by
        have h1 : (a :: b :: r).length = r.length + 2 := rfl
        have h2 : (b :: r).length = r.length + 1 := rfl
        lia
      rw [e, List.eraseIdx_cons_succ, ih]
      all_goals rfl
theorem foldl_rep (its : List Value) : ∀ (k : Nat) (acc : List Value),
    List.foldl (fun x1 x2 => x1 ++ x2) acc.toArray (List.replicate k its.toArray) = (acc ++ (List.replicate k its).flatten).toArray
  | 0, acc => by simp
  | k + 1, acc => by
    have e : acc.toArray ++ its.toArray = (acc ++ its).toArray := by simp
    have e2 : (acc ++ its) ++ (List.replicate k its).flatten = acc ++ (List.replicate (k + 1) its).flatten := by
      rw [List.replicate_succ, List.flatten_cons, List.append_assoc]
    rw [← e2, ← foldl_rep its k (acc ++ its), ← e, List.replicate_succ, List.foldl_cons]
section
variable {X : Cx} {pins : List (Addr × Obj)} {σ : St} {H : Hp} {s : Shared} {l b : Addr} {xs ys zs : List V}
theorem Inv.lset {its its' : List Value} {n : Nat} {f : Array Value → Array Value} {t' : Nat} (I : Inv X pins σ H s) (hH : H l = some (.lst xs))
    (e : s.heap.get? l = some { cls := .type "list", data := .seq its.toArray n }) (hf : f its.toArray = its'.toArray) (hv : Vals ys its') (hz : ys.length ≤ sizeLine) :
    Inv X pins σ (upd H l (.lst ys)) { s with heap := s.heap.update l (Obj.mapSeq f), toks := t' } := by
  have q := PySem.IsL.update e f
  rw [hf] at q
  refine I.write (x := l) (e := l) (by rw [hH]; exact trivial) (.inl rfl) (fun b' u hb hu => (Heap.get?_update_other s.heap (Obj.mapSeq f) (Ne.symm hb)).trans hu) ⟨_, q⟩ ?_
  exact ⟨hz, its', _, hv, q⟩
theorem Inv.lnew {its : List Value} {t' : Nat} (I : Inv X pins σ H s) (hv : Vals ys its) (hz : ys.length ≤ sizeLine) :
    Inv X pins σ (upd H s.heap.objs.size (.lst ys)) { s with heap := s.heap.push { cls := .type "list", data := .seq its.toArray }, toks := t' } :=
  I.laid (fun _ _ q => Heap.get?_push_of_some _ q) (Nat.le_refl _) ⟨hz, its, 0, hv, Heap.get?_push_size _ rfl⟩
theorem Inv.fresh (I : Inv X pins σ H s) : H s.heap.objs.size = none := I.hok.fresh (Nat.le_refl _)
theorem Inv.lstM (I : Inv X pins σ H s) (hH : H l = some (.lst xs)) : xs.length ≤ sizeLine ∧ ∃ (its : List Value) (n : Nat), Vals xs its ∧ xs.length = its.length ∧ s.heap.get? l = some { cls := .type "list", data := .seq its.toArray n } := by
  obtain ⟨z, its, n, r, e⟩ := I.hok l _ hH
  exact ⟨z, its, n, r, r.length, e⟩
theorem notLongL {n : Nat} (h : n ≤ sizeLine) : Builtin.List.listTooLong n = false := by
  unfold Builtin.List.listTooLong
  exact decide_eq_false (by lia)
end
section
variable {X : Cx}
noncomputable def rAppend : V → List V → Hp → VK → Prop := fun x vs H Q => ∃ l xs y, x = .ref l ∧ vs = [y] ∧ H l = some (.lst xs) ∧ xs.length < sizeLine ∧ Q .non (upd H l (.lst (xs ++ [y])))
theorem mt_append : MtM X "list.append" rAppend := by
  intro pins s σ H x vs v us Q I rx rv h
  refine Ea.x3_5 h fun l xs y qz389 qz390 hH hz q => ?_; try clear h; subst qz389; subst qz390
  cases rx
  refine Ea.x1_2 rv.one fun u qz392 ru => ?_; subst qz392
  obtain ⟨z, its, n, r, hl, e⟩ := I.lstM hH
  refine call_meets F.slot_list_append ⟨_, e, rfl⟩ F.entry_list_append (F.args_list_append_2 _ _) (PySem.list_append l its.toArray n u (by rw [List.size_toArray]; lia)) ⟨e, ?_⟩
  refine ⟨.non, _, I.lset (its' := its ++ [u]) hH e (by simp) (r.append (.cons ru .nil)) ?_, rfl, q⟩
  rw [List.length_append, List.length_singleton]
  lia
noncomputable def rPop : V → List V → Hp → VK → Prop := fun x vs H Q => ∃ l xs y, x = .ref l ∧ vs = [] ∧ H l = some (.lst xs) ∧ xs[xs.length - 1]? = some y ∧ Q y (upd H l (.lst xs.dropLast))
theorem mt_pop : MtM X "list.pop" rPop := by
  intro pins s σ H x vs v us Q I rx rv h
  refine Ea.x3_5 h fun l xs y qz397 qz398 hH hy q => ?_; try clear h; subst qz397; subst qz398
  cases rx
  have hus := rv.zero
  subst hus
  obtain ⟨z, its, n, r, hl, e⟩ := I.lstM hH
  refine Ea.x1_2 (r.get hy) fun u hu ru => ?_
  have hy' : its.toArray[its.toArray.size - 1]? = some u := by
    show its.toArray[its.length - 1]? = some u
    rw [← Array.getElem?_toList, ← hl]
    exact hu
  refine call_meets F.slot_list_pop ⟨_, e, rfl⟩ F.entry_list_pop (F.args_list_pop_1 _) (MeetsSeq.list_pop_last l its.toArray n u hy' (by rw [List.size_toArray]; lia)) ⟨e, ?_⟩
  refine ⟨y, _, I.lset (its' := its.dropLast) hH e ?_ r.dropLast ?_, ru, q⟩
  · show its.toArray.eraseIdxIfInBounds (its.toArray.size - 1) = its.dropLast.toArray
    rw [List.size_toArray, List.eraseIdxIfInBounds_toArray, erase_last]
  · rw [List.length_dropLast]
    lia
noncomputable def rRep : R2 := fun x y H Q => ∃ l k xs, x = .ref l ∧ y = .int k ∧ H l = some (.lst xs) ∧ -(2 ^ 63) ≤ k ∧ k < 2 ^ 63 ∧ xs.length * k.toNat ≤ sizeLine ∧
  ∀ p, H p = none → Q (.ref p) (upd H p (.lst (List.replicate k.toNat xs).flatten))
theorem len_rep {α : Type} (xs : List α) (k : Nat) : (List.replicate k xs).flatten.length = k * xs.length := by
  induction k with
  | zero => simp
  | succ k ih => rw [List.replicate_succ, List.flatten_cons, List.length_append, ih, Nat.succ_mul, Nat.add_comm]
theorem op_rep : OpR X (binaryOp .Mult) rRep := by
  intro pins s σ H x y v u Q I rx ry h
  refine Ea.e3 h fun l k xs qz413 => Ea.a7 qz413 fun qz411 qz412 hH h1 h2 hz q => ?_; try clear h; subst qz411; subst qz412
  cases rx
  obtain ⟨t, rfl⟩ := ry
  obtain ⟨z, its, n, r, hl, e⟩ := I.lstM hH
  have hlen : its.toArray.size * k.toNat ≤ sizeLine := by rw [List.size_toArray, ← hl]; exact hz
  have hcap : ¬ its.toArray.size * k.toNat > (2 ^ 63 - 1) / 8 := by
    have : (sizeLine : Nat) ≤ (2 ^ 63 - 1) / 8 := by decide
    lia
  have hfit : ¬ (!Builtin.List.listFitsIndex k) = true := by
    rw [fitsIndex_both h1 h2]
    exact Bool.false_ne_true
  have hlong : ¬ Builtin.List.listTooLong (its.toArray.size * k.toNat) = true := by
    rw [notLongL hlen]
    exact Bool.false_ne_true
  have hnew : List.foldl (fun x1 x2 => x1 ++ x2) #[] (List.replicate (if its.toArray.isEmpty = true then 0 else k.toNat) its.toArray) = (List.replicate k.toNat its).flatten.toArray := by
    have f0 : ∀ m : Nat, List.foldl (fun x1 x2 => x1 ++ x2) #[] (List.replicate m its.toArray) = (List.replicate m its).flatten.toArray := fun m => by
      have := foldl_rep its m []
      rw [List.nil_append] at this
      exact this
    rw [f0]
    cases its with
    | nil => simp
    | cons a r' => rw [if_neg (by simp)]
  refine wpAny_binaryOp_repeat_ref (T := "list") (U := "int") (by decide) ⟨_, e, rfl⟩ (fun s' => typeIs_int s' k t) noFill_list_mul F.fills_int_mul F.slot_int_rmul repeat_list F.slot_int_index.lookup
    (call_meets F.slot_int_rmul (typeIs_int s k t) F.entry_int_rmul (F.args_int_rmul_2 _ _) (int___rmul___int_list k t l its.toArray n)
      ⟨e, rfl, ⟨_, e, rfl⟩, call_meets F.slot_list_mul ⟨_, e, rfl⟩ F.entry_list_mul (F.args_list_mul_2 _ _) (AutoListH.list___mul___list_int_3 l its.toArray n k t hfit hcap hlong) ⟨e, ?_⟩⟩)
  rw [hnew]
  exact ⟨.ref _, _, I.lnew (t' := s.toks) (r.rep k.toNat) (by rw [len_rep, Nat.mul_comm]; exact hz), rfl, q _ I.fresh⟩
end
end L2
namespace L2
open PySem PySem.Spec PyProof.Rows
theorem Vals.ints : ∀ {ns : List Int} {us : List Value}, Vals (ns.map V.int) us → IntsAre us ns
  | [], us, h => by
    rw [List.map_nil] at h
    cases h
    exact IntsAre.nil
  | n :: ns, us, h => by
    rw [List.map_cons] at h
    cases h with
    | cons r t =>
      obtain ⟨k, rfl⟩ := r
      exact IntsAre.cons n k (Vals.ints t)
theorem Vals.ref1 {a : Addr} {us : List Value} (r : Vals [V.ref a] us) : us = [Value.ref a] := by
  cases r with
  | cons r t =>
    cases t
    cases r
    rfl
section
variable {prog : Program} {w : World} {A : Around} {E : Value → Shared → Prop} {s : Shared} {l : Addr} {its : List Value} {ns : List Int} {Q : Value → Shared → Prop}
theorem sum_raw (hh : A.handled = none) (hl : s.heap.IsList l its.toArray) (hi : IntsAre its ns)
    (h : ∀ h' tk t', (∀ b o, s.heap.get? b = some o → h'.get? b = some o) → Q (.int ns.sum t') { s with heap := h', toks := tk }) : wpAny (model prog w) A (call (.builtin "sum") [.ref l]) Q E s := by
  obtain ⟨xs, e⟩ := hi.allInts.items
  have hn : numsOf (intItems xs).toList = ns := by rw [← e]; exact hi.numsOf
  rw [nums_intItems] at hn
  rw [e] at hl
  refine PySem.sum_intListG hh hl fun h' tk t' hk => ?_
  have := h h' tk t' hk
  rw [preSum_eq, List.take_of_length_le (by simp), hn]; exact this
theorem min_raw (hh : A.handled = none) (hl : s.heap.IsList l its.toArray) (hi : IntsAre its ns) (hne : 0 < ns.length)
    (h : ∀ h' tk M t', (∀ b o, s.heap.get? b = some o → h'.get? b = some o) → M ∈ ns → (∀ a, a ∈ ns → M ≤ a) → Q (.int M t') { s with heap := h', toks := tk }) : wpAny (model prog w) A (call (.builtin "min") [.ref l]) Q E s := by
  obtain ⟨xs, e⟩ := hi.allInts.items
  have hn : numsOf (intItems xs).toList = ns := by rw [← e]; exact hi.numsOf
  rw [nums_intItems] at hn
  subst hn
  rw [e] at hl
  have hsz : 0 < xs.size := by simpa using hne
  refine PySem.min_intList hh hl hsz fun v h' tk hv hk => ?_
  obtain ⟨t, rfl⟩ := intItems_at hv
  obtain ⟨h1, h2⟩ := argBest_lt (numAt xs) (xs.size - 1)
  refine h h' tk _ t hk ?_ fun a ha => ?_
  · rw [numAt_eq]; exact PySem.getD_mem (by rw [List.length_map, Array.length_toList]; lia)
  · refine Ea.x1_2 (mem_getD ha) fun j hj qz415 => ?_; subst qz415
    rw [List.length_map, Array.length_toList] at hj
    rw [← numAt_eq]; exact h2 j (by lia)
end
section
variable {X : Cx}
noncomputable def rSum (K : PySem.W.Frag) : List V → Hp → VK → Prop := fun vs H Q => ∃ (a : Addr) (ns : List Int), vs = [V.ref a] ∧ SqL K H a (ns.map V.int) ∧ Q (.int ns.sum) H
noncomputable def rMin (K : PySem.W.Frag) : List V → Hp → VK → Prop := fun vs H Q => ∃ (a : Addr) (ns : List Int), vs = [V.ref a] ∧ SqL K H a (ns.map V.int) ∧ 0 < ns.length ∧ ∀ m, m ∈ ns → (∀ y, y ∈ ns → m ≤ y) → Q (.int m) H
theorem cr_sum (hc : X.calm = true) : CallR X (.builtin "sum") (rSum X.K) := by
  intro pins s σ H vs us Q I r h
  refine Ea.x2_3 h fun a ns qz416 hs q => ?_; try clear h; subst qz416
  refine Ea.x1_3 (I.list hs) fun its rv hl _ => ?_
  rw [Vals.ref1 r]
  exact sum_raw (I.ok.hd hc) hl.isList rv.ints fun h' tk t' hk => ⟨.int _, H, I.kept hk, ⟨_, rfl⟩, q⟩
theorem cr_min (hc : X.calm = true) : CallR X (.builtin "min") (rMin X.K) := by
  intro pins s σ H vs us Q I r h
  refine Ea.x2_4 h fun a ns qz418 hs hne q => ?_; try clear h; subst qz418
  refine Ea.x1_3 (I.list hs) fun its rv hl _ => ?_
  rw [Vals.ref1 r]
  exact min_raw (I.ok.hd hc) hl.isList rv.ints hne fun h' tk m t' hk h1 h2 => ⟨.int _, H, I.kept hk, ⟨_, rfl⟩, q m h1 h2⟩
end
end L2
namespace L2
open PySem PySem.Spec PyProof.Rows
noncomputable abbrev CellAt (h : Heap) (c : Addr) (v : Option Value) : Prop := h.IsCell c v
noncomputable def relS (scope sc : Scope) : Scope :=
  { scope with names := scope.names.map fun (n, k) => if (k == .free && sc.kind == .function && sc.names.lookup n == some .cell) then (n, .cell) else (n, k) }
noncomputable def cloFrom (cells : List (Str × Addr)) : List (Str × NameKind) → List (Str × Addr) → List (Str × Addr)
  | [], acc => acc
  | (n, k) :: r, acc => if k == .free then cloFrom cells r ((n, (cells.lookup n).getD 0) :: acc) else cloFrom cells r acc
theorem closure_loop (env : Env) (f : Str × NameKind → List (Str × Addr) → Sem (ForInStep (List (Str × Addr))))
    (hf : ∀ n k c, f (n, k) c = if k == .free then (do let a ← cellOf env n; pure (.yield ((n, a) :: c))) else pure (.yield c)) :
    ∀ (names : List (Str × NameKind)) (acc : List (Str × Addr)), (∀ y ∈ names, y.2 = .free → ∃ c, env.cells.lookup y.1 = some c) → forIn names acc f = pure (cloFrom env.cells names acc)
  | [], acc, _ => by rw [List.forIn_nil]; rfl
  | (n, k) :: r, acc, h => by
    rw [List.forIn_cons, hf]
    have ih := fun acc => closure_loop env f hf r acc fun y hy => h y (List.mem_cons_of_mem _ hy)
    unfold cloFrom
    by_cases hk : (k == NameKind.free) = true
    · rw [if_pos hk, if_pos hk]
      obtain ⟨c, hc⟩ := h (n, k) List.mem_cons_self (by simpa using hk)
      have e : cellOf env n = pure c := by unfold cellOf; rw [hc]
      rw [e]
      have e2 : (env.cells.lookup n).getD 0 = c := by rw [hc]; rfl
      rw [e2]
      exact ih _
    · rw [if_neg hk, if_neg hk]
      exact ih _
theorem closure_ok {scope : Scope} {env : Env} (h : ∀ y ∈ scope.names, y.2 = .free → ∃ c, env.cells.lookup y.1 = some c) : closureFor scope env = pure (cloFrom env.cells scope.names []) := by
  simp only [closureFor]
  rw [closure_loop env _ (fun n k c => rfl) scope.names [] h]
  rfl
theorem mem_lookup {α : Type} : ∀ {l : List (Str × α)} {n : Str} {c : α}, (n, c) ∈ l → ∃ c', l.lookup n = some c'
  | (k, v) :: r, n, c, h => by
    rw [List.lookup_cons]
    cases hb : n == k with
    | true => exact ⟨_, rfl⟩
    | false =>
      rcases List.mem_cons.mp h with e | h
      · cases e; simp at hb
      · exact mem_lookup h
theorem cloFrom_mem {cells : List (Str × Addr)} : ∀ {names : List (Str × NameKind)} {acc : List (Str × Addr)} {n : Str} {c : Addr}, (n, c) ∈ cloFrom cells names acc → (n, c) ∈ acc ∨ ((n, .free) ∈ names ∧ c = (cells.lookup n).getD 0)
  | [], _, _, _, h => .inl h
  | (m, k) :: r, acc, n, c, h => by
    unfold cloFrom at h
    split at h
    · rename_i hk
      have hk : k = .free := by simpa using hk
      rcases cloFrom_mem h with h | ⟨h1, h2⟩
      · rcases List.mem_cons.mp h with e | h
        · cases e; exact .inr ⟨hk ▸ List.mem_cons_self, rfl⟩
        · exact .inl h
      · exact .inr ⟨List.mem_cons_of_mem _ h1, h2⟩
    · rcases cloFrom_mem h with h | ⟨h1, h2⟩
      · exact .inl h
      · exact .inr ⟨List.mem_cons_of_mem _ h1, h2⟩
theorem cloFrom_acc {cells : List (Str × Addr)} : ∀ {names : List (Str × NameKind)} {acc : List (Str × Addr)} {p : Str × Addr}, p ∈ acc → p ∈ cloFrom cells names acc
  | [], _, _, h => h
  | (m, k) :: r, acc, p, h => by
    unfold cloFrom
    split
    · exact cloFrom_acc (List.mem_cons_of_mem _ h)
    · exact cloFrom_acc h
theorem cloFrom_has {cells : List (Str × Addr)} : ∀ {names : List (Str × NameKind)} {acc : List (Str × Addr)} {n : Str}, (n, .free) ∈ names → (n, (cells.lookup n).getD 0) ∈ cloFrom cells names acc
  | (m, k) :: r, acc, n, h => by
    unfold cloFrom
    rcases List.mem_cons.mp h with e | h
    · cases e
      exact cloFrom_acc List.mem_cons_self
    · split
      · exact cloFrom_has h
      · exact cloFrom_has h
theorem cells_mem : ∀ {names : List (Str × NameKind)} {h : Heap} {acc : List (Str × Addr)} {x : Str} {c : Addr}, (x, c) ∈ cellsFrom h.objs.size names acc →
    (x, c) ∈ acc ∨ ((x, .cell) ∈ names ∧ h.objs.size ≤ c ∧ CellAt (pushCells h names) c none)
  | [], _, _, _, _, h => .inl h
  | (n, k) :: r, h, acc, x, c, hm => by
    unfold cellsFrom at hm
    unfold pushCells
    split at hm
    · rename_i hk
      rw [if_pos hk]
      have hk : k = .cell := by simpa using hk
      rw [← Heap.size_push h { cls := .type "cell", data := .cell none }] at hm
      rcases cells_mem hm with hm | ⟨h1, h2, h3⟩
      · rcases List.mem_cons.mp hm with e | hm
        · cases e
          exact .inr ⟨hk ▸ List.mem_cons_self, Nat.le_refl _, _, pushCells_keeps r _ _ _ (Heap.get?_push_size _ rfl), rfl⟩
        · exact .inl hm
      · rw [Heap.size_push] at h2
        exact .inr ⟨List.mem_cons_of_mem _ h1, Nat.le_of_succ_le h2, h3⟩
    · rename_i hk
      rw [if_neg hk]
      rcases cells_mem hm with hm | ⟨h1, h2, h3⟩
      · exact .inl hm
      · exact .inr ⟨List.mem_cons_of_mem _ h1, h2, h3⟩
theorem cells_acc : ∀ {names : List (Str × NameKind)} {n : Nat} {acc : List (Str × Addr)} {p : Str × Addr}, p ∈ acc → p ∈ cellsFrom n names acc
  | [], _, _, _, h => h
  | (m, k) :: r, n, acc, p, h => by
    unfold cellsFrom
    split
    · exact cells_acc (List.mem_cons_of_mem _ h)
    · exact cells_acc h
theorem cells_has : ∀ {names : List (Str × NameKind)} {n : Nat} {acc : List (Str × Addr)} {x : Str}, (x, .cell) ∈ names → ∃ c, (x, c) ∈ cellsFrom n names acc
  | (m, k) :: r, n, acc, x, h => by
    unfold cellsFrom
    rcases List.mem_cons.mp h with e | h
    · cases e
      exact ⟨n, cells_acc List.mem_cons_self⟩
    · split
      · exact cells_has h
      · exact cells_has h
theorem cells_inj : ∀ {names : List (Str × NameKind)} {h : Heap} {acc : List (Str × Addr)} {x y : Str} {c : Addr}, (∀ p ∈ acc, p.2 < h.objs.size) → (∀ x y c, (x, c) ∈ acc → (y, c) ∈ acc → x = y) →
    (x, c) ∈ cellsFrom h.objs.size names acc → (y, c) ∈ cellsFrom h.objs.size names acc → x = y
  | [], _, _, _, _, _, _, hi, h1, h2 => hi _ _ _ h1 h2
  | (n, k) :: r, h, acc, x, y, c, hl, hi, h1, h2 => by
    unfold cellsFrom at h1 h2
    split at h1
    · rename_i hk
      rw [if_pos hk] at h2
      rw [← Heap.size_push h { cls := .type "cell", data := .cell none }] at h1 h2
      refine cells_inj (h := h.push _) (fun p hp => ?_) (fun x y c a b => ?_) h1 h2
      · rw [Heap.size_push]
        rcases List.mem_cons.mp hp with rfl | hp
        · exact Nat.lt_succ_self _
        · exact Nat.lt_succ_of_lt (hl p hp)
      · rcases List.mem_cons.mp a with e | a <;> rcases List.mem_cons.mp b with e' | b
        · cases e; cases e'; rfl
        · cases e; exact absurd (hl _ b) (Nat.lt_irrefl _)
        · cases e'; exact absurd (hl _ a) (Nat.lt_irrefl _)
        · exact hi _ _ _ a b
    · rename_i hk
      rw [if_neg hk] at h2
      exact cells_inj hl hi h1 h2
theorem newEnv_comp {M : Model} {A : Around} {E : Value → Shared → Prop} {s : Shared} {scope : Scope} {globals : Addr} {closure : List (Str × Addr)} {qual : Str} {func : Option Addr} {code : Value} {around : Env} {builtins : Addr} {Q : Env → Shared → Prop}
    (h : Q (newEnv scope s.heap.objs.size globals (cellsFrom (s.heap.objs.size + 1) scope.names closure) qual func code (some around) builtins)
      { s with heap := pushCells (s.heap.push { cls := .type "dict", data := .dict #[] }) scope.names }) :
    wpAny M A (newFunctionEnv scope globals closure [] qual func code (some around) builtins) Q E s := by
  simp only [newFunctionEnv, Option.isSome_some, if_true]
  refine wpAny_bind (wpAny_alloc ?_)
  refine wpAny_bind (wpAny_layCells _ (fun n k c => rfl) scope.names closure _ _ ?_)
  rw [show ({ s with heap := s.heap.push { cls := .type "dict", data := .dict #[] } } : Shared).heap.objs.size = s.heap.objs.size + 1 from Heap.size_push ..]
  rw [List.forIn_nil]
  exact wpAny_bind (wpAny_pure (wpAny_pure h))
theorem lookup_relS {sc : Scope} : ∀ {names : List (Str × NameKind)} {x : Str} {k : NameKind},
    (names.map fun (n, k) => if (k == NameKind.free && sc.kind == .function && sc.names.lookup n == some .cell) then (n, NameKind.cell) else (n, k)).lookup x = some k →
    ∃ k', names.lookup x = some k' ∧ (k = k' ∨ (k' = .free ∧ k = .cell))
  | [], _, _, h => by simp at h
  | (n, k₀) :: r, x, k, h => by
    have ih := @lookup_relS sc r x k
    have h' : List.lookup x ((if (k₀ == NameKind.free && sc.kind == .function && sc.names.lookup n == some .cell) = true then (n, NameKind.cell) else (n, k₀)) :: (r.map _)) = some k := h
    cases hx : x == n with
    | true =>
      simp only [List.lookup_cons, hx]
      by_cases hc : (k₀ == NameKind.free && sc.kind == .function && sc.names.lookup n == some .cell) = true
      · rw [if_pos hc] at h'
        simp only [List.lookup_cons, hx] at h'
        cases h'
        simp only [Bool.and_eq_true, beq_iff_eq] at hc
        exact ⟨k₀, rfl, .inr ⟨hc.1.1, rfl⟩⟩
      · rw [if_neg hc] at h'
        simp only [List.lookup_cons, hx] at h'
        cases h'
        exact ⟨_, rfl, .inl rfl⟩
    | false =>
      simp only [List.lookup_cons, hx]
      by_cases hc : (k₀ == NameKind.free && sc.kind == .function && sc.names.lookup n == some .cell) = true
      · rw [if_pos hc] at h'
        simp only [List.lookup_cons, hx] at h'
        exact ih h'
      · rw [if_neg hc] at h'
        simp only [List.lookup_cons, hx] at h'
        exact ih h'
structure BlkOk (N : List Str) (sc scope : Scope) (own : List (Str × Nat)) : Prop where
  kind : scope.kind = .function
  uniq : ∀ y ∈ scope.names, scope.names.lookup y.1 = some y.2
  ix : ∀ p ∈ own, N[p.2]? = some p.1
  free : ∀ y ∈ scope.names, y.2 = .free → sc.names.lookup y.1 = some .cell ∨ sc.names.lookup y.1 = some .free
  own : ∀ y ∈ scope.names, y.2 = .local ∨ y.2 = .cell → y.1 ∈ own.map (·.1) ∨ y.1 ∉ N
noncomputable def wipe (σ : St) : List Nat → St
  | [] => σ
  | v :: vs => (wipe σ vs).set v none
theorem wipe_length (σ : St) : ∀ vs : List Nat, (wipe σ vs).length = σ.length
  | [] => rfl
  | v :: vs => by unfold wipe; rw [List.length_set, wipe_length σ vs]
theorem wipe_some {σ : St} {i : Nat} {x : V} : ∀ {vs : List Nat}, (wipe σ vs)[i]? = some (some x) → σ[i]? = some (some x) ∧ i ∉ vs
  | [], h => ⟨h, by simp⟩
  | v :: vs, h => by
    unfold wipe at h
    by_cases hi : v = i
    · subst hi
      by_cases hv : v < (wipe σ vs).length
      · rw [List.getElem?_set_self hv] at h; cases h
      · rw [List.getElem?_eq_none (by simpa using hv)] at h; cases h
    · rw [List.getElem?_set_ne hi] at h
      obtain ⟨h1, h2⟩ := wipe_some h
      exact ⟨h1, by simp only [List.mem_cons, not_or]; exact ⟨fun e => hi e.symm, h2⟩⟩
noncomputable abbrev Cx.blk (X : Cx) (s : Shared) (H : Hp) (scope : Scope) (cenv : Env) (fp : List Addr) : Cx := { X with s_0 := s, H_0 := H, env := cenv, outer := X.stack, ex := fp, fn := fun x => scope.names.lookup x == some .cell, pn := [], xe := fun _ _ => False }
section
variable {X : Cx} {pins : List (Addr × Obj)} {σ : St} {H : Hp} {s : Shared}
theorem block_start {scope : Scope} {own : List (Str × Nat)} {fp : List Addr} (I : Inv X pins σ H s) (ok : BlkOk X.N X.env.scope scope own) (hN : X.N.Nodup) (hfp : ∀ b ∈ fp, FpOk X pins H b ∧ b < s.heap.objs.size) :
    Inv (X.blk s H scope (compEnvC scope (cellsFrom (s.heap.objs.size + 1) scope.names (cloFrom X.env.cells scope.names [])) s.heap.objs.size X.env) fp) [] (wipe σ (own.map (·.2))) H { s with heap := pushCells (s.heap.push { cls := .type "dict", data := .dict #[] }) scope.names } := by
  have hfree : ∀ y ∈ scope.names, y.2 = .free → ∃ c, X.env.cells.lookup y.1 = some c := fun y hy e => by
    rcases ok.free y hy e with k | k
    · exact I.ok.has _ (.inl k)
    · exact I.ok.has _ (.inr k)
  generalize hcenv : compEnvC scope (cellsFrom (s.heap.objs.size + 1) scope.names (cloFrom X.env.cells scope.names [])) s.heap.objs.size X.env = cenv
  have kp : ∀ b o, s.heap.get? b = some o → (pushCells (s.heap.push { cls := .type "dict", data := .dict #[] }) scope.names).get? b = some o := fun b o e => pushCells_keeps _ _ _ _ (Heap.get?_push_of_some _ e)
  have hL : cenv.locals = s.heap.objs.size := by rw [← hcenv]; rfl
  have hcl : cenv.cells = cellsFrom (s.heap.objs.size + 1) scope.names (cloFrom X.env.cells scope.names []) := by rw [← hcenv]; rfl
  have hsc : cenv.scope = relS scope X.env.scope := by rw [← hcenv]; rfl
  rw [← Heap.size_push s.heap { cls := .type "dict", data := .dict #[] }] at hcl
  have cm : ∀ {y c}, (y, c) ∈ cloFrom X.env.cells scope.names [] → X.env.cells.lookup y = some c ∧ c < s.heap.objs.size := fun {y c} hm => by
    rcases cloFrom_mem hm with hm | ⟨h1, rfl⟩
    · cases hm
    · obtain ⟨c, hc⟩ := hfree _ h1 rfl
      rw [hc]
      obtain ⟨w, z⟩ := I.cell _ _ hc
      exact ⟨rfl, z.lt⟩
  have mem : ∀ {y c}, cenv.cells.lookup y = some c → (X.env.cells.lookup y = some c ∧ c < s.heap.objs.size) ∨ (s.heap.objs.size + 1 ≤ c ∧ CellAt (pushCells (s.heap.push { cls := .type "dict", data := .dict #[] }) scope.names) c none) := fun {y c} e => by
    rw [hcl] at e
    rcases cells_mem (PySem.mem_of_lookup e) with hm | ⟨_, h2, h3⟩
    · exact .inl (cm hm)
    · rw [Heap.size_push] at h2; exact .inr ⟨h2, h3⟩
  have look : ∀ {y}, scope.names.lookup y = some .free → ∃ c, cenv.cells.lookup y = some c ∧ X.env.cells.lookup y = some c := fun {y} hl => by
    have hy : (y, NameKind.free) ∈ scope.names := PySem.mem_of_lookup hl
    obtain ⟨c', e'⟩ := mem_lookup (cells_acc (names := scope.names) (n := (s.heap.push { cls := .type "dict", data := .dict #[] }).objs.size) (cloFrom_has (cells := X.env.cells) (acc := []) hy))
    rw [← hcl] at e'
    refine ⟨c', e', ?_⟩
    rw [hcl] at e'
    rcases cells_mem (PySem.mem_of_lookup e') with hm | ⟨h1, _, _⟩
    · exact (cm hm).1
    · have := ok.uniq _ h1
      rw [hl] at this; cases this
  have okB : (X.blk s H scope cenv fp).Ok := by
    refine ⟨I.ok.mod, by show cenv.scope.kind = _; rw [hsc]; exact ok.kind, by show cenv.globals = _; rw [← hcenv]; exact I.ok.glob, by show cenv.builtins = _; rw [← hcenv]; exact I.ok.blt, by show s.heap.objs.size ≤ cenv.locals; rw [hL]; exact Nat.le_refl _,
      fun y z c e1 e2 => ?_, fun y hy => ?_, fun y c z e => ?_, I.ok.hd, I.ok.frames, .inl rfl, fun b hb => ⟨?_, fun y c e z => ?_⟩, I.bs, Nat.le_trans I.ok.bsz I.sz, fun b o e hb => ?_, fun b hb z => ?_, I.stack, I.stkFree⟩
    · have e1 : cenv.cells.lookup y = some c := e1
      have e2 : cenv.cells.lookup z = some c := e2
      rw [hcl] at e1 e2
      refine cells_inj (fun p hp => ?_) (fun y z c a b => I.ok.inj y z c (cm a).1 (cm b).1) (PySem.mem_of_lookup e1) (PySem.mem_of_lookup e2)
      rw [Heap.size_push]
      exact Nat.lt_succ_of_lt (cm (y := p.1) (c := p.2) hp).2
    · show ∃ c, cenv.cells.lookup y = some c
      have key : ∀ k, cenv.kindOf y = some k → (k = .cell ∨ k = .free) → ∃ c, cenv.cells.lookup y = some c := fun k hk hk' => by
        unfold Env.kindOf at hk
        rw [hsc] at hk
        refine Ea.x1_2 (lookup_relS hk) fun k' e r => ?_
        have : k' = .cell ∨ k' = .free := by
          rcases r with rfl | ⟨rfl, _⟩
          · exact hk'
          · exact .inr rfl
        rcases this with rfl | rfl
        · obtain ⟨c, hm⟩ := cells_has (n := (s.heap.push { cls := .type "dict", data := .dict #[] }).objs.size) (acc := cloFrom X.env.cells scope.names []) (PySem.mem_of_lookup e)
          obtain ⟨c', e'⟩ := mem_lookup hm
          exact ⟨c', by rw [hcl]; exact e'⟩
        · refine Ea.x1_2 (look e) fun c h1 _ => ?_
          exact ⟨c, h1⟩
      rcases hy with hy | hy
      · exact key _ hy (.inl rfl)
      · exact key _ hy (.inr rfl)
    · have z : (scope.names.lookup y == some NameKind.cell) = true := z
      have z : scope.names.lookup y = some .cell := by simpa using z
      have e : cenv.cells.lookup y = some c := e
      rw [hcl] at e
      rcases cells_mem (PySem.mem_of_lookup e) with hm | ⟨_, h2, _⟩
      · rcases cloFrom_mem hm with hm | ⟨h1, _⟩
        · cases hm
        · have q := ok.uniq _ h1
          rw [z] at q; cases q
      · rw [Heap.size_push] at h2
        exact Nat.le_of_succ_le h2
    · show b ≠ cenv.locals
      rw [hL]; exact Nat.ne_of_lt (hfp b hb).2
    · have e : cenv.cells.lookup y = some c := e
      rcases mem e with ⟨h1, _⟩ | ⟨h1, _⟩
      · exact (hfp b hb).1.2.2.2.2.1 y c h1 z
      · have h2 : s.heap.objs.size + 1 ≤ b := by rw [← z]; exact h1
        exact absurd (Nat.lt_of_lt_of_le (hfp b hb).2 (Nat.le_of_succ_le h2)) (Nat.lt_irrefl _)
    · rcases (hfp b hb).1.2.2.2.1 with z | z
      · exact I.ok.noex b o e z
      · exact absurd (Nat.lt_of_lt_of_le (Heap.lt_size e) (Nat.le_trans I.ok.bsz z)) (Nat.lt_irrefl _)
    · rcases List.mem_cons.mp (I.stkSub b z) with z | z
      · exact (hfp b hb).1.2.1 z
      · exact (hfp b hb).1.2.2.1 z
  refine ⟨okB, rfl, I.bare, Un.kept kp, ⟨fun _ => none, ?_, fun i y av e1 e2 e3 => ?_⟩, fun y c e => ?_, ?_, fun y c e => ?_, fun p hp => ?_, I.hok.kept kp, by rw [wipe_length]; exact I.len⟩
  · show Heap.Ns _ cenv.locals _
    rw [hL]
    exact Heap.Ns.keeps (Heap.Ns.new ..) fun b o e => pushCells_keeps _ _ _ _ e
  · obtain ⟨e2, hne⟩ := wipe_some e2
    have hfr : scope.names.lookup y = some .free ∧ (cenv.kindOf y = some .cell ∨ cenv.kindOf y = some .free) := by
      have key : ∀ k, cenv.scope.names.lookup y = some k → k = .local ∨ k = .cell ∨ k = .free → scope.names.lookup y = some .free ∧ (cenv.kindOf y = some .cell ∨ cenv.kindOf y = some .free) := fun k hk hk' => by
        have hk0 := hk
        rw [hsc] at hk
        refine Ea.x1_2 (lookup_relS hk) fun k' e r => ?_
        have no : ¬ (k' = .local ∨ k' = .cell) := fun hh => by
          rcases ok.own _ (PySem.mem_of_lookup e) hh with e' | e'
          · refine Ea.x1_2 (List.mem_map.mp e') fun p hp hpy => ?_
            have e3 := ok.ix p hp
            have : p.1 = y := hpy
            rw [this] at e3
            exact hne (List.mem_map.mpr ⟨p, hp, nodup_ix hN e3 e1⟩)
          · exact e' (List.mem_of_getElem? e1)
        rcases r with rfl | ⟨rfl, rfl⟩
        · rcases hk' with rfl | rfl | rfl
          · exact absurd (.inl rfl) no
          · exact absurd (.inr rfl) no
          · exact ⟨e, .inr hk0⟩
        · exact ⟨e, .inl hk0⟩
      have e3 : Vis cenv.scope y := e3
      rcases e3 with e3 | e3 | e3
      · exact key _ e3 (.inl rfl)
      · exact key _ e3 (.inr (.inl rfl))
      · exact key _ e3 (.inr (.inr rfl))
    refine Ea.x1_2 I.loc fun m hn hl => ?_
    have hvis : Vis X.env.scope y := (ok.free _ (PySem.mem_of_lookup hfr.1) rfl).elim (fun k => .inr (.inl k)) (fun k => .inr (.inr k))
    refine Ea.x1_2 (hl i y av e1 e2 hvis) fun w r q => ?_
    refine ⟨w, r, .inr ⟨hfr.2, ?_⟩⟩
    refine Ea.x1_2 (look hfr.1) fun c h1 h2 => ?_
    rcases q with ⟨k, _⟩ | ⟨_, c', e', z⟩
    · have k : X.env.scope.names.lookup y = some .local := k
      rcases ok.free _ (PySem.mem_of_lookup hfr.1) rfl with k' | k' <;> rw [show X.env.scope.names.lookup y = _ from k'] at k <;> cases k
    · rw [h2] at e'; cases e'
      exact ⟨c, h1, z.keeps kp⟩
  · have e : cenv.cells.lookup y = some c := e
    rcases mem e with ⟨h1, _⟩ | ⟨_, z⟩
    · obtain ⟨w, z⟩ := I.cell y c h1
      exact ⟨w, z.keeps kp⟩
    · exact ⟨_, z⟩
  · show H cenv.locals = none
    rw [hL]; exact I.hok.fresh (Nat.le_refl _)
  · have e : cenv.cells.lookup y = some c := e
    rcases mem e with ⟨h1, _⟩ | ⟨h1, _⟩
    · exact I.freeC y c h1
    · exact I.hok.fresh (Nat.le_of_succ_le h1)
  · exact absurd (show p ∈ ([] : List (Addr × Obj)) ++ [] from hp) (by simp)
theorem app_ok {E : Value → Shared → Prop} {D : Addr} {xs : List V} {y : V} {v : Value} {Q : Value → Shared → Prop} (I : Inv X pins σ H s) (hD : H D = some (.lst xs)) (hz : xs.length < sizeLine) (r : RelV y v)
    (h : ∀ s', Inv X pins σ (upd H D (.lst (xs ++ [y]))) s' → Q .none s') : wpAny (model X.prog X.w) X.A (call (.builtin "list.append") [.ref D, v]) Q E s := by
  obtain ⟨hz', its, n, ri, e⟩ := I.hok D _ hD
  have hl := ri.length
  refine append_at (hsz := by rw [List.size_toArray]; lia) e fun h' sb ho' => ?_
  refine h { s with heap := h' } (I.write (t' := s.toks) (by rw [hD]; trivial) (.inl rfl) (fun b u hb q => (sb.2 b hb).trans q) ⟨_, ho'⟩ ⟨by rw [List.length_append]; exact hz, its ++ [v], n + 1, ri.append (.cons r .nil), ?_⟩)
  rw [ho']
  simp
noncomputable def PTs (X : Cx) (ifs : List Expr) (t : TT) : Prop :=
  ∀ (pins : List (Addr × Obj)) (s : Shared) (σ : St) (H : Hp) (Q : Bool → Hp → Prop), Inv X pins σ H s → t σ H Q →
    wpAny (model X.prog X.w) X.A (forIn ifs true fun c r => if r = true then do let ok ← isTrue c X.env (eval c X.env); pure (ForInStep.yield ok) else pure (ForInStep.yield r)) (TP X pins σ Q) X.xe s
noncomputable def tYes : TT := fun _ H Q => Q true H
theorem pts_nil : PTs X [] tYes := fun _ _ _ H _ I h => wpAny_tests_nil ⟨H, I, h⟩
theorem pts_one {c : Expr} {t : TT} (h : PT X c t) : PTs X [c] t := fun pins s σ H Q I hw => wpAny_tests_one (h pins s σ H Q I hw)
end
theorem thnF {α : Type} {t : Sem α} {Q Q' : α → Shared → Prop} {M : Model} {A : Around} {E : Value → Shared → Prop} {s : Shared} (h : wpAny M A t Q (fun _ _ => False) s) (hQ : ∀ a s, Q a s → Q' a s) : wpAny M A t Q' E s := wpAny_mono h hQ fun _ _ z => False.elim z
theorem compLoop_any {prog : Program} {w : World} {A : Around} {R : Result → Shared → Prop} {s : Shared} {elt target iter : Expr} {ifs : List Expr} {scope : Scope} {pos : Pos} {it acc : Value} {env : Env} (I : Nat → Shared → Prop)
    (turn : ∀ n s, I n s → wpAny (model prog w) A (pyNext it) (fun r s₁ => match r with
      | none => R (.ok .next) s₁
      | some v => wpAny (model prog w) A (letOwnedTupleGo target it v) (fun _ s₁' => wpAny (model prog w) A (assign target env v) (fun _ s₂ =>
          wpAny (model prog w) A (forIn ifs true fun c r => if r = true then do let ok ← isTrue c env (eval c env); pure (ForInStep.yield ok) else pure (ForInStep.yield r)) (fun ok s₃ =>
            if ok = true then wpAny (model prog w) A (eval elt env) (fun x s₄ =>
              wpAny (model prog w) A (call (.builtin "list.append") [acc, x]) (fun _ s₅ => ∃ m, m < n ∧ I m s₅) (notedBy (model prog w) A env fun e s' => R (.error e) s') s₄) (notedBy (model prog w) A env fun e s' => R (.error e) s') s₃
            else ∃ m, m < n ∧ I m s₃) (notedBy (model prog w) A env fun e s' => R (.error e) s') s₂) (notedBy (model prog w) A env fun e s' => R (.error e) s') s₁') (notedBy (model prog w) A env fun e s' => R (.error e) s') s₁) (notedBy (model prog w) A env fun e s' => R (.error e) s') s)
    (n : Nat) (h : I n s) :
    codeAny (model prog w) A (.compLoop (.ListComp elt [⟨target, iter, ifs, 0⟩] scope pos) 0 it acc env) R s := by
  refine codeAny_loop rfl I (fun n s hI => ?_) n h
  show wpAny _ A ((compTurn (.ListComp elt [⟨target, iter, ifs, 0⟩] scope pos) 0 it acc env).onRaise (fun x => do noteFrame x env; theTreesLotGoes x)) _ _ s
  refine wpAny_noted ?_
  rw [compTurn_list]
  refine wpAny_bind (wpAny_standAt (wpAny_bind (wpAny_mono (turn n s hI) (fun r s₁ h₁ => ?_) fun _ _ h' => h')))
  cases r with
  | none => exact wpAny_pure h₁
  | some v =>
    refine wpAny_bind (wpAny_mono h₁ (fun _ s₁' h₁' => ?_) fun _ _ h' => h')
    refine wpAny_bind (wpAny_mono h₁' (fun _ s₂ h₂ => wpAny_bind (wpAny_mono h₂ (fun ok s₃ h₃ => ?_) fun _ _ h' => h')) fun _ _ h' => h')
    cases ok with
    | false => exact wpAny_pure ⟨rfl, h₃⟩
    | true =>
      exact wpAny_bind (wpAny_bind (wpAny_mono h₃ (fun x s₄ h₄ => wpAny_bind (wpAny_mono h₄ (fun _ s₅ h₅ => wpAny_pure (wpAny_pure ⟨rfl, h₅⟩)) fun _ _ h' => h')) fun _ _ h' => h'))
section
variable {X : Cx}
noncomputable def tLc (wi : TI) (g : TG) (tt : TT) (te : TE) (vs : List Nat) : TE := fun σ H Q => wi σ H fun J H1 => ∀ D, H1 D = none → ∃ W : Nat → Nat → Hp → Prop, (∃ m, W 0 m (upd H1 D (.lst []))) ∧ ∀ i m H, W i m H →
  (J.stop i H ∧ Q (.ref D) H) ∨ (J.go i H ∧ ∃ Nx : Hp → Prop, (∀ H', Nx H' → ∃ m', m' < m ∧ W (i + 1) m' H') ∧ ∀ x H', J.yld i H x H' → g x (wipe σ vs) H' fun σ2 H2 => wipe σ2 vs = wipe σ vs ∧ tt σ2 H2 fun b H3 =>
    if b = true then te σ2 H3 fun y H4 => ∃ acc, H4 D = some (.lst acc) ∧ acc.length < sizeLine ∧ Nx (upd H4 D (.lst (acc ++ [y]))) else Nx H3)
theorem lc_core {pins : List (Addr × Obj)} {s : Shared} {σ : St} {H : Hp} {Q : VK} {elt tg iter : Expr} {ifs : List Expr} {scope : Scope} {own : List (Str × Nat)} {pos pos' : Pos} {wi : TI} {g : TG} {tt : TT} {te : TE} {use : Option (Value → Sem Unit)} {Qf : Value → Shared → Prop}
    (hc : X.calm = true) (hN : X.N.Nodup) (I : Inv X pins σ H s) (hi : PI X tg iter wi) (ok : BlkOk X.N X.env.scope scope own)
    (hg : ∀ (s : Shared) (H : Hp) (C : Addr) (cl : List (Str × Addr)) (fp : List Addr), PG (X.blk s H scope (compEnvC scope cl C X.env) fp) tg g) (ht : ∀ (s : Shared) (H : Hp) (C : Addr) (cl : List (Str × Addr)) (fp : List Addr), PTs (X.blk s H scope (compEnvC scope cl C X.env) fp) ifs tt)
    (he : ∀ (s : Shared) (H : Hp) (C : Addr) (cl : List (Str × Addr)) (fp : List Addr), PE (X.blk s H scope (compEnvC scope cl C X.env) fp) elt te) (hs : ∀ x, foldedSetIterable iter X.env x = pure x)
    (h : tLc wi g tt te (own.map (·.2)) σ H Q)
    (hRR : ∀ D C s' m H', Inv X pins σ H' s' → Q (.ref D) H' → s'.heap.Ns C m → FpOk X pins H' C → compPost (model X.prog X.w) X.A X.xe use Qf (.ref D) C (.ok .next) s') :
    wpAny (model X.prog X.w) X.A (comprehension (.ListComp elt [⟨tg, iter, ifs, 0⟩] scope pos) scope X.env pos' (newList []) false (eval iter X.env) use) Qf X.xe s := by
  have hfree : ∀ y ∈ scope.names, y.2 = .free → ∃ c, X.env.cells.lookup y.1 = some c := fun y hy e => by
    rcases ok.free y hy e with k | k
    · exact I.ok.has _ (.inl k)
    · exact I.ok.has _ (.inr k)
  refine wpAny_comprehension_free (use := use) rfl hs (closure_ok hfree) ok.kind (fun y hy e => by rw [ok.uniq y hy, e])
    (thn (hi pins s σ H _ I h) fun xv s1 hx => thn hx fun itv s2 h2 => ?_)
  refine Ea.x5_6 h2 fun it fp tn J H2 e I2 T st2 f2 q => ?_; try clear h2
  subst e
  refine wpAny_newObj_type (newEnv_comp ?_) (by show 0 ≤ sizeLine; decide)
  generalize hD : s2.heap.objs.size = D
  have hDn : H2 D = none := I2.hok.fresh (Nat.le_of_eq hD)
  refine Ea.x1_2 (q D hDn) fun W qz442 turn => ?_; obtain ⟨m0, w0⟩ := qz442
  generalize hs3 : ({ s2 with heap := s2.heap.push { cls := .type "list", data := .seq ([] : List Value).toArray } } : Shared) = s3
  have I3 : Inv X pins σ (upd H2 D (.lst [])) s3 := by
    rw [← hs3]
    refine I2.laid (t' := s2.toks) (fun b o e => Heap.get?_push_of_some _ e) (Nat.le_of_eq hD) ⟨Nat.zero_le _, [], 0, .nil, ?_⟩
    rw [← hD]
    exact Heap.get?_push_size _ rfl
  have h3 : s3.heap = s2.heap.push { cls := .type "list", data := .seq ([] : List Value).toArray } := by rw [← hs3]
  have sz : ∀ b ∈ fp, b < s2.heap.objs.size := fun b hb => by
    refine Ea.x1_2 (T.obj _ _ st2 b hb) fun o e _ => ?_
    exact Heap.lt_size e
  have f3 : ∀ b ∈ fp, FpOk X pins (upd H2 D (.lst [])) b ∧ b < s3.heap.objs.size := fun b hb => by
    have hlt := sz b hb
    refine ⟨⟨?_, (f2 b hb).2⟩, by rw [h3, Heap.size_push]; exact Nat.lt_succ_of_lt hlt⟩
    rw [upd_ne (by rw [← hD]; exact Nat.ne_of_lt hlt)]
    exact (f2 b hb).1
  have st3 : tn 0 s3.heap := T.keep _ _ _ st2 fun b _ o e => by rw [h3]; exact Heap.get?_push_of_some _ e
  have I4 := block_start I3 ok hN f3
  have pg := hg s3 (upd H2 D (.lst [])) s3.heap.objs.size (cellsFrom (s3.heap.objs.size + 1) scope.names (cloFrom X.env.cells scope.names [])) fp
  have pt := ht s3 (upd H2 D (.lst [])) s3.heap.objs.size (cellsFrom (s3.heap.objs.size + 1) scope.names (cloFrom X.env.cells scope.names [])) fp
  have pe := he s3 (upd H2 D (.lst [])) s3.heap.objs.size (cellsFrom (s3.heap.objs.size + 1) scope.names (cloFrom X.env.cells scope.names [])) fp
  show codeAny _ _ (.compStart (.ListComp elt [⟨tg, iter, ifs, 0⟩] scope pos) 0 (.ref it) (.ref D) (compEnvC scope (cellsFrom (s3.heap.objs.size + 1) scope.names (cloFrom X.env.cells scope.names [])) s3.heap.objs.size X.env)) (compPost (model X.prog X.w) X.A X.xe use Qf (.ref D) s3.heap.objs.size) { s3 with heap := pushCells (s3.heap.push { cls := .type "dict", data := .dict #[] }) scope.names }
  have nfp : ∀ b ∈ fp, (upd H2 D (.lst [])) b = none := fun b hb => (f3 b hb).1.1
  generalize hce : compEnvC scope (cellsFrom (s3.heap.objs.size + 1) scope.names (cloFrom X.env.cells scope.names [])) s3.heap.objs.size X.env = ce at I4 pg pt pe ⊢
  have cL : ce.locals = s3.heap.objs.size := by subst hce; rfl
  generalize hH3 : upd H2 D (.lst []) = H3 at I3 I4 pg pt pe w0 nfp f3
  generalize hs4 : ({ s3 with heap := pushCells (s3.heap.push { cls := .type "dict", data := .dict #[] }) scope.names } : Shared) = s4 at I4 ⊢
  have st4 : tn 0 s4.heap := T.keep _ _ _ st3 fun b _ o e => by rw [← hs4]; exact pushCells_keeps _ _ _ _ (Heap.get?_push_of_some _ e)
  have stat : ∀ {σ' : St} {H' : Hp} {s' : Shared}, Inv (X.blk s3 H3 scope ce fp) [] σ' H' s' → (∀ b ∈ fp, H' b = none) → ∀ b ∈ fp, FpOk (X.blk s3 H3 scope ce fp) [] H' b := fun {σ' H' s'} I' hn b hb =>
    ⟨hn b hb, (I'.ok.exf b hb).1, I'.ok.exfs b hb, .inl hb, fun x c e => (I'.ok.exf b hb).2 x c e, fun p hp => absurd (show p ∈ ([] : List (Addr × Obj)) ++ [] from hp) (by simp)⟩
  have loop : codeAny (model X.prog X.w) X.A (.compLoop (.ListComp elt [⟨tg, iter, ifs, 0⟩] scope pos) 0 (.ref it) (.ref D) ce) (compPost (model X.prog X.w) X.A X.xe use Qf (.ref D) s3.heap.objs.size) s4 := by
    refine compLoop_any (fun n s' => ∃ i H', Inv (X.blk s3 H3 scope ce fp) [] (wipe σ (own.map (·.2))) H' s' ∧ tn i s'.heap ∧ (∀ b ∈ fp, H' b = none) ∧ W i n H') ?_ m0 ⟨0, H3, I4, st4, nfp, w0⟩
    intro n s5 qz443
    refine Ea.x2_4 qz443 fun i H5 I5 st5 n5 w5 => ?_; try clear qz443
    rcases turn i n H5 w5 with ⟨stop, qq⟩ | ⟨go, Nx, hNx, step⟩
    · have td := T.done (X.blk s3 H3 scope ce fp) rfl rfl rfl hc i [] s5 _ H5 (fun _ _ => False) I5 (stat I5 n5) st5 stop
      refine thnF td fun r s6 ⟨hr, I6⟩ => ?_
      subst hr
      have I7 : Inv X pins σ H5 s6 := I3.call' (ch := fp) I6.os I6.base I6.hok I6.bare fun b hb => ⟨(f3 b hb).1.2.2.2.1, (f3 b hb).1.2.1, (f3 b hb).1.2.2.2.2.1, (f3 b hb).1.2.2.2.2.2⟩
      have nC : H5 s3.heap.objs.size = none := by
        have z : H5 ce.locals = none := I6.free
        rw [cL] at z
        exact z
      refine Ea.x1_2 I6.loc fun m hn _ => ?_
      have hn : s6.heap.Ns ce.locals m := hn
      rw [cL] at hn
      exact hRR D s3.heap.objs.size s6 m H5 I7 qq hn (I3.fpOk (Nat.le_refl _) nC)
    · have ti := T.item (X.blk s3 H3 scope ce fp) rfl rfl rfl hc i [] s5 _ H5 (fun _ _ => False) I5 (stat I5 n5) st5 go
      refine thnF ti fun r s6 qz444 => ?_
      refine Ea.x1_2 qz444 fun u hr h6 => ?_; try clear qz444
      subst hr
      refine thnF h6 fun _ s7 qz137 => Ea.x2_3 qz137 fun x H7 I7 r7 qz138 => ?_
      refine Ea.a3 qz138 fun y7 st7 n7 => ?_; try clear qz138
      have I7' := I7.pinned (stat I7 n7) (T.obj _ _ st7)
      refine thnF (pg _ s7 _ H7 x u _ I7' r7 (step x H7 y7)) fun _ s8 qz139 => Ea.x2_3 qz139 fun σ8 H8 I8 hw8 q8 => ?_
      refine thnF (pt _ s8 σ8 H8 _ I8 q8) fun b s9 qz445 => ?_
      refine Ea.x1_2 qz445 fun H9 I9 q9 => ?_; try clear qz445
      have fin : ∀ {s' : Shared} {H' : Hp}, Inv (X.blk s3 H3 scope ce fp) ([] ++ pinsAt fp s7.heap) σ8 H' s' → Nx H' → ∃ m, m < n ∧ ∃ i H', Inv (X.blk s3 H3 scope ce fp) [] (wipe σ (own.map (·.2))) H' s' ∧ tn i s'.heap ∧ (∀ b ∈ fp, H' b = none) ∧ W i m H' := fun {s' H'} I' nx => by
        refine Ea.x1_2 (hNx H' nx) fun m' hm w' => ?_
        have pin' : ∀ b ∈ fp, ∀ o, s7.heap.get? b = some o → s'.heap.get? b = some o ∧ H' b = none := fun b hb o e =>
          let z := I'.pin (b, o) (List.mem_append_right _ (List.mem_append_right _ (mem_pinsAt hb e)))
          ⟨z.1, z.2.1⟩
        have hl : (wipe σ (own.map (·.2))).length = σ8.length := by rw [← hw8, wipe_length]
        refine ⟨m', hm, i + 1, H', (I'.unpinned (pins := [])).weak hl (fun j v e => ?_), T.keep _ _ _ st7 fun b hb o e => (pin' b hb o e).1, fun b hb => ?_, w'⟩
        · rw [← hw8] at e
          exact (wipe_some e).1
        · refine Ea.x1_2 (T.obj _ _ st7 b hb) fun o e _ => ?_
          exact (pin' b hb o e).2
      cases b with
      | false =>
        simp only [Bool.false_eq_true, if_false] at q9 ⊢
        exact fin I9 q9
      | true =>
        simp only [if_true] at q9 ⊢
        refine thnF (pe _ s9 σ8 H9 _ I9 q9) fun z s10 qz140 => Ea.x2_3 qz140 fun yv H10 I10 r10 qz141 => ?_
        refine Ea.x1_3 qz141 fun acc hD10 hz10 nx => ?_; try clear qz141
        exact app_ok (X := X.blk s3 H3 scope ce fp) I10 hD10 hz10 r10 fun s11 I11 => fin I11 nx
  exact codeAny_compStart_list loop (T.self X.A 0 _ _ _ st4 loop)
theorem pe_lc {elt tg iter : Expr} {ifs : List Expr} {scope : Scope} {own : List (Str × Nat)} {pos : Pos} {wi : TI} {g : TG} {tt : TT} {te : TE} (hc : X.calm = true) (hN : X.N.Nodup) (hi : PI X tg iter wi) (ok : BlkOk X.N X.env.scope scope own)
    (hg : ∀ (s : Shared) (H : Hp) (C : Addr) (cl : List (Str × Addr)) (fp : List Addr), PG (X.blk s H scope (compEnvC scope cl C X.env) fp) tg g) (ht : ∀ (s : Shared) (H : Hp) (C : Addr) (cl : List (Str × Addr)) (fp : List Addr), PTs (X.blk s H scope (compEnvC scope cl C X.env) fp) ifs tt)
    (he : ∀ (s : Shared) (H : Hp) (C : Addr) (cl : List (Str × Addr)) (fp : List Addr), PE (X.blk s H scope (compEnvC scope cl C X.env) fp) elt te) (hs : ∀ x, foldedSetIterable iter X.env x = pure x := by intro _; rfl) :
    PE X (.ListComp elt [⟨tg, iter, ifs, 0⟩] scope pos) (tLc wi g tt te (own.map (·.2))) := by
  intro pins s σ H Q I h
  rw [eval_ListComp]
  refine lc_core hc hN I hi ok hg ht he hs h fun D C s' m H' I' q hn f => ⟨m, hn, fun h'' sb => ?_⟩
  refine Ea.a6 f fun f0 f1 f2 f3 f4 f5 => ?_; try clear f
  exact ⟨.ref D, H', I'.turned (t' := s'.toks) (fun b o hb e => (sb.2 b hb).trans e) f0 f1 f3 f4 f5, rfl, q⟩
end
theorem lc_range {lo : Int} {n : Nat} {g : TG} {tt : TT} {te : TE} {vs : List Nat} {σ : St} {H1 : Hp} {D : Addr} {Qd : Hp → Prop} (Pv : Nat → Hp → Prop) (h0 : Pv 0 (upd H1 D (.lst [])))
    (hs : ∀ i H, i < n → Pv i H → g (.int (lo + i)) (wipe σ vs) H fun σ2 H2 => wipe σ2 vs = wipe σ vs ∧ tt σ2 H2 fun b H3 =>
      if b = true then te σ2 H3 fun y H4 => ∃ acc, H4 D = some (.lst acc) ∧ acc.length < sizeLine ∧ Pv (i + 1) (upd H4 D (.lst (acc ++ [y]))) else Pv (i + 1) H3) (hd : ∀ H, Pv n H → Qd H) :
    ∃ W : Nat → Nat → Hp → Prop, (∃ m, W 0 m (upd H1 D (.lst []))) ∧ ∀ i m H, W i m H →
      ((Itr lo n).stop i H ∧ Qd H) ∨ ((Itr lo n).go i H ∧ ∃ Nx : Hp → Prop, (∀ H', Nx H' → ∃ m', m' < m ∧ W (i + 1) m' H') ∧ ∀ x H', (Itr lo n).yld i H x H' → g x (wipe σ vs) H' fun σ2 H2 => wipe σ2 vs = wipe σ vs ∧ tt σ2 H2 fun b H3 =>
        if b = true then te σ2 H3 fun y H4 => ∃ acc, H4 D = some (.lst acc) ∧ acc.length < sizeLine ∧ Nx (upd H4 D (.lst (acc ++ [y]))) else Nx H3) := by
  refine ⟨fun i m H => m = n - i ∧ i ≤ n ∧ Pv i H, ⟨n, by simp, Nat.zero_le _, h0⟩, ?_⟩
  intro i m H qz446
  refine Ea.a3 qz446 fun qz447 hi p => ?_; try clear qz446; subst qz447
  by_cases hlt : i < n
  · refine .inr ⟨hlt, Pv (i + 1), fun H' p' => ⟨n - (i + 1), by lia, rfl, hlt, p'⟩, fun x H' y => ?_⟩
    obtain ⟨e, y⟩ := y
    subst e y
    exact hs i _ hlt p
  · have e : i = n := by lia
    subst e
    exact .inl ⟨Nat.le_refl _, hd H p⟩
theorem lc_list {K : PySem.W.Frag} {a : Addr} {xs : List V} {g : TG} {tt : TT} {te : TE} {vs : List Nat} {σ : St} {H1 : Hp} {D : Addr} {Qd : Hp → Prop} (Pv : Nat → Hp → Prop) (h0 : Pv 0 (upd H1 D (.lst []))) (hl : ∀ i H, i ≤ xs.length → Pv i H → SqL K H a xs)
    (hs : ∀ i x H, xs[i]? = some x → Pv i H → g x (wipe σ vs) H fun σ2 H2 => wipe σ2 vs = wipe σ vs ∧ tt σ2 H2 fun b H3 =>
      if b = true then te σ2 H3 fun y H4 => ∃ acc, H4 D = some (.lst acc) ∧ acc.length < sizeLine ∧ Pv (i + 1) (upd H4 D (.lst (acc ++ [y]))) else Pv (i + 1) H3) (hd : ∀ H, Pv xs.length H → Qd H) :
    ∃ W : Nat → Nat → Hp → Prop, (∃ m, W 0 m (upd H1 D (.lst []))) ∧ ∀ i m H, W i m H →
      ((Itl K a).stop i H ∧ Qd H) ∨ ((Itl K a).go i H ∧ ∃ Nx : Hp → Prop, (∀ H', Nx H' → ∃ m', m' < m ∧ W (i + 1) m' H') ∧ ∀ x H', (Itl K a).yld i H x H' → g x (wipe σ vs) H' fun σ2 H2 => wipe σ2 vs = wipe σ vs ∧ tt σ2 H2 fun b H3 =>
        if b = true then te σ2 H3 fun y H4 => ∃ acc, H4 D = some (.lst acc) ∧ acc.length < sizeLine ∧ Nx (upd H4 D (.lst (acc ++ [y]))) else Nx H3) := by
  refine ⟨fun i m H => m = xs.length - i ∧ i ≤ xs.length ∧ Pv i H, ⟨xs.length, by simp, Nat.zero_le _, h0⟩, ?_⟩
  intro i m H qz448
  refine Ea.a3 qz448 fun qz449 hi p => ?_; try clear qz448; subst qz449
  have q := hl i H hi p
  by_cases hlt : i < xs.length
  · refine .inr ⟨⟨xs, xs[i], q, by simp [hlt]⟩, Pv (i + 1), fun H' p' => ⟨xs.length - (i + 1), by lia, rfl, hlt, p'⟩, fun x H' y => ?_⟩
    obtain ⟨e, y⟩ := y
    subst e
    exact hs i x _ (y xs q) p
  · have e : i = xs.length := by lia
    subst e
    exact .inl ⟨⟨xs, q, Nat.le_refl _⟩, hd H p⟩
noncomputable def blkC (N : List Str) (sc scope : Scope) (own : List (Str × Nat)) : Bool :=
  (match scope.kind with | .function => true | _ => false) && (scope.names.all fun y => decide (scope.names.lookup y.1 = some y.2)) && (own.all fun p => decide (N[p.2]? = some p.1)) &&
    (scope.names.all fun y => match y.2 with
      | .free => (match sc.names.lookup y.1 with | some .cell => true | some .free => true | _ => false)
      | .local => decide (y.1 ∈ own.map (·.1)) || decide (y.1 ∉ N)
      | .cell => decide (y.1 ∈ own.map (·.1)) || decide (y.1 ∉ N)
      | _ => true)
theorem blkOk_by {N : List Str} {sc scope : Scope} {own : List (Str × Nat)} (h : blkC N sc scope own = true) : BlkOk N sc scope own := by
  unfold blkC at h
  simp only [Bool.and_eq_true, List.all_eq_true, decide_eq_true_eq] at h
  obtain ⟨⟨⟨h1, h2⟩, h3⟩, h4⟩ := h
  refine ⟨?_, h2, h3, fun y hy e => ?_, fun y hy e => ?_⟩
  · split at h1
    · assumption
    · cases h1
  · have q := h4 y hy
    simp only [e] at q
    split at q <;> first | exact .inl (by assumption) | exact .inr (by assumption) | cases q
  · have q := h4 y hy
    rcases e with e | e <;> (simp only [e, Bool.or_eq_true, decide_eq_true_eq] at q; exact q)
end L2
namespace L2
open PySem PySem.Spec PyProof.Rows
end L2
namespace L2
open PySem PySem.Spec PyProof.Rows
section
variable {κ : Type} [DecidableEq κ]
noncomputable def valV (kvs : List (κ × V)) (k : κ) : Option V := (kvs.find? fun kv => decide (kv.1 = k)).map (·.2)
noncomputable def putK (kvs : List (κ × V)) (k : κ) (v : V) : List (κ × V) :=
  if (kvs.any fun kv => decide (kv.1 = k)) = true then kvs.map (fun kv => if kv.1 = k then (kv.1, v) else kv) else kvs ++ [(k, v)]
theorem valV_pos {p : κ × V} {r : List (κ × V)} {k : κ} (e : p.1 = k) : valV (p :: r) k = some p.2 := by simp [valV, List.find?_cons, e]
theorem valV_neg {p : κ × V} {r : List (κ × V)} {k : κ} (e : ¬ p.1 = k) : valV (p :: r) k = valV r k := by simp [valV, List.find?_cons, e]
theorem valV_any (k : κ) : ∀ kvs : List (κ × V), (kvs.any fun kv => decide (kv.1 = k)) = (valV kvs k).isSome
  | [] => rfl
  | p :: r => by
    rw [List.any_cons]
    by_cases e : p.1 = k
    · simp only [valV_pos e, decide_eq_true e, Bool.true_or, Option.isSome_some]
    · rw [valV_neg e, decide_eq_false e, Bool.false_or]; exact valV_any k r
theorem length_putK (kvs : List (κ × V)) (k : κ) (v : V) : (putK kvs k v).length ≤ kvs.length + 1 := by
  unfold putK
  split
  · rw [List.length_map]; lia
  · rw [List.length_append, List.length_cons, List.length_nil]; lia
theorem RelO.isSome_eq {o : Option V} {u : Option Value} (r : RelO o u) : o.isSome = u.isSome := by
  cases o with
  | none => cases u with
    | none => rfl
    | some _ => exact (show False from r).elim
  | some _ => cases u with
    | none => exact (show False from r).elim
    | some _ => rfl
theorem KV.val {kvs : List (κ × V)} {vs : List (κ × Value)} (r : KV kvs vs) (k : κ) : RelO (valV kvs k) (valueAt vs k) := by
  unfold KV at r
  induction r with
  | nil => exact True.intro
  | @cons p q ps qs h t ih =>
    obtain ⟨h1, h2⟩ := h
    by_cases e : p.1 = k
    · have e' : q.1 = k := h1.symm.trans e
      have b : valueAt (q :: qs) k = some q.2 := by simp [valueAt, List.find?_cons, e']
      rw [valV_pos e, b]; exact h2
    · have e' : ¬ q.1 = k := fun z => e (h1.trans z)
      have b : valueAt (q :: qs) k = valueAt qs k := by simp [valueAt, List.find?_cons, e']
      rw [valV_neg e, b]; exact ih
theorem KV.any {kvs : List (κ × V)} {vs : List (κ × Value)} (r : KV kvs vs) (k : κ) : (kvs.any fun kv => decide (kv.1 = k)) = vs.any fun kv => decide (kv.1 = k) := by
  unfold KV at r
  induction r with
  | nil => rfl
  | cons h t ih => rw [List.any_cons, List.any_cons, ih, h.1]
theorem KV.repl {kvs : List (κ × V)} {vs : List (κ × Value)} (r : KV kvs vs) (k : κ) {y : V} {u : Value} (ry : RelV y u) :
    KV (kvs.map fun kv => if kv.1 = k then (kv.1, y) else kv) (vs.map fun kv => if kv.1 = k then (kv.1, u) else kv) := by
  unfold KV at r ⊢
  induction r with
  | nil => exact .nil
  | @cons p q ps qs h t ih =>
    rw [List.map_cons, List.map_cons]
    refine .cons ?_ ih
    obtain ⟨h1, h2⟩ := h
    by_cases e : p.1 = k
    · rw [if_pos e, if_pos (h1.symm.trans e)]; exact ⟨h1, ry⟩
    · rw [if_neg e, if_neg (fun z => e (h1.trans z))]; exact ⟨h1, h2⟩
theorem KV.put {kvs : List (κ × V)} {vs : List (κ × Value)} (r : KV kvs vs) (k : κ) {y : V} {u : Value} (ry : RelV y u) : KV (putK kvs k y) (stored vs k u) := by
  unfold putK stored
  rw [r.any k]
  by_cases e : (vs.any fun kv => decide (kv.1 = k)) = true
  · rw [if_pos e, if_pos e]; exact r.repl k ry
  · rw [if_neg e, if_neg e]; exact Paired.snoc r ⟨rfl, ry⟩
theorem KV.length {kvs : List (κ × V)} {vs : List (κ × Value)} (r : KV kvs vs) : kvs.length = vs.length := Paired.length r
end
theorem kV_is {P : Program} {w : World} {k : Key} {u : Value} (r : RelV (kV k) u) : (mixKind P w).is k u = true := by
  cases k with
  | inl i => obtain ⟨t, e⟩ := (show ∃ t, u = Value.int i t from r); subst e; exact mixKind_int P w i t
  | inr x => obtain ⟨t, e⟩ := (show ∃ t, u = Value.str x t from r); subst e; exact mixKind_str P w x t
theorem items_are {P : Program} {w : World} : ∀ {ks : List Key} {us : List Value}, Vals (ks.map kV) us → ItemsAre (mixKind P w) ks us
  | [], _, r => by rw [List.map_nil] at r; cases r; exact .nil
  | k :: ks, _, r => by
    rw [List.map_cons] at r
    cases r with
    | cons h t => exact .cons (kV_is h) (items_are t)
noncomputable abbrev KT (H : Hp) : List (List Key × V) → List (List Key × Addr × Value) → Prop := Paired fun p q => p.1 = q.1 ∧ H q.2.1 = some (.tup (p.1.map kV)) ∧ RelV p.2 q.2.2
theorem KT.val {H : Hp} {kvs : List (List Key × V)} {xs : List (List Key × Addr × Value)} (r : KT H kvs xs) (k : List Key) : RelO (valV kvs k) ((atKey xs k).map (·.2)) := by
  induction r with
  | nil => exact True.intro
  | @cons p q ps qs h t ih =>
    refine Ea.a3 h fun h1 _ h2 => ?_; try clear h
    by_cases e : p.1 = k
    · have e' : q.1 = k := h1.symm.trans e
      have b : atKey (q :: qs) k = some q.2 := by simp [atKey, List.find?_cons, e']
      rw [valV_pos e, b]; exact h2
    · have e' : ¬ q.1 = k := fun z => e (h1.trans z)
      have b : atKey (q :: qs) k = atKey qs k := by simp [atKey, List.find?_cons, e']
      rw [valV_neg e, b]; exact ih
theorem KT.repl {H : Hp} {kvs : List (List Key × V)} {xs : List (List Key × Addr × Value)} (r : KT H kvs xs) (k : List Key) {y : V} {u : Value} (ry : RelV y u) :
    KT H (kvs.map fun kv => if kv.1 = k then (kv.1, y) else kv) (xs.map (putAt k u)) := by
  induction r with
  | nil => exact .nil
  | @cons p q ps qs h t ih =>
    rw [List.map_cons, List.map_cons]
    refine .cons ?_ ih
    refine Ea.a3 h fun h1 h2 h3 => ?_; try clear h
    unfold putAt
    by_cases e : p.1 = k
    · rw [if_pos e, if_pos (h1.symm.trans e)]; exact ⟨h1, h2, ry⟩
    · rw [if_neg e, if_neg (fun z => e (h1.trans z))]; exact ⟨h1, h2, h3⟩
theorem KT.put {H : Hp} {kvs : List (List Key × V)} {xs : List (List Key × Addr × Value)} (r : KT H kvs xs) (k : List Key) {b : Addr} {y : V} {u : Value} (hb : H b = some (.tup (k.map kV))) (ry : RelV y u) :
    KT H (putK kvs k y) (storedH xs k b u) := by
  have e : (kvs.any fun kv => decide (kv.1 = k)) = (atKey xs k).isSome := by
    rw [valV_any, (r.val k).isSome_eq, Option.isSome_map]
  unfold putK storedH
  rw [e]
  by_cases q : (atKey xs k).isSome = true
  · rw [if_pos q, if_pos q]; exact r.repl k ry
  · rw [if_neg q, if_neg q]; exact Paired.snoc r ⟨rfl, hb, ry⟩
theorem KT.keeps {H H' : Hp} {kvs : List (List Key × V)} {xs : List (List Key × Addr × Value)} (r : KT H kvs xs) (ht : ∀ b ys, H b = some (.tup ys) → H' b = some (.tup ys)) : KT H' kvs xs :=
  Paired.mapP r fun _ _ z => ⟨z.1, ht _ _ z.2.1, z.2.2⟩
section
variable {P : Program} {w : World} {H : Hp} {h : Heap} {a : Addr}
theorem rd_of {u : HO} (ok : HOk P w H h) (e : Rd H a u) : ObjOk P w H h a u := e.ok ok
theorem dk_rd {kvs : List (Key × V)} (ok : HOk P w H h) (e : Rd H a (.dK kvs)) : kvs.length ≤ sizeLine ∧ (a == sysModules) = false ∧ ∃ vs, KV kvs vs ∧ h.DictOf (mixKind P w) a vs :=
  show ObjOk P w H h a (.dK kvs) from rd_of ok e
theorem dk_of {kvs : List (Key × V)} (ok : HOk P w H h) (e : H a = some (.dK kvs)) : kvs.length ≤ sizeLine ∧ (a == sysModules) = false ∧ ∃ vs, KV kvs vs ∧ h.DictOf (mixKind P w) a vs := dk_rd ok (.inl e)
theorem key_of {ks : List Key} (ok : HOk P w H h) (e : H a = some (.tup (ks.map kV))) : (tupleKind (mixKind P w)).is h ks a := by
  obtain ⟨_, its, r, o, h1, h2, n, h3⟩ := (show ObjOk P w H h a (.tup (ks.map kV)) from ok a _ e)
  exact ⟨o, its.toArray, n, h1, h2, h3, by simpa using items_are r⟩
theorem dt_rd {kvs : List (List Key × V)} (ok : HOk P w H h) (e : Rd H a (.dT kvs)) : kvs.length ≤ sizeLine ∧ (a == sysModules) = false ∧
    ∃ xs, KT H kvs xs ∧ h.DictOfH (tupleKind (mixKind P w)) a xs := by
  obtain ⟨z, y, xs, r, o, es, ep, h1, h2, h3, h4, h5⟩ := (show ObjOk P w H h a (.dT kvs) from rd_of ok e)
  refine ⟨z, y, xs, r, o, es, ep, h1, h2, h3, h4, fun x hx => ?_, h5⟩
  have all : ∀ {l : List (List Key × V)} {m : List (List Key × Addr × Value)}, KT H l m → ∀ x ∈ m, (tupleKind (mixKind P w)).is h x.1 x.2.1 := by
    intro l m q
    induction q with
    | nil => intro x hx; exact nomatch hx
    | @cons p q ps qs hq t ih =>
      intro x hx
      rcases List.mem_cons.mp hx with e | hx
      · subst e
        exact key_of ok (by rw [← hq.1]; exact hq.2.1)
      · exact ih x hx
  exact all r x hx
theorem dt_of {kvs : List (List Key × V)} (ok : HOk P w H h) (e : H a = some (.dT kvs)) : kvs.length ≤ sizeLine ∧ (a == sysModules) = false ∧
    ∃ xs, KT H kvs xs ∧ h.DictOfH (tupleKind (mixKind P w)) a xs := dt_rd ok (.inl e)
end
noncomputable def DGet (H : Hp) (a : Addr) (y : V) (r : Option V) : Prop :=
  (∃ kvs k, Rd H a (.dK kvs) ∧ y = kV k ∧ r = valV kvs k) ∨ ∃ kvs k b, Rd H a (.dT kvs) ∧ y = .ref b ∧ H b = some (.tup (k.map kV)) ∧ r = valV kvs k
noncomputable def DPut (H : Hp) (a : Addr) (y v : V) (H' : Hp) : Prop :=
  (∃ kvs k, H a = some (.dK kvs) ∧ y = kV k ∧ kvs.length < sizeLine ∧ H' = upd H a (.dK (putK kvs k v))) ∨
  ∃ kvs k b, H a = some (.dT kvs) ∧ y = .ref b ∧ H b = some (.tup (k.map kV)) ∧ kvs.length < sizeLine ∧ H' = upd H a (.dT (putK kvs k v))
theorem DGet.k {H : Hp} {a : Addr} {kvs : List (Key × V)} {k : Key} (e : H a = some (.dK kvs)) : DGet H a (kV k) (valV kvs k) := .inl ⟨kvs, k, .inl e, rfl, rfl⟩
theorem DPut.k {H : Hp} {a : Addr} {kvs : List (Key × V)} {k : Key} {v : V} (e : H a = some (.dK kvs)) (hl : kvs.length < sizeLine) : DPut H a (kV k) v (upd H a (.dK (putK kvs k v))) := .inl ⟨kvs, k, e, rfl, hl, rfl⟩
section
variable {X : Cx} {pins : List (Addr × Obj)} {σ : St} {H : Hp} {s : Shared} {a : Addr} {y v : V} {u r : Value} {o : Option V} {A : Around} {E : Value → Shared → Prop}
theorem Inv.big (I : Inv X pins σ H s) : sysModules < s.heap.objs.size := by
  have h : mainGlobals < s.heap.objs.size := (I.mod.glob.keeps I.bk).lt
  exact Nat.lt_trans (by decide) h
theorem d_getItem {Q : Value → Shared → Prop} (hu : A.units + 1 < cLine) (I : Inv X pins σ H s) (g : DGet H a y (some v)) (ry : RelV y u) (h : ∀ w' s', Inv X pins σ H s' → RelV v w' → Q w' s') :
    wpAny (model X.prog X.w) A (getItem (.ref a) u) Q E s := by
  rcases g with ⟨kvs, k, e, ey, l⟩ | ⟨kvs, k, b, e, ey, eb, l⟩
  · subst ey
    obtain ⟨z, hd, vs, rel, dd⟩ := dk_rd I.hok e
    obtain ⟨w', hw, rw'⟩ := RelO.some_of (v := v) (o := valueAt vs k) (by rw [l]; exact rel.val k)
    exact wpAny_getItem_of (kV_is ry) dd.mapOf hw (h w' _ (I.tok _) rw')
  · subst ey
    cases (show u = Value.ref b from ry)
    obtain ⟨z, hd, xs, rel, dd⟩ := dt_rd I.hok e
    obtain ⟨w', hw, rw'⟩ := RelO.some_of (v := v) (o := (atKey xs k).map (·.2)) (by rw [l]; exact rel.val k)
    refine Ea.x1_2 (Option.map_eq_some_iff.mp hw) fun p hp hp2 => ?_
    refine wpAny_getItem_heap (tupleKind_room_in1 hu) (key_of I.hok eb) dd hp ?_
    rw [hp2]
    exact h w' _ (I.tok _) rw'
theorem d_in {Q : Value → Shared → Prop} (hu : A.units + 1 < cLine) (I : Inv X pins σ H s) (g : DGet H a y o) (ry : RelV y u) (h : ∀ s', Inv X pins σ H s' → Q (.bool o.isSome) s') :
    wpAny (model X.prog X.w) A (compareOp .In u (.ref a)) Q E s := by
  rcases g with ⟨kvs, k, e, ey, l⟩ | ⟨kvs, k, b, e, ey, eb, l⟩
  · subst ey
    obtain ⟨z, hd, vs, rel, dd⟩ := dk_rd I.hok e
    refine wpAny_in_of (kV_is ry) hd dd.mapOf ?_
    rw [← (rel.val k).isSome_eq, ← l]
    exact h _ (I.tok _)
  · subst ey
    cases (show u = Value.ref b from ry)
    obtain ⟨z, hd, xs, rel, dd⟩ := dt_rd I.hok e
    refine wpAny_in_heap (tupleKind_room_in1 hu) (key_of I.hok eb) hd dd ?_
    have q := (rel.val k).isSome_eq
    rw [Option.isSome_map] at q
    rw [← q, ← l]
    exact h _ (I.tok _)
theorem d_notIn {Q : Value → Shared → Prop} (hu : A.units + 1 < cLine) (I : Inv X pins σ H s) (g : DGet H a y o) (ry : RelV y u) (h : ∀ s', Inv X pins σ H s' → Q (.bool (!o.isSome)) s') :
    wpAny (model X.prog X.w) A (compareOp .NotIn u (.ref a)) Q E s := by
  rcases g with ⟨kvs, k, e, ey, l⟩ | ⟨kvs, k, b, e, ey, eb, l⟩
  · subst ey
    obtain ⟨z, hd, vs, rel, dd⟩ := dk_rd I.hok e
    refine wpAny_notIn_of (kV_is ry) hd dd.mapOf ?_
    rw [← (rel.val k).isSome_eq, ← l]
    exact h _ (I.tok _)
  · subst ey
    cases (show u = Value.ref b from ry)
    obtain ⟨z, hd, xs, rel, dd⟩ := dt_rd I.hok e
    refine wpAny_notIn_heap (tupleKind_room_in1 hu) (key_of I.hok eb) hd dd ?_
    have q := (rel.val k).isSome_eq
    rw [Option.isSome_map] at q
    rw [← q, ← l]
    exact h _ (I.tok _)
theorem d_write {h' : Heap} {t' : Nat} {ob : HO} (I : Inv X pins σ H s) (mu : Mut (H a)) (hs : Heap.SameBut a s.heap h') (he : ∃ q, h'.get? a = some q) (new : ObjOk X.prog X.w (upd H a ob) h' a ob) :
    Inv X pins σ (upd H a ob) { s with heap := h', toks := t' } :=
  I.write (x := a) (e := a) mu (.inl rfl) (fun b q hb z => (hs.2 b hb).trans z) he new
theorem dk_new {P : Program} {w : World} {H' : Hp} {h' : Heap} {kvs : List (Key × V)} {vs : List (Key × Value)} (z : kvs.length ≤ sizeLine) (hd : (a == sysModules) = false) (rel : KV kvs vs) (dd : h'.DictOf (mixKind P w) a vs) :
    ObjOk P w H' h' a (.dK kvs) := ⟨z, hd, vs, rel, dd⟩
theorem d_setItem {H' : Hp} {Q : Unit → Shared → Prop} (hu : A.units + 1 < cLine) (I : Inv X pins σ H s) (g : DPut H a y v H') (ry : RelV y u) (rv : RelV v r) (h : ∀ s', Inv X pins σ H' s' → Q () s') :
    wpAny (model X.prog X.w) A (setItem (.ref a) u r) Q E s := by
  rcases g with ⟨kvs, k, e, ey, l, eH⟩ | ⟨kvs, k, b, e, ey, eb, l, eH⟩
  · subst ey eH
    obtain ⟨z, hd, vs, rel, dd⟩ := dk_of I.hok e
    have hz : vs.length ≤ sizeLine := by rw [← rel.length]; exact z
    have hl : (putK kvs k v).length ≤ sizeLine := by have := length_putK kvs k v; lia
    refine wpAny_setItem_pairs (hsz := hz) (kV_is ry) dd fun h' dd' hs => h _ ?_
    have he : ∃ q, h'.get? a = some q := let ⟨q, _, _, hq, _⟩ := dd'; ⟨q, hq⟩
    exact d_write I (by rw [e]; exact True.intro) hs he (dk_new hl hd (rel.put k rv) dd')
  · subst ey eH
    cases (show u = Value.ref b from ry)
    obtain ⟨z, hd, xs, rel, dd⟩ := dt_of I.hok e
    have hz : xs.length ≤ sizeLine := by rw [← Paired.length rel]; exact z
    have hl : (putK kvs k v).length ≤ sizeLine := by have := length_putK kvs k v; lia
    refine wpAny_setItem_heap (hsz := hz) (tupleKind_room_in1 hu) (key_of I.hok eb) dd fun h' dd' hs => h _ ?_
    refine Ea.x3_6 dd' fun q es ep hq h2 h3 h4 _ h5 => ?_; try clear dd'
    refine d_write I (by rw [e]; exact True.intro) hs ⟨q, hq⟩ ⟨hl, hd, _, (rel.put k eb rv).keeps fun c ys ec => ?_, q, es, ep, hq, h2, h3, h4, h5⟩
    rw [upd_ne (ne_of ec e (fun z => nomatch z))]
    exact ec
end
noncomputable def NoSl (i : Expr) : Prop := ∀ ov iv, subscripted i false ov iv = operate [ov, iv] (getItem ov iv)
theorem subD_of {prog : Program} {w : World} {A : Around} {E : Value → Shared → Prop} {s : Shared} {env : Env} {value slice : Expr} {pos : Pos} {T id : String} {Q : Value → Shared → Prop}
    (hl : typeLookup (.type T) "__getitem__" = pure (some (.builtin id))) (hs : NoSl slice)
    (h : wpAny (model prog w) A (eval value env) (fun o s₁ => wpAny (model prog w) A (eval slice env) (fun i s₂ => s₂.TypeIs o T ∧ wpAny (model prog w) A (getItem o i) Q E s₂) E s₁) E s) :
    wpAny (model prog w) A (eval (.Subscript value slice pos) env) Q E s := by
  refine Subscript_ (wpAny_mono h (fun o s₁ h₁ => wpAny_mono h₁ (fun i s₂ h₂ => ?_) fun _ _ x => x) fun _ _ x => x)
  obtain ⟨hT, h₂⟩ := h₂
  unfold subscriptTail
  refine wpAny_bind ?_
  rw [getitemInPython_of_ne hT.not_modules]
  refine wpAny_bind (wpAny_specialOf hT hl ?_)
  have fin : wpAny (model prog w) A (subscripted slice false o i) (fun r s₃ => wpAny (model prog w) A (letTemporaryGo value o r >>= fun _ => pure r) Q E s₃) E s₂ := by
    rw [hs o i]
    exact wpAny_operating (wpAny_mono h₂ (fun r s₃ h₃ => wpAny_bind (wpAny_letTemporaryGo (wpAny_pure h₃))) fun _ _ x => x)
  first
    | exact wpAny_pure (wpAny_bind fin)
    | exact wpAny_bind (wpAny_pure (wpAny_bind fin))
    | exact wpAny_bind fin
theorem dict_typeIs {X : Cx} {pins : List (Addr × Obj)} {σ : St} {H : Hp} {s : Shared} {a : Addr} {y : V} {o : Option V} (I : Inv X pins σ H s) (g : DGet H a y o) : s.TypeIs (.ref a) "dict" := by
  rcases g with ⟨kvs, k, e, _, _⟩ | ⟨kvs, k, b, e, _, _, _⟩
  · obtain ⟨_, _, vs, _, dd⟩ := dk_rd I.hok e
    exact dd.typeIs
  · obtain ⟨_, _, xs, _, dd⟩ := dt_rd I.hok e
    exact dd.typeIs
noncomputable def tDGet (td ty : TE) : TE := fun σ H Q => td σ H fun x H1 => ty σ H1 fun y H2 => ∃ a v, x = .ref a ∧ DGet H2 a y (some v) ∧ Q v H2
noncomputable def tDIn (ty td : TE) : TE := fun σ H Q => ty σ H fun y H1 => td σ H1 fun x H2 => ∃ a o, x = .ref a ∧ DGet H2 a y o ∧ Q (.bl o.isSome) H2
noncomputable def tDNotIn (ty td : TE) : TE := fun σ H Q => ty σ H fun y H1 => td σ H1 fun x H2 => ∃ a o, x = .ref a ∧ DGet H2 a y o ∧ Q (.bl (!o.isSome)) H2
noncomputable def sDPut (td ty tv : TE) : TS := fun D σ H => tv σ H fun v H1 => td σ H1 fun x H2 => ty σ H2 fun y H3 => ∃ a H4, x = .ref a ∧ DPut H3 a y v H4 ∧ D.nx σ H4
section
variable {X : Cx} {o i e value : Expr} {pos pos' tpos : Pos} {td ty tv : TE}
theorem pe_dget (hu : X.A.units + 1 < cLine) (ho : PE X o td) (hi : PE X i ty) (hs : NoSl i) : PE X (.Subscript o i pos) (tDGet td ty) := by
  intro pins s σ H Q I h
  refine subD_of PySem.F.slot_dict_getitem.lookup hs (thn (ho pins s σ H _ I h) fun u s1 qz150 => Ea.x2_3 qz150 fun x H1 I1 rx q1 => thn (hi pins s1 σ H1 _ I1 q1) fun iv s2 qz151 => Ea.x2_3 qz151 fun y H2 I2 ry qz152 => ?_)
  refine Ea.x2_3 qz152 fun a v ex g q2 => ?_; try clear qz152
  subst ex
  obtain rfl : u = Value.ref a := rx
  exact ⟨dict_typeIs I2 g, d_getItem hu I2 g ry fun w' s3 I3 rw' => ⟨v, H2, I3, rw', q2⟩⟩
theorem pc_din (hu : X.A.units + 1 < cLine) (hi : PE X i ty) (ho : PE X o td) : PC X .In i o (tDIn ty td) := by
  intro pins s σ H Q I h
  refine thn (hi pins s σ H _ I h) fun iv s1 qz153 => Ea.x2_3 qz153 fun y H1 I1 ry q1 => thn (ho pins s1 σ H1 _ I1 q1) fun u s2 qz154 => Ea.x2_3 qz154 fun x H2 I2 rx qz155 => ?_
  refine Ea.x2_3 qz155 fun a ov ex g q2 => ?_; try clear qz155
  subst ex
  obtain rfl : u = Value.ref a := rx
  exact d_in hu I2 g ry fun s3 I3 => ⟨.bl ov.isSome, H2, I3, rfl, q2⟩
theorem pc_dnotin (hu : X.A.units + 1 < cLine) (hi : PE X i ty) (ho : PE X o td) : PC X .NotIn i o (tDNotIn ty td) := by
  intro pins s σ H Q I h
  refine thn (hi pins s σ H _ I h) fun iv s1 qz156 => Ea.x2_3 qz156 fun y H1 I1 ry q1 => thn (ho pins s1 σ H1 _ I1 q1) fun u s2 qz157 => Ea.x2_3 qz157 fun x H2 I2 rx qz158 => ?_
  refine Ea.x2_3 qz158 fun a ov ex g q2 => ?_; try clear qz158
  subst ex
  obtain rfl : u = Value.ref a := rx
  exact d_notIn hu I2 g ry fun s3 I3 => ⟨.bl (!ov.isSome), H2, I3, rfl, q2⟩
theorem ps_dput (hu : X.A.units + 1 < cLine) (ho : PE X o td) (hi : PE X i ty) (hv : PE X value tv) (hs : swapsWith value (some (.Subscript o i pos')) pos.line X.env = pure false) :
    PS X (.Assign [.Subscript o i pos'] value pos) (sDPut td ty tv) := by
  intro pins s σ H D I h
  refine wpAny_Assign_Subscript (thn (hv pins s σ H _ I h) fun r s1 qz159 => Ea.x2_3 qz159 fun v H1 I1 rv q1 => thn (ho pins s1 σ H1 _ I1 q1) fun u s2 qz160 => Ea.x2_3 qz160 fun x H2 I2 rx q2 => thn (hi pins s2 σ H2 _ I2 q2) fun iv s3 qz161 => Ea.x2_3 qz161 fun y H3 I3 ry qz162 => ?_) hs
  refine Ea.x2_3 qz162 fun a H4 ex g q3 => ?_; try clear qz162
  subst ex
  obtain rfl : u = Value.ref a := rx
  exact d_setItem hu I3 g ry rv fun s4 I4 => ⟨σ, H4, I4, q3⟩
end
theorem dk_empty {P : Program} {w : World} {H : Hp} (h : Heap) (hb : sysModules < h.objs.size) : ObjOk P w H (h.push { cls := .type "dict", data := .dict #[] }) h.objs.size (.dK []) :=
  ⟨Nat.zero_le _, beq_eq_false_iff_ne.mpr (Ne.symm (Nat.ne_of_lt hb)), [], .nil, Heap.DictOf.new h⟩
noncomputable def tDNewK : TE := fun _ H Q => ∀ p, H p = none → Q (.ref p) (upd H p (.dK []))
section
variable {X : Cx} {pos : Pos}
theorem pe_dnewK : PE X (.Dict [] [] pos) tDNewK := fun pins s σ H Q I h =>
  wpAny_Dict_empty ⟨.ref s.heap.objs.size, _, I.laid (a := s.heap.objs.size) (o := .dK []) (t' := s.toks) (fun _ _ q => Heap.get?_push_of_some _ q) (Nat.le_refl _) (dk_empty s.heap I.big), rfl, h _ (I.hok.fresh (Nat.le_refl _))⟩
end
end L2
namespace L2
open PySem PySem.Spec PyProof.Rows
end L2
namespace L2
open PySem PySem.Spec PyProof.Rows
section
variable {X : Cx} {pins : List (Addr × Obj)} {σ : St} {H : Hp} {s : Shared} {h' : Heap}
theorem Inv.turnedNew {t' : Nat} {ch : List Addr} {T : Addr} {ob : HO} (I : Inv X pins σ H s) (k : ∀ b o, b ∉ ch → s.heap.get? b = some o → h'.get? b = some o) (hf : ∀ b ∈ ch, FpOk X pins H b) (hT : s.heap.objs.size ≤ T)
    (new : ObjOk X.prog X.w (upd H T ob) h' T ob) : Inv X pins σ (upd H T ob) { s with heap := h', toks := t' } := by
  have hn : H T = none := I.hok.fresh hT
  have nit : ∀ b u, H b = some u → b ∉ ch := fun b u e z => by
    have q := (hf b z).1
    rw [q] at e; cases e
  refine I.step (g' := s.gens) (d' := s.drawn) (ch := ch) (fun b hb => ⟨(hf b hb).2.2.2.1, (hf b hb).2.1, (hf b hb).2.2.2.2.1, (hf b hb).2.2.2.2.2⟩) (fun b o _ _ hc e _ => k b o hc e) (fun b o _ _ hc e _ => ⟨o.slots, k b o hc e⟩)
    (fun b o _ e n => ?_) (fun b o hc e => ⟨o, k b o hc e⟩) (fun b xs e => ?_) (fun b o u e => ?_) (fun b ps e => ⟨#[], ?_⟩) (fun m hm => ?_) (fun b u e => ?_) I.bare
  · rw [upd_ne (Nat.ne_of_lt (Nat.lt_of_lt_of_le (Heap.lt_size e) hT))]; exact n
  · rw [upd_ne (ne_of_none e hn)]; exact e
  · rw [upd_ne (ne_of_none e hn)]; exact e
  · rw [upd_ne (ne_of_none e hn), e]; simp
  · refine Ea.x3_2 hm fun o es ep ho r => ?_; try clear hm
    exact ⟨o, es, ep, k _ o (fun z => (hf _ z).2.1 rfl) ho, r⟩
  · by_cases hb : b = T
    · subst hb
      rw [upd_same] at e
      cases e
      exact new
    · rw [upd_ne hb] at e
      refine (I.hok b u e).stay (fun c v hc q => k c v ?_ q) (fun c q => by rw [upd_ne (ne_of_none q hn)]; exact q) fun c xs q => by rw [upd_ne (ne_of_none q hn)]; exact q
      rcases hc with z | z
      · rw [z]; exact nit b u e
      · exact nit c _ z
end
theorem kv_get {κ : Type} {kvs : List (κ × V)} {vs : List (κ × Value)} (h : KV kvs vs) : ∀ {i : Nat} {k : κ} {v : V}, kvs[i]? = some (k, v) → ∃ u, vs[i]? = some (k, u) ∧ RelV v u := by
  unfold KV at h
  induction h with
  | nil => intro i k v e; simp at e
  | @cons a b l₁ l₂ r t ih =>
    intro i k v e
    cases i with
    | zero =>
      simp only [List.getElem?_cons_zero, Option.some.injEq] at e
      subst e
      refine ⟨b.2, ?_, r.2⟩
      simp only [List.getElem?_cons_zero]
      exact congrArg some (Prod.ext r.1.symm rfl)
    | succ j =>
      simp only [List.getElem?_cons_succ] at e ⊢
      exact ih e
theorem relV_key {k : Key} {u : Value} (h : keyIs k u = true) : RelV (kV k) u := by
  rcases keyIs_shape h with ⟨i, t, rfl, rfl⟩ | ⟨x, t, rfl, rfl⟩
  · exact ⟨t, rfl⟩
  · exact ⟨t, rfl⟩
noncomputable def Ite (K : PySem.W.Frag) (a : Addr) : It :=
  ⟨fun i H => ∃ (xs : List V) (x : V), SqL K H a xs ∧ xs[i]? = some x, fun i H v H' => ∃ T x, v = .ref T ∧ H T = none ∧ H' = upd H T (.tup [.int (i : Nat), x]) ∧ ∀ xs, SqL K H a xs → xs[i]? = some x, fun i H => ∃ xs : List V, SqL K H a xs ∧ xs.length ≤ i⟩
theorem turn_enum {P : Program} {w : World} {K : PySem.W.Frag} {elts : List Expr} {kk : Nat} {tpos : Pos} (a e it : Addr) :
    Turn P w K (.Tuple elts kk tpos) (Ite K a) [e, it] e (fun i h => (∃ old, IsEnum h e it ((i : Nat) : Int) old) ∧ h.IsListIter it a i ∧ e ≠ it) where
  mem := by simp
  obj := fun i h st b hb => by
    refine Ea.a3 st fun qz471 qz472 _ => ?_; try clear st; obtain ⟨old, he⟩ := qz471; obtain ⟨o, ho, hc, hd⟩ := qz472
    have e' : b = e ∨ b = it := by simpa using hb
    rcases e' with z | z
    · rw [z]; exact ⟨_, he, fun v q => nomatch q⟩
    · rw [z]; exact ⟨o, ho, fun v q => by rw [hd] at q; cases q⟩
  keep := fun i h h' st k => let ⟨⟨old, he⟩, hi, hne⟩ := st; ⟨⟨old, k e (by simp) _ he⟩, hi.at fun o q => k it (by simp) o q, hne⟩
  item := by
    intro X hP hw hK hc i pins s σ H E I hf st hg
    subst hP hw hK
    refine Ea.a3 st fun qz473 hit hne => ?_; try clear st; obtain ⟨old, he⟩ := qz473
    refine Ea.x2_2 hg fun xs x hq hx => ?_; try clear hg
    refine Ea.x1_3 (I.list hq) fun its rv p hz => ?_
    refine Ea.x1_2 (rv.get hx) fun u hu ru => ?_
    have hel : e < s.heap.objs.size := Heap.lt_size he
    have hil : it < s.heap.objs.size := by obtain ⟨_, q, _⟩ := hit; exact Heap.lt_size q
    refine wpAny_pyNext_enum_item he hit p.isList (x := u) (by simpa using hu) hne fun h' ho hit' hT hsz hk => ?_
    refine ⟨_, rfl, wpAny_letOwnedTupleGo_enum (s := { s with heap := h', toks := s.toks + 1 }) ho fun h'' he' sb => ?_⟩
    have hT2 : h''.get? s.heap.objs.size = some { cls := .type "tuple", data := .seq #[.int i s.toks, u] } := (sb.2 _ (Nat.ne_of_gt hel)).trans hT
    have new : ObjOk X.prog X.w (upd H s.heap.objs.size (.tup [.int (i : Nat), x])) h'' s.heap.objs.size (.tup [.int (i : Nat), x]) :=
      ⟨by show 2 ≤ sizeLine; decide, [.int i s.toks, u], .cons ⟨_, rfl⟩ (.cons ru .nil), ⟨_, hT2, rfl, _, rfl⟩⟩
    have I1 : Inv X pins σ (upd H s.heap.objs.size (.tup [.int (i : Nat), x])) { s with heap := h'', toks := s.toks + 1 } :=
      I.turnedNew (ch := [e, it]) (fun b ob hb q => (sb.2 b (fun z => hb (by simp [z]))).trans (hk b ob (fun z => hb (by simp [z])) (fun z => hb (by simp [z])) q)) hf (Nat.le_refl _) new
    refine ⟨.ref s.heap.objs.size, _, I1, rfl, ⟨_, x, rfl, I.hok.fresh (Nat.le_refl _), rfl, fun ys hy => by rw [I.list_inj hy hq]; exact hx⟩, ⟨⟨u, ?_⟩, hit'.at fun o q => (sb.2 it (Ne.symm hne)).trans q, hne⟩, fun b hb => ?_⟩
    · have e1 : ((i + 1 : Nat) : Int) = (i : Int) + 1 := by lia
      rw [e1]; exact he'
    · have hb' : b < s.heap.objs.size := by
        have e' : b = e ∨ b = it := by simpa using hb
        rcases e' with z | z
        · rw [z]; exact hel
        · rw [z]; exact hil
      rw [upd_ne (Nat.ne_of_lt hb')]
      exact (hf b hb).1
  done := by
    intro X hP hw hK hc i pins s σ H E I hf st hg
    subst hP hw hK
    refine Ea.a3 st fun qz474 hit hne => ?_; try clear st; obtain ⟨old, he⟩ := qz474
    refine Ea.x1_2 hg fun xs hq hx => ?_; try clear hg
    refine Ea.x1_3 (I.list hq) fun its rv p hz => ?_
    refine Ea.a6 (hf it (by simp)) fun f0 f1 f2 f3 f4 f5 => ?_
    have hl := rv.length
    exact wpAny_pyNext_enum_end (I.ok.hd hc) he hit p.isList (by simp; lia) fun h' eb => ⟨rfl, I.turned (t' := s.toks) (fun b o hb q => eb b o hb q) f0 f1 f3 f4 f5⟩
  self := fun A i s Q E st h => let ⟨⟨_, he⟩, _⟩ := st; wpAny_pyIter_enum he h
noncomputable def iEnum (K : PySem.W.Frag) (ta : TA) : TI := fun σ H R => ta σ H fun vs H1 => ∃ a xs, vs = [.ref a] ∧ SqL K H1 a xs ∧ R (Ite K a) H1
theorem pi_enum {X : Cx} {e : Expr} {ta : TA} {p pos tpos : Pos} {elts : List Expr} {kk : Nat} (hg : Gl X "enumerate") (hm : X.mg "enumerate" = none) (ha : PA X [e] ta) (hs : starEach [e] X.env = [(false, eval e X.env)] := by rfl) :
    PI X (.Tuple elts kk tpos) (.Call (.Name "enumerate" p) [e] [] pos) (iEnum X.K ta) := by
  intro pins s σ H R I h
  refine Call_ (ld_blt I hg hm boot_enumerate (PyProof.Rows.callWith_type1 (thn (ha pos pins s σ H _ I h) fun us s1 qz205 => Ea.x2_3 qz205 fun vs H1 I1 r1 q1 => ?_) hs rfl))
  refine Ea.x2_3 q1 fun a xs ex hq q => ?_; try clear q1
  subst ex
  cases r1 with
  | cons r rr =>
    cases rr
    cases r
    refine Ea.x1_3 (I1.list hq) fun its rv p' hz => ?_
    refine call_enumerate_list p'.isList fun h' he hit hsz hk => wpAny_pyIter_enum he ?_
    have I2 : Inv X pins σ H1 { s1 with heap := h' } := I1.kept (t' := s1.toks) hk
    refine ⟨s1.heap.objs.size + 1, [s1.heap.objs.size + 1, s1.heap.objs.size], _, _, H1, rfl, I2, turn_enum a (s1.heap.objs.size + 1) s1.heap.objs.size, ⟨⟨.none, he⟩, hit, Nat.succ_ne_self _⟩, fun b hb => ?_, q⟩
    have e' : b = s1.heap.objs.size + 1 ∨ b = s1.heap.objs.size := by simpa using hb
    have hle : s1.heap.objs.size ≤ b := by
      rcases e' with z | z
      · rw [z]; exact Nat.le_add_right _ _
      · rw [z]; exact Nat.le_refl _
    exact I1.fpOk hle (I1.hok.fresh hle)
end L2
section
namespace Bits
open PySem PyProof.Rows
theorem bitAnd_mask {x : Int} (k : Nat) (hx : 0 ≤ x) : Builtin.bitAnd x (2 ^ k - 1) = x % 2 ^ k := by
  obtain ⟨n, rfl⟩ := Int.eq_ofNat_of_zero_le hx
  have hp : 0 < 2 ^ k := Nat.two_pow_pos k
  rw [two_pow_cast]
  have e : ((2 ^ k : Nat) : Int) - 1 = ((2 ^ k - 1 : Nat) : Int) := by
    generalize (2 : Nat) ^ k = m at hp
    lia
  rw [e, bitAnd_pp (by lia) (by lia), Int.toNat_natCast, Int.toNat_natCast, Nat.and_two_pow_sub_one_eq_mod]
  first
    | rfl
    | exact Int.natCast_emod _ _
    | simp
theorem nat_xor_add_and (m : Nat) : ∀ n : Nat, (m ^^^ n) + 2 * (m &&& n) = m + n := by
  induction m using Nat.strongRecOn with
  | _ m ih =>
    intro n
    by_cases h0 : m = 0
    · subst h0
      simp
    · have ih' := ih (m / 2) (by lia) (n / 2)
      rw [← Nat.xor_div_two, ← Nat.and_div_two] at ih'
      have o1 := @Nat.xor_mod_two_eq_one m n
      have a1 := @Nat.and_mod_two_eq_one m n
      lia
theorem bitXor_pp {x y : Int} (hx : 0 ≤ x) (hy : 0 ≤ y) : Builtin.bitXor x y = ((x.toNat ^^^ y.toNat : Nat) : Int) := by
  have e := nat_xor_add_and x.toNat y.toNat
  rw [bitXor_and, bitAnd_pp hx hy]
  lia
end Bits
end
section
namespace TL
open PySem PySem.Builtin PySem.Builtin.Str PySem.StrLaws
end TL
end
namespace L2
open PySem PySem.Spec PyProof.Rows
end L2
namespace L2
open PySem PySem.Spec PyProof.Rows
end L2
namespace Att
open PySem PySem.W PySem.Calls PyProof.Rows
end Att
namespace L2
open PySem PySem.Spec PyProof.Rows
end L2
namespace L2
open PySem PySem.Spec PyProof.Rows
end L2
namespace L2
open PySem PySem.Spec PyProof.Rows
noncomputable def inClass (s : Stmt) (j : Nat) : Stmt := match s with
  | .ClassDef _ _ _ body _ _ _ _ _ _ _ => body.getD j (.Pass ⟨0, 0, 0, 0⟩)
  | _ => .Pass ⟨0, 0, 0, 0⟩
noncomputable def defArgs (s : Stmt) : Arguments := match s with
  | .FunctionDef _ a _ _ _ _ _ _ _ _ => a
  | _ => { posonlyargs := [], args := [], vararg := none, kwonlyargs := [], kw_defaults := [], kwarg := none, defaults := [] }
noncomputable def defBody (s : Stmt) : List Stmt := match s with
  | .FunctionDef _ _ b _ _ _ _ _ _ _ => b
  | _ => []
noncomputable def defScope (s : Stmt) : Scope := match s with
  | .FunctionDef _ _ _ _ _ _ sc _ _ _ => sc
  | _ => { kind := .function, names := [], isGenerator := false, isCoroutine := false }
noncomputable abbrev CX0 : CXT := fun _ _ _ _ _ _ => False
noncomputable abbrev E0 : XK := fun _ _ _ => False
theorem pass0 {X : Cx} : Passes CX0 X E0 := fun _ _ _ _ _ _ _ h => h.elim
structure Fun (K : PySem.W.Frag) (x qual : Str) (st : Stmt) (f : Addr) (fd : FuncData) : Prop where
  ex : ∃ (oc : Value) (od : Option Addr) (kV doc pm : Value) (an : Option Addr) (cdv ct : Value) (osl : Array (Option Value)),
    fd = PySem.W.fnOf x qual (defArgs st) (defBody st) (defScope st) .none kV doc pm an cdv ct ∧ K.lookup f = some ⟨oc, od, .func fd, osl⟩ ∧ PySem.W.codeIn K cdv qual = true
  kp : PySem.W.keepIn K (.ref f) = true
section
variable {P : Program} {w : World} {K : PySem.W.Frag} {mg : Str → Option Value} {base : Heap}
theorem Fun.ok {x qual : Str} {st : Stmt} {f : Addr} {fd : FuncData} {N ps : List Str} {k : Nat} {sp : Sp} (F : Fun K x qual st f fd) (S : FnScope N ps (defScope st)) (len : ∀ vs H Q E, sp vs H Q E → vs.length = ps.length)
    (hbody : ∀ (cdv : Value) (A : Around) (outer : List Env) (s : Shared) (H : Hp) (vs : List V) (Q : VK) (E : XK), Room k (A.deeper (envOfC qual (defScope st) s.heap.objs.size f cdv)) → sp vs H Q E →
      ∃ t, PSs (cxOf CX0 P w K mg base N qual (defScope st) f cdv A outer s H E).nox (defBody st) t ∧ t { nx := fun _ H' => Q .non H', rt := Q } (start N vs) H) : FnOk P w K mg base CX0 (k + 1) f fd ps sp := by
  refine Ea.x9_3 F.ex fun oc od kV doc pm an cdv ct osl qz533 lk hcd => ?_; subst qz533
  refine fn_of lk hcd S len fun A outer s H vs Q E hr hsp => ?_
  refine Ea.x1_2 (hbody cdv A outer s H vs Q E hr hsp) fun t h q => ?_
  exact ⟨t, h.nox, q⟩
theorem Fun.binds {x qual : Str} {st : Stmt} {f : Addr} {fd : FuncData} {ps : List Str} (F : Fun K x qual st f fd)
    (h : ∀ (kV doc pm : Value) (an : Option Addr) (cdv ct : Value) (us : List Value), us.length = ps.length → bindArgs (PySem.W.fnOf x qual (defArgs st) (defBody st) (defScope st) .none kV doc pm an cdv ct) ⟨us, []⟩ = pure (ps.zip us)) : Binds K fd ps [] := by
  refine Ea.x9_3 F.ex fun oc od kV doc pm an cdv ct osl qz535 lk hcd => ?_; subst qz535
  exact .all (h kV doc pm an cdv ct)
theorem fun_mk {x qual : Str} {st : Stmt} {f : Addr} {oc : Value} {od an : Option Addr} {osl : Array (Option Value)} {kV doc pm cdv ct : Value} (l : K.lookup f = some ⟨oc, od, .func (PySem.W.fnOf x qual (defArgs st) (defBody st) (defScope st) .none kV doc pm an cdv ct), osl⟩)
    (c : PySem.W.codeIn K cdv qual = true) (k : PySem.W.keepIn K (.ref f) = true) : Fun K x qual st f (PySem.W.fnOf x qual (defArgs st) (defBody st) (defScope st) .none kV doc pm an cdv ct) := ⟨⟨oc, od, kV, doc, pm, an, cdv, ct, osl, rfl, l, c⟩, k⟩
end
theorem hu_of {A : Around} {k : Nat} (hr : Room k A) : A.units + 1 < cLine := Nat.lt_of_le_of_lt (Nat.add_le_add_left (by decide : 1 ≤ 64) _) hr.units
section
variable {X : Cx}
theorem pv (i : Nat) {x : Str} {pos : Pos} (hN : X.N[i]? = some x := by rfl) (hv : Vis X.env.scope x := by first | left; rfl | right; left; rfl | right; right; rfl) (hd : (x == ("__debug__" : Str)) = false := by decide)
    (hcd : (x == ("__classdict__" : Str)) = false := by decide) : PE X (.Name x pos) (tVar i) := pe_var hN hv hd hcd
end
theorem iteF {A B : Prop} (h : B) : if false = true then A else B := by
  rw [if_neg Bool.false_ne_true]
  exact h
theorem iteT {A B : Prop} (h : A) : if true = true then A else B := by
  rw [if_pos rfl]
  exact h
noncomputable def Same (H H' : Hp) : Prop := ∀ b o, H b = some o → H' b = some o
theorem Same.free {H H' : Hp} (e : Same H H') {l : Addr} (h : H' l = Option.none) : H l = Option.none := by
  cases q : H l with
  | none => rfl
  | some o =>
    rw [e l o q] at h
    cases h
theorem at_of {xs : List V} {z : Int} {j : Nat} {v : V} (e : z = (j : Int)) (h : xs[j]? = some v) : atI xs z = some v := by
  rw [e]
  exact atI_nat h
theorem nd_ix {α : Type} {l : List α} (hN : l.Nodup) {i j : Nat} {x : α} (a : l[i]? = some x) (b : l[j]? = some x) : i = j := by
  obtain ⟨h1, e1⟩ := List.getElem?_eq_some_iff.mp a
  obtain ⟨h2, e2⟩ := List.getElem?_eq_some_iff.mp b
  exact (List.getElem_inj hN).mp (e1.trans e2.symm)
end L2
section
set_option maxRecDepth 100000
set_option maxHeartbeats 2000000
namespace L2
open PySem PySem.Spec PyProof.Rows
open PySem.W (WData Codec OpenSpec Well WellAll ReadsW ReadsAllW)
mutual
inductive Dw (K : PySem.W.Frag) (H : Hp) : V → WData → Prop
  | non : Dw K H .non .none
  | bl (b : Bool) : Dw K H (.bl b) (.bool b)
  | int (i : Int) : Dw K H (.int i) (.int i)
  | str (x : Str) : Dw K H (.str x) (.str x)
  | byt (b : Array UInt8) : Dw K H (.byt b) (.bytes b.toList)
  | lst {a : Addr} {xs : List V} {ds : List WData} : SqL K H a xs → DwAll K H xs ds → Dw K H (.ref a) (.list ds)
  | tup {a : Addr} {xs : List V} {ds : List WData} : SqT K H a xs → DwAll K H xs ds → Dw K H (.ref a) (.tuple ds)
inductive DwAll (K : PySem.W.Frag) (H : Hp) : List V → List WData → Prop
  | nil : DwAll K H [] []
  | cons {v : V} {vs : List V} {d : WData} {ds : List WData} : Dw K H v d → DwAll K H vs ds → DwAll K H (v :: vs) (d :: ds)
end
theorem dw_ints {K : PySem.W.Frag} {H : Hp} : ∀ ns : List Int, DwAll K H (ns.map V.int) (ns.map WData.int)
  | [] => .nil
  | n :: r => .cons (.int n) (dw_ints r)
theorem ints_dw {K : PySem.W.Frag} {H : Hp} : ∀ (ns : List Int) (xs : List V), DwAll K H xs (ns.map WData.int) → xs = ns.map V.int
  | [], xs, h => by
    cases h
    rfl
  | n :: r, xs, h => by
    cases h with
    | cons h1 h2 =>
      cases h1
      rw [ints_dw r _ h2] <;> rfl
section
variable {P : Program} {w : World} {K : PySem.W.Frag} {H : Hp} {h : Heap} {R : PySem.W.WRecords} {cl : Str → Option Addr}
theorem sqL_at {a : Addr} {xs : List V} (hok : HOk P w H h) (KX : K.In h) (q : SqL K H a xs) : ∃ (its : List Value) (o : Obj) (n : Nat), Vals xs its ∧ h.get? a = some o ∧ o.cls = .type "list" ∧ o.data = .seq its.toArray n := by
  rcases q with q | ⟨o, its, n, e, hc, _, hd, _, hv⟩
  · obtain ⟨_, its, n, hv, e⟩ := (show ObjOk P w H h a (.lst xs) from q.ok hok)
    exact ⟨its, _, n, hv, e, rfl, rfl⟩
  · exact ⟨its.toList, o, n, hv, KX _ _ e, hc, by simp [hd]⟩
theorem sqT_at {a : Addr} {xs : List V} (hok : HOk P w H h) (KX : K.In h) (q : SqT K H a xs) : ∃ (its : List Value) (o : Obj) (n : Nat), Vals xs its ∧ h.get? a = some o ∧ o.cls = .type "tuple" ∧ o.data = .seq its.toArray n := by
  rcases q with q | ⟨o, its, n, e, hc, hd, _, hv⟩
  · obtain ⟨_, its, hv, o, e, hc, n, hd⟩ := (show ObjOk P w H h a (.tup xs) from q.ok hok)
    exact ⟨its, o, n, hv, e, hc, hd⟩
  · exact ⟨its.toList, o, n, hv, KX _ _ e, hc, by simp [hd]⟩
mutual
theorem Dw.reads (hok : HOk P w H h) (KX : K.In h) : ∀ (d : WData) (v : V) (u : Value), Dw K H v d → RelV v u → ∃ as, ReadsW R cl h u d as
  | .none, _, _, x, r => by
    cases x
    cases r
    exact ⟨_, ReadsW.none⟩
  | .bool b, _, _, x, r => by
    cases x
    cases r
    exact ⟨_, ReadsW.bool b⟩
  | .int i, _, _, x, r => by
    cases x
    obtain ⟨t, rfl⟩ := r
    exact ⟨_, ReadsW.int i t⟩
  | .str s, _, _, x, r => by
    cases x
    obtain ⟨t, rfl⟩ := r
    exact ⟨_, ReadsW.str s t⟩
  | .bytes b, _, _, x, r => by
    cases x
    obtain ⟨t, rfl⟩ := r
    exact ⟨_, ReadsW.bytes _ t⟩
  | .list ds, _, _, x, r => by
    cases x with
    | lst hs ha =>
      cases r
      refine Ea.x3_4 (sqL_at hok KX hs) fun its o n rv ho hc hd => ?_
      obtain ⟨as, hr⟩ := Dw.readsAll hok KX ds _ its ha rv
      exact ⟨_, ReadsW.list ho hc hd hr⟩
  | .tuple ds, _, _, x, r => by
    cases x with
    | tup hs ha =>
      cases r
      refine Ea.x3_4 (sqT_at hok KX hs) fun its o n rv ho hc hd => ?_
      obtain ⟨as, hr⟩ := Dw.readsAll hok KX ds _ its ha rv
      exact ⟨_, ReadsW.tuple ho hc hd hr⟩
  | .float _, _, _, x, _ => by cases x
  | .dict _, _, _, x, _ => by cases x
  | .bytearray _, _, _, x, _ => by cases x
  | .set _, _, _, x, _ => by cases x
  | .frozenset _, _, _, x, _ => by cases x
  | .obj _ _, _, _, x, _ => by cases x
theorem Dw.readsAll (hok : HOk P w H h) (KX : K.In h) : ∀ (ds : List WData) (vs : List V) (us : List Value), DwAll K H vs ds → Vals vs us → ∃ as, ReadsAllW R cl h us ds as
  | [], _, _, x, r => by
    cases x
    cases r
    exact ⟨_, ReadsAllW.nil⟩
  | d :: ds, _, _, x, r => by
    cases x with
    | cons h1 h2 =>
      cases r with
      | cons r1 r2 =>
        obtain ⟨as, q1⟩ := Dw.reads hok KX d _ _ h1 r1
        obtain ⟨bs, q2⟩ := Dw.readsAll hok KX ds _ _ h2 r2
        exact ⟨_, ReadsAllW.cons q1 q2⟩
end
end
mutual
noncomputable def plW : WData → Bool
  | .none => true
  | .bool _ => true
  | .int _ => true
  | .str _ => true
  | .bytes _ => true
  | .list xs => plWs xs
  | .tuple xs => plWs xs
  | _ => false
noncomputable def plWs : List WData → Bool
  | [] => true
  | x :: r => plW x && plWs r
end
theorem plWs_map {α : Type} {f : α → WData} (h : ∀ a, plW (f a) = true) : ∀ l : List α, plWs (l.map f) = true
  | [] => rfl
  | x :: r => by
    show (plW (f x) && plWs (r.map f)) = true
    rw [h x, plWs_map h r] <;> rfl
theorem pl_enc : ∀ (c : Codec) (a : c.denote), plW (c.enc a) = true
  | .unit, _ => rfl
  | .bool, _ => rfl
  | .int _ _, _ => rfl
  | .nat _ _, _ => rfl
  | .u8, _ => rfl
  | .bytes _ _, _ => rfl
  | .text _ _ _ _, _ => rfl
  | .list _ _ c, a => plWs_map (fun x => pl_enc c x) a
  | .pair c d, a => by
    show (plW (c.enc a.1) && (plW (d.enc a.2) && true)) = true
    rw [pl_enc c a.1, pl_enc d a.2] <;> rfl
  | .triple c d e, a => by
    show (plW (c.enc a.1) && (plW (d.enc a.2.1) && (plW (e.enc a.2.2) && true))) = true
    rw [pl_enc c a.1, pl_enc d a.2.1, pl_enc e a.2.2] <;> rfl
  | .option c, none => rfl
  | .option c, some x => pl_enc c x
theorem pl_encAll : ∀ (cs : List Codec) (a : Codec.denoteAll cs), plWs (Codec.encAll cs a) = true
  | [], _ => rfl
  | c :: cs, a => by
    show (plW (c.enc a.1) && plWs (Codec.encAll cs a.2)) = true
    rw [pl_enc c a.1, pl_encAll cs a.2] <;> rfl
theorem weight_mem : ∀ {xs : List WData} {d : WData}, d ∈ xs → d.weight ≤ WData.weightAll xs
  | [], d, h => absurd h (by simp)
  | x :: r, d, h => by
    show d.weight ≤ x.weight + 1 + WData.weightAll r
    rcases List.mem_cons.mp h with e | m
    · rw [e]
      lia
    · have z := weight_mem m
      lia
noncomputable def toV : Value → V
  | .none => .non
  | .bool b => .bl b
  | .int i _ => .int i
  | .str x _ => .str x
  | .bytes b _ => .byt b
  | .ref a => .ref a
  | _ => .non
noncomputable def OkU (A : List Addr) : Value → Prop
  | .none => True
  | .bool _ => True
  | .int _ _ => True
  | .str _ _ => True
  | .bytes _ _ => True
  | .ref a => a ∈ A
  | _ => False
theorem OkU.mono {A B : List Addr} (h : ∀ a ∈ A, a ∈ B) : ∀ {u : Value}, OkU A u → OkU B u := fun {u} x => by
  cases u with
  | ref a => exact h a x
  | none => trivial
  | bool b => trivial
  | int i t => trivial
  | str s t => trivial
  | bytes b t => trivial
  | _ => exact False.elim x
theorem relV_toV {A : List Addr} {u : Value} (x : OkU A u) : RelV (toV u) u := by
  cases u with
  | ref a => rfl
  | none => rfl
  | bool b => rfl
  | int i t => exact ⟨t, rfl⟩
  | str s t => exact ⟨t, rfl⟩
  | bytes b t => exact ⟨t, rfl⟩
  | _ => exact False.elim x
theorem vals_toV {A : List Addr} : ∀ {vs : List Value}, (∀ u ∈ vs, OkU A u) → Vals (vs.map toV) vs
  | [], _ => .nil
  | u :: r, h => .cons (relV_toV (h u (List.mem_cons_self ..))) (vals_toV fun x hx => h x (List.mem_cons_of_mem _ hx))
noncomputable def ArgOb (h : Heap) (A : List Addr) (a : Addr) : Prop := ∃ vs : List Value, vs.length ≤ sizeLine ∧ (∀ u ∈ vs, OkU A u) ∧
  (h.get? a = some { cls := .type "list", data := .seq vs.toArray } ∨ h.get? a = some { cls := .type "tuple", data := .seq vs.toArray })
theorem ArgOb.mono {h : Heap} {A B : List Addr} {a : Addr} (k : ∀ a ∈ A, a ∈ B) (x : ArgOb h A a) : ArgOb h B a := by
  refine Ea.x1_3 x fun vs h1 h2 h3 => ?_; try clear x
  exact ⟨vs, h1, fun u hu => (h2 u hu).mono k, h3⟩
theorem wellAll_len {P : Params} {h : Heap} {vs : List Value} {ds : List WData} (x : WellAll P h vs ds) : vs.length = ds.length := by
  induction ds generalizing vs with
  | nil => cases x; rfl
  | cons d ds ih => cases x with | cons _ b => exact congrArg Nat.succ (ih b)
theorem well_list {P : Params} {h : Heap} {v : Value} {ds : List WData} (x : Well P h v (.list ds)) : ∃ (a : Addr) (vs : List Value), v = .ref a ∧ h.get? a = some { cls := .type "list", data := .seq vs.toArray } ∧ WellAll P h vs ds := by
  cases x with
  | list ho hall => exact ⟨_, _, rfl, ho, hall⟩
theorem well_tuple {P : Params} {h : Heap} {v : Value} {ds : List WData} (x : Well P h v (.tuple ds)) : ∃ (a : Addr) (vs : List Value), v = .ref a ∧ h.get? a = some { cls := .type "tuple", data := .seq vs.toArray } ∧ WellAll P h vs ds := by
  cases x with
  | tuple ho hall => exact ⟨_, _, rfl, ho, hall⟩
theorem well_cons {P : Params} {h : Heap} {us : List Value} {d : WData} {ds : List WData} (x : WellAll P h us (d :: ds)) : ∃ (v : Value) (vs : List Value), us = v :: vs ∧ Well P h v d ∧ WellAll P h vs ds := by
  cases x with
  | cons a b => exact ⟨_, _, rfl, a, b⟩
theorem line_of {n : Nat} (h : n ≤ 1048576) : n ≤ sizeLine := Nat.le_trans h (by decide)
section
variable {P : Params} {h : Heap}
mutual
theorem area_one : ∀ (d : WData) (v : Value), Well P h v d → plW d = true → d.weight ≤ 1048576 → ∃ A : List Addr, OkU A v ∧ ∀ a ∈ A, ArgOb h A a
  | .none, _, x, _, _ => by
    cases x
    exact ⟨[], trivial, fun a m => absurd m (by simp)⟩
  | .bool b, _, x, _, _ => by
    cases x
    exact ⟨[], trivial, fun a m => absurd m (by simp)⟩
  | .int i, _, x, _, _ => by
    cases x
    exact ⟨[], trivial, fun a m => absurd m (by simp)⟩
  | .str s, _, x, _, _ => by
    cases x
    exact ⟨[], trivial, fun a m => absurd m (by simp)⟩
  | .bytes b, _, x, _, _ => by
    cases x
    exact ⟨[], trivial, fun a m => absurd m (by simp)⟩
  | .list ds, _, x, p, z => by
    refine Ea.x2_3 (well_list x) fun a vs qz541 ho hall => ?_; subst qz541
    have z2 : WData.weightAll ds ≤ 1048576 := z
    refine Ea.x1_2 (area_all ds _ hall p fun d hd => Nat.le_trans (weight_mem hd) z2) fun A h1 h2 => ?_
    have k : ∀ b ∈ A, b ∈ a :: A := fun b hb => List.mem_cons_of_mem _ hb
    refine ⟨a :: A, List.mem_cons_self .., fun b hb => ?_⟩
    rcases List.mem_cons.mp hb with e | m
    · rw [e]
      exact ⟨vs, line_of (by rw [wellAll_len hall]; exact Nat.le_trans (PySem.W.length_le_weightAllW ds) z2), fun u hu => (h1 u hu).mono k, .inl ho⟩
    · exact (h2 b m).mono k
  | .tuple ds, _, x, p, z => by
    refine Ea.x2_3 (well_tuple x) fun a vs qz542 ho hall => ?_; subst qz542
    have z2 : WData.weightAll ds ≤ 1048576 := z
    refine Ea.x1_2 (area_all ds _ hall p fun d hd => Nat.le_trans (weight_mem hd) z2) fun A h1 h2 => ?_
    have k : ∀ b ∈ A, b ∈ a :: A := fun b hb => List.mem_cons_of_mem _ hb
    refine ⟨a :: A, List.mem_cons_self .., fun b hb => ?_⟩
    rcases List.mem_cons.mp hb with e | m
    · rw [e]
      exact ⟨vs, line_of (by rw [wellAll_len hall]; exact Nat.le_trans (PySem.W.length_le_weightAllW ds) z2), fun u hu => (h1 u hu).mono k, .inr ho⟩
    · exact (h2 b m).mono k
  | .float _, _, _, p, _ => Bool.noConfusion (show false = true from p)
  | .dict _, _, _, p, _ => Bool.noConfusion (show false = true from p)
  | .bytearray _, _, _, p, _ => Bool.noConfusion (show false = true from p)
  | .set _, _, _, p, _ => Bool.noConfusion (show false = true from p)
  | .frozenset _, _, _, p, _ => Bool.noConfusion (show false = true from p)
  | .obj _ _, _, _, p, _ => Bool.noConfusion (show false = true from p)
theorem area_all : ∀ (ds : List WData) (vs : List Value), WellAll P h vs ds → plWs ds = true → (∀ d ∈ ds, d.weight ≤ 1048576) → ∃ A : List Addr, (∀ u ∈ vs, OkU A u) ∧ ∀ a ∈ A, ArgOb h A a
  | [], _, x, _, _ => by
    cases x
    exact ⟨[], fun u m => absurd m (by simp), fun a m => absurd m (by simp)⟩
  | d :: ds, _, x, p, z => by
    refine Ea.x2_3 (well_cons x) fun v vs qz543 x1 x2 => ?_; subst qz543
    have q : plW d = true ∧ plWs ds = true := Bool.and_eq_true_iff.mp p
    refine Ea.x1_2 (area_one d v x1 q.1 (z d (List.mem_cons_self ..))) fun A a1 a2 => ?_
    refine Ea.x1_2 (area_all ds vs x2 q.2 fun e he => z e (List.mem_cons_of_mem _ he)) fun B b1 b2 => ?_
    have kA : ∀ b ∈ A, b ∈ A ++ B := fun b hb => List.mem_append.mpr (.inl hb)
    have kB : ∀ b ∈ B, b ∈ A ++ B := fun b hb => List.mem_append.mpr (.inr hb)
    refine ⟨A ++ B, fun u hu => ?_, fun b hb => ?_⟩
    · rcases List.mem_cons.mp hu with e | m
      · rw [e]
        exact a1.mono kA
      · exact (b1 u m).mono kB
    · rcases List.mem_append.mp hb with m | m
      · exact (a2 b m).mono kA
      · exact (b2 b m).mono kB
end
end
noncomputable def hoOf (o : Obj) : Option HO := match o.data with
  | .seq vs _ => if (o.cls == Value.type "list") = true then some (.frz o (.lst (vs.toList.map toV))) else some (.frz o (.tup (vs.toList.map toV)))
  | _ => none
noncomputable def argH (K : PySem.W.Frag) (h : Heap) (A : List Addr) : Hp := fun b => if b ∈ A then (if (K.lookup b).isNone = true then (h.get? b).bind hoOf else none) else none
noncomputable def OnlyF (H : Hp) : Prop := ∀ b, H b = none ∨ ∃ o u, H b = some (.frz o u)
theorem hoOf_lst (vs : List Value) : hoOf { cls := .type "list", data := .seq vs.toArray } = some (.frz { cls := .type "list", data := .seq vs.toArray } (.lst (vs.map toV))) := by
  show (if (Value.type "list" == Value.type "list") = true then some (HO.frz { cls := .type "list", data := .seq vs.toArray } (.lst (vs.toArray.toList.map toV))) else some (HO.frz { cls := .type "list", data := .seq vs.toArray } (.tup (vs.toArray.toList.map toV)))) = _
  rw [if_pos (beq_self_eq_true _)]
theorem hoOf_tup (vs : List Value) : hoOf { cls := .type "tuple", data := .seq vs.toArray } = some (.frz { cls := .type "tuple", data := .seq vs.toArray } (.tup (vs.map toV))) := by
  show (if (Value.type "tuple" == Value.type "list") = true then some (HO.frz { cls := .type "tuple", data := .seq vs.toArray } (.lst (vs.toArray.toList.map toV))) else some (HO.frz { cls := .type "tuple", data := .seq vs.toArray } (.tup (vs.toArray.toList.map toV)))) = _
  rw [if_neg (by decide)]
section
variable {P : Program} {w : World} {K : PySem.W.Frag} {h : Heap} {A : List Addr}
theorem argH_at {b : Addr} {o : Obj} (hb : b ∈ A) (hk : K.lookup b = none) (e : h.get? b = some o) : argH K h A b = hoOf o := by
  unfold argH
  rw [if_pos hb, hk, if_pos (show (none : Option Obj).isNone = true from rfl), e] <;> rfl
theorem of_argH {b : Addr} {u : HO} (q : argH K h A b = some u) : b ∈ A ∧ K.lookup b = none := by
  unfold argH at q
  by_cases hb : b ∈ A
  · rw [if_pos hb] at q
    cases hk : K.lookup b with
    | none => exact ⟨hb, rfl⟩
    | some o =>
      rw [hk, if_neg (by simp)] at q
      cases q
  · rw [if_neg hb] at q
    cases q
theorem argH_is (ar : ∀ a ∈ A, ArgOb h A a) {b : Addr} {u : HO} (q : argH K h A b = some u) : K.lookup b = none ∧ ∃ vs : List Value, vs.length ≤ sizeLine ∧ (∀ u ∈ vs, OkU A u) ∧
    ((h.get? b = some { cls := .type "list", data := .seq vs.toArray } ∧ u = .frz { cls := .type "list", data := .seq vs.toArray } (.lst (vs.map toV))) ∨
     (h.get? b = some { cls := .type "tuple", data := .seq vs.toArray } ∧ u = .frz { cls := .type "tuple", data := .seq vs.toArray } (.tup (vs.map toV)))) := by
  obtain ⟨hb, hk⟩ := of_argH q
  refine Ea.x1_3 (ar b hb) fun vs h1 h2 h3 => ?_
  refine ⟨hk, vs, h1, h2, ?_⟩
  rcases h3 with e | e
  · rw [argH_at hb hk e, hoOf_lst] at q
    exact .inl ⟨e, (Option.some.inj q).symm⟩
  · rw [argH_at hb hk e, hoOf_tup] at q
    exact .inr ⟨e, (Option.some.inj q).symm⟩
theorem argH_only (ar : ∀ a ∈ A, ArgOb h A a) : OnlyF (argH K h A) := fun b => by
  cases q : argH K h A b with
  | none => exact .inl rfl
  | some u =>
    obtain ⟨_, vs, _, _, ⟨_, e⟩ | ⟨_, e⟩⟩ := argH_is ar q
    · exact .inr ⟨_, _, by rw [e]⟩
    · exact .inr ⟨_, _, by rw [e]⟩
theorem argH_ok (ar : ∀ a ∈ A, ArgOb h A a) : HOk P w (argH K h A) h := fun b u q => by
  obtain ⟨_, vs, h1, h2, ⟨e, rfl⟩ | ⟨e, rfl⟩⟩ := argH_is ar q
  · exact ⟨e, by rw [List.length_map]; exact h1, vs, _, vals_toV h2, e⟩
  · exact ⟨e, by rw [List.length_map]; exact h1, vs, vals_toV h2, _, e, rfl, _, rfl⟩
theorem seq_inj {c c' : Value} {vs us : List Value} (e : (some { cls := c, data := .seq vs.toArray } : Option Obj) = some { cls := c', data := .seq us.toArray }) : c = c' ∧ vs = us := by
  have e1 := Option.some.inj e
  have e2 : c = c' := congrArg Obj.cls e1
  have e3 : Data.seq vs.toArray = Data.seq us.toArray := congrArg Obj.data e1
  injection e3 with e4
  refine ⟨e2, ?_⟩
  have e5 := congrArg Array.toList e4
  simpa using e5
theorem argL (KX : K.In h) (ar : ∀ a ∈ A, ArgOb h A a) {a : Addr} {vs : List Value} (ha : a ∈ A) (e : h.get? a = some { cls := .type "list", data := .seq vs.toArray }) : (∀ u ∈ vs, OkU A u) ∧ SqL K (argH K h A) a (vs.map toV) := by
  refine Ea.x1_3 (ar a ha) fun us h1 h2 h3 => ?_
  have hu : us = vs := by
    rcases h3 with q | q
    · rw [e] at q
      exact (seq_inj q).2.symm
    · rw [e] at q
      exact absurd (Value.type.inj (seq_inj q).1) (by decide)
  subst hu
  refine ⟨h2, ?_⟩
  cases hk : K.lookup a with
  | none => exact .inl (.inr ⟨_, by rw [argH_at ha hk e, hoOf_lst]⟩)
  | some o =>
    have e2 := KX a o hk
    rw [e] at e2
    obtain rfl := Option.some.inj e2
    exact .inr ⟨_, us.toArray, _, hk, rfl, rfl, rfl, by rw [List.size_toArray]; exact h1, by simpa using vals_toV h2⟩
theorem argT (KX : K.In h) (ar : ∀ a ∈ A, ArgOb h A a) {a : Addr} {vs : List Value} (ha : a ∈ A) (e : h.get? a = some { cls := .type "tuple", data := .seq vs.toArray }) : (∀ u ∈ vs, OkU A u) ∧ SqT K (argH K h A) a (vs.map toV) := by
  refine Ea.x1_3 (ar a ha) fun us h1 h2 h3 => ?_
  have hu : us = vs := by
    rcases h3 with q | q
    · rw [e] at q
      exact absurd (Value.type.inj (seq_inj q).1) (by decide)
    · rw [e] at q
      exact (seq_inj q).2.symm
  subst hu
  refine ⟨h2, ?_⟩
  cases hk : K.lookup a with
  | none => exact .inl (.inr ⟨_, by rw [argH_at ha hk e, hoOf_tup]⟩)
  | some o =>
    have e2 := KX a o hk
    rw [e] at e2
    obtain rfl := Option.some.inj e2
    exact .inr ⟨_, us.toArray, _, hk, rfl, rfl, by rw [List.size_toArray]; exact h1, by simpa using vals_toV h2⟩
mutual
theorem dw_one {Pm : Params} (KX : K.In h) (ar : ∀ a ∈ A, ArgOb h A a) : ∀ (d : WData) (v : Value), Well Pm h v d → plW d = true → OkU A v → Dw K (argH K h A) (toV v) d
  | .none, _, x, _, _ => by
    cases x
    exact .non
  | .bool b, _, x, _, _ => by
    cases x
    exact .bl b
  | .int i, _, x, _, _ => by
    cases x
    exact .int i
  | .str s, _, x, _, _ => by
    cases x
    exact .str s
  | .bytes b, _, x, _, _ => by
    cases x
    have z := Dw.byt (K := K) (H := argH K h A) b.toArray
    exact z
  | .list ds, _, x, p, hu => by
    refine Ea.x2_3 (well_list x) fun a vs qz544 ho hall => ?_; subst qz544
    obtain ⟨h2, hs⟩ := argL KX ar hu ho
    exact .lst hs (dw_all KX ar ds _ hall p h2)
  | .tuple ds, _, x, p, hu => by
    refine Ea.x2_3 (well_tuple x) fun a vs qz545 ho hall => ?_; subst qz545
    obtain ⟨h2, hs⟩ := argT KX ar hu ho
    exact .tup hs (dw_all KX ar ds _ hall p h2)
  | .float _, _, _, p, _ => Bool.noConfusion (show false = true from p)
  | .dict _, _, _, p, _ => Bool.noConfusion (show false = true from p)
  | .bytearray _, _, _, p, _ => Bool.noConfusion (show false = true from p)
  | .set _, _, _, p, _ => Bool.noConfusion (show false = true from p)
  | .frozenset _, _, _, p, _ => Bool.noConfusion (show false = true from p)
  | .obj _ _, _, _, p, _ => Bool.noConfusion (show false = true from p)
theorem dw_all {Pm : Params} (KX : K.In h) (ar : ∀ a ∈ A, ArgOb h A a) : ∀ (ds : List WData) (vs : List Value), WellAll Pm h vs ds → plWs ds = true → (∀ u ∈ vs, OkU A u) → DwAll K (argH K h A) (vs.map toV) ds
  | [], _, x, _, _ => by
    cases x
    exact .nil
  | d :: ds, _, x, p, hu => by
    refine Ea.x2_3 (well_cons x) fun v vs qz546 x1 x2 => ?_; subst qz546
    have q : plW d = true ∧ plWs ds = true := Bool.and_eq_true_iff.mp p
    exact .cons (dw_one KX ar d v x1 q.1 (hu _ (List.mem_cons_self ..))) (dw_all KX ar ds vs x2 q.2 fun u m => hu u (List.mem_cons_of_mem _ m))
end
end
theorem spec_call {P : Program} {w : World} {K : PySem.W.Frag} {mg mb : Str → Option Value} {CX : CXT} {k : Nat} {fa : Addr} {fd : FuncData} {ps : List Str} {sp : Sp} {s₁ : Shared} {vals : List Value} {ds : List WData} {R : PySem.W.WRecords} {cl : Str → Option Addr} {d0 : WData}
    (KX : K.In s₁.heap) (hns : s₁.heap.Ns mainGlobals mg) (hb : s₁.heap.Ns builtinsNs mb) (hbb : ∀ x : Str, x ≠ "__name__" → mb x = bootBuiltins x) (hlim : s₁.heap.NoLimit) (hg : s₁.gens = #[])
    (hwl : WellAll w.params s₁.heap vals ds) (hpl : plWs ds = true) (hwt : ∀ d ∈ ds, d.weight ≤ 1048576) (hr : Room k callerA)
    (F : ∀ base : Heap, K.In base → base.Ns mainGlobals mg → FnOk P w K mg base CX k fa fd ps sp) (hbind : ∀ (s : Shared) (us : List Value), us.length = ps.length → BindsTo s fd ⟨us, []⟩ (ps.zip us)) (hlen : ds.length = ps.length)
    (hsp : ∀ (H : Hp) (xs : List V), OnlyF H → DwAll K H xs ds → sp xs H (fun v H' => Dw K H' v d0) fun _ _ _ => False)
    (hCX : ∀ H e s', CX [] H s₁ (fun _ _ _ => False) e s' → False) :
    codeAny (model P w) callerA (.call (.ref fa) ⟨vals, []⟩) (fun r s' => ∃ u as, r = .ok (.ret u) ∧ ReadsW R cl s'.heap u d0 as ∧ OldK s₁.heap s'.heap ∧ s'.os = s₁.os ∧ AllBare s'.gens) s₁ := by
  refine Ea.x1_2 (area_all ds vals hwl hpl hwt) fun A ho ar => ?_
  have hO : OnlyF (argH K s₁.heap A) := argH_only ar
  have hok : HOk P w (argH K s₁.heap A) s₁.heap := argH_ok ar
  have hS := dw_all KX ar ds vals hwl hpl ho
  have hV := vals_toV ho
  have hK : ∀ b u, argH K s₁.heap A b = some u → K.lookup b = none := fun b u q => (argH_is ar q).1
  have noA : ∀ {b : Addr} {o : Obj} {es : Array DictEntry} {ep : Nat}, s₁.heap.get? b = some o → o.data = .dict es ep → argH K s₁.heap A b = none := fun {b o es ep} e d => by
    cases q : argH K s₁.heap A b with
    | none => rfl
    | some u =>
      obtain ⟨_, vs, _, _, ⟨e2, _⟩ | ⟨e2, _⟩⟩ := argH_is ar q
      · rw [e2] at e
        cases e
        have d' : Data.seq vs.toArray _ = Data.dict es ep := d
        cases d'
      · rw [e2] at e
        cases e
        have d' : Data.seq vs.toArray _ = Data.dict es ep := d
        cases d'
  generalize argH K s₁.heap A = H at hO hok hS hK noA
  have base_of : ∀ {b : Addr} {o : Obj}, s₁.heap.get? b = some o → H b = none → (hidT s₁.heap H).get? b = some o := fun e n => hidT_get e n
  have nsK : ∀ {b : Addr} {m : Str → Option Value}, s₁.heap.Ns b m → (hidT s₁.heap H).Ns b m := fun {b m} ⟨o, es, ep, e, d, r⟩ => ⟨o, es, ep, base_of e (noA e d), d, r⟩
  have nK : ∀ b o, K.lookup b = some o → H b = none := fun b o e => by
    cases q : H b with
    | none => rfl
    | some u =>
      rw [hK b u q] at e
      cases e
  have hKb : K.In (hidT s₁.heap H) := fun b o e => base_of (KX b o e) (nK b o e)
  have hM : Mod K mg (hidT s₁.heap H) := ⟨hKb, nsK hns, ⟨mb, nsK hb, hbb⟩, let ⟨mc, h1, h2⟩ := hlim; ⟨mc, nsK h1, h2⟩⟩
  have e0 : Env0 P w K mg (hidT s₁.heap H) callerA [] s₁ H := ⟨rfl, hM, fun b o e => of_hidT e, Nat.le_of_eq (hidT_size _ _), trivial, fun b hb => absurd (show b ∈ ([] : List Addr) from hb) (by simp), hok, .of_eq hg⟩
  have hl : vals.length = ps.length := by rw [wellAll_len hwl]; exact hlen
  refine codeAny_mono ((F _ hKb (nsK hns)).run callerA [] s₁ H ⟨vals, []⟩ vals (vals.map toV) _ _ hr e0 (hbind s₁ vals hl) hV (hsp H _ hO hS)) fun r s' x => ?_
  cases r with
  | error e => exact (hCX H e s' x).elim
  | ok fl =>
    cases fl with
    | next => exact False.elim x
    | brk => exact False.elim x
    | cont => exact False.elim x
    | ret u =>
      refine Ea.x2_6 x fun v H' os bare un hok' r' q => ?_; try clear x
      have kept : ∀ b o, s₁.heap.get? b = some o → s'.heap.get? b = some o := fun b o e => by
        cases q2 : H b with
        | none => exact un.keep b o e q2 (by intro z; exact absurd (show b ∈ ([] : List Addr) from z) (by simp)) (by simp)
        | some u2 =>
          rcases hO b with z | ⟨ob, u3, z⟩
          · rw [q2] at z
            cases z
          · have z2 := un.frzs b ob _ z
            obtain ⟨e1, _⟩ := hok b _ z
            obtain ⟨e2, _⟩ := hok' b _ z2
            rw [e] at e1
            cases e1
            exact e2
      have KX' : K.In s'.heap := fun b o e => kept b o (KX b o e)
      obtain ⟨as, hrd⟩ := Dw.reads (R := R) (cl := cl) hok' KX' d0 v u q r'
      exact ⟨u, as, rfl, hrd, OldK.of_keep kept, os, bare⟩
theorem layable_weight {ds : List WData} (h : WData.layableAll ds = true) : ∀ d ∈ ds, d.weight ≤ 1048576 := fun d hd =>
  (PySem.W.layableW_iff.mp (List.all_eq_true.mp h d hd)).2.2
theorem encAll_len : ∀ (cs : List Codec) (a : Codec.denoteAll cs), (Codec.encAll cs a).length = cs.length
  | [], _ => rfl
  | c :: cs, a => by
    show (Codec.encAll cs a.2).length + 1 = cs.length + 1
    rw [encAll_len cs a.2]
theorem walk_spec {r : OpenSpec} {k : Nat} {q : Program} {loose : List Str} {XP : (Str → Option Value) → Heap → Prop} {YP : World → Heap → Prop} {d : DefRec} {K : Params → PySem.W.Frag} {CX : World → CXT} {ps : List Str} {sp : World → Sp}
    (hwell : r.wellSaid = true) (hdf : d.params.defaults = []) (hlen : r.args.length = ps.length) (hr : Room k callerA)
    (hY : ∀ (w : World) (h : Heap), YP w h → (K w.params).In h)
    (F : ∀ (w : World) (mg : Str → Option Value) (fa : Addr) (h : Heap), YP w h → (K w.params).In h → h.Ns mainGlobals mg → mg d.name = some (.ref fa) →
      ∃ fd : FuncData, (∀ (s : Shared) (us : List Value), us.length = ps.length → BindsTo s fd ⟨us, []⟩ (ps.zip us)) ∧
        ∀ base : Heap, (K w.params).In base → base.Ns mainGlobals mg → FnOk r.prog w (K w.params) mg base (CX w) k fa fd ps (sp w))
    (hsp : ∀ (w : World) (H : Hp) (xs : List V) (a : Codec.denoteAll r.args), OnlyF H → Codec.withinAll r.args a = true → Codec.app r.args r.asked a = true → DwAll (K w.params) H xs (Codec.encAll r.args a) →
      sp w xs H (fun v H' => Dw (K w.params) H' v (r.ret.enc (Codec.app r.args r.f a))) fun _ _ _ => False)
    (hCX : ∀ (w : World) (H : Hp) (s : Shared) (e : Value) (s' : Shared), CX w [] H s (fun _ _ _ => False) e s' → False) :
    PySem.W.WalkOS q loose XP YP r d [] (fun f vs => PySem.call f vs) := by
  intro w s_0 s₁ mg mb G Y fa o pm cd doc dV kV ho hd hcd hD hmg hg args vals as hpre hlay hrd hwl hlo
  refine Ea.x1_2 (PySem.W.os_pre_some hpre) fun a e1 e2 => ?_
  obtain ⟨e3, hwi⟩ := Codec.encAll_of_decAll r.args args a e1
  subst e3
  have KX := hY w _ Y
  refine Ea.x1_2 (F w mg fa _ Y KX G.T.g hmg) fun fd hb hF => ?_
  refine PySem.W.enter_call (codeAny_mono (spec_call (R := []) (cl := classAt s_0.heap) (d0 := r.ret.enc (Codec.app r.args r.f a)) KX G.T.g G.T.b G.T.builtins G.T.nolimit hg hwl (pl_encAll _ _) (layable_weight hlay) hr hF hb (by rw [encAll_len]; exact hlen)
    (fun H xs hO hS => hsp w H xs a hO hwi e2 hS) fun H e s' => hCX w H s₁ e s') fun r' s' hq => ?_)
  refine Ea.e2 hq fun u as' qz549 => Ea.a5 qz549 fun qz548 h1 h2 h3 h4 => ?_; try clear hq; subst qz548
  exact ⟨.inl ⟨u, _, as', rfl, fun _ => rfl, h1, (OpenSpec.post_iff hwell hwi _ _).mpr rfl, fun z => Bool.noConfusion (show false = true from z)⟩, h2, h3, h4⟩
theorem walk_specK {r : OpenSpec} {k : Nat} {q : Program} {loose : List Str} {XP : (Str → Option Value) → Heap → Prop} {YP : World → Heap → Prop} {d : DefRec} {K : Params → PySem.W.Frag} {CX : CXT} {ps : List Str} {sp : PySem.W.Frag → Sp}
    (hwell : r.wellSaid = true) (hdf : d.params.defaults = []) (hlen : r.args.length = ps.length) (hr : Room k callerA)
    (hY : ∀ (w : World) (h : Heap), YP w h → (K w.params).In h)
    (F : ∀ (w : World) (mg : Str → Option Value) (fa : Addr) (h : Heap), YP w h → (K w.params).In h → h.Ns mainGlobals mg → mg d.name = some (.ref fa) →
      ∃ fd : FuncData, (∀ (s : Shared) (us : List Value), us.length = ps.length → BindsTo s fd ⟨us, []⟩ (ps.zip us)) ∧
        ∀ base : Heap, (K w.params).In base → base.Ns mainGlobals mg → FnOk r.prog w (K w.params) mg base CX k fa fd ps (sp (K w.params)))
    (hsp : ∀ (K : PySem.W.Frag) (H : Hp) (xs : List V) (a : Codec.denoteAll r.args), OnlyF H → Codec.withinAll r.args a = true → Codec.app r.args r.asked a = true → DwAll K H xs (Codec.encAll r.args a) →
      sp K xs H (fun v H' => Dw K H' v (r.ret.enc (Codec.app r.args r.f a))) fun _ _ _ => False)
    (hCX : ∀ (H : Hp) (s : Shared) (e : Value) (s' : Shared), CX [] H s (fun _ _ _ => False) e s' → False) :
    PySem.W.WalkOS q loose XP YP r d [] (fun f vs => PySem.call f vs) :=
  walk_spec (K := K) (CX := fun _ => CX) (sp := fun w => sp (K w.params)) hwell hdf hlen hr hY F (fun w H xs a h1 h2 h3 h4 => hsp (K w.params) H xs a h1 h2 h3 h4) fun _ H s e s' => hCX H s e s'
end L2
end
end
section
set_option maxRecDepth 100000
set_option maxHeartbeats 2000000
namespace Mg
open PySem PySem.Spec
open PyProof.Rows hiding St
open L2
section
variable {X : Cx}
theorem get_list : PGet X (rIxL X.K) := by
  intro pins s σ H x y v u Q I rx ry h
  refine Ea.x4_5 h fun p xs i z qz550 qz551 hq he q => ?_; try clear h; subst qz550; subst qz551
  cases rx
  obtain ⟨t, rfl⟩ := ry
  refine Ea.x1_3 (I.list hq) fun its r pl hz => ?_
  refine Ea.x1_5 (atI_get he) fun j h1 h2 h3 h4 h5 => ?_
  refine Ea.x1_2 (r.get h2) fun w ew rw' => ?_
  have hl := r.length
  have hn := line63
  have fin : EP X pins σ Q w s := ⟨z, H, I, rw', q⟩
  by_cases h0 : 0 ≤ i
  · have hj : i.toNat = j := by
      rw [seqIndex_of h0 h5] at h1
      exact Option.some.inj h1
    exact wpAny_getItem_list pl.isList h0 (by lia) (by rw [hj]; simpa using ew) fin
  · have hj : (i + (its.toArray.size : Int)).toNat = j := by
      rw [seqIndex_neg (by lia) h4] at h1
      rw [List.size_toArray, ← hl]
      exact Option.some.inj h1
    exact wpAny_getItem_list_neg pl.isList (by lia) (by rw [List.size_toArray] <;> lia) (by lia) (by rw [hj]; simpa using ew) fin
theorem pe_gint {x : Str} {i : Int} {pos : Pos} (hg : Gl X x) (hm : ∃ t, X.mg x = some (.int i t)) (hd : (x == ("__debug__" : Str)) = false := by decide) : PE X (.Name x pos) (tC (.int i)) := by
  obtain ⟨t, h⟩ := hm
  exact pe_glob hg h ⟨t, rfl⟩ hd
end
structure Mt (P : Program) (w : World) (K : PySem.W.Frag) (mg : Str → Option Value) (base : Heap) (C : Addr) (m : Str) (k : Nat) (ps : List Str) (sp : Sp) : Prop where
  ex : ∃ (f : Addr) (fd : FuncData), Meth K C m f ∧ FnOk P w K mg base CX0 k f fd ps sp ∧ Binds K fd ps []
section
variable {X : Cx} {C : Addr} {m : Str} {k : Nat} {ps : List Str} {sp : Sp} {o e : Expr} {es : List Expr} {ta : TE} {t : TA} {pos apos : Pos}
theorem pe_mt {pl : Sem Bool} (M : Mt X.prog X.w X.K X.mg X.base C m k ps sp) (c : Cls X.K C) (hr : Room k X.A) (he : PE X o ta) (ha : PA X (e :: es) t)
    (hst : starEach (e :: es) X.env = (false, eval e X.env) :: starEach es X.env := by rfl) (hpl : (backTo pos (starEach es X.env)).any (·.1) = false := by rfl)
    (ht : eval (.Call (.Attribute o m apos) (e :: es) [] pos) X.env = (do
      let ov ← eval o X.env
      standAt apos.atName
      let (f, first) ← holding [ov] (getMethod ov m pl)
      callWith pos f first (backTo pos (starEach (e :: es) X.env)) (backToKw pos (keywordEach [] X.env))) := by rfl) :
    PE X (.Call (.Attribute o m apos) (e :: es) [] pos) (tMeth C m sp [] E0 ta t) := by
  refine Ea.x2_3 M.ex fun f fd h1 h2 h3 => ?_
  exact pe_meth he c h1 h2 hr h3 .nil pass0 ha hst hpl ht
theorem pe_mt0 {pl : Sem Bool} (M : Mt X.prog X.w X.K X.mg X.base C m k ps sp) (c : Cls X.K C) (hr : Room k X.A) (he : PE X o ta)
    (ht : eval (.Call (.Attribute o m apos) [] [] pos) X.env = (do
      let ov ← eval o X.env
      standAt apos.atName
      let (f, first) ← holding [ov] (getMethod ov m pl)
      callWith pos f first (backTo pos (starEach [] X.env)) (backToKw pos (keywordEach [] X.env))) := by rfl) :
    PE X (.Call (.Attribute o m apos) [] [] pos) (tMeth C m sp [] E0 ta tNil) := by
  refine Ea.x2_3 M.ex fun f fd h1 h2 h3 => ?_
  exact pe_meth0 he c h1 h2 hr h3 .nil pass0 ht
end
noncomputable def Ev (t : TE) (σ : St) (H : Hp) (v : V) : Prop := ∀ Q : VK, Q v H → t σ H Q
noncomputable def Et (t : TT) (σ : St) (H : Hp) (b : Bool) : Prop := ∀ Q : Bool → Hp → Prop, Q b H → t σ H Q
noncomputable def Ea (t : TA) (σ : St) (H : Hp) (vs : List V) : Prop := ∀ Q : List V → Hp → Prop, Q vs H → t σ H Q
section
variable {K : PySem.W.Frag} {σ : St} {H : Hp} {ta tb : TE} {t : TA} {c d : TT} {i j : Int} {v x y : V} {vs : List V}
theorem var_go {n : Nat} {Q : VK} (h : σ[n]? = some (some v)) (q : Q v H) : tVar n σ H Q := ⟨v, h, q⟩
theorem yes_go {Q : Bool → Hp → Prop} (q : Q true H) : tYes σ H Q := q
theorem c_go {Q : VK} (q : Q v H) : tC v σ H Q := q
theorem fld_go {f : Str} {Q : VK} (h : Ev (tFld K ta f) σ H v) (q : Q v H) : tFld K ta f σ H Q := h Q q
theorem op_go {r : R2} {Q : VK} (h : Ev (tOp r ta tb) σ H v) (q : Q v H) : tOp r ta tb σ H Q := h Q q
theorem cb_go {r : List V → Hp → VK → Prop} {Q : VK} (h : Ev (tCB r t) σ H v) (q : Q v H) : tCB r t σ H Q := h Q q
theorem meth_go {C : Addr} {m : Str} {sp : Sp} {Q : VK} (h : Ev (tMeth C m sp [] E0 ta t) σ H v) (q : Q v H) : tMeth C m sp [] E0 ta t σ H Q := h Q q
theorem cons_ea {Q : List V → Hp → Prop} (h : Ea (tCons ta t) σ H vs) (q : Q vs H) : tCons ta t σ H Q := h Q q
theorem ev_var {n : Nat} (h : σ[n]? = some (some v)) : Ev (tVar n) σ H v := fun Q q => ⟨v, h, q⟩
theorem ev_c : Ev (tC v) σ H v := fun Q q => q
theorem ev_fld {a C dx : Addr} {fs : List (Str × V)} {f : Str} (h : Ev ta σ H (.ref a)) (ho : H a = some (.ins C dx fs)) (c : Cls K C) (n : NoAttr K C f) (hl : fs.lookup f = some v) : Ev (tFld K ta f) σ H v :=
  fun Q q => h _ (Ea.i5 a C dx fs v ⟨rfl, ho, c, n, hl, q⟩)
theorem ev_ix {p : Addr} {xs : List V} {n : Nat} (h : Ev ta σ H (.ref p)) (hi : Ev tb σ H (.int i)) (hx : H p = some (.lst xs)) (e : i = (n : Int)) (hv : xs[n]? = some v) : Ev (tOp (rIxL K) ta tb) σ H v :=
  fun Q q => h _ (hi _ (Ea.i4 p xs i v ⟨rfl, rfl, SqL.of hx, at_of e hv, q⟩))
theorem ev_op0 {g : Int → Int → V} (h : Ev ta σ H (.int i)) (k : Ev tb σ H (.int j)) : Ev (tOp (rI0 g) ta tb) σ H (g i j) := fun Q q => h _ (k _ ⟨i, j, rfl, rfl, q⟩)
theorem ev_un {g : Int → V} (h : Ev ta σ H (.int i)) : Ev (tUn (rU g) ta) σ H (g i) := fun Q q => h _ ⟨i, rfl, q⟩
theorem ev_eq (h : Ev ta σ H x) (k : Ev tb σ H y) (hs : scal x y = true) : Ev (tOp rEq ta tb) σ H (.bl (decide (x = y))) := fun Q q => h _ (k _ ⟨hs, q⟩)
theorem et_test {b : Bool} (h : Ev ta σ H (.bl b)) : Et (tTest ta) σ H b := fun Q q => h _ ⟨b, rfl, q⟩
theorem et_and {a b : Bool} (h : Et c σ H a) (k : a = true → Et d σ H b) : Et (tAnd c d) σ H (a && b) := fun Q q => h _ (by
  cases a with
  | true => exact k rfl Q q
  | false => exact q)
theorem et_or {a b : Bool} (h : Et c σ H a) (k : a = false → Et d σ H b) : Et (tOr c d) σ H (a || b) := fun Q q => h _ (by
  cases a with
  | true => exact q
  | false => exact k rfl Q q)
theorem et_not {a : Bool} (h : Et c σ H a) : Et (tNot c) σ H (!a) := fun Q q => h _ q
theorem ea_nil : Ea tNil σ H [] := fun Q q => q
theorem ea_cons (h : Ev ta σ H v) (k : Ea t σ H vs) : Ea (tCons ta t) σ H (v :: vs) := fun Q q => h _ (k _ q)
end
noncomputable abbrev nats (l : List Nat) : List V := l.map fun n => V.int (n : Nat)
noncomputable abbrev intz (l : List Int) : List V := l.map V.int
theorem nats_get {l : List Nat} {j : Nat} (h : j < l.length) : (nats l)[j]? = some (V.int (l.getD j 0 : Nat)) := by
  rw [List.getElem?_map, List.getElem?_eq_getElem h, List.getD_eq_getElem?_getD, List.getElem?_eq_getElem h]; rfl
theorem ints_get {l : List Int} {j : Nat} (h : j < l.length) : (intz l)[j]? = some (V.int (l.getD j 0)) := by
  rw [List.getElem?_map, List.getElem?_eq_getElem h, List.getD_eq_getElem?_getD, List.getElem?_eq_getElem h]; rfl
theorem xor_nat (a b : Nat) : Builtin.bitXor (a : Int) (b : Int) = ((a ^^^ b : Nat) : Int) := by
  rw [Bits.bitXor_pp (Int.natCast_nonneg _) (Int.natCast_nonneg _)]; simp
end Mg
namespace Mg
open PySem PySem.Spec
open PyProof.Rows hiding St
open L2
section
variable {K : PySem.W.Frag} {D : Ends} {σ : St} {H : Hp} {te ti to : TE} {t u rest : TS} {c : TT} {v : V} {n : Nat} {x y : Int}
theorem s_seq (h : t { D with nx := rest D } σ H) : tSeq t rest D σ H := h
theorem s_nx {f : St → Hp → Prop} {r : VK} {b k : St → Hp → Prop} (h : f σ H) : (Ends.mk f r b k).nx σ H := h
theorem s_tn {f : St → Hp → Prop} {r : VK} {b k : St → Hp → Prop} (h : f σ H) : tNext (Ends.mk f r b k) σ H := h
theorem a_set (h : te σ H fun x H1 => D.nx (σ.set n (some x)) H1) : tAsg te (gName n) D σ H := h
theorem a_asg {g : TG} (h : te σ H fun x H1 => g x σ H1 D.nx) : tAsg te g D σ H := h
theorem a_drop (h : te σ H fun _ H1 => D.nx σ H1) : tDrop te D σ H := h
theorem a_ret (h : te σ H D.rt) : tRet te D σ H := h
theorem a_cb {r : List V → Hp → VK → Prop} {ta : TA} {Q : VK} (h : ta σ H fun vs H1 => r vs H1 Q) : tCB r ta σ H Q := h
theorem a_cons {ta : TA} {Q : List V → Hp → Prop} (h : te σ H fun x H1 => ta σ H1 fun xs H2 => Q (x :: xs) H2) : tCons te ta σ H Q := h
theorem a_op {r : R2} {Q : VK} (h : te σ H fun x H1 => ti σ H1 fun y H2 => r x y H2 Q) : tOp r te ti σ H Q := h
theorem a_lst {ta : TA} {Q : VK} (h : ta σ H fun xs H1 => xs.length ≤ sizeLine ∧ ∀ p, H1 p = none → Q (.ref p) (upd H1 p (.lst xs))) : tLst ta σ H Q := h
theorem a_bm {T : String} {r : V → List V → Hp → VK → Prop} {ta : TA} {Q : VK} (h : to σ H fun x H1 => tyV K T x H1 ∧ ta σ H1 fun xs H2 => r x xs H2 Q) : tBM K T r to ta σ H Q := h
theorem a_bm0 {T : String} {r : V → List V → Hp → VK → Prop} {Q : VK} (h : to σ H fun x H1 => tyV K T x H1 ∧ r x [] H1 Q) : tBM0 K T r to σ H Q := h
theorem a_iL {R : It → Hp → Prop} (h : te σ H fun x H1 => ∃ a, x = .ref a ∧ (∃ xs, SqL K H1 a xs) ∧ R (Itl K a) H1) : iList K te σ H R := h
theorem a_iR1 {ta : TA} {R : It → Hp → Prop} (h : ta σ H fun vs H1 => ∃ j : Int, vs = [.int j] ∧ -(2 ^ 62) ≤ j ∧ j < 2 ^ 62 ∧ R (Itr 0 j.toNat) H1) : iRng1 ta σ H R := h
theorem a_lc {wi : TI} {g : TG} {tt : TT} {vs : List Nat} {Q : VK} (h : wi σ H fun J H1 => ∀ D, H1 D = none → ∃ W : Nat → Nat → Hp → Prop, (∃ m, W 0 m (upd H1 D (.lst []))) ∧ ∀ i m H, W i m H →
    (J.stop i H ∧ Q (.ref D) H) ∨ (J.go i H ∧ ∃ Nx : Hp → Prop, (∀ H', Nx H' → ∃ m', m' < m ∧ W (i + 1) m' H') ∧ ∀ x H', J.yld i H x H' → g x (wipe σ vs) H' fun σ2 H2 => wipe σ2 vs = wipe σ vs ∧ tt σ2 H2 fun b H3 =>
      if b = true then te σ2 H3 fun y H4 => ∃ acc, H4 D = some (.lst acc) ∧ acc.length < sizeLine ∧ Nx (upd H4 D (.lst (acc ++ [y]))) else Nx H3)) : tLc wi g tt te vs σ H Q := h
theorem a_dput {td ty : TE} (h : te σ H fun v H1 => td σ H1 fun x H2 => ty σ H2 fun y H3 => ∃ a H4, x = .ref a ∧ DPut H3 a y v H4 ∧ D.nx σ H4) : sDPut td ty te D σ H := h
theorem a_fld {f : Str} (h : te σ H fun y H1 => to σ H1 fun x H2 => ∃ a C dx fs, x = .ref a ∧ H2 a = some (.ins C dx fs) ∧ Cls K C ∧ NoAttr K C f ∧ fs.length < 1000 ∧ D.nx σ (upd H2 a (.ins C dx (putF f y fs)))) : sFld K to te f D σ H := h
theorem a_sub {tset : TSet} {Q : St → Hp → Prop} (h : to σ H fun o H1 => ti σ H1 fun i H2 => tset o i v H2 fun H3 => Q σ H3) : gSub to ti tset v σ H Q := h
theorem s_set (h : Ev te σ H v) (k : D.nx (σ.set n (some v)) H) : tAsg te (gName n) D σ H := h _ k
theorem s_if {b : Bool} (h : Et c σ H b) (k1 : b = true → t D σ H) (k2 : b = false → u D σ H) : tIfS c t u D σ H := h _ (by
  cases b with
  | true => exact k1 rfl
  | false => exact k2 rfl)
theorem s_ret (h : Ev te σ H v) (k : D.rt v H) : tRet te D σ H := h _ k
theorem s_aug {f : Int → Int → Int} (h : σ[n]? = some (some (V.int x))) (k : Ev te σ H (.int y)) (q : D.nx (σ.set n (some (.int (f x y)))) H) : tAug n te (ipI f) D σ H := ⟨_, h, k _ ⟨x, y, rfl, rfl, q⟩⟩
theorem ixN_nat {n j : Nat} (h : j < n) : ixN n (j : Int) = some j := by
  unfold ixN
  rw [if_pos (Int.natCast_nonneg _), if_pos (by lia), Int.toNat_natCast]
theorem s_put {p : Addr} {xs : List V} {i : Int} {j : Nat} (h : Ev te σ H v) (ho : Ev to σ H (.ref p)) (hi : Ev ti σ H (.int i)) (hp : H p = some (.lst xs)) (e : i = (j : Int)) (hj : j < xs.length) (k : D.nx σ (upd H p (.lst (xs.set j v)))) :
    tAsg te (gSub to ti rSetL) D σ H := h _ (ho _ (hi _ (Ea.i4 p xs i j ⟨rfl, rfl, hp, by rw [e]; exact ixN_nat hj, k⟩)))
theorem s_augS {f : Int → Int → Int} {p : Addr} {xs : List V} {i : Int} {j : Nat} (ho : Ev to σ H (.ref p)) (hi : Ev ti σ H (.int i)) (hp : H p = some (.lst xs)) (e : i = (j : Int)) (hj : xs[j]? = some (.int x)) (h : Ev te σ H (.int y)) (k : D.nx σ (upd H p (.lst (xs.set j (.int (f x y)))))) :
    tAugS to ti te (rIxL K) (ipI f) rSetL D σ H :=
  ho _ (hi _ (Ea.i4 p xs i _ ⟨rfl, rfl, SqL.of hp, at_of e hj, h _ ⟨x, y, rfl, rfl, p, xs, i, j, rfl, rfl, hp, by rw [e]; exact ixN_nat (List.getElem?_eq_some_iff.mp hj).1, k⟩⟩))
theorem s_app {p : Addr} {xs : List V} (ho : Ev to σ H (.ref p)) (h : Ev te σ H v) (hp : H p = some (.lst xs)) (hl : xs.length < sizeLine) (k : D.nx σ (upd H p (.lst (xs ++ [v])))) : tDrop (tBM K "list" rAppend to (tCons te tNil)) D σ H :=
  ho _ ⟨.inl ⟨rfl, _, SqL.of hp⟩, h _ (Ea.i3 p xs v ⟨rfl, rfl, hp, hl, k⟩)⟩
theorem ev_len {p : Addr} {xs : List V} (h : Ev te σ H (.ref p)) (hp : H p = some (.lst xs)) : Ev (tCB (fun ys H Q => ∃ p zs, ys = [V.ref p] ∧ (SqL K H p zs ∨ SqT K H p zs) ∧ Q (.int zs.length) H) (tCons te tNil)) σ H (.int xs.length) :=
  fun Q q => h _ ⟨p, xs, rfl, .inl (SqL.of hp), q⟩
end
end Mg
namespace Mg
open PySem PySem.Spec
open PyProof.Rows hiding St
open L2
section
variable {K : PySem.W.Frag} {D : Ends} {σ : St} {H : Hp} {te ti to : TE} {t u rest : TS} {c : TT} {v : V} {n : Nat} {x y : Int} {tb : TS} {g : TG}
theorem s_while (W : Nat → St → Hp → Prop) {m0 : Nat} (h0 : W m0 σ H) (turn : ∀ U : Nat → St → Hp → Prop, (∀ {i σ H}, W i σ H → U i σ H) → ∀ m σ H, W m σ H → ∃ b, Et c σ H b ∧ (b = true → tb { D with nx := fun σ' H' => ∃ m', m' < m ∧ U m' σ' H', ct := fun σ' H' => ∃ m', m' < m ∧ U m' σ' H', bk := D.nx } σ H) ∧ (b = false → D.nx σ H)) :
    tWhile c tb D σ H := by
  refine ⟨W, ⟨m0, h0⟩, fun m σ H h => ?_⟩
  refine Ea.x1_3 (turn W (fun h => h) m σ H h) fun b e k1 k2 => ?_
  refine e _ ?_
  cases b with
  | true => exact ⟨_, fun σ' H' q => q, k1 rfl⟩
  | false => exact k2 rfl
theorem et_truth {p : Addr} {xs : List V} (h : Ev te σ H (.ref p)) (hp : H p = some (.lst xs)) : Et (fun σ H Q => te σ H fun x H' => ∃ k, TruV K x H' k ∧ Q k H') σ H (!xs.isEmpty) :=
  fun Q q => h _ ⟨_, .inl ⟨xs, SqL.of hp, rfl⟩, q⟩
theorem s_for {a : Addr} {xs : List V} (h : Ev te σ H (.ref a)) (hx : SqL K H a xs) (Pv : Nat → St → Hp → Prop) (h0 : Pv 0 σ H) (hl : ∀ i σ H, i ≤ xs.length → Pv i σ H → SqL K H a xs)
    (hs : ∀ U : Nat → St → Hp → Prop, (∀ {i σ H}, Pv i σ H → U i σ H) → ∀ i x σ H, xs[i]? = some x → Pv i σ H → g x σ H fun σ2 H2 => tb { D with nx := U (i + 1), ct := U (i + 1), bk := D.nx } σ2 H2) (hd : ∀ σ H, Pv xs.length σ H → D.nx σ H) :
    tFor (iList K te) g tb D σ H := h _ ⟨a, rfl, ⟨xs, hx⟩, for_list (K := K) (a := a) (xs := xs) Pv h0 hl (hs Pv fun h => h) hd⟩
theorem a_forR2 {ta : TA} {lo hi : Int} {N : Nat} (h : Ea ta σ H [.int lo, .int hi]) (b : -(2 ^ 62) ≤ lo ∧ lo < 2 ^ 62 ∧ -(2 ^ 62) ≤ hi ∧ hi < 2 ^ 62) (e : (hi - lo).toNat = N) (Pv : Nat → St → Hp → Prop) (h0 : Pv 0 σ H)
    (hs : ∀ U : Nat → St → Hp → Prop, (∀ {i σ H}, Pv i σ H → U i σ H) → ∀ i σ H, i < N → Pv i σ H → g (.int (lo + i)) σ H fun σ2 H2 => tb { D with nx := U (i + 1), ct := U (i + 1), bk := D.nx } σ2 H2) (hd : ∀ σ H, Pv N σ H → D.nx σ H) : tFor (iRng2 ta) g tb D σ H :=
  h _ ⟨lo, hi, rfl, b, by rw [e]; exact for_range Pv h0 (hs Pv fun h => h) hd⟩
theorem ev_meth {ta : TE} {t : TA} {C a dx : Addr} {fs : List (Str × V)} {m : Str} {sp : Sp} {vs : List V} {Q : VK} (h : Ev ta σ H (.ref a)) (ho : H a = some (.ins C dx fs)) (hm : fs.lookup m = none) (k : Ea t σ H vs) (q : sp (.ref a :: vs) H Q E0) : tMeth C m sp [] E0 ta t σ H Q :=
  h _ (Ea.i3 a dx fs ⟨rfl, ho, hm, k _ (by rw [List.append_nil]; exact q)⟩)
theorem nats_at {l : List Nat} {i : Nat} {x : V} (h : (nats l)[i]? = some x) : ∃ w, l[i]? = some w ∧ x = .int (w : Nat) := by
  rw [List.getElem?_map] at h
  cases e : l[i]? with
  | none => rw [e] at h; cases h
  | some w => rw [e] at h; exact ⟨w, rfl, (Option.some.inj h).symm⟩
theorem nats_set (l : List Nat) (i v : Nat) : (nats l).set i (.int (v : Nat)) = nats (l.set i v) := (List.map_set (f := fun n : Nat => V.int (n : Nat))).symm
theorem ints_set (l : List Int) (i : Nat) (v : Int) : (intz l).set i (.int v) = intz (l.set i v) := (List.map_set (f := V.int)).symm
theorem drop_at {α : Type} {l : List α} {i : Nat} {a : α} (h : l[i]? = some a) : l.drop i = a :: l.drop (i + 1) := by
  obtain ⟨h1, h2⟩ := List.getElem?_eq_some_iff.mp h
  rw [← h2]; exact List.drop_eq_getElem_cons h1
theorem take_at {α : Type} {l : List α} {i : Nat} {a : α} (h : l[i]? = some a) : l.take (i + 1) = l.take i ++ [a] := by
  obtain ⟨h1, h2⟩ := List.getElem?_eq_some_iff.mp h
  rw [← h2]; exact List.take_succ_eq_append_getElem h1
end
end Mg
end
section
set_option maxRecDepth 100000
set_option maxHeartbeats 2000000
namespace Mg
open PySem PySem.Spec
open PyProof.Rows hiding St
open L2
theorem vals_at : ∀ {xs : List V} {us : List Value}, xs.length = us.length → (∀ (j : Nat) (x : V) (u : Value), xs[j]? = some x → us[j]? = some u → RelV x u) → Vals xs us
  | [], [], _, _ => .nil
  | x :: xs, u :: us, hl, h => .cons (h 0 x u rfl rfl) (vals_at (by simpa using hl) fun j y v h1 h2 => h (j + 1) y v (by simpa using h1) (by simpa using h2))
  | [], _ :: _, hl, _ => by simp at hl
  | _ :: _, [], hl, _ => by simp at hl
theorem boot_listQ : bootBuiltins "list" = some (.type "list") := by decide +kernel
section
variable {X : Cx}
theorem call_list_dict (hc : X.calm = true) : CallR X (.type "list") (fun xs H Q => ∃ (a : Addr) (kvs : List (Key × V)), xs = [.ref a] ∧ H a = some (.dK kvs) ∧ ∀ l, H l = none → Q (.ref l) (upd H l (.lst (kvs.map fun kv => kV kv.1)))) := by
  intro pins s σ H xs us Q I r h
  refine Ea.x2_3 h fun a kvs qz554 hd q => ?_; try clear h; subst qz554
  rw [Vals.ref1 r]
  obtain ⟨hz, hsys, vs, rel, hD⟩ := dk_of I.hok hd
  obtain ⟨ep, hat⟩ := hD.dictAt
  have hlen := rel.length
  refine PySem.W.kdl_call (PySem.W.kdl_dict (knd := mixKind X.prog X.w) (kvs := vs) (ep := ep) hsys) (I.ok.hd hc) hat (by rw [← hlen]; exact hz) fun h' tk acc' c' hk hD' hacc => ?_
  refine ⟨.ref s.heap.objs.size, _, I.laid (t' := tk) hk (Nat.le_refl _) (show ObjOk X.prog X.w _ h' _ (.lst (kvs.map fun kv => kV kv.1)) from ⟨by rw [List.length_map]; exact hz, acc'.toList, c', vals_at ?_ fun j x u h1 h2 => ?_, by simpa using hD'⟩), rfl, q _ (I.hok.fresh (Nat.le_refl _))⟩
  · rw [List.length_map, hlen, Array.length_toList (xs := acc')]; exact hacc.1.symm
  · rw [List.getElem?_map] at h1
    cases e : kvs[j]? with
    | none => rw [e] at h1; cases h1
    | some kv =>
      obtain ⟨k, y⟩ := kv
      rw [e] at h1
      refine Ea.x1_2 (kv_get rel e) fun u' hu' _ => ?_
      obtain ⟨k2, x2, hx2, hk2⟩ := hacc.2 j u (by rw [← Array.getElem?_toList]; exact h2)
      rw [hu'] at hx2
      cases hx2
      cases h1
      exact relV_key hk2
end
structure MkOk (P : Program) (w : World) (K : PySem.W.Frag) (mg : Str → Option Value) (base : Heap) (C : Addr) (k : Nat) (ps : List Str) (sp : Sp) : Prop where
  ex : ∃ (f : Addr) (fd : FuncData), Mk K C f ∧ FnOk P w K mg base CX0 k f fd ps sp ∧ Binds K fd ps []
section
variable {X : Cx} {C : Addr} {x : Str} {k : Nat} {ps : List Str} {sp : Sp} {e : Expr} {es : List Expr} {t : TA} {pos p : Pos}
theorem pe_mk (M : MkOk X.prog X.w X.K X.mg X.base C k ps sp) (hr : Room (k + 1) X.A) (hg : Gl X x) (hm : X.mg x = some (.ref C)) (ha : PA X (e :: es) t) (hdb : (x == ("__debug__" : Str)) = false := by decide)
    (he : starEach (e :: es) X.env = (false, eval e X.env) :: starEach es X.env := by rfl) (hpl : (backTo pos (starEach es X.env)).any (·.1) = false := by rfl) : PE X (.Call (.Name x p) (e :: es) [] pos) (tMake C sp [] E0 t) := by
  refine Ea.x2_3 M.ex fun f fd h1 h2 h3 => ?_
  exact pe_make h1 h2 hr hg hm h3 .nil pass0 ha hdb he hpl
theorem pe_mk0 (M : MkOk X.prog X.w X.K X.mg X.base C k ps sp) (hr : Room (k + 1) X.A) (hg : Gl X x) (hm : X.mg x = some (.ref C)) (hdb : (x == ("__debug__" : Str)) = false := by decide) : PE X (.Call (.Name x p) [] [] pos) (tMake C sp [] E0 tNil) := by
  refine Ea.x2_3 M.ex fun f fd h1 h2 h3 => ?_
  exact pe_make0 h1 h2 hr hg hm h3 .nil pass0 hdb
end
noncomputable def kvN (l : List (Nat × Int)) : List (Key × V) := l.map fun p => (Sum.inl ((p.1 : Nat) : Int), V.int p.2)
theorem kvN_len (l : List (Nat × Int)) : (kvN l).length = l.length := List.length_map _
theorem keyN (a b : Nat) : ((Sum.inl ((a : Nat) : Int) : Key) = Sum.inl ((b : Nat) : Int)) ↔ a = b := ⟨fun h => by injection h with h; lia, fun h => by rw [h]⟩
theorem valV_kvN (k : Nat) : ∀ l : List (Nat × Int), valV (kvN l) (Sum.inl ((k : Nat) : Int)) = (look l k).map V.int
  | [] => rfl
  | p :: r => by
    show valV ((Sum.inl ((p.1 : Nat) : Int), V.int p.2) :: kvN r) _ = _
    by_cases e : p.1 = k
    · rw [valV_pos (by rw [keyN]; exact e), look_pos e]; rfl
    · rw [valV_neg (by rw [keyN]; exact e), look_neg e]; exact valV_kvN k r
theorem putK_kvN (l : List (Nat × Int)) (k : Nat) (v : Int) : putK (kvN l) (Sum.inl ((k : Nat) : Int)) (V.int v) = kvN (putN l k v) := by
  unfold putK putN
  rw [valV_any, valV_kvN, look_any, Option.isSome_map]
  split
  · unfold kvN
    rw [List.map_map, List.map_map]
    apply List.map_congr_left
    intro p _
    simp only [Function.comp, keyN]
    split <;> rfl
  · unfold kvN
    rw [List.map_append]; rfl
theorem kvN_keys (l : List (Nat × Int)) : (kvN l).map (fun kv => kV kv.1) = nats (keysN l) := by
  unfold kvN nats keysN
  rw [List.map_map, List.map_map]
  rfl
section
variable {K : PySem.W.Frag} {D : Ends} {σ : St} {H : Hp} {te ti to td ty tv ta tb : TE} {t u rest : TS} {c : TT} {v : V} {n : Nat} {x y : Int} {a : Addr} {l : List (Nat × Int)} {k : Nat}
theorem ev_op {Cn : Int → Int → Prop} {g : Int → Int → V} (h : Ev ta σ H (.int x)) (k : Ev tb σ H (.int y)) (q : Cn x y) : Ev (tOp (rI Cn g) ta tb) σ H (g x y) := fun Q z => h _ (k _ ⟨x, y, rfl, rfl, q, z⟩)
theorem ev_dget (hd : Ev td σ H (.ref a)) (hk : Ev ty σ H (.int x)) (ha : H a = some (.dK (kvN l))) (e : x = (k : Nat)) (hv : look l k = some y) : Ev (tDGet td ty) σ H (.int y) :=
  fun Q q => hd _ (hk _ ⟨a, .int y, rfl, by
    have := DGet.k (k := Sum.inl ((k : Nat) : Int)) ha
    rw [valV_kvN, hv] at this
    rw [e]; exact this, q⟩)
theorem et_din (hd : Ev td σ H (.ref a)) (hk : Ev ty σ H (.int x)) (ha : H a = some (.dK (kvN l))) (e : x = (k : Nat)) : Et (tB (tDIn ty td)) σ H (look l k).isSome :=
  fun Q q => hk _ (hd _ ⟨a, (look l k).map V.int, rfl, by
    have := DGet.k (k := Sum.inl ((k : Nat) : Int)) ha
    rw [valV_kvN] at this
    rw [e]; exact this, _, rfl, by rw [Option.isSome_map]; exact q⟩)
theorem et_dnotin (hd : Ev td σ H (.ref a)) (hk : Ev ty σ H (.int x)) (ha : H a = some (.dK (kvN l))) (e : x = (k : Nat)) : Et (tB (tDNotIn ty td)) σ H (!(look l k).isSome) :=
  fun Q q => hk _ (hd _ ⟨a, (look l k).map V.int, rfl, by
    have := DGet.k (k := Sum.inl ((k : Nat) : Int)) ha
    rw [valV_kvN] at this
    rw [e]; exact this, _, rfl, by rw [Option.isSome_map]; exact q⟩)
theorem s_dput (hd : Ev td σ H (.ref a)) (hk : Ev ty σ H (.int x)) (h : Ev tv σ H (.int y)) (ha : H a = some (.dK (kvN l))) (e : x = (k : Nat)) (hl : l.length < 1000000) (q : D.nx σ (upd H a (.dK (kvN (putN l k y))))) : sDPut td ty tv D σ H :=
  h _ (hd _ (hk _ ⟨a, _, rfl, by
    have := DPut.k (k := Sum.inl ((k : Nat) : Int)) (v := V.int y) ha (by rw [kvN_len]; exact Nat.lt_of_lt_of_le hl (by decide))
    rw [putK_kvN] at this
    rw [e]; exact this, q⟩))
theorem et_truthI (h : Ev te σ H (.int x)) : Et (fun σ H Q => te σ H fun z H' => ∃ k, TruV K z H' k ∧ Q k H') σ H (x != 0) := fun Q q => h _ ⟨_, rfl, q⟩
theorem et_truthB {b : Bool} (h : Ev te σ H (.bl b)) : Et (fun σ H Q => te σ H fun z H' => ∃ k, TruV K z H' k ∧ Q k H') σ H b := fun Q q => h _ ⟨_, rfl, q⟩
theorem ev_if {b : Bool} (h : Et c σ H b) (h1 : b = true → Ev ta σ H v) (h2 : b = false → Ev tb σ H v) : Ev (tIf c ta tb) σ H v := fun Q q => h _ (by
  cases b with
  | true => exact h1 rfl Q q
  | false => exact h2 rfl Q q)
theorem s_fld {C dx : Addr} {fs : List (Str × V)} {f : Str} (h : Ev tv σ H v) (ho : Ev ta σ H (.ref a)) (hH : H a = some (.ins C dx fs)) (cl : Cls K C) (na : NoAttr K C f) (hl : fs.length < 1000) (q : D.nx σ (upd H a (.ins C dx (putF f v fs)))) : sFld K ta tv f D σ H :=
  h _ (ho _ (Ea.i4 a C dx fs ⟨rfl, hH, cl, na, hl, q⟩))
end
theorem putF_len {f : Str} {v w : V} : ∀ {fs : List (Str × V)}, fs.lookup f = some w → (putF f v fs).length = fs.length
  | [], h => by cases h
  | (g, x) :: r, h => by
    rw [show putF f v ((g, x) :: r) = (if g = f then (g, v) :: r else (g, x) :: putF f v r) from rfl]
    by_cases e : g = f
    · rw [if_pos e]; rfl
    · rw [if_neg e, List.length_cons, List.length_cons]
      have hb : (f == g) = false := beq_eq_false_iff_ne.mpr fun q => e q.symm
      simp only [List.lookup, hb] at h
      rw [putF_len h]
end Mg
end
section
set_option maxRecDepth 100000
set_option maxHeartbeats 2000000
namespace Mg
open PySem PySem.Spec
open PyProof.Rows hiding St
open L2
noncomputable def top (i : Nat) : Stmt := PySem.Challenge.pw_markedgrainsdesk_s01_answers.main.body.getD i (.Pass ⟨0, 0, 0, 0⟩)
noncomputable def flds : List Str := ["goals", "rooms", "ways", "outlets", "leasts", "highest", "lowest"]
structure Txt (K : PySem.W.Frag) (mg : Str → Option Value) (C : Addr) : Prop where
  clCourses : Cls K C
  n_goals : NoAttr K C "goals"
  n_rooms : NoAttr K C "rooms"
  n_ways : NoAttr K C "ways"
  n_outlets : NoAttr K C "outlets"
  n_leasts : NoAttr K C "leasts"
  n_highest : NoAttr K C "highest"
  n_lowest : NoAttr K C "lowest"
  g_OUTSIDE : ∃ t, mg "OUTSIDE" = some (.int 0 t)
  g_GATHERED : ∃ t, mg "GATHERED" = some (.int 1 t)
  g_FIRST_TANK : ∃ t, mg "FIRST_TANK" = some (.int 2 t)
  len : mg "len" = none
  sum : mg "sum" = none
  enumerate : mg "enumerate" = none
  list : mg "list" = none
  range : mg "range" = none
  min : mg "min" = none
  max : mg "max" = none
structure Nt (C : Addr) (H : Hp) (a dx ag ar aw : Addr) (was : List Addr) (fs : List (Str × V)) (goals : List Nat) (rooms : List Int) (ways : List (List Nat)) : Prop where
  obj : H a = some (.ins C dx fs)
  fg : fs.lookup ("goals" : Str) = some (.ref ag)
  fr : fs.lookup ("rooms" : Str) = some (.ref ar)
  fw : fs.lookup ("ways" : Str) = some (.ref aw)
  fo : ∀ m, m ∉ flds → fs.lookup m = none
  g : H ag = some (.lst (nats goals))
  r : H ar = some (.lst (intz rooms))
  w : H aw = some (.lst (was.map V.ref))
  wl : was.length = ways.length
  ws : ∀ p b, was[p]? = some b → H b = some (.lst (nats (wy ways p)))
  rg : ar ≠ ag
  rw : ar ≠ aw
  rs : ar ∉ was
section
variable {C : Addr} {H H' : Hp} {a dx ag ar aw : Addr} {was : List Addr} {fs : List (Str × V)} {goals : List Nat} {rooms : List Int} {ways : List (List Nat)}
structure Apart (a ag ar aw : Addr) (was : List Addr) (b : Addr) : Prop where
  a : b ≠ a
  g : b ≠ ag
  r : b ≠ ar
  w : b ≠ aw
  s : b ∉ was
theorem Nt.keep (N : Nt C H a dx ag ar aw was fs goals rooms ways) {b : Addr} (hb : Apart a ag ar aw was b) (k : ∀ x o, H x = some o → x ≠ b → H' x = some o) : Nt C H' a dx ag ar aw was fs goals rooms ways :=
  ⟨k _ _ N.obj hb.a.symm, N.fg, N.fr, N.fw, N.fo, k _ _ N.g hb.g.symm, k _ _ N.r hb.r.symm, k _ _ N.w hb.w.symm, N.wl, fun p x h => k _ _ (N.ws p x h) fun e => hb.s (e ▸ List.mem_of_getElem? h), N.rg, N.rw, N.rs⟩
theorem Nt.upd (N : Nt C H a dx ag ar aw was fs goals rooms ways) {b : Addr} {o : HO} (hb : Apart a ag ar aw was b) : Nt C (upd H b o) a dx ag ar aw was fs goals rooms ways :=
  N.keep hb fun x o h hx => by rw [upd_ne hx]; exact h
theorem Nt.same (N : Nt C H a dx ag ar aw was fs goals rooms ways) (k : ∀ x o, H x = some o → H' x = some o) : Nt C H' a dx ag ar aw was fs goals rooms ways :=
  ⟨k _ _ N.obj, N.fg, N.fr, N.fw, N.fo, k _ _ N.g, k _ _ N.r, k _ _ N.w, N.wl, fun p x h => k _ _ (N.ws p x h), N.rg, N.rw, N.rs⟩
theorem Nt.new (N : Nt C H a dx ag ar aw was fs goals rooms ways) {b : Addr} (hb : H b = Option.none) : Apart a ag ar aw was b :=
  ⟨(fun e => by rw [e, N.obj] at hb; cases hb), (fun e => by rw [e, N.g] at hb; cases hb), (fun e => by rw [e, N.r] at hb; cases hb), (fun e => by rw [e, N.w] at hb; cases hb),
    fun m => by
      obtain ⟨p, hp⟩ := List.mem_iff_getElem?.mp m
      rw [N.ws p b hp] at hb
      cases hb⟩
theorem Nt.setRooms (N : Nt C H a dx ag ar aw was fs goals rooms ways) {rooms' : List Int} (k : ∀ x o, H x = some o → x ≠ ar → H' x = some o) (hr : H' ar = some (.lst (intz rooms'))) : Nt C H' a dx ag ar aw was fs goals rooms' ways := by
  have ha : a ≠ ar := fun e => by have h1 := N.obj; rw [e, N.r] at h1; cases h1
  exact ⟨k _ _ N.obj ha, N.fg, N.fr, N.fw, N.fo, k _ _ N.g N.rg.symm, hr, k _ _ N.w N.rw.symm, N.wl, fun p x h => k _ _ (N.ws p x h) fun e => N.rs (e ▸ List.mem_of_getElem? h), N.rg, N.rw, N.rs⟩
end
section
variable {P : Program} {w : World} {K : PySem.W.Frag} {mg : Str → Option Value} {base : Heap} {C : Addr}
noncomputable def spNearer (C : Addr) : Sp := fun vs H Q _ => ∃ (m : Nat) (a dx ag ar aw lf lt : Addr) (was : List Addr) (fs : List (Str × V)) (goals : List Nat) (rooms : List Int) (ways : List (List Nat)) (far : List Int) (tried : List Nat) (place : Nat),
  vs = [.ref a, .int place, .ref lf, .ref lt] ∧ Nt C H a dx ag ar aw was fs goals rooms ways ∧ H lf = some (.lst (intz far)) ∧ H lt = some (.lst (nats tried)) ∧ Apart a ag ar aw was lt ∧ Fit m goals rooms ways ∧
  place < ways.length ∧ far.length = ways.length ∧ tried.length = ways.length ∧ tried.getD place 0 ≤ (wy ways place).length ∧ (wy ways place).length < 1000000 ∧
  (∀ (i v : Nat), tried.getD place 0 ≤ i → (wy ways place)[i]? = some v → Adm goals rooms far place v → (∀ (j u : Nat), tried.getD place 0 ≤ j → j < i → (wy ways place)[j]? = some u → ¬ Adm goals rooms far place u) →
    Q (.int v) (upd H lt (.lst (nats (tried.set place i))))) ∧
  ((∀ (j u : Nat), tried.getD place 0 ≤ j → (wy ways place)[j]? = some u → ¬ Adm goals rooms far place u) → Q (.int (-1)) (upd H lt (.lst (nats (tried.set place (wy ways place).length)))))
noncomputable abbrev s_Courses_nearer_way : Stmt := inClass (top 4) 23
theorem sc_Courses_nearer_way : FnScope ["self", "place", "far", "tried", "ways", "nearer", "first", "at", "way"] ["self", "place", "far", "tried"] (defScope s_Courses_nearer_way) := ⟨rfl, rfl, rfl, by decide +kernel, rfl, by decide +kernel, by decide +kernel⟩
theorem ok_nearer {f : Addr} {fd : FuncData} (F : Fun K "nearer_way" "Courses.nearer_way" s_Courses_nearer_way f fd) (T : Txt K mg C) : FnOk P w K mg base CX0 1 f fd ["self", "place", "far", "tried"] (spNearer C) := by
  refine F.ok sc_Courses_nearer_way (fun vs H Q E h => ?_) (fun cdv A outer s H vs Q E hr h => ?_)
  · refine Ea.l16 h fun m a dx ag ar aw lf lt was fs goals rooms ways far tried place qz555 => ?_; try clear h; subst qz555
    rfl
  · refine Ea.x16_13 h fun m a dx ag ar aw lf lt was fs goals rooms ways far tried place qz557 N hf ht hap Fi hp fl tl tle wl k1 k2 => ?_; try clear h; subst qz557
    obtain ⟨b, hb⟩ : ∃ b, was[place]? = some b := ⟨_, List.getElem?_eq_getElem (by rw [N.wl]; exact hp)⟩
    have hB := N.ws place b hb
    refine ⟨_, (pss_cons (ps_set (i := 4) sc_Courses_nearer_way.nd rfl (Or.inl rfl) (pe_ix ix_list (pe_fld (pv 0) rfl) (pv 1) (fun _ _ => rfl)))
        (pss_cons (ps_set (i := 5) sc_Courses_nearer_way.nd rfl (Or.inl rfl) (pe_op op_sub (pe_ix ix_list (pv 2) (pv 1) (fun _ _ => rfl)) pe_int))
        (pss_cons (ps_set (i := 6) sc_Courses_nearer_way.nd rfl (Or.inl rfl) (pe_ix ix_list (pv 3) (pv 1) (fun _ _ => rfl)))
        (pss_cons (ps_for PassesOwn.never rfl (pi_range2 rfl T.range (pa_cons (pv 6) (pa_cons (pe_callB call_len_seq (by rfl) T.len PySem.boot_len (pa_cons (pv 4) pa_nil)) pa_nil))) (pg_name (i := 7) sc_Courses_nearer_way.nd rfl (Or.inl rfl))
        (pss_cons (ps_set (i := 8) sc_Courses_nearer_way.nd rfl (Or.inl rfl) (pe_ix ix_list (pv 4) (pv 7) (fun _ _ => rfl)))
        (pss_one (ps_if (PW.pt (pw_and (pt_cmpR op_eq (pe_ix ix_list (pv 2) (pe_ix ix_list (pe_fld (pv 0) rfl) (pv 8) (fun _ _ => rfl)) (fun _ _ => rfl)) (pv 5) (nomark _)) (pw_and1 (pt_cmpR op_gt (pe_ix ix_list (pe_fld (pv 0) rfl) (pv 8) (fun _ _ => rfl)) pe_int (nomark _)))))
        (pss_cons (ps_asg (pv 7) (pg_sub (pv 3) (pv 1) set_list))
        (pss_one (ps_ret (pv 8))))
        pss_nil))))
        (pss_cons (ps_asg (pe_callB call_len_seq (by rfl) T.len PySem.boot_len (pa_cons (pv 4) pa_nil)) (pg_sub (pv 3) (pv 1) set_list))
        (pss_one (ps_ret (pe_un un_neg pe_int)))))))), ?_⟩
    refine s_seq (s_set (v := .ref b) (ev_ix (ev_fld (ev_var rfl) N.obj T.clCourses T.n_ways N.fw) (ev_var rfl) N.w rfl (by rw [List.getElem?_map, hb]; rfl)) ?_)
    with_reducible refine s_nx ?_
    refine s_seq (s_set (ev_op0 (ev_ix (ev_var rfl) (ev_var rfl) hf rfl (ints_get (by rw [fl]; exact hp))) ev_c) ?_)
    with_reducible refine s_nx ?_
    refine s_seq (s_set (ev_ix (ev_var rfl) (ev_var rfl) ht rfl (nats_get (by rw [tl]; exact hp))) ?_)
    have hn : (((nats (wy ways place)).length : Int) - (tried.getD place 0 : Int)).toNat = (wy ways place).length - tried.getD place 0 := by rw [List.length_map]; lia
    with_reducible refine s_nx ?_
    refine s_seq ?_
    refine a_forR2 (ea_cons (ev_var rfl) (ea_cons (ev_len (ev_var rfl) hB) ea_nil)) ⟨by lia, by lia, by lia, by rw [List.length_map]; lia⟩ hn (fun i σ H' => H' = H ∧ (∃ v7 v8, σ = [some (.ref a), some (.int place), some (.ref lf), some (.ref lt), some (.ref b), some (.int (far.getD place 0 - 1)), some (.int (tried.getD place 0 : Nat)), v7, v8]) ∧
      ∀ (j u : Nat), tried.getD place 0 ≤ j → j < tried.getD place 0 + i → (wy ways place)[j]? = some u → ¬ Adm goals rooms far place u) ⟨rfl, ⟨none, none, rfl⟩, fun j u h1 h2 => by lia⟩ ?_ ?_
    · intro Uf hU i σ H' hi qz559
      refine Ea.a3 qz559 fun qz560 qz561 hno => ?_; try clear qz559; subst qz560; obtain ⟨v7, v8, rfl⟩ := qz561
      have hiL : tried.getD place 0 + i < (wy ways place).length := by lia
      have hget := List.getElem?_eq_getElem hiL
      obtain ⟨wv, hwv⟩ : ∃ v, (wy ways place)[tried.getD place 0 + i]? = some v := ⟨_, hget⟩
      obtain ⟨wm, wp⟩ := Fi.wo place wv (List.mem_of_getElem? hwv)
      refine s_seq (s_set (v := .int (wv : Nat)) (ev_ix (ev_var rfl) (ev_var rfl) hB (n := tried.getD place 0 + i) (by push_cast; rfl) (by rw [List.getElem?_map, hwv]; rfl)) ?_)
      have gN := Fi.gN wv wm
      with_reducible refine s_nx ?_
      refine s_if (et_and (et_test (ev_eq (ev_ix (ev_var rfl) (ev_ix (ev_fld (ev_var rfl) N.obj T.clCourses T.n_goals N.fg) (ev_var rfl) N.g rfl (nats_get (by rw [Fi.gl]; exact wm))) hf rfl (ints_get (by rw [fl]; exact gN))) (ev_var rfl) rfl))
        fun _ => et_test (ev_op0 (ev_ix (ev_fld (ev_var rfl) N.obj T.clCourses T.n_rooms N.fr) (ev_var rfl) N.r rfl (ints_get (by rw [Fi.rl]; exact wm))) ev_c)) (fun hb1 => ?_) (fun hb1 => ?_)
      · rw [Bool.and_eq_true, decide_eq_true_eq, decide_eq_true_eq] at hb1
        refine s_seq (s_put (ev_var rfl) (ev_var rfl) (ev_var rfl) ht rfl (by rw [List.length_map, tl]; exact hp) ?_)
        with_reducible refine s_nx ?_
        refine s_ret (ev_var rfl) ?_
        have q := k1 (tried.getD place 0 + i) wv (by lia) hwv ⟨V.int.inj hb1.1, hb1.2⟩ (fun j u h1 h2 => hno j u h1 h2)
        rw [← nats_set] at q
        exact q
      · refine hU ⟨rfl, ⟨_, _, rfl⟩, fun j u h1 h2 hu => ?_⟩
        by_cases e : j = tried.getD place 0 + i
        · subst e
          rw [hwv] at hu
          cases hu
          intro hA
          have : (decide (V.int (far.getD (goals.getD wv 0) 0) = V.int (far.getD place 0 - 1)) && decide ((0 : Int) < rooms.getD wv 0)) = true := by
            rw [Bool.and_eq_true, decide_eq_true_eq, decide_eq_true_eq]
            exact ⟨congrArg V.int hA.1, hA.2⟩
          rw [this] at hb1
          cases hb1
        · exact hno j u h1 (by lia) hu
    · intro σ H' qz562
      refine Ea.a3 qz562 fun qz563 qz564 hno => ?_; try clear qz562; subst qz563; obtain ⟨v7, v8, rfl⟩ := qz564
      with_reducible refine s_nx ?_
      refine s_seq (s_put (ev_len (ev_var rfl) hB) (ev_var rfl) (ev_var rfl) ht rfl (by rw [List.length_map, tl]; exact hp) ?_)
      with_reducible refine s_nx ?_
      refine s_ret (ev_un ev_c) ?_
      have q := k2 fun j u h1 hu => hno j u h1 (by have := (List.getElem?_eq_some_iff.mp hu).1; lia) hu
      rw [← nats_set] at q
      rw [List.length_map]
      exact q
end
end Mg
end
section
set_option maxRecDepth 100000
set_option maxHeartbeats 2000000
namespace Mg
open PySem PySem.Spec
open PyProof.Rows hiding St
open L2
section
variable {P : Program} {w : World} {K : PySem.W.Frag} {mg : Str → Option Value} {base : Heap} {C : Addr}
noncomputable def spPath (C : Addr) : Sp := fun vs H Q _ => ∃ (m : Nat) (a dx ag ar aw lp : Addr) (was : List Addr) (fs : List (Str × V)) (goals : List Nat) (rooms : List Int) (ways : List (List Nat)) (path : List Nat) (wanted : Int) (origin goal : Nat),
  vs = [.ref a, .ref lp, .int wanted] ∧ Nt C H a dx ag ar aw was fs goals rooms ways ∧ H lp = some (.lst (nats path)) ∧ lp ≠ ar ∧ Fit m goals rooms ways ∧ 0 < wanted ∧ path ≠ [] ∧ path.length < 1000000 ∧
  Chn goals origin path goal ∧ path.Nodup ∧ (∀ v, v ∈ path → v < 2 * m ∧ 0 < rooms.getD v 0) ∧
  ∀ (v : Int) (rooms' : List Int) (H' : Hp), 0 < v → v ≤ wanted → Flo m goals origin goal v rooms rooms' → (∀ w, 0 ≤ rooms'.getD w 0) → (∀ x o, H x = some o → x ≠ ar → H' x = some o) → H' ar = some (.lst (intz rooms')) → Q (.int v) H'
noncomputable abbrev s_Courses_push_path : Stmt := inClass (top 4) 24
theorem sc_Courses_push_path : FnScope ["self", "path", "wanted", "pushed", "way"] ["self", "path", "wanted"] (defScope s_Courses_push_path) := ⟨rfl, rfl, rfl, by decide +kernel, rfl, by decide +kernel, by decide +kernel⟩
theorem ok_path {f : Addr} {fd : FuncData} (F : Fun K "push_path" "Courses.push_path" s_Courses_push_path f fd) (T : Txt K mg C) : FnOk P w K mg base CX0 1 f fd ["self", "path", "wanted"] (spPath C) := by
  refine F.ok sc_Courses_push_path (fun vs H Q E h => ?_) (fun cdv A outer s H vs Q E hr h => ?_)
  · refine Ea.l16 h fun m a dx ag ar aw lp was fs goals rooms ways path wanted origin goal qz565 => ?_; try clear h; subst qz565
    rfl
  · refine Ea.e16 h fun m a dx ag ar aw lp was fs goals rooms ways path wanted origin goal qz568 => Ea.a12 qz568 fun qz567 N hp hpr Fi hw0 hne hpl hc hnd hall k => ?_; try clear h; subst qz567
    refine ⟨_, (pss_cons (ps_set (i := 3) sc_Courses_push_path.nd rfl (Or.inl rfl) (pe_callB (call_min2 rfl) (by rfl) T.min PyProof.Rows.boot_min (pa_cons (pv 2) (pa_cons (pe_callB (cr_min rfl) (by rfl) T.min PyProof.Rows.boot_min (pa_cons (pe_lc rfl sc_Courses_push_path.nd (pi_list (pv 1)) (blkOk_by (own := [("way", 4)]) (by show blkC ["self", "path", "wanted", "pushed", "way"] (defScope s_Courses_push_path) _ _ = true; decide +kernel)) (fun _ _ _ _ _ => pg_name (i := 4) sc_Courses_push_path.nd rfl (Or.inl rfl)) (fun _ _ _ _ _ => pts_nil) (fun _ _ _ _ _ => (show PE _ _ (tOp (rIxL K) (tFld K (tVar 0) "rooms") (tVar 4)) from (pe_ix ix_list (pe_fld (pv 0) rfl) (pv 4) (fun _ _ => rfl))))) pa_nil)) pa_nil))))
        (pss_cons (ps_for PassesOwn.never rfl (pi_list (pv 1)) (pg_name (i := 4) sc_Courses_push_path.nd rfl (Or.inl rfl))
        (pss_cons (ps_augS (pe_fld (pv 0) rfl) (pv 4) get_list (pv 3) ip_sub set_list)
        (pss_one (ps_augS (pe_fld (pv 0) rfl) (pe_op op_xor (pv 4) pe_int) get_list (pv 3) ip_add set_list))))
        (pss_one (ps_ret (pv 3))))), ?_⟩
    refine s_seq (a_set (a_cb (a_cons (var_go (v := .int wanted) rfl (a_cons (a_cb (a_cons (a_lc (a_iL (var_go (v := .ref lp) rfl ⟨lp, rfl, ⟨_, SqL.of hp⟩, fun Dd hD => ?_⟩))))))))))
    have same : ∀ x o, H x = some o → ∀ l, (upd H Dd (.lst l)) x = some o := fun x o h l => by rw [upd_ne (ne_of_none h hD)]; exact h
    refine lc_list (K := K) (a := lp) (xs := nats path) (fun i H' => H' = upd H Dd (.lst (intz ((path.take i).map fun v => rooms.getD v 0)))) rfl (fun i H' _ e => by rw [e]; exact SqL.of (same _ _ hp _)) ?_ ?_
    · rintro i x H' hi rfl
      refine Ea.x1_2 (nats_at hi) fun v hv qz569 => ?_; subst qz569
      obtain ⟨vm, vr⟩ := hall v (List.mem_of_getElem? hv)
      refine ⟨rfl, yes_go (iteT ?_)⟩
      refine op_go (ev_ix (ev_fld (ev_var rfl) (same _ _ N.obj _) T.clCourses T.n_rooms N.fr) (ev_var rfl) (same _ _ N.r _) rfl (ints_get (by rw [Fi.rl]; exact vm))) ?_
      refine ⟨_, upd_same, ?_, ?_⟩
      · rw [List.length_map, List.length_map, List.length_take]
        exact Nat.lt_of_le_of_lt (Nat.min_le_right _ _) (Nat.lt_of_lt_of_le hpl (by decide))
      · rw [upd_upd, take_at hv, List.map_append, intz, intz, List.map_append]
        rfl
    · rintro H' rfl
      rw [List.length_map, List.take_length]
      refine ⟨Dd, _, rfl, SqL.of upd_same, ?_, fun mn hm1 hm2 => ?_⟩
      · rw [List.length_map]; exact List.length_pos_iff.mpr hne
      refine ⟨wanted, mn, rfl, ?_⟩
      refine Ea.x1_2 (List.mem_map.mp hm1) fun v0 hv0 qz570 => ?_; subst qz570
      have hmn := (hall v0 hv0).2
      obtain ⟨v, hv⟩ : ∃ v, v = if rooms.getD v0 0 < wanted then rooms.getD v0 0 else wanted := ⟨_, rfl⟩
      rw [← hv]
      have hvp : 0 < v := by rw [hv]; split <;> lia
      have hvw : v ≤ wanted := by rw [hv]; split <;> lia
      have hvr : ∀ u, u ∈ path → u < 2 * m ∧ v ≤ rooms.getD u 0 := fun u hu => by
        have h1 := hall u hu
        have h2 := hm2 _ (List.mem_map.mpr ⟨u, hu, rfl⟩)
        refine ⟨h1.1, ?_⟩
        rw [hv]; split <;> lia
      have a0 : ar ≠ Dd := fun e => by have := N.r; rw [e, hD] at this; cases this
      with_reducible refine s_nx ?_
      refine s_seq ?_
      refine s_for (K := K) (xs := nats path) (ev_var rfl) (SqL.of (same _ _ hp _)) (fun i σ H' => ∃ v4 rooms1 x, σ = [some (.ref a), some (.ref lp), some (.int wanted), some (.int v), v4] ∧ Psh m goals origin goal v rooms rooms1 x (path.drop i) ∧
          (∀ x o, H x = some o → x ≠ ar → H' x = some o) ∧ H' ar = some (.lst (intz rooms1)))
        (Ea.i3 _ rooms origin ⟨rfl, psh_start Fi hvr hnd hc, fun x o h _ => same _ _ h _, same _ _ N.r _⟩) (fun i σ H' _ z => Ea.e3 z fun _ _ _ z => SqL.of (z.2.2.1 _ _ hp hpr)) ?_ ?_
      · intro Uf hU i x σ H' hi qz571
        refine Ea.x3_4 qz571 fun v4 rooms1 x1 qz572 PS kp hR => ?_; try clear qz571; subst qz572
        refine Ea.x1_2 (nats_at hi) fun u hu qz574 => ?_; subst qz574
        rw [drop_at hu] at PS
        obtain ⟨um, ur⟩ := PS.rs u (List.mem_cons_self ..)
        have oa : a ≠ ar := fun e => by have h1 := N.obj; rw [e, N.r] at h1; cases h1
        have hO := kp _ _ N.obj oa
        refine s_seq (s_augS (ev_fld (ev_var rfl) hO T.clCourses T.n_rooms N.fr) (ev_var rfl) hR rfl (ints_get (by rw [PS.len]; exact um)) (ev_var rfl) ?_)
        have hO2 : (upd H' ar (.lst ((intz rooms1).set u (.int (rooms1.getD u 0 - v))))) a = some (.ins C dx fs) := by rw [upd_ne oa]; exact hO
        have um1 := xor1_lt um
        have e2 : ((intz rooms1).set u (.int (rooms1.getD u 0 - v)))[u ^^^ 1]? = some (.int (rooms1.getD (u ^^^ 1) 0)) := by
          rw [List.getElem?_set_ne (xor1_ne u).symm]; exact ints_get (by rw [PS.len]; exact um1)
        with_reducible refine s_nx ?_
        refine s_augS (ev_fld (ev_var rfl) hO2 T.clCourses T.n_rooms N.fr) (ev_op0 (ev_var rfl) ev_c) upd_same (xor_nat u 1) e2 (ev_var rfl) ?_
        refine hU (Ea.i3 _ _ _ ⟨rfl, psh_step (by lia) PS, fun x o h hx => ?_, ?_⟩)
        · rw [upd_ne hx, upd_ne hx]; exact kp x o h hx
        · rw [upd_same, ints_set, ints_set]; rfl
      · intro σ H' qz575
        refine Ea.x3_4 qz575 fun v4 rooms1 x1 qz576 PS kp hR => ?_; try clear qz575; subst qz576
        rw [List.length_map, List.drop_length] at PS
        obtain ⟨q1, q2⟩ := psh_end PS
        with_reducible refine s_nx ?_
        refine s_ret (ev_var rfl) (k v rooms1 H' hvp hvw q1 q2 kp hR)
noncomputable def spDist (C : Addr) : Sp := fun vs H Q _ => ∃ (m : Nat) (a dx ag ar aw : Addr) (was : List Addr) (fs : List (Str × V)) (goals : List Nat) (rooms : List Int) (ways : List (List Nat)) (origin goal : Nat),
  vs = [.ref a, .int origin, .int goal] ∧ Nt C H a dx ag ar aw was fs goals rooms ways ∧ Fit m goals rooms ways ∧ origin < ways.length ∧ goal < ways.length ∧ ways.length < 100000 ∧
  ∀ (far : List Int) (lf : Addr) (H' : Hp), Bfs goals rooms ways origin goal far → Same H H' → H lf = Option.none → H' lf = some (.lst (intz far)) → Q (.ref lf) H'
noncomputable abbrev s_Courses_distances : Stmt := inClass (top 4) 21
theorem sc_Courses_distances : FnScope ["self", "origin", "goal", "goals", "rooms", "far", "layer", "steps", "farther", "place", "way", "before"] ["self", "origin", "goal"] (defScope s_Courses_distances) := ⟨rfl, rfl, rfl, by decide +kernel, rfl, by decide +kernel, by decide +kernel⟩
theorem rep_ints (n : Nat) (z : Int) : (List.replicate n [V.int z]).flatten = intz (List.replicate n z) := by
  induction n with
  | zero => rfl
  | succ n ih => rw [List.replicate_succ, List.flatten_cons, ih, List.replicate_succ]; rfl
theorem flat_take {α β : Type} {l : List α} {i : Nat} {a : α} (f : α → List β) (h : l[i]? = some a) : (l.take (i + 1)).flatMap f = (l.take i).flatMap f ++ f a := by
  rw [take_at h, List.flatMap_append]; simp
theorem negs_le (far : List Int) : negs far ≤ far.length := List.countP_le_length
theorem ok_dist {f : Addr} {fd : FuncData} (F : Fun K "distances" "Courses.distances" s_Courses_distances f fd) (T : Txt K mg C) : FnOk P w K mg base CX0 1 f fd ["self", "origin", "goal"] (spDist C) := by
  refine F.ok sc_Courses_distances (fun vs H Q E h => ?_) (fun cdv A outer s H vs Q E hr h => ?_)
  · refine Ea.l13 h fun m a dx ag ar aw was fs goals rooms ways origin goal qz578 => ?_; try clear h; subst qz578
    rfl
  · refine Ea.e13 h fun m a dx ag ar aw was fs goals rooms ways origin goal qz581 => Ea.a7 qz581 fun qz580 N Fi ho hg hW k => ?_; try clear h; subst qz580
    refine ⟨_, (pss_cons (ps_set (i := 3) sc_Courses_distances.nd rfl (Or.inl rfl) (pe_fld (pv 0) rfl))
        (pss_cons (ps_set (i := 4) sc_Courses_distances.nd rfl (Or.inl rfl) (pe_fld (pv 0) rfl))
        (pss_cons (ps_set (i := 5) sc_Courses_distances.nd rfl (Or.inl rfl) (pe_op op_rep (pe_lst (pa_cons (pe_un un_neg pe_int) pa_nil)) (pe_callB call_len_seq (by rfl) T.len PySem.boot_len (pa_cons (pe_fld (pv 0) rfl) pa_nil))))
        (pss_cons (ps_asg pe_int (pg_sub (pv 5) (pv 2) set_list))
        (pss_cons (ps_set (i := 6) sc_Courses_distances.nd rfl (Or.inl rfl) (pe_lst (pa_cons (pv 2) pa_nil)))
        (pss_cons (ps_set (i := 7) sc_Courses_distances.nd rfl (Or.inl rfl) pe_int)
        (pss_cons (ps_while PassesOwn.never (PW.pt (pw_and (pt_truth (pv 6) (by intro _; rfl)) (pw_and1 (pt_cmpR op_lt (pe_ix ix_list (pv 5) (pv 1) (fun _ _ => rfl)) pe_int (nomark _)))))
        (pss_cons (ps_aug (i := 7) sc_Courses_distances.nd rfl (Or.inl rfl) pe_int ip_add)
        (pss_cons (ps_set (i := 8) sc_Courses_distances.nd rfl (Or.inl rfl) (pe_lst pa_nil))
        (pss_cons (ps_for PassesOwn.never rfl (pi_list (pv 6)) (pg_name (i := 9) sc_Courses_distances.nd rfl (Or.inl rfl))
        (pss_one (ps_for PassesOwn.never rfl (pi_list (pe_ix ix_list (pe_fld (pv 0) rfl) (pv 9) (fun _ _ => rfl))) (pg_name (i := 10) sc_Courses_distances.nd rfl (Or.inl rfl))
        (pss_cons (ps_set (i := 11) sc_Courses_distances.nd rfl (Or.inl rfl) (pe_ix ix_list (pv 3) (pv 10) (fun _ _ => rfl)))
        (pss_one (ps_if (PW.pt (pw_and (pt_cmpR op_lt (pe_ix ix_list (pv 5) (pv 11) (fun _ _ => rfl)) pe_int (nomark _)) (pw_and1 (pt_cmpR op_gt (pe_ix ix_list (pv 4) (pe_op op_xor (pv 10) pe_int) (fun _ _ => rfl)) pe_int (nomark _)))))
        (pss_cons (ps_asg (pv 7) (pg_sub (pv 5) (pv 11) set_list))
        (pss_one (ps_expr (pe_bm PySem.F.plainAttrs_list PySem.F.slot_list_append PySem.F.type_list_append mt_append (pv 8) (pa_cons (pv 11) pa_nil)))))
        pss_nil))))))
        (pss_one (ps_set (i := 6) sc_Courses_distances.nd rfl (Or.inl rfl) (pv 8)))))))
        (pss_one (ps_ret (pv 5)))))))))), ?_⟩
    refine s_seq (s_set (ev_fld (ev_var rfl) N.obj T.clCourses T.n_goals N.fg) ?_)
    with_reducible refine s_nx ?_
    refine s_seq (s_set (ev_fld (ev_var rfl) N.obj T.clCourses T.n_rooms N.fr) ?_)
    with_reducible refine s_nx ?_
    refine s_seq (a_set (a_op (a_lst (cons_ea (ea_cons (ev_un (i := 1) ev_c) ea_nil) ⟨by decide, fun l0 hl0 => ?_⟩))))
    have sm0 : Same H (upd H l0 (.lst [.int (-1)])) := fun b o e => by rw [upd_ne (ne_of_none e hl0)]; exact e
    refine cb_go (ev_len (ev_fld (ev_var rfl) (sm0 _ _ N.obj) T.clCourses T.n_ways N.fw) (sm0 _ _ N.w)) ?_
    rw [List.length_map, N.wl]
    refine (Ea.i3 l0 _ _ ⟨rfl, rfl, upd_same, by lia, by lia, ?_, fun lf hlf => ?_⟩)
    · rw [Int.toNat_natCast, List.length_singleton, Nat.one_mul]; exact Nat.le_of_lt (Nat.lt_of_lt_of_le hW (by decide))
    rw [Int.toNat_natCast, rep_ints]
    obtain ⟨H1, hH1⟩ : ∃ H1, H1 = upd H l0 (.lst [.int (-1)]) := ⟨_, rfl⟩
    have nlf : H lf = Option.none := sm0.free hlf
    have sm1 : ∀ l, Same H (upd (upd H l0 (.lst [.int (-1)])) lf (.lst l)) := fun l b o e => by rw [upd_ne (ne_of_none (sm0 _ _ e) hlf)]; exact sm0 _ _ e
    with_reducible refine s_nx ?_
    refine s_seq (s_put (v := .int 0) ev_c (ev_var rfl) (ev_var rfl) upd_same rfl (by rw [List.length_map, List.length_replicate]; exact hg) ?_)
    rw [upd_upd, ints_set]
    with_reducible refine s_nx ?_
    refine s_seq (a_set (a_lst (cons_ea (ea_cons (ev_var (v := .int goal) rfl) ea_nil) ⟨show 1 ≤ sizeLine by decide, fun ll hll => ?_⟩)))
    have nll : H ll = Option.none := (sm1 _).free hll
    have dll : ll ≠ lf := fun e => by rw [e, upd_same] at hll; cases hll
    with_reducible refine s_nx ?_
    refine s_seq (s_set ev_c ?_)
    with_reducible refine s_nx ?_
    refine s_seq ?_
    refine s_while (fun n σ H' => ∃ (kk : Nat) (far : List Int) (layer : List Nat) (ll : Addr) (v8 v9 v10 v11 : Option V), n = negs far + (if layer = [] then 0 else 1) ∧ kk + n ≤ ways.length ∧
      σ = [some (.ref a), some (.int origin), some (.int goal), some (.ref ag), some (.ref ar), some (.ref lf), some (.ref ll), some (.int kk), v8, v9, v10, v11] ∧ Same H H' ∧ H' lf = some (.lst (intz far)) ∧ H' ll = some (.lst (nats layer)) ∧ ll ≠ lf ∧
      Lay goals rooms ways goal kk far layer) (Ea.i8 0 _ ([goal]) ll _ _ _ _ ⟨rfl, ?_, rfl, fun b o e => ?_, ?_, upd_same, dll, lay_start hg⟩) ?_
    · have := negs_set (far := List.replicate ways.length (-1)) (p := goal) (v := 0) (by rw [getD_rep _ _ hg]; decide) (Int.le_refl 0)
      have := negs_le (List.replicate ways.length (-1))
      rw [List.length_replicate] at this
      simp only [List.cons_ne_nil, if_false]
      lia
    · rw [upd_ne (ne_of_none e nll)]; exact sm1 _ _ _ e
    · rw [upd_ne dll.symm, upd_same]
    intro Uw hW n σ H' qz582
    refine Ea.e8 qz582 fun kk far layer ll v8 v9 v10 v11 qz584 => Ea.a8 qz584 fun hn hkn qz583 sm hF hL dl L => ?_; try clear qz582; subst qz583
    have ofar : origin < far.length := by rw [L.len]; exact ho
    refine ⟨_, et_and (et_truth (ev_var rfl) hL) (fun _ => et_test (ev_op0 (ev_ix (ev_var rfl) (ev_var rfl) hF rfl (ints_get ofar)) ev_c)), fun hb => ?_, fun hb => ?_⟩
    · rw [Bool.and_eq_true, Bool.not_eq_true', decide_eq_true_eq] at hb
      have hne : layer ≠ [] := fun e => by rw [e] at hb; exact absurd hb.1 (by simp)
      refine s_seq (s_aug rfl ev_c ?_)
      with_reducible refine s_nx ?_
      refine s_seq (a_set ⟨Nat.zero_le _, fun lr hlr => ?_⟩)
      have nlr : H lr = Option.none := sm.free hlr
      have d1 : lr ≠ lf := fun e => by rw [e, hF] at hlr; cases hlr
      have d2 : lr ≠ ll := fun e => by rw [e, hL] at hlr; cases hlr
      have hL' : (upd H' lr (.lst [])) ll = some (.lst (nats layer)) := by rw [upd_ne d2.symm]; exact hL
      with_reducible refine s_nx ?_
      refine s_seq ?_
      refine s_for (K := K) (xs := nats layer) (ev_var rfl) (SqL.of hL') (fun i σ H1 => ∃ (far1 : List Int) (farther : List Nat) (v9 v10 v11 : Option V), σ = [some (.ref a), some (.int origin), some (.int goal), some (.ref ag), some (.ref ar), some (.ref lf), some (.ref ll), some (.int (kk + 1 : Nat)), some (.ref lr), v9, v10, v11] ∧
          Same H H1 ∧ H1 lf = some (.lst (intz far1)) ∧ H1 ll = some (.lst (nats layer)) ∧ H1 lr = some (.lst (nats farther)) ∧ Trn goals rooms ways kk far ((layer.take i).flatMap (wy ways)) far1 farther)
        (Ea.i5 far ([]) _ _ _ ⟨rfl, fun b o e => by rw [upd_ne (ne_of_none e nlr)]; exact sm _ _ e, by rw [upd_ne d1.symm]; exact hF, hL', upd_same, trn_start L⟩) (fun i σ H1 _ z => Ea.e5 z fun _ _ _ _ _ z => SqL.of z.2.2.2.1) ?_ ?_
      · intro Uf hU i x σ H1 hi qz585
        refine Ea.x5_6 qz585 fun far1 farther u9 u10 u11 qz586 sm1' hF1 hL1 hR1 Tr => ?_; try clear qz585; subst qz586
        refine Ea.x1_2 (nats_at hi) fun place hpl qz588 => ?_; subst qz588
        obtain ⟨pN, pk⟩ := (L.mem place).mp (List.mem_of_getElem? hpl)
        obtain ⟨b, hb2⟩ : ∃ b, was[place]? = some b := ⟨_, List.getElem?_eq_getElem (by rw [N.wl]; exact pN)⟩
        have hB := N.ws place b hb2
        refine s_for (K := K) (a := b) (xs := nats (wy ways place)) (ev_ix (ev_fld (ev_var rfl) (sm1' _ _ N.obj) T.clCourses T.n_ways N.fw) (ev_var rfl) (sm1' _ _ N.w) rfl (by rw [List.getElem?_map, hb2]; rfl)) (SqL.of (sm1' _ _ hB))
          (fun j σ H2 => ∃ (far2 : List Int) (farther2 : List Nat) (v10 v11 : Option V), σ = [some (.ref a), some (.int origin), some (.int goal), some (.ref ag), some (.ref ar), some (.ref lf), some (.ref ll), some (.int (kk + 1 : Nat)), some (.ref lr), some (.int place), v10, v11] ∧
            Same H H2 ∧ H2 lf = some (.lst (intz far2)) ∧ H2 ll = some (.lst (nats layer)) ∧ H2 lr = some (.lst (nats farther2)) ∧ Trn goals rooms ways kk far ((layer.take i).flatMap (wy ways) ++ (wy ways place).take j) far2 farther2)
          (Ea.i4 far1 farther _ _ ⟨rfl, sm1', hF1, hL1, hR1, by rw [List.take_zero, List.append_nil]; exact Tr⟩) (fun j σ H2 _ z => Ea.e4 z fun _ _ _ _ z => SqL.of (z.2.1 _ _ hB)) ?_ ?_
        · intro Ug hV j x σ H2 hj qz589
          refine Ea.x4_6 qz589 fun far2 farther2 w10 w11 qz590 sm2 hF2 hL2 hR2 Tr2 => ?_; try clear qz589; subst qz590
          refine Ea.x1_2 (nats_at hj) fun wv hwv qz592 => ?_; subst qz592
          have wmem := List.mem_of_getElem? hwv
          obtain ⟨wm, wp⟩ := Fi.wo place wv wmem
          have gN := Fi.gN wv wm
          have wm1 := xor1_lt wm
          refine s_seq (s_set (ev_ix (ev_var rfl) (ev_var rfl) (sm2 _ _ N.g) rfl (nats_get (by rw [Fi.gl]; exact wm))) ?_)
          have takeE : (layer.take i).flatMap (wy ways) ++ (wy ways place).take (j + 1) = ((layer.take i).flatMap (wy ways) ++ (wy ways place).take j) ++ [wv] := by
            rw [take_at hwv, List.append_assoc]
          with_reducible refine s_nx ?_
          refine s_if (et_and (et_test (ev_op0 (ev_ix (ev_var rfl) (ev_var rfl) hF2 rfl (ints_get (by rw [Tr2.len]; exact gN))) ev_c))
            fun _ => et_test (ev_op0 (ev_ix (ev_var rfl) (ev_op0 (ev_var rfl) ev_c) (sm2 _ _ N.r) (xor_nat wv 1) (ints_get (by rw [Fi.rl]; exact wm1))) ev_c)) (fun hb3 => ?_) (fun hb3 => ?_)
          · rw [Bool.and_eq_true, decide_eq_true_eq, decide_eq_true_eq] at hb3
            refine s_seq (s_put (ev_var rfl) (ev_var rfl) (ev_var rfl) hF2 rfl (by rw [List.length_map, Tr2.len]; exact gN) ?_)
            have lrlen : (nats farther2).length < sizeLine := by
              rw [List.length_map]
              have c1 := Tr2.cnt
              have c2 := negs_le far
              rw [L.len] at c2
              exact Nat.lt_of_le_of_lt (show farther2.length ≤ 100000 by lia) (by decide)
            with_reducible refine s_nx ?_
            refine s_app (ev_var rfl) (ev_var rfl) (by rw [upd_ne d1]; exact hR2) lrlen ?_
            refine hV (Ea.i4 (far2.set (goals.getD wv 0) ((kk + 1 : Nat) : Int)) (farther2 ++ [goals.getD wv 0]) _ _ ⟨rfl, fun b o e => ?_, ?_, ?_, ?_, ?_⟩)
            · rw [upd_ne (ne_of_none e nlr), upd_ne (ne_of_none e nlf)]; exact sm2 _ _ e
            · rw [upd_ne d1.symm, upd_same, ints_set]
            · rw [upd_ne d2.symm, upd_ne dl]; exact hL2
            · rw [upd_same, nats, nats, List.map_append]; rfl
            · rw [takeE]
              have q := trn_yes Fi Tr2 wmem pk hb3.1 hb3.2
              push_cast
              exact q
          · refine hV (Ea.i4 _ _ _ _ ⟨rfl, sm2, hF2, hL2, hR2, ?_⟩)
            rw [takeE]
            refine trn_no Tr2 fun h => ?_
            rw [decide_eq_true h.1, decide_eq_true h.2] at hb3
            cases hb3
        · intro σ H2 qz593
          refine Ea.x4_6 qz593 fun far2 farther2 w10 w11 qz594 sm2 hF2 hL2 hR2 Tr2 => ?_; try clear qz593; subst qz594
          refine hU (Ea.i5 far2 farther2 _ _ _ ⟨rfl, sm2, hF2, hL2, hR2, ?_⟩)
          rw [flat_take _ hpl]
          rw [List.length_map, List.take_length] at Tr2
          exact Tr2
      · intro σ H1 qz596
        refine Ea.x5_6 qz596 fun far1 farther u9 u10 u11 qz597 sm1' hF1 hL1 hR1 Tr => ?_; try clear qz596; subst qz597
        rw [List.length_map, List.take_length] at Tr
        with_reducible refine s_nx ?_
        refine s_set (ev_var rfl) ?_
        have hlt : negs far1 + (if farther = [] then 0 else 1) < n := by
          have := Tr.cnt
          rw [if_neg hne] at hn
          by_cases e : farther = []
          · rw [if_pos e]; lia
          · rw [if_neg e]
            have := List.length_pos_iff.mpr e
            lia
        exact ⟨_, hlt, hW (Ea.i8 (kk + 1) far1 farther lr _ _ _ _ ⟨rfl, by lia, rfl, sm1', hF1, hR1, d1, lay_next Fi L hg Tr⟩)⟩
    · with_reducible refine s_nx ?_
      refine s_ret (ev_var rfl) (k far lf H' (lay_end Fi L (by lia) fun h => ?_) sm nlf hF)
      have : (!(nats layer).isEmpty && decide (far.getD origin 0 < 0)) = true := by
        rw [Bool.and_eq_true, decide_eq_true_eq]
        refine ⟨?_, h.2⟩
        cases layer with
        | nil => exact absurd rfl h.1
        | cons _ _ => rfl
      rw [this] at hb
      cases hb
end
end Mg
end
section
set_option maxRecDepth 100000
set_option maxHeartbeats 2000000
namespace Mg
open PySem PySem.Spec
open PyProof.Rows hiding St
open L2
theorem fall1 {A A' F f f' : Nat} (h : A' ≤ A) (hf : f' < f) : A' * (F + 1) + f' < A * (F + 1) + f := by
  have := Nat.mul_le_mul_right (F + 1) h
  lia
theorem fall2 {A A' F f f' : Nat} (h : A' < A) (hf : f' ≤ F) : A' * (F + 1) + f' < A * (F + 1) + f := by
  have := Nat.mul_le_mul_right (F + 1) (show A' + 1 ≤ A from h)
  rw [Nat.add_mul] at this
  lia
theorem rep_nats (n z : Nat) : (List.replicate n [V.int (z : Nat)]).flatten = nats (List.replicate n z) := by
  induction n with
  | zero => rfl
  | succ n ih => rw [List.replicate_succ, List.flatten_cons, ih, List.replicate_succ]; rfl
section
variable {P : Program} {w : World} {K : PySem.W.Frag} {mg : Str → Option Value} {base : Heap} {C : Addr}
noncomputable def spShort (C : Addr) : Sp := fun vs H Q _ => ∃ (m : Nat) (a dx ag ar aw lf : Addr) (was : List Addr) (fs : List (Str × V)) (goals : List Nat) (rooms : List Int) (ways : List (List Nat)) (far : List Int) (wanted : Int) (origin goal : Nat),
  vs = [.ref a, .int origin, .int goal, .int wanted, .ref lf] ∧ Nt C H a dx ag ar aw was fs goals rooms ways ∧ H lf = some (.lst (intz far)) ∧ lf ≠ ar ∧ Fit m goals rooms ways ∧ Bfs goals rooms ways origin goal far ∧ origin < ways.length ∧ origin ≠ goal ∧ 0 < far.getD origin 0 ∧
  0 < wanted ∧ ways.length < 100000 ∧ (∀ p, (wy ways p).length < 1000000) ∧
  ∀ (v : Int) (rooms' : List Int) (H' : Hp), 0 < v → v ≤ wanted → Flo m goals origin goal v rooms rooms' → (∀ w, 0 ≤ rooms'.getD w 0) → (∀ x o, H x = some o → x ≠ ar → H' x = some o) → H' ar = some (.lst (intz rooms')) → Q (.int v) H'
noncomputable abbrev s_Courses_push_shortest : Stmt := inClass (top 4) 22
theorem sc_Courses_push_shortest : FnScope ["self", "origin", "goal", "wanted", "far", "tried", "path", "place", "pushed", "way"] ["self", "origin", "goal", "wanted", "far"] (defScope s_Courses_push_shortest) := ⟨rfl, rfl, rfl, by decide +kernel, rfl, by decide +kernel, by decide +kernel⟩
theorem ok_short {f : Addr} {fd : FuncData} (F : Fun K "push_shortest" "Courses.push_shortest" s_Courses_push_shortest f fd) (T : Txt K mg C)
    (M_Courses_nearer_way : Mt P w K mg base C "nearer_way" 1 ["self", "place", "far", "tried"] (spNearer C)) (M_Courses_push_path : Mt P w K mg base C "push_path" 1 ["self", "path", "wanted"] (spPath C)) :
    FnOk P w K mg base CX0 2 f fd ["self", "origin", "goal", "wanted", "far"] (spShort C) := by
  refine F.ok sc_Courses_push_shortest (fun vs H Q E h => ?_) (fun cdv A outer s H vs Q E hr h => ?_)
  · refine Ea.l16 h fun m a dx ag ar aw lf was fs goals rooms ways far wanted origin goal qz599 => ?_; try clear h; subst qz599
    rfl
  · refine Ea.x16_13 h fun m a dx ag ar aw lf was fs goals rooms ways far wanted origin goal qz601 N hF hfr Fi B ho hog hfo hw0 hW hwl k => ?_; try clear h; subst qz601
    refine ⟨_, (pss_cons (ps_set (i := 5) sc_Courses_push_shortest.nd rfl (Or.inl rfl) (pe_op op_rep (pe_lst (pa_cons pe_int pa_nil)) (pe_callB call_len_seq (by rfl) T.len PySem.boot_len (pa_cons (pe_fld (pv 0) rfl) pa_nil))))
        (pss_cons (ps_set (i := 6) sc_Courses_push_shortest.nd rfl (Or.inl rfl) (pe_lst pa_nil))
        (pss_cons (ps_set (i := 7) sc_Courses_push_shortest.nd rfl (Or.inl rfl) (pv 1))
        (pss_cons (ps_set (i := 8) sc_Courses_push_shortest.nd rfl (Or.inl rfl) pe_int)
        (pss_cons (ps_while PassesOwn.never (pt_cmpR op_lt (pv 8) (pv 3) (nomark _))
        (pss_cons (ps_set (i := 9) sc_Courses_push_shortest.nd rfl (Or.inl rfl) (pe_mt M_Courses_nearer_way T.clCourses (hr.mono (by decide)) (pv 0) (pa_cons (pv 7) (pa_cons (pv 4) (pa_cons (pv 5) pa_nil)))))
        (pss_cons (ps_if (pt_cmpR op_ge (pv 9) pe_int (nomark _))
        (pss_cons (ps_expr (pe_bm PySem.F.plainAttrs_list PySem.F.slot_list_append PySem.F.type_list_append mt_append (pv 6) (pa_cons (pv 9) pa_nil)))
        (pss_one (ps_set (i := 7) sc_Courses_push_shortest.nd rfl (Or.inl rfl) (pe_ix ix_list (pe_fld (pv 0) rfl) (pv 9) (fun _ _ => rfl)))))
        (pss_one (ps_if (pt_cmpR op_eq (pv 7) (pv 1) (nomark _))
        (pss_one (ps_ret (pv 8)))
        (pss_cons (ps_set (i := 7) sc_Courses_push_shortest.nd rfl (Or.inl rfl) (pe_ix ix_list (pe_fld (pv 0) rfl) (pe_op op_xor (pe_bm0 PySem.F.plainAttrs_list PySem.F.slot_list_pop PySem.F.type_list_pop mt_pop (pv 6)) pe_int) (fun _ _ => rfl)))
        (pss_one (ps_augS (pv 5) (pv 7) get_list pe_int ip_add set_list))))))
        (pss_one (ps_if (pt_cmpR op_eq (pv 7) (pv 2) (nomark _))
        (pss_cons (ps_aug (i := 8) sc_Courses_push_shortest.nd rfl (Or.inl rfl) (pe_mt M_Courses_push_path T.clCourses (hr.mono (by decide)) (pv 0) (pa_cons (pv 6) (pa_cons (pe_op op_sub (pv 3) (pv 8)) pa_nil))) ip_add)
        (pss_cons (ps_set (i := 6) sc_Courses_push_shortest.nd rfl (Or.inl rfl) (pe_lst pa_nil))
        (pss_one (ps_set (i := 7) sc_Courses_push_shortest.nd rfl (Or.inl rfl) (pv 1)))))
        pss_nil)))))
        (pss_one (ps_ret (pv 8)))))))), ?_⟩
    refine s_seq (a_set (a_op (a_lst (cons_ea (ea_cons ev_c ea_nil) ⟨by decide, fun l0 hl0 => ?_⟩))))
    have sm0 : Same H (upd H l0 (.lst [.int 0])) := fun b o e => by rw [upd_ne (ne_of_none e hl0)]; exact e
    refine cb_go (ev_len (ev_fld (ev_var rfl) (sm0 _ _ N.obj) T.clCourses T.n_ways N.fw) (sm0 _ _ N.w)) ?_
    rw [List.length_map, N.wl]
    refine (Ea.i3 l0 _ _ ⟨rfl, rfl, upd_same, by lia, by lia, ?_, fun lt hlt => ?_⟩)
    · rw [Int.toNat_natCast, List.length_singleton, Nat.one_mul]; exact Nat.le_of_lt (Nat.lt_of_lt_of_le hW (by decide))
    rw [Int.toNat_natCast]
    have nlt : H lt = Option.none := sm0.free hlt
    have sm1 : ∀ l, Same H (upd (upd H l0 (.lst [.int 0])) lt (.lst l)) := fun l b o e => by rw [upd_ne (ne_of_none (sm0 _ _ e) hlt)]; exact sm0 _ _ e
    with_reducible refine s_nx ?_
    refine s_seq (a_set ⟨Nat.zero_le _, fun lp hlp => ?_⟩)
    have nlp : H lp = Option.none := (sm1 _).free hlp
    have dlp : lp ≠ lt := fun e => by rw [e, upd_same] at hlp; cases hlp
    with_reducible refine s_nx ?_
    refine s_seq (s_set (ev_var rfl) ?_)
    with_reducible refine s_nx ?_
    refine s_seq (s_set ev_c ?_)
    with_reducible refine s_nx ?_
    refine s_seq ?_
    have apt := N.new nlt
    refine s_while (fun n σ H' => ∃ (rooms1 : List Int) (tried path : List Nat) (place : Nat) (pushed : Int) (lp : Addr) (v9 : Option V), n = ((wanted - pushed).toNat + (slk ways tried).toNat) * ((far.getD origin 0).toNat + 1) + (far.getD place 0).toNat ∧
      σ = [some (.ref a), some (.int origin), some (.int goal), some (.int wanted), some (.ref lf), some (.ref lt), some (.ref lp), some (.int place), some (.int pushed), v9] ∧ pushed ≤ wanted ∧ Srch m goals ways far origin goal rooms rooms1 tried path place pushed ∧
      (∀ x o, H x = some o → x ≠ ar → H' x = some o) ∧ H' ar = some (.lst (intz rooms1)) ∧ H' lt = some (.lst (nats tried)) ∧ H' lp = some (.lst (nats path)) ∧ H lp = Option.none ∧ lp ≠ lt)
      (Ea.i7 rooms (List.replicate ways.length 0) ([]) origin 0 lp _ ⟨rfl, rfl, by lia, srch_start Fi ho hfo, fun x o h _ => ?_, ?_, ?_, upd_same, nlp, dlp⟩) ?_
    · rw [upd_ne (ne_of_none h nlp)]; exact sm1 _ _ _ h
    · rw [upd_ne (ne_of_none N.r nlp)]; exact sm1 _ _ _ N.r
    · rw [upd_ne dlp.symm, upd_same, ← rep_nats]; rfl
    intro Uw hU n σ H' qz603
    refine Ea.e7 qz603 fun rooms1 tried path place pushed lp v9 qz605 => Ea.a10 qz605 fun hn qz604 hpw S kp hR hT hP nlp dlp => ?_; try clear qz603; subst qz604
    have N1 : Nt C H' a dx ag ar aw was fs goals rooms1 ways := N.setRooms kp hR
    have app := N.new nlp
    have hF1 : H' lf = some (.lst (intz far)) := kp _ _ hF hfr
    have far0 := B.le origin ho
    have sfp := S.fp
    have sfpos := S.fpos
    have nn1 := slk_nn S.tle
    refine ⟨_, et_test (ev_op0 (ev_var rfl) (ev_var rfl)), fun hb => ?_, fun hb => ?_⟩
    · have hb : pushed < wanted := of_decide_eq_true hb
      refine s_seq (a_set (ev_meth (ev_var rfl) N1.obj (N1.fo _ (by decide +kernel)) (ea_cons (ev_var rfl) (ea_cons (ev_var rfl) (ea_cons (ev_var rfl) ea_nil))) ?_))
      refine (Ea.i16 m a dx ag ar aw lf lt was fs goals rooms1 ways far tried place ⟨rfl, N1, hF1, hT, apt, S.fit, S.plc, B.len, S.tl, S.tle _ S.plc, hwl place, fun i v h0 hi hA hno => ?_, fun hno => ?_⟩)
      · -- a way was found
        obtain ⟨vm, vp⟩ := S.fit.wo place v (List.mem_of_getElem? hi)
        have gN := S.fit.gN v vm
        have dRt : ar ≠ lt := apt.r.symm
        have dRp : ar ≠ lp := app.r.symm
        with_reducible refine s_nx ?_
        refine s_seq (s_if (et_test (ev_op0 (ev_var rfl) ev_c)) (fun _ => ?_) (fun hz => ?_))
        · refine s_seq (s_app (ev_var rfl) (ev_var rfl) (by rw [upd_ne dlp]; exact hP) ?_ ?_)
          · rw [List.length_map]
            exact Nat.lt_of_lt_of_le (show path.length < 100001 by lia) (by decide)
          with_reducible refine s_nx ?_
          refine s_set (ev_ix (ev_fld (ev_var rfl) (by rw [upd_ne app.a.symm, upd_ne apt.a.symm]; exact N1.obj) T.clCourses T.n_goals N.fg) (ev_var rfl) (by rw [upd_ne app.g.symm, upd_ne apt.g.symm]; exact N1.g) rfl (nats_get (by rw [S.fit.gl]; exact vm))) ?_
          have pathE : nats path ++ [V.int (v : Nat)] = nats (path ++ [v]) := by rw [nats, nats, List.map_append]; rfl
          rw [pathE]
          have slkS := slk_set (ways := ways) (tried := tried) (v := i) S.plc S.tl
          with_reducible refine s_nx ?_
          refine s_if (et_test (ev_eq (ev_var rfl) (ev_var rfl) rfl)) (fun hg => ?_) (fun hg => ?_)
          · have hg : goals.getD v 0 = goal := by have := V.int.inj (of_decide_eq_true hg); lia
            refine Ea.a3 (srch_path S hi hA hg) fun c1 c2 c3 => ?_
            refine s_seq ⟨.int pushed, rfl, ?_⟩
            have N2 : Nt C (upd (upd H' lt (.lst (nats (tried.set place i)))) lp (.lst (nats (path ++ [v])))) a dx ag ar aw was fs goals rooms1 ways := (N1.upd apt).upd app
            refine ev_meth (ev_var rfl) N2.obj (N2.fo _ (by decide +kernel)) (ea_cons (ev_var rfl) (ea_cons (ev_op0 (ev_var rfl) (ev_var rfl)) ea_nil)) ?_
            refine (Ea.i16 m a dx ag ar aw lp was fs goals rooms1 ways (path ++ [v]) (wanted - pushed) origin goal ⟨rfl, N2, upd_same, app.r, S.fit, by lia, by simp, by rw [List.length_append, List.length_singleton]; lia, c1, c2, c3, fun vv rooms2 H2 v1 v2 fl nn kp2 hR2 => ?_⟩)
            refine ⟨pushed, vv, rfl, rfl, ?_⟩
            with_reducible refine s_nx ?_
            refine s_seq (a_set ⟨Nat.zero_le _, fun lp2 hlp2 => ?_⟩)
            with_reducible refine s_nx ?_
            refine s_set (ev_var rfl) ?_
            have kk : ∀ x o, H x = some o → x ≠ ar → H2 x = some o := fun x o h hx => kp2 x o (by rw [upd_ne (ne_of_none h nlp), upd_ne (ne_of_none h nlt)]; exact kp x o h hx) hx
            have hT2 : H2 lt = some (.lst (nats (tried.set place i))) := kp2 _ _ (by rw [upd_ne dlp.symm, upd_same]) apt.r
            have nlp2 : H lp2 = Option.none := by
              cases q : H lp2 with
              | none => rfl
              | some o =>
                by_cases e : lp2 = ar
                · rw [e, hR2] at hlp2; cases hlp2
                · rw [kk _ _ q e] at hlp2; cases hlp2
            have dlp2 : lp2 ≠ lt := fun e => by rw [e, hT2] at hlp2; cases hlp2
            have S2 := srch_hit S hi v1 ho hfo fl nn
            refine ⟨_, ?_, hU (Ea.i7 rooms2 (tried.set place i) ([]) origin (pushed + vv) lp2 _ ⟨rfl, rfl, by lia, S2, fun x o h hx => ?_, ?_, ?_, upd_same, nlp2, dlp2⟩)⟩
            · have := slk_nn S2.tle
              rw [hn]
              exact fall2 (by lia) (by lia)
            · rw [upd_ne (ne_of_none h nlp2)]; exact kk x o h hx
            · rw [upd_ne (fun e => by rw [← e, hR2] at hlp2; cases hlp2)]; exact hR2
            · rw [upd_ne dlp2.symm]; exact hT2
          · have hg : goals.getD v 0 ≠ goal := fun e => by
              rw [e] at hg
              exact absurd hg (by simp)
            have S2 := srch_go S B.zero h0 hi hA hno hg
            refine ⟨_, ?_, hU (Ea.i7 rooms1 (tried.set place i) (path ++ [v]) (goals.getD v 0) pushed lp _ ⟨rfl, rfl, hpw, S2, fun x o h hx => ?_, ?_, ?_, upd_same, nlp, dlp⟩)⟩
            · have := slk_nn S2.tle
              have := hA.1
              have := S2.fpos
              rw [hn]
              exact fall1 (by lia) (by lia)
            · rw [upd_ne (ne_of_none h nlp), upd_ne (ne_of_none h nlt)]; exact kp x o h hx
            · rw [upd_ne dRp, upd_ne dRt]; exact hR
            · rw [upd_ne dlp.symm, upd_same]
        · exfalso
          have := of_decide_eq_false hz
          lia
      · -- none was found
        have N2 : Nt C (upd H' lt (.lst (nats (tried.set place (wy ways place).length)))) a dx ag ar aw was fs goals rooms1 ways := N1.upd apt
        with_reducible refine s_nx ?_
        refine s_seq (s_if (et_test (ev_op0 (ev_var rfl) ev_c)) (fun hz => ?_) (fun _ => ?_))
        · exfalso
          have := of_decide_eq_true hz
          lia
        · refine s_if (et_test (ev_eq (ev_var rfl) (ev_var rfl) rfl)) (fun hg => ?_) (fun hg => ?_)
          · have hg : place = origin := by have := V.int.inj (of_decide_eq_true hg); lia
            subst hg
            refine s_ret (ev_var rfl) (k pushed rooms1 _ (srch_some S B hno) hpw S.flo S.fit.r0 (fun x o h hx => ?_) ?_)
            · rw [upd_ne (ne_of_none h nlt)]; exact kp x o h hx
            · rw [upd_ne apt.r.symm]; exact hR
          · have hne : place ≠ origin := fun e => by
              rw [e] at hg
              exact absurd hg (by simp)
            obtain ⟨path', wv, rfl⟩ : ∃ p' wv, path = p' ++ [wv] := by
              have h0 : path ≠ [] := fun e => by
                have := S.chn
                rw [e] at this
                exact hne (show origin = place from this).symm
              exact ⟨path.dropLast, path.getLast h0, (List.dropLast_concat_getLast h0).symm⟩
            refine Ea.a6 (srch_back S B.gz hno) fun S2 g1 g2 g3 g4 g5 => ?_
            have wm : wv < 2 * m := (S.pth path'.length wv (by simp)).1
            have hP2 : (upd H' lt (.lst (nats (tried.set place (wy ways place).length)))) lp = some (.lst (nats (path' ++ [wv]))) := by rw [upd_ne dlp]; exact hP
            refine s_seq (a_set (a_op (fld_go (ev_fld (ev_var rfl) N2.obj T.clCourses T.n_goals N.fg) (a_op (a_bm0 (var_go (v := .ref lp) rfl ⟨.inl ⟨rfl, _, SqL.of hP2⟩, lp, _, .int (wv : Nat), rfl, rfl, hP2, ?_, ?_⟩))))))
            · rw [List.length_map, List.length_append, List.length_singleton, Nat.add_sub_cancel, List.getElem?_map]; simp
            have popE : (nats (path' ++ [wv])).dropLast = nats path' := by rw [nats, List.map_append, List.map_cons, List.map_nil, List.dropLast_concat]
            rw [popE]
            have N3 := N2.upd (o := .lst (nats path')) app
            refine ⟨_, _, rfl, rfl, ag, _, _, _, rfl, rfl, SqL.of N3.g, at_of (xor_nat wv 1) (nats_get (by rw [S.fit.gl]; exact xor1_lt wm)), ?_⟩
            with_reducible refine s_nx ?_
            refine s_augS (K := K) (x := (tried.getD (goals.getD (wv ^^^ 1) 0) 0 : Nat)) (ev_var rfl) (ev_var rfl) (by rw [upd_ne dlp.symm, upd_same]) rfl ?_ ev_c ?_
            · rw [nats_get (by rw [List.length_set, S.tl]; exact g3), setN_get, if_neg (fun e => g2 e.1.symm)]
            have trE : (nats (tried.set place (wy ways place).length)).set (goals.getD (wv ^^^ 1) 0) (V.int ((tried.getD (goals.getD (wv ^^^ 1) 0) 0 : Nat) + 1)) = nats ((tried.set place (wy ways place).length).set (goals.getD (wv ^^^ 1) 0) (tried.getD (goals.getD (wv ^^^ 1) 0) 0 + 1)) := by
              rw [show ((tried.getD (goals.getD (wv ^^^ 1) 0) 0 : Nat) : Int) + 1 = ((tried.getD (goals.getD (wv ^^^ 1) 0) 0 + 1 : Nat) : Int) from by push_cast; rfl, nats_set]
            rw [trE]
            with_reducible refine s_nx ?_
            refine s_if (et_test (ev_eq (ev_var rfl) (ev_var rfl) rfl)) (fun hg => ?_) (fun _ => ?_)
            · exfalso
              have := V.int.inj (of_decide_eq_true hg)
              lia
            · refine ⟨_, ?_, hU (Ea.i7 rooms1 _ path' (goals.getD (wv ^^^ 1) 0) pushed lp _ ⟨rfl, rfl, hpw, S2, fun x o h hx => ?_, ?_, upd_same, ?_, nlp, dlp⟩)⟩
              · have := slk_nn S2.tle
                have e1 := slk_set (ways := ways) (tried := tried.set place (wy ways place).length) (v := tried.getD (goals.getD (wv ^^^ 1) 0) 0 + 1) g3 (by rw [List.length_set]; exact S.tl)
                have e2 := slk_set (ways := ways) (tried := tried) (v := (wy ways place).length) S.plc S.tl
                rw [setN_get, if_neg (fun e => g2 e.1.symm)] at e1
                have := S.tle _ S.plc
                rw [hn]
                exact fall2 (by lia) (by have := S2.fp; lia)
              · rw [upd_ne (ne_of_none h nlt), upd_ne (ne_of_none h nlp), upd_ne (ne_of_none h nlt)]; exact kp x o h hx
              · rw [upd_ne apt.r.symm, upd_ne app.r.symm, upd_ne apt.r.symm]; exact hR
              · rw [upd_ne dlp, upd_same]
    · have hb : ¬ pushed < wanted := of_decide_eq_false hb
      with_reducible refine s_nx ?_
      exact s_ret (ev_var rfl) (k pushed rooms1 H' (by lia) hpw S.flo S.fit.r0 kp hR)
noncomputable def spPush (C : Addr) : Sp := fun vs H Q _ => ∃ (m : Nat) (a dx ag ar aw : Addr) (was : List Addr) (fs : List (Str × V)) (goals : List Nat) (rooms : List Int) (ways : List (List Nat)) (wanted : Int) (origin goal : Nat),
  vs = [.ref a, .int origin, .int goal, .int wanted] ∧ Nt C H a dx ag ar aw was fs goals rooms ways ∧ Fit m goals rooms ways ∧ origin < ways.length ∧ goal < ways.length ∧ origin ≠ goal ∧
  0 ≤ wanted ∧ ways.length < 100000 ∧ (∀ p, (wy ways p).length < 1000000) ∧
  ∀ (v : Int) (rooms' : List Int) (H' : Hp), 0 ≤ v → v ≤ wanted → Flo m goals origin goal v rooms rooms' → (∀ w, 0 ≤ rooms'.getD w 0) → (v < wanted → ∃ S : Nat → Bool, S origin = false ∧ S goal = true ∧ Shut m goals rooms' S) →
    (∀ x o, H x = some o → x ≠ ar → H' x = some o) → H' ar = some (.lst (intz rooms')) → Q (.int v) H'
noncomputable abbrev s_Courses_push : Stmt := inClass (top 4) 20
theorem sc_Courses_push : FnScope ["self", "origin", "goal", "wanted", "pushed", "far"] ["self", "origin", "goal", "wanted"] (defScope s_Courses_push) := ⟨rfl, rfl, rfl, by decide +kernel, rfl, by decide +kernel, by decide +kernel⟩
theorem ok_push {f : Addr} {fd : FuncData} (F : Fun K "push" "Courses.push" s_Courses_push f fd) (T : Txt K mg C)
    (M_Courses_distances : Mt P w K mg base C "distances" 1 ["self", "origin", "goal"] (spDist C)) (M_Courses_push_shortest : Mt P w K mg base C "push_shortest" 2 ["self", "origin", "goal", "wanted", "far"] (spShort C)) :
    FnOk P w K mg base CX0 3 f fd ["self", "origin", "goal", "wanted"] (spPush C) := by
  refine F.ok sc_Courses_push (fun vs H Q E h => ?_) (fun cdv A outer s H vs Q E hr h => ?_)
  · refine Ea.l14 h fun m a dx ag ar aw was fs goals rooms ways wanted origin goal qz606 => ?_; try clear h; subst qz606
    rfl
  · refine Ea.e14 h fun m a dx ag ar aw was fs goals rooms ways wanted origin goal qz609 => Ea.a10 qz609 fun qz608 N Fi ho hg hog hw0 hW hwl k => ?_; try clear h; subst qz608
    refine ⟨_, (pss_cons (ps_set (i := 4) sc_Courses_push.nd rfl (Or.inl rfl) pe_int)
        (pss_cons (ps_while PassesOwn.never (pt_cmpR op_lt (pv 4) (pv 3) (nomark _))
        (pss_cons (ps_set (i := 5) sc_Courses_push.nd rfl (Or.inl rfl) (pe_mt M_Courses_distances T.clCourses (hr.mono (by decide)) (pv 0) (pa_cons (pv 1) (pa_cons (pv 2) pa_nil))))
        (pss_cons (ps_if (pt_cmpR op_lt (pe_ix ix_list (pv 5) (pv 1) (fun _ _ => rfl)) pe_int (nomark _))
        (pss_one (ps_ret (pv 4)))
        pss_nil)
        (pss_one (ps_aug (i := 4) sc_Courses_push.nd rfl (Or.inl rfl) (pe_mt M_Courses_push_shortest T.clCourses (hr.mono (by decide)) (pv 0) (pa_cons (pv 1) (pa_cons (pv 2) (pa_cons (pe_op op_sub (pv 3) (pv 4)) (pa_cons (pv 5) pa_nil))))) ip_add)))))
        (pss_one (ps_ret (pv 4))))), ?_⟩
    refine s_seq (s_set ev_c ?_)
    with_reducible refine s_nx ?_
    refine s_seq ?_
    refine s_while (fun n σ H' => ∃ (rooms1 : List Int) (pushed : Int) (v5 : Option V), n = (wanted - pushed).toNat ∧ σ = [some (.ref a), some (.int origin), some (.int goal), some (.int wanted), some (.int pushed), v5] ∧ 0 ≤ pushed ∧ pushed ≤ wanted ∧
      Flo m goals origin goal pushed rooms rooms1 ∧ Fit m goals rooms1 ways ∧ (∀ x o, H x = some o → x ≠ ar → H' x = some o) ∧ H' ar = some (.lst (intz rooms1)))
      (Ea.i3 rooms 0 _ ⟨rfl, rfl, by lia, by lia, .refl _ _ _, Fi, fun x o h _ => h, N.r⟩) ?_
    intro Uw hU n σ H' qz610
    refine Ea.e3 qz610 fun rooms1 pushed v5 qz612 => Ea.a8 qz612 fun hn qz611 hp0 hpw fl Fi1 kp hR => ?_; try clear qz610; subst qz611
    have N1 : Nt C H' a dx ag ar aw was fs goals rooms1 ways := N.setRooms kp hR
    refine ⟨_, et_test (ev_op0 (ev_var rfl) (ev_var rfl)), fun hb => ?_, fun hb => ?_⟩
    · have hb : pushed < wanted := of_decide_eq_true hb
      refine s_seq (a_set (ev_meth (ev_var rfl) N1.obj (N1.fo _ (by decide +kernel)) (ea_cons (ev_var rfl) (ea_cons (ev_var rfl) ea_nil)) ?_))
      refine (Ea.i13 m a dx ag ar aw was fs goals rooms1 ways origin goal ⟨rfl, N1, Fi1, ho, hg, hW, fun far lf H2 B sm nlf hF => ?_⟩)
      have N2 := N1.same sm
      with_reducible refine s_nx ?_
      refine s_seq (s_if (et_test (ev_op0 (ev_ix (ev_var rfl) (ev_var rfl) hF rfl (ints_get (by rw [B.len]; exact ho))) ev_c)) (fun hz => ?_) (fun hz => ?_))
      · have hz : far.getD origin 0 < 0 := of_decide_eq_true hz
        refine s_ret (ev_var rfl) (k pushed rooms1 H2 hp0 hpw fl Fi1.r0 (fun _ => ⟨fun p => decide (0 ≤ far.getD p 0), decide_eq_false (by lia), decide_eq_true (by rw [B.gz]; exact Int.le_refl 0), fun v hv hr hS => ?_⟩) (fun x o h hx => sm _ _ (kp x o h hx)) (sm _ _ hR))
        exact decide_eq_true (B.clos hz v (by rw [Fi1.gl]; exact hv) hr (of_decide_eq_true hS))
      · have hz : ¬ far.getD origin 0 < 0 := of_decide_eq_false hz
        have hfo : 0 < far.getD origin 0 := by
          by_cases e : far.getD origin 0 = 0
          · exact absurd (B.zero origin ho e) hog
          · lia
        refine ⟨.int pushed, rfl, ?_⟩
        have dfr : lf ≠ ar := fun e => by rw [e, N1.r] at nlf; cases nlf
        refine ev_meth (ev_var rfl) N2.obj (N2.fo _ (by decide +kernel)) (ea_cons (ev_var rfl) (ea_cons (ev_var rfl) (ea_cons (ev_op0 (ev_var rfl) (ev_var rfl)) (ea_cons (ev_var rfl) ea_nil)))) ?_
        refine (Ea.i16 m a dx ag ar aw lf was fs goals rooms1 ways far (wanted - pushed) origin goal ⟨rfl, N2, hF, dfr, Fi1, B, ho, hog, hfo, by lia, hW, hwl, fun v rooms2 H3 v1 v2 fl2 nn2 kp3 hR3 => ?_⟩)
        refine ⟨pushed, v, rfl, rfl, ?_⟩
        exact ⟨_, by rw [hn]; lia, hU ⟨rooms2, pushed + v, _, rfl, rfl, by lia, by lia, fl.more fl2, Fi1.rooms (fl2.len.trans Fi1.rl) nn2, fun x o h hx => kp3 _ _ (sm _ _ (kp x o h hx)) hx, hR3⟩⟩
    · have hb : ¬ pushed < wanted := of_decide_eq_false hb
      with_reducible refine s_nx ?_
      exact s_ret (ev_var rfl) (k pushed rooms1 H' hp0 hpw fl Fi1.r0 (fun h => absurd h hb) kp hR)
end
end Mg
end
section
set_option maxRecDepth 100000
set_option maxHeartbeats 2000000
namespace Mg
open PySem PySem.Spec
open PyProof.Rows hiding St
open L2
structure Ad where
  dx : Addr
  ag : Addr
  ar : Addr
  aw : Addr
  ao : Addr
  al : Addr
  ah : Addr
  an : Addr
  was : List Addr
  fs : List (Str × V)
structure Co (C : Addr) (H : Hp) (a : Addr) (A : Ad) (S : Cs) : Prop where
  nt : Nt C H a A.dx A.ag A.ar A.aw A.was A.fs S.goals S.rooms S.ways
  fo : A.fs.lookup ("outlets" : Str) = some (.ref A.ao)
  fl : A.fs.lookup ("leasts" : Str) = some (.ref A.al)
  fh : A.fs.lookup ("highest" : Str) = some (.ref A.ah)
  fn : A.fs.lookup ("lowest" : Str) = some (.ref A.an)
  len : A.fs.length ≤ 7
  o : H A.ao = some (.lst (nats S.outlets))
  l : H A.al = some (.dK (kvN S.leasts))
  h : H A.ah = some (.dK (kvN S.highest))
  n : H A.an = some (.dK (kvN S.lowest))
  gw : A.ag ≠ A.aw
  gs : A.ag ∉ A.was
  wws : A.aw ∉ A.was
  nd : A.was.Nodup
  og : A.ao ≠ A.ag
  or_ : A.ao ≠ A.ar
  ow : A.ao ≠ A.aw
  os : A.ao ∉ A.was
  lh : A.al ≠ A.ah
  ln : A.al ≠ A.an
  hn : A.ah ≠ A.an
noncomputable def Ad.own (A : Ad) (a x : Addr) : Prop := x = a ∨ x = A.ag ∨ x = A.ar ∨ x = A.aw ∨ x = A.ao ∨ x = A.al ∨ x = A.ah ∨ x = A.an ∨ x ∈ A.was
section
variable {C a c : Addr} {H H' : Hp} {A : Ad} {S : Cs}
theorem dl {H : Hp} {b c : Addr} {kvs : List (Key × V)} {xs : List V} (h : H b = some (.dK kvs)) (h' : H c = some (.lst xs)) : b ≠ c := ne_of h h' (by intro z; cases z)
theorem il {H : Hp} {b c : Addr} {C dx : Addr} {fs : List (Str × V)} {xs : List V} (h : H b = some (.ins C dx fs)) (h' : H c = some (.lst xs)) : b ≠ c := ne_of h h' (by intro z; cases z)
theorem id' {H : Hp} {b c : Addr} {C dx : Addr} {fs : List (Str × V)} {kvs : List (Key × V)} (h : H b = some (.ins C dx fs)) (h' : H c = some (.dK kvs)) : b ≠ c := ne_of h h' (by intro z; cases z)
theorem Co.wsAt (K : Co C H a A S) {b : Addr} (hb : b ∈ A.was) : ∃ p, A.was[p]? = some b ∧ H b = some (.lst (nats (wy S.ways p))) := by
  obtain ⟨p, hp⟩ := List.mem_iff_getElem?.mp hb
  exact ⟨p, hp, K.nt.ws p b hp⟩
theorem Co.dws (K : Co C H a A S) {b : Addr} {kvs : List (Key × V)} (h : H b = some (.dK kvs)) : b ∉ A.was := fun q => by
  refine Ea.x1_2 (K.wsAt q) fun p _ e => ?_
  rw [h] at e; cases e
theorem Co.keep (K : Co C H a A S) (k : ∀ x o, H x = some o → A.own a x → H' x = some o) : Co C H' a A S := by
  have N := K.nt
  refine ⟨⟨k _ _ N.obj (.inl rfl), N.fg, N.fr, N.fw, N.fo, k _ _ N.g (.inr (.inl rfl)), k _ _ N.r (.inr (.inr (.inl rfl))), k _ _ N.w (.inr (.inr (.inr (.inl rfl)))), N.wl, fun p b hb => k _ _ (N.ws p b hb) (.inr (.inr (.inr (.inr (.inr (.inr (.inr (.inr (List.mem_of_getElem? hb))))))))), N.rg, N.rw, N.rs⟩,
    K.fo, K.fl, K.fh, K.fn, K.len, k _ _ K.o (.inr (.inr (.inr (.inr (.inl rfl))))), k _ _ K.l (.inr (.inr (.inr (.inr (.inr (.inl rfl)))))), k _ _ K.h (.inr (.inr (.inr (.inr (.inr (.inr (.inl rfl))))))), k _ _ K.n (.inr (.inr (.inr (.inr (.inr (.inr (.inr (.inl rfl)))))))),
    K.gw, K.gs, K.wws, K.nd, K.og, K.or_, K.ow, K.os, K.lh, K.ln, K.hn⟩
theorem Co.same (K : Co C H a A S) (k : Same H H') : Co C H' a A S := K.keep fun x o h _ => k x o h
theorem Co.rooms (K : Co C H a A S) {r : List Int} (k : ∀ x o, H x = some o → x ≠ A.ar → H' x = some o) (hr : H' A.ar = some (.lst (intz r))) : Co C H' a A { S with rooms := r } := by
  have N := K.nt
  exact ⟨N.setRooms k hr, K.fo, K.fl, K.fh, K.fn, K.len, k _ _ K.o K.or_, k _ _ K.l (dl K.l N.r), k _ _ K.h (dl K.h N.r), k _ _ K.n (dl K.n N.r), K.gw, K.gs, K.wws, K.nd, K.og, K.or_, K.ow, K.os, K.lh, K.ln, K.hn⟩
theorem Co.roomsU (K : Co C H a A S) (r : List Int) : Co C (upd H A.ar (.lst (intz r))) a A { S with rooms := r } := K.rooms (fun x o h hx => by rw [upd_ne hx]; exact h) upd_same
theorem Co.goalsU (K : Co C H a A S) (g : List Nat) : Co C (upd H A.ag (.lst (nats g))) a A { S with goals := g } := by
  have N := K.nt
  have k : ∀ x o, H x = some o → x ≠ A.ag → (upd H A.ag (.lst (nats g))) x = some o := fun x o h hx => by rw [upd_ne hx]; exact h
  exact ⟨⟨k _ _ N.obj (il N.obj N.g), N.fg, N.fr, N.fw, N.fo, upd_same, k _ _ N.r N.rg, k _ _ N.w K.gw.symm, N.wl, fun p b hb => k _ _ (N.ws p b hb) (fun e => K.gs (e ▸ List.mem_of_getElem? hb)), N.rg, N.rw, N.rs⟩,
    K.fo, K.fl, K.fh, K.fn, K.len, k _ _ K.o K.og, k _ _ K.l (dl K.l N.g), k _ _ K.h (dl K.h N.g), k _ _ K.n (dl K.n N.g), K.gw, K.gs, K.wws, K.nd, K.og, K.or_, K.ow, K.os, K.lh, K.ln, K.hn⟩
theorem Co.outU (K : Co C H a A S) (g : List Nat) : Co C (upd H A.ao (.lst (nats g))) a A { S with outlets := g } := by
  have N := K.nt
  have k : ∀ x o, H x = some o → x ≠ A.ao → (upd H A.ao (.lst (nats g))) x = some o := fun x o h hx => by rw [upd_ne hx]; exact h
  exact ⟨⟨k _ _ N.obj (il N.obj K.o), N.fg, N.fr, N.fw, N.fo, k _ _ N.g K.og.symm, k _ _ N.r K.or_.symm, k _ _ N.w K.ow.symm, N.wl, fun p b hb => k _ _ (N.ws p b hb) (fun e => K.os (e ▸ List.mem_of_getElem? hb)), N.rg, N.rw, N.rs⟩,
    K.fo, K.fl, K.fh, K.fn, K.len, upd_same, k _ _ K.l (dl K.l K.o), k _ _ K.h (dl K.h K.o), k _ _ K.n (dl K.n K.o), K.gw, K.gs, K.wws, K.nd, K.og, K.or_, K.ow, K.os, K.lh, K.ln, K.hn⟩
theorem Co.wayU (K : Co C H a A S) {p : Nat} {b : Addr} (hb : A.was[p]? = some b) (g : List Nat) : Co C (upd H b (.lst (nats g))) a A { S with ways := S.ways.set p g } := by
  have N := K.nt
  have hm := List.mem_of_getElem? hb
  have k : ∀ x o, H x = some o → x ≠ b → (upd H b (.lst (nats g))) x = some o := fun x o h hx => by rw [upd_ne hx]; exact h
  have hB := N.ws p b hb
  have pl : p < S.ways.length := by rw [← N.wl]; exact (List.getElem?_eq_some_iff.mp hb).1
  exact ⟨⟨k _ _ N.obj (il N.obj hB), N.fg, N.fr, N.fw, N.fo, k _ _ N.g (fun e => K.gs (e ▸ hm)), k _ _ N.r (fun e => N.rs (e ▸ hm)), k _ _ N.w (fun e => K.wws (e ▸ hm)), by rw [List.length_set]; exact N.wl, fun q c hc => by
      rw [wy_set]
      by_cases e : p = q
      · subst e
        rw [hb] at hc
        cases hc
        rw [if_pos ⟨rfl, pl⟩, upd_same]
      · rw [if_neg (fun z => e z.1)]
        exact k _ _ (N.ws q c hc) (fun z => e (nd_ix K.nd hb (z ▸ hc))), N.rg, N.rw, N.rs⟩,
    K.fo, K.fl, K.fh, K.fn, K.len, k _ _ K.o (fun e => K.os (e ▸ hm)), k _ _ K.l (dl K.l hB), k _ _ K.h (dl K.h hB), k _ _ K.n (dl K.n hB), K.gw, K.gs, K.wws, K.nd, K.og, K.or_, K.ow, K.os, K.lh, K.ln, K.hn⟩
theorem Co.dictU (K : Co C H a A S) {b : Addr} {kvs : List (Key × V)} (hb : H b = some (.dK kvs)) {o' : HO} : Nt C (upd H b o') a A.dx A.ag A.ar A.aw A.was A.fs S.goals S.rooms S.ways := by
  have N := K.nt
  exact N.keep (b := b) ⟨(id' N.obj hb).symm, dl hb N.g, dl hb N.r, dl hb N.w, K.dws hb⟩ fun x o h hx => by rw [upd_ne hx]; exact h
theorem Co.leastU (K : Co C H a A S) (g : List (Nat × Int)) : Co C (upd H A.al (.dK (kvN g))) a A { S with leasts := g } := by
  have k : ∀ x o, H x = some o → x ≠ A.al → (upd H A.al (.dK (kvN g))) x = some o := fun x o h hx => by rw [upd_ne hx]; exact h
  exact ⟨K.dictU K.l, K.fo, K.fl, K.fh, K.fn, K.len, k _ _ K.o (dl K.l K.o).symm, upd_same, k _ _ K.h K.lh.symm, k _ _ K.n K.ln.symm, K.gw, K.gs, K.wws, K.nd, K.og, K.or_, K.ow, K.os, K.lh, K.ln, K.hn⟩
theorem Co.highU (K : Co C H a A S) (g : List (Nat × Int)) : Co C (upd H A.ah (.dK (kvN g))) a A { S with highest := g } := by
  have k : ∀ x o, H x = some o → x ≠ A.ah → (upd H A.ah (.dK (kvN g))) x = some o := fun x o h hx => by rw [upd_ne hx]; exact h
  exact ⟨K.dictU K.h, K.fo, K.fl, K.fh, K.fn, K.len, k _ _ K.o (dl K.h K.o).symm, k _ _ K.l K.lh, upd_same, k _ _ K.n K.hn.symm, K.gw, K.gs, K.wws, K.nd, K.og, K.or_, K.ow, K.os, K.lh, K.ln, K.hn⟩
theorem Co.lowU (K : Co C H a A S) (g : List (Nat × Int)) : Co C (upd H A.an (.dK (kvN g))) a A { S with lowest := g } := by
  have k : ∀ x o, H x = some o → x ≠ A.an → (upd H A.an (.dK (kvN g))) x = some o := fun x o h hx => by rw [upd_ne hx]; exact h
  exact ⟨K.dictU K.n, K.fo, K.fl, K.fh, K.fn, K.len, k _ _ K.o (dl K.n K.o).symm, k _ _ K.l K.ln, k _ _ K.h K.hn, upd_same, K.gw, K.gs, K.wws, K.nd, K.og, K.or_, K.ow, K.os, K.lh, K.ln, K.hn⟩
theorem Co.placeU (K : Co C H a A S) {b : Addr} {g : List Nat} (hb : H b = none) : Co C (upd (upd H b (.lst (nats g))) A.aw (.lst ((A.was ++ [b]).map V.ref))) a { A with was := A.was ++ [b] } { S with ways := S.ways ++ [g] } := by
  have N := K.nt
  have k : ∀ x o, H x = some o → x ≠ A.aw → (upd (upd H b (.lst (nats g))) A.aw (.lst ((A.was ++ [b]).map V.ref))) x = some o := fun x o h hx => by rw [upd_ne hx, upd_ne (ne_of_none h hb)]; exact h
  have nb : b ∉ A.was := fun q => by
    refine Ea.x1_2 (K.wsAt q) fun p _ e => ?_
    rw [hb] at e; cases e
  have nin : ∀ {x o}, H x = some o → x ∉ A.was → x ∉ A.was ++ [b] := fun {x o} h hx q => by
    rcases List.mem_append.mp q with q | q
    · exact hx q
    · rw [List.mem_singleton] at q; exact ne_of_none h hb q
  refine ⟨⟨k _ _ N.obj (il N.obj N.w), N.fg, N.fr, N.fw, N.fo, k _ _ N.g K.gw, k _ _ N.r N.rw, upd_same, by rw [List.length_append, List.length_append, N.wl]; rfl, fun p c hc => ?_, N.rg, N.rw, nin N.r N.rs⟩,
    K.fo, K.fl, K.fh, K.fn, K.len, k _ _ K.o K.ow, k _ _ K.l (dl K.l N.w), k _ _ K.h (dl K.h N.w), k _ _ K.n (dl K.n N.w), K.gw, nin N.g K.gs, nin N.w K.wws, ?_, K.og, K.or_, K.ow, nin K.o K.os, K.lh, K.ln, K.hn⟩
  · show _ = some (HO.lst (nats (wy (S.ways ++ [g]) p)))
    rw [wy_snoc]
    rcases get_snoc hc with ⟨hp, q⟩ | ⟨hp, q⟩
    · rw [if_pos (by rw [← N.wl]; exact hp)]
      exact k _ _ (N.ws p c q) (fun e => K.wws (e ▸ List.mem_of_getElem? q))
    · rw [if_neg (by rw [hp, N.wl]; exact Nat.lt_irrefl _), if_pos (by rw [hp, N.wl]), q, upd_ne (ne_of_none N.w hb).symm, upd_same]
  · rw [List.nodup_append]
    refine ⟨K.nd, by simp, fun x hx y hy e => ?_⟩
    rw [List.mem_singleton] at hy
    exact nb (hy ▸ e ▸ hx)
theorem Co.relayU (K : Co C H a A S) {b : Addr} {g : List Nat} {p : Nat} (hp : p < A.was.length) (hb : H b = some (.lst (nats g))) (ho : ¬ A.own a b) : Co C (upd H A.aw (.lst ((A.was.set p b).map V.ref))) a { A with was := A.was.set p b } { S with ways := S.ways.set p g } := by
  have N := K.nt
  have k : ∀ x o, H x = some o → x ≠ A.aw → (upd H A.aw (.lst ((A.was.set p b).map V.ref))) x = some o := fun x o h hx => by rw [upd_ne hx]; exact h
  have nb : b ∉ A.was := fun q => ho (.inr (.inr (.inr (.inr (.inr (.inr (.inr (.inr q))))))))
  have nin : ∀ {x}, x ∉ A.was → x ≠ b → x ∉ A.was.set p b := fun {x} hx hb q => by
    rcases List.mem_or_eq_of_mem_set q with q | q
    · exact hx q
    · exact hb q
  have baw : b ≠ A.aw := fun e => ho (.inr (.inr (.inr (.inl e))))
  refine ⟨⟨k _ _ N.obj (il N.obj N.w), N.fg, N.fr, N.fw, N.fo, k _ _ N.g K.gw, k _ _ N.r N.rw, upd_same, by rw [List.length_set, List.length_set, N.wl], fun q c hc => ?_, N.rg, N.rw, nin N.rs (fun e => ho (.inr (.inr (.inl e.symm))))⟩,
    K.fo, K.fl, K.fh, K.fn, K.len, k _ _ K.o K.ow, k _ _ K.l (dl K.l N.w), k _ _ K.h (dl K.h N.w), k _ _ K.n (dl K.n N.w), K.gw, nin K.gs (fun e => ho (.inr (.inl e.symm))), nin K.wws baw.symm, ?_, K.og, K.or_, K.ow, nin K.os (fun e => ho (.inr (.inr (.inr (.inr (.inl e.symm)))))), K.lh, K.ln, K.hn⟩
  · show _ = some (HO.lst (nats (wy (S.ways.set p g) q)))
    rw [wy_set, ← N.wl]
    by_cases e : p = q
    · subst e
      rw [List.getElem?_set_self hp] at hc
      cases hc
      rw [if_pos ⟨rfl, hp⟩]
      exact k _ _ hb baw
    · rw [List.getElem?_set_ne e] at hc
      rw [if_neg (fun z => e z.1)]
      exact k _ _ (N.ws q c hc) (fun z => K.wws (z ▸ List.mem_of_getElem? hc))
  · rw [List.nodup_iff_pairwise_ne, List.pairwise_iff_getElem]
    intro i j hi hj hij e
    rw [List.length_set] at hi hj
    rw [List.getElem_set, List.getElem_set] at e
    by_cases e1 : p = i
    · rw [if_pos e1, if_neg (by lia)] at e
      exact nb (e ▸ List.getElem_mem hj)
    · rw [if_neg e1] at e
      by_cases e2 : p = j
      · rw [if_pos e2] at e
        exact nb (e ▸ List.getElem_mem hi)
      · rw [if_neg e2] at e
        have := (List.getElem_inj K.nd).mp e
        lia
theorem Co.highF (K : Co C H a A S) {b : Addr} (hb : H b = none) : Co C (upd (upd H b (.dK [])) a (.ins C A.dx (putF "highest" (.ref b) A.fs))) a { A with ah := b, fs := putF "highest" (.ref b) A.fs } { S with highest := [] } := by
  have N := K.nt
  have k : ∀ x o, H x = some o → x ≠ a → (upd (upd H b (.dK [])) a (.ins C A.dx (putF "highest" (.ref b) A.fs))) x = some o := fun x o h hx => by rw [upd_ne hx, upd_ne (ne_of_none h hb)]; exact h
  have ba : b ≠ a := (ne_of_none N.obj hb).symm
  have lk : ∀ {f : Str} {v : Option V}, f ≠ "highest" → A.fs.lookup f = v → (putF "highest" (.ref b) A.fs).lookup f = v := fun h e => by rw [lookup_putF, if_neg h]; exact e
  refine ⟨⟨upd_same, lk (by decide) N.fg, lk (by decide) N.fr, lk (by decide) N.fw, fun m hm => lk (fun e => hm (by rw [e]; decide)) (N.fo m hm), k _ _ N.g (il N.obj N.g).symm, k _ _ N.r (il N.obj N.r).symm, k _ _ N.w (il N.obj N.w).symm, N.wl, fun p c hc => k _ _ (N.ws p c hc) (il N.obj (N.ws p c hc)).symm, N.rg, N.rw, N.rs⟩,
    lk (by decide) K.fo, lk (by decide) K.fl, by rw [lookup_putF, if_pos rfl], lk (by decide) K.fn, by rw [putF_len K.fh]; exact K.len, k _ _ K.o (il N.obj K.o).symm, k _ _ K.l (id' N.obj K.l).symm, ?_, k _ _ K.n (id' N.obj K.n).symm, K.gw, K.gs, K.wws, K.nd, K.og, K.or_, K.ow, K.os, ne_of_none K.l hb, K.ln, (ne_of_none K.n hb).symm⟩
  show upd _ a _ b = _
  rw [upd_ne ba, upd_same]; rfl
theorem Co.lowF (K : Co C H a A S) {b : Addr} (hb : H b = none) : Co C (upd (upd H b (.dK [])) a (.ins C A.dx (putF "lowest" (.ref b) A.fs))) a { A with an := b, fs := putF "lowest" (.ref b) A.fs } { S with lowest := [] } := by
  have N := K.nt
  have k : ∀ x o, H x = some o → x ≠ a → (upd (upd H b (.dK [])) a (.ins C A.dx (putF "lowest" (.ref b) A.fs))) x = some o := fun x o h hx => by rw [upd_ne hx, upd_ne (ne_of_none h hb)]; exact h
  have ba : b ≠ a := (ne_of_none N.obj hb).symm
  have lk : ∀ {f : Str} {v : Option V}, f ≠ "lowest" → A.fs.lookup f = v → (putF "lowest" (.ref b) A.fs).lookup f = v := fun h e => by rw [lookup_putF, if_neg h]; exact e
  refine ⟨⟨upd_same, lk (by decide) N.fg, lk (by decide) N.fr, lk (by decide) N.fw, fun m hm => lk (fun e => hm (by rw [e]; decide)) (N.fo m hm), k _ _ N.g (il N.obj N.g).symm, k _ _ N.r (il N.obj N.r).symm, k _ _ N.w (il N.obj N.w).symm, N.wl, fun p c hc => k _ _ (N.ws p c hc) (il N.obj (N.ws p c hc)).symm, N.rg, N.rw, N.rs⟩,
    lk (by decide) K.fo, lk (by decide) K.fl, lk (by decide) K.fh, by rw [lookup_putF, if_pos rfl], by rw [putF_len K.fn]; exact K.len, k _ _ K.o (il N.obj K.o).symm, k _ _ K.l (id' N.obj K.l).symm, k _ _ K.h (id' N.obj K.h).symm, ?_, K.gw, K.gs, K.wws, K.nd, K.og, K.or_, K.ow, K.os, K.lh, ne_of_none K.l hb, ne_of_none K.h hb⟩
  show upd _ a _ b = _
  rw [upd_ne ba, upd_same]; rfl
end
noncomputable def Fr (D : Addr → Prop) (H H' : Hp) : Prop := ∀ x o, H x = some o → ¬ D x → H' x = some o
noncomputable def grow (D : Addr → Prop) (H : Hp) (x : Addr) : Prop := D x ∨ H x = none
theorem Fr.refl (D : Addr → Prop) (H : Hp) : Fr D H H := fun _ _ h _ => h
theorem Fr.none {D : Addr → Prop} {H H' : Hp} (F : Fr D H H') {x : Addr} (h : H' x = none) : grow D H x := by
  by_cases d : D x
  · exact .inl d
  · right
    cases e : H x with
    | none => rfl
    | some o => rw [F x o e d] at h; cases h
theorem Fr.upd {D : Addr → Prop} {H H' : Hp} (F : Fr D H H') {b : Addr} (hb : grow D H b) (o : HO) : Fr D H (upd H' b o) := fun x u h d => by
  rw [upd_ne (fun e => by
    subst e
    rcases hb with q | q
    · exact d q
    · rw [h] at q; cases q)]
  exact F x u h d
theorem Fr.same {D : Addr → Prop} {H H1 H2 : Hp} (F : Fr D H H1) (s : Same H1 H2) : Fr D H H2 := fun x o h d => s _ _ (F x o h d)
theorem Fr.trans {D : Addr → Prop} {H H1 H2 : Hp} (F : Fr D H H1) (G : Fr (grow D H) H1 H2) : Fr D H H2 := fun x o h d =>
  G x o (F x o h d) fun q => by
    rcases q with q | q
    · exact d q
    · rw [h] at q; cases q
theorem grow_trans {D : Addr → Prop} {H H1 : Hp} (F : Fr D H H1) {x : Addr} (h : grow (grow D H) H1 x) : grow D H x := by
  rcases h with h | h
  · exact h
  · exact F.none h
noncomputable def Cc (C a : Addr) (D : Addr → Prop) (H : Hp) (S : Cs) : Prop := ∃ A : Ad, Co C H a A S ∧ ∀ x, A.own a x → D x
noncomputable def Hd (C a : Addr) (D : Addr → Prop) (H0 H : Hp) (S : Cs) : Prop := Fr D H0 H ∧ Cc C a (grow D H0) H S
section
variable {C a : Addr} {D : Addr → Prop} {H0 H H' : Hp} {S S' : Cs}
theorem Cc.hd (h : Cc C a D H S) : Hd C a D H H S := ⟨.refl _ _, let ⟨A, K, o⟩ := h; ⟨A, K, fun x q => .inl (o x q)⟩⟩
theorem Hd.step (h : Hd C a D H0 H S) (k : Hd C a (grow D H0) H H' S') : Hd C a D H0 H' S' :=
  ⟨h.1.trans k.1, let ⟨A, K, o⟩ := k.2; ⟨A, K, fun x q => grow_trans h.1 (o x q)⟩⟩
theorem Cc.same (h : Cc C a D H S) (s : Same H H') : Cc C a D H' S := let ⟨A, K, o⟩ := h; ⟨A, K.same s, o⟩
end
end Mg
end
section
set_option maxRecDepth 100000
set_option maxHeartbeats 2000000
namespace Mg
open PySem PySem.Spec
open PyProof.Rows hiding St
open L2
structure Hx (C a : Addr) (D : Addr → Prop) (H0 H : Hp) (A : Ad) (S : Cs) : Prop where
  fr : Fr D H0 H
  co : Co C H a A S
  ow : ∀ x, A.own a x → grow D H0 x
theorem nats_snoc (l : List Nat) (x : Nat) : nats l ++ [V.int (x : Nat)] = nats (l ++ [x]) := by rw [nats, nats, List.map_append]; rfl
theorem ints_snoc (l : List Int) (x : Int) : intz l ++ [V.int x] = intz (l ++ [x]) := by rw [intz, intz, List.map_append]; rfl
theorem nats_len (l : List Nat) : (nats l).length = l.length := List.length_map _
theorem ints_len (l : List Int) : (intz l).length = l.length := List.length_map _
theorem line_lt {n : Nat} (h : n < 1000000) : n < sizeLine := Nat.lt_of_lt_of_le h (by decide)
section
variable {C a b : Addr} {D : Addr → Prop} {H0 H H' : Hp} {A : Ad} {S S' : Cs}
theorem Hd.hx (h : Hd C a D H0 H S) : ∃ A, Hx C a D H0 H A S := let ⟨f, A, k, o⟩ := h; ⟨A, f, k, o⟩
theorem Hx.to {A' : Ad} (h : Hx C a D H0 H A S) (e : A = A') (e2 : S = S') : Hx C a D H0 H A' S' := e ▸ e2 ▸ h
theorem Hx.hd (h : Hx C a D H0 H A S) : Hd C a D H0 H S := ⟨h.fr, A, h.co, h.ow⟩
theorem Hx.cc (h : Hx C a D H0 H A S) : Cc C a (grow D H0) H S := ⟨A, h.co, h.ow⟩
theorem Hx.step (h : Hx C a D H0 H A S) (k : Hd C a (grow D H0) H H' S') : ∃ A', Hx C a D H0 H' A' S' := (h.hd.step k).hx
theorem Cc.hx (h : Cc C a D H S) : ∃ A, Hx C a D H H A S := h.hd.hx
theorem Hx.same (h : Hx C a D H0 H A S) (s : Same H H') : Hx C a D H0 H' A S := ⟨h.fr.same s, h.co.same s, h.ow⟩
theorem Hx.new (h : Hx C a D H0 H A S) (hb : H b = none) (o : HO) : Hx C a D H0 (upd H b o) A S := h.same fun x u e => by rw [upd_ne (ne_of_none e hb)]; exact e
theorem Hx.rooms (h : Hx C a D H0 H A S) (r : List Int) : Hx C a D H0 (upd H A.ar (.lst (intz r))) A { S with rooms := r } := ⟨h.fr.upd (h.ow _ (.inr (.inr (.inl rfl)))) _, h.co.roomsU r, h.ow⟩
theorem Hx.roomsK (h : Hx C a D H0 H A S) {r : List Int} (k : ∀ x o, H x = some o → x ≠ A.ar → H' x = some o) (hr : H' A.ar = some (.lst (intz r))) : Hx C a D H0 H' A { S with rooms := r } :=
  ⟨fun x o e d => k x o (h.fr x o e d) (fun q => by
    rcases h.ow _ (.inr (.inr (.inl rfl))) with z | z
    · exact d (q ▸ z)
    · rw [← q, e] at z; cases z), h.co.rooms k hr, h.ow⟩
theorem Hx.goals (h : Hx C a D H0 H A S) (r : List Nat) : Hx C a D H0 (upd H A.ag (.lst (nats r))) A { S with goals := r } := ⟨h.fr.upd (h.ow _ (.inr (.inl rfl))) _, h.co.goalsU r, h.ow⟩
theorem Hx.outl (h : Hx C a D H0 H A S) (r : List Nat) : Hx C a D H0 (upd H A.ao (.lst (nats r))) A { S with outlets := r } := ⟨h.fr.upd (h.ow _ (.inr (.inr (.inr (.inr (.inl rfl)))))) _, h.co.outU r, h.ow⟩
theorem Hx.way (h : Hx C a D H0 H A S) {p : Nat} (hb : A.was[p]? = some b) (r : List Nat) : Hx C a D H0 (upd H b (.lst (nats r))) A { S with ways := S.ways.set p r } := ⟨h.fr.upd (h.ow _ (.inr (.inr (.inr (.inr (.inr (.inr (.inr (.inr (List.mem_of_getElem? hb)))))))))) _, h.co.wayU hb r, h.ow⟩
theorem Hx.least (h : Hx C a D H0 H A S) (r : List (Nat × Int)) : Hx C a D H0 (upd H A.al (.dK (kvN r))) A { S with leasts := r } := ⟨h.fr.upd (h.ow _ (.inr (.inr (.inr (.inr (.inr (.inl rfl))))))) _, h.co.leastU r, h.ow⟩
theorem Hx.high (h : Hx C a D H0 H A S) (r : List (Nat × Int)) : Hx C a D H0 (upd H A.ah (.dK (kvN r))) A { S with highest := r } := ⟨h.fr.upd (h.ow _ (.inr (.inr (.inr (.inr (.inr (.inr (.inl rfl)))))))) _, h.co.highU r, h.ow⟩
theorem Hx.low (h : Hx C a D H0 H A S) (r : List (Nat × Int)) : Hx C a D H0 (upd H A.an (.dK (kvN r))) A { S with lowest := r } := ⟨h.fr.upd (h.ow _ (.inr (.inr (.inr (.inr (.inr (.inr (.inr (.inl rfl))))))))) _, h.co.lowU r, h.ow⟩
theorem Hx.highN (h : Hx C a D H0 H A S) (hb : H b = none) : Hx C a D H0 (upd (upd H b (.dK [])) a (.ins C A.dx (putF "highest" (.ref b) A.fs))) { A with ah := b, fs := putF "highest" (.ref b) A.fs } { S with highest := [] } :=
  ⟨(h.fr.upd (h.fr.none hb) _).upd (h.ow _ (.inl rfl)) _, h.co.highF hb, fun x q => by
    rcases q with q | q | q | q | q | q | q | q | q
    · exact h.ow _ (.inl q)
    · exact h.ow _ (.inr (.inl q))
    · exact h.ow _ (.inr (.inr (.inl q)))
    · exact h.ow _ (.inr (.inr (.inr (.inl q))))
    · exact h.ow _ (.inr (.inr (.inr (.inr (.inl q)))))
    · exact h.ow _ (.inr (.inr (.inr (.inr (.inr (.inl q))))))
    · have q : x = b := q
      subst q; exact h.fr.none hb
    · exact h.ow _ (.inr (.inr (.inr (.inr (.inr (.inr (.inr (.inl q))))))))
    · exact h.ow _ (.inr (.inr (.inr (.inr (.inr (.inr (.inr (.inr q))))))))⟩
theorem Hx.lowN (h : Hx C a D H0 H A S) (hb : H b = none) : Hx C a D H0 (upd (upd H b (.dK [])) a (.ins C A.dx (putF "lowest" (.ref b) A.fs))) { A with an := b, fs := putF "lowest" (.ref b) A.fs } { S with lowest := [] } :=
  ⟨(h.fr.upd (h.fr.none hb) _).upd (h.ow _ (.inl rfl)) _, h.co.lowF hb, fun x q => by
    rcases q with q | q | q | q | q | q | q | q | q
    · exact h.ow _ (.inl q)
    · exact h.ow _ (.inr (.inl q))
    · exact h.ow _ (.inr (.inr (.inl q)))
    · exact h.ow _ (.inr (.inr (.inr (.inl q))))
    · exact h.ow _ (.inr (.inr (.inr (.inr (.inl q)))))
    · exact h.ow _ (.inr (.inr (.inr (.inr (.inr (.inl q))))))
    · exact h.ow _ (.inr (.inr (.inr (.inr (.inr (.inr (.inl q)))))))
    · have q : x = b := q
      subst q; exact h.fr.none hb
    · exact h.ow _ (.inr (.inr (.inr (.inr (.inr (.inr (.inr (.inr q))))))))⟩
theorem Hx.placeN (h : Hx C a D H0 H A S) {g : List Nat} (hb : H b = none) : Hx C a D H0 (upd (upd H b (.lst (nats g))) A.aw (.lst ((A.was ++ [b]).map V.ref))) { A with was := A.was ++ [b] } { S with ways := S.ways ++ [g] } :=
  ⟨(h.fr.upd (h.fr.none hb) _).upd (h.ow _ (.inr (.inr (.inr (.inl rfl))))) _, h.co.placeU hb, fun x q => by
    rcases q with q | q | q | q | q | q | q | q | q
    · exact h.ow _ (.inl q)
    · exact h.ow _ (.inr (.inl q))
    · exact h.ow _ (.inr (.inr (.inl q)))
    · exact h.ow _ (.inr (.inr (.inr (.inl q))))
    · exact h.ow _ (.inr (.inr (.inr (.inr (.inl q)))))
    · exact h.ow _ (.inr (.inr (.inr (.inr (.inr (.inl q))))))
    · exact h.ow _ (.inr (.inr (.inr (.inr (.inr (.inr (.inl q)))))))
    · exact h.ow _ (.inr (.inr (.inr (.inr (.inr (.inr (.inr (.inl q))))))))
    · rcases List.mem_append.mp q with q | q
      · exact h.ow _ (.inr (.inr (.inr (.inr (.inr (.inr (.inr (.inr q))))))))
      · rw [List.mem_singleton] at q
        subst q; exact h.fr.none hb⟩
theorem Hx.relay (h : Hx C a D H0 H A S) {g : List Nat} {p : Nat} (hp : p < A.was.length) (hb : H b = some (.lst (nats g))) (ho : ¬ A.own a b) (hg : grow D H0 b) : Hx C a D H0 (upd H A.aw (.lst ((A.was.set p b).map V.ref))) { A with was := A.was.set p b } { S with ways := S.ways.set p g } :=
  ⟨h.fr.upd (h.ow _ (.inr (.inr (.inr (.inl rfl))))) _, h.co.relayU hp hb ho, fun x q => by
    rcases q with q | q | q | q | q | q | q | q | q
    · exact h.ow _ (.inl q)
    · exact h.ow _ (.inr (.inl q))
    · exact h.ow _ (.inr (.inr (.inl q)))
    · exact h.ow _ (.inr (.inr (.inr (.inl q))))
    · exact h.ow _ (.inr (.inr (.inr (.inr (.inl q)))))
    · exact h.ow _ (.inr (.inr (.inr (.inr (.inr (.inl q))))))
    · exact h.ow _ (.inr (.inr (.inr (.inr (.inr (.inr (.inl q)))))))
    · exact h.ow _ (.inr (.inr (.inr (.inr (.inr (.inr (.inr (.inl q))))))))
    · rcases List.mem_or_eq_of_mem_set q with q | q
      · exact h.ow _ (.inr (.inr (.inr (.inr (.inr (.inr (.inr (.inr q))))))))
      · subst q; exact hg⟩
theorem Hx.fresh (h : Hx C a D H0 H A S) (hb : H b = none) : ¬ A.own a b := fun q => by
  have K := h.co
  rcases q with q | q | q | q | q | q | q | q | q
  · rw [q, K.nt.obj] at hb; cases hb
  · rw [q, K.nt.g] at hb; cases hb
  · rw [q, K.nt.r] at hb; cases hb
  · rw [q, K.nt.w] at hb; cases hb
  · rw [q, K.o] at hb; cases hb
  · rw [q, K.l] at hb; cases hb
  · rw [q, K.h] at hb; cases hb
  · rw [q, K.n] at hb; cases hb
  · refine Ea.x1_2 (K.wsAt q) fun p _ e => ?_
    rw [e] at hb; cases hb
theorem Hx.wasAt (h : Hx C a D H0 H A S) {p : Nat} (hp : p < S.N) : ∃ b, A.was[p]? = some b ∧ H b = some (.lst (nats (S.W p))) := by
  have hp' : p < A.was.length := by rw [h.co.nt.wl]; exact hp
  exact ⟨_, List.getElem?_eq_getElem hp', h.co.nt.ws p _ (List.getElem?_eq_getElem hp')⟩
variable {K : PySem.W.Frag} {mg : Str → Option Value} {σ : St} {ti : TE} {i : Nat} {x : Int}
theorem Hx.eg (h : Hx C a D H0 H A S) (T : Txt K mg C) (e : σ[i]? = some (some (.ref a))) : Ev (tFld K (tVar i) "goals") σ H (.ref A.ag) := ev_fld (ev_var e) h.co.nt.obj T.clCourses T.n_goals h.co.nt.fg
theorem Hx.er (h : Hx C a D H0 H A S) (T : Txt K mg C) (e : σ[i]? = some (some (.ref a))) : Ev (tFld K (tVar i) "rooms") σ H (.ref A.ar) := ev_fld (ev_var e) h.co.nt.obj T.clCourses T.n_rooms h.co.nt.fr
theorem Hx.ew (h : Hx C a D H0 H A S) (T : Txt K mg C) (e : σ[i]? = some (some (.ref a))) : Ev (tFld K (tVar i) "ways") σ H (.ref A.aw) := ev_fld (ev_var e) h.co.nt.obj T.clCourses T.n_ways h.co.nt.fw
theorem Hx.eo (h : Hx C a D H0 H A S) (T : Txt K mg C) (e : σ[i]? = some (some (.ref a))) : Ev (tFld K (tVar i) "outlets") σ H (.ref A.ao) := ev_fld (ev_var e) h.co.nt.obj T.clCourses T.n_outlets h.co.fo
theorem Hx.el (h : Hx C a D H0 H A S) (T : Txt K mg C) (e : σ[i]? = some (some (.ref a))) : Ev (tFld K (tVar i) "leasts") σ H (.ref A.al) := ev_fld (ev_var e) h.co.nt.obj T.clCourses T.n_leasts h.co.fl
theorem Hx.eh (h : Hx C a D H0 H A S) (T : Txt K mg C) (e : σ[i]? = some (some (.ref a))) : Ev (tFld K (tVar i) "highest") σ H (.ref A.ah) := ev_fld (ev_var e) h.co.nt.obj T.clCourses T.n_highest h.co.fh
theorem Hx.en (h : Hx C a D H0 H A S) (T : Txt K mg C) (e : σ[i]? = some (some (.ref a))) : Ev (tFld K (tVar i) "lowest") σ H (.ref A.an) := ev_fld (ev_var e) h.co.nt.obj T.clCourses T.n_lowest h.co.fn
theorem Hx.eot (h : Hx C a D H0 H A S) (T : Txt K mg C) (e : σ[i]? = some (some (.ref a))) {t : Nat} (hi : Ev ti σ H (.int x)) (hx : x = (t : Nat)) (ht : t < S.outlets.length) : Ev (tOp (rIxL K) (tFld K (tVar i) "outlets") ti) σ H (.int (S.O t : Nat)) :=
  ev_ix (h.eo T e) hi h.co.o hx (nats_get ht)
theorem Hx.egw (h : Hx C a D H0 H A S) (T : Txt K mg C) (e : σ[i]? = some (some (.ref a))) {w : Nat} (hi : Ev ti σ H (.int x)) (hx : x = (w : Nat)) (hw : w < S.goals.length) : Ev (tOp (rIxL K) (tFld K (tVar i) "goals") ti) σ H (.int (S.g w : Nat)) :=
  ev_ix (h.eg T e) hi h.co.nt.g hx (nats_get hw)
theorem Hx.erw (h : Hx C a D H0 H A S) (T : Txt K mg C) (e : σ[i]? = some (some (.ref a))) {w : Nat} (hi : Ev ti σ H (.int x)) (hx : x = (w : Nat)) (hw : w < S.rooms.length) : Ev (tOp (rIxL K) (tFld K (tVar i) "rooms") ti) σ H (.int (S.r w)) :=
  ev_ix (h.er T e) hi h.co.nt.r hx (ints_get hw)
theorem Hx.eww (h : Hx C a D H0 H A S) (T : Txt K mg C) (e : σ[i]? = some (some (.ref a))) {p : Nat} {b : Addr} (hi : Ev ti σ H (.int x)) (hx : x = (p : Nat)) (hb : A.was[p]? = some b) : Ev (tOp (rIxL K) (tFld K (tVar i) "ways") ti) σ H (.ref b) :=
  ev_ix (h.ew T e) hi h.co.nt.w hx (by rw [List.getElem?_map, hb]; rfl)
end
section
variable {P : Program} {w : World} {K : PySem.W.Frag} {mg : Str → Option Value} {base : Heap} {C : Addr}
noncomputable def spForget (C : Addr) : Sp := fun vs H Q _ => ∃ (a : Addr) (D : Addr → Prop) (S : Cs), vs = [.ref a] ∧ Cc C a D H S ∧ ∀ H', Hd C a D H H' S.forget → Q .non H'
noncomputable abbrev s_Courses_forget_limits : Stmt := inClass (top 4) 14
theorem sc_Courses_forget_limits : FnScope ["self"] ["self"] (defScope s_Courses_forget_limits) := ⟨rfl, rfl, rfl, by decide +kernel, rfl, by decide +kernel, by decide +kernel⟩
theorem ok_forget {f : Addr} {fd : FuncData} (F : Fun K "forget_limits" "Courses.forget_limits" s_Courses_forget_limits f fd) (T : Txt K mg C) : FnOk P w K mg base CX0 1 f fd ["self"] (spForget C) := by
  refine F.ok sc_Courses_forget_limits (fun vs H Q E h => ?_) (fun cdv A outer s H vs Q E hr h => ?_)
  · refine Ea.l3 h fun a D S qz613 => ?_; try clear h; subst qz613
    rfl
  · refine Ea.x3_3 h fun a D S qz614 cc k => ?_; try clear h; subst qz614
    obtain ⟨A, X⟩ := cc.hx
    refine ⟨_, (pss_cons (ps_fld (pv 0) pe_dnewK rfl)
        (pss_one (ps_fld (pv 0) pe_dnewK rfl))), ?_⟩
    refine s_seq (a_fld fun p hp => var_go rfl (Ea.i4 a C A.dx A.fs ⟨rfl, by rw [upd_ne (ne_of_none X.co.nt.obj hp)]; exact X.co.nt.obj, T.clCourses, T.n_highest, Nat.lt_of_le_of_lt X.co.len (by decide), ?_⟩))
    have X1 := X.highN hp
    with_reducible refine s_nx ?_
    refine a_fld fun p2 hp2 => var_go rfl (Ea.i4 a C _ _ ⟨rfl, by rw [upd_ne (ne_of_none X1.co.nt.obj hp2)]; exact X1.co.nt.obj, T.clCourses, T.n_lowest, Nat.lt_of_le_of_lt X1.co.len (by decide), ?_⟩)
    exact k _ (X1.lowN hp2).hd
noncomputable def spAdd (C : Addr) : Sp := fun vs H Q _ => ∃ (a : Addr) (D : Addr → Prop) (S : Cs) (o q : Nat) (x y : Int), vs = [.ref a, .int o, .int q, .int x, .int y] ∧ Cc C a D H S ∧ o < S.N ∧ q < S.N ∧ S.goals.length < 100000 ∧ S.rooms.length < 100000 ∧ (∀ p, (S.W p).length < 100000) ∧
  ∀ H', Hd C a D H H' (S.addWay o q x y) → (∀ o, H a = some o → H' a = some o) → Q (.int (S.goals.length : Nat)) H'
noncomputable abbrev s_Courses_add_way : Stmt := inClass (top 4) 1
theorem sc_Courses_add_way : FnScope ["self", "origin", "goal", "more", "fewer", "way"] ["self", "origin", "goal", "more", "fewer"] (defScope s_Courses_add_way) := ⟨rfl, rfl, rfl, by decide +kernel, rfl, by decide +kernel, by decide +kernel⟩
theorem ok_add {f : Addr} {fd : FuncData} (F : Fun K "add_way" "Courses.add_way" s_Courses_add_way f fd) (T : Txt K mg C) : FnOk P w K mg base CX0 1 f fd ["self", "origin", "goal", "more", "fewer"] (spAdd C) := by
  refine F.ok sc_Courses_add_way (fun vs H Q E h => ?_) (fun cdv A outer s H vs Q E hr h => ?_)
  · refine Ea.l7 h fun a D S o q x y qz615 => ?_; try clear h; subst qz615
    rfl
  · refine Ea.e7 h fun a D S o q x y qz618 => Ea.a8 qz618 fun qz617 cc ho hq hg hr' hw k => ?_; try clear h; subst qz617
    obtain ⟨A, X⟩ := cc.hx
    refine ⟨_, (pss_cons (ps_set (i := 5) sc_Courses_add_way.nd rfl (Or.inl rfl) (pe_callB call_len_seq (by rfl) T.len PySem.boot_len (pa_cons (pe_fld (pv 0) rfl) pa_nil)))
        (pss_cons (ps_expr (pe_bm PySem.F.plainAttrs_list PySem.F.slot_list_append PySem.F.type_list_append mt_append (pe_fld (pv 0) rfl) (pa_cons (pv 2) pa_nil)))
        (pss_cons (ps_expr (pe_bm PySem.F.plainAttrs_list PySem.F.slot_list_append PySem.F.type_list_append mt_append (pe_fld (pv 0) rfl) (pa_cons (pv 3) pa_nil)))
        (pss_cons (ps_expr (pe_bm PySem.F.plainAttrs_list PySem.F.slot_list_append PySem.F.type_list_append mt_append (pe_ix ix_list (pe_fld (pv 0) rfl) (pv 1) (fun _ _ => rfl)) (pa_cons (pv 5) pa_nil)))
        (pss_cons (ps_expr (pe_bm PySem.F.plainAttrs_list PySem.F.slot_list_append PySem.F.type_list_append mt_append (pe_fld (pv 0) rfl) (pa_cons (pv 1) pa_nil)))
        (pss_cons (ps_expr (pe_bm PySem.F.plainAttrs_list PySem.F.slot_list_append PySem.F.type_list_append mt_append (pe_fld (pv 0) rfl) (pa_cons (pv 4) pa_nil)))
        (pss_cons (ps_expr (pe_bm PySem.F.plainAttrs_list PySem.F.slot_list_append PySem.F.type_list_append mt_append (pe_ix ix_list (pe_fld (pv 0) rfl) (pv 2) (fun _ _ => rfl)) (pa_cons (pe_op op_add (pv 5) pe_int) pa_nil)))
        (pss_one (ps_ret (pv 5)))))))))), ?_⟩
    refine s_seq (s_set (ev_len (X.eg T rfl) X.co.nt.g) ?_)
    rw [nats_len]
    with_reducible refine s_nx ?_
    refine s_seq (s_app (X.eg T rfl) (ev_var rfl) X.co.nt.g (by rw [nats_len]; exact line_lt (by lia)) ?_)
    rw [nats_snoc]
    have X1 := X.goals (S.goals ++ [q])
    with_reducible refine s_nx ?_
    refine s_seq (s_app (X1.er T rfl) (ev_var rfl) X1.co.nt.r (by rw [ints_len]; exact line_lt (show S.rooms.length < _ by lia)) ?_)
    rw [ints_snoc]
    have X2 := X1.rooms (S.rooms ++ [x])
    refine Ea.x1_2 (X2.wasAt ho) fun b hb hB => ?_
    with_reducible refine s_nx ?_
    refine s_seq (s_app (X2.eww T rfl (ev_var rfl) rfl hb) (ev_var rfl) hB (by rw [nats_len]; have := hw o; exact line_lt (by show (S.W o).length < _; lia)) ?_)
    rw [nats_snoc]
    have X3 := X2.way hb (S.W o ++ [S.goals.length])
    with_reducible refine s_nx ?_
    refine s_seq (s_app (X3.eg T rfl) (ev_var rfl) X3.co.nt.g (by rw [nats_len]; show (S.goals ++ [q]).length < _; rw [List.length_append, List.length_singleton]; exact line_lt (by lia)) ?_)
    rw [nats_snoc]
    have X4 := X3.goals ((S.goals ++ [q]) ++ [o])
    with_reducible refine s_nx ?_
    refine s_seq (s_app (X4.er T rfl) (ev_var rfl) X4.co.nt.r (by rw [ints_len]; show (S.rooms ++ [x]).length < _; rw [List.length_append, List.length_singleton]; exact line_lt (by lia)) ?_)
    rw [ints_snoc]
    have X5 := X4.rooms ((S.rooms ++ [x]) ++ [y])
    obtain ⟨b2, hb2, hB2⟩ := X5.wasAt (p := q) (by show q < (S.ways.set o _).length; rw [List.length_set]; exact hq)
    with_reducible refine s_nx ?_
    refine s_seq (s_app (X5.eww T rfl (ev_var rfl) rfl hb2) (ev_op0 (ev_var rfl) ev_c) hB2 ?_ ?_)
    · rw [nats_len]
      show (wy (S.ways.set o (S.W o ++ [S.goals.length])) q).length < _
      rw [wy_set]
      have h1 := hw o
      have h2 := hw q
      split
      · rw [List.length_append, List.length_singleton]; exact line_lt (by lia)
      · exact line_lt (by show (S.W q).length < _; lia)
    have e1 : V.int ((S.goals.length : Int) + 1) = V.int ((S.goals.length + 1 : Nat) : Int) := by push_cast; rfl
    rw [e1, nats_snoc]
    have X6 := X5.way hb2 (wy (S.ways.set o (S.W o ++ [S.goals.length])) q ++ [S.goals.length + 1])
    with_reducible refine s_nx ?_
    refine s_ret (ev_var rfl) ?_
    exact k _ X6.hd fun o ho => by rw [X.co.nt.obj] at ho; rw [← ho]; exact X6.co.nt.obj
noncomputable def spPlace (C : Addr) : Sp := fun vs H Q _ => ∃ (a : Addr) (D : Addr → Prop) (S : Cs) (t : Nat), vs = [.ref a, .int t] ∧ Cc C a D H S ∧ t < S.outlets.length ∧ S.O t ^^^ 1 < S.goals.length ∧ Q (.int (S.place t : Nat)) H
noncomputable abbrev s_Courses_place_of : Stmt := inClass (top 4) 2
theorem sc_Courses_place_of : FnScope ["self", "tank"] ["self", "tank"] (defScope s_Courses_place_of) := ⟨rfl, rfl, rfl, by decide +kernel, rfl, by decide +kernel, by decide +kernel⟩
theorem ok_place {f : Addr} {fd : FuncData} (F : Fun K "place_of" "Courses.place_of" s_Courses_place_of f fd) (T : Txt K mg C) : FnOk P w K mg base CX0 1 f fd ["self", "tank"] (spPlace C) := by
  refine F.ok sc_Courses_place_of (fun vs H Q E h => ?_) (fun cdv A outer s H vs Q E hr h => ?_)
  · refine Ea.l4 h fun a D S t qz619 => ?_; try clear h; subst qz619
    rfl
  · refine Ea.x4_5 h fun a D S t qz620 cc ht hg k => ?_; try clear h; subst qz620
    obtain ⟨A, X⟩ := cc.hx
    refine ⟨_, (pss_one (ps_ret (pe_ix ix_list (pe_fld (pv 0) rfl) (pe_op op_xor (pe_ix ix_list (pe_fld (pv 0) rfl) (pv 1) (fun _ _ => rfl)) pe_int) (fun _ _ => rfl)))), ?_⟩
    exact s_ret (X.egw T rfl (ev_op0 (X.eot T rfl (ev_var rfl) rfl ht) ev_c) (xor_nat _ 1) hg) k
noncomputable def spMarked (C : Addr) : Sp := fun vs H Q _ => ∃ (a : Addr) (D : Addr → Prop) (S : Cs) (t : Nat), vs = [.ref a, .int t] ∧ Cc C a D H S ∧ t < S.outlets.length ∧ S.O t ^^^ 1 < S.rooms.length ∧ Q (.int (S.marked t)) H
noncomputable abbrev s_Courses_marked : Stmt := inClass (top 4) 3
theorem sc_Courses_marked : FnScope ["self", "tank"] ["self", "tank"] (defScope s_Courses_marked) := ⟨rfl, rfl, rfl, by decide +kernel, rfl, by decide +kernel, by decide +kernel⟩
theorem ok_marked {f : Addr} {fd : FuncData} (F : Fun K "marked" "Courses.marked" s_Courses_marked f fd) (T : Txt K mg C) : FnOk P w K mg base CX0 1 f fd ["self", "tank"] (spMarked C) := by
  refine F.ok sc_Courses_marked (fun vs H Q E h => ?_) (fun cdv A outer s H vs Q E hr h => ?_)
  · refine Ea.l4 h fun a D S t qz622 => ?_; try clear h; subst qz622
    rfl
  · refine Ea.x4_5 h fun a D S t qz623 cc ht hg k => ?_; try clear h; subst qz623
    obtain ⟨A, X⟩ := cc.hx
    refine ⟨_, (pss_one (ps_ret (pe_ix ix_list (pe_fld (pv 0) rfl) (pe_op op_xor (pe_ix ix_list (pe_fld (pv 0) rfl) (pv 1) (fun _ _ => rfl)) pe_int) (fun _ _ => rfl)))), ?_⟩
    exact s_ret (X.erw T rfl (ev_op0 (X.eot T rfl (ev_var rfl) rfl ht) ev_c) (xor_nat _ 1) hg) k
noncomputable def spAmount (C : Addr) : Sp := fun vs H Q _ => ∃ (a : Addr) (D : Addr → Prop) (S : Cs) (t : Nat), vs = [.ref a, .int t] ∧ Cc C a D H S ∧ t < S.outlets.length ∧ S.O t < S.rooms.length ∧ S.O t ^^^ 1 < S.rooms.length ∧ Q (.int (S.amount t)) H
noncomputable abbrev s_Courses_amount : Stmt := inClass (top 4) 4
theorem sc_Courses_amount : FnScope ["self", "tank"] ["self", "tank"] (defScope s_Courses_amount) := ⟨rfl, rfl, rfl, by decide +kernel, rfl, by decide +kernel, by decide +kernel⟩
theorem ok_amount {f : Addr} {fd : FuncData} (F : Fun K "amount" "Courses.amount" s_Courses_amount f fd) (T : Txt K mg C) (M_Courses_marked : Mt P w K mg base C "marked" 1 ["self", "tank"] (spMarked C)) : FnOk P w K mg base CX0 2 f fd ["self", "tank"] (spAmount C) := by
  refine F.ok sc_Courses_amount (fun vs H Q E h => ?_) (fun cdv A outer s H vs Q E hr h => ?_)
  · refine Ea.l4 h fun a D S t qz625 => ?_; try clear h; subst qz625
    rfl
  · refine Ea.x4_6 h fun a D S t qz626 cc ht h1 h2 k => ?_; try clear h; subst qz626
    obtain ⟨A, X⟩ := cc.hx
    refine ⟨_, (pss_one (ps_ret (pe_op op_add (pe_ix ix_list (pe_fld (pv 0) rfl) (pe_ix ix_list (pe_fld (pv 0) rfl) (pv 1) (fun _ _ => rfl)) (fun _ _ => rfl)) (pe_mt M_Courses_marked T.clCourses (hr.mono (by decide)) (pv 0) (pa_cons (pv 1) pa_nil))))), ?_⟩
    refine a_ret (a_op (op_go (X.erw T rfl (X.eot T rfl (ev_var rfl) rfl ht) rfl h1) (ev_meth (ev_var rfl) X.co.nt.obj (X.co.nt.fo _ (by decide +kernel)) (ea_cons (ev_var rfl) ea_nil) ?_)))
    exact (Ea.i4 a D S t ⟨rfl, cc, ht, h2, _, _, rfl, rfl, k⟩)
noncomputable def spSetOut (C : Addr) : Sp := fun vs H Q _ => ∃ (a : Addr) (D : Addr → Prop) (S : Cs) (t : Nat) (am mk : Int), vs = [.ref a, .int t, .int am, .int mk] ∧ Cc C a D H S ∧ t < S.outlets.length ∧ S.O t < S.rooms.length ∧ S.O t ^^^ 1 < S.rooms.length ∧
  ∀ H', Hd C a D H H' (S.setOutlet t am mk) → Q .non H'
noncomputable abbrev s_Courses_set_outlet : Stmt := inClass (top 4) 5
theorem sc_Courses_set_outlet : FnScope ["self", "tank", "amount", "marked", "outlet"] ["self", "tank", "amount", "marked"] (defScope s_Courses_set_outlet) := ⟨rfl, rfl, rfl, by decide +kernel, rfl, by decide +kernel, by decide +kernel⟩
theorem ok_setout {f : Addr} {fd : FuncData} (F : Fun K "set_outlet" "Courses.set_outlet" s_Courses_set_outlet f fd) (T : Txt K mg C) : FnOk P w K mg base CX0 1 f fd ["self", "tank", "amount", "marked"] (spSetOut C) := by
  refine F.ok sc_Courses_set_outlet (fun vs H Q E h => ?_) (fun cdv A outer s H vs Q E hr h => ?_)
  · refine Ea.l6 h fun a D S t am mk qz628 => ?_; try clear h; subst qz628
    rfl
  · refine Ea.e6 h fun a D S t am mk qz631 => Ea.a6 qz631 fun qz630 cc ht h1 h2 k => ?_; try clear h; subst qz630
    obtain ⟨A, X⟩ := cc.hx
    refine ⟨_, (pss_cons (ps_set (i := 4) sc_Courses_set_outlet.nd rfl (Or.inl rfl) (pe_ix ix_list (pe_fld (pv 0) rfl) (pv 1) (fun _ _ => rfl)))
        (pss_cons (ps_asg (pe_op op_sub (pv 2) (pv 3)) (pg_sub (pe_fld (pv 0) rfl) (pv 4) set_list))
        (pss_one (ps_asg (pv 3) (pg_sub (pe_fld (pv 0) rfl) (pe_op op_xor (pv 4) pe_int) set_list))))), ?_⟩
    refine s_seq (s_set (X.eot T rfl (ev_var rfl) rfl ht) ?_)
    with_reducible refine s_nx ?_
    refine s_seq (s_put (ev_op0 (ev_var rfl) (ev_var rfl)) (X.er T rfl) (ev_var rfl) X.co.nt.r rfl (by rw [ints_len]; exact h1) ?_)
    rw [ints_set]
    have X1 := X.rooms (S.rooms.set (S.O t) (am - mk))
    with_reducible refine s_nx ?_
    refine s_put (ev_var rfl) (X1.er T rfl) (ev_op0 (ev_var rfl) ev_c) X1.co.nt.r (xor_nat _ 1) (by rw [ints_len]; show _ < (S.rooms.set _ _).length; rw [List.length_set]; exact h2) ?_
    rw [ints_set]
    exact k _ (X1.rooms _).hd
noncomputable def spBounds (C : Addr) : Sp := fun vs H Q _ => ∃ (a : Addr) (D : Addr → Prop) (S : Cs) (wy : Nat) (lo mk hi : Int), vs = [.ref a, .int wy, .int lo, .int mk, .int hi] ∧ Cc C a D H S ∧ wy < S.rooms.length ∧ wy ^^^ 1 < S.rooms.length ∧ S.leasts.length < 100000 ∧
  ∀ H', Hd C a D H H' (S.setBounds wy lo mk hi) → Q .non H'
noncomputable abbrev s_Courses_set_bounds : Stmt := inClass (top 4) 11
theorem sc_Courses_set_bounds : FnScope ["self", "way", "least", "marked", "most"] ["self", "way", "least", "marked", "most"] (defScope s_Courses_set_bounds) := ⟨rfl, rfl, rfl, by decide +kernel, rfl, by decide +kernel, by decide +kernel⟩
theorem ok_bounds {f : Addr} {fd : FuncData} (F : Fun K "set_bounds" "Courses.set_bounds" s_Courses_set_bounds f fd) (T : Txt K mg C) : FnOk P w K mg base CX0 1 f fd ["self", "way", "least", "marked", "most"] (spBounds C) := by
  refine F.ok sc_Courses_set_bounds (fun vs H Q E h => ?_) (fun cdv A outer s H vs Q E hr h => ?_)
  · refine Ea.l7 h fun a D S wy lo mk hi qz632 => ?_; try clear h; subst qz632
    rfl
  · refine Ea.e7 h fun a D S wy lo mk hi qz635 => Ea.a6 qz635 fun qz634 cc h1 h2 hl k => ?_; try clear h; subst qz634
    obtain ⟨A, X⟩ := cc.hx
    refine ⟨_, (pss_cons (ps_dput (hu_of hr) (pe_fld (pv 0) rfl) (pv 1) (pv 2) rfl)
        (pss_cons (ps_asg (pe_op op_sub (pv 4) (pv 3)) (pg_sub (pe_fld (pv 0) rfl) (pv 1) set_list))
        (pss_one (ps_asg (pe_op op_sub (pv 3) (pv 2)) (pg_sub (pe_fld (pv 0) rfl) (pe_op op_xor (pv 1) pe_int) set_list))))), ?_⟩
    refine s_seq (s_dput (X.el T rfl) (ev_var rfl) (ev_var rfl) X.co.l rfl (by lia) ?_)
    have X0 := X.least (putN S.leasts wy lo)
    with_reducible refine s_nx ?_
    refine s_seq (s_put (ev_op0 (ev_var rfl) (ev_var rfl)) (X0.er T rfl) (ev_var rfl) X0.co.nt.r rfl (by rw [ints_len]; exact h1) ?_)
    rw [ints_set]
    have X1 := X0.rooms (S.rooms.set wy (hi - mk))
    with_reducible refine s_nx ?_
    refine s_put (ev_op0 (ev_var rfl) (ev_var rfl)) (X1.er T rfl) (ev_op0 (ev_var rfl) ev_c) X1.co.nt.r (xor_nat _ 1) (by rw [ints_len]; show _ < (S.rooms.set _ _).length; rw [List.length_set]; exact h2) ?_
    rw [ints_set]
    exact k _ (X1.rooms _).hd
end
end Mg
end
section
set_option maxRecDepth 100000
set_option maxHeartbeats 2000000
namespace Mg
open PySem PySem.Spec
open PyProof.Rows hiding St
open L2
open Ks176 (Went)
structure Szs (n m : Nat) (S : Cs) : Prop where
  mm : m ≤ 544
  N : S.N ≤ 290
  W : ∀ p, (S.W p).length ≤ 1088
  l : S.leasts.length ≤ 1088
  gl : S.goals.length = 2 * m
  rl : S.rooms.length = 2 * m
  ol : S.outlets.length = n
  N2 : 2 ≤ S.N
  O : ∀ t, t < n → S.O t < 2 * m ∧ S.O t ^^^ 1 < 2 * m
  p : ∀ t, t < n → S.place t < S.N
theorem Ok.szs {n m : Nat} {l : List Went} {iw : Nat → Nat} {S : Cs} (K : Ok n l m iw S) (hn : n ≤ 32) (hl : l.length ≤ 256) : Szs n m S := by
  have mb := K.mb
  have Nb := K.Nb
  refine ⟨by lia, by lia, fun p => by have := K.sk.cap p; lia, ?_, K.gl, K.rl, K.ol, K.sk.N2, fun t ht => ?_, fun t ht => ?_⟩
  · have := len_le (k := 2 * m) K.sk.kn fun w hw => by obtain ⟨e, a, b, _⟩ := K.sk.ke w hw; lia
    rw [keysN, List.length_map] at this
    lia
  · obtain ⟨e, E⟩ := K.out ht
    have := E.lt
    rw [E.x, E.O]; lia
  · obtain ⟨e, E⟩ := K.out ht
    rw [E.pl]; exact E.pN
section
variable {C a : Addr} {D : Addr → Prop} {H0 H : Hp} {A : Ad} {S : Cs} {K : PySem.W.Frag} {mg : Str → Option Value} {σ : St} {ti : TE} {i t : Nat} {x : Int}
theorem Hx.mplace (h : Hx C a D H0 H A S) (e : σ[i]? = some (some (.ref a))) (hi : Ev ti σ H (.int x)) (hx : x = (t : Nat)) (ht : t < S.outlets.length) (hg : S.O t ^^^ 1 < S.goals.length) : Ev (tMeth C "place_of" (spPlace C) [] E0 (tVar i) (tCons ti tNil)) σ H (.int (S.place t : Nat)) :=
  fun Q q => ev_meth (ev_var e) h.co.nt.obj (h.co.nt.fo _ (by decide +kernel)) (ea_cons hi ea_nil) ⟨a, _, S, t, by rw [hx], h.cc, ht, hg, q⟩
theorem Hx.mmarked (h : Hx C a D H0 H A S) (e : σ[i]? = some (some (.ref a))) (hi : Ev ti σ H (.int x)) (hx : x = (t : Nat)) (ht : t < S.outlets.length) (hg : S.O t ^^^ 1 < S.rooms.length) : Ev (tMeth C "marked" (spMarked C) [] E0 (tVar i) (tCons ti tNil)) σ H (.int (S.marked t)) :=
  fun Q q => ev_meth (ev_var e) h.co.nt.obj (h.co.nt.fo _ (by decide +kernel)) (ea_cons hi ea_nil) ⟨a, _, S, t, by rw [hx], h.cc, ht, hg, q⟩
theorem Hx.mamount (h : Hx C a D H0 H A S) (e : σ[i]? = some (some (.ref a))) (hi : Ev ti σ H (.int x)) (hx : x = (t : Nat)) (ht : t < S.outlets.length) (h1 : S.O t < S.rooms.length) (h2 : S.O t ^^^ 1 < S.rooms.length) : Ev (tMeth C "amount" (spAmount C) [] E0 (tVar i) (tCons ti tNil)) σ H (.int (S.amount t)) :=
  fun Q q => ev_meth (ev_var e) h.co.nt.obj (h.co.nt.fo _ (by decide +kernel)) (ea_cons hi ea_nil) ⟨a, _, S, t, by rw [hx], h.cc, ht, h1, h2, q⟩
theorem Hx.call (h : Hx C a D H0 H A S) {m : Str} {sp : Sp} {ta : TA} {vs : List V} {Q : VK} (e : σ[i]? = some (some (.ref a))) (hm : m ∉ flds) (k : Ea ta σ H vs) (q : sp (.ref a :: vs) H Q E0) : tMeth C m sp [] E0 (tVar i) ta σ H Q :=
  ev_meth (ev_var e) h.co.nt.obj (h.co.nt.fo _ hm) k q
end
section
variable {P : Program} {w : World} {K : PySem.W.Frag} {mg : Str → Option Value} {base : Heap} {C : Addr}
noncomputable def spCome (C : Addr) : Sp := fun vs H Q _ => ∃ (a : Addr) (D : Addr → Prop) (S : Cs) (n m : Nat) (l : List Went) (iw : Nat → Nat) (t : Nat) (am lo hi : Int), vs = [.ref a, .int t, .int am, .int lo, .int hi] ∧ Cc C a D H S ∧ Ok n l m iw S ∧ n ≤ 32 ∧ l.length ≤ 256 ∧ t < n ∧
  ∀ H', Hd C a D H H' (S.comeIn t am lo hi) → Q (.int (S.goals.length : Nat)) H'
noncomputable abbrev s_Courses_come_in : Stmt := inClass (top 4) 6
theorem sc_Courses_come_in : FnScope ["self", "tank", "amount", "least", "most", "way"] ["self", "tank", "amount", "least", "most"] (defScope s_Courses_come_in) := ⟨rfl, rfl, rfl, by decide +kernel, rfl, by decide +kernel, by decide +kernel⟩
theorem ok_come {f : Addr} {fd : FuncData} (F : Fun K "come_in" "Courses.come_in" s_Courses_come_in f fd) (T : Txt K mg C) (M_Courses_forget_limits : Mt P w K mg base C "forget_limits" 1 ["self"] (spForget C)) (M_Courses_add_way : Mt P w K mg base C "add_way" 1 ["self", "origin", "goal", "more", "fewer"] (spAdd C))
    (M_Courses_place_of : Mt P w K mg base C "place_of" 1 ["self", "tank"] (spPlace C)) (M_Courses_marked : Mt P w K mg base C "marked" 1 ["self", "tank"] (spMarked C)) (M_Courses_amount : Mt P w K mg base C "amount" 2 ["self", "tank"] (spAmount C)) (M_Courses_set_outlet : Mt P w K mg base C "set_outlet" 1 ["self", "tank", "amount", "marked"] (spSetOut C)) :
    FnOk P w K mg base CX0 3 f fd ["self", "tank", "amount", "least", "most"] (spCome C) := by
  refine F.ok sc_Courses_come_in (fun vs H Q E h => ?_) (fun cdv A outer s H vs Q E hr h => ?_)
  · refine Ea.l11 h fun a D S n m l iw t am lo hi qz636 => ?_; try clear h; subst qz636
    rfl
  · refine Ea.e11 h fun a D S n m l iw t am lo hi qz639 => Ea.a7 qz639 fun qz638 cc ok hn hl ht k => ?_; try clear h; subst qz638
    obtain ⟨A, X⟩ := cc.hx
    have Z := ok.szs hn hl
    have zm := Z.mm
    obtain ⟨O1, O2⟩ := Z.O t ht
    refine ⟨_, (pss_cons (ps_expr (pe_mt0 M_Courses_forget_limits T.clCourses (hr.mono (by decide)) (pv 0)))
        (pss_cons (ps_set (i := 5) sc_Courses_come_in.nd rfl (Or.inl rfl) (pe_mt M_Courses_add_way T.clCourses (hr.mono (by decide)) (pv 0) (pa_cons (pe_gint rfl T.g_OUTSIDE) (pa_cons (pe_mt M_Courses_place_of T.clCourses (hr.mono (by decide)) (pv 0) (pa_cons (pv 1) pa_nil)) (pa_cons (pe_op op_sub (pv 4) (pv 3)) (pa_cons pe_int pa_nil))))))
        (pss_cons (ps_dput (hu_of hr) (pe_fld (pv 0) rfl) (pv 5) (pv 3) rfl)
        (pss_cons (ps_expr (pe_mt M_Courses_set_outlet T.clCourses (hr.mono (by decide)) (pv 0) (pa_cons (pv 1) (pa_cons (pe_op op_add (pe_mt M_Courses_amount T.clCourses (hr.mono (by decide)) (pv 0) (pa_cons (pv 1) pa_nil)) (pv 2)) (pa_cons (pe_op op_add (pe_mt M_Courses_marked T.clCourses (hr.mono (by decide)) (pv 0) (pa_cons (pv 1) pa_nil)) (pv 3)) pa_nil)))))
        (pss_one (ps_ret (pv 5))))))), ?_⟩
    refine s_seq (a_drop (X.call rfl (by decide +kernel) ea_nil ⟨a, _, S, rfl, X.cc, fun H1 d1 => ?_⟩))
    obtain ⟨A1, X1⟩ := X.step d1
    with_reducible refine s_nx ?_
    refine s_seq (a_set <| X1.call rfl (by decide +kernel) (ea_cons ev_c (ea_cons (X1.mplace rfl (ev_var rfl) rfl (by show t < S.outlets.length; rw [Z.ol]; exact ht) (by show S.O t ^^^ 1 < S.goals.length; rw [Z.gl]; exact O2)) (ea_cons (ev_op0 (ev_var rfl) (ev_var rfl)) (ea_cons ev_c ea_nil))))
      (Ea.i7 a _ S.forget 0 (S.place t) (hi - lo) 0 ⟨rfl, X1.cc, by have := Z.N2; show 0 < S.N; lia, Z.p t ht, by show S.goals.length < _; rw [Z.gl]; lia, by show S.rooms.length < _; rw [Z.rl]; lia, fun p => by have := Z.W p; show (S.W p).length < _; lia, fun H2 d2 _ => ?_⟩))
    obtain ⟨A2, X2⟩ := X1.step d2
    with_reducible refine s_nx ?_
    refine s_seq (s_dput (k := S.goals.length) (X2.el T rfl) (ev_var rfl) (ev_var rfl) X2.co.l rfl (by have := Z.l; show S.leasts.length < _; lia) ?_)
    have X3 := X2.least (putN S.leasts S.goals.length lo)
    have rl3 : ((S.forget.addWay 0 (S.place t) (hi - lo) 0).putLeast S.goals.length lo).rooms.length = 2 * m + 2 := by
      show (S.forget.addWay 0 (S.place t) (hi - lo) 0).rooms.length = _
      rw [Cs.addWay_rlen]; show S.rooms.length + 2 = _; rw [Z.rl]
    have ol3 : t < ((S.forget.addWay 0 (S.place t) (hi - lo) 0).putLeast S.goals.length lo).outlets.length := by show t < S.outlets.length; rw [Z.ol]; exact ht
    have h1 : ((S.forget.addWay 0 (S.place t) (hi - lo) 0).putLeast S.goals.length lo).O t < ((S.forget.addWay 0 (S.place t) (hi - lo) 0).putLeast S.goals.length lo).rooms.length := by rw [rl3]; show S.O t < _; lia
    have h2 : ((S.forget.addWay 0 (S.place t) (hi - lo) 0).putLeast S.goals.length lo).O t ^^^ 1 < ((S.forget.addWay 0 (S.place t) (hi - lo) 0).putLeast S.goals.length lo).rooms.length := by rw [rl3]; show S.O t ^^^ 1 < _; lia
    with_reducible refine s_nx ?_
    refine s_seq (a_drop <| X3.call rfl (by decide +kernel) (ea_cons (ev_var rfl) (ea_cons (ev_op0 (X3.mamount rfl (ev_var rfl) rfl ol3 h1 h2) (ev_var rfl)) (ea_cons (ev_op0 (X3.mmarked rfl (ev_var rfl) rfl ol3 h2) (ev_var rfl)) ea_nil)))
      (Ea.i6 a _ _ t _ _ ⟨rfl, X3.cc, ol3, h1, h2, fun H4 d4 => ?_⟩))
    obtain ⟨A4, X4⟩ := X3.step d4
    with_reducible refine s_nx ?_
    exact s_ret (ev_var rfl) (k H4 X4.hd)
noncomputable def spGo (C : Addr) : Sp := fun vs H Q _ => ∃ (a : Addr) (D : Addr → Prop) (S : Cs) (n m : Nat) (l : List Went) (iw : Nat → Nat) (t : Nat) (am mk lo hi : Int), vs = [.ref a, .int t, .int am, .int mk, .int lo, .int hi] ∧ Cc C a D H S ∧ Ok n l m iw S ∧ n ≤ 32 ∧ l.length ≤ 256 ∧ t < n ∧
  ∀ H', Hd C a D H H' (S.goOn t am mk lo hi) → Q .non H'
noncomputable abbrev s_Courses_go_on : Stmt := inClass (top 4) 8
theorem sc_Courses_go_on : FnScope ["self", "tank", "amount", "marked", "least", "most", "way", "place"] ["self", "tank", "amount", "marked", "least", "most"] (defScope s_Courses_go_on) := ⟨rfl, rfl, rfl, by decide +kernel, rfl, by decide +kernel, by decide +kernel⟩
theorem ok_go {f : Addr} {fd : FuncData} (F : Fun K "go_on" "Courses.go_on" s_Courses_go_on f fd) (T : Txt K mg C) (M_Courses_forget_limits : Mt P w K mg base C "forget_limits" 1 ["self"] (spForget C)) (M_Courses_add_way : Mt P w K mg base C "add_way" 1 ["self", "origin", "goal", "more", "fewer"] (spAdd C)) :
    FnOk P w K mg base CX0 2 f fd ["self", "tank", "amount", "marked", "least", "most"] (spGo C) := by
  refine F.ok sc_Courses_go_on (fun vs H Q E h => ?_) (fun cdv A outer s H vs Q E hr h => ?_)
  · refine Ea.l12 h fun a D S n m l iw t am mk lo hi qz640 => ?_; try clear h; subst qz640
    rfl
  · refine Ea.e12 h fun a D S n m l iw t am mk lo hi qz643 => Ea.a7 qz643 fun qz642 cc ok hn hl ht k => ?_; try clear h; subst qz642
    obtain ⟨A, X⟩ := cc.hx
    have Z := ok.szs hn hl
    have zm := Z.mm
    have zN := Z.N
    have zN2 := Z.N2
    obtain ⟨O1, O2⟩ := Z.O t ht
    have olt : t < S.outlets.length := by rw [Z.ol]; exact ht
    refine ⟨_, (pss_cons (ps_expr (pe_mt0 M_Courses_forget_limits T.clCourses (hr.mono (by decide)) (pv 0)))
        (pss_cons (ps_set (i := 6) sc_Courses_go_on.nd rfl (Or.inl rfl) (pe_ix ix_list (pe_fld (pv 0) rfl) (pv 1) (fun _ _ => rfl)))
        (pss_cons (ps_set (i := 7) sc_Courses_go_on.nd rfl (Or.inl rfl) (pe_callB call_len_seq (by rfl) T.len PySem.boot_len (pa_cons (pe_fld (pv 0) rfl) pa_nil)))
        (pss_cons (ps_expr (pe_bm PySem.F.plainAttrs_list PySem.F.slot_list_append PySem.F.type_list_append mt_append (pe_fld (pv 0) rfl) (pa_cons (pe_lst (pa_cons (pe_op op_xor (pv 6) pe_int) pa_nil)) pa_nil)))
        (pss_cons (ps_asg (pv 7) (pg_sub (pe_fld (pv 0) rfl) (pv 6) set_list))
        (pss_cons (ps_asg (pe_op op_sub (pv 5) (pv 3)) (pg_sub (pe_fld (pv 0) rfl) (pv 6) set_list))
        (pss_cons (ps_asg (pe_op op_sub (pv 3) (pv 4)) (pg_sub (pe_fld (pv 0) rfl) (pe_op op_xor (pv 6) pe_int) set_list))
        (pss_one (ps_asg (pe_mt M_Courses_add_way T.clCourses (hr.mono (by decide)) (pv 0) (pa_cons (pv 7) (pa_cons (pe_gint rfl T.g_OUTSIDE) (pa_cons (pe_op op_sub (pv 2) (pv 3)) (pa_cons (pv 3) pa_nil))))) (pg_sub (pe_fld (pv 0) rfl) (pv 1) set_list)))))))))), ?_⟩
    refine s_seq (a_drop (X.call rfl (by decide +kernel) ea_nil ⟨a, _, S, rfl, X.cc, fun H1 d1 => ?_⟩))
    obtain ⟨A1, X1⟩ := X.step d1
    with_reducible refine s_nx ?_
    refine s_seq (s_set (X1.eot T rfl (ev_var rfl) rfl olt) ?_)
    with_reducible refine s_nx ?_
    refine s_seq (s_set (ev_len (X1.ew T rfl) X1.co.nt.w) ?_)
    have wl : (A1.was.map V.ref).length = S.N := by rw [List.length_map]; exact X1.co.nt.wl
    rw [wl]
    with_reducible refine s_nx ?_
    refine s_seq (a_drop (a_bm (fld_go (X1.ew T rfl) ⟨.inl ⟨rfl, _, SqL.of X1.co.nt.w⟩, a_cons (a_lst (a_cons (op_go (v := V.int ((S.O t ^^^ 1 : Nat) : Int)) (by rw [← xor_nat]; exact ev_op0 (ev_var rfl) ev_c) ⟨show 1 ≤ sizeLine by decide, fun p hp => ?_⟩)))⟩)))
    have nw : (upd H1 p (.lst [V.int ((S.O t ^^^ 1 : Nat) : Int)])) A1.aw = some (.lst (A1.was.map V.ref)) := by rw [upd_ne (ne_of_none X1.co.nt.w hp)]; exact X1.co.nt.w
    refine (Ea.i3 A1.aw _ (.ref p) ⟨rfl, rfl, nw, by rw [wl]; exact line_lt (by lia), ?_⟩)
    have ew : A1.was.map V.ref ++ [V.ref p] = (A1.was ++ [p]).map V.ref := by rw [List.map_append]; rfl
    rw [ew]
    have X2 := X1.placeN (g := [S.O t ^^^ 1]) hp
    with_reducible refine s_nx ?_
    refine s_seq (s_put (ev_var rfl) (X2.eg T rfl) (ev_var rfl) X2.co.nt.g rfl (by rw [nats_len]; show S.O t < S.goals.length; rw [Z.gl]; exact O1) ?_)
    rw [nats_set]
    have X3 := X2.goals (S.goals.set (S.O t) S.N)
    with_reducible refine s_nx ?_
    refine s_seq (s_put (ev_op0 (ev_var rfl) (ev_var rfl)) (X3.er T rfl) (ev_var rfl) X3.co.nt.r rfl (by rw [ints_len]; show S.O t < S.rooms.length; rw [Z.rl]; exact O1) ?_)
    rw [ints_set]
    have X4 := X3.rooms (S.rooms.set (S.O t) (hi - mk))
    with_reducible refine s_nx ?_
    refine s_seq (s_put (ev_op0 (ev_var rfl) (ev_var rfl)) (X4.er T rfl) (ev_op0 (ev_var rfl) ev_c) X4.co.nt.r (xor_nat _ 1) (by rw [ints_len]; show _ < (S.rooms.set _ _).length; rw [List.length_set, Z.rl]; exact O2) ?_)
    rw [ints_set]
    have X5 := X4.rooms ((S.rooms.set (S.O t) (hi - mk)).set (S.O t ^^^ 1) (mk - lo))
    obtain ⟨S5, hS5⟩ : ∃ S5, S5 = S.newPlace t mk lo hi := ⟨_, rfl⟩
    have X5' := Hx.to (S' := S5) X5 rfl (by rw [hS5]; rfl)
    have N5 : S5.N = S.N + 1 := by rw [hS5]; show (S.ways ++ [_]).length = _; rw [List.length_append]; rfl
    have g5 : S5.goals.length = 2 * m := by rw [hS5]; show (S.goals.set _ _).length = _; rw [List.length_set, Z.gl]
    have r5 : S5.rooms.length = 2 * m := by rw [hS5]; show ((S.rooms.set _ _).set _ _).length = _; rw [List.length_set, List.length_set, Z.rl]
    have W5 : ∀ p, (S5.W p).length < 100000 := fun p => by
      rw [hS5]
      show (wy (S.ways ++ [[S.O t ^^^ 1]]) p).length < _
      rw [wy_snoc]
      have := Z.W p
      split
      · show (S.W p).length < _; lia
      · split <;> simp
    with_reducible refine s_nx ?_
    refine a_asg <| X5'.call rfl (by decide +kernel) (ea_cons (ev_var rfl) (ea_cons ev_c (ea_cons (ev_op0 (ev_var rfl) (ev_var rfl)) (ea_cons (ev_var rfl) ea_nil))))
      (Ea.i7 a _ S5 S.N 0 (am - mk) mk ⟨rfl, X5'.cc, by lia, by lia, by lia, by lia, W5, fun H6 d6 _ => ?_⟩)
    obtain ⟨A6, X6⟩ := X5'.step d6
    rw [g5]
    refine a_sub <| fld_go (X6.eo T rfl) (var_go rfl (Ea.i4 A6.ao _ _ t ⟨rfl, rfl, X6.co.o, ixN_nat (by rw [nats_len]; show t < S5.outlets.length; rw [hS5]; exact olt), ?_⟩))
    rw [nats_set]
    have X7 := X6.outl (S5.outlets.set t (2 * m))
    refine k _ ?_
    have e7 : S.goOn t am mk lo hi = { S5.addWay S.N 0 (am - mk) mk with outlets := S5.outlets.set t (2 * m) } := by rw [hS5, ← Z.gl]; rfl
    rw [e7]
    exact X7.hd
noncomputable def spPour (C : Addr) : Sp := fun vs H Q _ => ∃ (a : Addr) (D : Addr → Prop) (S : Cs) (n m : Nat) (l : List Went) (iw : Nat → Nat) (o q : Nat) (am : Int), vs = [.ref a, .int o, .int q, .int am] ∧ Cc C a D H S ∧ Ok n l m iw S ∧ n ≤ 32 ∧ l.length ≤ 256 ∧ o < n ∧ q < n ∧ o ≠ q ∧
  ∀ H', Hd C a D H H' (S.pourS o q am) → Q .non H'
noncomputable abbrev s_Courses_pour : Stmt := inClass (top 4) 7
theorem sc_Courses_pour : FnScope ["self", "origin", "goal", "amount", "place", "left", "along", "stay"] ["self", "origin", "goal", "amount"] (defScope s_Courses_pour) := ⟨rfl, rfl, rfl, by decide +kernel, rfl, by decide +kernel, by decide +kernel⟩
theorem ok_pour {f : Addr} {fd : FuncData} (F : Fun K "pour" "Courses.pour" s_Courses_pour f fd) (T : Txt K mg C) (M_Courses_go_on : Mt P w K mg base C "go_on" 2 ["self", "tank", "amount", "marked", "least", "most"] (spGo C)) (M_Courses_add_way : Mt P w K mg base C "add_way" 1 ["self", "origin", "goal", "more", "fewer"] (spAdd C))
    (M_Courses_place_of : Mt P w K mg base C "place_of" 1 ["self", "tank"] (spPlace C)) (M_Courses_marked : Mt P w K mg base C "marked" 1 ["self", "tank"] (spMarked C)) (M_Courses_amount : Mt P w K mg base C "amount" 2 ["self", "tank"] (spAmount C)) (M_Courses_set_outlet : Mt P w K mg base C "set_outlet" 1 ["self", "tank", "amount", "marked"] (spSetOut C)) :
    FnOk P w K mg base CX0 3 f fd ["self", "origin", "goal", "amount"] (spPour C) := by
  refine F.ok sc_Courses_pour (fun vs H Q E h => ?_) (fun cdv A outer s H vs Q E hr h => ?_)
  · refine Ea.l10 h fun a D S n m l iw o q am qz644 => ?_; try clear h; subst qz644
    rfl
  · refine Ea.e10 h fun a D S n m l iw o q am qz647 => Ea.a9 qz647 fun qz646 cc ok hn hl ho hq hoq k => ?_; try clear h; subst qz646
    obtain ⟨A, X⟩ := cc.hx
    have Z := ok.szs hn hl
    have zm := Z.mm
    have zN := Z.N
    obtain ⟨O1, O2⟩ := Z.O o ho
    obtain ⟨q1, q2⟩ := Z.O q hq
    have olo : o < S.outlets.length := by rw [Z.ol]; exact ho
    have olq : q < S.outlets.length := by rw [Z.ol]; exact hq
    refine ⟨_, (pss_cons (ps_set (i := 4) sc_Courses_pour.nd rfl (Or.inl rfl) (pe_mt M_Courses_place_of T.clCourses (hr.mono (by decide)) (pv 0) (pa_cons (pv 1) pa_nil)))
        (pss_cons (ps_set (i := 5) sc_Courses_pour.nd rfl (Or.inl rfl) (pe_op op_sub (pe_mt M_Courses_amount T.clCourses (hr.mono (by decide)) (pv 0) (pa_cons (pv 1) pa_nil)) (pv 3)))
        (pss_cons (ps_set (i := 6) sc_Courses_pour.nd rfl (Or.inl rfl) (pe_callB (call_max2 rfl) (by rfl) T.max PyProof.Rows.boot_max (pa_cons pe_int (pa_cons (pe_op op_sub (pe_mt M_Courses_marked T.clCourses (hr.mono (by decide)) (pv 0) (pa_cons (pv 1) pa_nil)) (pv 5)) pa_nil))))
        (pss_cons (ps_set (i := 7) sc_Courses_pour.nd rfl (Or.inl rfl) (pe_op op_sub (pe_mt M_Courses_marked T.clCourses (hr.mono (by decide)) (pv 0) (pa_cons (pv 1) pa_nil)) (pv 6)))
        (pss_cons (ps_expr (pe_mt M_Courses_go_on T.clCourses (hr.mono (by decide)) (pv 0) (pa_cons (pv 1) (pa_cons (pv 5) (pa_cons (pv 7) (pa_cons pe_int (pa_cons (pv 5) pa_nil)))))))
        (pss_cons (ps_expr (pe_mt M_Courses_add_way T.clCourses (hr.mono (by decide)) (pv 0) (pa_cons (pv 4) (pa_cons (pe_mt M_Courses_place_of T.clCourses (hr.mono (by decide)) (pv 0) (pa_cons (pv 2) pa_nil)) (pa_cons (pe_op op_sub (pv 3) (pv 6)) (pa_cons (pv 6) pa_nil))))))
        (pss_one (ps_expr (pe_mt M_Courses_set_outlet T.clCourses (hr.mono (by decide)) (pv 0) (pa_cons (pv 2) (pa_cons (pe_op op_add (pe_mt M_Courses_amount T.clCourses (hr.mono (by decide)) (pv 0) (pa_cons (pv 2) pa_nil)) (pv 3)) (pa_cons (pe_op op_add (pe_mt M_Courses_marked T.clCourses (hr.mono (by decide)) (pv 0) (pa_cons (pv 2) pa_nil)) (pv 6)) pa_nil)))))))))))), ?_⟩
    refine s_seq (s_set (X.mplace rfl (ev_var rfl) rfl olo (by rw [Z.gl]; exact O2)) ?_)
    with_reducible refine s_nx ?_
    refine s_seq (s_set (ev_op0 (X.mamount rfl (ev_var rfl) rfl olo (by rw [Z.rl]; exact O1) (by rw [Z.rl]; exact O2)) (ev_var rfl)) ?_)
    obtain ⟨left, hleft⟩ : ∃ left, left = S.amount o - am := ⟨_, rfl⟩
    rw [← hleft]
    with_reducible refine s_nx ?_
    refine s_seq (a_set (a_cb (a_cons (c_go (a_cons (op_go (ev_op0 (X.mmarked rfl (ev_var rfl) rfl olo (by rw [Z.rl]; exact O2)) (ev_var rfl)) ⟨0, S.marked o - left, rfl, ?_⟩))))))
    obtain ⟨al, hal⟩ : ∃ al, al = if S.marked o - left > 0 then S.marked o - left else 0 := ⟨_, rfl⟩
    rw [← hal]
    with_reducible refine s_nx ?_
    refine s_seq (s_set (ev_op0 (X.mmarked rfl (ev_var rfl) rfl olo (by rw [Z.rl]; exact O2)) (ev_var rfl)) ?_)
    with_reducible refine s_nx ?_
    refine s_seq (a_drop <| X.call rfl (by decide +kernel) (ea_cons (ev_var rfl) (ea_cons (ev_var rfl) (ea_cons (ev_var rfl) (ea_cons ev_c (ea_cons (ev_var rfl) ea_nil)))))
      (Ea.i12 a _ S n m l iw o left (S.marked o - al) 0 left ⟨rfl, X.cc, ok, hn, hl, ho, fun H1 d1 => ?_⟩))
    obtain ⟨A1, X1⟩ := X.step d1
    obtain ⟨e, Eo⟩ := ok.out ho
    obtain ⟨f', Fo⟩ := ok.out hq
    have elt := Eo.lt
    have flt := Fo.lt
    have hef : e ≠ f' := fun z => hoq (OutAt.inj ok ho hq Eo Fo z)
    have G := ok.go ho Eo left (S.marked o - al) 0 left
    obtain ⟨S1, hS1⟩ : ∃ S1, S1 = S.goOn o left (S.marked o - al) 0 left := ⟨_, rfl⟩
    rw [← hS1] at G X1
    have Oq : S1.O q = 2 * f' := by rw [G.O, if_neg (fun z => hoq z.symm), Fo.O]
    have xq : S1.O q ^^^ 1 = 2 * f' + 1 := by rw [Oq, xor1_even]
    have plq : S1.place q = S.g (2 * f' + 1) := by unfold Cs.place; rw [xq, G.g, if_pos (by lia), if_neg (by lia)]
    have N1 := G.N
    have olq1 : q < S1.outlets.length := by rw [G.ol]; exact hq
    with_reducible refine s_nx ?_
    refine s_seq (a_drop <| X1.call rfl (by decide +kernel) (ea_cons (ev_var rfl) (ea_cons (X1.mplace rfl (ev_var rfl) rfl olq1 (by rw [xq, G.gl]; lia)) (ea_cons (ev_op0 (ev_var rfl) (ev_var rfl)) (ea_cons (ev_var rfl) ea_nil))))
      (Ea.i7 a _ S1 (S.place o) (S1.place q) (am - al) al ⟨rfl, X1.cc, by have := Z.p o ho; lia, by have := Fo.pN; rw [plq]; lia, by rw [G.gl]; lia, by rw [G.rl]; lia, fun p => by have := G.sk.cap p; lia, fun H2 d2 _ => ?_⟩))
    obtain ⟨A2, X2⟩ := X1.step d2
    have rl2 : (S1.addWay (S.place o) (S1.place q) (am - al) al).rooms.length = 2 * m + 4 := by rw [Cs.addWay_rlen, G.rl]; lia
    have ol2 : q < (S1.addWay (S.place o) (S1.place q) (am - al) al).outlets.length := olq1
    have h1 : (S1.addWay (S.place o) (S1.place q) (am - al) al).O q < (S1.addWay (S.place o) (S1.place q) (am - al) al).rooms.length := by rw [rl2]; show S1.O q < _; lia
    have h2 : (S1.addWay (S.place o) (S1.place q) (am - al) al).O q ^^^ 1 < (S1.addWay (S.place o) (S1.place q) (am - al) al).rooms.length := by rw [rl2]; show S1.O q ^^^ 1 < _; lia
    with_reducible refine s_nx ?_
    refine a_drop <| X2.call rfl (by decide +kernel) (ea_cons (ev_var rfl) (ea_cons (ev_op0 (X2.mamount rfl (ev_var rfl) rfl ol2 h1 h2) (ev_var rfl)) (ea_cons (ev_op0 (X2.mmarked rfl (ev_var rfl) rfl ol2 h2) (ev_var rfl)) ea_nil)))
      (Ea.i6 a _ _ q _ _ ⟨rfl, X2.cc, ol2, h1, h2, fun H3 d3 => ?_⟩)
    obtain ⟨A3, X3⟩ := X2.step d3
    refine k H3 ?_
    have e3 : S.pourS o q am = (S1.addWay (S.place o) (S1.place q) (am - al) al).setOutlet q ((S1.addWay (S.place o) (S1.place q) (am - al) al).amount q + am) ((S1.addWay (S.place o) (S1.place q) (am - al) al).marked q + al) := by rw [hS1, hal, hleft]; rfl
    rw [e3]
    exact X3.hd
end
end Mg
end
section
set_option maxRecDepth 100000
set_option maxHeartbeats 2000000
namespace Mg
open PySem PySem.Spec
open PyProof.Rows hiding St
open L2
open Ks176 (Went)
theorem for_enum {K : PySem.W.Frag} {a : Addr} {xs : List V} {g : TG} {tb : TS} {D : Ends} {σ : St} {H : Hp} (Pv : Nat → St → Hp → Prop) (h0 : Pv 0 σ H) (hl : ∀ i σ H, i ≤ xs.length → Pv i σ H → SqL K H a xs)
    (hs : ∀ i x T σ H, xs[i]? = some x → H T = none → Pv i σ H → g (.ref T) σ (upd H T (.tup [.int (i : Nat), x])) fun σ2 H2 => tb { D with nx := Pv (i + 1), ct := Pv (i + 1), bk := D.nx } σ2 H2) (hd : ∀ σ H, Pv xs.length σ H → D.nx σ H) :
    ∃ W : Nat → Nat → St → Hp → Prop, (∃ m, W 0 m σ H) ∧ ∀ i m σ H, W i m σ H →
      ((Ite K a).stop i H ∧ D.nx σ H) ∨ ((Ite K a).go i H ∧ ∃ N : St → Hp → Prop, (∀ σ' H', N σ' H' → ∃ m', m' < m ∧ W (i + 1) m' σ' H') ∧ ∀ x H', (Ite K a).yld i H x H' → g x σ H' fun σ2 H2 => tb { D with nx := N, ct := N, bk := D.nx } σ2 H2) := by
  refine ⟨fun i m σ H => m = xs.length - i ∧ i ≤ xs.length ∧ Pv i σ H, ⟨xs.length, by simp, Nat.zero_le _, h0⟩, ?_⟩
  intro i m σ H qz648
  refine Ea.a3 qz648 fun qz649 hi p => ?_; try clear qz648; subst qz649
  have q := hl i σ H hi p
  by_cases hlt : i < xs.length
  · refine .inr ⟨⟨xs, xs[i], q, by simp [hlt]⟩, Pv (i + 1), fun σ' H' p' => ⟨xs.length - (i + 1), by lia, rfl, hlt, p'⟩, fun x H' y => ?_⟩
    refine Ea.x2_4 y ?_; clear y; intro T z qz650 hT qz651 y; subst qz650; subst qz651
    exact hs i z T σ _ (y xs q) hT p
  · have e : i = xs.length := by lia
    subst e
    exact .inl ⟨⟨xs, q, Nat.le_refl _⟩, hd σ H p⟩
theorem a_forE {K : PySem.W.Frag} {ta : TA} {a : Addr} {xs : List V} {g : TG} {tb : TS} {D : Ends} {σ : St} {H : Hp} (h : Ea ta σ H [.ref a]) (hx : SqL K H a xs) (Pv : Nat → St → Hp → Prop) (h0 : Pv 0 σ H) (hl : ∀ i σ H, i ≤ xs.length → Pv i σ H → SqL K H a xs)
    (hs : ∀ U : Nat → St → Hp → Prop, (∀ {i σ H}, Pv i σ H → U i σ H) → ∀ i x T σ H, xs[i]? = some x → H T = none → Pv i σ H → g (.ref T) σ (upd H T (.tup [.int (i : Nat), x])) fun σ2 H2 => tb { D with nx := U (i + 1), ct := U (i + 1), bk := D.nx } σ2 H2) (hd : ∀ σ H, Pv xs.length σ H → D.nx σ H) : tFor (iEnum K ta) g tb D σ H :=
  h _ ⟨a, xs, rfl, hx, for_enum Pv h0 hl (hs Pv fun h => h) hd⟩
theorem bitT (ch t : Nat) : (Builtin.bitAnd ((ch : Int) / 2 ^ ((t : Nat) : Int).toNat) 1 != 0) = ch.testBit t := by
  have e1 : ((ch : Int) / 2 ^ ((t : Nat) : Int).toNat) = ((ch / 2 ^ t : Nat) : Int) := by rw [Int.toNat_natCast]; push_cast; rfl
  have e2 := Bits.bitAnd_mask (x := ((ch / 2 ^ t : Nat) : Int)) 1 (Int.natCast_nonneg _)
  have e3 : (2 : Int) ^ 1 - 1 = 1 := by decide
  rw [e3] at e2
  rw [e1, e2, Nat.testBit_eq_decide_div_mod_eq]
  have e4 : ((ch / 2 ^ t : Nat) : Int) % 2 ^ 1 = ((ch / 2 ^ t % 2 : Nat) : Int) := by push_cast; rfl
  rw [e4]
  have : ch / 2 ^ t % 2 < 2 := Nat.mod_lt _ (by decide)
  by_cases h : ch / 2 ^ t % 2 = 1
  · rw [h]; rfl
  · have h0 : ch / 2 ^ t % 2 = 0 := by lia
    rw [h0]; rfl
noncomputable def mem (ch n : Nat) : List Nat := (List.range n).filter ch.testBit
theorem mem_succ (ch n : Nat) : mem ch (n + 1) = mem ch n ++ (if ch.testBit n then [n] else []) := by
  unfold mem
  rw [List.range_succ, List.filter_append]
  congr 1
  by_cases h : ch.testBit n
  · rw [if_pos h, List.filter_cons, if_pos h]; rfl
  · rw [if_neg h, List.filter_cons, if_neg h]; rfl
theorem mem_len (ch n : Nat) : (mem ch n).length ≤ n := by
  have := List.length_filter_le ch.testBit (List.range n)
  rw [List.length_range] at this
  exact this
theorem mem_lt {ch n t : Nat} (h : t ∈ mem ch n) : t < n := List.mem_range.mp (List.mem_filter.mp h).1
theorem sum_snocI (l : List Int) (x : Int) : (l ++ [x]).sum = l.sum + x := by
  induction l with
  | nil => simp
  | cons a l ih => simp; lia
theorem sum_mem (ch : Nat) (f : Nat → Int) (n : Nat) : ((mem ch n).map f).sum = sumN n fun t => if ch.testBit t then f t else 0 := by
  induction n with
  | zero => rfl
  | succ n ih =>
    rw [mem_succ, List.map_append, sumN, ← ih]
    by_cases h : ch.testBit n
    · rw [if_pos h, if_pos h, List.map_cons, List.map_nil, sum_snocI]
    · rw [if_neg h, if_neg h, List.map_nil, List.append_nil]; lia
section
variable {K : PySem.W.Frag} {σ : St} {H : Hp} {td ty : TE} {c2 : TT} {x : Int} {a : Addr} {l : List (Nat × Int)} {k : Nat}
theorem et_inAnd {f : Int → Bool} (hd : Ev td σ H (.ref a)) (hk : Ev ty σ H (.int x)) (ha : H a = some (.dK (kvN l))) (e : x = (k : Nat)) (h2 : ∀ v, look l k = some v → Et c2 σ H (f v)) : Et (tAnd (tB (tDIn ty td)) c2) σ H ((look l k).elim false f) := fun Q q => et_din hd hk ha e _ (by
  cases hl : look l k with
  | none =>
    rw [hl] at q
    exact iteF q
  | some v =>
    rw [hl] at q
    exact iteT (h2 v hl Q q))
end
section
variable {P : Program} {w : World} {K : PySem.W.Frag} {mg : Str → Option Value} {base : Heap} {C : Addr}
noncomputable def spMembers (C : Addr) : Sp := fun vs H Q _ => ∃ (a : Addr) (D : Addr → Prop) (S : Cs) (ch : Nat), vs = [.ref a, .int ch] ∧ Cc C a D H S ∧ S.outlets.length < 100000 ∧
  ∀ (p : Addr) (H' : Hp), Same H H' → H p = none → H' p = some (.lst (nats (mem ch S.outlets.length))) → Q (.ref p) H'
noncomputable abbrev s_Courses_members : Stmt := inClass (top 4) 15
theorem sc_Courses_members : FnScope ["self", "chosen", "tank"] ["self", "chosen"] (defScope s_Courses_members) := ⟨rfl, rfl, rfl, by decide +kernel, rfl, by decide +kernel, by decide +kernel⟩
theorem ok_members {f : Addr} {fd : FuncData} (F : Fun K "members" "Courses.members" s_Courses_members f fd) (T : Txt K mg C) : FnOk P w K mg base CX0 1 f fd ["self", "chosen"] (spMembers C) := by
  refine F.ok sc_Courses_members (fun vs H Q E h => ?_) (fun cdv A outer s H vs Q E hr h => ?_)
  · refine Ea.l4 h fun a D S ch qz652 => ?_; try clear h; subst qz652
    rfl
  · refine Ea.x4_4 h fun a D S ch qz653 cc hn k => ?_; try clear h; subst qz653
    obtain ⟨A, X⟩ := cc.hx
    refine ⟨_, (pss_one (ps_ret (pe_lc rfl sc_Courses_members.nd (pi_range1 rfl T.range (pa_cons (pe_callB call_len_seq (by rfl) T.len PySem.boot_len (pa_cons (pe_fld (pv 0) rfl) pa_nil)) pa_nil)) (blkOk_by (own := [("tank", 2)]) (by show blkC ["self", "chosen", "tank"] (defScope s_Courses_members) _ _ = true; decide +kernel)) (fun _ _ _ _ _ => pg_name (i := 2) sc_Courses_members.nd rfl (Or.inl rfl)) (fun _ _ _ _ _ => (show PTs _ _ (fun σ H Q => (tOp (rI0 fun i j => .int (Builtin.bitAnd i j)) (tOp (rI (fun _ j => 0 ≤ j) fun i j => .int (i / 2 ^ j.toNat)) (tVar 1) (tVar 2)) (tC (.int 1))) σ H fun x H2 => ∃ k, TruV K x H2 k ∧ Q k H2) from pts_one (pt_truth (pe_op op_and (pe_op op_shr (pv 1) (pv 2)) pe_int) (by intro _; rfl)))) (fun _ _ _ _ _ => (pv 2))))), ?_⟩
    refine a_ret (a_lc (a_iR1 (cons_ea (ea_cons (ev_len (X.eo T rfl) X.co.o) ea_nil) ⟨_, rfl, by lia, by rw [nats_len]; lia, fun p hp => ?_⟩)))
    rw [nats_len, Int.toNat_natCast]
    refine lc_range (tt := fun σ H Q => (tOp (rI0 fun i j => .int (Builtin.bitAnd i j)) (tOp (rI (fun _ j => 0 ≤ j) fun i j => .int (i / 2 ^ j.toNat)) (tVar 1) (tVar 2)) (tC (.int 1))) σ H fun x H2 => ∃ k, TruV K x H2 k ∧ Q k H2) (fun i H' => H' = upd H p (.lst (nats (mem ch i)))) rfl ?_ ?_
    · rintro i H' hi rfl
      refine ⟨rfl, ?_⟩
      refine op_go (ev_op0 (ev_op (ev_var rfl) (ev_var rfl) (by show (0 : Int) ≤ 0 + (i : Int); lia)) ev_c) ⟨_, rfl, ?_⟩
      have e0 : (0 : Int) + (i : Int) = (i : Nat) := Int.zero_add _
      rw [e0, bitT]
      cases hb : ch.testBit i
      · refine iteF ?_
        rw [mem_succ, hb]; simp
      · refine iteT ?_
        refine var_go rfl ⟨_, upd_same, ?_, ?_⟩
        · rw [nats_len]
          have := mem_len ch i
          exact line_lt (by lia)
        · rw [upd_upd, nats_snoc, mem_succ, hb]; rfl
    · rintro H' rfl
      exact k p _ (fun b o e => by rw [upd_ne (ne_of_none e hp)]; exact e) hp upd_same
noncomputable def spPart (C : Addr) : Sp := fun vs H Q _ => ∃ (a : Addr) (D : Addr → Prop) (S : Cs) (ch : Nat), vs = [.ref a, .int ch] ∧ Cc C a D H S ∧ 2 ≤ S.N ∧ (∀ s t, s < S.outlets.length → t < S.outlets.length → S.O s = S.O t → s = t) ∧ (∀ t, t < S.outlets.length → S.O t < S.goals.length) ∧ S.outlets.length < 100000 ∧ S.leasts.length < 100000 ∧
  ∀ H', Hd C a D H H' (S.part ch) → Q .non H'
theorem outsB_len (n : Nat) (O : Nat → Nat) (ch : Nat → Bool) (b : Bool) : (outsB n O ch b).length ≤ n := by
  unfold outsB
  rw [List.length_map]
  have := List.length_filter_le (fun t => ch t == b) (List.range n)
  rw [List.length_range] at this
  exact this
noncomputable abbrev s_Courses_part_outlets : Stmt := inClass (top 4) 19
theorem sc_Courses_part_outlets : FnScope ["self", "chosen", "tank", "outlet", "goal"] ["self", "chosen"] (defScope s_Courses_part_outlets) := ⟨rfl, rfl, rfl, by decide +kernel, rfl, by decide +kernel, by decide +kernel⟩
theorem ok_part {f : Addr} {fd : FuncData} (F : Fun K "part_outlets" "Courses.part_outlets" s_Courses_part_outlets f fd) (T : Txt K mg C) : FnOk P w K mg base CX0 1 f fd ["self", "chosen"] (spPart C) := by
  refine F.ok sc_Courses_part_outlets (fun vs H Q E h => ?_) (fun cdv A outer s H vs Q E hr h => ?_)
  · refine Ea.l4 h fun a D S ch qz655 => ?_; try clear h; subst qz655
    rfl
  · refine Ea.e4 h fun a D S ch qz657 => Ea.a8 qz657 fun qz656 cc N2 oi ob hn hl k => ?_; try clear h; subst qz656
    obtain ⟨A, X⟩ := cc.hx
    refine ⟨_, (pss_cons (ps_asg (pe_callTy (call_list_dict rfl) (by rfl) T.list boot_listQ (pa_cons (pe_fld (pv 0) rfl) pa_nil)) (pg_sub (pe_fld (pv 0) rfl) (pe_gint rfl T.g_OUTSIDE) set_list))
        (pss_cons (ps_asg (pe_lst pa_nil) (pg_sub (pe_fld (pv 0) rfl) (pe_gint rfl T.g_GATHERED) set_list))
        (pss_one (ps_for PassesOwn.never rfl (pi_enum rfl T.enumerate (pa_cons (pe_fld (pv 0) rfl) pa_nil)) (pg_tup rfl (pgs_cons (pg_name (i := 2) sc_Courses_part_outlets.nd rfl (Or.inl rfl)) (pgs_cons (pg_name (i := 3) sc_Courses_part_outlets.nd rfl (Or.inl rfl)) pgs_nil)))
        (pss_cons (ps_set (i := 4) sc_Courses_part_outlets.nd rfl (Or.inl rfl) (pe_ifExp (pt_truth (pe_op op_and (pe_op op_shr (pv 1) (pv 2)) pe_int) (by intro _; rfl)) (pe_gint rfl T.g_GATHERED) (pe_gint rfl T.g_OUTSIDE)))
        (pss_cons (ps_asg (pv 4) (pg_sub (pe_fld (pv 0) rfl) (pv 3) set_list))
        (pss_one (ps_expr (pe_bm PySem.F.plainAttrs_list PySem.F.slot_list_append PySem.F.type_list_append mt_append (pe_ix ix_list (pe_fld (pv 0) rfl) (pv 4) (fun _ _ => rfl)) (pa_cons (pe_op op_xor (pv 3) pe_int) pa_nil)))))))))), ?_⟩
    refine s_seq (a_asg (a_cb (cons_ea (ea_cons (X.el T rfl) ea_nil) ⟨A.al, _, rfl, X.co.l, fun p hp => ?_⟩)))
    rw [kvN_keys]
    have X1 := X.new hp (.lst (nats (keysN S.leasts)))
    have wl1 : A.was.length = S.N := X.co.nt.wl
    refine a_sub <| fld_go (X1.ew T rfl) (c_go (Ea.i4 A.aw _ 0 0 ⟨rfl, rfl, X1.co.nt.w, by rw [List.length_map]; exact ixN_nat (j := 0) (by lia), ?_⟩))
    have ew : ∀ (l : List Addr) (i : Nat) (b : Addr), (l.map V.ref).set i (V.ref b) = (l.set i b).map V.ref := fun l i b => (List.map_set (f := V.ref)).symm
    rw [ew]
    have X2 := X1.relay (p := 0) (by lia) upd_same (X.fresh hp) (X.fr.none hp)
    with_reducible refine s_nx ?_
    refine s_seq (a_asg ⟨Nat.zero_le _, fun p2 hp2 => ?_⟩)
    have X3 := X2.new hp2 (.lst [])
    refine a_sub <| fld_go (X3.ew T rfl) (c_go (Ea.i4 A.aw _ 1 1 ⟨rfl, rfl, X3.co.nt.w, by rw [List.length_map]; exact ixN_nat (j := 1) (by show 1 < (A.was.set 0 p).length; rw [List.length_set]; lia), ?_⟩))
    rw [ew]
    have X4 := X3.relay (p := 1) (g := []) (by show 1 < (A.was.set 0 p).length; rw [List.length_set]; lia) upd_same (X2.fresh hp2) (X2.fr.none hp2)
    obtain ⟨A4, hA4⟩ : ∃ A4 : Ad, A4 = { { A with was := A.was.set 0 p } with was := (A.was.set 0 p).set 1 p2 } := ⟨_, rfl⟩
    have X5 := Hx.to (A' := A4) (S' := S.partI ch 0) X4 (by rw [hA4]) rfl
    have outE : ∀ i, i ≤ S.outlets.length → (S.partI ch i).outlets = S.outlets := fun i hi => (parted ch N2 oi ob i hi).o
    with_reducible refine s_nx ?_
    refine a_forE (K := K) (a := A4.ao) (xs := nats S.outlets) (ea_cons (X5.eo T rfl) ea_nil) (SqL.of X5.co.o) (fun i σ H' => ∃ (v2 v3 v4 : Option V) (A' : Ad), i ≤ S.outlets.length ∧ A'.ao = A4.ao ∧ σ = [some (.ref a), some (.int ch), v2, v3, v4] ∧ Hx C a D H H' A' (S.partI ch i))
      ⟨_, _, _, A4, Nat.zero_le _, rfl, rfl, X5⟩ ?_ ?_ ?_
    · intro i σ H' _ qz658
      refine Ea.x4_4 qz658 fun v2 v3 v4 A' hi eo qz659 X' => ?_; try clear qz658; subst qz659
      have := X'.co.o
      rw [outE i hi, eo] at this
      exact SqL.of this
    · intro Uf hU i x Tp σ H' hx hT qz661
      refine Ea.x4_4 qz661 fun v2 v3 v4 A' hi eo qz662 X' => ?_; try clear qz661; subst qz662
      refine Ea.x1_2 (nats_at hx) fun o ho qz664 => ?_; subst qz664
      have hil : i < S.outlets.length := (List.getElem?_eq_some_iff.mp ho).1
      have PP := parted ch N2 oi ob i hi
      obtain ⟨S1, hS1⟩ : ∃ S1, S1 = S.partI ch i := ⟨_, rfl⟩
      rw [← hS1] at X' PP
      have oO : o = S1.O i := by
        show o = S1.outlets.getD i 0
        rw [PP.o, List.getD_eq_getElem?_getD, ho]; rfl
      subst oO
      have Xt := X'.new hT (.tup [.int (i : Nat), .int (S1.O i : Nat)])
      refine ⟨Tp, _, rfl, SqT.of upd_same, rfl, _, _, rfl, _, _, rfl, rfl, ?_⟩
      refine s_seq (s_set (v := .int (bt ch i : Nat)) (ev_if (et_truthI (K := K) (ev_op0 (ev_op (ev_var rfl) (ev_var rfl) (by show (0 : Int) ≤ (i : Nat); lia)) ev_c)) (fun hb => ?_) (fun hb => ?_)) ?_)
      · rw [bitT] at hb
        have : bt ch i = 1 := by unfold bt; rw [hb]; rfl
        rw [this]; exact ev_c
      · rw [bitT] at hb
        have : bt ch i = 0 := by unfold bt; rw [hb]; rfl
        rw [this]; exact ev_c
      have gl1 : S1.O i < S1.goals.length := by
        rw [PP.gl]
        have : S1.O i = S.O i := by unfold Cs.O; rw [PP.o]
        rw [this]; exact ob i hil
      with_reducible refine s_nx ?_
      refine s_seq (s_put (ev_var rfl) (Xt.eg T rfl) (ev_var rfl) Xt.co.nt.g rfl (by rw [nats_len]; exact gl1) ?_)
      rw [nats_set]
      have Xg := Xt.goals (S1.goals.set (S1.O i) (bt ch i))
      have bN : bt ch i < S1.N := by rw [PP.N]; unfold bt; split <;> lia
      refine Ea.x1_2 (Xg.wasAt (p := bt ch i) bN) fun b hb hB => ?_
      with_reducible refine s_nx ?_
      refine s_app (Xg.eww T rfl (ev_var rfl) rfl hb) (show Ev _ _ _ (V.int ((S1.O i ^^^ 1 : Nat) : Int)) from by rw [← xor_nat]; exact ev_op0 (ev_var rfl) ev_c) hB ?_ ?_
      · rw [nats_len]
        show (S1.W (bt ch i)).length < _
        have h0 : (S1.W 0).length ≤ S.leasts.length + i := by
          rw [PP.W0, List.length_append, keysN, List.length_map]
          have := outsB_len i S.O ch.testBit false
          lia
        have h1 : (S1.W 1).length ≤ i := by rw [PP.W1]; exact outsB_len i S.O ch.testBit true
        refine line_lt ?_
        unfold bt
        split <;> lia
      · rw [nats_snoc]
        have Xw := Xg.way hb (S1.W (bt ch i) ++ [S1.O i ^^^ 1])
        refine hU ⟨_, _, _, A', hil, eo, rfl, ?_⟩
        show Hx C a D H _ A' ((S.partI ch i).partStep ch i)
        rw [← hS1]
        exact Xw
    · intro σ H' qz665
      refine Ea.x4_4 qz665 fun v2 v3 v4 A' hi eo qz666 X' => ?_; try clear qz665; subst qz666
      rw [nats_len] at X'
      exact k H' X'.hd
noncomputable def spBring (C : Addr) : Sp := fun vs H Q _ => ∃ (a : Addr) (D : Addr → Prop) (S : Cs) (n m : Nat) (l : List Went) (iw : Nat → Nat) (ch : Nat) (lo hi : Int), vs = [.ref a, .int ch, .int lo, .int hi] ∧ Cc C a D H S ∧ Ok n l m iw S ∧ Cch n l S ∧ n ≤ 32 ∧ l.length ≤ 256 ∧ S.highest.length < 100000 ∧ S.lowest.length < 100000 ∧ lo ≤ hi ∧
  ∀ (v : Int) (S' : Cs) (H' : Hp), Bring n m l iw S S' ch lo hi v → Hd C a D H H' S' → Q (.int v) H'
noncomputable abbrev s_Courses_bring : Stmt := inClass (top 4) 16
theorem sc_Courses_bring : FnScope ["self", "chosen", "least", "most", "marked", "tank"] ["self", "chosen", "least", "most"] (defScope s_Courses_bring) := ⟨rfl, rfl, rfl, by decide +kernel, rfl, by decide +kernel, by decide +kernel⟩
theorem ok_bring {f : Addr} {fd : FuncData} (F : Fun K "bring" "Courses.bring" s_Courses_bring f fd) (T : Txt K mg C) (M_Courses_members : Mt P w K mg base C "members" 1 ["self", "chosen"] (spMembers C)) (M_Courses_marked : Mt P w K mg base C "marked" 1 ["self", "tank"] (spMarked C))
    (M_Courses_part_outlets : Mt P w K mg base C "part_outlets" 1 ["self", "chosen"] (spPart C)) (M_Courses_push : Mt P w K mg base C "push" 3 ["self", "origin", "goal", "wanted"] (spPush C)) :
    FnOk P w K mg base CX0 4 f fd ["self", "chosen", "least", "most"] (spBring C) := by
  refine F.ok sc_Courses_bring (fun vs H Q E h => ?_) (fun cdv A outer s H vs Q E hr h => ?_)
  · refine Ea.l10 h fun a D S n m l iw ch lo hi qz668 => ?_; try clear h; subst qz668
    rfl
  · refine Ea.e10 h fun a D S n m l iw ch lo hi qz671 => Ea.a10 qz671 fun qz670 cc ok cch hn hl hh hw hlh k => ?_; try clear h; subst qz670
    obtain ⟨A, X⟩ := cc.hx
    have Z := ok.szs hn hl
    have zm := Z.mm
    have zN := Z.N
    have zN2 := Z.N2
    have zl := Z.l
    have zol := Z.ol
    refine ⟨_, (pss_cons (ps_if (PW.pt (pw_and (pt_cmp (pc_din (hu_of hr) (pv 1) (pe_fld (pv 0) rfl))) (pw_and1 (pt_cmpR op_gt (pv 2) (pe_dget (hu_of hr) (pe_fld (pv 0) rfl) (pv 1) (fun _ _ => rfl)) (nomark _)))))
        (pss_one (ps_ret (pe_dget (hu_of hr) (pe_fld (pv 0) rfl) (pv 1) (fun _ _ => rfl))))
        pss_nil)
        (pss_cons (ps_if (PW.pt (pw_and (pt_cmp (pc_din (hu_of hr) (pv 1) (pe_fld (pv 0) rfl))) (pw_and1 (pt_cmpR op_lt (pv 3) (pe_dget (hu_of hr) (pe_fld (pv 0) rfl) (pv 1) (fun _ _ => rfl)) (nomark _)))))
        (pss_one (ps_ret (pe_dget (hu_of hr) (pe_fld (pv 0) rfl) (pv 1) (fun _ _ => rfl))))
        pss_nil)
        (pss_cons (ps_set (i := 4) sc_Courses_bring.nd rfl (Or.inl rfl) (pe_callB (cr_sum rfl) (by rfl) T.sum PyProof.Rows.boot_sum (pa_cons (pe_lc rfl sc_Courses_bring.nd (pi_list (pe_mt M_Courses_members T.clCourses (hr.mono (by decide)) (pv 0) (pa_cons (pv 1) pa_nil))) (blkOk_by (own := [("tank", 5)]) (by show blkC ["self", "chosen", "least", "most", "marked", "tank"] (defScope s_Courses_bring) _ _ = true; decide +kernel)) (fun _ _ _ _ _ => pg_name (i := 5) sc_Courses_bring.nd rfl (Or.inl rfl)) (fun _ _ _ _ _ => pts_nil) (fun _ _ _ _ _ => (pe_mt M_Courses_marked T.clCourses (hr.mono (by decide)) (pv 0) (pa_cons (pv 5) pa_nil)))) pa_nil)))
        (pss_cons (ps_if (pt_cmpR op_lt (pv 4) (pv 2) (nomark _))
        (pss_cons (ps_expr (pe_mt M_Courses_part_outlets T.clCourses (hr.mono (by decide)) (pv 0) (pa_cons (pv 1) pa_nil)))
        (pss_cons (ps_aug (i := 4) sc_Courses_bring.nd rfl (Or.inl rfl) (pe_mt M_Courses_push T.clCourses (hr.mono (by decide)) (pv 0) (pa_cons (pe_gint rfl T.g_OUTSIDE) (pa_cons (pe_gint rfl T.g_GATHERED) (pa_cons (pe_op op_sub (pv 2) (pv 4)) pa_nil)))) ip_add)
        (pss_one (ps_if (pt_cmpR op_lt (pv 4) (pv 2) (nomark _))
        (pss_one (ps_dput (hu_of hr) (pe_fld (pv 0) rfl) (pv 1) (pv 4) rfl))
        pss_nil))))
        (pss_one (ps_if (pt_cmpR op_gt (pv 4) (pv 3) (nomark _))
        (pss_cons (ps_expr (pe_mt M_Courses_part_outlets T.clCourses (hr.mono (by decide)) (pv 0) (pa_cons (pv 1) pa_nil)))
        (pss_cons (ps_aug (i := 4) sc_Courses_bring.nd rfl (Or.inl rfl) (pe_mt M_Courses_push T.clCourses (hr.mono (by decide)) (pv 0) (pa_cons (pe_gint rfl T.g_GATHERED) (pa_cons (pe_gint rfl T.g_OUTSIDE) (pa_cons (pe_op op_sub (pv 4) (pv 3)) pa_nil)))) ip_sub)
        (pss_one (ps_if (pt_cmpR op_gt (pv 4) (pv 3) (nomark _))
        (pss_one (ps_dput (hu_of hr) (pe_fld (pv 0) rfl) (pv 1) (pv 4) rfl))
        pss_nil))))
        pss_nil)))
        (pss_one (ps_ret (pv 4))))))), ?_⟩
    refine s_seq (s_if (et_inAnd (f := fun v => decide (v < lo)) (X.eh T rfl) (ev_var rfl) X.co.h rfl fun v hv => et_test (ev_op0 (ev_var rfl) (ev_dget (X.eh T rfl) (ev_var rfl) X.co.h rfl hv))) (fun hb => ?_) (fun hb1 => ?_))
    · cases hv : look S.highest ch with
      | none => rw [hv] at hb; cases hb
      | some v =>
        rw [hv] at hb
        have hb : v < lo := of_decide_eq_true hb
        exact s_ret (ev_dget (X.eh T rfl) (ev_var rfl) X.co.h rfl hv) (k v S H ⟨ok, cch, fun h => by lia, fun _ => cch.hi ch v hv, fun h => by lia, by lia, by lia⟩ X.hd)
    with_reducible refine s_tn ?_
    refine s_seq (s_if (et_inAnd (f := fun v => decide (hi < v)) (X.en T rfl) (ev_var rfl) X.co.n rfl fun v hv => et_test (ev_op0 (ev_var rfl) (ev_dget (X.en T rfl) (ev_var rfl) X.co.n rfl hv))) (fun hb => ?_) (fun hb2 => ?_))
    · cases hv : look S.lowest ch with
      | none => rw [hv] at hb; cases hb
      | some v =>
        rw [hv] at hb
        have hb : hi < v := of_decide_eq_true hb
        exact s_ret (ev_dget (X.en T rfl) (ev_var rfl) X.co.n rfl hv) (k v S H ⟨ok, cch, fun _ h => by lia, fun h => by lia, fun _ => cch.lo ch v hv, by lia, by lia⟩ X.hd)
    with_reducible refine s_tn ?_
    refine s_seq (a_set (a_cb (a_cons (a_lc (a_iL (X.call rfl (by decide +kernel) (ea_cons (ev_var rfl) ea_nil) (Ea.i4 a _ S ch ⟨rfl, X.cc, by lia, fun p H1 sm np hp => ?_⟩)))))))
    rw [zol] at hp
    refine ⟨p, rfl, ⟨_, SqL.of hp⟩, fun Dd hD => ?_⟩
    have same : ∀ l, Same H1 (upd H1 Dd (.lst l)) := fun l b o e => by rw [upd_ne (ne_of_none e hD)]; exact e
    refine lc_list (K := K) (a := p) (xs := nats (mem ch n)) (fun i H' => H' = upd H1 Dd (.lst (intz (((mem ch n).take i).map S.marked)))) rfl (fun i H' _ e => by rw [e]; exact SqL.of (same _ _ _ hp)) ?_ ?_
    · rintro i x H' hx rfl
      refine Ea.x1_2 (nats_at hx) fun t ht qz672 => ?_; subst qz672
      have tn := mem_lt (List.mem_of_getElem? ht)
      have Xi := (X.same sm).same (same (intz (((mem ch n).take i).map S.marked)))
      refine ⟨rfl, yes_go (iteT ?_)⟩
      refine meth_go (Xi.mmarked (t := t) rfl (ev_var rfl) rfl (by lia) (by rw [Z.rl]; exact (Z.O t tn).2)) ⟨_, upd_same, ?_, ?_⟩
      · rw [ints_len, List.length_map, List.length_take]
        have := mem_len ch n
        exact line_lt (by lia)
      · rw [upd_upd, ints_snoc, take_at ht, List.map_append]; rfl
    rintro H' rfl
    rw [nats_len, List.take_length]
    refine ⟨Dd, _, rfl, SqL.of upd_same, ?_⟩
    rw [sum_mem]
    obtain ⟨mk, hmk⟩ : ∃ mk, mk = mkS S ch n := ⟨_, rfl⟩
    have hmk' : (sumN n fun t => if ch.testBit t then S.marked t else 0) = mk := by rw [hmk]; rfl
    rw [hmk']
    have X1 := (X.same sm).same (same (intz ((mem ch n).map S.marked)))
    obtain ⟨H2, hH2⟩ : ∃ H2, H2 = upd H1 Dd (.lst (intz ((mem ch n).map S.marked))) := ⟨_, rfl⟩
    rw [← hH2] at X1
    have oi : ∀ s t, s < S.outlets.length → t < S.outlets.length → S.O s = S.O t → s = t := by rw [zol]; exact ok.sk.oi
    have ob : ∀ t, t < S.outlets.length → S.O t < S.goals.length := by rw [zol, Z.gl]; exact fun t ht => (Z.O t ht).1
    refine Ea.a4 (ok.part ch) fun K1 Fi Pr Pd => ?_
    have hh1 : (S.part ch).highest = S.highest := Pd.h
    have hl1 : (S.part ch).lowest = S.lowest := Pd.lw
    have N1 : (S.part ch).ways.length = S.N := Pd.N
    have capF : ∀ p, (wy (S.part ch).ways p).length < 1000000 := fun p => by
      have := len_le (Fi.nd p) fun w hw => (Fi.wo p w hw).1
      lia
    rw [← hH2]
    with_reducible refine s_nx ?_
    refine s_seq (s_if (et_test (ev_op0 (ev_var rfl) (ev_var rfl))) (fun hb => ?_) (fun hb => ?_))
    · -- more
      have hb : mk < lo := of_decide_eq_true hb
      refine s_seq (a_drop <| X1.call rfl (by decide +kernel) (ea_cons (ev_var rfl) ea_nil) (Ea.i4 a _ S ch ⟨rfl, X1.cc, zN2, oi, ob, by lia, by lia, fun H3 d3 => ?_⟩))
      obtain ⟨A3, X3⟩ := X1.step d3
      with_reducible refine s_nx ?_
      refine s_seq ⟨.int mk, rfl, ?_⟩
      refine X3.call rfl (by decide +kernel) (ea_cons ev_c (ea_cons ev_c (ea_cons (ev_op0 (ev_var rfl) (ev_var rfl)) ea_nil)))
        (Ea.i14 m a _ _ _ _ _ _ _ _ _ (lo - mk) 0 1 ⟨rfl, X3.co.nt, Fi, by lia, by lia, by decide, by lia, by lia, capF, fun v rooms' H4 v0 v1 fl nn cut kp hR => ?_⟩)
      have X4 := X3.roomsK kp hR
      have B := ok.bring (x := v) (.inl ⟨rfl, rfl, rfl⟩) fl nn
      rw [← hmk] at B
      refine ⟨mk, v, rfl, rfl, ?_⟩
      with_reducible refine s_nx ?_
      refine s_if (et_test (ev_op0 (ev_var rfl) (ev_var rfl))) (fun hb2 => ?_) (fun hb2 => ?_)
      · have hb2 : mk + v < lo := of_decide_eq_true hb2
        refine s_dput (X4.eh T rfl) (ev_var rfl) (ev_var rfl) X4.co.h rfl (by show (S.part ch).highest.length < _; rw [hh1]; lia) ?_
        have X5 := X4.high (putN (S.part ch).highest ch (mk + v))
        refine Ea.x1_3 (cut (by lia)) fun Ct c0 c1 c2 => ?_
        have ms := B.most c0 c1 c2
        have cc4 : Cch n l { S.part ch with rooms := rooms' } := cch.of hh1 hl1
        with_reducible refine s_nx ?_
        refine s_ret (ev_var rfl) (k (mk + v) _ _ ⟨B.ok.put _ _, cc4.putHi ms, fun h => by lia, fun _ => ms, fun h => by lia, ?_, ?_⟩ X5.hd)
        · have := len_putN (S.part ch).highest ch (mk + v)
          show (putN (S.part ch).highest ch (mk + v)).length ≤ _
          rw [hh1] at this ⊢; exact this
        · show (S.part ch).lowest.length ≤ _; rw [hl1]; lia
      · have hb2 : ¬ mk + v < lo := of_decide_eq_false hb2
        with_reducible refine s_tn ?_
        refine s_ret (ev_var rfl) (k (mk + v) _ _ ⟨B.ok, cch.of hh1 hl1, fun _ _ => B.mk', fun h => by lia, fun h => by lia, ?_, ?_⟩ X4.hd)
        · show (S.part ch).highest.length ≤ _; rw [hh1]; lia
        · show (S.part ch).lowest.length ≤ _; rw [hl1]; lia
    · have hb : ¬ mk < lo := of_decide_eq_false hb
      refine s_if (et_test (ev_op0 (ev_var rfl) (ev_var rfl))) (fun hb2 => ?_) (fun hb2 => ?_)
      · -- fewer
        have hb2 : hi < mk := of_decide_eq_true hb2
        refine s_seq (a_drop <| X1.call rfl (by decide +kernel) (ea_cons (ev_var rfl) ea_nil) (Ea.i4 a _ S ch ⟨rfl, X1.cc, zN2, oi, ob, by lia, by lia, fun H3 d3 => ?_⟩))
        obtain ⟨A3, X3⟩ := X1.step d3
        with_reducible refine s_nx ?_
        refine s_seq ⟨.int mk, rfl, ?_⟩
        refine X3.call rfl (by decide +kernel) (ea_cons ev_c (ea_cons ev_c (ea_cons (ev_op0 (ev_var rfl) (ev_var rfl)) ea_nil)))
          (Ea.i14 m a _ _ _ _ _ _ _ _ _ (mk - hi) 1 0 ⟨rfl, X3.co.nt, Fi, by lia, by lia, by decide, by lia, by lia, capF, fun v rooms' H4 v0 v1 fl nn cut kp hR => ?_⟩)
        have X4 := X3.roomsK kp hR
        have B := ok.bring (x := -v) (.inr ⟨rfl, rfl, rfl⟩) fl nn
        rw [← hmk] at B
        have eB : mk + -v = mk - v := by lia
        rw [eB] at B
        refine ⟨mk, v, rfl, rfl, ?_⟩
        with_reducible refine s_nx ?_
        refine s_if (et_test (ev_op0 (ev_var rfl) (ev_var rfl))) (fun hb3 => ?_) (fun hb3 => ?_)
        · have hb3 : hi < mk - v := of_decide_eq_true hb3
          refine s_dput (X4.en T rfl) (ev_var rfl) (ev_var rfl) X4.co.n rfl (by show (S.part ch).lowest.length < _; rw [hl1]; lia) ?_
          have X5 := X4.low (putN (S.part ch).lowest ch (mk - v))
          refine Ea.x1_3 (cut (by lia)) fun Ct c0 c1 c2 => ?_
          have ms := B.least c1 c0 c2
          have cc4 : Cch n l { S.part ch with rooms := rooms' } := cch.of hh1 hl1
          with_reducible refine s_nx ?_
          refine s_ret (ev_var rfl) (k (mk - v) _ _ ⟨B.ok.put _ _, cc4.putLo ms, fun _ h => by lia, fun h => by lia, fun _ => ms, ?_, ?_⟩ X5.hd)
          · show (S.part ch).highest.length ≤ _; rw [hh1]; lia
          · have := len_putN (S.part ch).lowest ch (mk - v)
            show (putN (S.part ch).lowest ch (mk - v)).length ≤ _
            rw [hl1] at this ⊢; exact this
        · have hb3 : ¬ hi < mk - v := of_decide_eq_false hb3
          with_reducible refine s_tn ?_
          refine s_ret (ev_var rfl) (k (mk - v) _ _ ⟨B.ok, cch.of hh1 hl1, fun _ _ => B.mk', fun h => by lia, fun h => by lia, ?_, ?_⟩ X4.hd)
          · show (S.part ch).highest.length ≤ _; rw [hh1]; lia
          · show (S.part ch).lowest.length ≤ _; rw [hl1]; lia
      · have hb2 : ¬ hi < mk := of_decide_eq_false hb2
        with_reducible refine s_tn ?_
        exact s_ret (ev_var rfl) (k mk S _ ⟨ok, cch, fun _ _ => hmk.symm, fun h => by lia, fun h => by lia, by lia, by lia⟩ X1.hd)
end
end Mg
end
section
set_option maxRecDepth 100000
set_option maxHeartbeats 2000000
namespace Mg
open PySem PySem.Spec
open PyProof.Rows hiding St
open L2
open Ks176 (Went)
theorem part_rooms (S : Cs) (R : List Int) (ch : Nat) : ∀ i, ({ S with rooms := R } : Cs).partI ch i = { S.partI ch i with rooms := R }
  | 0 => rfl
  | i + 1 => by
    show (({ S with rooms := R } : Cs).partI ch i).partStep ch i = _
    rw [part_rooms S R ch i]; rfl
section
variable {P : Program} {w : World} {K : PySem.W.Frag} {mg : Str → Option Value} {base : Heap} {C : Addr}
noncomputable def spMost (C : Addr) : Sp := fun vs H Q _ => ∃ (a : Addr) (D : Addr → Prop) (S : Cs) (n m : Nat) (l : List Went) (iw : Nat → Nat) (ch : Nat), vs = [.ref a, .int ch] ∧ Cc C a D H S ∧ Ok n l m iw S ∧ Cch n l S ∧ n ≤ 32 ∧ l.length ≤ 256 ∧ S.highest.length < 50000 ∧ S.lowest.length < 50000 ∧
  ∀ (v : Int) (S' : Cs) (H' : Hp), Ok n l m iw S' → Cch n l S' → MostIs n l ch v → S'.highest.length ≤ S.highest.length + 2 → S'.lowest.length ≤ S.lowest.length + 2 → Hd C a D H H' S' → Q (.int v) H'
noncomputable def spLeast (C : Addr) : Sp := fun vs H Q _ => ∃ (a : Addr) (D : Addr → Prop) (S : Cs) (n m : Nat) (l : List Went) (iw : Nat → Nat) (ch : Nat), vs = [.ref a, .int ch] ∧ Cc C a D H S ∧ Ok n l m iw S ∧ Cch n l S ∧ n ≤ 32 ∧ l.length ≤ 256 ∧ S.highest.length < 50000 ∧ S.lowest.length < 50000 ∧
  ∀ (v : Int) (S' : Cs) (H' : Hp), Ok n l m iw S' → Cch n l S' → LeastIs n l ch v → S'.highest.length ≤ S.highest.length + 2 → S'.lowest.length ≤ S.lowest.length + 2 → Hd C a D H H' S' → Q (.int v) H'
noncomputable abbrev s_Courses_most : Stmt := inClass (top 4) 12
theorem sc_Courses_most : FnScope ["self", "chosen", "amount", "tank"] ["self", "chosen"] (defScope s_Courses_most) := ⟨rfl, rfl, rfl, by decide +kernel, rfl, by decide +kernel, by decide +kernel⟩
theorem ok_most {f : Addr} {fd : FuncData} (F : Fun K "most" "Courses.most" s_Courses_most f fd) (T : Txt K mg C) (M_Courses_members : Mt P w K mg base C "members" 1 ["self", "chosen"] (spMembers C)) (M_Courses_amount : Mt P w K mg base C "amount" 2 ["self", "tank"] (spAmount C))
    (M_Courses_bring : Mt P w K mg base C "bring" 4 ["self", "chosen", "least", "most"] (spBring C)) : FnOk P w K mg base CX0 5 f fd ["self", "chosen"] (spMost C) := by
  refine F.ok sc_Courses_most (fun vs H Q E h => ?_) (fun cdv A outer s H vs Q E hr h => ?_)
  · refine Ea.l8 h fun a D S n m l iw ch qz673 => ?_; try clear h; subst qz673
    rfl
  · refine Ea.x8_9 h fun a D S n m l iw ch qz675 cc ok cch hn hl hh hw k => ?_; try clear h; subst qz675
    obtain ⟨A, X⟩ := cc.hx
    have Z := ok.szs hn hl
    have zol := Z.ol
    refine ⟨_, (pss_cons (ps_if (pt_cmp (pc_dnotin (hu_of hr) (pv 1) (pe_fld (pv 0) rfl)))
        (pss_cons (ps_set (i := 2) sc_Courses_most.nd rfl (Or.inl rfl) (pe_callB (cr_sum rfl) (by rfl) T.sum PyProof.Rows.boot_sum (pa_cons (pe_lc rfl sc_Courses_most.nd (pi_list (pe_mt M_Courses_members T.clCourses (hr.mono (by decide)) (pv 0) (pa_cons (pv 1) pa_nil))) (blkOk_by (own := [("tank", 3)]) (by show blkC ["self", "chosen", "amount", "tank"] (defScope s_Courses_most) _ _ = true; decide +kernel)) (fun _ _ _ _ _ => pg_name (i := 3) sc_Courses_most.nd rfl (Or.inl rfl)) (fun _ _ _ _ _ => pts_nil) (fun _ _ _ _ _ => (pe_mt M_Courses_amount T.clCourses (hr.mono (by decide)) (pv 0) (pa_cons (pv 3) pa_nil)))) pa_nil)))
        (pss_one (ps_dput (hu_of hr) (pe_fld (pv 0) rfl) (pv 1) (pe_mt M_Courses_bring T.clCourses (hr.mono (by decide)) (pv 0) (pa_cons (pv 1) (pa_cons (pv 2) (pa_cons (pv 2) pa_nil)))) rfl)))
        pss_nil)
        (pss_one (ps_ret (pe_dget (hu_of hr) (pe_fld (pv 0) rfl) (pv 1) (fun _ _ => rfl))))), ?_⟩
    refine s_seq (s_if (et_dnotin (X.eh T rfl) (ev_var rfl) X.co.h rfl) (fun hb => ?_) (fun hb => ?_))
    · -- amount = sum([self.amount(tank) for tank in self.members(chosen)])
      refine s_seq (a_set (a_cb (a_cons (a_lc (a_iL (X.call rfl (by decide +kernel) (ea_cons (ev_var rfl) ea_nil) (Ea.i4 a _ S ch ⟨rfl, X.cc, by lia, fun p H1 sm np hp => ?_⟩)))))))
      rw [zol] at hp
      refine ⟨p, rfl, ⟨_, SqL.of hp⟩, fun Dd hD => ?_⟩
      have same : ∀ l, Same H1 (upd H1 Dd (.lst l)) := fun l b o e => by rw [upd_ne (ne_of_none e hD)]; exact e
      refine lc_list (K := K) (a := p) (xs := nats (mem ch n)) (fun i H' => H' = upd H1 Dd (.lst (intz (((mem ch n).take i).map S.amount)))) rfl (fun i H' _ e => by rw [e]; exact SqL.of (same _ _ _ hp)) ?_ ?_
      · rintro i x H' hx rfl
        refine Ea.x1_2 (nats_at hx) fun t ht qz677 => ?_; subst qz677
        have tn := mem_lt (List.mem_of_getElem? ht)
        have Xi := (X.same sm).same (same (intz (((mem ch n).take i).map S.amount)))
        refine ⟨rfl, yes_go (iteT ?_)⟩
        refine meth_go (Xi.mamount (t := t) rfl (ev_var rfl) rfl (by lia) (by rw [Z.rl]; exact (Z.O t tn).1) (by rw [Z.rl]; exact (Z.O t tn).2)) ⟨_, upd_same, ?_, ?_⟩
        · rw [ints_len, List.length_map, List.length_take]
          have := mem_len ch n
          exact line_lt (by lia)
        · rw [upd_upd, ints_snoc, take_at ht, List.map_append]; rfl
      rintro H' rfl
      rw [nats_len, List.take_length]
      refine ⟨Dd, _, rfl, SqL.of upd_same, ?_⟩
      rw [sum_mem]
      have X1 := (X.same sm).same (same (intz ((mem ch n).map S.amount)))
      obtain ⟨H2, hH2⟩ : ∃ H2, H2 = upd H1 Dd (.lst (intz ((mem ch n).map S.amount))) := ⟨_, rfl⟩
      rw [← hH2] at X1 ⊢
      with_reducible refine s_nx ?_
      refine a_dput <| X1.call rfl (by decide +kernel) (ea_cons (ev_var rfl) (ea_cons (ev_var rfl) (ea_cons (ev_var rfl) ea_nil)))
        (Ea.i10 a _ S n m l iw ch (amS S ch n) (amS S ch n) ⟨rfl, X1.cc, ok, cch, hn, hl, by lia, by lia, Int.le_refl _, fun v S' H3 B d3 => ?_⟩)
      obtain ⟨A3, X3⟩ := X1.step d3
      have ms := B.isMost ok
      have b1 := B.hl
      have b2 := B.ll
      refine fld_go (X3.eh T rfl) (var_go rfl ⟨A3.ah, _, rfl, DPut.k (k := Sum.inl ((ch : Nat) : Int)) X3.co.h (by rw [kvN_len]; exact line_lt (by lia)), ?_⟩)
      rw [putK_kvN]
      have X4 := X3.high (putN S'.highest ch v)
      have hlook : look (putN S'.highest ch v) ch = some v := by rw [look_put, if_pos rfl]
      have b3 := len_putN S'.highest ch v
      with_reducible refine s_nx ?_
      exact s_ret (ev_dget (X4.eh T rfl) (ev_var rfl) X4.co.h rfl hlook) (k v _ _ (B.ok.put _ _) (B.cch.putHi ms) ms (by show (putN S'.highest ch v).length ≤ _; lia) (by show S'.lowest.length ≤ _; lia) X4.hd)
    · have hb : (look S.highest ch).isSome = true := by simpa using hb
      obtain ⟨v, hv⟩ := Option.isSome_iff_exists.mp hb
      with_reducible refine s_tn ?_
      exact s_ret (ev_dget (X.eh T rfl) (ev_var rfl) X.co.h rfl hv) (k v S H ok cch (cch.hi ch v hv) (by lia) (by lia) X.hd)
noncomputable abbrev s_Courses_least : Stmt := inClass (top 4) 13
theorem sc_Courses_least : FnScope ["self", "chosen"] ["self", "chosen"] (defScope s_Courses_least) := ⟨rfl, rfl, rfl, by decide +kernel, rfl, by decide +kernel, by decide +kernel⟩
theorem ok_least {f : Addr} {fd : FuncData} (F : Fun K "least" "Courses.least" s_Courses_least f fd) (T : Txt K mg C)
    (M_Courses_bring : Mt P w K mg base C "bring" 4 ["self", "chosen", "least", "most"] (spBring C)) : FnOk P w K mg base CX0 5 f fd ["self", "chosen"] (spLeast C) := by
  refine F.ok sc_Courses_least (fun vs H Q E h => ?_) (fun cdv A outer s H vs Q E hr h => ?_)
  · refine Ea.l8 h fun a D S n m l iw ch qz678 => ?_; try clear h; subst qz678
    rfl
  · refine Ea.x8_9 h fun a D S n m l iw ch qz680 cc ok cch hn hl hh hw k => ?_; try clear h; subst qz680
    obtain ⟨A, X⟩ := cc.hx
    refine ⟨_, (pss_cons (ps_if (pt_cmp (pc_dnotin (hu_of hr) (pv 1) (pe_fld (pv 0) rfl)))
        (pss_one (ps_dput (hu_of hr) (pe_fld (pv 0) rfl) (pv 1) (pe_mt M_Courses_bring T.clCourses (hr.mono (by decide)) (pv 0) (pa_cons (pv 1) (pa_cons pe_int (pa_cons pe_int pa_nil)))) rfl))
        pss_nil)
        (pss_one (ps_ret (pe_dget (hu_of hr) (pe_fld (pv 0) rfl) (pv 1) (fun _ _ => rfl))))), ?_⟩
    refine s_seq (s_if (et_dnotin (X.en T rfl) (ev_var rfl) X.co.n rfl) (fun hb => ?_) (fun hb => ?_))
    · refine a_dput <| X.call rfl (by decide +kernel) (ea_cons (ev_var rfl) (ea_cons ev_c (ea_cons ev_c ea_nil)))
        (Ea.i10 a _ S n m l iw ch 0 0 ⟨rfl, X.cc, ok, cch, hn, hl, by lia, by lia, Int.le_refl _, fun v S' H3 B d3 => ?_⟩)
      obtain ⟨A3, X3⟩ := X.step d3
      have ms := B.isLeast
      have b1 := B.hl
      have b2 := B.ll
      refine fld_go (X3.en T rfl) (var_go rfl ⟨A3.an, _, rfl, DPut.k (k := Sum.inl ((ch : Nat) : Int)) X3.co.n (by rw [kvN_len]; exact line_lt (by lia)), ?_⟩)
      rw [putK_kvN]
      have X4 := X3.low (putN S'.lowest ch v)
      have hlook : look (putN S'.lowest ch v) ch = some v := by rw [look_put, if_pos rfl]
      have b3 := len_putN S'.lowest ch v
      with_reducible refine s_nx ?_
      exact s_ret (ev_dget (X4.en T rfl) (ev_var rfl) X4.co.n rfl hlook) (k v _ _ (B.ok.put _ _) (B.cch.putLo ms) ms (by show S'.highest.length ≤ _; lia) (by show (putN S'.lowest ch v).length ≤ _; lia) X4.hd)
    · have hb : (look S.lowest ch).isSome = true := by simpa using hb
      obtain ⟨v, hv⟩ := Option.isSome_iff_exists.mp hb
      with_reducible refine s_tn ?_
      exact s_ret (ev_dget (X.en T rfl) (ev_var rfl) X.co.n rfl hv) (k v S H ok cch (cch.lo ch v hv) (by lia) (by lia) X.hd)
noncomputable def wOf (e : Nat) (fwd : Bool) : Nat := if fwd then 2 * e else 2 * e + 1
theorem wOf_lt {e m : Nat} (fwd : Bool) (h : e < m) : wOf e fwd < 2 * m := by unfold wOf; split <;> lia
theorem wOf_x (e : Nat) (fwd : Bool) : wOf e fwd ^^^ 1 = wOf e (!fwd) := by
  cases fwd
  · show (2 * e + 1) ^^^ 1 = 2 * e; exact xor1_odd e
  · show (2 * e) ^^^ 1 = 2 * e + 1; exact xor1_even e
noncomputable def dirOf (fwd : Bool) (v : Int) : Int := if fwd then v else -v
theorem setRm_of (rooms : List Int) (e : Nat) (fwd : Bool) (x y : Int) : (rooms.set (wOf e fwd) x).set (wOf e (!fwd)) y = setRm rooms e (if fwd then x else y) (if fwd then y else x) := by
  cases fwd
  · show (rooms.set (2 * e + 1) x).set (2 * e) y = (rooms.set (2 * e) y).set (2 * e + 1) x
    exact List.set_comm _ _ (by lia)
  · rfl
noncomputable def spAlong (C : Addr) : Sp := fun vs H Q _ => ∃ (a : Addr) (D : Addr → Prop) (S : Cs) (n m : Nat) (l : List Went) (iw : Nat → Nat) (e : Nat) (fwd : Bool) (wanted : Int), vs = [.ref a, .int (wOf e fwd : Nat), .int wanted] ∧ Cc C a D H S ∧ Ok n l m iw S ∧ n ≤ 32 ∧ l.length ≤ 256 ∧ InAt m S e ∧ 0 ≤ wanted ∧
  ∀ (v : Int) (rooms' : List Int) (H' : Hp), 0 ≤ v → v ≤ wanted → v ≤ S.r (wOf e fwd) → Flo m (S.part 0).goals (if fwd then S.g (2 * e) else 0) (if fwd then 0 else S.g (2 * e)) v (setRm S.rooms e 0 0) rooms' → (∀ w, 0 ≤ rooms'.getD w 0) →
    (v < wanted → v < S.r (wOf e fwd) → ∃ C : Nat → Bool, C (if fwd then S.g (2 * e) else 0) = false ∧ C (if fwd then 0 else S.g (2 * e)) = true ∧ Shut m (S.part 0).goals rooms' C) →
    Hd C a D H H' { S.part 0 with rooms := setRm rooms' e (S.r (2 * e) - dirOf fwd v) (S.r (2 * e + 1) + dirOf fwd v) } → Q (.int v) H'
noncomputable abbrev s_Courses_push_along : Stmt := inClass (top 4) 18
theorem sc_Courses_push_along : FnScope ["self", "way", "wanted", "more", "fewer", "pushed"] ["self", "way", "wanted"] (defScope s_Courses_push_along) := ⟨rfl, rfl, rfl, by decide +kernel, rfl, by decide +kernel, by decide +kernel⟩
theorem ok_along {f : Addr} {fd : FuncData} (F : Fun K "push_along" "Courses.push_along" s_Courses_push_along f fd) (T : Txt K mg C)
    (M_Courses_part_outlets : Mt P w K mg base C "part_outlets" 1 ["self", "chosen"] (spPart C)) (M_Courses_push : Mt P w K mg base C "push" 3 ["self", "origin", "goal", "wanted"] (spPush C)) : FnOk P w K mg base CX0 4 f fd ["self", "way", "wanted"] (spAlong C) := by
  refine F.ok sc_Courses_push_along (fun vs H Q E h => ?_) (fun cdv A outer s H vs Q E hr h => ?_)
  · refine Ea.l10 h fun a D S n m l iw e fwd wanted qz682 => ?_; try clear h; subst qz682
    rfl
  · refine Ea.e10 h fun a D S n m l iw e fwd wanted qz685 => Ea.a8 qz685 fun qz684 cc ok hn hl I hw0 k => ?_; try clear h; subst qz684
    obtain ⟨A, X⟩ := cc.hx
    have Z := ok.szs hn hl
    have zm := Z.mm
    have zN := Z.N
    have zN2 := Z.N2
    have zl := Z.l
    have zol := Z.ol
    have he := I.lt
    have w1 : wOf e fwd < 2 * m := wOf_lt fwd he
    have w2 : wOf e (!fwd) < 2 * m := wOf_lt (!fwd) he
    have xw : Builtin.bitXor ((wOf e fwd : Nat) : Int) 1 = ((wOf e (!fwd) : Nat) : Int) := by
      have := xor_nat (wOf e fwd) 1
      rw [wOf_x] at this; exact this
    refine ⟨_, (pss_cons (ps_set (i := 3) sc_Courses_push_along.nd rfl (Or.inl rfl) (pe_ix ix_list (pe_fld (pv 0) rfl) (pv 1) (fun _ _ => rfl)))
        (pss_cons (ps_set (i := 4) sc_Courses_push_along.nd rfl (Or.inl rfl) (pe_ix ix_list (pe_fld (pv 0) rfl) (pe_op op_xor (pv 1) pe_int) (fun _ _ => rfl)))
        (pss_cons (ps_asg pe_int (pg_sub (pe_fld (pv 0) rfl) (pv 1) set_list))
        (pss_cons (ps_asg pe_int (pg_sub (pe_fld (pv 0) rfl) (pe_op op_xor (pv 1) pe_int) set_list))
        (pss_cons (ps_expr (pe_mt M_Courses_part_outlets T.clCourses (hr.mono (by decide)) (pv 0) (pa_cons pe_int pa_nil)))
        (pss_cons (ps_set (i := 5) sc_Courses_push_along.nd rfl (Or.inl rfl) (pe_mt M_Courses_push T.clCourses (hr.mono (by decide)) (pv 0) (pa_cons (pe_ix ix_list (pe_fld (pv 0) rfl) (pv 1) (fun _ _ => rfl)) (pa_cons (pe_ix ix_list (pe_fld (pv 0) rfl) (pe_op op_xor (pv 1) pe_int) (fun _ _ => rfl)) (pa_cons (pe_callB (call_min2 rfl) (by rfl) T.min PyProof.Rows.boot_min (pa_cons (pv 2) (pa_cons (pv 3) pa_nil))) pa_nil)))))
        (pss_cons (ps_asg (pe_op op_sub (pv 3) (pv 5)) (pg_sub (pe_fld (pv 0) rfl) (pv 1) set_list))
        (pss_cons (ps_asg (pe_op op_add (pv 4) (pv 5)) (pg_sub (pe_fld (pv 0) rfl) (pe_op op_xor (pv 1) pe_int) set_list))
        (pss_one (ps_ret (pv 5))))))))))), ?_⟩
    refine s_seq (s_set (X.erw T rfl (ev_var rfl) rfl (by rw [Z.rl]; exact w1)) ?_)
    with_reducible refine s_nx ?_
    refine s_seq (s_set (X.erw T rfl (ev_op0 (ev_var rfl) ev_c) xw (by rw [Z.rl]; exact w2)) ?_)
    with_reducible refine s_nx ?_
    refine s_seq (s_put ev_c (X.er T rfl) (ev_var rfl) X.co.nt.r rfl (by rw [ints_len, Z.rl]; exact w1) ?_)
    rw [ints_set]
    have X1 := X.rooms (S.rooms.set (wOf e fwd) 0)
    with_reducible refine s_nx ?_
    refine s_seq (s_put ev_c (X1.er T rfl) (ev_op0 (ev_var rfl) ev_c) X1.co.nt.r xw (by rw [ints_len]; show _ < (S.rooms.set _ _).length; rw [List.length_set, Z.rl]; exact w2) ?_)
    rw [ints_set]
    have X2 := X1.rooms ((S.rooms.set (wOf e fwd) 0).set (wOf e (!fwd)) 0)
    have eR : (S.rooms.set (wOf e fwd) 0).set (wOf e (!fwd)) 0 = setRm S.rooms e 0 0 := by rw [setRm_of]; cases fwd <;> rfl
    rw [eR] at X2
    have X2' : Hx C a D H _ A { S with rooms := setRm S.rooms e 0 0 } := X2
    rw [eR]
    have oi : ∀ s t, s < S.outlets.length → t < S.outlets.length → S.O s = S.O t → s = t := by rw [zol]; exact ok.sk.oi
    have ob : ∀ t, t < S.outlets.length → S.O t < S.goals.length := by rw [zol, Z.gl]; exact fun t ht => (Z.O t ht).1
    with_reducible refine s_nx ?_
    refine s_seq (a_drop <| X2'.call rfl (by decide +kernel) (ea_cons ev_c ea_nil) (Ea.i4 a _ ({ S with rooms := setRm S.rooms e 0 0 }) 0 ⟨rfl, X2'.cc, zN2, oi, ob, by show S.outlets.length < _; lia, by show S.leasts.length < _; lia, fun H3 d3 => ?_⟩))
    obtain ⟨A3, X3⟩ := X2'.step d3
    have eP : ({ S with rooms := setRm S.rooms e 0 0 } : Cs).part 0 = { S.part 0 with rooms := setRm S.rooms e 0 0 } := part_rooms S _ 0 S.outlets.length
    rw [eP] at X3
    refine Ea.a4 (ok.part 0) fun K1 Fi0 Pr Pd => ?_
    have Fi := ok.zeroFit he
    have N1 : (S.part 0).ways.length = S.N := Pd.N
    have gl1 : (S.part 0).goals.length = 2 * m := by rw [Pd.gl]; exact Z.gl
    have capF : ∀ p, (wy (S.part 0).ways p).length < 1000000 := fun p => by
      have := len_le (Fi.nd p) fun w hw => (Fi.wo p w hw).1
      lia
    have notout : ∀ t, t < n → 2 * e ≠ (S.part 0).O t := fun t ht q => by
      have O1 : (S.part 0).O t = S.O t := by unfold Cs.O; rw [Pd.o]
      rw [O1] at q
      refine Ea.x1_4 (ok.sk.oe t ht) fun f' a1 a2 a3 a4 => ?_
      have : f' = e := by lia
      subst this
      have := I.gl
      lia
    have g1 : (S.part 0).g (2 * e + 1) = 0 := by rw [Pr.odd e he]; exact I.og
    have g2 : (S.part 0).g (2 * e) = S.g (2 * e) := (Pr.evn e he notout).1
    have gA : (S.part 0).g (wOf e fwd) = if fwd then S.g (2 * e) else 0 := by cases fwd with | false => exact g1 | true => exact g2
    have gB : (S.part 0).g (wOf e (!fwd)) = if fwd then 0 else S.g (2 * e) := by cases fwd with | false => exact g2 | true => exact g1
    have gN := K1.sk.gN (2 * e) (by lia)
    have gN' : S.g (2 * e) < S.N := by rw [← g2, ← N1]; exact gN
    have Igl := I.gl
    with_reducible refine s_nx ?_
    refine s_seq (a_set <| X3.call rfl (by decide +kernel) (ea_cons (X3.egw T rfl (ev_var rfl) rfl (by show _ < (S.part 0).goals.length; rw [gl1]; exact w1)) (ea_cons (X3.egw T rfl (ev_op0 (ev_var rfl) ev_c) xw (by show _ < (S.part 0).goals.length; rw [gl1]; exact w2)) (ea_cons (v := .int (if S.r (wOf e fwd) < wanted then S.r (wOf e fwd) else wanted)) (fun Q q => a_cb (cons_ea (ea_cons (ev_var rfl) (ea_cons (ev_var rfl) ea_nil)) ⟨_, _, rfl, q⟩)) ea_nil))) ?_)
    obtain ⟨wn, hwn⟩ : ∃ wn, wn = if S.r (wOf e fwd) < wanted then S.r (wOf e fwd) else wanted := ⟨_, rfl⟩
    rw [← hwn]
    have r0 := ok.r0 (wOf e fwd)
    refine (Ea.i14 m a _ _ _ _ _ _ _ _ _ wn ((S.part 0).g (wOf e fwd)) ((S.part 0).g (wOf e (!fwd))) ⟨rfl, X3.co.nt, Fi, ?_, ?_, ?_, ?_, ?_, capF, fun v rooms' H4 v0 v1 fl nn cut kp hR => ?_⟩)
    · show _ < (S.part 0).ways.length
      rw [gA, N1]; split <;> lia
    · show _ < (S.part 0).ways.length
      rw [gB, N1]; split <;> lia
    · rw [gA, gB]
      cases fwd with
      | false => show (0 : Nat) ≠ S.g (2 * e); lia
      | true => show S.g (2 * e) ≠ 0; lia
    · rw [hwn]; split <;> lia
    · rw [N1]; lia
    have X4 := X3.roomsK kp hR
    have rl' : rooms'.length = 2 * m := fl.len.trans ((setRm_len _ _ _ _).trans ok.rl)
    with_reducible refine s_nx ?_
    refine s_seq (s_put (ev_op0 (ev_var rfl) (ev_var rfl)) (X4.er T rfl) (ev_var rfl) X4.co.nt.r rfl (by rw [ints_len]; show _ < rooms'.length; rw [rl']; exact w1) ?_)
    rw [ints_set]
    have X5 := X4.rooms (rooms'.set (wOf e fwd) (S.r (wOf e fwd) - v))
    with_reducible refine s_nx ?_
    refine s_seq (s_put (ev_op0 (ev_var rfl) (ev_var rfl)) (X5.er T rfl) (ev_op0 (ev_var rfl) ev_c) X5.co.nt.r xw (by rw [ints_len]; show _ < (rooms'.set _ _).length; rw [List.length_set, rl']; exact w2) ?_)
    rw [ints_set]
    have X6 := X5.rooms ((rooms'.set (wOf e fwd) (S.r (wOf e fwd) - v)).set (wOf e (!fwd)) (S.r (wOf e (!fwd)) + v))
    have e6 : (rooms'.set (wOf e fwd) (S.r (wOf e fwd) - v)).set (wOf e (!fwd)) (S.r (wOf e (!fwd)) + v) = setRm rooms' e (S.r (2 * e) - dirOf fwd v) (S.r (2 * e + 1) + dirOf fwd v) := by
      rw [setRm_of]
      cases fwd
      · show setRm rooms' e (S.r (2 * e) + v) (S.r (2 * e + 1) - v) = setRm rooms' e (S.r (2 * e) - -v) (S.r (2 * e + 1) + -v)
        rw [Int.sub_neg, ← Int.sub_eq_add_neg]
      · rfl
    rw [e6] at X6
    rw [gA, gB] at fl cut
    rw [e6]
    with_reducible refine s_nx ?_
    refine s_ret (ev_var rfl) (k v rooms' _ v0 ?_ ?_ fl nn (fun h1 h2 => cut ?_) X6.hd)
    · rw [hwn] at v1; split at v1 <;> lia
    · rw [hwn] at v1; split at v1 <;> lia
    · rw [hwn]; split <;> lia
noncomputable def spBrC (C : Addr) : Sp := fun vs H Q _ => ∃ (a : Addr) (D : Addr → Prop) (S : Cs) (n m : Nat) (l : List Went) (iw : Nat → Nat) (k t a0 lo hi : Nat) (lo' hi' : Int), vs = [.ref a, .int (2 * iw k : Nat), .int lo', .int hi'] ∧ Cc C a D H S ∧ Ok n l m iw S ∧ n ≤ 32 ∧ l.length ≤ 256 ∧ l[k]? = some (.went (.in_ t a0 lo hi)) ∧ lo' ≤ hi' ∧
  ∀ (v : Int) (S' : Cs) (H' : Hp), BrC n m l iw S S' k lo lo' hi' v → Hd C a D H H' S' → Q (.int v) H'
noncomputable abbrev s_Courses_bring_coming : Stmt := inClass (top 4) 17
theorem sc_Courses_bring_coming : FnScope ["self", "way", "least", "most", "marked"] ["self", "way", "least", "most"] (defScope s_Courses_bring_coming) := ⟨rfl, rfl, rfl, by decide +kernel, rfl, by decide +kernel, by decide +kernel⟩
theorem ok_brc {f : Addr} {fd : FuncData} (F : Fun K "bring_coming" "Courses.bring_coming" s_Courses_bring_coming f fd) (T : Txt K mg C)
    (M_Courses_push_along : Mt P w K mg base C "push_along" 4 ["self", "way", "wanted"] (spAlong C)) : FnOk P w K mg base CX0 5 f fd ["self", "way", "least", "most"] (spBrC C) := by
  refine F.ok sc_Courses_bring_coming (fun vs H Q E h => ?_) (fun cdv A outer s H vs Q E hr h => ?_)
  · refine Ea.l14 h fun a D S n m l iw j t a0 lo hi lo' hi' qz686 => ?_; try clear h; subst qz686
    rfl
  · refine Ea.x14_8 h fun a D S n m l iw j t a0 lo hi lo' hi' qz688 cc ok hn hl hj hlh k => ?_; try clear h; subst qz688
    obtain ⟨A, X⟩ := cc.hx
    have Z := ok.szs hn hl
    have I := ok.inAt hj
    have he := I.lt
    obtain ⟨bnd, all⟩ := ok.inBounds hj
    have r0 := ok.r0 (2 * iw j)
    have r1 := ok.r0 (2 * iw j + 1)
    refine Ea.a4 (ok.part 0) fun K1 Fi0 Pr Pd => ?_
    have hh1 : (S.part 0).highest = S.highest := Pd.h
    have hl1 : (S.part 0).lowest = S.lowest := Pd.lw
    have xw : Builtin.bitXor ((2 * iw j : Nat) : Int) 1 = ((2 * iw j + 1 : Nat) : Int) := by
      have := xor_nat (2 * iw j) 1
      rw [xor1_even] at this; exact this
    refine ⟨_, (pss_cons (ps_set (i := 4) sc_Courses_bring_coming.nd rfl (Or.inl rfl) (pe_op op_add (pe_dget (hu_of hr) (pe_fld (pv 0) rfl) (pv 1) (fun _ _ => rfl)) (pe_ix ix_list (pe_fld (pv 0) rfl) (pe_op op_xor (pv 1) pe_int) (fun _ _ => rfl))))
        (pss_cons (ps_if (pt_cmpR op_lt (pv 4) (pv 2) (nomark _))
        (pss_one (ps_ret (pe_op op_add (pv 4) (pe_mt M_Courses_push_along T.clCourses (hr.mono (by decide)) (pv 0) (pa_cons (pv 1) (pa_cons (pe_op op_sub (pv 2) (pv 4)) pa_nil))))))
        pss_nil)
        (pss_cons (ps_if (pt_cmpR op_gt (pv 4) (pv 3) (nomark _))
        (pss_one (ps_ret (pe_op op_sub (pv 4) (pe_mt M_Courses_push_along T.clCourses (hr.mono (by decide)) (pv 0) (pa_cons (pe_op op_xor (pv 1) pe_int) (pa_cons (pe_op op_sub (pv 4) (pv 3)) pa_nil))))))
        pss_nil)
        (pss_one (ps_ret (pv 4)))))), ?_⟩
    refine s_seq (s_set (ev_op0 (ev_dget (X.el T rfl) (ev_var rfl) X.co.l rfl (ok.lst j _ _ _ _ hj)) (X.erw T rfl (ev_op0 (ev_var rfl) ev_c) xw (by rw [Z.rl]; lia))) ?_)
    obtain ⟨mk, hmk⟩ : ∃ mk, mk = (lo : Int) + S.r (2 * iw j + 1) := ⟨_, rfl⟩
    rw [← hmk]
    with_reducible refine s_nx ?_
    refine s_seq (s_if (et_test (ev_op0 (ev_var rfl) (ev_var rfl))) (fun hb => ?_) (fun hb => ?_))
    · have hb : mk < lo' := of_decide_eq_true hb
      refine a_ret <| a_op <| var_go (v := .int mk) rfl <| X.call rfl (by decide +kernel) (ea_cons (ev_var rfl) (ea_cons (ev_op0 (ev_var rfl) (ev_var rfl)) ea_nil)) (Ea.i10 a _ S n m l iw (iw j) true (lo' - mk) ⟨rfl, X.cc, ok, hn, hl, I, by lia, fun v rooms' H1 v0 v1 v2 fl nn cut d1 => ?_⟩)
      obtain ⟨A1, X1⟩ := X.step d1
      have v2 : v ≤ S.r (2 * iw j) := v2
      refine Ea.a3 (ok.along (x := v) I (.inl ⟨rfl, rfl, rfl⟩) fl nn (by lia) (by lia)) fun K2 g2 g1 => ?_
      have rl' : rooms'.length = 2 * m := fl.len.trans ((setRm_len _ _ _ _).trans ok.rl)
      have dn2 : dnF (setRm rooms' (iw j) (S.r (2 * iw j) - v) (S.r (2 * iw j + 1) + v)) (iw j) = S.r (2 * iw j + 1) + v := by rw [setRm_dn he rl', if_pos rfl]
      refine ⟨mk, v, rfl, rfl, k (mk + v) _ H1 ⟨K2, hh1, hl1, ?_, fun hlt ks x u hc hu => ?_, fun hlt => ?_⟩ X1.hd⟩
      · show mk + v = lo + dnF (setRm rooms' (iw j) (S.r (2 * iw j) - v) (S.r (2 * iw j + 1) + v)) (iw j)
        rw [dn2, hmk]; lia
      · by_cases hv : v < S.r (2 * iw j)
        · refine Ea.x1_3 (cut (by lia) hv) fun Ct c0 c1 c2 => ?_
          have c0 : Ct (S.g (2 * iw j)) = false := c0
          have c1 : Ct 0 = true := c1
          refine Ea.x1_2 (ok.alongCut I K2 rl' c2 (fun _ => 0) g2 g1 hc) fun d q1 q2 => ?_
          rw [c0, c1] at q1
          simp only [Bool.false_eq_true, if_false, if_true] at q1
          have := q2 j _ _ _ _ u hj hu
          rw [dn2] at this
          lia
        · have := (all ks x u hc hu).2
          lia
      · exfalso; lia
    · have hb : ¬ mk < lo' := of_decide_eq_false hb
      with_reducible refine s_tn ?_
      refine s_seq (s_if (et_test (ev_op0 (ev_var rfl) (ev_var rfl))) (fun hb2 => ?_) (fun hb2 => ?_))
      · have hb2 : hi' < mk := of_decide_eq_true hb2
        refine a_ret <| a_op <| var_go (v := .int mk) rfl <| X.call rfl (by decide +kernel) (ea_cons (v := .int (wOf (iw j) false : Nat)) (by rw [show wOf (iw j) false = 2 * iw j + 1 from rfl, ← xw]; exact ev_op0 (ev_var rfl) ev_c) (ea_cons (ev_op0 (ev_var rfl) (ev_var rfl)) ea_nil)) (Ea.i10 a _ S n m l iw (iw j) false (mk - hi') ⟨rfl, X.cc, ok, hn, hl, I, by lia, fun v rooms' H1 v0 v1 v2 fl nn cut d1 => ?_⟩)
        obtain ⟨A1, X1⟩ := X.step d1
        have v2 : v ≤ S.r (2 * iw j + 1) := v2
        refine Ea.a3 (ok.along (x := -v) I (.inr ⟨rfl, rfl, rfl⟩) fl nn (by lia) (by lia)) fun K2 g2 g1 => ?_
        have rl' : rooms'.length = 2 * m := fl.len.trans ((setRm_len _ _ _ _).trans ok.rl)
        have dn2 : dnF (setRm rooms' (iw j) (S.r (2 * iw j) - -v) (S.r (2 * iw j + 1) + -v)) (iw j) = S.r (2 * iw j + 1) + -v := by rw [setRm_dn he rl', if_pos rfl]
        refine ⟨mk, v, rfl, rfl, k (mk - v) _ H1 ⟨K2, hh1, hl1, ?_, fun hlt => ?_, fun hlt ks x u hc hu => ?_⟩ X1.hd⟩
        · show mk - v = lo + dnF (setRm rooms' (iw j) (S.r (2 * iw j) - -v) (S.r (2 * iw j + 1) + -v)) (iw j)
          rw [dn2, hmk]; lia
        · exfalso; lia
        · by_cases hv : v < S.r (2 * iw j + 1)
          · refine Ea.x1_3 (cut (by lia) hv) fun Ct c0 c1 c2 => ?_
            have c0 : Ct 0 = false := c0
            have c1 : Ct (S.g (2 * iw j)) = true := c1
            refine Ea.x1_2 (ok.alongCut I K2 rl' c2 (fun _ => 0) g2 g1 hc) fun d q1 q2 => ?_
            rw [c0, c1] at q1
            simp only [Bool.false_eq_true, if_false, if_true] at q1
            have := q2 j _ _ _ _ u hj hu
            rw [dn2] at this
            lia
          · have := (all ks x u hc hu).1
            lia
      · have hb2 : ¬ hi' < mk := of_decide_eq_false hb2
        with_reducible refine s_tn ?_
        exact s_ret (ev_var rfl) (k mk S H ⟨ok, rfl, rfl, hmk, fun h => by lia, fun h => by lia⟩ X.hd)
noncomputable def spNarrow (C : Addr) : Sp := fun vs H Q _ => ∃ (a : Addr) (D : Addr → Prop) (S : Cs) (n m : Nat) (l : List Went) (iw : Nat → Nat) (k t a0 lo hi lo' hi' : Nat), vs = [.ref a, .int (2 * iw k : Nat), .int lo', .int hi'] ∧ Cc C a D H S ∧ Ok n l m iw S ∧ n ≤ 32 ∧ l.length ≤ 256 ∧ l[k]? = some (.went (.in_ t a0 lo hi)) ∧ lo' ≤ hi' ∧
  ∀ (v : Int) (S' : Cs), BrC n m l iw S S' k lo lo' hi' v → (∀ H', v < lo' → Hd C a D H H' (S'.setBounds (2 * iw k) lo v v) → Q (.bl false) H') ∧ (∀ H', (hi' : Int) < v → Hd C a D H H' (S'.setBounds (2 * iw k) v v hi) → Q (.bl false) H') ∧
    (∀ H', (lo' : Int) ≤ v → v ≤ hi' → Hd C a D H H' (S'.forget.setBounds (2 * iw k) (max lo lo' : Nat) v (min hi hi' : Nat)) → Q (.bl true) H') ∧ (∀ H', (lo' : Int) ≤ v → v ≤ hi' → lo' ≤ lo → hi ≤ hi' → Hd C a D H H' S' → Q (.bl true) H')
noncomputable abbrev s_Courses_narrow : Stmt := inClass (top 4) 10
theorem sc_Courses_narrow : FnScope ["self", "way", "least", "most", "lowest", "highest", "marked"] ["self", "way", "least", "most"] (defScope s_Courses_narrow) := ⟨rfl, rfl, rfl, by decide +kernel, rfl, by decide +kernel, by decide +kernel⟩
theorem ok_narrow {f : Addr} {fd : FuncData} (F : Fun K "narrow" "Courses.narrow" s_Courses_narrow f fd) (T : Txt K mg C) (M_Courses_bring_coming : Mt P w K mg base C "bring_coming" 5 ["self", "way", "least", "most"] (spBrC C)) (M_Courses_set_bounds : Mt P w K mg base C "set_bounds" 1 ["self", "way", "least", "marked", "most"] (spBounds C))
    (M_Courses_forget_limits : Mt P w K mg base C "forget_limits" 1 ["self"] (spForget C)) : FnOk P w K mg base CX0 6 f fd ["self", "way", "least", "most"] (spNarrow C) := by
  refine F.ok sc_Courses_narrow (fun vs H Q E h => ?_) (fun cdv A outer s H vs Q E hr h => ?_)
  · refine Ea.l14 h fun a D S n m l iw j t a0 lo hi lo' hi' qz690 => ?_; try clear h; subst qz690
    rfl
  · refine Ea.x14_8 h fun a D S n m l iw j t a0 lo hi lo' hi' qz692 cc ok hn hl hj hlh k => ?_; try clear h; subst qz692
    obtain ⟨A, X⟩ := cc.hx
    have Z := ok.szs hn hl
    have I := ok.inAt hj
    have he := I.lt
    obtain ⟨bnd, all⟩ := ok.inBounds hj
    have xw : Builtin.bitXor ((2 * iw j : Nat) : Int) 1 = ((2 * iw j + 1 : Nat) : Int) := by
      have := xor_nat (2 * iw j) 1
      rw [xor1_even] at this; exact this
    refine ⟨_, (pss_cons (ps_set (i := 4) sc_Courses_narrow.nd rfl (Or.inl rfl) (pe_dget (hu_of hr) (pe_fld (pv 0) rfl) (pv 1) (fun _ _ => rfl)))
        (pss_cons (ps_set (i := 5) sc_Courses_narrow.nd rfl (Or.inl rfl) (pe_op op_add (pe_op op_add (pv 4) (pe_ix ix_list (pe_fld (pv 0) rfl) (pe_op op_xor (pv 1) pe_int) (fun _ _ => rfl))) (pe_ix ix_list (pe_fld (pv 0) rfl) (pv 1) (fun _ _ => rfl))))
        (pss_cons (ps_set (i := 6) sc_Courses_narrow.nd rfl (Or.inl rfl) (pe_mt M_Courses_bring_coming T.clCourses (hr.mono (by decide)) (pv 0) (pa_cons (pv 1) (pa_cons (pv 2) (pa_cons (pv 3) pa_nil)))))
        (pss_cons (ps_if (pt_cmpR op_lt (pv 6) (pv 2) (nomark _))
        (pss_cons (ps_expr (pe_mt M_Courses_set_bounds T.clCourses (hr.mono (by decide)) (pv 0) (pa_cons (pv 1) (pa_cons (pv 4) (pa_cons (pv 6) (pa_cons (pv 6) pa_nil))))))
        (pss_one (ps_ret pe_bl)))
        pss_nil)
        (pss_cons (ps_if (pt_cmpR op_gt (pv 6) (pv 3) (nomark _))
        (pss_cons (ps_expr (pe_mt M_Courses_set_bounds T.clCourses (hr.mono (by decide)) (pv 0) (pa_cons (pv 1) (pa_cons (pv 6) (pa_cons (pv 6) (pa_cons (pv 5) pa_nil))))))
        (pss_one (ps_ret pe_bl)))
        pss_nil)
        (pss_cons (ps_if (PW.pt (pw_or (pt_cmpR op_lt (pv 4) (pv 2) (nomark _)) (pw_or1 (pt_cmpR op_lt (pv 3) (pv 5) (nomark _)))))
        (pss_cons (ps_expr (pe_mt0 M_Courses_forget_limits T.clCourses (hr.mono (by decide)) (pv 0)))
        (pss_one (ps_expr (pe_mt M_Courses_set_bounds T.clCourses (hr.mono (by decide)) (pv 0) (pa_cons (pv 1) (pa_cons (pe_callB (call_max2 rfl) (by rfl) T.max PyProof.Rows.boot_max (pa_cons (pv 4) (pa_cons (pv 2) pa_nil))) (pa_cons (pv 6) (pa_cons (pe_callB (call_min2 rfl) (by rfl) T.min PyProof.Rows.boot_min (pa_cons (pv 5) (pa_cons (pv 3) pa_nil))) pa_nil))))))))
        pss_nil)
        (pss_one (ps_ret pe_bl)))))))), ?_⟩
    refine s_seq (s_set (ev_dget (X.el T rfl) (ev_var rfl) X.co.l rfl (ok.lst j _ _ _ _ hj)) ?_)
    with_reducible refine s_nx ?_
    refine s_seq (s_set (ev_op0 (ev_op0 (ev_var rfl) (X.erw T rfl (ev_op0 (ev_var rfl) ev_c) xw (by rw [Z.rl]; lia))) (X.erw T rfl (ev_var rfl) rfl (by rw [Z.rl]; lia))) ?_)
    have eh : (lo : Int) + S.r (2 * iw j + 1) + S.r (2 * iw j) = hi := by lia
    rw [eh]
    with_reducible refine s_nx ?_
    refine s_seq (a_set <| X.call rfl (by decide +kernel) (ea_cons (ev_var rfl) (ea_cons (ev_var rfl) (ea_cons (ev_var rfl) ea_nil))) (Ea.i14 a _ S n m l iw j t a0 lo hi lo' hi' ⟨rfl, X.cc, ok, hn, hl, hj, by lia, fun v S' H1 B d1 => ?_⟩))
    obtain ⟨A1, X1⟩ := X.step d1
    refine Ea.a4 (k v S' B) fun k1 k2 k3 k4 => ?_
    have Z1 := B.ok.szs hn hl
    have zl := Z1.l
    have b1 : 2 * iw j < S'.rooms.length := by rw [Z1.rl]; lia
    have b2 : 2 * iw j ^^^ 1 < S'.rooms.length := by rw [xor1_even, Z1.rl]; lia
    with_reducible refine s_nx ?_
    refine s_seq (s_if (et_test (ev_op0 (ev_var rfl) (ev_var rfl))) (fun hb => ?_) (fun hb => ?_))
    · have hb : v < lo' := of_decide_eq_true hb
      refine s_seq (a_drop <| X1.call rfl (by decide +kernel) (ea_cons (ev_var rfl) (ea_cons (ev_var rfl) (ea_cons (ev_var rfl) (ea_cons (ev_var rfl) ea_nil)))) (Ea.i7 a _ S' (2 * iw j) lo v v ⟨rfl, X1.cc, b1, b2, by lia, fun H2 d2 => ?_⟩))
      obtain ⟨A2, X2⟩ := X1.step d2
      with_reducible refine s_nx ?_
      exact s_ret ev_c (k1 H2 hb X2.hd)
    · have hb : ¬ v < lo' := of_decide_eq_false hb
      with_reducible refine s_tn ?_
      refine s_seq (s_if (et_test (ev_op0 (ev_var rfl) (ev_var rfl))) (fun hb2 => ?_) (fun hb2 => ?_))
      · have hb2 : (hi' : Int) < v := of_decide_eq_true hb2
        refine s_seq (a_drop <| X1.call rfl (by decide +kernel) (ea_cons (ev_var rfl) (ea_cons (ev_var rfl) (ea_cons (ev_var rfl) (ea_cons (ev_var rfl) ea_nil)))) (Ea.i7 a _ S' (2 * iw j) v v hi ⟨rfl, X1.cc, b1, b2, by lia, fun H2 d2 => ?_⟩))
        obtain ⟨A2, X2⟩ := X1.step d2
        with_reducible refine s_nx ?_
        exact s_ret ev_c (k2 H2 hb2 X2.hd)
      · have hb2 : ¬ (hi' : Int) < v := of_decide_eq_false hb2
        with_reducible refine s_tn ?_
        refine s_seq (s_if (et_or (et_test (ev_op0 (ev_var rfl) (ev_var rfl))) fun _ => et_test (ev_op0 (ev_var rfl) (ev_var rfl))) (fun hb3 => ?_) (fun hb3 => ?_))
        · refine s_seq (a_drop <| X1.call rfl (by decide +kernel) ea_nil ⟨a, _, S', rfl, X1.cc, fun H2 d2 => ?_⟩)
          obtain ⟨A2, X2⟩ := X1.step d2
          have em : (if (lo' : Int) > lo then (lo' : Int) else lo) = ((max lo lo' : Nat) : Int) := by split <;> lia
          have en : (if (hi' : Int) < hi then (hi' : Int) else hi) = ((min hi hi' : Nat) : Int) := by split <;> lia
          with_reducible refine s_nx ?_
          refine a_drop <| X2.call rfl (by decide +kernel) (ea_cons (ev_var rfl) (ea_cons (v := .int (max lo lo' : Nat)) (fun Q q => a_cb <| cons_ea (ea_cons (ev_var rfl) (ea_cons (ev_var rfl) ea_nil)) ⟨_, _, rfl, by rw [em]; exact q⟩) (ea_cons (ev_var rfl) (ea_cons (v := .int (min hi hi' : Nat)) (fun Q q => a_cb <| cons_ea (ea_cons (ev_var rfl) (ea_cons (ev_var rfl) ea_nil)) ⟨_, _, rfl, by rw [en]; exact q⟩) ea_nil))))
            (Ea.i7 a _ S'.forget (2 * iw j) ((max lo lo' : Nat)) v ((min hi hi' : Nat)) ⟨rfl, X2.cc, b1, b2, by show S'.leasts.length < _; lia, fun H3 d3 => ?_⟩)
          obtain ⟨A3, X3⟩ := X2.step d3
          with_reducible refine s_nx ?_
          exact s_ret ev_c (k3 H3 (by lia) (by lia) X3.hd)
        · rw [Bool.or_eq_false_iff, decide_eq_false_iff_not, decide_eq_false_iff_not] at hb3
          with_reducible refine s_tn ?_
          exact s_ret ev_c (k4 H1 (by lia) (by lia) (by lia) (by lia) X1.hd)
noncomputable def spFound (C : Addr) : Sp := fun vs H Q _ => ∃ (a : Addr) (D : Addr → Prop) (S : Cs) (n m : Nat) (l : List Went) (iw : Nat → Nat) (t lo hi : Nat), vs = [.ref a, .int t, .int lo, .int hi] ∧ Cc C a D H S ∧ Ok n l m iw S ∧ Cch n l S ∧ n ≤ 32 ∧ l.length ≤ 256 ∧ S.highest.length < 100000 ∧ S.lowest.length < 100000 ∧ t < n ∧ lo ≤ hi ∧
  ∀ (v : Int) (S' : Cs), Bring n m l iw S S' (1 * 2 ^ t) lo hi v → (∀ H', v < lo ∨ (hi : Int) < v → Hd C a D H H' S' → Q (.bl false) H') ∧ (∀ H', (lo : Int) ≤ v → v ≤ hi → Hd C a D H H' (S'.goOn t (S'.amount t) v lo hi) → Q (.bl true) H')
noncomputable abbrev s_Courses_found : Stmt := inClass (top 4) 9
theorem sc_Courses_found : FnScope ["self", "tank", "least", "most", "marked"] ["self", "tank", "least", "most"] (defScope s_Courses_found) := ⟨rfl, rfl, rfl, by decide +kernel, rfl, by decide +kernel, by decide +kernel⟩
theorem ok_found {f : Addr} {fd : FuncData} (F : Fun K "found" "Courses.found" s_Courses_found f fd) (T : Txt K mg C) (M_Courses_bring : Mt P w K mg base C "bring" 4 ["self", "chosen", "least", "most"] (spBring C)) (M_Courses_go_on : Mt P w K mg base C "go_on" 2 ["self", "tank", "amount", "marked", "least", "most"] (spGo C))
    (M_Courses_amount : Mt P w K mg base C "amount" 2 ["self", "tank"] (spAmount C)) : FnOk P w K mg base CX0 5 f fd ["self", "tank", "least", "most"] (spFound C) := by
  refine F.ok sc_Courses_found (fun vs H Q E h => ?_) (fun cdv A outer s H vs Q E hr h => ?_)
  · refine Ea.l10 h fun a D S n m l iw t lo hi qz694 => ?_; try clear h; subst qz694
    rfl
  · refine Ea.e10 h fun a D S n m l iw t lo hi qz697 => Ea.a11 qz697 fun qz696 cc ok cch hn hl hh hw ht hlh k => ?_; try clear h; subst qz696
    obtain ⟨A, X⟩ := cc.hx
    refine ⟨_, (pss_cons (ps_set (i := 4) sc_Courses_found.nd rfl (Or.inl rfl) (pe_mt M_Courses_bring T.clCourses (hr.mono (by decide)) (pv 0) (pa_cons (pe_op op_shl pe_int (pv 1)) (pa_cons (pv 2) (pa_cons (pv 3) pa_nil)))))
        (pss_cons (ps_if (PW.pt (pw_or (pt_cmpR op_lt (pv 4) (pv 2) (nomark _)) (pw_or1 (pt_cmpR op_gt (pv 4) (pv 3) (nomark _)))))
        (pss_one (ps_ret pe_bl))
        pss_nil)
        (pss_cons (ps_expr (pe_mt M_Courses_go_on T.clCourses (hr.mono (by decide)) (pv 0) (pa_cons (pv 1) (pa_cons (pe_mt M_Courses_amount T.clCourses (hr.mono (by decide)) (pv 0) (pa_cons (pv 1) pa_nil)) (pa_cons (pv 4) (pa_cons (pv 2) (pa_cons (pv 3) pa_nil)))))))
        (pss_one (ps_ret pe_bl))))), ?_⟩
    have e1 : (1 : Int) * 2 ^ ((t : Nat) : Int).toNat = ((1 * 2 ^ t : Nat) : Int) := by rw [Int.toNat_natCast]; push_cast; rfl
    refine s_seq (a_set <| X.call rfl (by decide +kernel) (ea_cons (v := .int ((1 * 2 ^ t : Nat) : Int)) (by rw [← e1]; exact ev_op (Cn := CPow) ev_c (ev_var rfl) ⟨by lia, by lia, by decide⟩) (ea_cons (ev_var rfl) (ea_cons (ev_var rfl) ea_nil)))
      (Ea.i10 a _ S n m l iw (1 * 2 ^ t) lo hi ⟨rfl, X.cc, ok, cch, hn, hl, hh, hw, by lia, fun v S' H1 B d1 => ?_⟩))
    obtain ⟨A1, X1⟩ := X.step d1
    obtain ⟨k1, k2⟩ := k v S' B
    with_reducible refine s_nx ?_
    refine s_seq (s_if (et_or (et_test (ev_op0 (ev_var rfl) (ev_var rfl))) fun _ => et_test (ev_op0 (ev_var rfl) (ev_var rfl))) (fun hb => ?_) (fun hb => ?_))
    · rw [Bool.or_eq_true, decide_eq_true_eq, decide_eq_true_eq] at hb
      exact s_ret ev_c (k1 H1 hb X1.hd)
    · rw [Bool.or_eq_false_iff, decide_eq_false_iff_not, decide_eq_false_iff_not] at hb
      have Z1 := B.ok.szs hn hl
      with_reducible refine s_tn ?_
      refine s_seq (a_drop <| X1.call rfl (by decide +kernel) (ea_cons (ev_var rfl) (ea_cons (X1.mamount rfl (ev_var rfl) rfl (by rw [Z1.ol]; exact ht) (by rw [Z1.rl]; exact (Z1.O t ht).1) (by rw [Z1.rl]; exact (Z1.O t ht).2)) (ea_cons (ev_var rfl) (ea_cons (ev_var rfl) (ea_cons (ev_var rfl) ea_nil)))))
        (Ea.i12 a _ S' n m l iw t (S'.amount t) v lo hi ⟨rfl, X1.cc, B.ok, hn, hl, ht, fun H2 d2 => ?_⟩))
      obtain ⟨A2, X2⟩ := X1.step d2
      with_reducible refine s_nx ?_
      exact s_ret ev_c (k2 H2 (by lia) (by lia) X2.hd)
end
end Mg
end
section
set_option maxRecDepth 100000
set_option maxHeartbeats 2000000
namespace Mg
open PySem PySem.Spec
open PyProof.Rows hiding St
open L2
open Ks176 (Went)
theorem mk_step {H H' : Hp} {p b C dx : Addr} {o : HO} {fs fs' : List (Str × V)} (hp : H p = some (.ins C dx fs)) (hb : H b = none) (e : H' = upd (upd H b o) p (.ins C dx fs')) :
    H' p = some (.ins C dx fs') ∧ H' b = some o ∧ (∀ x u, H x = some u → x ≠ p → H' x = some u) ∧ b ≠ p := by
  have bp : b ≠ p := (ne_of_none hp hb).symm
  subst e
  exact ⟨upd_same, by rw [upd_ne bp, upd_same], fun x u h hx => by rw [upd_ne hx, upd_ne (ne_of_none h hb)]; exact h, bp⟩
section
variable {P : Program} {w : World} {K : PySem.W.Frag} {mg : Str → Option Value} {base : Heap} {C : Addr}
noncomputable def spInitC (C : Addr) : Sp := fun vs H Q _ => ∃ (p dx : Addr) (n : Nat), vs = [.ref p, .int n] ∧ H p = some (.ins C dx []) ∧ n ≤ 32 ∧
  ∀ (H' : Hp) (S' : Cs), Ini n S' → Hd C p (fun x => x = p) H H' S' → Q .non H'
noncomputable def fs7 (ag ar aw ao al ah an : Addr) : List (Str × V) := putF "lowest" (.ref an) (putF "highest" (.ref ah) (putF "leasts" (.ref al) (putF "outlets" (.ref ao) (putF "ways" (.ref aw) (putF "rooms" (.ref ar) (putF "goals" (.ref ag) []))))))
theorem fs7_look (ag ar aw ao al ah an : Addr) (f : Str) : (fs7 ag ar aw ao al ah an).lookup f = if f = "lowest" then some (.ref an) else if f = "highest" then some (.ref ah) else if f = "leasts" then some (.ref al) else if f = "outlets" then some (.ref ao) else if f = "ways" then some (.ref aw) else if f = "rooms" then some (.ref ar) else if f = "goals" then some (.ref ag) else none := by
  unfold fs7
  rw [lookup_putF, lookup_putF, lookup_putF, lookup_putF, lookup_putF, lookup_putF, lookup_putF]
  rfl
theorem fs7_len (ag ar aw ao al ah an : Addr) : (fs7 ag ar aw ao al ah an).length ≤ 7 := by
  unfold fs7
  have h0 := length_putF "goals" (.ref ag) []
  have h1 := length_putF "rooms" (.ref ar) (putF "goals" (.ref ag) [])
  have h2 := length_putF "ways" (.ref aw) (putF "rooms" (.ref ar) (putF "goals" (.ref ag) []))
  have h3 := length_putF "outlets" (.ref ao) (putF "ways" (.ref aw) (putF "rooms" (.ref ar) (putF "goals" (.ref ag) [])))
  have h4 := length_putF "leasts" (.ref al) (putF "outlets" (.ref ao) (putF "ways" (.ref aw) (putF "rooms" (.ref ar) (putF "goals" (.ref ag) []))))
  have h5 := length_putF "highest" (.ref ah) (putF "leasts" (.ref al) (putF "outlets" (.ref ao) (putF "ways" (.ref aw) (putF "rooms" (.ref ar) (putF "goals" (.ref ag) [])))))
  have h6 := length_putF "lowest" (.ref an) (putF "highest" (.ref ah) (putF "leasts" (.ref al) (putF "outlets" (.ref ao) (putF "ways" (.ref aw) (putF "rooms" (.ref ar) (putF "goals" (.ref ag) []))))))
  rw [List.length_nil] at h0
  lia
theorem putF_few {f : Str} {v : V} {fs : List (Str × V)} {n : Nat} (h : fs.length ≤ n) : (putF f v fs).length ≤ n + 1 := Nat.le_trans (length_putF f v fs) (by lia)
noncomputable abbrev s_Courses___init__ : Stmt := inClass (top 4) 0
theorem sc_Courses___init__ : FnScope ["self", "tanks", "place"] ["self", "tanks"] (defScope s_Courses___init__) := ⟨rfl, rfl, rfl, by decide +kernel, rfl, by decide +kernel, by decide +kernel⟩
theorem ok_initC {f : Addr} {fd : FuncData} (F : Fun K "__init__" "Courses.__init__" s_Courses___init__ f fd) (T : Txt K mg C) (M_Courses_add_way : Mt P w K mg base C "add_way" 1 ["self", "origin", "goal", "more", "fewer"] (spAdd C)) : FnOk P w K mg base CX0 2 f fd ["self", "tanks"] (spInitC C) := by
  refine F.ok sc_Courses___init__ (fun vs H Q E h => ?_) (fun cdv A outer s H vs Q E hr h => ?_)
  · refine Ea.l3 h fun p dx n qz698 => ?_; try clear h; subst qz698
    rfl
  · refine Ea.x3_4 h fun p dx n qz699 hp hn k => ?_; try clear h; subst qz699
    have few : ∀ {fs : List (Str × V)} {j : Nat}, fs.length ≤ j → j < 1000 → fs.length < 1000 := fun h1 h2 => Nat.lt_of_le_of_lt h1 h2
    have z0 : ([] : List (Str × V)).length ≤ 0 := Nat.le_refl _
    refine ⟨_, (pss_cons (ps_fld (pv 0) (pe_lst pa_nil) rfl)
        (pss_cons (ps_fld (pv 0) (pe_lst pa_nil) rfl)
        (pss_cons (ps_fld (pv 0) (pe_lst (pa_cons (pe_lst pa_nil) (pa_cons (pe_lst pa_nil) pa_nil))) rfl)
        (pss_cons (ps_fld (pv 0) (pe_lst pa_nil) rfl)
        (pss_cons (ps_fld (pv 0) pe_dnewK rfl)
        (pss_cons (ps_fld (pv 0) pe_dnewK rfl)
        (pss_cons (ps_fld (pv 0) pe_dnewK rfl)
        (pss_one (ps_for PassesOwn.never rfl (pi_range2 rfl T.range (pa_cons (pe_gint rfl T.g_FIRST_TANK) (pa_cons (pe_op op_add (pe_gint rfl T.g_FIRST_TANK) (pv 1)) pa_nil))) (pg_name (i := 2) sc_Courses___init__.nd rfl (Or.inl rfl))
        (pss_cons (ps_expr (pe_bm PySem.F.plainAttrs_list PySem.F.slot_list_append PySem.F.type_list_append mt_append (pe_fld (pv 0) rfl) (pa_cons (pe_lst pa_nil) pa_nil)))
        (pss_one (ps_expr (pe_bm PySem.F.plainAttrs_list PySem.F.slot_list_append PySem.F.type_list_append mt_append (pe_fld (pv 0) rfl) (pa_cons (pe_mt M_Courses_add_way T.clCourses (hr.mono (by decide)) (pv 0) (pa_cons (pv 2) (pa_cons (pe_gint rfl T.g_OUTSIDE) (pa_cons pe_int (pa_cons pe_int pa_nil))))) pa_nil)))))))))))))), ?_⟩
    refine s_seq (a_fld ⟨Nat.zero_le _, fun ag hag => var_go rfl (Ea.i4 p C dx ([]) ⟨rfl, by rw [upd_ne (ne_of_none hp hag)]; exact hp, T.clCourses, T.n_goals, few z0 (by decide), ?_⟩)⟩)
    obtain ⟨H1, e1⟩ : ∃ H1, H1 = upd (upd H ag (.lst [])) p (.ins C dx (putF "goals" (.ref ag) [])) := ⟨_, rfl⟩
    rw [← e1]
    refine Ea.a4 (mk_step hp hag e1) fun p1 a1 k1 n1 => ?_
    have z1 := putF_few (f := "goals") (v := .ref ag) z0
    with_reducible refine s_nx ?_
    refine s_seq (a_fld ⟨Nat.zero_le _, fun ar har => var_go rfl (Ea.i4 p C dx _ ⟨rfl, by rw [upd_ne (ne_of_none p1 har)]; exact p1, T.clCourses, T.n_rooms, few z1 (by decide), ?_⟩)⟩)
    obtain ⟨H2, e2⟩ : ∃ H2, H2 = upd (upd H1 ar (.lst [])) p (.ins C dx (putF "rooms" (.ref ar) (putF "goals" (.ref ag) []))) := ⟨_, rfl⟩
    rw [← e2]
    refine Ea.a4 (mk_step p1 har e2) fun p2 a2 k2 n2 => ?_
    have z2 := putF_few (f := "rooms") (v := .ref ar) z1
    have g2 := k2 _ _ a1 n1
    with_reducible refine s_nx ?_
    refine s_seq (a_fld (a_lst (a_cons ⟨Nat.zero_le _, fun w0 hw0 => a_cons ⟨Nat.zero_le _, fun w1 hw1 => ⟨show 2 ≤ sizeLine by decide, fun aw haw => var_go rfl (Ea.i4 p C dx _ ⟨rfl, ?_, T.clCourses, T.n_ways, few z2 (by decide), ?_⟩)⟩⟩⟩)))
    · rw [upd_ne (ne_of_none (by rw [upd_ne (ne_of_none (by rw [upd_ne (ne_of_none p2 hw0)]; exact p2) hw1), upd_ne (ne_of_none p2 hw0)]; exact p2) haw), upd_ne (ne_of_none (by rw [upd_ne (ne_of_none p2 hw0)]; exact p2) hw1), upd_ne (ne_of_none p2 hw0)]
      exact p2
    obtain ⟨Ha, eHa⟩ : ∃ Ha, Ha = upd H2 w0 (.lst []) := ⟨_, rfl⟩
    rw [← eHa] at hw1 haw ⊢
    have sa : Same H2 Ha := fun b o e => by rw [eHa, upd_ne (ne_of_none e hw0)]; exact e
    have w0a : Ha w0 = some (.lst []) := by rw [eHa]; exact upd_same
    obtain ⟨Hb, eHb⟩ : ∃ Hb, Hb = upd Ha w1 (.lst []) := ⟨_, rfl⟩
    rw [← eHb] at haw ⊢
    have sb : Same Ha Hb := fun b o e => by rw [eHb, upd_ne (ne_of_none e hw1)]; exact e
    have w1b : Hb w1 = some (.lst []) := by rw [eHb]; exact upd_same
    have w0b := sb _ _ w0a
    have w01 : w0 ≠ w1 := ne_of_none w0a hw1
    have pb := sb _ _ (sa _ _ p2)
    obtain ⟨H3, e3⟩ : ∃ H3, H3 = upd (upd Hb aw (.lst [.ref w0, .ref w1])) p (.ins C dx (putF "ways" (.ref aw) (putF "rooms" (.ref ar) (putF "goals" (.ref ag) [])))) := ⟨_, rfl⟩
    rw [← e3]
    refine Ea.a4 (mk_step pb haw e3) fun p3 a3 k3 n3 => ?_
    have z3 := putF_few (f := "ways") (v := .ref aw) z2
    have gb := sb _ _ (sa _ _ g2)
    have rb := sb _ _ (sa _ _ a2)
    have g3 := k3 _ _ gb n1
    have r3 := k3 _ _ rb n2
    have w0p : w0 ≠ p := fun e => by rw [e, pb] at w0b; cases w0b
    have w1p : w1 ≠ p := fun e => by rw [e, pb] at w1b; cases w1b
    have w03 := k3 _ _ w0b w0p
    have w13 := k3 _ _ w1b w1p
    have gr' : ag ≠ ar := ne_of_none a1 har
    have gw' : ag ≠ aw := ne_of_none gb haw
    have rw' : ar ≠ aw := ne_of_none rb haw
    have gw0 : ag ≠ w0 := ne_of_none g2 hw0
    have rw0 : ar ≠ w0 := ne_of_none a2 hw0
    have gw1 : ag ≠ w1 := ne_of_none (sa _ _ g2) hw1
    have rw1 : ar ≠ w1 := ne_of_none (sa _ _ a2) hw1
    have w0w : w0 ≠ aw := ne_of_none w0b haw
    have w1w : w1 ≠ aw := ne_of_none w1b haw
    with_reducible refine s_nx ?_
    refine s_seq (a_fld ⟨Nat.zero_le _, fun ao hao => var_go rfl (Ea.i4 p C dx _ ⟨rfl, by rw [upd_ne (ne_of_none p3 hao)]; exact p3, T.clCourses, T.n_outlets, few z3 (by decide), ?_⟩)⟩)
    obtain ⟨H4, e4⟩ : ∃ H4, H4 = upd (upd H3 ao (.lst [])) p (.ins C dx (putF "outlets" (.ref ao) (putF "ways" (.ref aw) (putF "rooms" (.ref ar) (putF "goals" (.ref ag) []))))) := ⟨_, rfl⟩
    rw [← e4]
    refine Ea.a4 (mk_step p3 hao e4) fun p4 a4 k4 n4 => ?_
    have z4 := putF_few (f := "outlets") (v := .ref ao) z3
    with_reducible refine s_nx ?_
    refine s_seq (a_fld fun al hal => var_go rfl (Ea.i4 p C dx _ ⟨rfl, by rw [upd_ne (ne_of_none p4 hal)]; exact p4, T.clCourses, T.n_leasts, few z4 (by decide), ?_⟩))
    obtain ⟨H5, e5⟩ : ∃ H5, H5 = upd (upd H4 al (.dK [])) p (.ins C dx (putF "leasts" (.ref al) (putF "outlets" (.ref ao) (putF "ways" (.ref aw) (putF "rooms" (.ref ar) (putF "goals" (.ref ag) [])))))) := ⟨_, rfl⟩
    rw [← e5]
    refine Ea.a4 (mk_step p4 hal e5) fun p5 a5 k5 n5 => ?_
    have z5 := putF_few (f := "leasts") (v := .ref al) z4
    with_reducible refine s_nx ?_
    refine s_seq (a_fld fun ah hah => var_go rfl (Ea.i4 p C dx _ ⟨rfl, by rw [upd_ne (ne_of_none p5 hah)]; exact p5, T.clCourses, T.n_highest, few z5 (by decide), ?_⟩))
    obtain ⟨H6, e6⟩ : ∃ H6, H6 = upd (upd H5 ah (.dK [])) p (.ins C dx (putF "highest" (.ref ah) (putF "leasts" (.ref al) (putF "outlets" (.ref ao) (putF "ways" (.ref aw) (putF "rooms" (.ref ar) (putF "goals" (.ref ag) []))))))) := ⟨_, rfl⟩
    rw [← e6]
    refine Ea.a4 (mk_step p5 hah e6) fun p6 a6 k6 n6 => ?_
    have z6 := putF_few (f := "highest") (v := .ref ah) z5
    with_reducible refine s_nx ?_
    refine s_seq (a_fld fun an han => var_go rfl (Ea.i4 p C dx _ ⟨rfl, by rw [upd_ne (ne_of_none p6 han)]; exact p6, T.clCourses, T.n_lowest, few z6 (by decide), ?_⟩))
    obtain ⟨H7, e7⟩ : ∃ H7, H7 = upd (upd H6 an (.dK [])) p (.ins C dx (fs7 ag ar aw ao al ah an)) := ⟨_, rfl⟩
    have e7' : upd (upd H6 an (.dK [])) p (.ins C dx (putF "lowest" (.ref an) (putF "highest" (.ref ah) (putF "leasts" (.ref al) (putF "outlets" (.ref ao) (putF "ways" (.ref aw) (putF "rooms" (.ref ar) (putF "goals" (.ref ag) [])))))))) = H7 := e7.symm
    rw [e7']
    refine Ea.a4 (mk_step p6 han e7) fun p7 a7 k7 n7 => ?_
    have kk : ∀ x u, H3 x = some u → x ≠ p → H7 x = some u := fun x u h hx => k7 _ _ (k6 _ _ (k5 _ _ (k4 _ _ h hx) hx) hx) hx
    have o7 := k7 _ _ (k6 _ _ (k5 _ _ a4 n4) n4) n4
    have l7 := k7 _ _ (k6 _ _ a5 n5) n5
    have h7 := k7 _ _ a6 n6
    have lh : al ≠ ah := ne_of_none a5 hah
    have ln : al ≠ an := ne_of_none (k6 _ _ a5 n5) han
    have hn' : ah ≠ an := ne_of_none a6 han
    have og : ao ≠ ag := (ne_of_none g3 hao).symm
    have or_ : ao ≠ ar := (ne_of_none r3 hao).symm
    have ow : ao ≠ aw := (ne_of_none a3 hao).symm
    have ow0 : ao ≠ w0 := (ne_of_none w03 hao).symm
    have ow1 : ao ≠ w1 := (ne_of_none w13 hao).symm
    have in2 : ∀ {x : Addr}, x ≠ w0 → x ≠ w1 → x ∉ [w0, w1] := fun h1 h2 q => by
      rcases List.mem_cons.mp q with q | q
      · exact h1 q
      · rw [List.mem_singleton] at q; exact h2 q
    have fr : ∀ x o, H x = some o → x ≠ p → H7 x = some o := fun x o h hx => kk _ _ (k3 _ _ (sb _ _ (sa _ _ (k2 _ _ (k1 _ _ h hx) hx))) hx) hx
    have C7 : Co C H7 p ⟨dx, ag, ar, aw, ao, al, ah, an, [w0, w1], fs7 ag ar aw ao al ah an⟩ ⟨[], [], [[], []], [], [], [], []⟩ := by
      refine ⟨⟨p7, ?_, ?_, ?_, fun m hm => ?_, kk _ _ g3 n1, kk _ _ r3 n2, kk _ _ a3 n3, rfl, fun q b hb => ?_, gr'.symm, rw', in2 rw0 rw1⟩, ?_, ?_, ?_, ?_, fs7_len _ _ _ _ _ _ _, o7, l7, h7, a7, gw', in2 gw0 gw1, in2 w0w.symm w1w.symm, ?_, og, or_, ow, in2 ow0 ow1, lh, ln, hn'⟩
      · rw [fs7_look]; rfl
      · rw [fs7_look]; rfl
      · rw [fs7_look]; rfl
      · have no : ∀ f : Str, f ∈ flds → m ≠ f := fun f hf e => hm (e ▸ hf)
        rw [fs7_look, if_neg (no _ (by decide +kernel)), if_neg (no _ (by decide +kernel)), if_neg (no _ (by decide +kernel)), if_neg (no _ (by decide +kernel)), if_neg (no _ (by decide +kernel)), if_neg (no _ (by decide +kernel)), if_neg (no _ (by decide +kernel))]
      · match q, hb with
        | 0, hb => cases hb; exact kk _ _ w03 w0p
        | 1, hb => cases hb; exact kk _ _ w13 w1p
        | q + 2, hb => simp at hb
      · rw [fs7_look]; rfl
      · rw [fs7_look]; rfl
      · rw [fs7_look]; rfl
      · rw [fs7_look]; rfl
      · simp [w01]
    have nn : ∀ {x : Addr}, (∀ o, H x = some o → False) → H x = none := fun {x} h => by
      cases q : H x with
      | none => rfl
      | some o => exact (h o q).elim
    have f1 : H ag = none := hag
    have f2 : H ar = none := nn fun o h => by
      by_cases e : ar = p
      · exact n2 e
      · rw [k1 _ _ h e] at har; cases har
    have toH2 : ∀ x o, H x = some o → x ≠ p → H2 x = some o := fun x o h hx => k2 _ _ (k1 _ _ h hx) hx
    have toH3 : ∀ x o, H x = some o → x ≠ p → H3 x = some o := fun x o h hx => k3 _ _ (sb _ _ (sa _ _ (toH2 x o h hx))) hx
    have f3 : H w0 = none := nn fun o h => by rw [toH2 _ _ h w0p] at hw0; cases hw0
    have f4 : H w1 = none := nn fun o h => by rw [sa _ _ (toH2 _ _ h w1p)] at hw1; cases hw1
    have f5 : H aw = none := nn fun o h => by rw [sb _ _ (sa _ _ (toH2 _ _ h n3))] at haw; cases haw
    have f6 : H ao = none := nn fun o h => by rw [toH3 _ _ h n4] at hao; cases hao
    have f7 : H al = none := nn fun o h => by rw [k4 _ _ (toH3 _ _ h n5) n5] at hal; cases hal
    have f8 : H ah = none := nn fun o h => by rw [k5 _ _ (k4 _ _ (toH3 _ _ h n6) n6) n6] at hah; cases hah
    have f9 : H an = none := nn fun o h => by rw [k6 _ _ (k5 _ _ (k4 _ _ (toH3 _ _ h n7) n7) n7) n7] at han; cases han
    have X7 : Hx C p (fun x => x = p) H H7 ⟨dx, ag, ar, aw, ao, al, ah, an, [w0, w1], fs7 ag ar aw ao al ah an⟩ ⟨[], [], [[], []], [], [], [], []⟩ := by
      refine ⟨fr, C7, fun x q => ?_⟩
      rcases q with q | q | q | q | q | q | q | q | q
      · exact .inl q
      · rw [q]; exact .inr f1
      · rw [q]; exact .inr f2
      · rw [q]; exact .inr f5
      · rw [q]; exact .inr f6
      · rw [q]; exact .inr f7
      · rw [q]; exact .inr f8
      · rw [q]; exact .inr f9
      · rcases List.mem_cons.mp q with q | q
        · rw [q]; exact .inr f3
        · rw [List.mem_singleton] at q; rw [q]; exact .inr f4
    with_reducible refine s_nx ?_
    refine a_forR2 (N := n) (ea_cons ev_c (ea_cons (ev_op0 ev_c (ev_var rfl)) ea_nil)) ⟨by lia, by lia, by lia, by lia⟩ (by lia) (fun i σ H' => ∃ (v2 : Option V) (A' : Ad) (S' : Cs), i ≤ n ∧ σ = [some (.ref p), some (.int n), v2] ∧ Ini i S' ∧ Hx C p (fun x => x = p) H H' A' S')
      ⟨_, _, _, Nat.zero_le _, rfl, .zero, X7⟩ ?_ ?_
    · intro Uf hU i σ H' hi qz701
      refine Ea.x3_4 qz701 fun v2 A' S' hi' qz702 I X => ?_; try clear qz701; subst qz702
      have iN := I.N
      have wl : (A'.was.map V.ref).length = i + 2 := by rw [List.length_map, X.co.nt.wl]; exact iN
      refine s_seq (a_drop (a_bm (fld_go (X.ew T rfl) ⟨.inl ⟨rfl, _, SqL.of X.co.nt.w⟩, a_cons ⟨Nat.zero_le _, fun b hb => (Ea.i3 A'.aw _ (.ref b) ⟨rfl, rfl, by rw [upd_ne (ne_of_none X.co.nt.w hb)]; exact X.co.nt.w, by rw [wl]; exact line_lt (by lia), ?_⟩)⟩⟩)))
      have ew : A'.was.map V.ref ++ [V.ref b] = (A'.was ++ [b]).map V.ref := by rw [List.map_append]; rfl
      rw [ew]
      have X1 := X.placeN (g := []) hb
      obtain ⟨S1, hS1⟩ : ∃ S1 : Cs, S1 = { S' with ways := S'.ways ++ [[]] } := ⟨_, rfl⟩
      have X2 := Hx.to (S' := S1) X1 rfl (by rw [hS1])
      have N1 : S1.N = i + 3 := by rw [hS1]; show (S'.ways ++ [[]]).length = _; rw [List.length_append]; have : S'.ways.length = i + 2 := iN; simp; lia
      have gl1 : S1.goals.length = 2 * i := by rw [hS1]; exact I.gl
      have rl1 : S1.rooms.length = 2 * i := by rw [hS1]; exact I.rl
      have W1 : ∀ q, (S1.W q).length < 100000 := fun q => by
        rw [hS1]
        show (wy (S'.ways ++ [[]]) q).length < _
        rw [wy_snoc]
        split
        · have := (I.ok (fun _ => 0)).sk.cap q
          show (S'.W q).length < _; lia
        · split <;> simp
      have e0 : (2 : Int) + (i : Int) = ((i + 2 : Nat) : Int) := by lia
      with_reducible refine s_nx ?_
      refine a_drop (a_bm (fld_go (X2.eo T rfl) ⟨.inl ⟨rfl, _, SqL.of X2.co.o⟩, a_cons (X2.call rfl (by decide +kernel) (ea_cons (v := .int ((i + 2 : Nat) : Int)) (by rw [← e0]; exact ev_var rfl) (ea_cons ev_c (ea_cons ev_c (ea_cons ev_c ea_nil))))
        (Ea.i7 p _ S1 (i + 2) 0 0 0 ⟨rfl, X2.cc, by lia, by lia, by lia, by lia, W1, fun H3' d3 ob => ?_⟩))⟩))
      obtain ⟨A3, X3⟩ := X2.step d3
      have ob3 := ob _ X2.co.nt.obj
      have eo : A3.ao = A'.ao := by
        have h1 := X3.co.nt.obj
        rw [ob3] at h1
        have h2 : A'.fs = A3.fs := by injection h1 with h1; injection h1
        have h3 := X3.co.fo
        rw [← h2, X2.co.fo] at h3
        injection h3 with h3
        injection h3 with h3
        exact h3.symm
      have o3 := X3.co.o
      rw [eo] at o3
      refine (Ea.i3 A'.ao _ _ ⟨rfl, rfl, o3, by rw [nats_len]; show S1.outlets.length < _; rw [hS1]; show S'.outlets.length < _; rw [I.ol]; exact line_lt (by lia), ?_⟩)
      rw [nats_snoc]
      have X4 := X3.outl (S1.outlets ++ [S1.goals.length])
      rw [eo] at X4
      refine hU ⟨_, A3, S'.iniStep, by lia, rfl, I.step, Hx.to X4 rfl ?_⟩
      rw [hS1]
      unfold Cs.iniStep
      rw [show S'.N = i + 2 from iN]
    · intro σ H' qz704
      refine Ea.x3_4 qz704 fun v2 A' S' hi' qz705 I X => ?_; try clear qz704; subst qz705
      exact k H' S' I X.hd
end
end Mg
end
section
set_option maxRecDepth 100000
set_option maxHeartbeats 2000000
namespace Mg
open PySem PySem.Spec
open PyProof.Rows hiding St
open L2
open Ks176 (Went)
noncomputable def fldS : List Str := ["tanks", "events", "comings", "courses"]
structure TxtS (K : PySem.W.Frag) (mg : Str → Option Value) (C C2 aL : Addr) : Prop where
  clSession : Cls K C2
  clCourses : Cls K C
  n_tanks : NoAttr K C2 "tanks"
  n_events : NoAttr K C2 "events"
  n_comings : NoAttr K C2 "comings"
  n_courses : NoAttr K C2 "courses"
  g_Courses : mg "Courses" = some (.ref C)
  g_Session : mg "Session" = some (.ref C2)
  g_MOST_TANKS : ∃ t, mg "MOST_TANKS" = some (.int 32 t)
  g_MOST_AMOUNT : ∃ t, mg "MOST_AMOUNT" = some (.int 1048576 t)
  g_MOST_EVENTS : ∃ t, mg "MOST_EVENTS" = some (.int 256 t)
  g_WRONG : ∃ t, mg "WRONG" = some (.int (-22) t)
  g_FULL : ∃ t, mg "FULL" = some (.int (-28) t)
  g_TOO_LITTLE : ∃ t, mg "TOO_LITTLE" = some (.int (-33) t)
  g_CANNOT_BE : ∃ t, mg "CANNOT_BE" = some (.int (-74) t)
  g_START : ∃ t, mg "START" = some (.int 0 t)
  g_COME_IN : ∃ t, mg "COME_IN" = some (.int 1 t)
  g_POUR : ∃ t, mg "POUR" = some (.int 2 t)
  g_FOUND : ∃ t, mg "FOUND" = some (.int 3 t)
  g_NARROW : ∃ t, mg "NARROW" = some (.int 4 t)
  g_HAS : ∃ t, mg "HAS" = some (.int 5 t)
  g_MOST : ∃ t, mg "MOST" = some (.int 6 t)
  g_LENGTHS : mg "LENGTHS" = some (.ref aL)
  tL : ∀ H : Hp, SqT K H aL (([2, 5, 4, 4, 4, 2, 2, 2] : List Int).map V.int)
  len : mg "len" = none
structure Bd where
  dx : Addr
  ac : Addr
  a : Addr
  fs : List (Str × V)
  D : Addr → Prop
structure Se (C C2 b : Addr) (H : Hp) (B : Bd) (n ev : Nat) (co : List (Nat × Int)) (S : Cs) : Prop where
  obj : H b = some (.ins C2 B.dx B.fs)
  ft : B.fs.lookup ("tanks" : Str) = some (.int n)
  fe : B.fs.lookup ("events" : Str) = some (.int ev)
  fc : B.fs.lookup ("comings" : Str) = some (.ref B.ac)
  fk : B.fs.lookup ("courses" : Str) = some (.ref B.a)
  fo : ∀ m, m ∉ fldS → B.fs.lookup m = none
  len : B.fs.length ≤ 4
  c : H B.ac = some (.dK (kvN co))
  cc : Cc C B.a B.D H S
  nb : ¬ B.D b
  nc : ¬ B.D B.ac
structure Sx (C C2 b : Addr) (D : Addr → Prop) (H0 H : Hp) (B : Bd) (n ev : Nat) (co : List (Nat × Int)) (S : Cs) : Prop where
  fr : Fr D H0 H
  se : Se C C2 b H B n ev co S
  db : grow D H0 b
  dc : grow D H0 B.ac
  dd : ∀ x, B.D x → grow D H0 x
noncomputable def Ss (C C2 b : Addr) (D : Addr → Prop) (H : Hp) (s : Ks176.Abs) (bud : Nat) : Prop := ∃ (B : Bd) (co : List (Nat × Int)) (S : Cs) (l : List Went) (m : Nat) (iw : Nat → Nat),
  Se C C2 b H B s.tanks s.went.length co S ∧ D b ∧ D B.ac ∧ (∀ x, B.D x → D x) ∧ Rl s S co l m iw ∧ S.highest.length ≤ bud ∧ S.lowest.length ≤ bud
theorem Cc.upd {C a : Addr} {D : Addr → Prop} {H : Hp} {S : Cs} (h : Cc C a D H S) {x : Addr} (hx : ¬ D x) (o : HO) : Cc C a D (upd H x o) S :=
  let ⟨A, K, w⟩ := h; ⟨A, K.keep fun y u e q => by rw [upd_ne (show y ≠ x from fun z => hx (by rw [← z]; exact w y q))]; exact e, w⟩
theorem Cc.call {C a : Addr} {D : Addr → Prop} {H : Hp} {S : Cs} (h : Cc C a D H S) {σ : St} {to : TE} {m : Str} {sp : Sp} {ta : TA} {vs : List V} {Q : VK} (e : Ev to σ H (.ref a)) (hm : m ∉ flds) (k : Ea ta σ H vs) (q : sp (.ref a :: vs) H Q E0) : tMeth C m sp [] E0 to ta σ H Q :=
  let ⟨A, K, w⟩ := h; ev_meth e K.nt.obj (K.nt.fo _ hm) k q
theorem Cc.mamount {C a : Addr} {D : Addr → Prop} {H : Hp} {S : Cs} (h : Cc C a D H S) {σ : St} {to ti : TE} {x : Int} {t : Nat} (e : Ev to σ H (.ref a)) (hi : Ev ti σ H (.int x)) (hx : x = (t : Nat)) (ht : t < S.outlets.length) (h1 : S.O t < S.rooms.length) (h2 : S.O t ^^^ 1 < S.rooms.length) :
    Ev (tMeth C "amount" (spAmount C) [] E0 to (tCons ti tNil)) σ H (.int (S.amount t)) := fun Q q => h.call e (by decide +kernel) (ea_cons hi ea_nil) ⟨a, _, S, t, by rw [hx], h, ht, h1, h2, q⟩
section
variable {C C2 b : Addr} {D : Addr → Prop} {H0 H H' : Hp} {B : Bd} {n ev : Nat} {co : List (Nat × Int)} {S S' : Cs}
theorem Se.sx (h : Se C C2 b H B n ev co S) (db : D b) (dc : D B.ac) (dd : ∀ x, B.D x → D x) : Sx C C2 b D H H B n ev co S := ⟨.refl _ _, h, .inl db, .inl dc, fun x q => .inl (dd x q)⟩
theorem Sx.call (h : Sx C C2 b D H0 H B n ev co S) (k : Hd C B.a B.D H H' S') : Sx C C2 b D H0 H' { B with D := grow B.D H } n ev co S' := by
  have e := h.se
  refine ⟨fun x o hx d => k.1 x o (h.fr x o hx d) fun q => ?_, ⟨k.1 _ _ e.obj e.nb, e.ft, e.fe, e.fc, e.fk, e.fo, e.len, k.1 _ _ e.c e.nc, k.2, fun q => ?_, fun q => ?_⟩, h.db, h.dc, fun x q => ?_⟩
  · rcases h.dd x q with z | z
    · exact d z
    · rw [hx] at z; cases z
  · rcases q with q | q
    · exact e.nb q
    · rw [e.obj] at q; cases q
  · rcases q with q | q
    · exact e.nc q
    · rw [show H B.ac = _ from e.c] at q; cases q
  · rcases q with q | q
    · exact h.dd x q
    · exact h.fr.none q
theorem Sx.evU (h : Sx C C2 b D H0 H B n ev co S) (ev' : Nat) : Sx C C2 b D H0 (upd H b (.ins C2 B.dx (putF "events" (.int (ev' : Nat)) B.fs))) { B with fs := putF "events" (.int (ev' : Nat)) B.fs } n ev' co S := by
  have e := h.se
  have lk : ∀ {f : Str} {v : Option V}, f ≠ "events" → B.fs.lookup f = v → (putF "events" (.int (ev' : Nat)) B.fs).lookup f = v := fun h e => by rw [lookup_putF, if_neg h]; exact e
  exact ⟨h.fr.upd h.db _, ⟨upd_same, lk (by decide) e.ft, by rw [lookup_putF, if_pos rfl], lk (by decide) e.fc, lk (by decide) e.fk, fun m hm => lk (fun z => hm (by rw [z]; decide)) (e.fo m hm), by rw [putF_len e.fe]; exact e.len, by rw [upd_ne (id' e.obj e.c).symm]; exact e.c, e.cc.upd e.nb _, e.nb, e.nc⟩, h.db, h.dc, h.dd⟩
theorem Sx.comU (h : Sx C C2 b D H0 H B n ev co S) (co' : List (Nat × Int)) : Sx C C2 b D H0 (upd H B.ac (.dK (kvN co'))) B n ev co' S := by
  have e := h.se
  exact ⟨h.fr.upd h.dc _, ⟨by rw [upd_ne (id' e.obj e.c)]; exact e.obj, e.ft, e.fe, e.fc, e.fk, e.fo, e.len, upd_same, e.cc.upd e.nc _, e.nb, e.nc⟩, h.db, h.dc, h.dd⟩
variable {K : PySem.W.Frag} {mg : Str → Option Value} {aL : Addr} {σ : St} {i : Nat}
theorem Se.et (h : Se C C2 b H B n ev co S) (T : TxtS K mg C C2 aL) (e : σ[i]? = some (some (.ref b))) : Ev (tFld K (tVar i) "tanks") σ H (.int n) := ev_fld (ev_var e) h.obj T.clSession T.n_tanks h.ft
theorem Se.ee (h : Se C C2 b H B n ev co S) (T : TxtS K mg C C2 aL) (e : σ[i]? = some (some (.ref b))) : Ev (tFld K (tVar i) "events") σ H (.int ev) := ev_fld (ev_var e) h.obj T.clSession T.n_events h.fe
theorem Se.ec (h : Se C C2 b H B n ev co S) (T : TxtS K mg C C2 aL) (e : σ[i]? = some (some (.ref b))) : Ev (tFld K (tVar i) "comings") σ H (.ref B.ac) := ev_fld (ev_var e) h.obj T.clSession T.n_comings h.fc
theorem Se.ek (h : Se C C2 b H B n ev co S) (T : TxtS K mg C C2 aL) (e : σ[i]? = some (some (.ref b))) : Ev (tFld K (tVar i) "courses") σ H (.ref B.a) := ev_fld (ev_var e) h.obj T.clSession T.n_courses h.fk
end
noncomputable def Rs (C C2 b : Addr) (D : Addr → Prop) (H H' : Hp) (s : Ks176.Abs) (bud : Nat) : Prop := Fr D H H' ∧ Ss C C2 b (grow D H) H' s bud
section
variable {C C2 b : Addr} {D : Addr → Prop} {H0 H H' : Hp} {B : Bd} {n ev bud bud' : Nat} {co : List (Nat × Int)} {S : Cs} {s s' : Ks176.Abs} {l : List Went} {m : Nat} {iw : Nat → Nat}
theorem Sx.rs (h : Sx C C2 b D H0 H B n ev co S) (en : n = s.tanks) (ee : ev = s.went.length) (R : Rl s S co l m iw) (h1 : S.highest.length ≤ bud) (h2 : S.lowest.length ≤ bud) : Rs C C2 b D H0 H s bud := by
  subst en ee
  exact ⟨h.fr, B, co, S, l, m, iw, h.se, h.db, h.dc, h.dd, R, h1, h2⟩
theorem fin_call {c : Ks176.Call} {r : Int} {Q : VK} (k : ∀ H', Rs C C2 b D H H' (Ks176.act s c).1 (bud + 2) → Q (.int (Ks176.act s c).2.ret) H') (e : Ks176.act s c = (s', Ks176.say r)) (h : Rs C C2 b D H H' s' (bud + 2)) : Q (.int r) H' := by
  have q := k H' (by rw [e]; exact h)
  rw [e] at q
  exact q
end
section
variable {K : PySem.W.Frag} {σ : St} {H : Hp} {te : TE} {t u : TS} {D : Ends}
theorem a_ifNot (h : te σ H fun x H1 => ∃ k, TruV K x H1 k ∧ (if (!k) = true then t D σ H1 else u D σ H1)) : tIfS (tNot (fun σ H Q => te σ H fun x H' => ∃ k, TruV K x H' k ∧ Q k H')) t u D σ H := h
end
section
variable {P : Program} {w : World} {K : PySem.W.Frag} {mg : Str → Option Value} {base : Heap} {C C2 aL : Addr}
noncomputable def spCount (C2 : Addr) : Sp := fun vs H Q _ => ∃ (b dx : Addr) (fs : List (Str × V)) (ev : Nat), vs = [.ref b] ∧ H b = some (.ins C2 dx fs) ∧ fs.lookup ("events" : Str) = some (.int ev) ∧ fs.length ≤ 4 ∧ Q (.int ev) (upd H b (.ins C2 dx (putF "events" (.int (ev + 1 : Nat)) fs)))
noncomputable abbrev s_Session_count_event : Stmt := inClass (top 21) 11
theorem sc_Session_count_event : FnScope ["self", "before"] ["self"] (defScope s_Session_count_event) := ⟨rfl, rfl, rfl, by decide +kernel, rfl, by decide +kernel, by decide +kernel⟩
theorem ok_count {f : Addr} {fd : FuncData} (F : Fun K "count_event" "Session.count_event" s_Session_count_event f fd) (T : TxtS K mg C C2 aL) : FnOk P w K mg base CX0 1 f fd ["self"] (spCount C2) := by
  refine F.ok sc_Session_count_event (fun vs H Q E h => ?_) (fun cdv A outer s H vs Q E hr h => ?_)
  · refine Ea.l4 h fun b dx fs ev qz707 => ?_; try clear h; subst qz707
    rfl
  · refine Ea.x4_5 h fun b dx fs ev qz708 hb he hl k => ?_; try clear h; subst qz708
    refine ⟨_, (pss_cons (ps_set (i := 1) sc_Session_count_event.nd rfl (Or.inl rfl) (pe_fld (pv 0) rfl))
        (pss_cons (ps_fldaug (pv 0) pe_int in_add)
        (pss_one (ps_ret (pv 1))))), ?_⟩
    refine s_seq (s_set (ev_fld (ev_var rfl) hb T.clSession T.n_events he) ?_)
    with_reducible refine s_nx ?_
    refine s_seq ⟨_, rfl, b, C2, dx, fs, .int ev, rfl, hb, T.clSession, T.n_events, he, _, _, rfl, rfl, dx, fs, hb, Nat.lt_of_le_of_lt hl (by decide), ?_⟩
    have e1 : V.int ((ev : Int) + 1) = V.int ((ev + 1 : Nat) : Int) := by push_cast; rfl
    rw [e1]
    with_reducible refine s_nx ?_
    exact s_ret (ev_var rfl) k
noncomputable def spThere (C2 : Addr) : Sp := fun vs H Q _ => ∃ (b dx : Addr) (fs : List (Str × V)) (n ch : Nat), vs = [.ref b, .int ch] ∧ H b = some (.ins C2 dx fs) ∧ fs.lookup ("tanks" : Str) = some (.int n) ∧ Q (.bl (decide (ch < 2 ^ n))) H
noncomputable abbrev s_Session_all_there : Stmt := inClass (top 21) 10
theorem sc_Session_all_there : FnScope ["self", "chosen"] ["self", "chosen"] (defScope s_Session_all_there) := ⟨rfl, rfl, rfl, by decide +kernel, rfl, by decide +kernel, by decide +kernel⟩
theorem ok_there {f : Addr} {fd : FuncData} (F : Fun K "all_there" "Session.all_there" s_Session_all_there f fd) (T : TxtS K mg C C2 aL) : FnOk P w K mg base CX0 1 f fd ["self", "chosen"] (spThere C2) := by
  refine F.ok sc_Session_all_there (fun vs H Q E h => ?_) (fun cdv A outer s H vs Q E hr h => ?_)
  · refine Ea.l5 h fun b dx fs n ch qz710 => ?_; try clear h; subst qz710
    rfl
  · refine Ea.x5_4 h fun b dx fs n ch qz712 hb hn k => ?_; try clear h; subst qz712
    refine ⟨_, (pss_one (ps_ret (pe_cmpR op_eq (pe_op op_shr (pv 1) (pe_fld (pv 0) rfl)) pe_int (nomark _)))), ?_⟩
    refine s_ret (ev_eq (ev_op (ev_var rfl) (ev_fld (ev_var rfl) hb T.clSession T.n_tanks hn) (Int.natCast_nonneg _)) ev_c rfl) ?_
    have e1 : ((ch : Int) / 2 ^ ((n : Nat) : Int).toNat) = ((ch / 2 ^ n : Nat) : Int) := by rw [Int.toNat_natCast]; push_cast; rfl
    have e2 : decide (V.int ((ch : Int) / 2 ^ ((n : Nat) : Int).toNat) = V.int 0) = decide (ch < 2 ^ n) := by
      rw [e1]
      by_cases h : ch < 2 ^ n
      · rw [decide_eq_true h, Nat.div_eq_of_lt h]; rfl
      · rw [decide_eq_false h]
        apply decide_eq_false
        intro z
        have z := V.int.inj z
        have pos : 0 < 2 ^ n := Nat.two_pow_pos n
        have : 0 < ch / 2 ^ n := Nat.div_pos (by lia) pos
        lia
    rw [e2]
    exact k
noncomputable def spHas (C C2 : Addr) : Sp := fun vs H Q _ => ∃ (b : Addr) (D : Addr → Prop) (s : Ks176.Abs) (bud t : Nat), vs = [.ref b, .int t] ∧ Ss C C2 b D H s bud ∧ bud < 40000 ∧ ∀ H', Rs C C2 b D H H' (Ks176.act s (.has t)).1 (bud + 2) → Q (.int (Ks176.act s (.has t)).2.ret) H'
noncomputable abbrev s_Session_has : Stmt := inClass (top 21) 7
theorem sc_Session_has : FnScope ["self", "tank"] ["self", "tank"] (defScope s_Session_has) := ⟨rfl, rfl, rfl, by decide +kernel, rfl, by decide +kernel, by decide +kernel⟩
theorem ok_has {f : Addr} {fd : FuncData} (F : Fun K "has" "Session.has" s_Session_has f fd) (T : TxtS K mg C C2 aL) (M_Courses_amount : Mt P w K mg base C "amount" 2 ["self", "tank"] (spAmount C)) : FnOk P w K mg base CX0 3 f fd ["self", "tank"] (spHas C C2) := by
  refine F.ok sc_Session_has (fun vs H Q E h => ?_) (fun cdv A outer st H vs Q E hr h => ?_)
  · refine Ea.l5 h fun b D s bud t qz714 => ?_; try clear h; subst qz714
    rfl
  · refine Ea.x5_4 h fun b D s bud t qz716 qz717 hbud k => ?_; try clear h; subst qz716; obtain ⟨B, co, S, l, m, iw, e, db, dc, dd, R, h1, h2⟩ := qz717
    have X := e.sx db dc dd
    refine ⟨_, (pss_cons (ps_if (pt_cmpR op_ge (pv 1) (pe_fld (pv 0) rfl) (nomark _))
        (pss_one (ps_ret (pe_gint rfl T.g_WRONG)))
        pss_nil)
        (pss_one (ps_ret (pe_mt M_Courses_amount T.clCourses (hr.mono (by decide)) (pe_fld (pv 0) rfl) (pa_cons (pv 1) pa_nil))))), ?_⟩
    refine s_seq (s_if (et_test (ev_op0 (ev_var rfl) (e.et T rfl))) (fun hb => ?_) (fun hb => ?_))
    · have hb : (s.tanks : Int) ≤ t := of_decide_eq_true hb
      refine s_ret ev_c (fin_call (s' := s) (r := -22) k ?_ (X.rs rfl rfl R (by lia) (by lia)))
      simp only [Ks176.act, if_pos (show s.tanks ≤ t by lia)]
    · have hb : ¬ (s.tanks : Int) ≤ t := of_decide_eq_false hb
      have ht : t < s.tanks := by lia
      have hl : l.length ≤ 256 := by rw [← R.eqv.len]; exact R.w256
      have Z := R.ok.szs R.t32 hl
      with_reducible refine s_tn ?_
      refine s_ret (e.cc.mamount (e.ek T rfl) (ev_var rfl) rfl (by rw [Z.ol]; exact ht) (by rw [Z.rl]; exact (Z.O t ht).1) (by rw [Z.rl]; exact (Z.O t ht).2)) (fin_call (s' := s) k ?_ (X.rs rfl rfl R (by lia) (by lia)))
      rw [R.has ht]
      simp only [Ks176.act, if_neg (show ¬ s.tanks ≤ t by lia)]
noncomputable def spMostS (C C2 : Addr) : Sp := fun vs H Q _ => ∃ (b : Addr) (D : Addr → Prop) (s : Ks176.Abs) (bud ch : Nat), vs = [.ref b, .int ch] ∧ Ss C C2 b D H s bud ∧ bud < 40000 ∧ ∀ H', Rs C C2 b D H H' (Ks176.act s (.most ch)).1 (bud + 2) → Q (.int (Ks176.act s (.most ch)).2.ret) H'
noncomputable abbrev s_Session_most : Stmt := inClass (top 21) 8
theorem sc_Session_most : FnScope ["self", "chosen"] ["self", "chosen"] (defScope s_Session_most) := ⟨rfl, rfl, rfl, by decide +kernel, rfl, by decide +kernel, by decide +kernel⟩
theorem ok_mostS {f : Addr} {fd : FuncData} (F : Fun K "most" "Session.most" s_Session_most f fd) (T : TxtS K mg C C2 aL) (M_Session_all_there : Mt P w K mg base C2 "all_there" 1 ["self", "chosen"] (spThere C2)) (M_Courses_most : Mt P w K mg base C "most" 5 ["self", "chosen"] (spMost C)) : FnOk P w K mg base CX0 6 f fd ["self", "chosen"] (spMostS C C2) := by
  refine F.ok sc_Session_most (fun vs H Q E h => ?_) (fun cdv A outer st H vs Q E hr h => ?_)
  · refine Ea.l5 h fun b D s bud ch qz719 => ?_; try clear h; subst qz719
    rfl
  · refine Ea.x5_4 h fun b D s bud ch qz721 qz722 hbud k => ?_; try clear h; subst qz721; obtain ⟨B, co, S, l, m, iw, e, db, dc, dd, R, h1, h2⟩ := qz722
    have X := e.sx db dc dd
    refine ⟨_, (pss_cons (ps_if (pt_not (pt_truth (pe_mt M_Session_all_there T.clSession (hr.mono (by decide)) (pv 0) (pa_cons (pv 1) pa_nil)) (by intro _; rfl)))
        (pss_one (ps_ret (pe_gint rfl T.g_WRONG)))
        pss_nil)
        (pss_one (ps_ret (pe_mt M_Courses_most T.clCourses (hr.mono (by decide)) (pe_fld (pv 0) rfl) (pa_cons (pv 1) pa_nil))))), ?_⟩
    refine s_seq (s_if (et_not (et_truthB (K := K) (b := decide (ch < 2 ^ s.tanks)) (fun Q q => ev_meth (ev_var rfl) e.obj (e.fo _ (by decide +kernel)) (ea_cons (ev_var rfl) ea_nil) (Ea.i5 b _ _ s.tanks ch ⟨rfl, e.obj, e.ft, q⟩)))) (fun hb => ?_) (fun hb => ?_))
    · have hb : ¬ ch < 2 ^ s.tanks := by simpa using hb
      refine s_ret ev_c (fin_call (s' := s) (r := -22) k ?_ (X.rs rfl rfl R (by lia) (by lia)))
      simp only [Ks176.act, Ks176.Abs.isSet, decide_eq_false hb]; rfl
    · have hb : ch < 2 ^ s.tanks := by simpa using hb
      have hl : l.length ≤ 256 := by rw [← R.eqv.len]; exact R.w256
      with_reducible refine s_tn ?_
      refine a_ret (e.cc.call (e.ek T rfl) (by decide +kernel) (ea_cons (ev_var rfl) ea_nil) (Ea.i8 B.a _ S s.tanks m l iw ch ⟨rfl, e.cc, R.ok, R.cch, R.t32, hl, by lia, by lia, fun v S' H' ok' cc' ms b1 b2 d => ?_⟩))
      refine fin_call (s' := s) k ?_ ((X.call d).rs rfl rfl (R.turn ok' cc') (by lia) (by lia))
      rw [← R.most ms]
      simp only [Ks176.act, Ks176.Abs.isSet, decide_eq_true hb]; rfl
noncomputable def spLeastS (C C2 : Addr) : Sp := fun vs H Q _ => ∃ (b : Addr) (D : Addr → Prop) (s : Ks176.Abs) (bud ch : Nat), vs = [.ref b, .int ch] ∧ Ss C C2 b D H s bud ∧ bud < 40000 ∧ ∀ H', Rs C C2 b D H H' (Ks176.act s (.least ch)).1 (bud + 2) → Q (.int (Ks176.act s (.least ch)).2.ret) H'
noncomputable abbrev s_Session_least : Stmt := inClass (top 21) 9
theorem sc_Session_least : FnScope ["self", "chosen"] ["self", "chosen"] (defScope s_Session_least) := ⟨rfl, rfl, rfl, by decide +kernel, rfl, by decide +kernel, by decide +kernel⟩
theorem ok_leastS {f : Addr} {fd : FuncData} (F : Fun K "least" "Session.least" s_Session_least f fd) (T : TxtS K mg C C2 aL) (M_Session_all_there : Mt P w K mg base C2 "all_there" 1 ["self", "chosen"] (spThere C2)) (M_Courses_least : Mt P w K mg base C "least" 5 ["self", "chosen"] (spLeast C)) : FnOk P w K mg base CX0 6 f fd ["self", "chosen"] (spLeastS C C2) := by
  refine F.ok sc_Session_least (fun vs H Q E h => ?_) (fun cdv A outer st H vs Q E hr h => ?_)
  · refine Ea.l5 h fun b D s bud ch qz724 => ?_; try clear h; subst qz724
    rfl
  · refine Ea.x5_4 h fun b D s bud ch qz726 qz727 hbud k => ?_; try clear h; subst qz726; obtain ⟨B, co, S, l, m, iw, e, db, dc, dd, R, h1, h2⟩ := qz727
    have X := e.sx db dc dd
    refine ⟨_, (pss_cons (ps_if (pt_not (pt_truth (pe_mt M_Session_all_there T.clSession (hr.mono (by decide)) (pv 0) (pa_cons (pv 1) pa_nil)) (by intro _; rfl)))
        (pss_one (ps_ret (pe_gint rfl T.g_WRONG)))
        pss_nil)
        (pss_one (ps_ret (pe_mt M_Courses_least T.clCourses (hr.mono (by decide)) (pe_fld (pv 0) rfl) (pa_cons (pv 1) pa_nil))))), ?_⟩
    refine s_seq (s_if (et_not (et_truthB (K := K) (b := decide (ch < 2 ^ s.tanks)) (fun Q q => ev_meth (ev_var rfl) e.obj (e.fo _ (by decide +kernel)) (ea_cons (ev_var rfl) ea_nil) (Ea.i5 b _ _ s.tanks ch ⟨rfl, e.obj, e.ft, q⟩)))) (fun hb => ?_) (fun hb => ?_))
    · have hb : ¬ ch < 2 ^ s.tanks := by simpa using hb
      refine s_ret ev_c (fin_call (s' := s) (r := -22) k ?_ (X.rs rfl rfl R (by lia) (by lia)))
      simp only [Ks176.act, Ks176.Abs.isSet, decide_eq_false hb]; rfl
    · have hb : ch < 2 ^ s.tanks := by simpa using hb
      have hl : l.length ≤ 256 := by rw [← R.eqv.len]; exact R.w256
      with_reducible refine s_tn ?_
      refine a_ret (e.cc.call (e.ek T rfl) (by decide +kernel) (ea_cons (ev_var rfl) ea_nil) (Ea.i8 B.a _ S s.tanks m l iw ch ⟨rfl, e.cc, R.ok, R.cch, R.t32, hl, by lia, by lia, fun v S' H' ok' cc' ms b1 b2 d => ?_⟩))
      refine fin_call (s' := s) k ?_ ((X.call d).rs rfl rfl (R.turn ok' cc') (by lia) (by lia))
      rw [← R.least ms]
      simp only [Ks176.act, Ks176.Abs.isSet, decide_eq_true hb]; rfl
theorem vint_eq {i j : Int} : decide (V.int i = V.int j) = true ↔ i = j := by rw [decide_eq_true_eq]; exact ⟨V.int.inj, fun h => by rw [h]⟩
theorem vint_ne {i j : Int} : decide (V.int i = V.int j) = false ↔ ¬ i = j := by rw [decide_eq_false_iff_not]; exact ⟨fun h e => h (by rw [e]), fun h e => h (V.int.inj e)⟩
noncomputable def spComeS (C C2 : Addr) : Sp := fun vs H Q _ => ∃ (b : Addr) (D : Addr → Prop) (s : Ks176.Abs) (bud t a lo hi : Nat), vs = [.ref b, .int t, .int a, .int lo, .int hi] ∧ Ss C C2 b D H s bud ∧ bud < 40000 ∧ ∀ H', Rs C C2 b D H H' (Ks176.act s (.in_ t a lo hi)).1 (bud + 2) → Q (.int (Ks176.act s (.in_ t a lo hi)).2.ret) H'
noncomputable abbrev s_Session_come_in : Stmt := inClass (top 21) 3
theorem sc_Session_come_in : FnScope ["self", "tank", "amount", "least", "most"] ["self", "tank", "amount", "least", "most"] (defScope s_Session_come_in) := ⟨rfl, rfl, rfl, by decide +kernel, rfl, by decide +kernel, by decide +kernel⟩
theorem ok_comeS {f : Addr} {fd : FuncData} (F : Fun K "come_in" "Session.come_in" s_Session_come_in f fd) (T : TxtS K mg C C2 aL) (M_Session_count_event : Mt P w K mg base C2 "count_event" 1 ["self"] (spCount C2)) (M_Courses_come_in : Mt P w K mg base C "come_in" 3 ["self", "tank", "amount", "least", "most"] (spCome C)) : FnOk P w K mg base CX0 4 f fd ["self", "tank", "amount", "least", "most"] (spComeS C C2) := by
  refine F.ok sc_Session_come_in (fun vs H Q E h => ?_) (fun cdv A outer st H vs Q E hr h => ?_)
  · refine Ea.l8 h fun b D s bud t a lo hi qz729 => ?_; try clear h; subst qz729
    rfl
  · refine Ea.e8 h fun b D s bud t a lo hi qz733 => Ea.a4 qz733 fun qz731 qz732 hbud k => ?_; try clear h; subst qz731; obtain ⟨B, co, S, l, m, iw, e, db, dc, dd, R, h1, h2⟩ := qz732
    have X := e.sx db dc dd
    have wrong : (s.tanks ≤ t ∨ a = 0 ∨ Ks175.AMOUNT < a ∨ hi < lo ∨ a < hi) → Ks176.act s (.in_ t a lo hi) = (s, Ks176.say (-22)) := fun h => by simp only [Ks176.act, if_pos h]
    refine ⟨_, (pss_cons (ps_if (PW.pt (pw_or (pt_cmpR op_ge (pv 1) (pe_fld (pv 0) rfl) (nomark _)) (pw_or (pt_cmpR op_eq (pv 2) pe_int (nomark _)) (pw_or1 (pt_cmpR op_gt (pv 2) (pe_gint rfl T.g_MOST_AMOUNT) (nomark _))))))
        (pss_one (ps_ret (pe_gint rfl T.g_WRONG)))
        pss_nil)
        (pss_cons (ps_if (PW.pt (pw_or (pt_cmpR op_gt (pv 3) (pv 4) (nomark _)) (pw_or1 (pt_cmpR op_gt (pv 4) (pv 2) (nomark _)))))
        (pss_one (ps_ret (pe_gint rfl T.g_WRONG)))
        pss_nil)
        (pss_cons (ps_if (pt_cmpR op_eq (pe_fld (pv 0) rfl) (pe_gint rfl T.g_MOST_EVENTS) (nomark _))
        (pss_one (ps_ret (pe_gint rfl T.g_FULL)))
        pss_nil)
        (pss_cons (ps_dput (hu_of hr) (pe_fld (pv 0) rfl) (pe_fld (pv 0) rfl) (pe_mt M_Courses_come_in T.clCourses (hr.mono (by decide)) (pe_fld (pv 0) rfl) (pa_cons (pv 1) (pa_cons (pv 2) (pa_cons (pv 3) (pa_cons (pv 4) pa_nil))))) rfl)
        (pss_one (ps_ret (pe_mt0 M_Session_count_event T.clSession (hr.mono (by decide)) (pv 0)))))))), ?_⟩
    refine s_seq (s_if (et_or (et_test (ev_op0 (ev_var rfl) (e.et T rfl))) fun _ => et_or (et_test (ev_eq (ev_var rfl) ev_c rfl)) fun _ => et_test (ev_op0 (ev_var rfl) ev_c)) (fun hb => ?_) (fun hb => ?_))
    · rw [Bool.or_eq_true, Bool.or_eq_true, decide_eq_true_eq, vint_eq, decide_eq_true_eq] at hb
      refine s_ret ev_c (fin_call (s' := s) (r := -22) k (wrong ?_) (X.rs rfl rfl R (by lia) (by lia)))
      rcases hb with hb | hb | hb
      · exact .inl (by lia)
      · exact .inr (.inl (by lia))
      · exact .inr (.inr (.inl (show 1048576 < a by lia)))
    · rw [Bool.or_eq_false_iff, Bool.or_eq_false_iff, decide_eq_false_iff_not, vint_ne, decide_eq_false_iff_not] at hb
      with_reducible refine s_tn ?_
      refine s_seq (s_if (et_or (et_test (ev_op0 (ev_var rfl) (ev_var rfl))) fun _ => et_test (ev_op0 (ev_var rfl) (ev_var rfl))) (fun hb2 => ?_) (fun hb2 => ?_))
      · rw [Bool.or_eq_true, decide_eq_true_eq, decide_eq_true_eq] at hb2
        refine s_ret ev_c (fin_call (s' := s) (r := -22) k (wrong ?_) (X.rs rfl rfl R (by lia) (by lia)))
        rcases hb2 with hb2 | hb2
        · exact .inr (.inr (.inr (.inl (by lia))))
        · exact .inr (.inr (.inr (.inr (by lia))))
      · rw [Bool.or_eq_false_iff, decide_eq_false_iff_not, decide_eq_false_iff_not] at hb2
        refine Ea.a3 hb fun b1 b2 b3 => ?_; try clear hb
        have ok' : ¬ (s.tanks ≤ t ∨ a = 0 ∨ Ks175.AMOUNT < a ∨ hi < lo ∨ a < hi) := fun q => by
          rcases q with q | q | q | q | q
          · lia
          · lia
          · have q : 1048576 < a := q
            lia
          · lia
          · lia
        with_reducible refine s_tn ?_
        refine s_seq (s_if (et_test (ev_eq (e.ee T rfl) ev_c rfl)) (fun hb3 => ?_) (fun hb3 => ?_))
        · rw [vint_eq] at hb3
          refine s_ret ev_c (fin_call (s' := s) (r := -28) k ?_ (X.rs rfl rfl R (by lia) (by lia)))
          have : Ks175.MANY ≤ s.went.length := show 256 ≤ s.went.length by lia
          simp only [Ks176.act, if_neg ok', Ks176.Abs.goes, if_pos this]
        · rw [vint_ne] at hb3
          have w256 := R.w256
          have many : ¬ Ks175.MANY ≤ s.went.length := show ¬ 256 ≤ s.went.length by lia
          have hl : l.length ≤ 256 := by rw [← R.eqv.len]; exact w256
          obtain ⟨s', a1, a2, a3, l', iw', R'⟩ := R.come ok' many
          with_reducible refine s_tn ?_
          refine s_seq (a_dput (e.cc.call (e.ek T rfl) (by decide +kernel) (ea_cons (ev_var rfl) (ea_cons (ev_var rfl) (ea_cons (ev_var rfl) (ea_cons (ev_var rfl) ea_nil)))) (Ea.i11 B.a _ S s.tanks m l iw t a lo hi ⟨rfl, e.cc, R.ok, R.t32, hl, by lia, fun H1 d1 => ?_⟩)))
          have X1 := X.call d1
          have e1 := X1.se
          have cl := R.cl
          refine fld_go (e1.ec T rfl) (fld_go (e1.ee T rfl) ⟨B.ac, _, rfl, DPut.k (k := Sum.inl ((s.went.length : Nat) : Int)) e1.c (by rw [kvN_len]; exact line_lt (by lia)), ?_⟩)
          rw [putK_kvN]
          have X2 := X1.comU (putN co s.went.length (S.goals.length : Nat))
          have e2 := X2.se
          with_reducible refine s_nx ?_
          refine a_ret (ev_meth (ev_var rfl) e2.obj (e2.fo _ (by decide +kernel)) ea_nil (Ea.i4 b _ _ s.went.length ⟨rfl, e2.obj, e2.fe, e2.len, ?_⟩))
          have X3 := X2.evU (s.went.length + 1)
          refine fin_call k a1 (X3.rs a2.symm a3.symm R' ?_ ?_)
          · show ([] : List (Nat × Int)).length ≤ _; exact Nat.zero_le _
          · show ([] : List (Nat × Int)).length ≤ _; exact Nat.zero_le _
noncomputable def spPourS (C C2 : Addr) : Sp := fun vs H Q _ => ∃ (b : Addr) (D : Addr → Prop) (s : Ks176.Abs) (bud o q a : Nat), vs = [.ref b, .int o, .int q, .int a] ∧ Ss C C2 b D H s bud ∧ bud < 40000 ∧ ∀ H', Rs C C2 b D H H' (Ks176.act s (.pour o q a)).1 (bud + 2) → Q (.int (Ks176.act s (.pour o q a)).2.ret) H'
noncomputable abbrev s_Session_pour : Stmt := inClass (top 21) 4
theorem sc_Session_pour : FnScope ["self", "origin", "goal", "amount"] ["self", "origin", "goal", "amount"] (defScope s_Session_pour) := ⟨rfl, rfl, rfl, by decide +kernel, rfl, by decide +kernel, by decide +kernel⟩
theorem ok_pourS {f : Addr} {fd : FuncData} (F : Fun K "pour" "Session.pour" s_Session_pour f fd) (T : TxtS K mg C C2 aL) (M_Session_count_event : Mt P w K mg base C2 "count_event" 1 ["self"] (spCount C2)) (M_Courses_pour : Mt P w K mg base C "pour" 3 ["self", "origin", "goal", "amount"] (spPour C)) (M_Courses_amount : Mt P w K mg base C "amount" 2 ["self", "tank"] (spAmount C)) :
    FnOk P w K mg base CX0 4 f fd ["self", "origin", "goal", "amount"] (spPourS C C2) := by
  refine F.ok sc_Session_pour (fun vs H Q E h => ?_) (fun cdv A outer st H vs Q E hr h => ?_)
  · refine Ea.l7 h fun b D s bud o q a qz734 => ?_; try clear h; subst qz734
    rfl
  · refine Ea.x7_4 h fun b D s bud o q a qz736 qz737 hbud k => ?_; try clear h; subst qz736; obtain ⟨B, co, S, l, m, iw, e, db, dc, dd, R, h1, h2⟩ := qz737
    have X := e.sx db dc dd
    have w256 := R.w256
    have hl : l.length ≤ 256 := by rw [← R.eqv.len]; exact w256
    have Z := R.ok.szs R.t32 hl
    refine ⟨_, (pss_cons (ps_if (PW.pt (pw_or (pt_cmpR op_ge (pv 1) (pe_fld (pv 0) rfl) (nomark _)) (pw_or (pt_cmpR op_ge (pv 2) (pe_fld (pv 0) rfl) (nomark _)) (pw_or (pt_cmpR op_eq (pv 1) (pv 2) (nomark _)) (pw_or1 (pt_cmpR op_eq (pv 3) pe_int (nomark _)))))))
        (pss_one (ps_ret (pe_gint rfl T.g_WRONG)))
        pss_nil)
        (pss_cons (ps_if (pt_cmpR op_lt (pe_mt M_Courses_amount T.clCourses (hr.mono (by decide)) (pe_fld (pv 0) rfl) (pa_cons (pv 1) pa_nil)) (pv 3) (nomark _))
        (pss_one (ps_ret (pe_gint rfl T.g_TOO_LITTLE)))
        pss_nil)
        (pss_cons (ps_if (pt_cmpR op_eq (pe_fld (pv 0) rfl) (pe_gint rfl T.g_MOST_EVENTS) (nomark _))
        (pss_one (ps_ret (pe_gint rfl T.g_FULL)))
        pss_nil)
        (pss_cons (ps_expr (pe_mt M_Courses_pour T.clCourses (hr.mono (by decide)) (pe_fld (pv 0) rfl) (pa_cons (pv 1) (pa_cons (pv 2) (pa_cons (pv 3) pa_nil)))))
        (pss_one (ps_ret (pe_mt0 M_Session_count_event T.clSession (hr.mono (by decide)) (pv 0)))))))), ?_⟩
    refine s_seq (s_if (et_or (et_test (ev_op0 (ev_var rfl) (e.et T rfl))) fun _ => et_or (et_test (ev_op0 (ev_var rfl) (e.et T rfl))) fun _ => et_or (et_test (ev_eq (ev_var rfl) (ev_var rfl) rfl)) fun _ => et_test (ev_eq (ev_var rfl) ev_c rfl)) (fun hb => ?_) (fun hb => ?_))
    · rw [Bool.or_eq_true, Bool.or_eq_true, Bool.or_eq_true, decide_eq_true_eq, decide_eq_true_eq, vint_eq, vint_eq] at hb
      refine s_ret ev_c (fin_call (s' := s) (r := -22) k ?_ (X.rs rfl rfl R (by lia) (by lia)))
      have : s.tanks ≤ o ∨ s.tanks ≤ q ∨ o = q ∨ a = 0 := by lia
      simp only [Ks176.act, if_pos this]
    · rw [Bool.or_eq_false_iff, Bool.or_eq_false_iff, Bool.or_eq_false_iff, decide_eq_false_iff_not, decide_eq_false_iff_not, vint_ne, vint_ne] at hb
      have ok' : ¬ (s.tanks ≤ o ∨ s.tanks ≤ q ∨ o = q ∨ a = 0) := by lia
      have ho : o < s.tanks := by lia
      have hq : q < s.tanks := by lia
      with_reducible refine s_tn ?_
      refine s_seq (s_if (et_test (ev_op0 (e.cc.mamount (e.ek T rfl) (ev_var rfl) rfl (by rw [Z.ol]; exact ho) (by rw [Z.rl]; exact (Z.O o ho).1) (by rw [Z.rl]; exact (Z.O o ho).2)) (ev_var rfl))) (fun hb2 => ?_) (fun hb2 => ?_))
      · have hb2 : S.amount o < a := of_decide_eq_true hb2
        rw [R.has ho] at hb2
        refine s_ret ev_c (fin_call (s' := s) (r := -33) k ?_ (X.rs rfl rfl R (by lia) (by lia)))
        simp only [Ks176.act, if_neg ok', if_pos (show Ks176.Abs.has s o < a by lia)]
      · have hb2 : ¬ S.amount o < a := of_decide_eq_false hb2
        rw [R.has ho] at hb2
        have hh : ¬ Ks176.Abs.has s o < a := by lia
        with_reducible refine s_tn ?_
        refine s_seq (s_if (et_test (ev_eq (e.ee T rfl) ev_c rfl)) (fun hb3 => ?_) (fun hb3 => ?_))
        · rw [vint_eq] at hb3
          refine s_ret ev_c (fin_call (s' := s) (r := -28) k ?_ (X.rs rfl rfl R (by lia) (by lia)))
          have : Ks175.MANY ≤ s.went.length := show 256 ≤ s.went.length by lia
          simp only [Ks176.act, if_neg ok', if_neg hh, Ks176.Abs.goes, if_pos this]
        · rw [vint_ne] at hb3
          have many : ¬ Ks175.MANY ≤ s.went.length := show ¬ 256 ≤ s.went.length by lia
          obtain ⟨s', a1, a2, a3, l', iw', R'⟩ := R.pour ok' hh many
          with_reducible refine s_tn ?_
          refine s_seq (a_drop (e.cc.call (e.ek T rfl) (by decide +kernel) (ea_cons (ev_var rfl) (ea_cons (ev_var rfl) (ea_cons (ev_var rfl) ea_nil))) (Ea.i10 B.a _ S s.tanks m l iw o q a ⟨rfl, e.cc, R.ok, R.t32, hl, ho, hq, by lia, fun H1 d1 => ?_⟩)))
          have X1 := X.call d1
          have e1 := X1.se
          with_reducible refine s_nx ?_
          refine a_ret (ev_meth (ev_var rfl) e1.obj (e1.fo _ (by decide +kernel)) ea_nil (Ea.i4 b _ _ s.went.length ⟨rfl, e1.obj, e1.fe, e1.len, ?_⟩))
          have X3 := X1.evU (s.went.length + 1)
          refine fin_call k a1 (X3.rs a2.symm a3.symm R' ?_ ?_)
          · show ([] : List (Nat × Int)).length ≤ _; exact Nat.zero_le _
          · show ([] : List (Nat × Int)).length ≤ _; exact Nat.zero_le _
noncomputable def spFoundS (C C2 : Addr) : Sp := fun vs H Q _ => ∃ (b : Addr) (D : Addr → Prop) (s : Ks176.Abs) (bud t lo hi : Nat), vs = [.ref b, .int t, .int lo, .int hi] ∧ Ss C C2 b D H s bud ∧ bud < 40000 ∧ ∀ H', Rs C C2 b D H H' (Ks176.act s (.found t lo hi)).1 (bud + 2) → Q (.int (Ks176.act s (.found t lo hi)).2.ret) H'
noncomputable abbrev s_Session_found : Stmt := inClass (top 21) 5
theorem sc_Session_found : FnScope ["self", "tank", "least", "most"] ["self", "tank", "least", "most"] (defScope s_Session_found) := ⟨rfl, rfl, rfl, by decide +kernel, rfl, by decide +kernel, by decide +kernel⟩
theorem ok_foundS {f : Addr} {fd : FuncData} (F : Fun K "found" "Session.found" s_Session_found f fd) (T : TxtS K mg C C2 aL) (M_Session_count_event : Mt P w K mg base C2 "count_event" 1 ["self"] (spCount C2)) (M_Courses_found : Mt P w K mg base C "found" 5 ["self", "tank", "least", "most"] (spFound C)) : FnOk P w K mg base CX0 6 f fd ["self", "tank", "least", "most"] (spFoundS C C2) := by
  refine F.ok sc_Session_found (fun vs H Q E h => ?_) (fun cdv A outer st H vs Q E hr h => ?_)
  · refine Ea.l7 h fun b D s bud t lo hi qz739 => ?_; try clear h; subst qz739
    rfl
  · refine Ea.x7_4 h fun b D s bud t lo hi qz741 qz742 hbud k => ?_; try clear h; subst qz741; obtain ⟨B, co, S, l, m, iw, e, db, dc, dd, R, h1, h2⟩ := qz742
    have X := e.sx db dc dd
    have w256 := R.w256
    have hl : l.length ≤ 256 := by rw [← R.eqv.len]; exact w256
    refine ⟨_, (pss_cons (ps_if (PW.pt (pw_or (pt_cmpR op_ge (pv 1) (pe_fld (pv 0) rfl) (nomark _)) (pw_or1 (pt_cmpR op_gt (pv 2) (pv 3) (nomark _)))))
        (pss_one (ps_ret (pe_gint rfl T.g_WRONG)))
        pss_nil)
        (pss_cons (ps_if (pt_cmpR op_eq (pe_fld (pv 0) rfl) (pe_gint rfl T.g_MOST_EVENTS) (nomark _))
        (pss_one (ps_ret (pe_gint rfl T.g_FULL)))
        pss_nil)
        (pss_cons (ps_if (pt_not (pt_truth (pe_mt M_Courses_found T.clCourses (hr.mono (by decide)) (pe_fld (pv 0) rfl) (pa_cons (pv 1) (pa_cons (pv 2) (pa_cons (pv 3) pa_nil)))) (by intro _; rfl)))
        (pss_one (ps_ret (pe_gint rfl T.g_CANNOT_BE)))
        pss_nil)
        (pss_one (ps_ret (pe_mt0 M_Session_count_event T.clSession (hr.mono (by decide)) (pv 0))))))), ?_⟩
    refine s_seq (s_if (et_or (et_test (ev_op0 (ev_var rfl) (e.et T rfl))) fun _ => et_test (ev_op0 (ev_var rfl) (ev_var rfl))) (fun hb => ?_) (fun hb => ?_))
    · rw [Bool.or_eq_true, decide_eq_true_eq, decide_eq_true_eq] at hb
      refine s_ret ev_c (fin_call (s' := s) (r := -22) k ?_ (X.rs rfl rfl R (by lia) (by lia)))
      have : s.tanks ≤ t ∨ hi < lo := by lia
      simp only [Ks176.act, if_pos this]
    · rw [Bool.or_eq_false_iff, decide_eq_false_iff_not, decide_eq_false_iff_not] at hb
      have ok' : ¬ (s.tanks ≤ t ∨ hi < lo) := by lia
      with_reducible refine s_tn ?_
      refine s_seq (s_if (et_test (ev_eq (e.ee T rfl) ev_c rfl)) (fun hb3 => ?_) (fun hb3 => ?_))
      · rw [vint_eq] at hb3
        refine s_ret ev_c (fin_call (s' := s) (r := -28) k ?_ (X.rs rfl rfl R (by lia) (by lia)))
        have : Ks175.MANY ≤ s.went.length := show 256 ≤ s.went.length by lia
        simp only [Ks176.act, if_neg ok', Ks176.Abs.goes, if_pos this]
      · rw [vint_ne] at hb3
        have many : ¬ Ks175.MANY ≤ s.went.length := show ¬ 256 ≤ s.went.length by lia
        with_reducible refine s_tn ?_
        refine s_seq (a_ifNot (K := K) (e.cc.call (e.ek T rfl) (by decide +kernel) (ea_cons (ev_var rfl) (ea_cons (ev_var rfl) (ea_cons (ev_var rfl) ea_nil))) (Ea.i10 B.a _ S s.tanks m l iw t lo hi ⟨rfl, e.cc, R.ok, R.cch, R.t32, hl, by lia, by lia, by lia, by lia, fun v S' Br => ⟨fun H1 hv d1 => ⟨false, rfl, iteT ?_⟩, fun H1 v1 v2 d1 => ⟨true, rfl, iteF ?_⟩⟩⟩)))
        · obtain ⟨a1, R'⟩ := R.found_no Br ok' many hv
          have b1 := Br.hl
          have b2 := Br.ll
          exact s_ret ev_c (fin_call k a1 ((X.call d1).rs rfl rfl R' (by lia) (by lia)))
        · obtain ⟨mk, s', a1, a2, a3, l', iw', R'⟩ := R.found_yes Br ok' many v1 v2
          have X1 := X.call d1
          have e1 := X1.se
          with_reducible refine s_tn ?_
          refine a_ret (ev_meth (ev_var rfl) e1.obj (e1.fo _ (by decide +kernel)) ea_nil (Ea.i4 b _ _ s.went.length ⟨rfl, e1.obj, e1.fe, e1.len, ?_⟩))
          have X3 := X1.evU (s.went.length + 1)
          refine fin_call k a1 (X3.rs a2.symm a3.symm R' ?_ ?_)
          · show ([] : List (Nat × Int)).length ≤ _; exact Nat.zero_le _
          · show ([] : List (Nat × Int)).length ≤ _; exact Nat.zero_le _
noncomputable def spNarrowS (C C2 : Addr) : Sp := fun vs H Q _ => ∃ (b : Addr) (D : Addr → Prop) (s : Ks176.Abs) (bud j lo hi : Nat), vs = [.ref b, .int j, .int lo, .int hi] ∧ Ss C C2 b D H s bud ∧ bud < 40000 ∧ ∀ H', Rs C C2 b D H H' (Ks176.act s (.narrow j lo hi)).1 (bud + 2) → Q (.int (Ks176.act s (.narrow j lo hi)).2.ret) H'
noncomputable abbrev s_Session_narrow : Stmt := inClass (top 21) 6
theorem sc_Session_narrow : FnScope ["self", "which", "least", "most"] ["self", "which", "least", "most"] (defScope s_Session_narrow) := ⟨rfl, rfl, rfl, by decide +kernel, rfl, by decide +kernel, by decide +kernel⟩
theorem ok_narrowS {f : Addr} {fd : FuncData} (F : Fun K "narrow" "Session.narrow" s_Session_narrow f fd) (T : TxtS K mg C C2 aL) (M_Courses_narrow : Mt P w K mg base C "narrow" 6 ["self", "way", "least", "most"] (spNarrow C)) : FnOk P w K mg base CX0 7 f fd ["self", "which", "least", "most"] (spNarrowS C C2) := by
  refine F.ok sc_Session_narrow (fun vs H Q E h => ?_) (fun cdv A outer st H vs Q E hr h => ?_)
  · refine Ea.l7 h fun b D s bud j lo hi qz744 => ?_; try clear h; subst qz744
    rfl
  · refine Ea.x7_4 h fun b D s bud j lo hi qz746 qz747 hbud k => ?_; try clear h; subst qz746; obtain ⟨B, co, S, l, m, iw, e, db, dc, dd, R, h1, h2⟩ := qz747
    have X := e.sx db dc dd
    have w256 := R.w256
    have hl : l.length ≤ 256 := by rw [← R.eqv.len]; exact w256
    refine ⟨_, (pss_cons (ps_if (PW.pt (pw_or (pt_cmp (pc_dnotin (hu_of hr) (pv 1) (pe_fld (pv 0) rfl))) (pw_or1 (pt_cmpR op_gt (pv 2) (pv 3) (nomark _)))))
        (pss_one (ps_ret (pe_gint rfl T.g_WRONG)))
        pss_nil)
        (pss_cons (ps_if (pt_not (pt_truth (pe_mt M_Courses_narrow T.clCourses (hr.mono (by decide)) (pe_fld (pv 0) rfl) (pa_cons (pe_dget (hu_of hr) (pe_fld (pv 0) rfl) (pv 1) (fun _ _ => rfl)) (pa_cons (pv 2) (pa_cons (pv 3) pa_nil)))) (by intro _; rfl)))
        (pss_one (ps_ret (pe_gint rfl T.g_CANNOT_BE)))
        pss_nil)
        (pss_one (ps_ret pe_int)))), ?_⟩
    refine s_seq (s_if (et_or (et_dnotin (e.ec T rfl) (ev_var rfl) e.c rfl) fun _ => et_test (ev_op0 (ev_var rfl) (ev_var rfl))) (fun hb => ?_) (fun hb => ?_))
    · rw [Bool.or_eq_true, decide_eq_true_eq] at hb
      refine s_ret ev_c (fin_call (s' := s) (r := -22) k (R.narrow_22 ?_) (X.rs rfl rfl R (by lia) (by lia)))
      rcases hb with hb | hb
      · left
        cases q : look co j with
        | none => rfl
        | some v => rw [q] at hb; cases hb
      · exact .inr (by lia)
    · rw [Bool.or_eq_false_iff, decide_eq_false_iff_not] at hb
      obtain ⟨hb1, hb2⟩ := hb
      have hlo : ¬ hi < lo := by lia
      obtain ⟨v0, hv0⟩ : ∃ v, look co j = some v := by
        cases q : look co j with
        | none => rw [q] at hb1; cases hb1
        | some v => exact ⟨v, rfl⟩
      refine Ea.x4_2 (R.cw j v0 hv0) fun t a0 lo0 hi0 hj qz749 => ?_; subst qz749
      with_reducible refine s_tn ?_
      refine s_seq (a_ifNot (K := K) (e.cc.call (e.ek T rfl) (by decide +kernel) (ea_cons (ev_dget (e.ec T rfl) (ev_var rfl) e.c rfl hv0) (ea_cons (ev_var rfl) (ea_cons (ev_var rfl) ea_nil))) (Ea.i14 B.a _ S s.tanks m l iw j t a0 lo0 hi0 lo hi ⟨rfl, e.cc, R.ok, R.t32, hl, hj, by lia, fun v S' Br => ⟨fun H1 hv d1 => ⟨false, rfl, iteT ?_⟩, fun H1 hv d1 => ⟨false, rfl, iteT ?_⟩, fun H1 v1 v2 d1 => ⟨true, rfl, iteF ?_⟩, fun H1 v1 v2 v3 v4 d1 => ⟨true, rfl, iteF ?_⟩⟩⟩)))
      · obtain ⟨a1, l', R'⟩ := (R.narrow_no hj Br hlo).1 hv
        have b1 := Br.hh
        have b2 := Br.ll
        exact s_ret ev_c (fin_call k a1 ((X.call d1).rs rfl rfl R' (by show S'.highest.length ≤ _; rw [b1]; lia) (by show S'.lowest.length ≤ _; rw [b2]; lia)))
      · obtain ⟨a1, l', R'⟩ := (R.narrow_no hj Br hlo).2 hv
        have b1 := Br.hh
        have b2 := Br.ll
        exact s_ret ev_c (fin_call k a1 ((X.call d1).rs rfl rfl R' (by show S'.highest.length ≤ _; rw [b1]; lia) (by show S'.lowest.length ≤ _; rw [b2]; lia)))
      · refine Ea.x1_5 (R.narrow_yes hj Br hlo v1 v2) fun s' a1 a2 a3 qz750 _ => ?_; obtain ⟨l', R'⟩ := qz750
        with_reducible refine s_tn ?_
        exact s_ret ev_c (fin_call k a1 ((X.call d1).rs a2.symm a3.symm R' (Nat.zero_le _) (Nat.zero_le _)))
      · refine Ea.x1_5 (R.narrow_yes hj Br hlo v1 v2) fun s' a1 a2 a3 _ q => ?_
        obtain ⟨l', R'⟩ := q v3 v4
        have b1 := Br.hh
        have b2 := Br.ll
        with_reducible refine s_tn ?_
        exact s_ret ev_c (fin_call k a1 ((X.call d1).rs a2.symm a3.symm R' (by rw [b1]; lia) (by rw [b2]; lia)))
end
end Mg
end
section
set_option maxRecDepth 100000
set_option maxHeartbeats 2000000
namespace Mg
open PySem PySem.Spec
open PyProof.Rows hiding St
open L2
open Ks176 (Went)
section
variable {K : PySem.W.Frag} {σ : St} {H : Hp} {te ta tb : TE} {t u : TS} {D : Ends} {c : TT} {x : Int} {v : V} {n : Nat}
theorem s_ifF (h : Et c σ H false) (k : u D σ H) : tIfS c t u D σ H := h _ (iteF k)
theorem s_ifT (h : Et c σ H true) (k : t D σ H) : tIfS c t u D σ H := h _ (iteT k)
theorem ev_ixS {p : Addr} {xs : List V} (h : Ev ta σ H (.ref p)) (hi : Ev tb σ H (.int x)) (hx : SqL K H p xs) (e : x = (n : Int)) (hv : xs[n]? = some v) : Ev (tOp (rIxL K) ta tb) σ H v :=
  fun Q q => h _ (hi _ (Ea.i4 p xs x v ⟨rfl, rfl, hx, at_of e hv, q⟩))
theorem ev_ixT {p : Addr} {xs : List V} (h : Ev ta σ H (.ref p)) (hi : Ev tb σ H (.int x)) (hx : SqT K H p xs) (e : x = (n : Int)) (hv : xs[n]? = some v) : Ev (tOp (rIxT K) ta tb) σ H v :=
  fun Q q => h _ (hi _ (Ea.i4 p xs x v ⟨rfl, rfl, hx, at_of e hv, q⟩))
theorem ev_lenS {p : Addr} {xs : List V} (h : Ev te σ H (.ref p)) (hp : SqL K H p xs) : Ev (tCB (fun ys H Q => ∃ p zs, ys = [V.ref p] ∧ (SqL K H p zs ∨ SqT K H p zs) ∧ Q (.int zs.length) H) (tCons te tNil)) σ H (.int xs.length) :=
  fun Q q => h _ ⟨p, xs, rfl, .inl hp, q⟩
theorem a_meth {C : Addr} {m : Str} {sp : Sp} {tt : TA} {Q : VK} (h : ta σ H fun x H1 => ∃ a dx fs, x = .ref a ∧ H1 a = some (.ins C dx fs) ∧ fs.lookup m = none ∧ tt σ H1 fun vs H2 => sp (x :: (vs ++ [])) H2 Q E0) : tMeth C m sp [] E0 ta tt σ H Q := h
theorem a_sl {r : V → Option Int → Option Int → Hp → VK → Prop} {tl th : TO} {Q : VK} (h : te σ H fun x H1 => tl σ H1 fun l H2 => th σ H2 fun u H3 => r x l u H3 Q) : tSl r te tl th σ H Q := h
theorem a_part {Q : Option Int → Hp → Prop} (h : te σ H fun x H1 => ∃ i, x = .int i ∧ Q (some i) H1) : tPart te σ H Q := h
theorem a_make {C : Addr} {sp : Sp} {Q : VK} (h : ∀ x dx, H x = none → H dx = none → dx ≠ x → sp [.ref x] (upd (upd H dx (.own x)) x (.ins C dx [])) (fun v H2 => v = .non ∧ Q (.ref x) H2) E0) : tMake C sp [] E0 tNil σ H Q := h
theorem a_make1 {C : Addr} {sp : Sp} {Q : VK} (hv : Ev te σ H v) (h : ∀ x dx, H x = none → H dx = none → dx ≠ x → sp [.ref x, v] (upd (upd H dx (.own x)) x (.ins C dx [])) (fun v H2 => v = .non ∧ Q (.ref x) H2) E0) : tMake C sp [] E0 (tCons te tNil) σ H Q := hv _ h
end
theorem newCourses {C : Addr} {H H' : Hp} {x dx b p : Addr} {S : Cs} {ob op : HO} (hx : H x = none) (hdx : H dx = none) (hne : dx ≠ x) (hb : H b = some ob) (hp : H p = some op) (hd : Hd C x (fun y => y = x) (upd (upd H dx (.own x)) x (.ins C dx [])) H' S) :
    ∃ D : Addr → Prop, Cc C x D H' S ∧ ¬ D b ∧ ¬ D p ∧ (∀ y, D y → H y = none) ∧ ∀ y o, H y = some o → H' y = some o := by
  have ext : ∀ y o, H y = some o → (upd (upd H dx (.own x)) x (.ins C dx [])) y = some o := fun y o h => by rw [upd_ne (ne_of_none h hx), upd_ne (ne_of_none h hdx)]; exact h
  refine ⟨_, hd.2, fun q => ?_, fun q => ?_, fun y q => ?_, fun y o h => hd.1 y o (ext y o h) (ne_of_none h hx)⟩
  · rcases q with q | q
    · exact ne_of_none hb hx q
    · rw [ext _ _ hb] at q; cases q
  · rcases q with q | q
    · exact ne_of_none hp hx q
    · rw [ext _ _ hp] at q; cases q
  · rcases q with q | q
    · rw [q]; exact hx
    · cases e : H y with
      | none => rfl
      | some o => rw [ext _ _ e] at q; cases q
noncomputable def fs4 (n : Int) (p x : Addr) (fs : List (Str × V)) : List (Str × V) := putF "courses" (.ref x) (putF "comings" (.ref p) (putF "events" (.int 0) (putF "tanks" (.int n) fs)))
theorem fs4_look (n : Int) (p x : Addr) (fs : List (Str × V)) (f : Str) : (fs4 n p x fs).lookup f = if f = "courses" then some (.ref x) else if f = "comings" then some (.ref p) else if f = "events" then some (.int 0) else if f = "tanks" then some (.int n) else fs.lookup f := by
  unfold fs4
  rw [lookup_putF, lookup_putF, lookup_putF, lookup_putF]
theorem begun {C C2 b dx p x : Addr} {D : Addr → Prop} {H0 H5 : Hp} {S : Cs} {n : Nat} {fs : List (Str × V)} {Dc : Addr → Prop} (I : Ini n S) (hn : n ≤ 32) (fr : Fr D H0 H5) (db : grow D H0 b) (dp : grow D H0 p) (dd : ∀ y, Dc y → grow D H0 y)
    (hb : ∃ fs', H5 b = some (.ins C2 dx fs')) (hp : H5 p = some (.dK [])) (cc : Cc C x Dc H5 S) (nb : ¬ Dc b) (np : ¬ Dc p) (fo : ∀ m, m ∉ fldS → fs.lookup m = none) (len : (fs4 n p x fs).length ≤ 4) (bud : Nat) : Rs C C2 b D H0 (upd H5 b (.ins C2 dx (fs4 n p x fs))) ⟨n, []⟩ bud := by
  obtain ⟨fs', hb⟩ := hb
  have bp : p ≠ b := fun e => by rw [e, hb] at hp; cases hp
  refine ⟨fr.upd db _, ⟨dx, p, x, fs4 n p x fs, Dc⟩, [], S, [], n, fun _ => 0, ⟨upd_same, ?_, ?_, ?_, ?_, fun m hm => ?_, len, by rw [upd_ne bp]; exact hp, cc.upd nb _, nb, np⟩, db, dp, dd, Rl.begin I hn, by rw [I.h]; exact Nat.zero_le _, by rw [I.lw]; exact Nat.zero_le _⟩
  · rw [fs4_look]; rfl
  · rw [fs4_look]; rfl
  · rw [fs4_look]; rfl
  · rw [fs4_look]; rfl
  · have no : ∀ f : Str, f ∈ fldS → m ≠ f := fun f hf e => hm (e ▸ hf)
    rw [fs4_look, if_neg (no _ (by decide +kernel)), if_neg (no _ (by decide +kernel)), if_neg (no _ (by decide +kernel)), if_neg (no _ (by decide +kernel))]
    exact fo m hm
section
variable {P : Program} {w : World} {K : PySem.W.Frag} {mg : Str → Option Value} {base : Heap} {C C2 aL : Addr}
noncomputable def spInitS (C C2 : Addr) : Sp := fun vs H Q _ => ∃ (b dx : Addr), vs = [.ref b] ∧ H b = some (.ins C2 dx []) ∧ ∀ H', Rs C C2 b (fun x => x = b) H H' ⟨0, []⟩ 0 → Q .non H'
noncomputable abbrev s_Session___init__ : Stmt := inClass (top 21) 0
theorem sc_Session___init__ : FnScope ["self"] ["self"] (defScope s_Session___init__) := ⟨rfl, rfl, rfl, by decide +kernel, rfl, by decide +kernel, by decide +kernel⟩
theorem ok_initS {f : Addr} {fd : FuncData} (F : Fun K "__init__" "Session.__init__" s_Session___init__ f fd) (T : TxtS K mg C C2 aL) (M_Courses : MkOk P w K mg base C 2 ["self", "tanks"] (spInitC C)) : FnOk P w K mg base CX0 4 f fd ["self"] (spInitS C C2) := by
  refine F.ok sc_Session___init__ (fun vs H Q E h => ?_) (fun cdv A outer st H vs Q E hr h => ?_)
  · refine Ea.l2 h fun b dx qz753 => ?_; try clear h; subst qz753
    rfl
  · refine Ea.x2_3 h fun b dx qz754 hb k => ?_; try clear h; subst qz754
    have z0 : ([] : List (Str × V)).length ≤ 0 := Nat.le_refl _
    have z1 := putF_few (f := "tanks") (v := .int 0) z0
    have z2 := putF_few (f := "events") (v := .int 0) z1
    refine ⟨_, (pss_cons (ps_fld (pv 0) pe_int rfl)
        (pss_cons (ps_fld (pv 0) pe_int rfl)
        (pss_cons (ps_fld (pv 0) pe_dnewK rfl)
        (pss_one (ps_fld (pv 0) (pe_mk M_Courses (hr.mono (by decide)) rfl T.g_Courses (pa_cons pe_int pa_nil)) rfl))))), ?_⟩
    refine s_seq (s_fld ev_c (ev_var rfl) hb T.clSession T.n_tanks (by decide) ?_)
    with_reducible refine s_nx ?_
    refine s_seq (s_fld ev_c (ev_var rfl) upd_same T.clSession T.n_events (Nat.lt_of_le_of_lt z1 (by decide)) ?_)
    rw [upd_upd]
    with_reducible refine s_nx ?_
    refine s_seq (a_fld fun p hp => var_go rfl (Ea.i4 b C2 dx _ ⟨rfl, by rw [upd_ne (ne_of_none upd_same hp)]; exact upd_same, T.clSession, T.n_comings, Nat.lt_of_le_of_lt z2 (by decide), ?_⟩))
    have z3 := putF_few (f := "comings") (v := .ref p) z2
    have z4 := fun x => putF_few (f := "courses") (v := .ref x) z3
    obtain ⟨H2, e2⟩ : ∃ H2, H2 = upd H b (.ins C2 dx (putF "events" (.int 0) (putF "tanks" (.int 0) []))) := ⟨_, rfl⟩
    rw [← e2] at hp ⊢
    have b2 : H2 b = some (.ins C2 dx (putF "events" (.int 0) (putF "tanks" (.int 0) []))) := by rw [e2]; exact upd_same
    obtain ⟨H3, e3⟩ : ∃ H3, H3 = upd (upd H2 p (.dK [])) b (.ins C2 dx (putF "comings" (.ref p) (putF "events" (.int 0) (putF "tanks" (.int 0) [])))) := ⟨_, rfl⟩
    rw [← e3]
    refine Ea.a4 (mk_step b2 hp e3) fun b3 p3 k3 n3 => ?_
    have F2 : Fr (fun x => x = b) H H2 := by rw [e2]; exact Fr.upd (D := fun x => x = b) (Fr.refl _ _) (.inl rfl) _
    have F3 : Fr (fun x => x = b) H H3 := by rw [e3]; exact (F2.upd (F2.none hp) _).upd (.inl rfl) _
    with_reducible refine s_nx ?_
    refine a_fld (a_make1 ev_c fun x dx' hx hdx hne => (Ea.i3 x dx' 0 ⟨rfl, upd_same, by decide, fun H5 S I hd => ⟨rfl, ?_⟩⟩))
    refine Ea.x1_5 (newCourses hx hdx hne b3 p3 hd) fun Dc cc nb np dn ext => ?_
    have b5 := ext _ _ b3
    refine var_go rfl (Ea.i4 b C2 dx _ ⟨rfl, b5, T.clSession, T.n_courses, Nat.lt_of_le_of_lt z3 (by decide), ?_⟩)
    exact k _ (begun (fs := []) I (by decide) (F3.same ext) (.inl rfl) (F2.none hp) (fun y q => F3.none (dn y q)) ⟨_, b5⟩ (ext _ _ p3) cc nb np (fun m _ => rfl) (z4 x) 0)
noncomputable def spStart (C C2 : Addr) : Sp := fun vs H Q _ => ∃ (b : Addr) (D : Addr → Prop) (s : Ks176.Abs) (bud n : Nat), vs = [.ref b, .int n] ∧ Ss C C2 b D H s bud ∧ bud < 40000 ∧ ∀ H', Rs C C2 b D H H' (Ks176.act s (.start n)).1 (bud + 2) → Q (.int (Ks176.act s (.start n)).2.ret) H'
noncomputable abbrev s_Session_start : Stmt := inClass (top 21) 2
theorem sc_Session_start : FnScope ["self", "tanks"] ["self", "tanks"] (defScope s_Session_start) := ⟨rfl, rfl, rfl, by decide +kernel, rfl, by decide +kernel, by decide +kernel⟩
theorem ok_start {f : Addr} {fd : FuncData} (F : Fun K "start" "Session.start" s_Session_start f fd) (T : TxtS K mg C C2 aL) (M_Courses : MkOk P w K mg base C 2 ["self", "tanks"] (spInitC C)) : FnOk P w K mg base CX0 4 f fd ["self", "tanks"] (spStart C C2) := by
  refine F.ok sc_Session_start (fun vs H Q E h => ?_) (fun cdv A outer st H vs Q E hr h => ?_)
  · refine Ea.l5 h fun b D s bud n qz756 => ?_; try clear h; subst qz756
    rfl
  · refine Ea.x5_4 h fun b D s bud n qz758 qz759 hbud k => ?_; try clear h; subst qz758; obtain ⟨B, co, S, l, m, iw, e, db, dc, dd, R, h1, h2⟩ := qz759
    have X := e.sx db dc dd
    refine ⟨_, (pss_cons (ps_if (PW.pt (pw_or (pt_cmpR op_eq (pv 1) pe_int (nomark _)) (pw_or1 (pt_cmpR op_gt (pv 1) (pe_gint rfl T.g_MOST_TANKS) (nomark _)))))
        (pss_one (ps_ret (pe_gint rfl T.g_WRONG)))
        pss_nil)
        (pss_cons (ps_fld (pv 0) (pv 1) rfl)
        (pss_cons (ps_fld (pv 0) pe_int rfl)
        (pss_cons (ps_fld (pv 0) pe_dnewK rfl)
        (pss_cons (ps_fld (pv 0) (pe_mk M_Courses (hr.mono (by decide)) rfl T.g_Courses (pa_cons (pv 1) pa_nil)) rfl)
        (pss_one (ps_ret pe_int))))))), ?_⟩
    refine s_seq (s_if (et_or (et_test (ev_eq (ev_var rfl) ev_c rfl)) fun _ => et_test (ev_op0 (ev_var rfl) ev_c)) (fun hb => ?_) (fun hb => ?_))
    · rw [Bool.or_eq_true, vint_eq, decide_eq_true_eq] at hb
      refine s_ret ev_c (fin_call (s' := s) (r := -22) k ?_ (X.rs rfl rfl R (by lia) (by lia)))
      have : n = 0 ∨ Ks175.TANKS < n := by
        rcases hb with hb | hb
        · exact .inl (by lia)
        · exact .inr (show 32 < n by lia)
      simp only [Ks176.act, if_pos this]
    · rw [Bool.or_eq_false_iff, vint_ne, decide_eq_false_iff_not] at hb
      have hn : n ≤ 32 := by lia
      have z1 : (putF "tanks" (.int (n : Nat)) B.fs).length ≤ 4 := by rw [putF_len e.ft]; exact e.len
      have l1 : ∀ {f : Str} {v : Option V}, f ≠ "tanks" → B.fs.lookup f = v → (putF "tanks" (.int (n : Nat)) B.fs).lookup f = v := fun h e => by rw [lookup_putF, if_neg h]; exact e
      have z2 : (putF "events" (.int 0) (putF "tanks" (.int (n : Nat)) B.fs)).length ≤ 4 := by rw [putF_len (l1 (by decide) e.fe)]; exact z1
      have l2 : ∀ {f : Str} {v : Option V}, f ≠ "tanks" → f ≠ "events" → B.fs.lookup f = v → (putF "events" (.int 0) (putF "tanks" (.int (n : Nat)) B.fs)).lookup f = v := fun h h' e => by rw [lookup_putF, if_neg h']; exact l1 h e
      with_reducible refine s_tn ?_
      refine s_seq (s_fld (ev_var rfl) (ev_var rfl) e.obj T.clSession T.n_tanks (Nat.lt_of_le_of_lt e.len (by decide)) ?_)
      with_reducible refine s_nx ?_
      refine s_seq (s_fld ev_c (ev_var rfl) upd_same T.clSession T.n_events (Nat.lt_of_le_of_lt z1 (by decide)) ?_)
      rw [upd_upd]
      with_reducible refine s_nx ?_
      refine s_seq (a_fld fun p hp => var_go rfl (Ea.i4 b C2 B.dx _ ⟨rfl, by rw [upd_ne (ne_of_none upd_same hp)]; exact upd_same, T.clSession, T.n_comings, Nat.lt_of_le_of_lt z2 (by decide), ?_⟩))
      have z3 : (putF "comings" (.ref p) (putF "events" (.int 0) (putF "tanks" (.int (n : Nat)) B.fs))).length ≤ 4 := by rw [putF_len (l2 (by decide) (by decide) e.fc)]; exact z2
      have l3 : ∀ {f : Str} {v : Option V}, f ≠ "tanks" → f ≠ "events" → f ≠ "comings" → B.fs.lookup f = v → (putF "comings" (.ref p) (putF "events" (.int 0) (putF "tanks" (.int (n : Nat)) B.fs))).lookup f = v := fun h h' h'' e => by rw [lookup_putF, if_neg h'']; exact l2 h h' e
      obtain ⟨H2, e2⟩ : ∃ H2, H2 = upd H b (.ins C2 B.dx (putF "events" (.int 0) (putF "tanks" (.int (n : Nat)) B.fs))) := ⟨_, rfl⟩
      rw [← e2] at hp ⊢
      have b2 : H2 b = some (.ins C2 B.dx (putF "events" (.int 0) (putF "tanks" (.int (n : Nat)) B.fs))) := by rw [e2]; exact upd_same
      obtain ⟨H3, e3⟩ : ∃ H3, H3 = upd (upd H2 p (.dK [])) b (.ins C2 B.dx (putF "comings" (.ref p) (putF "events" (.int 0) (putF "tanks" (.int (n : Nat)) B.fs)))) := ⟨_, rfl⟩
      rw [← e3]
      refine Ea.a4 (mk_step b2 hp e3) fun b3 p3 k3 n3 => ?_
      have F2 : Fr D H H2 := by rw [e2]; exact (Fr.refl _ _).upd (.inl db) _
      have F3 : Fr D H H3 := by rw [e3]; exact (F2.upd (F2.none hp) _).upd (.inl db) _
      with_reducible refine s_nx ?_
      refine s_seq (a_fld (a_make1 (ev_var rfl) fun x dx' hx hdx hne => (Ea.i3 x dx' n ⟨rfl, upd_same, hn, fun H5 S' I hd => ⟨rfl, ?_⟩⟩)))
      refine Ea.x1_5 (newCourses hx hdx hne b3 p3 hd) fun Dc cc nb np dn ext => ?_
      have b5 := ext _ _ b3
      have z4 : (fs4 n p x B.fs).length ≤ 4 := by unfold fs4; rw [putF_len (l3 (by decide) (by decide) (by decide) e.fk)]; exact z3
      refine var_go rfl (Ea.i4 b C2 B.dx _ ⟨rfl, b5, T.clSession, T.n_courses, Nat.lt_of_le_of_lt z3 (by decide), ?_⟩)
      with_reducible refine s_nx ?_
      refine s_ret ev_c (fin_call (s' := ⟨n, []⟩) (r := 0) k ?_ (begun (fs := B.fs) I hn (F3.same ext) (.inl db) (F2.none hp) (fun y q => F3.none (dn y q)) ⟨_, b5⟩ (ext _ _ p3) cc nb np e.fo z4 _))
      have : ¬ (n = 0 ∨ Ks175.TANKS < n) := fun q => by
        rcases q with q | q
        · lia
        · have q : 32 < n := q
          lia
      simp only [Ks176.act, if_neg this]; rfl
@[elab_as_elim] theorem up7 {M : Nat → Prop} (p : Nat) (h : p ≤ 7) (h0 : M 0) (h1 : M 1) (h2 : M 2) (h3 : M 3) (h4 : M 4) (h5 : M 5) (h6 : M 6) (h7 : M 7) : M p := by
  match p, h with
  | 0, _ => exact h0
  | 1, _ => exact h1
  | 2, _ => exact h2
  | 3, _ => exact h3
  | 4, _ => exact h4
  | 5, _ => exact h5
  | 6, _ => exact h6
  | 7, _ => exact h7
  | p + 8, h => lia
noncomputable def spAnswer (C C2 : Addr) : Sp := fun vs H Q _ => ∃ (b : Addr) (D : Addr → Prop) (s : Ks176.Abs) (bud : Nat) (lc : Addr) (p : Nat) (ns : List Nat), vs = [.ref b, .ref lc] ∧ H lc = some (.lst (intz ((p : Int) :: ns.map fun n : Nat => (n : Int)))) ∧ Ss C C2 b D H s bud ∧ bud < 40000 ∧ p ≤ 7 ∧ ns.length = nums p ∧
  ∀ H', Rs C C2 b D H H' (Ks176Neutral.step s [(p : Int) :: ns.map fun n : Nat => (n : Int)]).1 (bud + 2) → Q (.int ((Ks176Neutral.step s [(p : Int) :: ns.map fun n : Nat => (n : Int)]).2.headD 0)) H'
noncomputable abbrev s_Session_answer : Stmt := inClass (top 21) 1
theorem sc_Session_answer : FnScope ["self", "call"] ["self", "call"] (defScope s_Session_answer) := ⟨rfl, rfl, rfl, by decide +kernel, rfl, by decide +kernel, by decide +kernel⟩
theorem ok_answer {f : Addr} {fd : FuncData} (F : Fun K "answer" "Session.answer" s_Session_answer f fd) (T : TxtS K mg C C2 aL) (M_Session_start : Mt P w K mg base C2 "start" 4 ["self", "tanks"] (spStart C C2)) (M_Session_come_in : Mt P w K mg base C2 "come_in" 4 ["self", "tank", "amount", "least", "most"] (spComeS C C2)) (M_Session_pour : Mt P w K mg base C2 "pour" 4 ["self", "origin", "goal", "amount"] (spPourS C C2)) (M_Session_found : Mt P w K mg base C2 "found" 6 ["self", "tank", "least", "most"] (spFoundS C C2)) (M_Session_narrow : Mt P w K mg base C2 "narrow" 7 ["self", "which", "least", "most"] (spNarrowS C C2)) (M_Session_has : Mt P w K mg base C2 "has" 3 ["self", "tank"] (spHas C C2)) (M_Session_most : Mt P w K mg base C2 "most" 6 ["self", "chosen"] (spMostS C C2)) (M_Session_least : Mt P w K mg base C2 "least" 6 ["self", "chosen"] (spLeastS C C2)) :
    FnOk P w K mg base CX0 8 f fd ["self", "call"] (spAnswer C C2) := by
  refine F.ok sc_Session_answer (fun vs H Q E h => ?_) (fun cdv A outer st H vs Q E hr h => ?_)
  · refine Ea.l7 h fun b D s bud lc p ns qz762 => ?_; try clear h; subst qz762
    rfl
  · refine Ea.e7 h fun b D s bud lc p ns qz765 => Ea.a7 qz765 fun qz764 hc Sc hbud hp hns k => ?_; try clear h; subst qz764
    have Sc' := Sc
    refine Ea.l6 Sc' fun B co S l m iw e0 => ?_; try clear Sc'
    refine ⟨_, (pss_cons (ps_if (pt_cmpR op_eq (pe_ix ix_list (pv 1) pe_int (fun _ _ => rfl)) (pe_gint rfl T.g_START) (nomark _))
        (pss_one (ps_ret (pe_mt M_Session_start T.clSession (hr.mono (by decide)) (pv 0) (pa_cons (pe_ix ix_list (pv 1) pe_int (fun _ _ => rfl)) pa_nil))))
        pss_nil)
        (pss_cons (ps_if (pt_cmpR op_eq (pe_ix ix_list (pv 1) pe_int (fun _ _ => rfl)) (pe_gint rfl T.g_COME_IN) (nomark _))
        (pss_one (ps_ret (pe_mt M_Session_come_in T.clSession (hr.mono (by decide)) (pv 0) (pa_cons (pe_ix ix_list (pv 1) pe_int (fun _ _ => rfl)) (pa_cons (pe_ix ix_list (pv 1) pe_int (fun _ _ => rfl)) (pa_cons (pe_ix ix_list (pv 1) pe_int (fun _ _ => rfl)) (pa_cons (pe_ix ix_list (pv 1) pe_int (fun _ _ => rfl)) pa_nil)))))))
        pss_nil)
        (pss_cons (ps_if (pt_cmpR op_eq (pe_ix ix_list (pv 1) pe_int (fun _ _ => rfl)) (pe_gint rfl T.g_POUR) (nomark _))
        (pss_one (ps_ret (pe_mt M_Session_pour T.clSession (hr.mono (by decide)) (pv 0) (pa_cons (pe_ix ix_list (pv 1) pe_int (fun _ _ => rfl)) (pa_cons (pe_ix ix_list (pv 1) pe_int (fun _ _ => rfl)) (pa_cons (pe_ix ix_list (pv 1) pe_int (fun _ _ => rfl)) pa_nil))))))
        pss_nil)
        (pss_cons (ps_if (pt_cmpR op_eq (pe_ix ix_list (pv 1) pe_int (fun _ _ => rfl)) (pe_gint rfl T.g_FOUND) (nomark _))
        (pss_one (ps_ret (pe_mt M_Session_found T.clSession (hr.mono (by decide)) (pv 0) (pa_cons (pe_ix ix_list (pv 1) pe_int (fun _ _ => rfl)) (pa_cons (pe_ix ix_list (pv 1) pe_int (fun _ _ => rfl)) (pa_cons (pe_ix ix_list (pv 1) pe_int (fun _ _ => rfl)) pa_nil))))))
        pss_nil)
        (pss_cons (ps_if (pt_cmpR op_eq (pe_ix ix_list (pv 1) pe_int (fun _ _ => rfl)) (pe_gint rfl T.g_NARROW) (nomark _))
        (pss_one (ps_ret (pe_mt M_Session_narrow T.clSession (hr.mono (by decide)) (pv 0) (pa_cons (pe_ix ix_list (pv 1) pe_int (fun _ _ => rfl)) (pa_cons (pe_ix ix_list (pv 1) pe_int (fun _ _ => rfl)) (pa_cons (pe_ix ix_list (pv 1) pe_int (fun _ _ => rfl)) pa_nil))))))
        pss_nil)
        (pss_cons (ps_if (pt_cmpR op_eq (pe_ix ix_list (pv 1) pe_int (fun _ _ => rfl)) (pe_gint rfl T.g_HAS) (nomark _))
        (pss_one (ps_ret (pe_mt M_Session_has T.clSession (hr.mono (by decide)) (pv 0) (pa_cons (pe_ix ix_list (pv 1) pe_int (fun _ _ => rfl)) pa_nil))))
        pss_nil)
        (pss_cons (ps_if (pt_cmpR op_eq (pe_ix ix_list (pv 1) pe_int (fun _ _ => rfl)) (pe_gint rfl T.g_MOST) (nomark _))
        (pss_one (ps_ret (pe_mt M_Session_most T.clSession (hr.mono (by decide)) (pv 0) (pa_cons (pe_ix ix_list (pv 1) pe_int (fun _ _ => rfl)) pa_nil))))
        pss_nil)
        (pss_one (ps_ret (pe_mt M_Session_least T.clSession (hr.mono (by decide)) (pv 0) (pa_cons (pe_ix ix_list (pv 1) pe_int (fun _ _ => rfl)) pa_nil))))))))))), ?_⟩
    revert hc hns k
    refine up7 p hp ?_ ?_ ?_ ?_ ?_ ?_ ?_ ?_
    · intro hc hns k
      obtain ⟨t, rfl⟩ := nl1 hns; have e : Ks176Neutral.step s [((0 : Nat) : Int) :: ([t] : List Nat).map fun n : Nat => (n : Int)] = ((Ks176.act s (.start t)).1, [(Ks176.act s (.start t)).2.ret]) := rfl
      have k' : ∀ H', Rs C C2 b D H H' (Ks176.act s (.start t)).1 (bud + 2) → Q (.int (Ks176.act s (.start t)).2.ret) H' := fun H' r => by
        have q := k H' (by rw [e]; exact r)
        rw [e] at q
        exact q
      refine s_seq (s_ifT (by exact et_test (ev_eq (ev_ix (n := 0) (ev_var rfl) ev_c hc rfl rfl) ev_c rfl)) ?_)
      exact a_ret (ev_meth (ev_var rfl) e0.obj (e0.fo _ (by decide +kernel)) (ea_cons (ev_ix (n := 1) (ev_var rfl) ev_c hc rfl rfl) ea_nil) (Ea.i5 b D s bud t ⟨rfl, Sc, hbud, k'⟩))
    · intro hc hns k
      obtain ⟨t, a, lo, hi, rfl⟩ := nl4 hns; have e : Ks176Neutral.step s [((1 : Nat) : Int) :: ([t, a, lo, hi] : List Nat).map fun n : Nat => (n : Int)] = ((Ks176.act s (.in_ t a lo hi)).1, [(Ks176.act s (.in_ t a lo hi)).2.ret]) := rfl
      have k' : ∀ H', Rs C C2 b D H H' (Ks176.act s (.in_ t a lo hi)).1 (bud + 2) → Q (.int (Ks176.act s (.in_ t a lo hi)).2.ret) H' := fun H' r => by
        have q := k H' (by rw [e]; exact r)
        rw [e] at q
        exact q
      refine s_seq (s_ifF (by exact et_test (ev_eq (ev_ix (n := 0) (ev_var rfl) ev_c hc rfl rfl) ev_c rfl)) ?_)
      with_reducible refine s_tn ?_
      refine s_seq (s_ifT (by exact et_test (ev_eq (ev_ix (n := 0) (ev_var rfl) ev_c hc rfl rfl) ev_c rfl)) ?_)
      exact a_ret (ev_meth (ev_var rfl) e0.obj (e0.fo _ (by decide +kernel)) (ea_cons (ev_ix (n := 1) (ev_var rfl) ev_c hc rfl rfl) (ea_cons (ev_ix (n := 2) (ev_var rfl) ev_c hc rfl rfl) (ea_cons (ev_ix (n := 3) (ev_var rfl) ev_c hc rfl rfl) (ea_cons (ev_ix (n := 4) (ev_var rfl) ev_c hc rfl rfl) ea_nil)))) (Ea.i8 b D s bud t a lo hi ⟨rfl, Sc, hbud, k'⟩))
    · intro hc hns k
      obtain ⟨t, a, lo, rfl⟩ := nl3 hns; have e : Ks176Neutral.step s [((2 : Nat) : Int) :: ([t, a, lo] : List Nat).map fun n : Nat => (n : Int)] = ((Ks176.act s (.pour t a lo)).1, [(Ks176.act s (.pour t a lo)).2.ret]) := rfl
      have k' : ∀ H', Rs C C2 b D H H' (Ks176.act s (.pour t a lo)).1 (bud + 2) → Q (.int (Ks176.act s (.pour t a lo)).2.ret) H' := fun H' r => by
        have q := k H' (by rw [e]; exact r)
        rw [e] at q
        exact q
      refine s_seq (s_ifF (by exact et_test (ev_eq (ev_ix (n := 0) (ev_var rfl) ev_c hc rfl rfl) ev_c rfl)) ?_)
      with_reducible refine s_tn ?_
      refine s_seq (s_ifF (by exact et_test (ev_eq (ev_ix (n := 0) (ev_var rfl) ev_c hc rfl rfl) ev_c rfl)) ?_)
      with_reducible refine s_tn ?_
      refine s_seq (s_ifT (by exact et_test (ev_eq (ev_ix (n := 0) (ev_var rfl) ev_c hc rfl rfl) ev_c rfl)) ?_)
      exact a_ret (ev_meth (ev_var rfl) e0.obj (e0.fo _ (by decide +kernel)) (ea_cons (ev_ix (n := 1) (ev_var rfl) ev_c hc rfl rfl) (ea_cons (ev_ix (n := 2) (ev_var rfl) ev_c hc rfl rfl) (ea_cons (ev_ix (n := 3) (ev_var rfl) ev_c hc rfl rfl) ea_nil))) (Ea.i7 b D s bud t a lo ⟨rfl, Sc, hbud, k'⟩))
    · intro hc hns k
      obtain ⟨t, a, lo, rfl⟩ := nl3 hns; have e : Ks176Neutral.step s [((3 : Nat) : Int) :: ([t, a, lo] : List Nat).map fun n : Nat => (n : Int)] = ((Ks176.act s (.found t a lo)).1, [(Ks176.act s (.found t a lo)).2.ret]) := rfl
      have k' : ∀ H', Rs C C2 b D H H' (Ks176.act s (.found t a lo)).1 (bud + 2) → Q (.int (Ks176.act s (.found t a lo)).2.ret) H' := fun H' r => by
        have q := k H' (by rw [e]; exact r)
        rw [e] at q
        exact q
      refine s_seq (s_ifF (by exact et_test (ev_eq (ev_ix (n := 0) (ev_var rfl) ev_c hc rfl rfl) ev_c rfl)) ?_)
      with_reducible refine s_tn ?_
      refine s_seq (s_ifF (by exact et_test (ev_eq (ev_ix (n := 0) (ev_var rfl) ev_c hc rfl rfl) ev_c rfl)) ?_)
      with_reducible refine s_tn ?_
      refine s_seq (s_ifF (by exact et_test (ev_eq (ev_ix (n := 0) (ev_var rfl) ev_c hc rfl rfl) ev_c rfl)) ?_)
      with_reducible refine s_tn ?_
      refine s_seq (s_ifT (by exact et_test (ev_eq (ev_ix (n := 0) (ev_var rfl) ev_c hc rfl rfl) ev_c rfl)) ?_)
      exact a_ret (ev_meth (ev_var rfl) e0.obj (e0.fo _ (by decide +kernel)) (ea_cons (ev_ix (n := 1) (ev_var rfl) ev_c hc rfl rfl) (ea_cons (ev_ix (n := 2) (ev_var rfl) ev_c hc rfl rfl) (ea_cons (ev_ix (n := 3) (ev_var rfl) ev_c hc rfl rfl) ea_nil))) (Ea.i7 b D s bud t a lo ⟨rfl, Sc, hbud, k'⟩))
    · intro hc hns k
      obtain ⟨t, a, lo, rfl⟩ := nl3 hns; have e : Ks176Neutral.step s [((4 : Nat) : Int) :: ([t, a, lo] : List Nat).map fun n : Nat => (n : Int)] = ((Ks176.act s (.narrow t a lo)).1, [(Ks176.act s (.narrow t a lo)).2.ret]) := rfl
      have k' : ∀ H', Rs C C2 b D H H' (Ks176.act s (.narrow t a lo)).1 (bud + 2) → Q (.int (Ks176.act s (.narrow t a lo)).2.ret) H' := fun H' r => by
        have q := k H' (by rw [e]; exact r)
        rw [e] at q
        exact q
      refine s_seq (s_ifF (by exact et_test (ev_eq (ev_ix (n := 0) (ev_var rfl) ev_c hc rfl rfl) ev_c rfl)) ?_)
      with_reducible refine s_tn ?_
      refine s_seq (s_ifF (by exact et_test (ev_eq (ev_ix (n := 0) (ev_var rfl) ev_c hc rfl rfl) ev_c rfl)) ?_)
      with_reducible refine s_tn ?_
      refine s_seq (s_ifF (by exact et_test (ev_eq (ev_ix (n := 0) (ev_var rfl) ev_c hc rfl rfl) ev_c rfl)) ?_)
      with_reducible refine s_tn ?_
      refine s_seq (s_ifF (by exact et_test (ev_eq (ev_ix (n := 0) (ev_var rfl) ev_c hc rfl rfl) ev_c rfl)) ?_)
      with_reducible refine s_tn ?_
      refine s_seq (s_ifT (by exact et_test (ev_eq (ev_ix (n := 0) (ev_var rfl) ev_c hc rfl rfl) ev_c rfl)) ?_)
      exact a_ret (ev_meth (ev_var rfl) e0.obj (e0.fo _ (by decide +kernel)) (ea_cons (ev_ix (n := 1) (ev_var rfl) ev_c hc rfl rfl) (ea_cons (ev_ix (n := 2) (ev_var rfl) ev_c hc rfl rfl) (ea_cons (ev_ix (n := 3) (ev_var rfl) ev_c hc rfl rfl) ea_nil))) (Ea.i7 b D s bud t a lo ⟨rfl, Sc, hbud, k'⟩))
    · intro hc hns k
      obtain ⟨t, rfl⟩ := nl1 hns; have e : Ks176Neutral.step s [((5 : Nat) : Int) :: ([t] : List Nat).map fun n : Nat => (n : Int)] = ((Ks176.act s (.has t)).1, [(Ks176.act s (.has t)).2.ret]) := rfl
      have k' : ∀ H', Rs C C2 b D H H' (Ks176.act s (.has t)).1 (bud + 2) → Q (.int (Ks176.act s (.has t)).2.ret) H' := fun H' r => by
        have q := k H' (by rw [e]; exact r)
        rw [e] at q
        exact q
      refine s_seq (s_ifF (by exact et_test (ev_eq (ev_ix (n := 0) (ev_var rfl) ev_c hc rfl rfl) ev_c rfl)) ?_)
      with_reducible refine s_tn ?_
      refine s_seq (s_ifF (by exact et_test (ev_eq (ev_ix (n := 0) (ev_var rfl) ev_c hc rfl rfl) ev_c rfl)) ?_)
      with_reducible refine s_tn ?_
      refine s_seq (s_ifF (by exact et_test (ev_eq (ev_ix (n := 0) (ev_var rfl) ev_c hc rfl rfl) ev_c rfl)) ?_)
      with_reducible refine s_tn ?_
      refine s_seq (s_ifF (by exact et_test (ev_eq (ev_ix (n := 0) (ev_var rfl) ev_c hc rfl rfl) ev_c rfl)) ?_)
      with_reducible refine s_tn ?_
      refine s_seq (s_ifF (by exact et_test (ev_eq (ev_ix (n := 0) (ev_var rfl) ev_c hc rfl rfl) ev_c rfl)) ?_)
      with_reducible refine s_tn ?_
      refine s_seq (s_ifT (by exact et_test (ev_eq (ev_ix (n := 0) (ev_var rfl) ev_c hc rfl rfl) ev_c rfl)) ?_)
      exact a_ret (ev_meth (ev_var rfl) e0.obj (e0.fo _ (by decide +kernel)) (ea_cons (ev_ix (n := 1) (ev_var rfl) ev_c hc rfl rfl) ea_nil) (Ea.i5 b D s bud t ⟨rfl, Sc, hbud, k'⟩))
    · intro hc hns k
      obtain ⟨t, rfl⟩ := nl1 hns; have e : Ks176Neutral.step s [((6 : Nat) : Int) :: ([t] : List Nat).map fun n : Nat => (n : Int)] = ((Ks176.act s (.most t)).1, [(Ks176.act s (.most t)).2.ret]) := rfl
      have k' : ∀ H', Rs C C2 b D H H' (Ks176.act s (.most t)).1 (bud + 2) → Q (.int (Ks176.act s (.most t)).2.ret) H' := fun H' r => by
        have q := k H' (by rw [e]; exact r)
        rw [e] at q
        exact q
      refine s_seq (s_ifF (by exact et_test (ev_eq (ev_ix (n := 0) (ev_var rfl) ev_c hc rfl rfl) ev_c rfl)) ?_)
      with_reducible refine s_tn ?_
      refine s_seq (s_ifF (by exact et_test (ev_eq (ev_ix (n := 0) (ev_var rfl) ev_c hc rfl rfl) ev_c rfl)) ?_)
      with_reducible refine s_tn ?_
      refine s_seq (s_ifF (by exact et_test (ev_eq (ev_ix (n := 0) (ev_var rfl) ev_c hc rfl rfl) ev_c rfl)) ?_)
      with_reducible refine s_tn ?_
      refine s_seq (s_ifF (by exact et_test (ev_eq (ev_ix (n := 0) (ev_var rfl) ev_c hc rfl rfl) ev_c rfl)) ?_)
      with_reducible refine s_tn ?_
      refine s_seq (s_ifF (by exact et_test (ev_eq (ev_ix (n := 0) (ev_var rfl) ev_c hc rfl rfl) ev_c rfl)) ?_)
      with_reducible refine s_tn ?_
      refine s_seq (s_ifF (by exact et_test (ev_eq (ev_ix (n := 0) (ev_var rfl) ev_c hc rfl rfl) ev_c rfl)) ?_)
      with_reducible refine s_tn ?_
      refine s_seq (s_ifT (by exact et_test (ev_eq (ev_ix (n := 0) (ev_var rfl) ev_c hc rfl rfl) ev_c rfl)) ?_)
      exact a_ret (ev_meth (ev_var rfl) e0.obj (e0.fo _ (by decide +kernel)) (ea_cons (ev_ix (n := 1) (ev_var rfl) ev_c hc rfl rfl) ea_nil) (Ea.i5 b D s bud t ⟨rfl, Sc, hbud, k'⟩))
    · intro hc hns k
      obtain ⟨t, rfl⟩ := nl1 hns; have e : Ks176Neutral.step s [((7 : Nat) : Int) :: ([t] : List Nat).map fun n : Nat => (n : Int)] = ((Ks176.act s (.least t)).1, [(Ks176.act s (.least t)).2.ret]) := rfl
      have k' : ∀ H', Rs C C2 b D H H' (Ks176.act s (.least t)).1 (bud + 2) → Q (.int (Ks176.act s (.least t)).2.ret) H' := fun H' r => by
        have q := k H' (by rw [e]; exact r)
        rw [e] at q
        exact q
      refine s_seq (s_ifF (by exact et_test (ev_eq (ev_ix (n := 0) (ev_var rfl) ev_c hc rfl rfl) ev_c rfl)) ?_)
      with_reducible refine s_tn ?_
      refine s_seq (s_ifF (by exact et_test (ev_eq (ev_ix (n := 0) (ev_var rfl) ev_c hc rfl rfl) ev_c rfl)) ?_)
      with_reducible refine s_tn ?_
      refine s_seq (s_ifF (by exact et_test (ev_eq (ev_ix (n := 0) (ev_var rfl) ev_c hc rfl rfl) ev_c rfl)) ?_)
      with_reducible refine s_tn ?_
      refine s_seq (s_ifF (by exact et_test (ev_eq (ev_ix (n := 0) (ev_var rfl) ev_c hc rfl rfl) ev_c rfl)) ?_)
      with_reducible refine s_tn ?_
      refine s_seq (s_ifF (by exact et_test (ev_eq (ev_ix (n := 0) (ev_var rfl) ev_c hc rfl rfl) ev_c rfl)) ?_)
      with_reducible refine s_tn ?_
      refine s_seq (s_ifF (by exact et_test (ev_eq (ev_ix (n := 0) (ev_var rfl) ev_c hc rfl rfl) ev_c rfl)) ?_)
      with_reducible refine s_tn ?_
      refine s_seq (s_ifF (by exact et_test (ev_eq (ev_ix (n := 0) (ev_var rfl) ev_c hc rfl rfl) ev_c rfl)) ?_)
      with_reducible refine s_tn ?_
      exact a_ret (ev_meth (ev_var rfl) e0.obj (e0.fo _ (by decide +kernel)) (ea_cons (ev_ix (n := 1) (ev_var rfl) ev_c hc rfl rfl) ea_nil) (Ea.i5 b D s bud t ⟨rfl, Sc, hbud, k'⟩))
end
end Mg
end
section
set_option maxRecDepth 100000
set_option maxHeartbeats 2000000
namespace Mg
open PySem PySem.Spec
open PyProof.Rows hiding St
open L2
open Ks176 (Went)
section
variable {C C2 b : Addr} {D : Addr → Prop} {H H' : Hp} {s : Ks176.Abs} {bud : Nat}
theorem Se.same {B : Bd} {n ev : Nat} {co : List (Nat × Int)} {S : Cs} (e : Se C C2 b H B n ev co S) (sm : Same H H') : Se C C2 b H' B n ev co S :=
  ⟨sm _ _ e.obj, e.ft, e.fe, e.fc, e.fk, e.fo, e.len, sm _ _ e.c, e.cc.same sm, e.nb, e.nc⟩
theorem Ss.same (h : Ss C C2 b D H s bud) (sm : Same H H') : Ss C C2 b D H' s bud :=
  Ea.e6 h fun B co S l m iw r => ⟨B, co, S, l, m, iw, r.1.same sm, r.2⟩
theorem Ss.upd (h : Ss C C2 b D H s bud) {x : Addr} (hx : ¬ D x) (o : HO) : Ss C C2 b D (upd H x o) s bud := by
  refine Ea.x6_5 h fun B co S l m iw e db dc dd r => ?_; try clear h
  have k : ∀ {y}, D y → y ≠ x := fun {y} q z => hx (by rw [← z]; exact q)
  exact ⟨B, co, S, l, m, iw, ⟨by rw [upd_ne (k db)]; exact e.obj, e.ft, e.fe, e.fc, e.fk, e.fo, e.len, by rw [upd_ne (k dc)]; exact e.c, e.cc.upd (fun q => hx (dd x q)) o, e.nb, e.nc⟩, db, dc, dd, r⟩
theorem Ss.shrink (h : Ss C C2 b D H s bud) {x : Addr} (hx : H x = none) : Ss C C2 b (fun y => D y ∧ y ≠ x) H s bud := by
  refine Ea.x6_5 h fun B co S l m iw e db dc dd r => ?_; try clear h
  refine Ea.x1_2 e.cc fun A K w => ?_
  have fresh : ∀ y, A.own B.a y → y ≠ x := fun y q z => by
    have X : Hx C B.a B.D H H A S := ⟨.refl _ _, K, fun x q => .inl (w x q)⟩
    exact X.fresh hx (z ▸ q)
  exact ⟨{ B with D := fun y => B.D y ∧ y ≠ x }, co, S, l, m, iw, ⟨e.obj, e.ft, e.fe, e.fc, e.fk, e.fo, e.len, e.c, ⟨A, K, fun y q => ⟨w y q, fresh y q⟩⟩, fun q => e.nb q.1, fun q => e.nc q.1⟩, ⟨db, ne_of_none e.obj hx⟩, ⟨dc, ne_of_none e.c hx⟩, fun y q => ⟨dd y q.1, q.2⟩, r⟩
end
theorem step_one (s : Ks176.Abs) (c : List (List Int)) : (Ks176Neutral.step s c).2 = [(Ks176Neutral.step s c).2.headD 0] := by
  unfold Ks176Neutral.step
  split <;> rfl
theorem told_step (s : Ks176.Abs) (c : List (List Int)) (cs : List (List (List Int))) : PyFlat.told (PyFlat.played Ks176Neutral.step s (c :: cs)) = [1, (Ks176Neutral.step s c).2.headD 0] ++ PyFlat.told (PyFlat.played Ks176Neutral.step (Ks176Neutral.step s c).1 cs) := by
  show PyFlat.told ((Ks176Neutral.step s c).2 :: PyFlat.played Ks176Neutral.step (Ks176Neutral.step s c).1 cs) = _
  unfold PyFlat.told
  rw [List.flatMap_cons]
  congr 1
  rw [step_one]; rfl
theorem lenAt (p : Nat) (h : p ≤ 7) : (([2, 5, 4, 4, 4, 2, 2, 2] : List Int).map V.int)[p]? = some (V.int ((nums (p : Int) + 1 : Nat) : Int)) :=
  up7 p h rfl rfl rfl rfl rfl rfl rfl rfl
theorem toNats (l : List Int) (h : ∀ x, x ∈ l → 0 ≤ x) : (l.map Int.toNat).map (fun n : Nat => (n : Int)) = l := by
  rw [List.map_map]
  refine (List.map_congr_left fun x hx => ?_).trans (List.map_id l)
  have := h x hx
  show ((x.toNat : Nat) : Int) = x
  lia
theorem SqL.kept {K : PySem.W.Frag} {H H' : Hp} {a : Addr} {xs : List V} (h : SqL K H a xs) (k : ∀ o, H a = some o → H' a = some o) : SqL K H' a xs := by
  rcases h with (h | ⟨o, h⟩) | h
  · exact .inl (.inl (k _ h))
  · exact .inl (.inr ⟨o, k _ h⟩)
  · exact .inr h
section
variable {P : Program} {w : World} {K : PySem.W.Frag} {mg : Str → Option Value} {base : Heap} {C C2 aL : Addr}
noncomputable def spAnswers (K : PySem.W.Frag) : Sp := fun vs H Q _ => ∃ (a : Addr) (l : List Int), vs = [.ref a] ∧ SqL K H a (intz l) ∧ (∀ x, x ∈ l → 0 ≤ x) ∧ l.length ≤ 30000 ∧ (∃ cs, PyKs176.calls l = some cs ∧ cs.length ≤ 5000) ∧
  ∀ (H' : Hp) (p : Addr), H' p = some (.lst (intz (PyKs176.answers l))) → Q (.ref p) H'
noncomputable abbrev s_answers : Stmt := top 22
theorem sc_answers : FnScope ["calls", "session", "given", "at", "behind"] ["calls"] (defScope s_answers) := ⟨rfl, rfl, rfl, by decide +kernel, rfl, by decide +kernel, by decide +kernel⟩
theorem ok_answers {f : Addr} {fd : FuncData} (F : Fun K "answers" "answers" s_answers f fd) (T : TxtS K mg C C2 aL) (M_Session : MkOk P w K mg base C2 4 ["self"] (spInitS C C2)) (M_Session_answer : Mt P w K mg base C2 "answer" 8 ["self", "call"] (spAnswer C C2)) :
    FnOk P w K mg base CX0 9 f fd ["calls"] (spAnswers K) := by
  refine F.ok sc_answers (fun vs H Q E h => ?_) (fun cdv A outer st H vs Q E hr h => ?_)
  · refine Ea.l2 h fun a l qz769 => ?_; try clear h; subst qz769
    rfl
  · refine Ea.x2_6 h fun a l qz770 hS hpos hlen qz771 k => ?_; try clear h; subst qz770; obtain ⟨cs, hcs, hcl⟩ := qz771
    have hans : PyKs176.answers l = PyFlat.told (PyFlat.played Ks176Neutral.step ⟨0, []⟩ cs) := by
      unfold PyKs176.answers
      rw [hcs]; rfl
    rw [calls_eq] at hcs
    refine ⟨_, (pss_cons (ps_set (i := 1) sc_answers.nd rfl (Or.inl rfl) (pe_mk0 M_Session (hr.mono (by decide)) rfl T.g_Session))
        (pss_cons (ps_set (i := 2) sc_answers.nd rfl (Or.inl rfl) (pe_lst pa_nil))
        (pss_cons (ps_set (i := 3) sc_answers.nd rfl (Or.inl rfl) pe_int)
        (pss_cons (ps_while PassesOwn.never (pt_cmpR op_lt (pv 3) (pe_callB call_len_seq (by rfl) T.len PySem.boot_len (pa_cons (pv 0) pa_nil)) (nomark _))
        (pss_cons (ps_set (i := 4) sc_answers.nd rfl (Or.inl rfl) (pe_op op_add (pv 3) (pe_ix ix_tup (pe_glob (v := .ref aL) rfl T.g_LENGTHS rfl) (pe_ix ix_list (pv 0) (pv 3) (fun _ _ => rfl)) (fun _ _ => rfl))))
        (pss_cons (ps_expr (pe_bm PySem.F.plainAttrs_list PySem.F.slot_list_append PySem.F.type_list_append mt_append (pv 2) (pa_cons pe_int pa_nil)))
        (pss_cons (ps_expr (pe_bm PySem.F.plainAttrs_list PySem.F.slot_list_append PySem.F.type_list_append mt_append (pv 2) (pa_cons (pe_mt M_Session_answer T.clSession (hr.mono (by decide)) (pv 1) (pa_cons (pe_slice sl_list (pv 0) (po_some (pv 3)) (po_some (pv 4))) pa_nil)) pa_nil)))
        (pss_one (ps_set (i := 3) sc_answers.nd rfl (Or.inl rfl) (pv 4)))))))
        (pss_one (ps_ret (pv 2))))))), ?_⟩
    refine s_seq (a_set (a_make fun b dx hb hdx hne => ⟨b, dx, rfl, upd_same, fun H1 r => ⟨rfl, ?_⟩⟩))
    obtain ⟨Hm, hHm⟩ : ∃ Hm, Hm = upd (upd H dx (.own b)) b (.ins C2 dx []) := ⟨_, rfl⟩
    rw [← hHm] at r
    have extm : ∀ y o, H y = some o → Hm y = some o := fun y o h => by rw [hHm, upd_ne (ne_of_none h hb), upd_ne (ne_of_none h hdx)]; exact h
    obtain ⟨fr1, ss1⟩ := r
    with_reducible refine s_nx ?_
    refine s_seq (a_set ⟨Nat.zero_le _, fun lg hlg => ?_⟩)
    with_reducible refine s_nx ?_
    refine s_seq (s_set ev_c ?_)
    obtain ⟨D0, hD0⟩ : ∃ D0 : Addr → Prop, D0 = fun y => grow (fun x => x = b) Hm y ∧ y ≠ lg := ⟨_, rfl⟩
    have ss2 : Ss C C2 b D0 (upd H1 lg (.lst [])) ⟨0, []⟩ 0 := by
      rw [hD0]
      exact (ss1.shrink hlg).upd (fun q => q.2 rfl) _
    have a0 : ∀ o, H a = some o → (upd H1 lg (.lst [])) a = some o ∧ ¬ D0 a := fun o h => by
      have h1 := fr1 a o (extm _ _ h) (ne_of_none h hb)
      refine ⟨by rw [upd_ne (ne_of_none h1 hlg)]; exact h1, fun q => ?_⟩
      rw [hD0] at q
      rcases q.1 with z | z
      · exact ne_of_none h hb z
      · rw [extm _ _ h] at z; cases z
    with_reducible refine s_nx ?_
    refine s_seq ?_
    refine s_while (fun n σ H' => ∃ (at' k' bud f' : Nat) (s : Ks176.Abs) (gv : List Int) (cs' : List (List (List Int))) (D : Addr → Prop) (v4 : Option V), n = l.length - at' ∧ at' ≤ l.length ∧ σ = [some (.ref a), some (.ref b), some (.ref lg), some (.int (at' : Nat)), v4] ∧
        PyFlat.calls PyKs176.shape f' (l.drop at') = some cs' ∧ k' + cs'.length ≤ 5000 ∧ bud ≤ 2 * k' ∧ PyKs176.answers l = gv ++ PyFlat.told (PyFlat.played Ks176Neutral.step s cs') ∧ gv.length ≤ 2 * k' ∧ H' lg = some (.lst (intz gv)) ∧ ¬ D lg ∧ Ss C C2 b D H' s bud ∧ ∀ o, H a = some o → H' a = some o ∧ ¬ D a)
      (Ea.i9 0 0 0 l.length (⟨0, []⟩) ([]) cs D0 _ ⟨rfl, Nat.zero_le _, rfl, hcs, by lia, Nat.le_refl _, hans, Nat.le_refl _, upd_same, (by rw [hD0]; exact fun q => q.2 rfl), ss2, a0⟩) ?_
    intro Uw hU n σ H' qz773
    refine Ea.e9 qz773 fun at' k' bud f' s gv cs' D v4 qz775 => Ea.a12 qz775 fun hn hat qz774 hcs' hk' hbud hans' hgv hlg' nlg ss ka => ?_; try clear qz773; subst qz774
    have hSq : SqL K H' a (intz l) := SqL.kept hS fun o h => (ka o h).1
    refine ⟨_, et_test (ev_op0 (ev_var rfl) (ev_lenS (ev_var rfl) hSq)), fun hb' => ?_, fun hb' => ?_⟩
    · have hb' : (at' : Int) < (intz l).length := of_decide_eq_true hb'
      rw [ints_len] at hb'
      have hlt : at' < l.length := by lia
      obtain ⟨p, hp⟩ : ∃ p, l[at']? = some p := ⟨_, List.getElem?_eq_getElem hlt⟩
      obtain ⟨r, hr'⟩ : ∃ r, r = l.drop (at' + 1) := ⟨_, rfl⟩
      have hd : l.drop at' = p :: r := by rw [hr']; exact drop_at hp
      rw [hd] at hcs'
      obtain ⟨f2, rfl⟩ : ∃ f2, f' = f2 + 1 := by
        cases f' with
        | zero => unfold PyFlat.calls at hcs'; cases hcs'
        | succ f2 => exact ⟨f2, rfl⟩
      obtain ⟨hp7, hnum, cs2, rfl, hcs2⟩ := calls_step hcs'
      have hrl : r.length = l.length - (at' + 1) := by rw [hr', List.length_drop]
      obtain ⟨pn, hpn⟩ : ∃ pn : Nat, p = (pn : Int) := ⟨p.toNat, by lia⟩
      subst hpn
      have pn7 : pn ≤ 7 := by lia
      obtain ⟨ns, hns⟩ : ∃ ns : List Nat, r.take (nums (pn : Int)) = ns.map fun n : Nat => (n : Int) := ⟨(r.take (nums (pn : Int))).map Int.toNat, (toNats _ fun x hx => hpos x (by
        have h1 := List.mem_of_mem_take hx
        rw [hr'] at h1
        exact List.mem_of_mem_drop h1)).symm⟩
      have nslen : ns.length = nums (pn : Int) := by
        have := congrArg List.length hns
        rw [List.length_take, List.length_map] at this
        lia
      have hget : (intz l)[at']? = some (.int (pn : Int)) := by rw [List.getElem?_map, hp]; rfl
      refine s_seq (s_set (ev_op0 (ev_var rfl) (ev_ixT ev_c (ev_ixS (ev_var rfl) (ev_var rfl) hSq rfl hget) (T.tL H') rfl (lenAt pn pn7))) ?_)
      have eb : (at' : Int) + ((nums (pn : Int) + 1 : Nat) : Int) = ((at' + nums (pn : Int) + 1 : Nat) : Int) := by push_cast; lia
      rw [eb]
      with_reducible refine s_nx ?_
      refine s_seq (s_app (ev_var rfl) ev_c hlg' (by rw [ints_len]; exact line_lt (by lia)) ?_)
      rw [ints_snoc]
      obtain ⟨H2, hH2⟩ : ∃ H2, H2 = upd H' lg (.lst (intz (gv ++ [1]))) := ⟨_, rfl⟩
      rw [← hH2]
      have lg2 : H2 lg = some (.lst (intz (gv ++ [1]))) := by rw [hH2]; exact upd_same
      have ss3 : Ss C C2 b D H2 s bud := by rw [hH2]; exact ss.upd nlg _
      have ka2 : ∀ o, H a = some o → H2 a = some o := fun o h => by
        obtain ⟨h1, h2⟩ := ka o h
        by_cases z : a = lg
        · rw [hH2, z]
          rw [z, hlg'] at h1
          cases h1
          exfalso
          have q := hS
          rw [z] at h
          have h3 := fr1 lg _ (extm _ _ h) (ne_of_none h hb)
          rw [h3] at hlg
          cases hlg
        · rw [hH2, upd_ne z]; exact h1
      have hSq2 : SqL K H2 a (intz l) := SqL.kept hS ka2
      have cutE : cutV (intz l) (some (at' : Int)) (some ((at' + nums (pn : Int) + 1 : Nat) : Int)) = intz ((pn : Int) :: ns.map fun n : Nat => (n : Int)) := by
        unfold cutV
        rw [HT.sIx_nat, HT.sIx_nat, ints_len, Nat.min_eq_left hat, Nat.min_eq_left (by lia), ← List.map_drop, ← List.map_take, hd]
        rw [show at' + nums (pn : Int) + 1 - at' = nums (pn : Int) + 1 by lia, List.take_succ_cons, hns]
      have ssObj := ss3
      refine Ea.l6 ssObj fun B co S l' m iw e3 => ?_; try clear ssObj
      with_reducible refine s_nx ?_
      refine s_seq (a_drop (a_bm (var_go rfl ⟨.inl ⟨rfl, _, SqL.of lg2⟩, a_cons (a_meth (var_go rfl (Ea.i3 b _ _ ⟨rfl, e3.obj, e3.fo _ (by decide +kernel), a_cons (a_sl (var_go rfl (a_part (var_go rfl ⟨_, rfl, a_part (var_go rfl ⟨_, rfl, a, _, rfl, hSq2, fun pc hpc => ?_⟩)⟩))))⟩)))⟩)))
      rw [cutE]
      have sm : Same H2 (upd H2 pc (.lst (intz ((pn : Int) :: ns.map fun n : Nat => (n : Int))))) := fun y o h => by rw [upd_ne (ne_of_none h hpc)]; exact h
      refine (Ea.i7 b D s bud pc pn ns ⟨rfl, upd_same, ss3.same sm, by lia, pn7, nslen, fun H4 r4 => ?_⟩)
      obtain ⟨fr4, ss4⟩ := r4
      have lg4 := fr4 lg _ (sm _ _ lg2) nlg
      refine (Ea.i3 lg _ _ ⟨rfl, rfl, lg4, by rw [ints_len, List.length_append, List.length_singleton]; exact line_lt (by lia), ?_⟩)
      rw [ints_snoc]
      with_reducible refine s_nx ?_
      refine s_set (ev_var rfl) ?_
      have nlg4 : ¬ grow D (upd H2 pc (.lst (intz ((pn : Int) :: ns.map fun n : Nat => (n : Int))))) lg := fun q => by
        rcases q with q | q
        · exact nlg q
        · rw [sm _ _ lg2] at q; cases q
      rw [hns] at hans'
      refine ⟨_, ?_, hU (Ea.i9 (at' + nums (pn : Int) + 1) (k' + 1) (bud + 2) f2 _ _ cs2 _ _ ⟨rfl, by lia, rfl, ?_, ?_, by lia, ?_, ?_, upd_same, nlg4, ss4.upd nlg4 _, fun o h => ?_⟩)⟩
      · rw [hn]; lia
      · have e1 : l.drop (at' + nums (pn : Int) + 1) = r.drop (nums (pn : Int)) := by
          rw [hr', List.drop_drop]; congr 1; lia
        rw [e1]; exact hcs2
      · rw [List.length_cons] at hk'; lia
      · rw [hans', told_step]; simp
      · rw [List.length_append, List.length_append, List.length_singleton, List.length_singleton]; lia
      · have h2 := ka2 o h
        have h4 := fr4 a o (sm _ _ h2) (ka o h).2
        have na : a ≠ lg := fun z => by
          rw [z] at h
          have h3 := fr1 lg _ (extm _ _ h) (ne_of_none h hb)
          rw [h3] at hlg
          cases hlg
        refine ⟨by rw [upd_ne na]; exact h4, fun q => ?_⟩
        rcases q with q | q
        · exact (ka o h).2 q
        · rw [sm _ _ h2] at q; cases q
    · have hb' : ¬ (at' : Int) < (intz l).length := of_decide_eq_false hb'
      rw [ints_len] at hb'
      have hl0 : l.drop at' = [] := List.drop_eq_nil_of_le (by lia)
      rw [hl0] at hcs'
      have hc0 := calls_nil hcs'
      subst hc0
      with_reducible refine s_nx ?_
      refine s_ret (ev_var rfl) (k H' lg ?_)
      rw [hlg', hans']
      show some (HO.lst (intz gv)) = some (HO.lst (intz (gv ++ [])))
      rw [List.append_nil]
end
end Mg
end
set_option maxRecDepth 100000
set_option maxHeartbeats 4000000
namespace Mg
open PySem PySem.Spec
open PyProof.Rows hiding St
open L2
open PySem.W (nsIn fnOf codeIn keepIn findIn isFn plainGet hasDictIn plainOver makesIn mg_of mg_none_of)
theorem len1 {us : List Value} (h : us.length = 1) : ∃ a, us = [a] := List.length_eq_one_iff.mp h
theorem len2 : ∀ {us : List Value}, us.length = 2 → ∃ a b, us = [a, b]
  | _ :: r, h => by
    obtain ⟨_, rfl⟩ := len1 (us := r) (Nat.succ.inj h)
    exact ⟨_, _, rfl⟩
theorem len3 : ∀ {us : List Value}, us.length = 3 → ∃ a b c, us = [a, b, c]
  | _ :: r, h => by
    obtain ⟨_, _, rfl⟩ := len2 (us := r) (Nat.succ.inj h)
    exact ⟨_, _, _, rfl⟩
theorem len4 : ∀ {us : List Value}, us.length = 4 → ∃ a b c d, us = [a, b, c, d]
  | _ :: r, h => by
    obtain ⟨_, _, _, rfl⟩ := len3 (us := r) (Nat.succ.inj h)
    exact ⟨_, _, _, _, rfl⟩
theorem len5 : ∀ {us : List Value}, us.length = 5 → ∃ a b c d e, us = [a, b, c, d, e]
  | _ :: r, h => by
    obtain ⟨_, _, _, _, rfl⟩ := len4 (us := r) (Nat.succ.inj h)
    exact ⟨_, _, _, _, _, rfl⟩
theorem len6 : ∀ {us : List Value}, us.length = 6 → ∃ a b c d e f, us = [a, b, c, d, e, f]
  | _ :: r, h => by
    obtain ⟨_, _, _, _, _, rfl⟩ := len5 (us := r) (Nat.succ.inj h)
    exact ⟨_, _, _, _, _, _, rfl⟩
theorem all_mk {P : Program} {w : World} {K : PySem.W.Frag} {h : Heap} {mg : Str → Option Value} {fa C C2 tL f1 f2 f3 f4 f5 f6 f7 f8 f9 f10 f11 f12 f13 f14 f15 f16 f17 f18 f19 f20 f21 f22 f23 f24 f25 f26 f27 f28 f29 f30 f31 f32 f33 f34 f35 f36 f37 f38 : Addr} (X : K.In h) (G : h.Ns mainGlobals mg) (hfa : mg "answers" = some (.ref fa))
    {od1 an1 od2 an2 od3 an3 od4 an4 od5 an5 od6 an6 od7 an7 od8 an8 od9 an9 od10 an10 od11 an11 od12 an12 od13 an13 od14 an14 od15 an15 od16 an16 od17 an17 od18 an18 od19 an19 od20 an20 od21 an21 od22 an22 od23 an23 od24 an24 od25 an25 od26 an26 od27 an27 od28 an28 od29 an29 od30 an30 od31 an31 od32 an32 od33 an33 od34 an34 od35 an35 od36 an36 od37 an37 od38 an38 odL : Option Addr} {sl1 sl2 sl3 sl4 sl5 sl6 sl7 sl8 sl9 sl10 sl11 sl12 sl13 sl14 sl15 sl16 sl17 sl18 sl19 sl20 sl21 sl22 sl23 sl24 sl25 sl26 sl27 sl28 sl29 sl30 sl31 sl32 sl33 sl34 sl35 sl36 sl37 sl38 slL : Array (Option Value)} {nL : Nat} {t_OUTSIDE t_GATHERED t_FIRST_TANK t_MOST_TANKS t_MOST_AMOUNT t_MOST_EVENTS t_WRONG t_FULL t_TOO_LITTLE t_CANNOT_BE t_START t_COME_IN t_POUR t_FOUND t_NARROW t_HAS t_MOST u0 u1 u2 u3 u4 u5 u6 u7 : Tok} {oc1 kV1 dc1 pm1 cd1 ct1 oc2 kV2 dc2 pm2 cd2 ct2 oc3 kV3 dc3 pm3 cd3 ct3 oc4 kV4 dc4 pm4 cd4 ct4 oc5 kV5 dc5 pm5 cd5 ct5 oc6 kV6 dc6 pm6 cd6 ct6 oc7 kV7 dc7 pm7 cd7 ct7 oc8 kV8 dc8 pm8 cd8 ct8 oc9 kV9 dc9 pm9 cd9 ct9 oc10 kV10 dc10 pm10 cd10 ct10 oc11 kV11 dc11 pm11 cd11 ct11 oc12 kV12 dc12 pm12 cd12 ct12 oc13 kV13 dc13 pm13 cd13 ct13 oc14 kV14 dc14 pm14 cd14 ct14 oc15 kV15 dc15 pm15 cd15 ct15 oc16 kV16 dc16 pm16 cd16 ct16 oc17 kV17 dc17 pm17 cd17 ct17 oc18 kV18 dc18 pm18 cd18 ct18 oc19 kV19 dc19 pm19 cd19 ct19 oc20 kV20 dc20 pm20 cd20 ct20 oc21 kV21 dc21 pm21 cd21 ct21 oc22 kV22 dc22 pm22 cd22 ct22 oc23 kV23 dc23 pm23 cd23 ct23 oc24 kV24 dc24 pm24 cd24 ct24 oc25 kV25 dc25 pm25 cd25 ct25 oc26 kV26 dc26 pm26 cd26 ct26 oc27 kV27 dc27 pm27 cd27 ct27 oc28 kV28 dc28 pm28 cd28 ct28 oc29 kV29 dc29 pm29 cd29 ct29 oc30 kV30 dc30 pm30 cd30 ct30 oc31 kV31 dc31 pm31 cd31 ct31 oc32 kV32 dc32 pm32 cd32 ct32 oc33 kV33 dc33 pm33 cd33 ct33 oc34 kV34 dc34 pm34 cd34 ct34 oc35 kV35 dc35 pm35 cd35 ct35 oc36 kV36 dc36 pm36 cd36 ct36 oc37 kV37 dc37 pm37 cd37 ct37 oc38 kV38 dc38 pm38 cd38 ct38 : Value}
    (aC : nsIn K mainGlobals "Courses" = some (some (.ref C)))
    (aS : nsIn K mainGlobals "Session" = some (some (.ref C2)))
    (a1 : findIn K (.ref C) "forget_limits" = some (some (.ref f1)))
    (i1 : isFn K (.ref f1) = true)
    (l1 : K.lookup f1 = some ⟨oc1, od1, .func (fnOf "forget_limits" "Courses.forget_limits" (defArgs s_Courses_forget_limits) (defBody s_Courses_forget_limits) (defScope s_Courses_forget_limits) .none kV1 dc1 pm1 an1 cd1 ct1), sl1⟩)
    (c1 : codeIn K cd1 "Courses.forget_limits" = true)
    (k1 : keepIn K (.ref f1) = true)
    (a2 : findIn K (.ref C) "add_way" = some (some (.ref f2)))
    (i2 : isFn K (.ref f2) = true)
    (l2 : K.lookup f2 = some ⟨oc2, od2, .func (fnOf "add_way" "Courses.add_way" (defArgs s_Courses_add_way) (defBody s_Courses_add_way) (defScope s_Courses_add_way) .none kV2 dc2 pm2 an2 cd2 ct2), sl2⟩)
    (c2 : codeIn K cd2 "Courses.add_way" = true)
    (k2 : keepIn K (.ref f2) = true)
    (a3 : findIn K (.ref C) "place_of" = some (some (.ref f3)))
    (i3 : isFn K (.ref f3) = true)
    (l3 : K.lookup f3 = some ⟨oc3, od3, .func (fnOf "place_of" "Courses.place_of" (defArgs s_Courses_place_of) (defBody s_Courses_place_of) (defScope s_Courses_place_of) .none kV3 dc3 pm3 an3 cd3 ct3), sl3⟩)
    (c3 : codeIn K cd3 "Courses.place_of" = true)
    (k3 : keepIn K (.ref f3) = true)
    (a4 : findIn K (.ref C) "marked" = some (some (.ref f4)))
    (i4 : isFn K (.ref f4) = true)
    (l4 : K.lookup f4 = some ⟨oc4, od4, .func (fnOf "marked" "Courses.marked" (defArgs s_Courses_marked) (defBody s_Courses_marked) (defScope s_Courses_marked) .none kV4 dc4 pm4 an4 cd4 ct4), sl4⟩)
    (c4 : codeIn K cd4 "Courses.marked" = true)
    (k4 : keepIn K (.ref f4) = true)
    (a5 : findIn K (.ref C) "amount" = some (some (.ref f5)))
    (i5 : isFn K (.ref f5) = true)
    (l5 : K.lookup f5 = some ⟨oc5, od5, .func (fnOf "amount" "Courses.amount" (defArgs s_Courses_amount) (defBody s_Courses_amount) (defScope s_Courses_amount) .none kV5 dc5 pm5 an5 cd5 ct5), sl5⟩)
    (c5 : codeIn K cd5 "Courses.amount" = true)
    (k5 : keepIn K (.ref f5) = true)
    (a6 : findIn K (.ref C) "set_outlet" = some (some (.ref f6)))
    (i6 : isFn K (.ref f6) = true)
    (l6 : K.lookup f6 = some ⟨oc6, od6, .func (fnOf "set_outlet" "Courses.set_outlet" (defArgs s_Courses_set_outlet) (defBody s_Courses_set_outlet) (defScope s_Courses_set_outlet) .none kV6 dc6 pm6 an6 cd6 ct6), sl6⟩)
    (c6 : codeIn K cd6 "Courses.set_outlet" = true)
    (k6 : keepIn K (.ref f6) = true)
    (a7 : findIn K (.ref C) "set_bounds" = some (some (.ref f7)))
    (i7 : isFn K (.ref f7) = true)
    (l7 : K.lookup f7 = some ⟨oc7, od7, .func (fnOf "set_bounds" "Courses.set_bounds" (defArgs s_Courses_set_bounds) (defBody s_Courses_set_bounds) (defScope s_Courses_set_bounds) .none kV7 dc7 pm7 an7 cd7 ct7), sl7⟩)
    (c7 : codeIn K cd7 "Courses.set_bounds" = true)
    (k7 : keepIn K (.ref f7) = true)
    (a8 : findIn K (.ref C) "come_in" = some (some (.ref f8)))
    (i8 : isFn K (.ref f8) = true)
    (l8 : K.lookup f8 = some ⟨oc8, od8, .func (fnOf "come_in" "Courses.come_in" (defArgs s_Courses_come_in) (defBody s_Courses_come_in) (defScope s_Courses_come_in) .none kV8 dc8 pm8 an8 cd8 ct8), sl8⟩)
    (c8 : codeIn K cd8 "Courses.come_in" = true)
    (k8 : keepIn K (.ref f8) = true)
    (a9 : findIn K (.ref C) "go_on" = some (some (.ref f9)))
    (i9 : isFn K (.ref f9) = true)
    (l9 : K.lookup f9 = some ⟨oc9, od9, .func (fnOf "go_on" "Courses.go_on" (defArgs s_Courses_go_on) (defBody s_Courses_go_on) (defScope s_Courses_go_on) .none kV9 dc9 pm9 an9 cd9 ct9), sl9⟩)
    (c9 : codeIn K cd9 "Courses.go_on" = true)
    (k9 : keepIn K (.ref f9) = true)
    (a10 : findIn K (.ref C) "pour" = some (some (.ref f10)))
    (i10 : isFn K (.ref f10) = true)
    (l10 : K.lookup f10 = some ⟨oc10, od10, .func (fnOf "pour" "Courses.pour" (defArgs s_Courses_pour) (defBody s_Courses_pour) (defScope s_Courses_pour) .none kV10 dc10 pm10 an10 cd10 ct10), sl10⟩)
    (c10 : codeIn K cd10 "Courses.pour" = true)
    (k10 : keepIn K (.ref f10) = true)
    (a11 : findIn K (.ref C) "members" = some (some (.ref f11)))
    (i11 : isFn K (.ref f11) = true)
    (l11 : K.lookup f11 = some ⟨oc11, od11, .func (fnOf "members" "Courses.members" (defArgs s_Courses_members) (defBody s_Courses_members) (defScope s_Courses_members) .none kV11 dc11 pm11 an11 cd11 ct11), sl11⟩)
    (c11 : codeIn K cd11 "Courses.members" = true)
    (k11 : keepIn K (.ref f11) = true)
    (a12 : findIn K (.ref C) "part_outlets" = some (some (.ref f12)))
    (i12 : isFn K (.ref f12) = true)
    (l12 : K.lookup f12 = some ⟨oc12, od12, .func (fnOf "part_outlets" "Courses.part_outlets" (defArgs s_Courses_part_outlets) (defBody s_Courses_part_outlets) (defScope s_Courses_part_outlets) .none kV12 dc12 pm12 an12 cd12 ct12), sl12⟩)
    (c12 : codeIn K cd12 "Courses.part_outlets" = true)
    (k12 : keepIn K (.ref f12) = true)
    (a13 : findIn K (.ref C) "nearer_way" = some (some (.ref f13)))
    (i13 : isFn K (.ref f13) = true)
    (l13 : K.lookup f13 = some ⟨oc13, od13, .func (fnOf "nearer_way" "Courses.nearer_way" (defArgs s_Courses_nearer_way) (defBody s_Courses_nearer_way) (defScope s_Courses_nearer_way) .none kV13 dc13 pm13 an13 cd13 ct13), sl13⟩)
    (c13 : codeIn K cd13 "Courses.nearer_way" = true)
    (k13 : keepIn K (.ref f13) = true)
    (a14 : findIn K (.ref C) "push_path" = some (some (.ref f14)))
    (i14 : isFn K (.ref f14) = true)
    (l14 : K.lookup f14 = some ⟨oc14, od14, .func (fnOf "push_path" "Courses.push_path" (defArgs s_Courses_push_path) (defBody s_Courses_push_path) (defScope s_Courses_push_path) .none kV14 dc14 pm14 an14 cd14 ct14), sl14⟩)
    (c14 : codeIn K cd14 "Courses.push_path" = true)
    (k14 : keepIn K (.ref f14) = true)
    (a15 : findIn K (.ref C) "distances" = some (some (.ref f15)))
    (i15 : isFn K (.ref f15) = true)
    (l15 : K.lookup f15 = some ⟨oc15, od15, .func (fnOf "distances" "Courses.distances" (defArgs s_Courses_distances) (defBody s_Courses_distances) (defScope s_Courses_distances) .none kV15 dc15 pm15 an15 cd15 ct15), sl15⟩)
    (c15 : codeIn K cd15 "Courses.distances" = true)
    (k15 : keepIn K (.ref f15) = true)
    (a16 : findIn K (.ref C) "push_shortest" = some (some (.ref f16)))
    (i16 : isFn K (.ref f16) = true)
    (l16 : K.lookup f16 = some ⟨oc16, od16, .func (fnOf "push_shortest" "Courses.push_shortest" (defArgs s_Courses_push_shortest) (defBody s_Courses_push_shortest) (defScope s_Courses_push_shortest) .none kV16 dc16 pm16 an16 cd16 ct16), sl16⟩)
    (c16 : codeIn K cd16 "Courses.push_shortest" = true)
    (k16 : keepIn K (.ref f16) = true)
    (a17 : findIn K (.ref C) "push" = some (some (.ref f17)))
    (i17 : isFn K (.ref f17) = true)
    (l17 : K.lookup f17 = some ⟨oc17, od17, .func (fnOf "push" "Courses.push" (defArgs s_Courses_push) (defBody s_Courses_push) (defScope s_Courses_push) .none kV17 dc17 pm17 an17 cd17 ct17), sl17⟩)
    (c17 : codeIn K cd17 "Courses.push" = true)
    (k17 : keepIn K (.ref f17) = true)
    (a18 : findIn K (.ref C) "bring" = some (some (.ref f18)))
    (i18 : isFn K (.ref f18) = true)
    (l18 : K.lookup f18 = some ⟨oc18, od18, .func (fnOf "bring" "Courses.bring" (defArgs s_Courses_bring) (defBody s_Courses_bring) (defScope s_Courses_bring) .none kV18 dc18 pm18 an18 cd18 ct18), sl18⟩)
    (c18 : codeIn K cd18 "Courses.bring" = true)
    (k18 : keepIn K (.ref f18) = true)
    (a19 : findIn K (.ref C) "most" = some (some (.ref f19)))
    (i19 : isFn K (.ref f19) = true)
    (l19 : K.lookup f19 = some ⟨oc19, od19, .func (fnOf "most" "Courses.most" (defArgs s_Courses_most) (defBody s_Courses_most) (defScope s_Courses_most) .none kV19 dc19 pm19 an19 cd19 ct19), sl19⟩)
    (c19 : codeIn K cd19 "Courses.most" = true)
    (k19 : keepIn K (.ref f19) = true)
    (a20 : findIn K (.ref C) "least" = some (some (.ref f20)))
    (i20 : isFn K (.ref f20) = true)
    (l20 : K.lookup f20 = some ⟨oc20, od20, .func (fnOf "least" "Courses.least" (defArgs s_Courses_least) (defBody s_Courses_least) (defScope s_Courses_least) .none kV20 dc20 pm20 an20 cd20 ct20), sl20⟩)
    (c20 : codeIn K cd20 "Courses.least" = true)
    (k20 : keepIn K (.ref f20) = true)
    (a21 : findIn K (.ref C) "push_along" = some (some (.ref f21)))
    (i21 : isFn K (.ref f21) = true)
    (l21 : K.lookup f21 = some ⟨oc21, od21, .func (fnOf "push_along" "Courses.push_along" (defArgs s_Courses_push_along) (defBody s_Courses_push_along) (defScope s_Courses_push_along) .none kV21 dc21 pm21 an21 cd21 ct21), sl21⟩)
    (c21 : codeIn K cd21 "Courses.push_along" = true)
    (k21 : keepIn K (.ref f21) = true)
    (a22 : findIn K (.ref C) "bring_coming" = some (some (.ref f22)))
    (i22 : isFn K (.ref f22) = true)
    (l22 : K.lookup f22 = some ⟨oc22, od22, .func (fnOf "bring_coming" "Courses.bring_coming" (defArgs s_Courses_bring_coming) (defBody s_Courses_bring_coming) (defScope s_Courses_bring_coming) .none kV22 dc22 pm22 an22 cd22 ct22), sl22⟩)
    (c22 : codeIn K cd22 "Courses.bring_coming" = true)
    (k22 : keepIn K (.ref f22) = true)
    (a23 : findIn K (.ref C) "narrow" = some (some (.ref f23)))
    (i23 : isFn K (.ref f23) = true)
    (l23 : K.lookup f23 = some ⟨oc23, od23, .func (fnOf "narrow" "Courses.narrow" (defArgs s_Courses_narrow) (defBody s_Courses_narrow) (defScope s_Courses_narrow) .none kV23 dc23 pm23 an23 cd23 ct23), sl23⟩)
    (c23 : codeIn K cd23 "Courses.narrow" = true)
    (k23 : keepIn K (.ref f23) = true)
    (a24 : findIn K (.ref C) "found" = some (some (.ref f24)))
    (i24 : isFn K (.ref f24) = true)
    (l24 : K.lookup f24 = some ⟨oc24, od24, .func (fnOf "found" "Courses.found" (defArgs s_Courses_found) (defBody s_Courses_found) (defScope s_Courses_found) .none kV24 dc24 pm24 an24 cd24 ct24), sl24⟩)
    (c24 : codeIn K cd24 "Courses.found" = true)
    (k24 : keepIn K (.ref f24) = true)
    (a25 : findIn K (.ref C) "__init__" = some (some (.ref f25)))
    (i25 : isFn K (.ref f25) = true)
    (l25 : K.lookup f25 = some ⟨oc25, od25, .func (fnOf "__init__" "Courses.__init__" (defArgs s_Courses___init__) (defBody s_Courses___init__) (defScope s_Courses___init__) .none kV25 dc25 pm25 an25 cd25 ct25), sl25⟩)
    (c25 : codeIn K cd25 "Courses.__init__" = true)
    (k25 : keepIn K (.ref f25) = true)
    (a26 : findIn K (.ref C2) "count_event" = some (some (.ref f26)))
    (i26 : isFn K (.ref f26) = true)
    (l26 : K.lookup f26 = some ⟨oc26, od26, .func (fnOf "count_event" "Session.count_event" (defArgs s_Session_count_event) (defBody s_Session_count_event) (defScope s_Session_count_event) .none kV26 dc26 pm26 an26 cd26 ct26), sl26⟩)
    (c26 : codeIn K cd26 "Session.count_event" = true)
    (k26 : keepIn K (.ref f26) = true)
    (a27 : findIn K (.ref C2) "all_there" = some (some (.ref f27)))
    (i27 : isFn K (.ref f27) = true)
    (l27 : K.lookup f27 = some ⟨oc27, od27, .func (fnOf "all_there" "Session.all_there" (defArgs s_Session_all_there) (defBody s_Session_all_there) (defScope s_Session_all_there) .none kV27 dc27 pm27 an27 cd27 ct27), sl27⟩)
    (c27 : codeIn K cd27 "Session.all_there" = true)
    (k27 : keepIn K (.ref f27) = true)
    (a28 : findIn K (.ref C2) "has" = some (some (.ref f28)))
    (i28 : isFn K (.ref f28) = true)
    (l28 : K.lookup f28 = some ⟨oc28, od28, .func (fnOf "has" "Session.has" (defArgs s_Session_has) (defBody s_Session_has) (defScope s_Session_has) .none kV28 dc28 pm28 an28 cd28 ct28), sl28⟩)
    (c28 : codeIn K cd28 "Session.has" = true)
    (k28 : keepIn K (.ref f28) = true)
    (a29 : findIn K (.ref C2) "most" = some (some (.ref f29)))
    (i29 : isFn K (.ref f29) = true)
    (l29 : K.lookup f29 = some ⟨oc29, od29, .func (fnOf "most" "Session.most" (defArgs s_Session_most) (defBody s_Session_most) (defScope s_Session_most) .none kV29 dc29 pm29 an29 cd29 ct29), sl29⟩)
    (c29 : codeIn K cd29 "Session.most" = true)
    (k29 : keepIn K (.ref f29) = true)
    (a30 : findIn K (.ref C2) "least" = some (some (.ref f30)))
    (i30 : isFn K (.ref f30) = true)
    (l30 : K.lookup f30 = some ⟨oc30, od30, .func (fnOf "least" "Session.least" (defArgs s_Session_least) (defBody s_Session_least) (defScope s_Session_least) .none kV30 dc30 pm30 an30 cd30 ct30), sl30⟩)
    (c30 : codeIn K cd30 "Session.least" = true)
    (k30 : keepIn K (.ref f30) = true)
    (a31 : findIn K (.ref C2) "come_in" = some (some (.ref f31)))
    (i31 : isFn K (.ref f31) = true)
    (l31 : K.lookup f31 = some ⟨oc31, od31, .func (fnOf "come_in" "Session.come_in" (defArgs s_Session_come_in) (defBody s_Session_come_in) (defScope s_Session_come_in) .none kV31 dc31 pm31 an31 cd31 ct31), sl31⟩)
    (c31 : codeIn K cd31 "Session.come_in" = true)
    (k31 : keepIn K (.ref f31) = true)
    (a32 : findIn K (.ref C2) "pour" = some (some (.ref f32)))
    (i32 : isFn K (.ref f32) = true)
    (l32 : K.lookup f32 = some ⟨oc32, od32, .func (fnOf "pour" "Session.pour" (defArgs s_Session_pour) (defBody s_Session_pour) (defScope s_Session_pour) .none kV32 dc32 pm32 an32 cd32 ct32), sl32⟩)
    (c32 : codeIn K cd32 "Session.pour" = true)
    (k32 : keepIn K (.ref f32) = true)
    (a33 : findIn K (.ref C2) "found" = some (some (.ref f33)))
    (i33 : isFn K (.ref f33) = true)
    (l33 : K.lookup f33 = some ⟨oc33, od33, .func (fnOf "found" "Session.found" (defArgs s_Session_found) (defBody s_Session_found) (defScope s_Session_found) .none kV33 dc33 pm33 an33 cd33 ct33), sl33⟩)
    (c33 : codeIn K cd33 "Session.found" = true)
    (k33 : keepIn K (.ref f33) = true)
    (a34 : findIn K (.ref C2) "narrow" = some (some (.ref f34)))
    (i34 : isFn K (.ref f34) = true)
    (l34 : K.lookup f34 = some ⟨oc34, od34, .func (fnOf "narrow" "Session.narrow" (defArgs s_Session_narrow) (defBody s_Session_narrow) (defScope s_Session_narrow) .none kV34 dc34 pm34 an34 cd34 ct34), sl34⟩)
    (c34 : codeIn K cd34 "Session.narrow" = true)
    (k34 : keepIn K (.ref f34) = true)
    (a35 : findIn K (.ref C2) "__init__" = some (some (.ref f35)))
    (i35 : isFn K (.ref f35) = true)
    (l35 : K.lookup f35 = some ⟨oc35, od35, .func (fnOf "__init__" "Session.__init__" (defArgs s_Session___init__) (defBody s_Session___init__) (defScope s_Session___init__) .none kV35 dc35 pm35 an35 cd35 ct35), sl35⟩)
    (c35 : codeIn K cd35 "Session.__init__" = true)
    (k35 : keepIn K (.ref f35) = true)
    (a36 : findIn K (.ref C2) "start" = some (some (.ref f36)))
    (i36 : isFn K (.ref f36) = true)
    (l36 : K.lookup f36 = some ⟨oc36, od36, .func (fnOf "start" "Session.start" (defArgs s_Session_start) (defBody s_Session_start) (defScope s_Session_start) .none kV36 dc36 pm36 an36 cd36 ct36), sl36⟩)
    (c36 : codeIn K cd36 "Session.start" = true)
    (k36 : keepIn K (.ref f36) = true)
    (a37 : findIn K (.ref C2) "answer" = some (some (.ref f37)))
    (i37 : isFn K (.ref f37) = true)
    (l37 : K.lookup f37 = some ⟨oc37, od37, .func (fnOf "answer" "Session.answer" (defArgs s_Session_answer) (defBody s_Session_answer) (defScope s_Session_answer) .none kV37 dc37 pm37 an37 cd37 ct37), sl37⟩)
    (c37 : codeIn K cd37 "Session.answer" = true)
    (k37 : keepIn K (.ref f37) = true)
    (a38 : nsIn K mainGlobals "answers" = some (some (.ref f38)))
    (l38 : K.lookup f38 = some ⟨oc38, od38, .func (fnOf "answers" "answers" (defArgs s_answers) (defBody s_answers) (defScope s_answers) .none kV38 dc38 pm38 an38 cd38 ct38), sl38⟩)
    (c38 : codeIn K cd38 "answers" = true)
    (k38 : keepIn K (.ref f38) = true)
    (pgC : plainGet K C Str.empty = true)
    (hdC : hasDictIn K C = true)
    (poC : plainOver K C = true)
    (saC : findIn K (.ref C) "__setattr__" = some (some (.builtin "object.__setattr__")))
    (mkC : makesIn K C = true)
    (kcC : keepIn K (.ref C) = true)
    (pgS : plainGet K C2 Str.empty = true)
    (hdS : hasDictIn K C2 = true)
    (poS : plainOver K C2 = true)
    (saS : findIn K (.ref C2) "__setattr__" = some (some (.builtin "object.__setattr__")))
    (mkS : makesIn K C2 = true)
    (kcS : keepIn K (.ref C2) = true)
    (nC_goals : findIn K (.ref C) "goals" = some none)
    (nC_rooms : findIn K (.ref C) "rooms" = some none)
    (nC_ways : findIn K (.ref C) "ways" = some none)
    (nC_outlets : findIn K (.ref C) "outlets" = some none)
    (nC_leasts : findIn K (.ref C) "leasts" = some none)
    (nC_highest : findIn K (.ref C) "highest" = some none)
    (nC_lowest : findIn K (.ref C) "lowest" = some none)
    (nS_tanks : findIn K (.ref C2) "tanks" = some none)
    (nS_events : findIn K (.ref C2) "events" = some none)
    (nS_comings : findIn K (.ref C2) "comings" = some none)
    (nS_courses : findIn K (.ref C2) "courses" = some none)
    (g_OUTSIDE : nsIn K mainGlobals "OUTSIDE" = some (some (.int (0) t_OUTSIDE)))
    (g_GATHERED : nsIn K mainGlobals "GATHERED" = some (some (.int (1) t_GATHERED)))
    (g_FIRST_TANK : nsIn K mainGlobals "FIRST_TANK" = some (some (.int (2) t_FIRST_TANK)))
    (g_MOST_TANKS : nsIn K mainGlobals "MOST_TANKS" = some (some (.int (32) t_MOST_TANKS)))
    (g_MOST_AMOUNT : nsIn K mainGlobals "MOST_AMOUNT" = some (some (.int (1048576) t_MOST_AMOUNT)))
    (g_MOST_EVENTS : nsIn K mainGlobals "MOST_EVENTS" = some (some (.int (256) t_MOST_EVENTS)))
    (g_WRONG : nsIn K mainGlobals "WRONG" = some (some (.int (-22) t_WRONG)))
    (g_FULL : nsIn K mainGlobals "FULL" = some (some (.int (-28) t_FULL)))
    (g_TOO_LITTLE : nsIn K mainGlobals "TOO_LITTLE" = some (some (.int (-33) t_TOO_LITTLE)))
    (g_CANNOT_BE : nsIn K mainGlobals "CANNOT_BE" = some (some (.int (-74) t_CANNOT_BE)))
    (g_START : nsIn K mainGlobals "START" = some (some (.int (0) t_START)))
    (g_COME_IN : nsIn K mainGlobals "COME_IN" = some (some (.int (1) t_COME_IN)))
    (g_POUR : nsIn K mainGlobals "POUR" = some (some (.int (2) t_POUR)))
    (g_FOUND : nsIn K mainGlobals "FOUND" = some (some (.int (3) t_FOUND)))
    (g_NARROW : nsIn K mainGlobals "NARROW" = some (some (.int (4) t_NARROW)))
    (g_HAS : nsIn K mainGlobals "HAS" = some (some (.int (5) t_HAS)))
    (g_MOST : nsIn K mainGlobals "MOST" = some (some (.int (6) t_MOST)))
    (z_len : nsIn K mainGlobals "len" = some none)
    (z_range : nsIn K mainGlobals "range" = some none)
    (z_min : nsIn K mainGlobals "min" = some none)
    (z_max : nsIn K mainGlobals "max" = some none)
    (z_sum : nsIn K mainGlobals "sum" = some none)
    (z_enumerate : nsIn K mainGlobals "enumerate" = some none)
    (z_list : nsIn K mainGlobals "list" = some none)
    (aL : nsIn K mainGlobals "LENGTHS" = some (some (.ref tL)))
    (lL : K.lookup tL = some ⟨.type "tuple", odL, .seq #[.int 2 u0, .int 5 u1, .int 4 u2, .int 4 u3, .int 4 u4, .int 2 u5, .int 2 u6, .int 2 u7] nL, slL⟩) :
    ∃ fd : FuncData, (∀ (s : Shared) (us : List Value), us.length = (["calls"] : List Str).length → BindsTo s fd ⟨us, []⟩ ((["calls"] : List Str).zip us)) ∧ ∀ base : Heap, K.In base → base.Ns mainGlobals mg → FnOk P w K mg base CX0 9 fa fd ["calls"] (spAnswers K) := by
  have e := hfa.symm.trans (mg_of X G a38)
  cases e
  have T : Txt K mg C := ⟨⟨pgC, hdC, poC, saC⟩, nC_goals, nC_rooms, nC_ways, nC_outlets, nC_leasts, nC_highest, nC_lowest, ⟨_, mg_of X G g_OUTSIDE⟩, ⟨_, mg_of X G g_GATHERED⟩, ⟨_, mg_of X G g_FIRST_TANK⟩, mg_none_of X G z_len, mg_none_of X G z_sum, mg_none_of X G z_enumerate, mg_none_of X G z_list, mg_none_of X G z_range, mg_none_of X G z_min, mg_none_of X G z_max⟩
  have TS : TxtS K mg C C2 tL := ⟨⟨pgS, hdS, poS, saS⟩, ⟨pgC, hdC, poC, saC⟩, nS_tanks, nS_events, nS_comings, nS_courses, mg_of X G aC, mg_of X G aS, ⟨_, mg_of X G g_MOST_TANKS⟩, ⟨_, mg_of X G g_MOST_AMOUNT⟩, ⟨_, mg_of X G g_MOST_EVENTS⟩, ⟨_, mg_of X G g_WRONG⟩, ⟨_, mg_of X G g_FULL⟩, ⟨_, mg_of X G g_TOO_LITTLE⟩, ⟨_, mg_of X G g_CANNOT_BE⟩, ⟨_, mg_of X G g_START⟩, ⟨_, mg_of X G g_COME_IN⟩, ⟨_, mg_of X G g_POUR⟩, ⟨_, mg_of X G g_FOUND⟩, ⟨_, mg_of X G g_NARROW⟩, ⟨_, mg_of X G g_HAS⟩, ⟨_, mg_of X G g_MOST⟩, mg_of X G aL, fun H => .inr ⟨_, _, _, lL, rfl, rfl, (show 8 ≤ sizeLine by decide), .cons ⟨_, rfl⟩ (.cons ⟨_, rfl⟩ (.cons ⟨_, rfl⟩ (.cons ⟨_, rfl⟩ (.cons ⟨_, rfl⟩ (.cons ⟨_, rfl⟩ (.cons ⟨_, rfl⟩ (.cons ⟨_, rfl⟩ .nil)))))))⟩, mg_none_of X G z_len⟩
  have F1 := fun_mk (st := s_Courses_forget_limits) l1 c1 k1
  have b1 := F1.binds (ps := ["self"]) fun _ _ _ _ _ _ us hl => by obtain ⟨_, rfl⟩ := len1 hl; rfl
  have F2 := fun_mk (st := s_Courses_add_way) l2 c2 k2
  have b2 := F2.binds (ps := ["self", "origin", "goal", "more", "fewer"]) fun _ _ _ _ _ _ us hl => by obtain ⟨_, _, _, _, _, rfl⟩ := len5 hl; rfl
  have F3 := fun_mk (st := s_Courses_place_of) l3 c3 k3
  have b3 := F3.binds (ps := ["self", "tank"]) fun _ _ _ _ _ _ us hl => by obtain ⟨_, _, rfl⟩ := len2 hl; rfl
  have F4 := fun_mk (st := s_Courses_marked) l4 c4 k4
  have b4 := F4.binds (ps := ["self", "tank"]) fun _ _ _ _ _ _ us hl => by obtain ⟨_, _, rfl⟩ := len2 hl; rfl
  have F5 := fun_mk (st := s_Courses_amount) l5 c5 k5
  have b5 := F5.binds (ps := ["self", "tank"]) fun _ _ _ _ _ _ us hl => by obtain ⟨_, _, rfl⟩ := len2 hl; rfl
  have F6 := fun_mk (st := s_Courses_set_outlet) l6 c6 k6
  have b6 := F6.binds (ps := ["self", "tank", "amount", "marked"]) fun _ _ _ _ _ _ us hl => by obtain ⟨_, _, _, _, rfl⟩ := len4 hl; rfl
  have F7 := fun_mk (st := s_Courses_set_bounds) l7 c7 k7
  have b7 := F7.binds (ps := ["self", "way", "least", "marked", "most"]) fun _ _ _ _ _ _ us hl => by obtain ⟨_, _, _, _, _, rfl⟩ := len5 hl; rfl
  have F8 := fun_mk (st := s_Courses_come_in) l8 c8 k8
  have b8 := F8.binds (ps := ["self", "tank", "amount", "least", "most"]) fun _ _ _ _ _ _ us hl => by obtain ⟨_, _, _, _, _, rfl⟩ := len5 hl; rfl
  have F9 := fun_mk (st := s_Courses_go_on) l9 c9 k9
  have b9 := F9.binds (ps := ["self", "tank", "amount", "marked", "least", "most"]) fun _ _ _ _ _ _ us hl => by obtain ⟨_, _, _, _, _, _, rfl⟩ := len6 hl; rfl
  have F10 := fun_mk (st := s_Courses_pour) l10 c10 k10
  have b10 := F10.binds (ps := ["self", "origin", "goal", "amount"]) fun _ _ _ _ _ _ us hl => by obtain ⟨_, _, _, _, rfl⟩ := len4 hl; rfl
  have F11 := fun_mk (st := s_Courses_members) l11 c11 k11
  have b11 := F11.binds (ps := ["self", "chosen"]) fun _ _ _ _ _ _ us hl => by obtain ⟨_, _, rfl⟩ := len2 hl; rfl
  have F12 := fun_mk (st := s_Courses_part_outlets) l12 c12 k12
  have b12 := F12.binds (ps := ["self", "chosen"]) fun _ _ _ _ _ _ us hl => by obtain ⟨_, _, rfl⟩ := len2 hl; rfl
  have F13 := fun_mk (st := s_Courses_nearer_way) l13 c13 k13
  have b13 := F13.binds (ps := ["self", "place", "far", "tried"]) fun _ _ _ _ _ _ us hl => by obtain ⟨_, _, _, _, rfl⟩ := len4 hl; rfl
  have F14 := fun_mk (st := s_Courses_push_path) l14 c14 k14
  have b14 := F14.binds (ps := ["self", "path", "wanted"]) fun _ _ _ _ _ _ us hl => by obtain ⟨_, _, _, rfl⟩ := len3 hl; rfl
  have F15 := fun_mk (st := s_Courses_distances) l15 c15 k15
  have b15 := F15.binds (ps := ["self", "origin", "goal"]) fun _ _ _ _ _ _ us hl => by obtain ⟨_, _, _, rfl⟩ := len3 hl; rfl
  have F16 := fun_mk (st := s_Courses_push_shortest) l16 c16 k16
  have b16 := F16.binds (ps := ["self", "origin", "goal", "wanted", "far"]) fun _ _ _ _ _ _ us hl => by obtain ⟨_, _, _, _, _, rfl⟩ := len5 hl; rfl
  have F17 := fun_mk (st := s_Courses_push) l17 c17 k17
  have b17 := F17.binds (ps := ["self", "origin", "goal", "wanted"]) fun _ _ _ _ _ _ us hl => by obtain ⟨_, _, _, _, rfl⟩ := len4 hl; rfl
  have F18 := fun_mk (st := s_Courses_bring) l18 c18 k18
  have b18 := F18.binds (ps := ["self", "chosen", "least", "most"]) fun _ _ _ _ _ _ us hl => by obtain ⟨_, _, _, _, rfl⟩ := len4 hl; rfl
  have F19 := fun_mk (st := s_Courses_most) l19 c19 k19
  have b19 := F19.binds (ps := ["self", "chosen"]) fun _ _ _ _ _ _ us hl => by obtain ⟨_, _, rfl⟩ := len2 hl; rfl
  have F20 := fun_mk (st := s_Courses_least) l20 c20 k20
  have b20 := F20.binds (ps := ["self", "chosen"]) fun _ _ _ _ _ _ us hl => by obtain ⟨_, _, rfl⟩ := len2 hl; rfl
  have F21 := fun_mk (st := s_Courses_push_along) l21 c21 k21
  have b21 := F21.binds (ps := ["self", "way", "wanted"]) fun _ _ _ _ _ _ us hl => by obtain ⟨_, _, _, rfl⟩ := len3 hl; rfl
  have F22 := fun_mk (st := s_Courses_bring_coming) l22 c22 k22
  have b22 := F22.binds (ps := ["self", "way", "least", "most"]) fun _ _ _ _ _ _ us hl => by obtain ⟨_, _, _, _, rfl⟩ := len4 hl; rfl
  have F23 := fun_mk (st := s_Courses_narrow) l23 c23 k23
  have b23 := F23.binds (ps := ["self", "way", "least", "most"]) fun _ _ _ _ _ _ us hl => by obtain ⟨_, _, _, _, rfl⟩ := len4 hl; rfl
  have F24 := fun_mk (st := s_Courses_found) l24 c24 k24
  have b24 := F24.binds (ps := ["self", "tank", "least", "most"]) fun _ _ _ _ _ _ us hl => by obtain ⟨_, _, _, _, rfl⟩ := len4 hl; rfl
  have F25 := fun_mk (st := s_Courses___init__) l25 c25 k25
  have b25 := F25.binds (ps := ["self", "tanks"]) fun _ _ _ _ _ _ us hl => by obtain ⟨_, _, rfl⟩ := len2 hl; rfl
  have F26 := fun_mk (st := s_Session_count_event) l26 c26 k26
  have b26 := F26.binds (ps := ["self"]) fun _ _ _ _ _ _ us hl => by obtain ⟨_, rfl⟩ := len1 hl; rfl
  have F27 := fun_mk (st := s_Session_all_there) l27 c27 k27
  have b27 := F27.binds (ps := ["self", "chosen"]) fun _ _ _ _ _ _ us hl => by obtain ⟨_, _, rfl⟩ := len2 hl; rfl
  have F28 := fun_mk (st := s_Session_has) l28 c28 k28
  have b28 := F28.binds (ps := ["self", "tank"]) fun _ _ _ _ _ _ us hl => by obtain ⟨_, _, rfl⟩ := len2 hl; rfl
  have F29 := fun_mk (st := s_Session_most) l29 c29 k29
  have b29 := F29.binds (ps := ["self", "chosen"]) fun _ _ _ _ _ _ us hl => by obtain ⟨_, _, rfl⟩ := len2 hl; rfl
  have F30 := fun_mk (st := s_Session_least) l30 c30 k30
  have b30 := F30.binds (ps := ["self", "chosen"]) fun _ _ _ _ _ _ us hl => by obtain ⟨_, _, rfl⟩ := len2 hl; rfl
  have F31 := fun_mk (st := s_Session_come_in) l31 c31 k31
  have b31 := F31.binds (ps := ["self", "tank", "amount", "least", "most"]) fun _ _ _ _ _ _ us hl => by obtain ⟨_, _, _, _, _, rfl⟩ := len5 hl; rfl
  have F32 := fun_mk (st := s_Session_pour) l32 c32 k32
  have b32 := F32.binds (ps := ["self", "origin", "goal", "amount"]) fun _ _ _ _ _ _ us hl => by obtain ⟨_, _, _, _, rfl⟩ := len4 hl; rfl
  have F33 := fun_mk (st := s_Session_found) l33 c33 k33
  have b33 := F33.binds (ps := ["self", "tank", "least", "most"]) fun _ _ _ _ _ _ us hl => by obtain ⟨_, _, _, _, rfl⟩ := len4 hl; rfl
  have F34 := fun_mk (st := s_Session_narrow) l34 c34 k34
  have b34 := F34.binds (ps := ["self", "which", "least", "most"]) fun _ _ _ _ _ _ us hl => by obtain ⟨_, _, _, _, rfl⟩ := len4 hl; rfl
  have F35 := fun_mk (st := s_Session___init__) l35 c35 k35
  have b35 := F35.binds (ps := ["self"]) fun _ _ _ _ _ _ us hl => by obtain ⟨_, rfl⟩ := len1 hl; rfl
  have F36 := fun_mk (st := s_Session_start) l36 c36 k36
  have b36 := F36.binds (ps := ["self", "tanks"]) fun _ _ _ _ _ _ us hl => by obtain ⟨_, _, rfl⟩ := len2 hl; rfl
  have F37 := fun_mk (st := s_Session_answer) l37 c37 k37
  have b37 := F37.binds (ps := ["self", "call"]) fun _ _ _ _ _ _ us hl => by obtain ⟨_, _, rfl⟩ := len2 hl; rfl
  have F38 := fun_mk (st := s_answers) l38 c38 k38
  refine ⟨fnOf "answers" "answers" (defArgs s_answers) (defBody s_answers) (defScope s_answers) .none kV38 dc38 pm38 an38 cd38 ct38, fun s us hu => by obtain ⟨_, rfl⟩ := len1 hu; exact .of_eq rfl, fun base _ _ => ?_⟩
  have M_Courses_forget_limits : Mt P w K mg base C "forget_limits" 1 ["self"] (spForget C) := ⟨f1, _, ⟨a1, i1, k1⟩, ok_forget F1 T , b1⟩
  have M_Courses_add_way : Mt P w K mg base C "add_way" 1 ["self", "origin", "goal", "more", "fewer"] (spAdd C) := ⟨f2, _, ⟨a2, i2, k2⟩, ok_add F2 T , b2⟩
  have M_Courses_place_of : Mt P w K mg base C "place_of" 1 ["self", "tank"] (spPlace C) := ⟨f3, _, ⟨a3, i3, k3⟩, ok_place F3 T , b3⟩
  have M_Courses_marked : Mt P w K mg base C "marked" 1 ["self", "tank"] (spMarked C) := ⟨f4, _, ⟨a4, i4, k4⟩, ok_marked F4 T , b4⟩
  have M_Courses_amount : Mt P w K mg base C "amount" 2 ["self", "tank"] (spAmount C) := ⟨f5, _, ⟨a5, i5, k5⟩, ok_amount F5 T M_Courses_marked, b5⟩
  have M_Courses_set_outlet : Mt P w K mg base C "set_outlet" 1 ["self", "tank", "amount", "marked"] (spSetOut C) := ⟨f6, _, ⟨a6, i6, k6⟩, ok_setout F6 T , b6⟩
  have M_Courses_set_bounds : Mt P w K mg base C "set_bounds" 1 ["self", "way", "least", "marked", "most"] (spBounds C) := ⟨f7, _, ⟨a7, i7, k7⟩, ok_bounds F7 T , b7⟩
  have M_Courses_come_in : Mt P w K mg base C "come_in" 3 ["self", "tank", "amount", "least", "most"] (spCome C) := ⟨f8, _, ⟨a8, i8, k8⟩, ok_come F8 T M_Courses_forget_limits M_Courses_add_way M_Courses_place_of M_Courses_marked M_Courses_amount M_Courses_set_outlet, b8⟩
  have M_Courses_go_on : Mt P w K mg base C "go_on" 2 ["self", "tank", "amount", "marked", "least", "most"] (spGo C) := ⟨f9, _, ⟨a9, i9, k9⟩, ok_go F9 T M_Courses_forget_limits M_Courses_add_way, b9⟩
  have M_Courses_pour : Mt P w K mg base C "pour" 3 ["self", "origin", "goal", "amount"] (spPour C) := ⟨f10, _, ⟨a10, i10, k10⟩, ok_pour F10 T M_Courses_go_on M_Courses_add_way M_Courses_place_of M_Courses_marked M_Courses_amount M_Courses_set_outlet, b10⟩
  have M_Courses_members : Mt P w K mg base C "members" 1 ["self", "chosen"] (spMembers C) := ⟨f11, _, ⟨a11, i11, k11⟩, ok_members F11 T , b11⟩
  have M_Courses_part_outlets : Mt P w K mg base C "part_outlets" 1 ["self", "chosen"] (spPart C) := ⟨f12, _, ⟨a12, i12, k12⟩, ok_part F12 T , b12⟩
  have M_Courses_nearer_way : Mt P w K mg base C "nearer_way" 1 ["self", "place", "far", "tried"] (spNearer C) := ⟨f13, _, ⟨a13, i13, k13⟩, ok_nearer F13 T , b13⟩
  have M_Courses_push_path : Mt P w K mg base C "push_path" 1 ["self", "path", "wanted"] (spPath C) := ⟨f14, _, ⟨a14, i14, k14⟩, ok_path F14 T , b14⟩
  have M_Courses_distances : Mt P w K mg base C "distances" 1 ["self", "origin", "goal"] (spDist C) := ⟨f15, _, ⟨a15, i15, k15⟩, ok_dist F15 T , b15⟩
  have M_Courses_push_shortest : Mt P w K mg base C "push_shortest" 2 ["self", "origin", "goal", "wanted", "far"] (spShort C) := ⟨f16, _, ⟨a16, i16, k16⟩, ok_short F16 T M_Courses_nearer_way M_Courses_push_path, b16⟩
  have M_Courses_push : Mt P w K mg base C "push" 3 ["self", "origin", "goal", "wanted"] (spPush C) := ⟨f17, _, ⟨a17, i17, k17⟩, ok_push F17 T M_Courses_distances M_Courses_push_shortest, b17⟩
  have M_Courses_bring : Mt P w K mg base C "bring" 4 ["self", "chosen", "least", "most"] (spBring C) := ⟨f18, _, ⟨a18, i18, k18⟩, ok_bring F18 T M_Courses_members M_Courses_marked M_Courses_part_outlets M_Courses_push, b18⟩
  have M_Courses_most : Mt P w K mg base C "most" 5 ["self", "chosen"] (spMost C) := ⟨f19, _, ⟨a19, i19, k19⟩, ok_most F19 T M_Courses_members M_Courses_amount M_Courses_bring, b19⟩
  have M_Courses_least : Mt P w K mg base C "least" 5 ["self", "chosen"] (spLeast C) := ⟨f20, _, ⟨a20, i20, k20⟩, ok_least F20 T M_Courses_bring, b20⟩
  have M_Courses_push_along : Mt P w K mg base C "push_along" 4 ["self", "way", "wanted"] (spAlong C) := ⟨f21, _, ⟨a21, i21, k21⟩, ok_along F21 T M_Courses_part_outlets M_Courses_push, b21⟩
  have M_Courses_bring_coming : Mt P w K mg base C "bring_coming" 5 ["self", "way", "least", "most"] (spBrC C) := ⟨f22, _, ⟨a22, i22, k22⟩, ok_brc F22 T M_Courses_push_along, b22⟩
  have M_Courses_narrow : Mt P w K mg base C "narrow" 6 ["self", "way", "least", "most"] (spNarrow C) := ⟨f23, _, ⟨a23, i23, k23⟩, ok_narrow F23 T M_Courses_bring_coming M_Courses_set_bounds M_Courses_forget_limits, b23⟩
  have M_Courses_found : Mt P w K mg base C "found" 5 ["self", "tank", "least", "most"] (spFound C) := ⟨f24, _, ⟨a24, i24, k24⟩, ok_found F24 T M_Courses_bring M_Courses_go_on M_Courses_amount, b24⟩
  have M_Courses : MkOk P w K mg base C 2 ["self", "tanks"] (spInitC C) := ⟨f25, _, ⟨mkC, a25, i25, kcC⟩, ok_initC F25 T M_Courses_add_way, b25⟩
  have M_Session_count_event : Mt P w K mg base C2 "count_event" 1 ["self"] (spCount C2) := ⟨f26, _, ⟨a26, i26, k26⟩, ok_count F26 TS , b26⟩
  have M_Session_all_there : Mt P w K mg base C2 "all_there" 1 ["self", "chosen"] (spThere C2) := ⟨f27, _, ⟨a27, i27, k27⟩, ok_there F27 TS , b27⟩
  have M_Session_has : Mt P w K mg base C2 "has" 3 ["self", "tank"] (spHas C C2) := ⟨f28, _, ⟨a28, i28, k28⟩, ok_has F28 TS M_Courses_amount, b28⟩
  have M_Session_most : Mt P w K mg base C2 "most" 6 ["self", "chosen"] (spMostS C C2) := ⟨f29, _, ⟨a29, i29, k29⟩, ok_mostS F29 TS M_Session_all_there M_Courses_most, b29⟩
  have M_Session_least : Mt P w K mg base C2 "least" 6 ["self", "chosen"] (spLeastS C C2) := ⟨f30, _, ⟨a30, i30, k30⟩, ok_leastS F30 TS M_Session_all_there M_Courses_least, b30⟩
  have M_Session_come_in : Mt P w K mg base C2 "come_in" 4 ["self", "tank", "amount", "least", "most"] (spComeS C C2) := ⟨f31, _, ⟨a31, i31, k31⟩, ok_comeS F31 TS M_Session_count_event M_Courses_come_in, b31⟩
  have M_Session_pour : Mt P w K mg base C2 "pour" 4 ["self", "origin", "goal", "amount"] (spPourS C C2) := ⟨f32, _, ⟨a32, i32, k32⟩, ok_pourS F32 TS M_Session_count_event M_Courses_pour M_Courses_amount, b32⟩
  have M_Session_found : Mt P w K mg base C2 "found" 6 ["self", "tank", "least", "most"] (spFoundS C C2) := ⟨f33, _, ⟨a33, i33, k33⟩, ok_foundS F33 TS M_Session_count_event M_Courses_found, b33⟩
  have M_Session_narrow : Mt P w K mg base C2 "narrow" 7 ["self", "which", "least", "most"] (spNarrowS C C2) := ⟨f34, _, ⟨a34, i34, k34⟩, ok_narrowS F34 TS M_Courses_narrow, b34⟩
  have M_Session : MkOk P w K mg base C2 4 ["self"] (spInitS C C2) := ⟨f35, _, ⟨mkS, a35, i35, kcS⟩, ok_initS F35 TS M_Courses, b35⟩
  have M_Session_start : Mt P w K mg base C2 "start" 4 ["self", "tanks"] (spStart C C2) := ⟨f36, _, ⟨a36, i36, k36⟩, ok_start F36 TS M_Courses, b36⟩
  have M_Session_answer : Mt P w K mg base C2 "answer" 8 ["self", "call"] (spAnswer C C2) := ⟨f37, _, ⟨a37, i37, k37⟩, ok_answer F37 TS M_Session_start M_Session_come_in M_Session_pour M_Session_found M_Session_narrow M_Session_has M_Session_most M_Session_least, b37⟩
  exact ok_answers F38 TS M_Session M_Session_answer
theorem asked_calls {l : List Int} (h : PyKs176.answers_asked l = true) : ∃ cs, PyKs176.calls l = some cs ∧ cs.length ≤ 5000 := by
  unfold PyKs176.answers_asked at h
  cases e : PyKs176.calls l with
  | none => rw [e] at h; cases h
  | some cs =>
    rw [e] at h
    have h := (Bool.and_eq_true_iff.mp h).1
    exact ⟨cs, rfl, of_decide_eq_true h⟩
theorem items_pos {l : List Int} (h : l.all (PySem.W.Codec.inInt (Int.ofNat 0) (Int.ofNat 4294967295)) = true) : ∀ x, x ∈ l → 0 ≤ x := fun x hx => by
  have := List.all_eq_true.mp h x hx
  exact (PySem.W.Codec.inInt_iff.mp this).1
end Mg
open PySem PySem.W PyProof.Rows
set_option maxRecDepth 100000 in
set_option maxHeartbeats 0 in
theorem PySem.Challenge.cw_markedgrainsdesk_s01_answers_holds : PySem.Challenge.rw_markedgrainsdesk_s01_answers.Holds := by
  w_on; k_headS; (case hw => exact ⟨[.list [.int 0, .int 1]], by decide +kernel, by decide +kernel⟩)
  k_fillS
  refine L2.walk_specK (r := PySem.Challenge.rw_markedgrainsdesk_s01_answers) (k := 9) (CX := L2.CX0) (ps := ["calls"]) (sp := Mg.spAnswers) (by decide +kernel) rfl rfl ⟨rfl, by decide, by decide⟩ (fun w h Y => PySem.W.kIn_of Y) ?F ?S (fun _ _ _ _ z => z)
  case F =>
    intro w mg fa h Y KX G hmg
    refine' Mg.all_mk KX G hmg ?_ ?_ ?_ ?_ ?_ ?_ ?_ ?_ ?_ ?_ ?_ ?_ ?_ ?_ ?_ ?_ ?_ ?_ ?_ ?_ ?_ ?_ ?_ ?_ ?_ ?_ ?_ ?_ ?_ ?_ ?_ ?_ ?_ ?_ ?_ ?_ ?_ ?_ ?_ ?_ ?_ ?_ ?_ ?_ ?_ ?_ ?_ ?_ ?_ ?_ ?_ ?_ ?_ ?_ ?_ ?_ ?_ ?_ ?_ ?_ ?_ ?_ ?_ ?_ ?_ ?_ ?_ ?_ ?_ ?_ ?_ ?_ ?_ ?_ ?_ ?_ ?_ ?_ ?_ ?_ ?_ ?_ ?_ ?_ ?_ ?_ ?_ ?_ ?_ ?_ ?_ ?_ ?_ ?_ ?_ ?_ ?_ ?_ ?_ ?_ ?_ ?_ ?_ ?_ ?_ ?_ ?_ ?_ ?_ ?_ ?_ ?_ ?_ ?_ ?_ ?_ ?_ ?_ ?_ ?_ ?_ ?_ ?_ ?_ ?_ ?_ ?_ ?_ ?_ ?_ ?_ ?_ ?_ ?_ ?_ ?_ ?_ ?_ ?_ ?_ ?_ ?_ ?_ ?_ ?_ ?_ ?_ ?_ ?_ ?_ ?_ ?_ ?_ ?_ ?_ ?_ ?_ ?_ ?_ ?_ ?_ ?_ ?_ ?_ ?_ ?_ ?_ ?_ ?_ ?_ ?_ ?_ ?_ ?_ ?_ ?_ ?_ ?_ ?_ ?_ ?_ ?_ ?_ ?_ ?_ ?_ ?_ ?_ ?_ ?_ ?_ ?_ ?_ ?_ ?_ ?_ ?_ ?_ ?_ ?_ ?_ ?_ ?_ ?_ ?_ ?_ ?_ ?_ ?_ ?_ ?_ ?_ ?_ ?_ ?_ ?_ ?_ ?_ ?_ ?_ ?_ ?_ ?_ ?_ ?_ ?_ ?_ ?_ ?_ ?_ ?_ ?_ ?_ ?_ ?_ ?_ ?_ ?_ ?_ ?_
    any_goals k_is
  case S =>
    intro K H xs a hO hwi hask hx
    cases hx with
    | cons h1 h2 =>
      cases h2
      cases h1 with
      | lst hs ha =>
        have e := L2.ints_dw a.1 _ ha
        subst e
        have q : ((Codec.inLen 0 30000 a.1 && a.1.all (Codec.inInt (Int.ofNat 0) (Int.ofNat 4294967295))) && true) = true := hwi
        rw [Bool.and_eq_true, Bool.and_eq_true] at q
        have hask' : PyKs176.answers_asked a.1 = true := hask
        exact ⟨_, a.1, rfl, hs, Mg.items_pos q.1.2, (Codec.inNat_iff.mp q.1.1).2, Mg.asked_calls hask', fun H' p hp => .lst (L2.SqL.of hp) (L2.dw_ints _)⟩
