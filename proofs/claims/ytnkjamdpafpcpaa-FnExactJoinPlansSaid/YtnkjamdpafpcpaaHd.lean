/- PLAIN FACTS about the head of this program's text: by which make it was cut. Its words are told one by one, so that the kernel need not read the whole text at once. -/
import Derived.Test.YtnkjamdpafpcpaaRows
import Derived.WalkKit
import Derived.JoinedOf
namespace Go.Proofs.Ytnkjamdpafpcpaa
def sp : Char := Char.ofNat 32
theorem ws_app : ∀ (a r : List Char), (∀ c ∈ a, c ≠ sp) → wordsSigns (a ++ sp :: r) = a :: wordsSigns r
  | [], r, _ => rfl
  | c :: a, r, h => by
    have h1 := ws_app a r (fun x hx => h x (List.mem_cons_of_mem _ hx))
    have hc : c ≠ sp := h c (List.mem_cons_self ..)
    rw [List.cons_append, wordsSigns.eq_def]
    split
    · rename_i e; cases e
    · rename_i r' e
      injection e with e1 e2
      exact absurd e1 hc
    · rename_i c' r' _ e
      injection e with e1 e2
      subst e1; subst e2
      rw [h1]
def w0 : List Char := ([104, 97, 114, 110, 101, 115, 115] : List Nat).map Char.ofNat
def w1 : List Char := ([48, 100, 53, 101, 52, 53, 98, 99, 57, 48, 57, 56, 56, 53, 50, 48, 54, 97, 48, 99, 55, 55, 52, 102, 56, 57, 54, 49, 54, 97, 100, 100, 49, 101, 57, 49, 100, 52, 57, 52, 99, 49, 55, 56, 55, 97, 56, 53, 56, 99, 53, 100, 49, 100, 52, 98, 48, 53, 55, 97, 99, 101, 100, 100] : List Nat).map Char.ofNat
def w2 : List Char := ([99, 117, 116] : List Nat).map Char.ofNat
def w3 : List Char := ([97, 116, 32, 108, 111, 111, 112, 46, 101, 120, 97, 109, 112, 108, 101, 47, 103, 48, 49, 50, 50, 48, 47, 108, 97, 119, 115, 46, 70, 110, 69, 120, 97, 99, 116, 73, 115, 83, 104, 111, 112, 32, 108, 111, 111, 112, 46, 101, 120, 97, 109, 112, 108, 101, 47, 103, 48, 49, 50, 50, 48, 47, 108, 97, 119, 115, 46, 70, 110, 69, 120, 97, 99, 116, 78, 101, 119, 83, 104, 111, 112, 32, 108, 111, 111, 112, 46, 101, 120, 97, 109, 112, 108, 101, 47, 103, 48, 49, 50, 50, 48, 47, 108, 97, 119, 115, 46, 70, 110, 69, 120, 97, 99, 116, 67, 111, 109, 109, 111, 110, 67, 101, 108, 108, 115, 32, 108, 111, 111, 112, 46, 101, 120, 97, 109, 112, 108, 101, 47, 103, 48, 49, 50, 50, 48, 47, 108, 97, 119, 115, 46, 70, 110, 69, 120, 97, 99, 116, 78, 101, 119, 67, 111, 110, 115, 111, 108, 101, 32, 108, 111, 111, 112, 46, 101, 120, 97, 109, 112, 108, 101, 47, 103, 48, 49, 50, 50, 48, 47, 108, 97, 119, 115, 46, 70, 110, 69, 120, 97, 99, 116, 73, 115, 86, 97, 108, 105, 100, 82, 101, 99, 111, 114, 100, 32, 108, 111, 111, 112, 46, 101, 120, 97, 109, 112, 108, 101, 47, 103, 48, 49, 50, 50, 48, 47, 108, 97, 119, 115, 46, 70, 110, 69, 120, 97, 99, 116, 68, 114, 111, 112, 86, 97, 105, 110, 32, 108, 111, 111, 112, 46, 101, 120, 97, 109, 112, 108, 101, 47, 103, 48, 49, 50, 50, 48, 47, 108, 97, 119, 115, 46, 70, 110, 69, 120, 97, 99, 116, 66, 97, 99, 107, 80, 108, 97, 110, 32, 108, 111, 111, 112, 46, 101, 120, 97, 109, 112, 108, 101, 47, 103, 48, 49, 50, 50, 48, 47, 108, 97, 119, 115, 46, 70, 110, 69, 120, 97, 99, 116, 65, 100, 100, 83, 116, 101, 112, 32, 108, 111, 111, 112, 46, 101, 120, 97, 109, 112, 108, 101, 47, 103, 48, 49, 50, 50, 48, 47, 108, 97, 119, 115, 46, 70, 110, 69, 120, 97, 99, 116, 74, 111, 105, 110, 80, 108, 97, 110, 115, 32, 108, 111, 111, 112, 46, 101, 120, 97, 109, 112, 108, 101, 47, 103, 48, 49, 50, 50, 48, 47, 108, 97, 119, 115, 46, 70, 110, 69, 120, 97, 99, 116, 69, 102, 102, 101, 99, 116, 115, 79, 102, 32, 108, 111, 111, 112, 46, 101, 120, 97, 109, 112, 108, 101, 47, 103, 48, 49, 50, 50, 48, 47, 108, 97, 119, 115, 46, 70, 110, 69, 120, 97, 99, 116, 83, 97, 109, 101, 69, 102, 102, 101, 99, 116, 115, 32, 108, 111, 111, 112, 46, 101, 120, 97, 109, 112, 108, 101, 47, 103, 48, 49, 50, 50, 48, 47, 108, 97, 119, 115, 46, 70, 110, 69, 120, 97, 99, 116, 67, 97, 110, 83, 119, 97, 112, 32, 108, 111, 111, 112, 46, 101, 120, 97, 109, 112, 108, 101, 47, 103, 48, 49, 50, 50, 48, 47, 108, 97, 119, 115, 46, 70, 110, 69, 120, 97, 99, 116, 80, 108, 97, 121, 80, 97, 114, 116, 121, 32, 108, 111, 111, 112, 46, 101, 120, 97, 109, 112, 108, 101, 47, 103, 48, 49, 50, 50, 48, 47, 108, 97, 119, 115, 46, 70, 110, 83, 104, 101, 101, 116, 115, 32, 108, 111, 111, 112, 46, 101, 120, 97, 109, 112, 108, 101, 47, 103, 48, 49, 50, 50, 48, 47, 108, 97, 119, 115, 46, 70, 110, 83, 112, 114, 101, 97, 100, 105, 110, 103] : List Nat).map Char.ofNat
set_option maxRecDepth 100000 in
theorem head_eq : Try.prog.initOrder = String.ofList (w0 ++ sp :: (w1 ++ sp :: (w2 ++ sp :: w3))) := by kernel_rfl
theorem ns (l : List Char) (h : (l.all fun c => c != sp) = true) : ∀ c ∈ l, c ≠ sp := fun c hc => by
  have := List.all_eq_true.1 h c hc
  simpa using this
theorem words : behindMainWord (wordsSigns Try.prog.initOrder.toList) = w2 :: wordsSigns w3 := by
  rw [head_eq, String.toList_ofList, ws_app _ _ (ns _ (by kernel_rfl)), ws_app _ _ (ns _ (by kernel_rfl)), ws_app _ _ (ns _ (by kernel_rfl))]
  rw [behindMainWord, if_pos (by kernel_rfl)]
theorem strip (r : List (List Char)) : stripLifts liftWords (w2 :: r) = ([], w2 :: r) := by kernel_rfl
theorem lifts_of (P : Program) (rest : List (List Char)) (h : behindMainWord (wordsSigns P.initOrder.toList) = w2 :: rest) : P.headLifts = [] := by
  unfold Program.headLifts
  simp only [h, strip]
  split <;> rfl
theorem final_of (P : Program) (rest : List (List Char)) (h : behindMainWord (wordsSigns P.initOrder.toList) = w2 :: rest) : P.liftsFinal = false := by
  unfold Program.liftsFinal
  simp only [h, lifts_of P rest h]
  kernel_rfl
theorem make_of (P : Program) (rest : List (List Char)) (h : behindMainWord (wordsSigns P.initOrder.toList) = w2 :: rest) : P.make = some .cut := by
  unfold Program.make
  simp only [h, lifts_of P rest h]
  kernel_rfl
theorem enter_of (P : Program) (rest : List (List Char)) (h : behindMainWord (wordsSigns P.initOrder.toList) = w2 :: rest) (h1 : P.laysLater = false) (h2 : P.bearsReflect = false) (h3 : P.doorFits [] = true) : P.mayEnter = true := by
  unfold Program.mayEnter
  simp only [h, strip, h1, h2, h3]
  kernel_rfl
theorem no_later : Try.prog.laysLater = false := by kernel_rfl
theorem no_reflect : Try.prog.bearsReflect = false := by kernel_rfl
theorem door : Try.prog.doorFits [] = true := by kernel_rfl
theorem head_final : Try.prog.liftsFinal = false := final_of _ _ words
theorem head_make : Try.prog.make = some .cut := make_of _ _ words
theorem head_enter : Try.prog.mayEnter = true := enter_of _ _ words no_later no_reflect door
end Go.Proofs.Ytnkjamdpafpcpaa
