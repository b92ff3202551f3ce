/- Part of the evaluator, in company. -/
import Derived.Test.YtadmpiidofncpacOCo
import Derived.Test.YtadmpiidofncpacOCl
import Derived.Test.YtadmpiidofncpacOCk
set_option linter.unusedSectionVars false
set_option linter.unusedSimpArgs false
set_option linter.unusedVariables false
namespace Go.Eng
open Go Go.RowKit
open Go.Conc Go.Conc.Lib Go.ConcR.Gen Go.ConcN.Gen
open Go.ConcN (WgLive)
open Go.ConcR (stA smA KK WgAt DC0 Payload)
open Go.Eng.Wg
variable [Payload] {L : WgLink} {P : Program} {Wg : Nat} {b₀ : Frame} {a₀ : Act} {ops₀ : Array Oper} {i₀ : Nat} {rest₀ : List Nat} {k₀ : List Item} {cs : List Frame}
theorem To.call {R : World → World → Prop} {Next : Goroutine → World → Prop} {g g' : Goroutine} {w : World} (hr : g.status = .running) (h : ∀ W, stepG P true g W = .go g' W) (hk : ∀ w₁, R w w₁ → To P R Next g' w₁) (hR : R w w) (htr : ∀ a b c, R a b → R b c → R a c) : To P R Next g w := by
 obtain ⟨m, hm⟩ := hk w hR
 refine ⟨m + 1, Goes.step hr fun w₁ h₁ => ?_⟩
 rw [h w₁]
 exact ⟨⟨rfl, rfl⟩, Goes.rely htr hm h₁⟩
theorem waitAt (H : WgLib P L)
  (hcall : ∀ W, stepG P true (G (b₀.at a₀ (.inRegion ops₀ (i₀ :: rest₀) :: k₀)) cs) W = .go (G ((base L.wait).at ⟨#[.pointer (some ⟨Wg, 0, none⟩)] ++ Array.replicate ((waitFn L).ntmps - 1) undef, []⟩ [.code (body_wait L)]) (b₀.at a₀ (.inRegion ops₀ (i₀ :: rest₀) :: k₀) :: cs)) W) :
  WaitAt P L.tWg Wg (b₀.at a₀ (.inRegion ops₀ (i₀ :: rest₀) :: k₀)) cs (b₀.at (a₀.put ((ops₀[i₀]?).bind (·.dst)) (.tuple #[])) (.inRegion ops₀ rest₀ :: k₀)) := by
 refine ⟨AnchWN L (WgLive L.tWg Wg) Wg (b₀.at a₀ (.inRegion ops₀ (i₀ :: rest₀) :: k₀)) cs, fun g w h => ?_, fun w hw => ?_, fun g w h => ?_⟩
 ·obtain ⟨T, rfl, _⟩ := h; rfl
 ·refine To.call rfl hcall (fun w₁ h₁ => ?_) id RS.tr
  exact zbs (K := WgLive L.tWg Wg) H (fun hk hr => hr hk) id w₁ (h₁ hw)
 ·exact zbt (K := WgLive L.tWg Wg) H (fun hk hr => hr hk) id (mT := 0) (fun hk hx => ⟨_, _, hx.setSt _⟩) (fun hk hx => ⟨_, _, hx.setSm _⟩) (fun _ _ _ _ => rfl) g w h
end Go.Eng
namespace Go.Eng
open Go Go.RowKit
open Go.Conc Go.Conc.Lib Go.ConcR.Gen Go.ConcN.Gen
open Go.ConcN (WgLive)
open Go.ConcR (stA smA KK WgAt DC0 Payload)
open Go.Eng.Wg
variable [Payload] {L : WgLink} {P : Program} {Wg : Nat} {b₀ : Frame} {a₀ : Act} {ops₀ : Array Oper} {i₀ : Nat} {rest₀ : List Nat} {k₀ : List Item} {cs : List Frame}
theorem addAt (H : WgLib P L)
  (hcall : ∀ W, stepG P true (G (b₀.at a₀ (.inRegion ops₀ (i₀ :: rest₀) :: k₀)) cs) W = .go (G ((base L.add).at ⟨#[.pointer (some ⟨Wg, 0, none⟩), .int .i64 1] ++ Array.replicate ((addFn L).ntmps - 2) undef, []⟩ [.code (body_add L)]) (b₀.at a₀ (.inRegion ops₀ (i₀ :: rest₀) :: k₀) :: cs)) W) :
  AddAt P L.tWg Wg (b₀.at a₀ (.inRegion ops₀ (i₀ :: rest₀) :: k₀)) cs (b₀.at (a₀.put ((ops₀[i₀]?).bind (·.dst)) (.tuple #[])) (.inRegion ops₀ rest₀ :: k₀)) := by
 intro w hw
 refine To.call rfl hcall (fun w₁ h₁ => ?_) id RS.tr
 exact zdt (K := WgLive L.tWg Wg) H (fun hk hr => hr hk) id (fun hk hx => ⟨_, _, hx.setSt _⟩) (mT := 0) (fun _ _ _ _ => rfl) w₁ (h₁ hw)
end Go.Eng
