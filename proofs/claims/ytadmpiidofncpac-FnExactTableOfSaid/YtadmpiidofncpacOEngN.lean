/- Part of the evaluator, in company. -/
import Derived.Test.YtadmpiidofncpacOCr
import Derived.Conc.LeavingOf
set_option linter.unusedSectionVars false
set_option linter.unusedSimpArgs false
set_option linter.unusedVariables false
namespace Go.Eng
open Go Go.RowKit
open Go.Conc
open Go.Conc.Lib
open Go.ConcN (WgLive)
open Go.Eng.Wg
noncomputable section
structure PC where
 tC : Nat
 addF : Nat
 waitF : Nat
 dn : Nat
 wf : Nat
 sf : Nat
 nw : Nat
 ns : Nat
 bodyw : Code
 bodys : Code
 fuel : Nat
 m : Nat
def allLit (es : List Nat) : Bool := List.rec (motive := fun _ => Bool) true (fun x _ ih => sel (sel (Nat.beq (tagOf x) 1) (ltb (payOf x) 18446744073709551616) false) ih false) es
abbrev Acc := Nat × Nat × List Nat
def childE (P : Program) (call : Nat → List Nat → Trie → Nat → OR) (q : PC) (bw n0 ni lb : Nat) (args : List Nat) (H : Trie) (n : Nat) (k : Nat → List Nat → SL) : SL :=
 match killH n n0 (Nat.sub ni n0) H with
 | .ok Hc => onFin (workE P call q.nw q.ns q.bodyw q.bodys q.sf q.dn q.fuel q.m bw lb args Hc n) fun s' =>
   (match tget s'.H lb with | some (.chn cap es 1) => sel (allLit es) (k cap es) (.no 430) | _ => .no 431)
 | .no x => .no x
def goAt (P : Program) (call : Nat → List Nat → Trie → Nat → OR) (q : PC) (bw n0 ni lb : Nat) (s : DS) (k : DS → Acc → SL) : SL :=
 opAt s fun o k' => match o.op, o.dst with
  | .go c, none => (match c.callee, c.args.toList with
   | .value x, [] => sel (Nat.beq (tagOf (ev s.T x)) 10)
     (match tget s.H (payOf (ev s.T x)) with
      | some (.box 2 m c0) => sel (sel (Nat.beq (getW c0 0) q.wf) (sel (allSlot (unlist m (Nat.shiftRight c0 128))) (sel (Nat.ble (unlist m (Nat.shiftRight c0 128)).length q.nw) (sel (Nat.ble n0 ni) (sel (Nat.ble ni lb) (Nat.ble ni s.n) false) false) false) false) false)
        (childE P call q bw n0 ni lb (unlist m (Nat.shiftRight c0 128)) s.H s.n fun cap es => match killH s.n ni (Nat.sub s.n ni) s.H with
         | .ok H' => (match tget H' lb with | some .gone => k ⟨k', s.T, H', s.n⟩ (lb, cap, es) | _ => .no 432)
         | .no x => .no x) (.no 433)
      | _ => .no 434) (.no 435)
   | _, _ => .no 436)
  | _, _ => .no 437
def isL2 (l : List Nat) (a b : Nat) : Bool := match l with | [x, y] => sel (Nat.beq x a) (Nat.beq y b) false | _ => false
def addW (q : PC) (bw nt : Nat) (s : DS) (k : DS → SL) : SL :=
 opAt s fun o k' => match o.op, o.dst with
  | .call c, some d => (match c.callee with
   | .value (.func g) => sel (sel (Nat.beq g q.addF) (sel (isL2 (evs s.T c.args.toList) (wP bw 0) (wI 1)) (ltb d nt) false) false) (k ⟨k', setW s.T d 0, s.H, s.n⟩) (.no 440)
   | _ => .no 441)
  | _, _ => .no 442
def waitW (q : PC) (bw nt : Nat) (s : DS) (k : DS → SL) : SL :=
 opAt s fun o k' => match o.op, o.dst with
  | .call c, some d => (match c.callee with
   | .value (.func g) => sel (sel (Nat.beq g q.waitF) (sel (isL1 (evs s.T c.args.toList) (wP bw 0)) (ltb d nt) false) false) (k ⟨k', setW s.T d 0, s.H, s.n⟩) (.no 443)
   | _ => .no 444)
  | _, _ => .no 445
def phSp (q : PC) : Op → Bool
 | .makeChan .. => true
 | .go _ => true
 | .call c => (match c.callee with | .value (.func g) => sel (Nat.beq g q.addF) true (Nat.beq g q.waitF) | _ => false)
 | _ => false
def kindAt (q : PC) (s : DS) : Nat :=
 match s.k with
 | .inRegion ops (i :: _) :: _ => (match ops[i]? with
  | some o => (match o.op with
   | .makeChan .. => 0
   | .go _ => 1
   | .call c => (match c.callee with | .value (.func g) => sel (Nat.beq g q.addF) 2 3 | _ => 4)
   | _ => 4)
  | none => 4)
 | _ => 4
def phE (P : Program) (call : Nat → List Nat → Trie → Nat → OR) (q : PC) (nt bw n0 : Nat) (kw : DS → Nat → List Acc → SL) (m : Nat) : DS → Bool → Nat → Nat → List Acc → SL :=
 Nat.rec (motive := fun _ => DS → Bool → Nat → Nat → List Acc → SL) (fun _ _ _ _ _ => .no 450)
  (fun _ ih s pend ni lb acc => onStop (drive P call (phSp q) nt q.fuel s) fun s1 =>
   sel (Nat.beq (kindAt q s1) 0) (mkcAt q.tC nt s1 fun lb' s2 => ih s2 pend ni lb' acc)
    (sel (Nat.beq (kindAt q s1) 1) (sel (sel pend (ltb acc.length 1000) false) (goAt P call q bw n0 ni lb s1 fun s2 a => ih s2 false s2.n lb (acc ++ [a])) (.no 451))
     (sel (Nat.beq (kindAt q s1) 2) (sel pend (.no 452) (addW q bw nt s1 fun s2 => ih s2 true ni lb acc)) (sel pend (.no 453) (kw s1 ni acc))))) m
end
def prOf (rb : Nat) (a : Acc) : Nat × Obj := (rb, .chan a.2.1 (a.2.2.map litI).toArray true a.2.2.length 0 false)
structure PhI (E : Env) (base n0 bw Wg : Nat) (ρA : Rho) (LA : Look) (v1 : World) (nt : Nat) (s : DS) (ni lb : Nat) (acc : List Acc) (prs : List (Nat × Obj)) (ρ : Rho) (L : Look) (v : World) (tmps : Array Value) : Prop where
 c : @Ctx (noK E) base s.H s.n ρ L v
 t : @TR (noK E) ρ L nt s.T tmps
 ex : Ex3 ρA LA ρ L
 bare : ∀ b, b < n0 → ρA b = none → L b = LA b ∧ ρ b = none
 low : ∀ j r, j < n0 → ρ j = some r → r.1 < base
 below : Below base v1 v
 wg : ∃ sz, ρ bw = some (Wg, 0, sz)
 lbp : ∃ r, ρ lb = some r
 ord : n0 ≤ ni ∧ ni ≤ s.n
 len : prs.length = acc.length
 acs : ∀ (i : Nat) (a : Acc), acc[i]? = some a → ∃ rb d sz, ρ a.1 = some (rb, d, sz) ∧ prs[i]? = some (prOf rb a) ∧ n0 ≤ a.1 ∧ a.1 < ni
 inc : ∀ (i j : Nat) (a b : Acc), acc[i]? = some a → acc[j]? = some b → a.1 = b.1 → i = j
 lit : ∀ a ∈ acc, allLit a.2.2 = true
section
variable {E : Env} {base n0 bw Wg nt ni lb : Nat} {ρA ρ ρ' : Rho} {LA L L' : Look} {v1 v v' : World} {s s1 : DS} {acc : List Acc} {prs : List (Nat × Obj)} {tmps tmps' : Array Value}
theorem PhI.went (h : PhI E base n0 bw Wg ρA LA v1 nt s ni lb acc prs ρ L v tmps) (c' : @Ctx (noK E) base s1.H s1.n ρ' L' v') (t' : @TR (noK E) ρ' L' nt s1.T tmps') (e : Ex3 ρ L ρ' L') (b : Below base v v') (l : Loc s.H s.n ρ L ρ' L') (hn : s.n ≤ s1.n) :
  PhI E base n0 bw Wg ρA LA v1 nt s1 ni lb acc prs ρ' L' v' tmps' := by
 have o := h.ord
 refine ⟨c', t', h.ex.trans e, fun x hx hA => ?_, fun j r hj hr => ?_, h.below.trans b, ?_, ?_, ⟨o.1, by omega⟩, h.len, fun i a ha => ?_, h.inc, h.lit⟩
 ·obtain ⟨q1, q2⟩ := h.bare x hx hA
  obtain ⟨q3, q4⟩ := l.bare x (by omega) q2
  exact ⟨q3.trans q1, q4⟩
 ·cases hρ : ρ j with
  | none => rw [(l.bare j (by omega) hρ).2] at hr; cases hr
  | some r0 => rw [e.place _ _ hρ] at hr; injection hr with hr; subst hr; exact h.low j _ hj hρ
 ·obtain ⟨sz, hw⟩ := h.wg; exact ⟨sz, e.place _ _ hw⟩
 ·obtain ⟨r, hr⟩ := h.lbp; exact ⟨r, e.place _ _ hr⟩
 ·obtain ⟨rb, d, sz, q1, q2⟩ := h.acs i a ha; exact ⟨rb, d, sz, e.place _ _ q1, q2⟩
end
theorem z4X {es : List Nat} (h : allLit es = true) : ∀ v ∈ es, tagOf v = 1 ∧ payOf v < 18446744073709551616 := by
 induction es with
 | nil => intro v hv; cases hv
 | cons x l ih =>
  have e : allLit (x :: l) = sel (sel (Nat.beq (tagOf x) 1) (ltb (payOf x) 18446744073709551616) false) (allLit l) false := rfl
  rw [e] at h
  obtain ⟨h1, h2⟩ := selA h
  obtain ⟨h3, h4⟩ := selA h1
  intro v hv
  rcases List.mem_cons.1 hv with rfl | hv
  ·exact ⟨by simpa using h3, (z08 _ _).1 h4⟩
  ·exact ih h2 v hv
theorem zea {l : List Nat} {a b : Nat} (h : isL2 l a b = true) : l = [a, b] := by
 unfold isL2 at h
 split at h
 ·rename_i x y
  obtain ⟨h1, h2⟩ := selA h
  rw [show x = a by simpa using h1, show y = b by simpa using h2]
 ·cases h
section
open Go.ConcR.Gen Go.ConcN.Gen
open Go.ConcR (stA smA KK WgAt DC0 Payload)
variable [Payload] {Lk : WgLink} {P : Program} {E : Env} {base n0 bw Wg nt ni lb : Nat} {ρA ρ : Rho} {LA L : Look} {v1 v : World} {s s' : DS} {acc : List Acc} {prs : List (Nat × Obj)} {tmps : Array Value} {f : FFix} {ds : List Deferred} {cs : List Frame}
 {call : Nat → List Nat → Trie → Nat → OR} {q : PC} {Fz : Nat → Option Obj} {Post : Sta → Prop} {pend : Bool}
theorem wgPtr {x : Nat} {u : Value} {sz : Nat} (h : @VR (noK E) ρ L x u) (hx : x = wP bw 0) (hbw : bw < 16384) (hb : ρ bw = some (Wg, 0, sz)) : u = .pointer (some ⟨Wg, 0, none⟩) := by
 letI : Env := noK E
 letI := pad0
 subst hx
 rcases h.z1j (z0P bw 0) with ⟨e1, _⟩ | ⟨b, oo, rb, d, sz', hρ, hoo, e1, e2⟩
 ·have e3 := congrArg payOf e1
  rw [show wP bw 0 = mk 3 (1048576 * (bw + 1) + 0) from rfl, z05 3 _ (by omega), show payOf 3 = 0 from rfl] at e3
  omega
 ·have e3 := congrArg payOf e1
  rw [show wP bw 0 = mk 3 (1048576 * (bw + 1) + 0) from rfl, show wP b oo = mk 3 (1048576 * (b + 1) + oo) from rfl, z05 3 _ (by omega), z05 3 _ (by omega)] at e3
  have eb : b = bw := by omega
  have eo : oo = 0 := by omega
  subst eb; subst eo
  rw [hb] at hρ
  injection hρ with hρ
  injection hρ with h1 h2
  injection h2 with h2 h3
  subst h1; subst h2
  rw [e2]
theorem zbH (H : WgLib P Lk) (hq : q.addF = Lk.add) (hro : f.ro = none) (hbw : bw < 16384) {kk : DS → SL} (h : addW q bw nt s kk = .fin s') (hI : PhI E base n0 bw Wg ρA LA v1 nt s ni lb acc prs ρ L v tmps)
  (hk : ∀ s2 tmps2, kk s2 = .fin s' → PhI E base n0 bw Wg ρA LA v1 nt s2 ni lb acc prs ρ L v tmps2 → PhE P Lk.tWg Wg Fz Post true prs (mkF f tmps2 ds s2.k, cs, v)) : PhE P Lk.tWg Wg Fz Post false prs (mkF f tmps ds s.k, cs, v) := by
 letI : Env := noK E
 letI := pad0
 obtain ⟨k0, T, Hp, n⟩ := s
 obtain ⟨ops, i', rest, k', o, hk0, ho, hw, hm⟩ := z3P h
 simp only at hk0 hw hm
 clear h
 subst hk0
 split at hm
 ·rename_i c d hop hd
  split at hm
  ·rename_i g hc
   rw [zf] at hm
   split at hm
   ·rename_i hcond
    obtain ⟨h1, h2⟩ := selA hcond
    obtain ⟨h3, h4⟩ := selA h2
    have hg : g = q.addF := by simpa using h1
    have hl := zea h3
    have ht : TR ρ L nt T tmps := hI.t
    have ha := z1N ht c.args.toList (by
     rw [hl]
     have e : noBad [wP bw 0, wI 1] = sel (Nat.beq (tagOf (wP bw 0)) 15) false (sel (Nat.beq (tagOf (wI 1)) 15) false true) := rfl
     rw [e, z0P]; rfl)
    rw [hl] at ha
    obtain ⟨sz, hwg⟩ := hI.wg
    have hargs : c.args.map (evT tmps) = #[.pointer (some ⟨Wg, 0, none⟩), .int .i64 1] := by
     apply Array.ext'
     rw [Array.toList_map]
     generalize c.args.toList.map (evT tmps) = vs at ha
     cases ha with
     | cons _ x _ vs' hx htl =>
      cases htl with
      | cons _ y _ vs'' hy hnil =>
       cases hnil
       rw [wgPtr (E := E) hx rfl hbw hwg]
       obtain ⟨p, hp, p1, p2, p3⟩ := hy.z0i (by rw [z1i])
       have hp1 : p = 1 := by
        have := congrArg payOf p1
        rw [show wI 1 = mk 1 1 from rfl, show wI p = mk 1 p from rfl, z05 1 1 (by omega), z05 1 p (by omega)] at this
        omega
       subst hp1
       rw [p3]; rfl
    have he : execOp (evT tmps) o = callFunc Lk.add #[.pointer (some ⟨Wg, 0, none⟩), .int .i64 1] := by
     unfold execOp
     have ef : evT tmps (.func Lk.add) = .func (.func Lk.add) #[] #[] := rfl
     simp [hop, hc, resolve, Deferred.ofValue, ef, invoke, hargs, hg, hq]
    refine zer (addAtF H ho (by rw [← z0q ht o]; exact hw) hro he) ?_
    refine hk _ _ hm (hI.went (s1 := ⟨.inRegion ops rest :: k', setW T d 0, Hp, n⟩) hI.c ?_ (Ex3.refl _ _) (Below.refl _ _) (.refl _ _ _ _) (Nat.le_refl _))
    rw [hd]
    exact ht.set ((z08 _ _).1 h4) (by decide) .undef
   ·cases hm
  ·cases hm
 ·cases hm
theorem za3 (H : WgLib P Lk) (hq : q.waitF = Lk.wait) (hro : f.ro = none) (hbw : bw < 16384) {kk : DS → SL} (h : waitW q bw nt s kk = .fin s') (hI : PhI E base n0 bw Wg ρA LA v1 nt s ni lb acc prs ρ L v tmps)
  (hk : ∀ s2 tmps2, kk s2 = .fin s' → PhI E base n0 bw Wg ρA LA v1 nt s2 ni lb acc prs ρ L v tmps2 → (∃ v'', Back Fz prs v v'') ∧ ∀ v'', Back Fz prs v v'' → Post (mkF f tmps2 ds s2.k, cs, v'')) : PhE P Lk.tWg Wg Fz Post false prs (mkF f tmps ds s.k, cs, v) := by
 letI : Env := noK E
 letI := pad0
 obtain ⟨k0, T, Hp, n⟩ := s
 obtain ⟨ops, i', rest, k', o, hk0, ho, hw, hm⟩ := z3P h
 simp only at hk0 hw hm
 clear h
 subst hk0
 split at hm
 ·rename_i c d hop hd
  split at hm
  ·rename_i g hc
   rw [zf] at hm
   split at hm
   ·rename_i hcond
    obtain ⟨h1, h2⟩ := selA hcond
    obtain ⟨h3, h4⟩ := selA h2
    have hg : g = q.waitF := by simpa using h1
    have hl := zcQ h3
    have ht : TR ρ L nt T tmps := hI.t
    have ha := z1N ht c.args.toList (by
     rw [hl]
     have e : noBad [wP bw 0] = sel (Nat.beq (tagOf (wP bw 0)) 15) false true := rfl
     rw [e, z0P]; rfl)
    rw [hl] at ha
    obtain ⟨sz, hwg⟩ := hI.wg
    have hargs : c.args.map (evT tmps) = #[.pointer (some ⟨Wg, 0, none⟩)] := by
     apply Array.ext'
     rw [Array.toList_map]
     generalize c.args.toList.map (evT tmps) = vs at ha
     cases ha with
     | cons _ x _ vs' hx hnil =>
      cases hnil
      rw [wgPtr (E := E) hx rfl hbw hwg]
    have he : execOp (evT tmps) o = callFunc Lk.wait #[.pointer (some ⟨Wg, 0, none⟩)] := by
     unfold execOp
     have ef : evT tmps (.func Lk.wait) = .func (.func Lk.wait) #[] #[] := rfl
     simp [hop, hc, resolve, Deferred.ofValue, ef, invoke, hargs, hg, hq]
    have hkk := hk _ _ hm (hI.went (tmps' := tmps.setIfInBounds d (.tuple #[])) (s1 := ⟨.inRegion ops rest :: k', setW T d 0, Hp, n⟩) hI.c (ht.set ((z08 _ _).1 h4) (by decide) .undef) (Ex3.refl _ _) (Below.refl _ _) (.refl _ _ _ _) (Nat.le_refl _))
    refine ze9 (waitAtF H ho (by rw [← z0q ht o]; exact hw) hro he) hkk.1 fun v'' hb => ?_
    rw [hd]
    exact hkk.2 v'' hb
   ·cases hm
  ·cases hm
 ·cases hm
end
end Go.Eng
namespace Go.Eng
open Go Go.RowKit
open Go.Conc
open Go.Conc.Lib
open Go.ConcN (WgLive)
open Go.Eng.Wg
structure PCok (P : Program) (Lk : WgLink) (q : PC) : Prop where
 add : q.addF = Lk.add
 wait : q.waitF = Lk.wait
 done : q.dn = Lk.done
 w : ∃ fn, P.funcs[q.wf]? = some fn ∧ fn.body = some q.bodyw ∧ fn.name ≠ "runtime.NumGoroutine" ∧ fn.results = #[] ∧ fn.ntmps = q.nw
 s : ∃ fn, P.funcs[q.sf]? = some fn ∧ fn.body = some q.bodys ∧ fn.name ≠ "runtime.NumGoroutine" ∧ fn.results = #[] ∧ fn.ntmps = q.ns
 ch : ∃ e dir i, P.underlying q.tC = some (.chan dir e) ∧ P.info? e = some i ∧ i.bytes ≤ 1024
section
open Go.ConcR.Gen Go.ConcN.Gen
open Go.ConcR (stA smA KK WgAt DC0 Payload)
variable [Payload] {Lk : WgLink} {P : Program} {E : Env} {base n0 bw Wg nt ni lb : Nat} {ρA ρ : Rho} {LA L : Look} {v1 v : World} {s s' : DS} {acc : List Acc} {prs : List (Nat × Obj)} {tmps : Array Value} {f : FFix} {ds : List Deferred} {cs : List Frame}
 {call : Nat → List Nat → Trie → Nat → OR} {q : PC} {Fz : Nat → Option Obj} {Post : Sta → Prop} {pend : Bool}
theorem zbI (H : WgLib P Lk) (hq : PCok P Lk q) (hcall : ∀ Pd : Pad, Pd.main = false → Pd.leap = noLeap → @CallB (noK E) Pd P call) (hro : f.ro = none) (hkd : f.kind ≠ .early) (hbw : bw < 16384) (hl : acc.length < 1000) (hfrz : ∀ x, x < base → ¬ MineAt v1 x)
  {kk : DS → Acc → SL} (h : goAt P call q bw n0 ni lb s kk = .fin s') (hI : PhI E base n0 bw Wg ρA LA v1 nt s ni lb acc prs ρ L v tmps)
  (hk : ∀ s2 a rb L2 v2 tmps2, kk s2 a = .fin s' → PhI E base n0 bw Wg ρA LA v1 nt s2 s2.n lb (acc ++ [a]) (prs ++ [prOf rb a]) ρ L2 v2 tmps2 → PhE P Lk.tWg Wg Fz Post false (prs ++ [prOf rb a]) (mkF f tmps2 ds s2.k, cs, v2)) :
  PhE P Lk.tWg Wg Fz Post true prs (mkF f tmps ds s.k, cs, v) := by
 letI : Env := noK E
 letI := pad0
 obtain ⟨k0, T, Hp, n⟩ := s
 obtain ⟨ops, i', rest, k', o, hk0, ho, hw, hm⟩ := z3P h
 simp only at hk0 hw hm
 clear h
 subst hk0
 have c : Ctx base Hp n ρ L v := hI.c
 have ht : TR ρ L nt T tmps := hI.t
 split at hm
 ·rename_i cl hop hd
  split at hm
  ·rename_i x hc hargs
   rw [z8] at hm
   split at hm
   ·rename_i h10
    split at hm
    ·rename_i m c0 hget
     rw [zf] at hm
     split at hm
     ·rename_i hcond
      obtain ⟨h1, h2⟩ := selA hcond
      obtain ⟨h3, h4⟩ := selA h2
      obtain ⟨h5, h6⟩ := selA h4
      obtain ⟨h7, h8⟩ := selA h6
      obtain ⟨h9, h11⟩ := selA h8
      have h1 : getW c0 0 = q.wf := by simpa using h1
      have h5 := Nat.le_of_ble_eq_true h5
      have h7 := Nat.le_of_ble_eq_true h7
      have h9 := Nat.le_of_ble_eq_true h9
      have h11 := Nat.le_of_ble_eq_true h11
      obtain ⟨m', cc, caps, hL, hsz, hcaps, hfv⟩ := (zC ht x (by rw [h10]; decide)).z7F h10 ⟨_, _, c.agree.2 _ _ hget⟩
      have hLx := c.agree.2 _ _ hget
      rw [hL] at hLx
      injection hLx with hLx; injection hLx with _ e1 e2
      subst e1; subst e2
      have hcap : AR ρ L (unlist m' (Nat.shiftRight cc 128)) caps.toList := z2J m' _ _ (by simpa using hsz) fun i hi => by
       have := hcaps i (by simpa using hi)
       have e2 : getW (Nat.shiftRight cc 128) i = getW cc (i + 1) := by
        rw [z1w, z1w, show Nat.shiftRight cc 128 = cc >>> 128 from rfl, ← Nat.shiftRight_add, show 128 + 128 * i = 128 * (i + 1) from by omega]
       rw [e2]; simpa using this
      rw [h1] at hfv
      unfold childE at hm
      split at hm
      ·rename_i Hc hkc
       obtain ⟨s4, hwk, hm⟩ := z9f hm
       split at hm
       ·rename_i cap es hend
        rw [zf] at hm
        split at hm
        ·rename_i hlit
         split at hm
         ·rename_i H2 hkp
          split at hm
          ·rename_i hgone
           have o' := hI.ord
           obtain ⟨fw, w1, w2, w3, w4, w5⟩ := hq.w
           obtain ⟨fs, s1, s2, s3, s4', s5⟩ := hq.s
           obtain ⟨sz, hwg⟩ := hI.wg
           obtain ⟨⟨rb, dd, szb⟩, hlb⟩ := hI.lbp
           have hfz : ∀ x, x < base → ¬ MineAt v x := fun x hx hmx => hfrz x hx (by
            obtain ⟨ob, q1, q2⟩ := hmx
            exact ⟨ob, by rw [← hI.below.block x hx]; exact q1, q2⟩)
           obtain ⟨Lc, cc', Kc⟩ := zbC (E := E) c h7 hkc hI.low hfz
           obtain ⟨Lp, cp, Kp⟩ := za1 (E := E) c h11 hkp
           have he : execOp (evT tmps) o = pure (.spawn { target := .fn (.func q.wf) caps, args := #[] }) := by
            have ha0 : cl.args = #[] := Array.ext' hargs
            unfold execOp
            simp [hop, hc, resolve, Deferred.ofValue, hfv, ha0]
           have hgo := fun W => zbE (P := P) (main := true) (ds := ds) (k := k') (cs := cs) (rest := rest) ho (by rw [← z0q ht o]; exact hw) hro hkd he rfl W
           have htc : TR ρ L fw.ntmps (listW (unlist m' (Nat.shiftRight cc 128))) (caps ++ Array.replicate (fw.ntmps - caps.size) Go.undef) := z8g hcap h3 (by rw [w5]; exact h5)
           have hwork := zbA (E := noK E) (Lk := Lk) (P := P) (Wg := Wg) (f0 := ⟨q.wf, .deferred, none⟩) (cs0 := [bornF P]) H hcall rfl (by simp) (zbG w1 w4) s1 s2 s3 s4' s5 (bw := bw) (b := lb) (by rw [← hq.done]; exact hwk) cc'
            (by rw [← w5]; exact htc.mono Kc.ext) hwg hbw hlb hend (fun u hu => (z4X hlit u hu).1)
           have hborn : WkE P Lk.tWg Wg (prOf rb (lb, cap, es)) ((born P { target := .fn (.func q.wf) caps, args := #[] }).frame, [], junkIf (fun x => MineAt v x ∧ ¬ Bof ni ρ L x) v) :=
            WkT.mute (fun W => zbF rfl rfl w1 w2 w3 W) hwork
           refine zes (by rw [hI.len]; omega) hgo hborn (zdC (Bof ni ρ L) v) ?_
           have hlbn : lb < n := c.fresh.lt hlb
           refine hk ⟨.inRegion ops rest :: k', T, H2, n⟩ (lb, cap, es) rb Lp _ _ hm ⟨cp, ?_, hI.ex.trans Kp.ext.toExt0.ex3, fun b hb hA => ?_, hI.low, hI.below.trans ⟨rfl, rfl, rfl, by rw [z2y]; exact Nat.le_refl _, fun x hx => ?_⟩, hI.wg, hI.lbp, ⟨by simp only; omega, Nat.le_refl _⟩, by simp [hI.len], fun i a ha => ?_, fun i j a b ha hb hab => ?_, fun a ha => ?_⟩
           ·rw [hd]; exact ht.mono Kp.ext
           ·obtain ⟨q1, q2⟩ := hI.bare b hb hA
            exact ⟨by rw [Kp.out b (by omega)]; exact q1, q2⟩
           ·refine z2X ?_
            rintro ⟨j, r, j1, j2, j3, j4, j5⟩
            have := c.sim.rw j r j2 j4
            omega
           ·by_cases hi : i < acc.length
            ·rw [List.getElem?_append_left hi] at ha
             obtain ⟨rb', d', sz', q1, q2, q3, q4⟩ := hI.acs i a ha
             exact ⟨rb', d', sz', q1, by rw [List.getElem?_append_left (by rw [hI.len]; exact hi)]; exact q2, q3, by simp only; omega⟩
            ·rw [List.getElem?_append_right (by omega)] at ha
             have hi0 : i - acc.length = 0 := by
              rcases Nat.eq_zero_or_pos (i - acc.length) with h0 | h0
              ·exact h0
              ·rw [List.getElem?_eq_none (by simp; omega)] at ha; cases ha
             rw [hi0] at ha
             have ha' : a = (lb, cap, es) := by simpa using ha.symm
             subst ha'
             exact ⟨rb, dd, szb, hlb, by rw [List.getElem?_append_right (by rw [hI.len]; omega), hI.len, hi0]; rfl, by simp only; omega, by simp only; omega⟩
           ·have key : ∀ i a, (acc ++ [(lb, cap, es)])[i]? = some a → (acc[i]? = some a ∧ i < acc.length) ∨ (i = acc.length ∧ a = (lb, cap, es)) := by
             intro i a ha
             by_cases hi : i < acc.length
             ·rw [List.getElem?_append_left hi] at ha; exact .inl ⟨ha, hi⟩
             ·rw [List.getElem?_append_right (by omega)] at ha
              have hi0 : i - acc.length = 0 := by
               rcases Nat.eq_zero_or_pos (i - acc.length) with h0 | h0
               ·exact h0
               ·rw [List.getElem?_eq_none (by simp; omega)] at ha; cases ha
              rw [hi0] at ha
              exact .inr ⟨by omega, by simpa using ha.symm⟩
            rcases key i a ha with ⟨a1, a2⟩ | ⟨a1, a2⟩ <;> rcases key j b hb with ⟨b1, b2⟩ | ⟨b1, b2⟩
            ·exact hI.inc i j a b a1 b1 hab
            ·obtain ⟨_, _, _, _, _, _, q4⟩ := hI.acs i a a1
             rw [hab, b2] at q4; simp only at q4; omega
            ·obtain ⟨_, _, _, _, _, _, q4⟩ := hI.acs j b b1
             rw [← hab, a2] at q4; simp only at q4; omega
            ·omega
           ·rcases List.mem_append.1 ha with h1 | h1
            ·exact hI.lit a h1
            ·have : a = (lb, cap, es) := by simpa using h1
             subst this; exact hlit
          ·cases hm
         ·cases hm
        ·cases hm
       ·cases hm
      ·cases hm
     ·cases hm
    ·cases hm
   ·cases hm
  ·cases hm
 ·cases hm
theorem z4I (H : WgLib P Lk) (hq : PCok P Lk q) (hcall : ∀ Pd : Pad, Pd.leap = noLeap → @CallB (noK E) Pd P call) (hro : f.ro = none) (hkd : f.kind ≠ .early) (hbw : bw < 16384) (hfrz : ∀ x, x < base → ¬ MineAt v1 x) {kw : DS → Nat → List Acc → SL}
  (hkw : ∀ s2 ni2 lb2 acc2 prs2 ρ2 L2 v2 tmps2, kw s2 ni2 acc2 = .fin s' → PhI E base n0 bw Wg ρA LA v1 nt s2 ni2 lb2 acc2 prs2 ρ2 L2 v2 tmps2 → PhE P Lk.tWg Wg Fz Post false prs2 (mkF f tmps2 ds s2.k, cs, v2)) :
  ∀ (m : Nat) {s : DS} {pend : Bool} {ni lb : Nat} {acc : List Acc} {prs : List (Nat × Obj)} {ρ : Rho} {L : Look} {v : World} {tmps : Array Value}, phE P call q nt bw n0 kw m s pend ni lb acc = .fin s' → PhI E base n0 bw Wg ρA LA v1 nt s ni lb acc prs ρ L v tmps → PhE P Lk.tWg Wg Fz Post pend prs (mkF f tmps ds s.k, cs, v)
 | 0, s, pend, ni, lb, acc, prs, ρ, L, v, tmps, h, _ => by cases h
 | m + 1, s, pend, ni, lb, acc, prs, ρ, L, v, tmps, h, hI => by
  have e : phE P call q nt bw n0 kw (m + 1) s pend ni lb acc = onStop (drive P call (phSp q) nt q.fuel s) fun s1 =>
   sel (Nat.beq (kindAt q s1) 0) (mkcAt q.tC nt s1 fun lb' s2 => phE P call q nt bw n0 kw m s2 pend ni lb' acc)
    (sel (Nat.beq (kindAt q s1) 1) (sel (sel pend (ltb acc.length 1000) false) (goAt P call q bw n0 ni lb s1 fun s2 a => phE P call q nt bw n0 kw m s2 false s2.n lb (acc ++ [a])) (.no 451))
     (sel (Nat.beq (kindAt q s1) 2) (sel pend (.no 452) (addW q bw nt s1 fun s2 => phE P call q nt bw n0 kw m s2 true ni lb acc)) (sel pend (.no 453) (kw s1 ni acc)))) := rfl
  rw [e] at h
  obtain ⟨s1, hd, g⟩ := z1Y h
  clear h
  refine PhT.of_steps fun Pd hmn hlp => ?_
  letI : Env := noK E
  obtain ⟨ρ', L', v', tmps', c', t', e', b', l', n', hst⟩ := (@z1X (noK E) Pd base nt P call (phSp q) (hcall Pd hlp) f ds cs q.fuel s s1 tmps ρ L v hd hI.c hI.t).ex
  refine ⟨_, ?_, hst⟩
  have hI' : PhI E base n0 bw Wg ρA LA v1 nt s1 ni lb acc prs ρ' L' v' tmps' := hI.went c' t' e'.toExt0.ex3 b' l'.any n'
  rw [z8, z8, z8] at g
  split at g
  ·-- a channel
   refine PhT.of_steps fun Pd hmn hlp => ?_
   obtain ⟨te, dir, ti, u1, u2, u3⟩ := hq.ch
   obtain ⟨s2, h2, ρ2, L2, v2, tmps2, rb, c2, t2, e2, l2, n2, b2, hlb, hst2⟩ := @za2 (noK E) Pd P base nt ρ' L' v' f tmps' ds cs s1 s' q.tC te dir ti u1 u2 u3 _ g hI'.c hI'.t
   refine ⟨_, ?_, hst2⟩
   have hI2 := hI'.went (s1 := s2) c2 t2 e2.toExt0.ex3 b2 l2 n2
   exact z4I H hq hcall hro hkd hbw hfrz hkw m h2 { hI2 with lbp := ⟨_, hlb⟩ }
  ·split at g
   ·-- a child
    rw [zf] at g
    split at g
    ·rename_i hc
     obtain ⟨hp, hl⟩ := selA hc
     subst hp
     exact zbI H hq (fun Pd _ hl => hcall Pd hl) hro hkd hbw ((z08 _ _).1 hl) hfrz g hI' fun s2 a rb L2 v2 tmps2 hk hI2 => z4I H hq hcall hro hkd hbw hfrz hkw m hk hI2
    ·cases g
   ·split at g
    ·rw [zf] at g
     split at g
     ·cases g
     ·rename_i hp
      have hp : pend = false := by simpa using hp
      subst hp
      exact zbH H hq.add hro hbw g hI' fun s2 tmps2 hk hI2 => z4I H hq hcall hro hkd hbw hfrz hkw m hk hI2
    ·rw [zf] at g
     split at g
     ·cases g
     ·rename_i hp
      have hp : pend = false := by simpa using hp
      subst hp
      exact hkw _ _ _ _ _ _ _ _ _ g hI'
end
end Go.Eng
namespace Go.Eng
open Go Go.RowKit
open Go.Conc
theorem z7v {E : Env} {base : Nat} {ρ : Rho} {L : Look} {w : World} (hS : Sim base ρ L w) {bw j : Nat} {r0 r : Nat × Nat × Nat} {k : Blk} (hb : ρ bw = some r0) (hL : L bw = some .gone) (hj : ρ j = some r) (hl : live L j) (hk : L j = some k) (hne : j ≠ bw) : r.1 ≠ r0.1 := by
 intro he
 have hlw : live L bw := NoRow.live (k := .gone) trivial hL
 have hgw : grp L bw = bw + 1 := by simp [grp, hL]
 by_cases h0 : grp L j = 0
 ·exact hS.apart hj h0 hb (by rw [hgw]; omega) he
 ·refine hS.sep j bw r _ hj hb hl hlw h0 (by rw [hgw]; omega) ?_ he
  rw [hgw]
  intro hg
  cases k with
  | cells nj cj gj kj sj mj =>
   rw [z0x hk] at hg h0
   obtain ⟨_, _, _, _, _, hk2⟩ := hS.kind j _ _ _ _ _ _ hk h0
   rw [hg, Nat.add_sub_cancel, hL] at hk2
   cases hk2
  | box => simp [grp, hk] at h0
  | poly => simp [grp, hk] at h0
  | opq =>
   simp only [grp, hk] at hg
   split at hg
   ·exact hne (by omega)
   ·omega
  | _ => simp [grp, hk] at hg; exact hne hg
noncomputable section
def goneAll (H : Trie) (acc : List Acc) : Bool := List.rec (motive := fun _ => Bool) true (fun a _ ih => match tget H a.1 with | some .gone => ih | _ => false) acc
def Kof (acc : List Acc) : Nat → Option Blk := List.rec (motive := fun _ => Nat → Option Blk) (fun _ => none) (fun a _ ih b => match ih b with | some k => some k | none => if b = a.1 then some (.chn a.2.1 a.2.2 1) else none) acc
end
theorem z3h {H : Trie} : ∀ {acc : List Acc}, goneAll H acc = true → ∀ a ∈ acc, tget H a.1 = some .gone
 | [], _ => fun a ha => by cases ha
 | x :: l, h => fun a ha => by
  have e : goneAll H (x :: l) = (match tget H x.1 with | some .gone => goneAll H l | _ => false) := rfl
  rw [e] at h
  split at h
  ·rename_i hx
   rcases List.mem_cons.1 ha with rfl | ha
   ·exact hx
   ·exact z3h h a ha
  ·cases h
theorem zaV : ∀ {acc : List Acc} {b : Nat} {k : Blk}, Kof acc b = some k → ∃ a ∈ acc, a.1 = b ∧ k = .chn a.2.1 a.2.2 1
 | [], b, k, h => by cases h
 | x :: l, b, k, h => by
  have e : Kof (x :: l) b = (match Kof l b with | some k => some k | none => if b = x.1 then some (.chn x.2.1 x.2.2 1) else none) := rfl
  rw [e] at h
  split at h
  ·rename_i k' hk
   injection h with h; subst h
   obtain ⟨a, h1, h2⟩ := zaV hk
   exact ⟨a, List.mem_cons_of_mem _ h1, h2⟩
  ·split at h
   ·rename_i hb
    injection h with h
    exact ⟨x, List.mem_cons_self, hb.symm, h.symm⟩
   ·cases h
theorem z7w (E : Env) : ∀ {acc : List Acc} {H : Trie}, Dep 14 H → (∀ a ∈ acc, a.1 < 16384) → Dep 14 (chansH acc H) ∧ ∀ b k, tget (chansH acc H) b = some k → Kof acc b = some k ∨ (Kof acc b = none ∧ tget H b = some k)
 | [], H, hd, _ => ⟨hd, fun b k h => .inr ⟨rfl, h⟩⟩
 | x :: l, H, hd, hlt => by
  have e : chansH (x :: l) H = chansH l (hset H x.1 (.chn x.2.1 x.2.2 1)) := rfl
  obtain ⟨h1, h2⟩ := z7w E (acc := l) (z5r 14 H x.1 (.chn x.2.1 x.2.2 1) hd) (fun a ha => hlt a (List.mem_cons_of_mem _ ha))
  rw [e]
  refine ⟨h1, fun b k hb => ?_⟩
  have ek : Kof (x :: l) b = (match Kof l b with | some k => some k | none => if b = x.1 then some (.chn x.2.1 x.2.2 1) else none) := rfl
  rw [ek]
  rcases h2 b k hb with h3 | ⟨h3, h4⟩
  ·rw [h3]; exact .inl rfl
  ·rw [h3]
   have h4' : tget (hset H x.1 (.chn x.2.1 x.2.2 1)) b = some k := h4
   rw [z1d hd (hlt x List.mem_cons_self)] at h4'
   split at h4'
   ·rename_i hb'
    injection h4' with h4'
    exact .inl (by simp [hb', h4'])
   ·rename_i hb'
    exact .inr ⟨by simp [hb'], h4'⟩
section
variable {E : Env} {base n0 nb nt bw Wg ni lb : Nat} {HA Hf : Trie} {ρA ρ2 : Rho} {LA L2 : Look} {wA v v2 v'' : World} {s2 : DS} {acc : List Acc} {prs : List (Nat × Obj)} {tmps2 : Array Value}
theorem PhI.z9i (h : PhI E wA.heap.size n0 bw Wg ρA (cutL HA LA) (phaseV wA.heap.size Wg v) nt s2 ni lb acc prs ρ2 L2 v2 tmps2) {b : Nat} {o : Obj} (hp : (b, o) ∈ prs) : ∃ (i : Nat) (a : Acc) (rb d sz : Nat), acc[i]? = some a ∧ prs[i]? = some (prOf rb a) ∧ ρ2 a.1 = some (rb, d, sz) ∧ (b, o) = prOf rb a ∧ a ∈ acc := by
 obtain ⟨i, hi, he⟩ := List.mem_iff_getElem.1 hp
 have hia : i < acc.length := by rw [← h.len]; exact hi
 obtain ⟨rb, d, sz, q1, q2, _⟩ := h.acs i acc[i] (by simp [hia])
 refine ⟨i, acc[i], rb, d, sz, by simp [hia], q2, q1, ?_, List.getElem_mem hia⟩
 rw [List.getElem?_eq_getElem hi, he] at q2
 injection q2
theorem behind (cA : @Ctx E base HA n0 ρA LA wA) (hkpv : ∀ b, b < wA.heap.size → v.heap[b]? = wA.heap[b]?) (hbv : Below base wA v) (hI : PhI E wA.heap.size n0 bw Wg ρA (cutL HA LA) (phaseV wA.heap.size Wg v) nt s2 ni lb acc prs ρ2 L2 v2 tmps2) (hWg : wA.heap.size ≤ Wg)
  (hga : goneAll s2.H acc = true) (hj : joinH s2.H n0 (s2.n - n0) HA = .ok Hf) (hB : Back (phaseF wA.heap.size v) prs v2 v'') :
  ∃ Lf, @Ctx E base (chansH acc Hf) s2.n ρ2 Lf v'' ∧ @TR E ρ2 Lf nt s2.T tmps2 ∧ Ext ρA LA ρ2 Lf ∧ Loc HA n0 ρA LA ρ2 Lf ∧ Below base wA v'' := by
 have c2 := hI.c
 obtain ⟨sim2, ag2, fr2⟩ := hI.c
 have bnd2 : ∀ b r, ρ2 b = some r → r.1 < v2.heap.size := by letI : Env := noK E; exact sim2.bnd
 have bs2 : wA.heap.size ≤ v2.heap.size := by letI : Env := noK E; exact sim2.bs
 have rw2 : ∀ b r, ρ2 b = some r → grp L2 b ≠ 0 → wA.heap.size ≤ r.1 := by letI : Env := noK E; exact sim2.rw
 have gone : ∀ a ∈ acc, L2 a.1 = some .gone := fun a ha => ag2.2 _ _ (z3h hga a ha)
 have prhi : ∀ b o, (b, o) ∈ prs → wA.heap.size ≤ b := fun b o hp => by
  obtain ⟨i, a, rb, d, sz, q1, q2, q3, q4, q5⟩ := hI.z9i hp
  have hb : b = rb := congrArg Prod.fst q4
  have : wA.heap.size ≤ rb := rw2 a.1 _ q3 (by simp [grp, gone a q5])
  omega
 have v2lo : ∀ b, b < wA.heap.size → v2.heap[b]? = (phaseV wA.heap.size Wg v).heap[b]? := fun b hb => hI.below.block b hb
 have vb : ∀ b, b < wA.heap.size → b ≠ Wg := fun b hb => by omega
 have hlo : ∀ b, b < wA.heap.size → v''.heap[b]? = wA.heap[b]? := by
  intro b hb
  obtain ⟨o, ho⟩ : ∃ o, wA.heap[b]? = some o := ⟨wA.heap[b], by simp [hb]⟩
  have hv : v.heap[b]? = some o := (hkpv b hb).trans ho
  rw [ho]
  by_cases hm : MineAt v b
  ·exact hB.full b o (.inl (by unfold phaseF; rw [if_pos ⟨hb, hm⟩]; exact hv))
  ·have hno : ¬ MineO o := fun h => hm ⟨o, hv, h⟩
   have hfo : frzO o = o := by
    unfold frzO
    split
    ·rename_i e; exact e.symm
    ·rename_i hj
     have : ¬ ∀ c t, o ≠ .cells c t (0, c.size) := fun h => hno ⟨hj, h⟩
     obtain ⟨c, hc⟩ := Classical.not_forall.1 this
     obtain ⟨t, ht⟩ := Classical.not_forall.1 hc
     have := Classical.not_not.1 ht
     subst this
     rfl
   have h2 : v2.heap[b]? = some o := by
    rw [v2lo b hb]
    unfold phaseV
    rw [z4f, z2X (B := fun b => b = Wg) (v := v) (vb b hb), hv]
    simp [hb, hfo]
   refine hB.rest b o h2 fun o' ho' => ?_
   rcases ho' with h3 | h3
   ·unfold phaseF at h3
    rw [if_neg (fun h => hm h.2)] at h3; cases h3
   ·have := prhi b o' h3; omega
 have hhi : ∀ j r k, ρ2 j = some r → live L2 j → L2 j = some k → k ≠ .gone → wA.heap.size ≤ r.1 → v''.heap[r.1]? = v2.heap[r.1]? := by
  intro j r k hj hl hk hne hr
  have hlt : r.1 < v2.heap.size := bnd2 j r hj
  have hv2 : v2.heap[r.1]? = some v2.heap[r.1] := by simp [hlt]
  rw [hv2]
  refine hB.rest _ _ hv2 fun o' ho' => ?_
  rcases ho' with h3 | h3
  ·unfold phaseF at h3
   rw [if_neg (fun h => by omega)] at h3; cases h3
  ·obtain ⟨i, a, rb, d, sz, q1, q2, q3, q4, q5⟩ := hI.z9i h3
   have hb : r.1 = rb := congrArg Prod.fst q4
   refine z7v (E := noK E) sim2 q3 (gone a q5) hj hl hk (fun e => ?_) hb
   subst e
   rw [gone a q5] at hk; injection hk with hk; exact hne hk.symm
 have hK : ∀ b k, Kof acc b = some k → n0 ≤ b ∧ L2 b = some .gone ∧ (∃ cap es cl, k = .chn cap es cl) ∧ ∀ r, ρ2 b = some r → ∀ L', @BR E ρ2 L' v'' r k := by
  intro b k hk
  obtain ⟨a, h1, h2, h3⟩ := zaV hk
  subst h2; subst h3
  obtain ⟨i, hi, he⟩ := List.mem_iff_getElem.1 h1
  have hia : acc[i]? = some a := by rw [List.getElem?_eq_getElem hi, he]
  obtain ⟨rb, d, sz, q1, q2, q3, _⟩ := hI.acs i a hia
  refine ⟨q3, gone a h1, ⟨_, _, _, rfl⟩, fun r hr L' => ?_⟩
  rw [q1] at hr; injection hr with hr; subst hr
  have hfull := hB.full rb (prOf rb a).2 (.inr (List.mem_of_getElem? q2))
  refine ⟨(a.2.2.map litI).toArray, a.2.2.length, 0, false, hfull, by simp, fun _ => ⟨rfl, rfl, rfl⟩, fun i hi => ?_⟩
  have hi' : i < a.2.2.length := by simpa using hi
  obtain ⟨t1, t2⟩ := z4X (hI.lit a h1) _ (List.getElem_mem hi')
  have e1 : a.2.2.getD i 0 = wI (payOf a.2.2[i]) := by
   simp only [List.getD_eq_getElem?_getD, List.getElem?_eq_getElem hi', Option.getD_some]
   show _ = mk 1 (payOf _)
   rw [mk_eq, z5s]
   rw [z7D] at t1
   omega
  have e2 : (a.2.2.map litI).toArray[i] = .int .i64 (sInt (payOf a.2.2[i])) := by simp [litI]
  rw [e1, e2]
  exact .int _ t2
 obtain ⟨cf, ex⟩ := Ctx.restore (E := E) cA c2 rfl hI.ex hI.bare (by have := hI.ord; omega) hj (by rw [show v2.heap.size ≤ v''.heap.size ↔ v2.heap.size ≤ v''.heap.size from Iff.rfl]; exact hB.size) hlo hhi hK
  (fun hd => z7w E hd (fun a ha => Ctx.lt16 (E := noK E) c2 (z3h hga a ha)))
 have jlo : ∀ b, b < n0 → joinL n0 LA L2 (Kof acc) b = LA b := fun b h => by unfold joinL; rw [if_pos h]
 have one : ∀ b q, LA b = some q → joinL n0 LA L2 (Kof acc) b = some q := fun b q hb => by rw [jlo b (cA.fresh.ltL hb)]; exact hb
 refine ⟨_, cf, TR.re (E := E) (k' := E.kept) ex hI.t, ⟨⟨hI.ex.place, fun b k m c h => one b _ h, fun b p q s d lo hi h => one b _ h, fun b h => ?_⟩, fun b h => one b _ h⟩, ⟨fun b hb hρ => ⟨jlo b hb, (hI.bare b hb hρ).2⟩⟩, ?_⟩
 ·rcases h with h | h
  ·exact .inl (one b _ h)
  ·exact .inr (one b _ h)
 ·have b2 := hI.below
  refine ⟨(hB.os.trans b2.os).trans hbv.os, (hB.tape.trans b2.tape).trans hbv.tape, (hB.output.trans b2.output).trans hbv.output, ?_, fun j hj => hlo j (Nat.lt_of_lt_of_le hj cA.sim.bs)⟩
  have h1 := hB.size
  have h2 := bs2
  omega
theorem zeb (hI : PhI E wA.heap.size n0 bw Wg ρA (cutL HA LA) (phaseV wA.heap.size Wg v) nt s2 ni lb acc prs ρ2 L2 v2 tmps2) (hga : goneAll s2.H acc = true) : ∃ v'', Back (phaseF wA.heap.size v) prs v2 v'' := by
 classical
 obtain ⟨sim2, ag2, fr2⟩ := hI.c
 have bnd2 : ∀ b r, ρ2 b = some r → r.1 < v2.heap.size := by letI : Env := noK E; exact sim2.bnd
 have bs2 : wA.heap.size ≤ v2.heap.size := by letI : Env := noK E; exact sim2.bs
 have rw2 : ∀ b r, ρ2 b = some r → grp L2 b ≠ 0 → wA.heap.size ≤ r.1 := by letI : Env := noK E; exact sim2.rw
 have gone : ∀ a ∈ acc, L2 a.1 = some .gone := fun a ha => ag2.2 _ _ (z3h hga a ha)
 have fzlo : ∀ b o, phaseF wA.heap.size v b = some o → b < wA.heap.size := fun b o h => by
  unfold phaseF at h
  split at h
  ·rename_i hc; exact hc.1
  ·cases h
 have prhi : ∀ b o, (b, o) ∈ prs → wA.heap.size ≤ b ∧ b < v2.heap.size := fun b o hp => by
  obtain ⟨i, a, rb, d, sz, q1, q2, q3, q4, q5⟩ := hI.z9i hp
  have hb : b = rb := congrArg Prod.fst q4
  have h1 : wA.heap.size ≤ rb := rw2 a.1 _ q3 (by simp [grp, gone a q5])
  have h2 : rb < v2.heap.size := bnd2 a.1 _ q3
  subst hb
  exact ⟨h1, h2⟩
 have uniq : ∀ b o o', (phaseF wA.heap.size v b = some o ∨ (b, o) ∈ prs) → (phaseF wA.heap.size v b = some o' ∨ (b, o') ∈ prs) → o = o' := by
  intro b o o' h h'
  rcases h with h | h <;> rcases h' with h' | h'
  ·rw [h] at h'; injection h'
  ·have := fzlo b o h; have := (prhi b o' h').1; omega
  ·have := fzlo b o' h'; have := (prhi b o h).1; omega
  ·obtain ⟨i, a, rb, d, sz, q1, q2, q3, q4, q5⟩ := hI.z9i h
   obtain ⟨i', a', rb', d', sz', q1', q2', q3', q4', q5'⟩ := hI.z9i h'
   have hb : b = rb := congrArg Prod.fst q4
   have hb' : b = rb' := congrArg Prod.fst q4'
   have haa : a.1 = a'.1 := by
    apply Classical.byContradiction
    intro hne
    exact z7v (E := noK E) sim2 q3 (gone a q5) q3' (NoRow.live (k := .gone) trivial (gone a' q5')) (gone a' q5') (fun e => hne e.symm) (by show rb' = rb; omega)
   have hii := hI.inc i i' a a' q1 q1' haa
   subst hii
   rw [q1] at q1'; injection q1' with q1'; subst q1'
   have e1 := congrArg Prod.snd q4
   have e2 := congrArg Prod.snd q4'
   simp only [prOf] at e1 e2
   rw [e1, e2]
 have hf : ∀ b : Nat, ∃ o : Obj, ((∃ o, phaseF wA.heap.size v b = some o ∨ (b, o) ∈ prs) → (phaseF wA.heap.size v b = some o ∨ (b, o) ∈ prs)) := fun b => by
  by_cases h : ∃ o, phaseF wA.heap.size v b = some o ∨ (b, o) ∈ prs
  ·obtain ⟨o, ho⟩ := h; exact ⟨o, fun _ => ho⟩
  ·exact ⟨junk, fun h' => absurd h' h⟩
 obtain ⟨g, hg⟩ := Classical.axiomOfChoice hf
 let hp : Array Obj := Array.ofFn (n := v2.heap.size) fun b => if (∃ o, phaseF wA.heap.size v b.1 = some o ∨ (b.1, o) ∈ prs) then g b.1 else v2.heap[b.1]
 have hget : ∀ b, (hb : b < v2.heap.size) → hp[b]? = some (if (∃ o, phaseF wA.heap.size v b = some o ∨ (b, o) ∈ prs) then g b else v2.heap[b]) := fun b hb => by
  show (Array.ofFn _)[b]? = _
  rw [Array.getElem?_ofFn]
  simp [hb]
 have hsz : hp.size = v2.heap.size := by show (Array.ofFn _).size = _; simp
 refine ⟨{ v2 with heap := hp }, by show v2.heap.size ≤ hp.size; omega, fun b o ho => ?_, fun b o ho => ?_, fun b o ho hn => ?_, rfl, rfl, rfl, fun hv hn b o ho => ?_⟩
 ·have hb : b < v2.heap.size := by rw [← hsz]; exact (Array.getElem?_eq_some_iff.1 ho).1
  have h1 := hget b hb
  have ho' : hp[b]? = some o := ho
  rw [h1] at ho'
  injection ho' with ho'
  split at ho'
  ·rename_i hc
   rcases hg b hc with h2 | h2
   ·rw [ho'] at h2; exact .inr (.inr (.inl h2))
   ·rw [ho'] at h2; exact .inr (.inr (.inr h2))
  ·subst ho'; exact .inr (.inl (by simp [hb]))
 ·have hb : b < v2.heap.size := by
   rcases ho with h | h
   ·have := fzlo b o h; have := bs2; omega
   ·exact (prhi b o h).2
  show hp[b]? = some o
  rw [hget b hb, if_pos ⟨o, ho⟩]
  exact congrArg some (uniq b _ _ (hg b ⟨o, ho⟩) ho)
 ·have hb : b < v2.heap.size := (Array.getElem?_eq_some_iff.1 ho).1
  show hp[b]? = some o
  rw [hget b hb, if_neg (fun ⟨o', ho'⟩ => hn o' ho')]
  rw [Array.getElem?_eq_getElem hb] at ho
  exact ho
 ·have hb : b < v2.heap.size := by rw [← hsz]; exact (Array.getElem?_eq_some_iff.1 ho).1
  have ho' : hp[b]? = some o := ho
  rw [hget b hb] at ho'
  injection ho' with ho'
  split at ho'
  ·rename_i hc
   have h2 := hg b hc
   rw [ho'] at h2
   exact hn b o h2
  ·subst ho'; exact hv b _ (by simp [hb])
end
end Go.Eng
namespace Go.Eng
open Go Go.RowKit
open Go.Conc
open Go.Conc.Lib
open Go.ConcN (WgLive)
open Go.Eng.Wg
noncomputable section
def recvAt (tC nt : Nat) (s : DS) (k : DS → SL) : SL :=
 opAt s fun o k' => match o.op, o.dst with
  | .recv t ch true, some d => sel (sel (Nat.beq t tC) (sel (ltb d nt) (sel (ltb s.n maxBlk) (Nat.beq (tagOf (ev s.T ch)) 10) false) false) false)
    (match tget s.H (payOf (ev s.T ch)) with
     | some (.box 4 b 0) => (match tget s.H b with
      | some (.chn cap (x :: es) cl) => sel (sel (Nat.beq (Nat.mod cl 2) 1) (allLit [x]) false) (k ⟨k', setW s.T d (mk 6 s.n), hset (hset s.H b (.chn cap es 3)) s.n (.box 1 2 (listW [x, wB true])), Nat.succ s.n⟩) (.no 460)
      | some (.chn cap [] cl) => sel (Nat.beq (Nat.mod cl 2) 1) (k ⟨k', setW s.T d (mk 6 s.n), hset s.H s.n (.box 1 2 (listW [wI 0, wB false])), Nat.succ s.n⟩) (.no 461)
      | _ => .no 462)
     | _ => .no 463) (.no 464)
  | _, _ => .no 465
def recvSp : Op → Bool
 | .recv .. => true
 | _ => false
def isRet (s : DS) : Bool := match s.k with | .code .ret :: _ => true | _ => false
def recvE (P : Program) (call : Nat → List Nat → Trie → Nat → OR) (tC nt fuel m : Nat) : DS → SL :=
 Nat.rec (motive := fun _ => DS → SL) (fun _ => .no 470) (fun _ ih s => onStop (drive P call recvSp nt fuel s) fun s1 => sel (isRet s1) (.fin s1) (recvAt tC nt s1 ih)) m
end
section
variable [E : Env] [Pd : Pad]
variable {P : Program} {base nt : Nat} {ρ : Rho} {L : Look} {w : World} {f : FFix} {tmps : Array Value} {ds : List Deferred} {cs : List Frame} {s s' : DS} {call : Nat → List Nat → Trie → Nat → OR}
theorem za4 {ops : Array Oper} {o : Oper} {i : Nat} {rest : List Nat} {k : List Item} {main : Bool} {t e : TypeId} {dir : ChanDir} {ti : TypeInfo} {z : Value} {ch : Operand} {c : Nat} {ok : Bool} (hu : P.underlying t = some (.chan dir e)) (hi : P.info? e = some ti) (hz : ti.zero = some z)
  (ho : ops[i]? = some o) (hw : Region.wanted o (yielded ops tmps) = true) (hro : f.ro = none) (hk : f.kind ≠ .early) (hop : o.op = .recv t ch ok) (hch : evT tmps ch = .chan (some c)) (W : World) :
  stepG P main (G (mkF f tmps ds (.inRegion ops (i :: rest) :: k)) cs) W = .comm (G (mkF f tmps ds (.inRegion ops (i :: rest) :: k)) cs) #[rcase c z] true (.recv ok) W #[] := by
 have hk' : (f.kind == CallKind.early) = false := by simpa using hk
 rw [z3C ho hw hro]
 have e1 : (execOp (evT tmps) o).runT P W #[] = (.ok (.comm #[rcase c z] true (.recv ok)) W, #[]) := by
  simp [execOp, hop, hch, rcase, underlying, zeroValue, typeInfo, hu, hi, hz]
 unfold stepG.apply
 simp only [e1]
 simp [mkF, hk', G, GStep.after, seen_none]
theorem z7x {ty : TypeId} (hl : Pd.leap = leapP ty) {fr : Frame} {st : Sta} (h : recvP P fr cs (padded fr cs w) (fun x => x = st)) : Steps P (fr, cs, w) st := by
 have h1 : One P (fr, cs, w) (Pd.pick fr cs w (fun x => x = st)) := .leap fr cs w _ (by rw [hl]; exact .inr h) ⟨st, rfl⟩
 have h2 : Pd.pick fr cs w (fun x => x = st) = st := Pd.pick_ok fr cs w (fun x => x = st) ⟨st, rfl⟩
 rw [h2] at h1
 exact .one h1
theorem listW2 (a b : Nat) (ha : a < 2 ^ 128) (hb : b < 2 ^ 128) : getW (listW [a, b]) 0 = a ∧ getW (listW [a, b]) 1 = b := by
 have h : allSlot [a, b] = true := by
  have e : allSlot [a, b] = sel (ltb a 340282366920938463463374607431768211456) (sel (ltb b 340282366920938463463374607431768211456) true false) false := rfl
  rw [e, (z08 _ _).2 (by simpa using ha), (z08 _ _).2 (by simpa using hb)]; rfl
 exact ⟨by rw [z0X _ h]; rfl, by rw [z0X _ h]; rfl⟩
theorem z9j {ty : TypeId} (hl : Pd.leap = leapP ty) {tC e : Nat} {dir : ChanDir} {ti : TypeInfo} (hu : P.underlying tC = some (.chan dir e)) (hi : P.info? e = some ti) (hz : ti.zero = some (.int .i64 0)) (hro : f.ro = none) (hkd : f.kind ≠ .early) {kk : DS → SL}
  (h : recvAt tC nt s kk = .fin s') (c : Ctx base s.H s.n ρ L w) (ht : TR ρ L nt s.T tmps) :
  ∃ s1, kk s1 = .fin s' ∧ ∃ ρ' L' w' tmps', Ctx base s1.H s1.n ρ' L' w' ∧ TR ρ' L' nt s1.T tmps' ∧ Ext ρ L ρ' L' ∧ Loc s.H s.n ρ L ρ' L' ∧ s.n ≤ s1.n ∧ Below base w w' ∧ Steps P (lone (mkF f tmps ds s.k) cs w) (lone (mkF f tmps' ds s1.k) cs w') := by
 obtain ⟨k0, T, H, n⟩ := s
 obtain ⟨ops, i', rest, k', o, hk, ho, hw, hm⟩ := z3P h
 simp only at hk hw hm c ht
 clear h
 subst hk
 obtain ⟨wp, hwp⟩ : ∃ wp, wp = padded (mkF f tmps ds (.inRegion ops (i' :: rest) :: k')) cs w := ⟨_, rfl⟩
 have cp : Ctx base H n ρ L wp := hwp ▸ c.padded _ _
 have bp : Below base w wp := hwp ▸ z0l c _ _
 split at hm
 ·rename_i t ch d hop hd
  rw [zf] at hm
  split at hm
  ·rename_i hc
   obtain ⟨h1, h2⟩ := selA hc
   obtain ⟨h3, h4⟩ := selA h2
   obtain ⟨h5, h6⟩ := selA h4
   have e1 : t = tC := by simpa using h1
   subst e1
   have h3 := (z08 _ _).1 h3
   have h5 : n < 16384 := (z08 _ _).1 h5
   have h6 : tagOf (ev T ch) = 10 := by simpa using h6
   split at hm
   ·rename_i b hbox
    obtain ⟨rb, d', sz, hcv, hb⟩ := (zC ht ch (by rw [h6]; decide)).z8f h6 (c.agree.2 _ _ hbox)
    have hgo := fun W => za4 (P := P) (main := true) (ds := ds) (k := k') (cs := cs) (rest := rest) hu hi hz ho (by rw [← z0q ht o]; exact hw) hro hkd hop hcv W
    have fin : ∀ {L1 : Look} {w1 : World} {H1 : Trie} {x y : Nat} {vx vy : Value}, Ctx base H1 n ρ L1 w1 → Ext ρ L ρ L1 → x < 2 ^ 128 → y < 2 ^ 128 → VR ρ L1 x vx → VR ρ L1 y vy →
      Ctx base (hset H1 n (.box 1 2 (listW [x, y]))) (n + 1) ρ (upd L1 n (.box 1 2 (listW [x, y]))) w1 ∧ TR ρ (upd L1 n (.box 1 2 (listW [x, y]))) nt (setW T d (mk 6 n)) (tmps.setIfInBounds d (.tuple #[vx, vy])) ∧ Ext ρ L1 ρ (upd L1 n (.box 1 2 (listW [x, y]))) := by
     intro L1 w1 H1 x y vx vy c1 e1 hx hy vrx vry
     have e2 : Ext ρ L1 ρ (upd L1 n (.box 1 2 (listW [x, y]))) := .freshL c1.fresh _
     obtain ⟨g0, g1⟩ := listW2 x y hx hy
     refine ⟨⟨c1.sim.box c1.fresh 1 2 _, c1.agree.hset h5 _, c1.fresh.updL _⟩, ((ht.mono e1).mono e2).set h3 (by rw [mk_eq]; omega) (.tup n 2 (listW [x, y]) #[vx, vy] (upd_same _ _ _) rfl fun i hi => ?_), e2⟩
     have hi2 : i < 2 := hi
     rcases (show i = 0 ∨ i = 1 by omega) with rfl | rfl
     ·rw [g0]; exact vrx.mono e2
     ·rw [g1]; exact vry.mono e2
    split at hm
    ·rename_i cap x es cl hchn
     rw [zf] at hm
     split at hm
     ·rename_i hcl
      obtain ⟨k1, k2⟩ := selA hcl
      refine ⟨_, hm, ?_⟩
      obtain ⟨hL, hbase, vs, sn, rc, tm, q1, q2, q4, q3⟩ := z3D cp hb hchn
      rw [k1] at q1
      obtain ⟨t1, t2⟩ := z4X k2 x (by simp)
      have hvs : 0 < vs.size := by rw [q2]; simp
      have hx0 := q3 0 hvs
      have ex0 : (x :: es).getD 0 0 = x := rfl
      rw [ex0] at hx0
      obtain ⟨L1, c1, e1, b1, l1⟩ := z8e (cap' := cap) (cl' := 3) (es' := es) (vs' := vs.extract 1 vs.size) (sn' := sn) (rc' := rc + 1) (tm' := tm) cp hb hchn (by simp [q2]) (fun h => by omega) (fun i hi => by
       have hi' : i + 1 < vs.size := by simp at hi; omega
       have := q3 (i + 1) hi'
       have e3 : (x :: es).getD (i + 1) 0 = es.getD i 0 := rfl
       rw [e3] at this
       rw [Array.getElem_extract]
       simpa [Nat.add_comm] using this)
      obtain ⟨c2, t2', e2⟩ := fin (x := x) (y := wB true) (vx := vs[0]) (vy := .bool true) c1 e1 (by rw [z5s] at t2; omega) (by decide) (hx0.mono e1) (.bool true)
      refine ⟨_, _, _, _, c2, t2', e1.trans e2, (l1.trans (Nat.le_refl _) (.freshL (H := H) _)), Nat.le_succ _, bp.trans b1, ?_⟩
      refine z7x hl ⟨rb, cap, vs, true, sn, rc, tm, _, true, hgo, by rw [← hwp]; exact q1, .inl ⟨hvs, ?_⟩⟩
      rw [z2n i' rest _ ho, hd, ← hwp]
      have ev0 : vs.getD 0 undef = vs[0] := by simp [Array.getD_eq_getD_getElem?, hvs]
      rw [ev0]
      rfl
     ·cases hm
    ·rename_i cap cl hchn
     rw [zf] at hm
     split at hm
     ·rename_i k1
      refine ⟨_, hm, ?_⟩
      obtain ⟨hL, hbase, vs, sn, rc, tm, q1, q2, q4, q3⟩ := z3D cp hb hchn
      rw [k1] at q1
      have hvs : vs = #[] := Array.eq_empty_of_size_eq_zero (by simpa using q2)
      subst hvs
      obtain ⟨c2, t2', e2⟩ := fin (x := wI 0) (y := wB false) (vx := .int .i64 0) (vy := .bool false) cp (.refl _ _) (by decide) (by decide) (.int 0 (by omega)) (.bool false)
      refine ⟨_, _, _, _, c2, t2', e2, .freshL (H := H) _, Nat.le_succ _, bp, ?_⟩
      refine z7x hl ⟨rb, cap, #[], true, sn, rc, tm, _, true, hgo, by rw [← hwp]; exact q1, .inr ⟨rfl, rfl, ?_⟩⟩
      rw [z2n i' rest _ ho, hd, ← hwp]
      rfl
     ·cases hm
    ·cases hm
   ·cases hm
  ·cases hm
 ·cases hm
theorem z6z {ty : TypeId} (hcall : CallB P call) (hl : Pd.leap = leapP ty) {tC e fuel : Nat} {dir : ChanDir} {ti : TypeInfo} (hu : P.underlying tC = some (.chan dir e)) (hi : P.info? e = some ti) (hz : ti.zero = some (.int .i64 0)) (hro : f.ro = none) (hkd : f.kind ≠ .early) :
  ∀ (m : Nat) {s : DS} {ρ : Rho} {L : Look} {w : World} {tmps : Array Value}, recvE P call tC nt fuel m s = .fin s' → Ctx base s.H s.n ρ L w → TR ρ L nt s.T tmps →
  ∃ ρ' L' w' tmps' k, s'.k = .code .ret :: k ∧ Ctx base s'.H s'.n ρ' L' w' ∧ TR ρ' L' nt s'.T tmps' ∧ Ext ρ L ρ' L' ∧ Loc s.H s.n ρ L ρ' L' ∧ s.n ≤ s'.n ∧ Below base w w' ∧ Steps P (lone (mkF f tmps ds s.k) cs w) (lone (mkF f tmps' ds s'.k) cs w')
 | 0, s, ρ, L, w, tmps, h, _, _ => by cases h
 | m + 1, s, ρ, L, w, tmps, h, c, ht => by
  have e : recvE P call tC nt fuel (m + 1) s = onStop (drive P call recvSp nt fuel s) fun s1 => sel (isRet s1) (.fin s1) (recvAt tC nt s1 (recvE P call tC nt fuel m)) := rfl
  rw [e] at h
  obtain ⟨s1, hd, g⟩ := z1Y h
  clear h
  obtain ⟨ρ1, L1, w1, tmps1, c1, t1, e1, b1, l1, n1, hst⟩ := (z1X (sp := recvSp) hcall f ds cs fuel hd c ht).ex
  rw [zf] at g
  split at g
  ·rename_i hr
   injection g with g
   subst g
   unfold isRet at hr
   split at hr
   ·rename_i k hk
    exact ⟨ρ1, L1, w1, tmps1, k, hk, c1, t1, e1, l1.any, n1, b1, hst⟩
   ·cases hr
  ·obtain ⟨s2, h2, ρ2, L2, w2, tmps2, c2, t2, e2, l2, n2, b2, hst2⟩ := z9j hl hu hi hz hro hkd g c1 t1
   obtain ⟨ρ3, L3, w3, tmps3, k, q0, q1, q2, q3, q4, q5, q6, q7⟩ := z6z hcall hl hu hi hz hro hkd m h2 c2 t2
   exact ⟨ρ3, L3, w3, tmps3, k, q0, q1, q2, (e1.trans e2).trans q3, (l1.any.trans n1 l2).trans (Nat.le_trans n1 n2) q4, Nat.le_trans n1 (Nat.le_trans n2 q5), (b1.trans b2).trans q6, (hst.trans hst2).trans q7⟩
end
end Go.Eng
namespace Go.Eng
open Go Go.RowKit
open Go.Conc
open Go.Conc.Lib
open Go.ConcN (WgLive)
open Go.Eng.Wg
noncomputable section
structure TC where
 fT : Nat
 nt : Nat
 body : Code
 r : Nat
 tW : Nat
 q : PC
def mkSp : Op → Bool
 | .makeSlice .. => true
 | _ => false
def wgSp (tW : Nat) : Op → Bool
 | .alloc t => Nat.beq t tW
 | _ => false
def tableE (P : Program) (call : Nat → List Nat → Trie → Nat → OR) (t : TC) (args : List Nat) (H : Trie) (n : Nat) : SL :=
 sel (sel (allSlot args) (Nat.ble args.length t.nt) false)
  (onStop (drive P call mkSp t.nt t.q.fuel ⟨[.code t.body], listW args, H, n⟩) fun sA =>
   onStop (drive P call (wgSp t.tW) t.nt t.q.fuel ⟨sA.k, sA.T, cutH sA.H sA.n, sA.n⟩) fun sW =>
    wgAt t.tW t.nt sW fun bw s3 =>
     phE P call t.q t.nt bw sA.n (fun s ni acc => waitW t.q bw t.nt s fun s4 => sel (goneAll s4.H acc)
      (match joinH s4.H sA.n (s4.n - sA.n) sA.H with | .ok Hf => recvE P call t.q.tC t.nt t.q.fuel t.q.m ⟨s4.k, s4.T, chansH acc Hf, s4.n⟩ | .no x => .no x) (.no 480)) t.q.m s3 false s3.n bw []) (.no 481)
def tableS (P : Program) (call : Nat → List Nat → Trie → Nat → OR) (t : TC) : Sums := fun f args H n =>
 sel (Nat.beq f t.fT) (match tableE P call t args H n with | .fin s => .yes (.ok (getW s.T t.r) s.H s.n) | .no _ => .no) .no
end
structure TCok (P : Program) (Lk : WgLink) (t : TC) : Prop where
 fn : ∃ fn, P.funcs[t.fT]? = some fn ∧ fn.body = some t.body ∧ fn.name ≠ "runtime.NumGoroutine" ∧ fn.results = #[.tmp t.r] ∧ fn.ntmps = t.nt ∧ t.r < t.nt
 q : PCok P Lk t.q
 tw : t.tW = Lk.tWg
 wz : ∃ i z, P.info? t.tW = some i ∧ i.zero = some z ∧ z.cells = #[.int .u64 0, .int .u32 0]
 ez : ∃ e dir ti, P.underlying t.q.tC = some (.chan dir e) ∧ P.info? e = some ti ∧ ti.zero = some (.int .i64 0)
section
open Go.ConcR.Gen Go.ConcN.Gen
open Go.ConcR (stA smA KK WgAt DC0 Payload)
variable [Payload] {Lk : WgLink} {P : Program} {call : Nat → List Nat → Trie → Nat → OR} {t : TC}
theorem tableS_sound (HL : WgLib P Lk) (ok : TCok P Lk t) (hcall : ∀ (E : Env) (Pd : Pad), @CallB E Pd P call) (E : Env) (Pd : Pad) (hmain : Pd.main = true) (hl : Pd.leap = leapP Lk.tWg) : @SumS E Pd P (tableS P call t) := by
 intro base H n ρ L w fid args vs v H' n' cs c ha h
 have e0 : tableS P call t fid args H n = sel (Nat.beq fid t.fT) (match tableE P call t args H n with | .fin s => .yes (.ok (getW s.T t.r) s.H s.n) | .no _ => .no) .no := rfl
 rw [e0, z8] at h
 split at h
 rotate_left
 ·cases h
 rename_i hf
 subst hf
 split at h
 rotate_left
 ·cases h
 rename_i sF hE
 injection h with h
 injection h with hv hH hn
 subst hv; subst hH; subst hn
 obtain ⟨fn, f1, f2, f3, f4, f5, f6⟩ := ok.fn
 unfold tableE at hE
 rw [zf] at hE
 split at hE
 rotate_left
 ·cases hE
 rename_i hargs
 obtain ⟨a1, a2⟩ := selA hargs
 have a2 := Nat.le_of_ble_eq_true a2
 obtain ⟨sA, hdA, hE⟩ := z1Y hE
 obtain ⟨sW, hdW, hE⟩ := z1Y hE
 obtain ⟨F, hF⟩ : ∃ F : FFix, F = ⟨t.fT, .normal, none⟩ := ⟨_, rfl⟩
 have hFro : F.ro = none := by rw [hF]
 have hFk : F.kind ≠ .early := by rw [hF]; simp
 have henter : Frame.enter P t.fT vs .normal = mkF F (vs ++ Array.replicate (fn.ntmps - vs.size) Go.undef) [] [.code t.body] := by rw [hF]; simp [Frame.enter, f1, f2, mkF]
 have t0 : TR ρ L t.nt (listW args) (vs ++ Array.replicate (fn.ntmps - vs.size) Go.undef) := by
  have := z8g (fn := fn) ha a1 (by rw [f5]; exact a2)
  rw [f5] at this; rw [f5]; exact this
 obtain ⟨ρA, LA, wA, tmpsA, cA, tA, eA, bA, lA, nA, hstA⟩ := (z1X (sp := mkSp) (hcall E Pd) F [] cs t.q.fuel hdA c t0).ex
 have cC := Ctx.cut cA
 have tC : @TR (keepK E fun k => wA.heap[k]?) ρA (cutL sA.H LA) t.nt sA.T tmpsA := TR.re (E := E) (k := E.kept) (zaQ (ρ := ρA) cA.agree) tA
 obtain ⟨⟨ρW, LW, wW, tmpsW, cW, tW, eW, bW, lW, nW, hstW⟩⟩ := (@z1X (keepK E fun k => wA.heap[k]?) Pd base t.nt P call (wgSp t.tW) (hcall _ Pd) F [] cs t.q.fuel ⟨sA.k, sA.T, cutH sA.H sA.n, sA.n⟩ sW tmpsA ρA (cutL sA.H LA) wA hdW cC tC)
 obtain ⟨zi, zz, z1, z2, z3⟩ := ok.wz
 obtain ⟨s3, h3, ρ3, L3, w3, tmps3, Wg, c3, t3, e3, l3, n3, b3, hWg, hgone, hblk, hWs, hst3⟩ := @zbD (keepK E fun k => wA.heap[k]?) Pd P base t.nt ρW LW wW F tmpsW [] cs sW sF t.tW zi zz z1 z2 z3 _ hE cW tW
 obtain ⟨vb, hvb⟩ : ∃ vb, vb = @padded Pd (mkF F tmps3 [] s3.k) cs w3 := ⟨_, rfl⟩
 have cb : @Ctx (keepK E fun k => wA.heap[k]?) base s3.H s3.n ρ3 L3 vb := by rw [hvb]; exact @Ctx.padded (keepK E fun k => wA.heap[k]?) Pd base s3.H s3.n ρ3 L3 w3 c3 _ _
 have bpad : Below base w3 vb := by rw [hvb]; exact @z0l (keepK E fun k => wA.heap[k]?) Pd base s3.H s3.n ρ3 L3 w3 c3 _ _
 have bAv : Below base wA vb := (bW.trans b3).trans bpad
 have hsAv : wA.heap.size ≤ vb.heap.size := bAv.size
 have hkpv : ∀ b, b < wA.heap.size → vb.heap[b]? = wA.heap[b]? := fun b hb => by
  have h1 : wA.heap[b]? = some wA.heap[b] := by simp [hb]
  rw [h1]
  letI : Env := keepK E fun k => wA.heap[k]?
  exact cb.sim.kp b _ h1
 have hWgS : wA.heap.size ≤ Wg := Nat.le_trans bW.size hWs
 have hvWg : vb.heap[Wg]? = some (Go.ConcR.wgBlock t.tW 0 0) := by
  have hlt : Wg < w3.heap.size := (Array.getElem?_eq_some_iff.1 hblk).1
  rw [hvb, show padded (mkF F tmps3 [] s3.k) cs w3 = padW w3 (Pd.pad (mkF F tmps3 [] s3.k) cs w3) from rfl, z6h w3 _ Wg hlt]
  exact hblk
 have hbegin := phase_begin (ty := t.tW) (s := wA.heap.size) (v := vb) hWgS hvWg
 have hbs : base ≤ wA.heap.size := cA.sim.bs
 have exA : Ex3 ρA (cutL sA.H LA) ρ3 L3 := eW.toExt0.ex3.trans e3.toExt0.ex3
 have lA3 : ∀ b, b < sA.n → ρA b = none → L3 b = cutL sA.H LA b ∧ ρ3 b = none := fun b hb hρ => by
  obtain ⟨q1, q2⟩ := lW.bare b hb hρ
  obtain ⟨q3, q4⟩ := l3.bare b (Nat.lt_of_lt_of_le hb nW) q2
  exact ⟨q3.trans q1, q4⟩
 have hI0 : PhI E wA.heap.size sA.n sW.n Wg ρA (cutL sA.H LA) (phaseV wA.heap.size Wg vb) t.nt s3 s3.n sW.n [] [] ρ3 L3 (phaseV wA.heap.size Wg vb) tmps3 := by
  refine ⟨Ctx.phase (E := E) (kp := fun k => wA.heap[k]?) cb (fun k => Array.getElem?_eq_none_iff) hbs hsAv hWg hgone, TR.re (E := E) (Ex3.refl _ _) t3, exA, lA3, fun j r hj hr => ?_, Below.refl _ _, ⟨0, hWg⟩, ⟨_, hWg⟩, ⟨by have h9 : sA.n ≤ sW.n := nW; omega, Nat.le_refl _⟩, rfl, fun i a h => by simp at h, fun i j a b h => by simp at h, fun a h => by cases h⟩
  cases hρ : ρA j with
  | none => rw [(lA3 j hj hρ).2] at hr; cases hr
  | some q =>
   rw [exA.place _ _ hρ] at hr; injection hr with hr; subst hr
   exact cA.sim.bnd j q hρ
 obtain ⟨Post, hPost⟩ : ∃ Post : Sta → Prop, Post = fun st => ∃ s4 tmps4 ρ4 L4 v4, st = (mkF F tmps4 [] s4.k, cs, v4) ∧ recvE P call t.q.tC t.nt t.q.fuel t.q.m s4 = .fin sF ∧ @Ctx E base s4.H s4.n ρ4 L4 v4 ∧ @TR E ρ4 L4 t.nt s4.T tmps4 ∧ Ext ρA LA ρ4 L4 ∧ Loc sA.H sA.n ρA LA ρ4 L4 ∧ Below base wA v4 ∧ sA.n ≤ s4.n := ⟨_, rfl⟩
 have hbw16 : sW.n < 16384 := Ctx.lt16 (E := keepK E fun k => wA.heap[k]?) c3 hgone
 have hph : PhE P Lk.tWg Wg (phaseF wA.heap.size vb) Post false [] (mkF F tmps3 [] s3.k, cs, phaseV wA.heap.size Wg vb) := by
  refine z4I (E := E) (s' := sF) HL ok.q (fun Pd _ => hcall _ Pd) hFro hFk hbw16 (fun x hx => z4g hx) (fun s2 ni2 lb2 acc2 prs2 ρ2 L2 v2 tmps2 hk hI2 => ?_) t.q.m h3 hI0
  refine za3 (E := E) HL ok.q.wait hFro hbw16 hk hI2 fun s5 tmps5 hk5 hI5 => ?_
  rw [zf] at hk5
  split at hk5
  rotate_left
  ·cases hk5
  rename_i hga
  split at hk5
  rotate_left
  ·cases hk5
  rename_i Hf hj
  refine ⟨zeb (E := E) hI5 hga, fun v'' hB => ?_⟩
  obtain ⟨Lf, g1, g2, g3, g4, g5⟩ := behind (E := E) cA hkpv bAv hI5 hWgS hga hj hB
  rw [hPost]
  exact ⟨⟨s5.k, s5.T, chansH acc2 Hf, s5.n⟩, tmps5, ρ2, Lf, v'', rfl, hk5, g1, g2, g3, g4, g5, by have := hI5.ord; show sA.n ≤ s5.n; omega⟩
 obtain ⟨τ, hτ⟩ := hph
 obtain ⟨st0, hst0⟩ := PhT.ne τ hτ
 have hleap : @One Pd P (mkF F tmps3 [] s3.k, cs, w3) (Pd.pick (mkF F tmps3 [] s3.k) cs w3 Post) := by
  refine .leap _ _ _ _ ?_ ⟨st0, hst0⟩
  rw [hl, ← ok.tw]
  rw [← ok.tw] at hτ
  exact .inl ⟨Wg, _, _, τ, by rw [← hvb]; exact hbegin, hτ⟩
 have hpk : Post (Pd.pick (mkF F tmps3 [] s3.k) cs w3 Post) := Pd.pick_ok _ _ _ _ ⟨st0, hst0⟩
 rw [hPost] at hpk
 obtain ⟨s4, tmps4, ρ4, L4, v4, hst4, hr4, c4, t4, e4, l4, b4, n4⟩ := hpk
 rw [← hPost] at hst4
 rw [hst4] at hleap
 obtain ⟨re, rdir, rti, r1, r2, r3⟩ := ok.ez
 obtain ⟨ρ5, L5, w5, tmps5, k5, hk5, c5, t5, e5, l5, n5, b5, hst5⟩ := z6z (f := F) (ds := []) (cs := cs) (hcall E Pd) hl r1 r2 r3 hFro hFk t.q.m hr4 c4 t4
 have hret : Steps P (lone (mkF F tmps5 [] sF.k) cs w5) (lone (mkR F tmps5 [] sF.k) cs w5) := by rw [hk5]; exact z6s hFro
 obtain ⟨wr, hwr⟩ : ∃ wr, wr = padded (mkR F tmps5 [] sF.k) cs w5 := ⟨_, rfl⟩
 have c6 : Ctx base sF.H sF.n ρ5 L5 wr := by rw [hwr]; exact c5.padded _ _
 have b6 : Below base w5 wr := by rw [hwr]; exact z0l c5 _ _
 have all : Steps P (lone (Frame.enter P t.fT vs .normal) cs w) (lone (mkR F tmps5 [] sF.k) cs w5) := by
  rw [henter]
  exact (((hstA.trans (hstW.trans hst3)).trans (.one hleap)).trans hst5).trans hret
 refine ⟨ρ5, L5, wr, tmps5.getD t.r Go.undef, c6, (eA.trans e4).trans e5, ((bA.trans b4).trans b5).trans b6, (lA.any.trans nA (l4.any (H' := H))).trans (Nat.le_trans nA n4) (l5.any (H' := H)), Nat.le_trans nA (Nat.le_trans n4 n5), t5.2 t.r, ⟨fn, f1, by rw [f2]; rfl, f3⟩, ?_⟩
 refine ⟨tmps5.getD t.r Go.undef, w5, tmps5, sF.k, fn, ⟨rfl, by rw [hwr, hF]⟩, by rw [hF] at all; exact all, f1, ((bA.trans b4).trans b5).size, ?_⟩
 simp [results, f4]
end
end Go.Eng
namespace Go.Eng
open Go Go.RowKit
open Go.Conc
section
variable [E : Env]
theorem Ctx.start (w : World) (hk : ∀ k o, E.kept k = some o → w.heap[k]? = some o := by intro _ _ h; first | cases h | exact absurd (show (none : Option Obj) = some _ from h) (by simp)) : Ctx w.heap.size .nil 0 (fun _ => none) (fun _ => none) w := by
 refine ⟨⟨?_, ?_, ?_, ?_, ?_, ?_, ?_, Nat.le_refl _, ?_, ?_, fun _ _ _ _ _ _ _ h => (by cases h), fun _ _ h => (by cases h), hk⟩, ⟨?_, ?_⟩, fun b _ => ⟨rfl, rfl⟩⟩
 ·intro b r h; cases h
 ·intro b b' r r' h; cases h
 ·intro b b' r r' h; cases h
 ·intro b r n c g k s m h; cases h
 ·intro b r h; cases h
 ·intro b r h; cases h
 ·intro b r h; cases h
 ·intro b r h; cases h
 ·intro b n c g k s m h; cases h
 ·exact trivial
 ·intro b k h
  cases h
theorem Ctx.argB {base n rb d sz : Nat} {k : Blk} {H : Trie} {ρ : Rho} {L : Look} {w : World} (c : Ctx base H n ρ L w) (hn : n < 16384) {cs : Array Value} {ty : TypeId} {fz : Nat × Nat}
  (hh : w.heap[rb]? = some (.cells cs ty fz)) (hrb : rb < base ∨ ∃ o, E.kept rb = some o) (hk0 : grp (upd L n k) n = 0) (hkc : ∀ a b g x y z, k = .cells a b g x y z → g = 0)
  (hbr : BR ρ L w (rb, d, sz) k) :
  Ctx base (hset H n k) (n + 1) (updR ρ n (rb, d, sz)) (upd L n k) w := by
 have hf := c.fresh
 have hs := c.sim
 have e : Ext ρ L (updR ρ n (rb, d, sz)) (upd L n k) := .fresh hf _ _
 have old : ∀ b r, updR ρ n (rb, d, sz) b = some r → b ≠ n → ρ b = some r := fun b r h hne => by rw [z1T _ _ hne] at h; exact h
 have gold : ∀ b, b ≠ n → grp (upd L n k) b = grp L b := fun b hb => z1n hb
 have gn : grp (upd L n k) n = 0 := hk0
 have ldne : ∀ b r, ρ b = some r → grp L b = 0 ∨ grp L b - 1 ≠ n := fun b r h => by
  by_cases h0 : grp L b = 0
  ·exact .inl h0
  ·obtain ⟨⟨q, hq⟩, _⟩ := hs.ld b r h h0
   have := hf.lt hq
   exact .inr (by omega)
 have lold : ∀ b r, ρ b = some r → b ≠ n → (live (upd L n k) b ↔ live L b) := fun b r h hne => z2Y hne (ldne b r h)
 have gne : ∀ b, grp (upd L n k) b ≠ 0 → b ≠ n := fun b h hb => h (by rw [hb]; exact gn)
 refine ⟨⟨?_, ?_, ?_, ?_, ?_, ?_, ?_, hs.bs, ?_, ?_, ?_, ?_, hs.kp⟩, c.agree.hset hn _, hf.upd _ _⟩
 ·intro b r h
  by_cases hne : b = n
  ·subst hne
   rw [zU] at h; injection h with h; subst h
   exact ⟨_, upd_same _ _ _, fun _ => hbr.mono e rfl⟩
  ·have h' := old b r h hne
   obtain ⟨kk, k1, k2⟩ := hs.blk b r h'
   exact ⟨kk, by rw [upd_ne _ _ hne]; exact k1, fun hl => (k2 ((lold b r h' hne).1 hl)).mono e rfl⟩
 ·intro b b' r r' h h' hl hl' hg hg' hgg
  have hne := gne b hg
  have hne' := gne b' hg'
  rw [gold b hne] at hg hgg
  rw [gold b' hne'] at hg' hgg
  exact hs.sep b b' r r' (old b r h hne) (old b' r' h' hne') ((lold b r (old b r h hne) hne).1 hl) ((lold b' r' (old b' r' h' hne') hne').1 hl') hg hg' hgg
 ·intro b b' r r' h h' hl hl' hg hgg hrr
  have hne := gne b hg
  have hne' := gne b' (by rw [← hgg]; exact hg)
  rw [gold b hne] at hg hgg
  rw [gold b' hne'] at hgg
  exact hs.same b b' r r' (old b r h hne) (old b' r' h' hne') ((lold b r (old b r h hne) hne).1 hl) ((lold b' r' (old b' r' h' hne') hne').1 hl') hg hgg hrr
 ·intro b r m' c' g kk s mm h hl hL hg
  have hne : b ≠ n := by
   rintro rfl
   rw [upd_same] at hL; injection hL with hL; exact hg (hkc _ _ _ _ _ _ hL)
  rw [upd_ne _ _ hne] at hL
  have hg0 : grp L b = g := z0x hL
  have h' := old b r h hne
  have hi : info (upd L n k) (g - 1) = info L (g - 1) := z0K (by have := (ldne b r h').resolve_left (by rw [hg0]; exact hg); rw [hg0] at this; exact this)
  rw [hi]
  exact hs.mx b r m' c' g kk s mm h' ((lold b r h' hne).1 hl) hL hg
 ·intro b r h hg
  have hne := gne b hg
  rw [gold b hne] at hg; exact hs.rw b r (old b r h hne) hg
 ·intro b r h hg
  by_cases hne : b = n
  ·subst hne
   rw [zU] at h; injection h with h; subst h; exact hrb
  ·rw [gold b hne] at hg; exact hs.ro b r (old b r h hne) hg
 ·intro b r h
  by_cases hne : b = n
  ·subst hne
   rw [zU] at h; injection h with h; subst h
   exact (Array.getElem?_eq_some_iff.1 hh).1
  ·exact hs.bnd b r (old b r h hne)
 ·intro b r h hg
  have hne := gne b hg
  rw [gold b hne] at hg ⊢
  obtain ⟨⟨q, hq⟩, h2⟩ := hs.ld b r (old b r h hne) hg
  have hqn : grp L b - 1 ≠ n := by have := hf.lt hq; omega
  exact ⟨⟨q, by rw [z1T _ _ hqn]; exact hq⟩, by rw [gold _ hqn]; exact h2⟩
 ·intro b m' c' g kk s mm hL hg
  by_cases hne : b = n
  ·subst hne; rw [upd_same] at hL; injection hL with hL; exact absurd (hkc _ _ _ _ _ _ hL) hg
  ·rw [upd_ne _ _ hne] at hL
   obtain ⟨a1, a2, a3, a4, a5, a6⟩ := hs.kind b m' c' g kk s mm hL hg
   exact ⟨a1, a2, a3, a4, a5, by rw [upd_ne _ _ (by have := hf.ltL a6; omega)]; exact a6⟩
 ·intro b p q s d' lo hi hLb h64
  by_cases hne : b = n
  ·subst hne; rw [upd_same] at hLb; injection hLb with hLb; subst hLb; exact (hbr : False).elim
  ·rw [upd_ne _ _ hne] at hLb; exact hs.pol b p q s d' lo hi hLb h64
 ·intro b r h hg
  have hne := gne b hg
  rw [gold b hne] at hg; exact hs.rk b r (old b r h hne) hg
theorem Ctx.arg {base n rb d sz nb ch : Nat} {H : Trie} {ρ : Rho} {L : Look} {w : World} (c : Ctx base H n ρ L w) (hn : n < 16384) {cs : Array Value} {ty : TypeId} {fz : Nat × Nat}
  (hh : w.heap[rb]? = some (.cells cs ty fz)) (hrb : rb < base) (h1 : d + sz ≤ cs.size) (h2 : nb ≤ sz)
  (h3 : ∀ i, i < nb → ∃ v, cs[d + i]? = some v ∧ VR ρ L (getW ch i) v ∧ storable (getW ch i) = true) :
  Ctx base (hset H n (.cells nb ch 0 0 0 0)) (n + 1) (updR ρ n (rb, d, sz)) (upd L n (.cells nb ch 0 0 0 0)) w :=
 c.argB hn hh (.inl hrb) (z0x (upd_same _ _ _)) (fun _ _ _ _ _ _ h => by injection h with _ _ h; exact h.symm) ⟨cs, ty, fz, hh, h1, h2, fun h0 => absurd rfl h0, h3⟩
theorem zec {p : Nat} (h : p < 18446744073709551616) : wI p < 2 ^ 128 := by
 show 16 * p + 1 < _; omega
end
noncomputable def isTrue (r : OR) : Bool := match r with | .ok v _ _ => Nat.beq v 18 | .bad _ => false
def Known (P : Program) (f : Nat) : Prop := ∃ fn, P.funcs[f]? = some fn ∧ fn.body.isSome = true ∧ fn.name ≠ "runtime.NumGoroutine"
noncomputable def noSums : Sums := fun _ _ _ _ => .no
noncomputable def orS (A B : Sums) : Sums := fun f args H n => match A f args H n with | .no => B f args H n | .yes r => .yes r
theorem z9k {P : Program} {A B : Sums} (E : Env) (Pd : Pad) (ha : @SumS E Pd P A) (hb : @SumS E Pd P B) : @SumS E Pd P (orS A B) := by
 intro base H n ρ L w f args vs v H' n' cs c har h
 unfold orS at h
 split at h
 ·exact hb _ _ _ _ _ _ _ _ _ _ _ _ _ c har h
 ·rename_i r hr
  injection h with h
  subst h
  exact ha _ _ _ _ _ _ _ _ _ _ _ _ _ c har hr
def Always (P : Program) (S : Sums) : Prop := ∀ (E : Env) (Pd : Pad), @SumS E Pd P S
theorem noSums_always (P : Program) : Always P noSums := fun E Pd _ _ _ _ _ _ _ _ _ _ _ _ _ _ _ h => by cases h
theorem orS_always {P : Program} {A B : Sums} (ha : Always P A) (hb : Always P B) : Always P (orS A B) := fun E Pd => z9k E Pd (ha E Pd) (hb E Pd)
theorem call_always {P : Program} {S : Sums} (h : Always P S) (fuel d : Nat) : ∀ (E : Env) (Pd : Pad), @CallB E Pd P (callN P S fuel d) := fun E Pd => @z2x E Pd P S (h E Pd) fuel d
theorem zcU : inT knownT (strW ⟨#[0]⟩) = false := by kernel_rfl
end Go.Eng
namespace Go.Eng
open Go Go.RowKit
open Go.Conc
noncomputable section
def litW (w : Nat) : Bool := sel (ltb w 340282366920938463463374607431768211456) (sel (Nat.beq (tagOf w) 1) (ltb (payOf w) 18446744073709551616) (sel (Nat.beq w 18) true (sel (Nat.beq w 2) true (Nat.beq (tagOf w) 8)))) false
def litV (w : Nat) : Value := if tagOf w = 1 then .int .i64 (sInt (payOf w)) else if w = 18 then .bool true else if w = 2 then .bool false else .func (.func (payOf w)) #[] #[]
inductive Sh where
 | lit (w : Nat)
 | row (e n c : Nat)
 | agg (m c : Nat)
 | clo (f : Nat) (cs : List Nat)
def allLt (m c : Nat) : Bool := Nat.rec (motive := fun _ => Nat → Bool) (fun _ => true) (fun _ ih c => sel (litW (getW c 0)) (ih (Nat.shiftRight c 128)) false) m c
def matchC (H : Trie) (c : Nat) (cs : List Nat) : Nat → Bool :=
 List.rec (motive := fun _ => Nat → Bool) (fun _ => true)
  (fun x _ ih i => sel (sel (litW x) (sel (Nat.beq (tagOf (getW c i)) 3) (sel (Nat.beq (pBlk (payOf (getW c i))) 0) false (Nat.beq (rd H (Nat.pred (pBlk (payOf (getW c i)))) (pOff (payOf (getW c i)))) x)) false) false) (ih (Nat.succ i)) false) cs
def matchS (H : Trie) (w : Nat) (s : Sh) : Bool :=
 Sh.rec (motive := fun _ => Bool) (fun u => sel (Nat.beq w u) (litW u) false)
  (fun e n c => sel (sel (Nat.beq (tagOf w) 4) (sel (Nat.beq (sLen (payOf w)) n) (sel (Nat.beq (sEs (payOf w)) e) (sel (Nat.beq n 0) false (sel (Nat.beq (sBlk (payOf w)) 0) false true)) false) false) false)
   (match rdRange H (Nat.pred (sBlk (payOf w))) (sOff (payOf w)) (Nat.mul n e) with | .some c' => sel (Nat.beq c' c) (allLt (Nat.mul n e) c) false | .none => false) false)
  (fun m c => sel (Nat.beq (tagOf w) 6) (match tget H (payOf w) with | some (.box 0 m' c') => sel (Nat.beq m' m) (sel (Nat.beq c' c) (allLt m c) false) false | _ => false) false)
  (fun f cs => sel (Nat.beq (tagOf w) 10) (match tget H (payOf w) with | some (.box 2 m c) => sel (Nat.beq m (lenN cs)) (sel (Nat.beq (getW c 0) f) (matchC H c cs 1) false) false | _ => false) false) s
def matchL (H : Trie) (l : List Sh) : List Nat → Bool :=
 List.rec (motive := fun _ => List Nat → Bool) (fun ws => match ws with | [] => true | _ => false)
  (fun s _ ih ws => match ws with | [] => false | w :: ws => sel (matchS H w s) (ih ws) false) l
abbrev Memo := Nat × List Sh × Nat
def memoS (l : List Memo) : Sums := fun f args H n =>
 List.rec (motive := fun _ => SR) .no (fun e _ ih => sel (sel (Nat.beq e.1 f) (matchL H e.2.1 args) false) (.yes (.ok e.2.2 H n)) ih) l
structure Lay where
 H : Trie
 n : Nat
 ws : List Nat
def layC (cs : List Nat) : Trie → Nat → List Nat → Lay :=
 List.rec (motive := fun _ => Trie → Nat → List Nat → Lay) (fun H n ws => ⟨H, n, ws⟩)
  (fun x _ ih H n ws => ih (hset H n (.cells 1 x 0 0 0 0)) (Nat.succ n) (ws ++ [wP n 0])) cs
def layS (s : Sh) (H : Trie) (n : Nat) (k : Nat → Trie → Nat → Lay) : Lay :=
 Sh.rec (motive := fun _ => Lay) (fun u => k u H n)
  (fun e m c => k (wS n e 0 m 0) (hset H n (.cells (Nat.mul m e) c 0 0 0 0)) (Nat.succ n))
  (fun m c => k (mk 6 n) (hset H n (.box 0 m c)) (Nat.succ n))
  (fun f cs => let y := layC cs H n []
   k (mk 10 y.n) (hset y.H y.n (.box 2 (lenN cs) (listW (f :: y.ws)))) (Nat.succ y.n)) s
def layL (l : List Sh) : Trie → Nat → List Nat → Lay :=
 List.rec (motive := fun _ => Trie → Nat → List Nat → Lay) (fun H n ws => ⟨H, n, ws⟩)
  (fun s _ ih H n ws => layS s H n fun w H' n' => ih H' n' (ws ++ [w])) l
def shOk (l : List Sh) : Bool := List.rec (motive := fun _ => Bool) true (fun s _ ih => Sh.rec (motive := fun _ => Bool) (fun _ => ih) (fun _ _ _ => ih) (fun _ _ => ih) (fun f _ => sel (ltb f 1000000) ih false) s) l
def memoRun (P : Program) (S : Sums) (fuel d f : Nat) (l : List Sh) : OR := let y := layL l .nil 0 []; sel (sel (shOk l) (ltb y.n 1000) false) (funE P (callN P S fuel d) fuel f y.ws y.H y.n) (.bad 0)
def isWord (v : Nat) (r : OR) : Bool := match r with | .ok v' _ _ => sel (Nat.beq v' v) (sel (Nat.beq (tagOf v) 1) (ltb (payOf v) 18446744073709551616) (sel (Nat.beq v 18) true (Nat.beq v 2))) false | .bad _ => false
end
def LitAt (w : World) (a : Addr) (u : Nat) : Prop := litW u = true ∧ ∃ cs ty fz, a.spot = none ∧ w.heap[a.block]? = some (.cells cs ty fz) ∧ cs[a.off]? = some (litV u)
def HoldsS (w : World) (s : Sh) (v : Value) : Prop :=
 match s with
 | .lit u => litW u = true ∧ v = litV u
 | .row e n c => 0 < n ∧ e < 256 ∧ n < 1048576 ∧ ∃ rb d cp cs ty fz, v = .slice (some ⟨rb, d, none⟩) n cp ∧ n ≤ cp ∧ cp < 9223372036854775808 ∧ w.heap[rb]? = some (.cells cs ty fz) ∧ d + cp * e ≤ cs.size ∧
   ∀ i, i < n * e → litW (getW c i) = true ∧ cs[d + i]? = some (litV (getW c i))
 | .agg m c => ∃ vs : Array Value, v = .agg vs ∧ vs.size = m ∧ c < 2 ^ (128 * m) ∧ ∀ i, i < m → litW (getW c i) = true ∧ vs[i]? = some (litV (getW c i))
 | .clo f cs => ∃ vs : Array Value, v = .func (.func f) #[] vs ∧ vs.size = cs.length ∧ ∀ (i x : Nat), cs[i]? = some x → ∃ a : Addr, vs[i]? = some (Value.pointer (some a)) ∧ LitAt w a x
inductive HoldsL (w : World) : List Sh → List Value → Prop
 | nil : HoldsL w [] []
 | cons (s : Sh) (v : Value) (l : List Sh) (vs : List Value) : HoldsS w s v → HoldsL w l vs → HoldsL w (s :: l) (v :: vs)
structure MemoK (P : Program) (e : Memo) : Prop where
 known : Known P e.1
 lit : tagOf e.2.2 = 1 ∧ payOf e.2.2 < 18446744073709551616 ∨ e.2.2 = 18 ∨ e.2.2 = 2
 calls : ∀ (Pd : Pad) (w : World) (vs : Array Value), HoldsL w e.2.1 vs.toList → ∀ cs, ∃ w', Below w.heap.size w w' ∧ @CallsAt Pd P e.1 vs w cs (fun r W => r = .returned (litV e.2.2) ∧ W = w')
section
variable [E : Env] [Pd : Pad]
theorem za5 {u : Nat} (h : litW u = true) : sel (Nat.beq (tagOf u) 1) (ltb (payOf u) 18446744073709551616) (sel (Nat.beq u 18) true (sel (Nat.beq u 2) true (Nat.beq (tagOf u) 8))) = true := by
 unfold litW at h
 rw [zJ] at h
 split at h
 ·exact h
 ·cases h
theorem zcV {u : Nat} (h : litW u = true) : u < 2 ^ 128 := by
 unfold litW at h
 rw [zJ] at h
 split at h
 ·assumption
 ·cases h
theorem z4Y {ρ : Rho} {L : Look} {u : Nat} (h : litW u = true) : VR ρ L u (litV u) := by
 have h := za5 h
 unfold litV
 rw [z8] at h
 split at h
 ·rename_i h1
  rw [if_pos h1]
  have hp := (z08 _ _).1 h
  have := VR.int (ρ := ρ) (L := L) (payOf u) hp
  have hw : wI (payOf u) = u := by have := wordOf u; rw [h1] at this; exact this.symm
  rw [hw] at this
  exact this
 ·rename_i h1
  rw [if_neg h1]
  rw [z8] at h
  split at h
  ·rename_i h2; rw [if_pos h2, h2]; exact .bool true
  ·rename_i h2
   rw [if_neg h2]
   rw [z8] at h
   split at h
   ·rename_i h3; rw [if_pos h3, h3]; exact .bool false
   ·rename_i h3
    rw [if_neg h3]
    have h8 := Nat.eq_of_beq_eq_true h
    have := VR.fn (ρ := ρ) (L := L) (payOf u)
    have hw : mk 8 (payOf u) = u := by have := wordOf u; rw [h8] at this; exact this.symm
    rw [hw] at this
    exact this
theorem z6A {ρ : Rho} {L : Look} {u : Nat} {v : Value} (h : litW u = true) (hv : VR ρ L u v) : v = litV u := by
 have h := za5 h
 unfold litV
 rw [z8] at h
 split at h
 ·rename_i h1
  rw [if_pos h1]
  obtain ⟨p, _, _, hp, rfl⟩ := hv.z0i h1
  rw [hp]
 ·rename_i h1
  rw [if_neg h1]
  rw [z8] at h
  split at h
  ·rename_i h2; rw [if_pos h2]; subst h2; exact hv.z3F
  ·rename_i h2
   rw [if_neg h2]
   rw [z8] at h
   split at h
   ·rename_i h3; rw [if_pos h3]; subst h3; exact hv.z2O
   ·rename_i h3
    rw [if_neg h3]
    exact hv.zbZ (Nat.eq_of_beq_eq_true h)
theorem zbJ (c i : Nat) : getW (Nat.shiftRight c 128) i = getW c (i + 1) := by
 apply Nat.eq_of_testBit_eq
 intro k
 rw [z0n, z0n]
 have : (Nat.shiftRight c 128).testBit (128 * i + k) = c.testBit (128 + (128 * i + k)) := Nat.testBit_shiftRight ..
 rw [this, show 128 * (i + 1) + k = 128 + (128 * i + k) from by omega]
theorem z6B : ∀ (m c : Nat), allLt m c = true → ∀ i, i < m → litW (getW c i) = true
 | 0, _, _, i, hi => by omega
 | m + 1, c, h, i, hi => by
  have e : allLt (m + 1) c = sel (litW (getW c 0)) (allLt m (Nat.shiftRight c 128)) false := rfl
  rw [e, zf] at h
  split at h
  ·rename_i h0
   cases i with
   | zero => exact h0
   | succ i =>
    have := z6B m _ h i (by omega)
    rw [zbJ] at this; exact this
  ·cases h
section
variable {base : Nat} {H : Trie} {n : Nat} {ρ : Rho} {L : Look} {w : World}
theorem zdE (c : Ctx base H n ρ L w) {b o rb d sz : Nat} (hb : ρ b = some (rb, d, sz)) (h : tagOf (rd H b o) ≠ 15) :
  ∃ cs ty fz v, w.heap[rb]? = some (.cells cs ty fz) ∧ cs[d + o]? = some v ∧ VR ρ L (rd H b o) v := by
 obtain ⟨v, hc, hv⟩ := z7L c hb h
 unfold World.cell? at hc
 split at hc
 ·rename_i cs ty fz hh
  exact ⟨cs, ty, fz, v, hh, by simpa using hc, hv⟩
 ·cases hc
theorem z5k (c : Ctx base H n ρ L w) {ch : Nat} {vs : Array Value} (hv : ∀ i (h : i < vs.size), VR ρ L (getW ch (i + 1)) vs[i]) : ∀ (cs : List Nat) (i : Nat), matchC H ch cs (i + 1) = true → i + cs.length ≤ vs.size →
  ∀ (j x : Nat), cs[j]? = some x → ∃ a : Addr, vs[i + j]? = some (Value.pointer (some a)) ∧ LitAt w a x
 | [], i, h, hl, j, x, hj => by simp at hj
 | y :: cs, i, h, hl, j, x, hj => by
  simp only [List.length_cons] at hl
  have e : matchC H ch (y :: cs) (i + 1) = sel (sel (litW y) (sel (Nat.beq (tagOf (getW ch (i + 1))) 3) (sel (Nat.beq (pBlk (payOf (getW ch (i + 1)))) 0) false (Nat.beq (rd H (Nat.pred (pBlk (payOf (getW ch (i + 1))))) (pOff (payOf (getW ch (i + 1))))) y)) false) false) (matchC H ch cs (i + 1 + 1)) false := rfl
  rw [e, zf] at h
  split at h
  ·rename_i h1
   cases j with
   | succ j =>
    have := z5k c hv cs (i + 1) h (by omega) j x (by simpa using hj)
    rwa [show i + 1 + j = i + (j + 1) from by omega] at this
   | zero =>
    simp only [List.getElem?_cons_zero, Option.some.injEq] at hj
    subst hj
    rw [zf] at h1
    split at h1
    ·rename_i hl1
     rw [z8] at h1
     split at h1
     ·rename_i h3
      rw [z8] at h1
      split at h1
      ·cases h1
      ·rename_i hnz
       have hrd := Nat.eq_of_beq_eq_true h1
       have hi : i < vs.size := by omega
       rcases (hv i hi).z1j h3 with ⟨h4, _⟩ | ⟨b, off, rb, d, sz, hb, ho, hw, hvv⟩
       ·rw [h4] at hnz; exact absurd rfl hnz
       ·obtain ⟨_, p2, p3⟩ := z2p b off ho
        rw [hw, p2, p3, Nat.pred_succ] at hrd
        have hne : tagOf (rd H b off) ≠ 15 := by
         rw [hrd]
         intro hb15
         have := z4Y (ρ := ρ) (L := L) hl1
         exact this.notBad hb15
        obtain ⟨cs', ty, fz, v, g1, g2, g3⟩ := zdE c hb hne
        rw [hrd] at g3
        refine ⟨⟨rb, d + off, none⟩, by rw [Nat.add_zero, Array.getElem?_eq_getElem hi, hvv], hl1, cs', ty, fz, rfl, g1, ?_⟩
        rw [g2, z6A hl1 g3]
     ·cases h1
    ·cases h1
  ·cases h
theorem z9l (c : Ctx base H n ρ L w) {x : Nat} {v : Value} (hx : VR ρ L x v) : ∀ (s : Sh), matchS H x s = true → HoldsS w s v := by
 intro s h
 cases s with
 | lit u =>
  have e : matchS H x (.lit u) = sel (Nat.beq x u) (litW u) false := rfl
  rw [e, z8] at h
  split at h
  ·rename_i hxu; subst hxu; exact ⟨h, z6A h hx⟩
  ·cases h
 | row e m ch =>
  have e0 : matchS H x (.row e m ch) = sel (sel (Nat.beq (tagOf x) 4) (sel (Nat.beq (sLen (payOf x)) m) (sel (Nat.beq (sEs (payOf x)) e) (sel (Nat.beq m 0) false (sel (Nat.beq (sBlk (payOf x)) 0) false true)) false) false) false)
   (match rdRange H (Nat.pred (sBlk (payOf x))) (sOff (payOf x)) (Nat.mul m e) with | .some c' => sel (Nat.beq c' ch) (allLt (Nat.mul m e) ch) false | .none => false) false := rfl
  rw [e0, zf] at h
  split at h
  ·rename_i h1
   rw [z8] at h1
   split at h1
   ·rename_i h4
    rw [z8] at h1
    split at h1
    ·rename_i hlen
     rw [z8] at h1
     split at h1
     ·rename_i hes
      rw [z8] at h1
      split at h1
      ·cases h1
      ·rename_i hm0
       rw [z8] at h1
       split at h1
       ·cases h1
       ·rename_i hbn
        split at h
        ·rename_i c' hrd
         rw [z8] at h
         split at h
         ·rename_i hcc
          subst hcc
          rcases hx.z0E h4 with ⟨rfl, _⟩ | ⟨b, es, off, m', k, rb, d, sz, cp, a, hb, he, ho, hm, hk, hmc, hbig, hk1, hcp, rfl, rfl⟩
          ·exact absurd z6E.2.2.2.2.2 hbn
          ·obtain ⟨_, q1, q2, q3, q4, q5⟩ := z1S b es off m' k he ho hm hk
           rw [q5, q3, Nat.pred_succ] at hrd
           rw [q1] at hlen
           rw [q4] at hes
           subst hlen; subst hes
           obtain ⟨vs, ro⟩ := z2i c hb hrd
           have hcp2 := hcp.resolve_left (by omega)
           have hblk : ∃ cs ty fz, w.heap[rb]? = some (.cells cs ty fz) ∧ d + sz ≤ cs.size := by
            unfold rdRange at hrd
            split at hrd
            ·rename_i nb cb g keep since mx hget
             rw [z0k] at hrd
             split at hrd
             ·rw [zf] at hrd
              split at hrd
              ·rename_i hval
               have hL := c.agree.2 _ _ hget
               have hl := z1E c.agree hL hval
               obtain ⟨kk, hk2, hbr⟩ := c.sim.blk b _ hb
               rw [hL] at hk2; injection hk2 with hk2; subst hk2
               obtain ⟨cs, ty, fz, g1, g2, _⟩ := hbr hl
               exact ⟨cs, ty, fz, g1, g2⟩
              ·cases hrd
             ·cases hrd
            ·cases hrd
           obtain ⟨cs, ty, fz, g1, g2⟩ := hblk
           refine ⟨by omega, he, hm, rb, d + off, cp, cs, ty, fz, by rw [hcp2.1], hmc, hbig, g1, by have := hcp2.2; omega, fun i hi => ?_⟩
           have hli := z6B _ _ h i hi
           refine ⟨hli, ?_⟩
           have hil : i < vs.length := by rw [ro.len]; exact hi
           obtain ⟨r1, _⟩ := ro.word i vs[i] (List.getElem?_eq_getElem hil)
           have r2 := ro.cell i vs[i] (List.getElem?_eq_getElem hil)
           rw [addr_add, cell_of_heap g1] at r2
           rw [r2, z6A hli r1]
         ·cases h
        ·cases h
     ·cases h1
    ·cases h1
   ·cases h1
  ·cases h
 | agg m ch =>
  have e0 : matchS H x (.agg m ch) = sel (Nat.beq (tagOf x) 6) (match tget H (payOf x) with | some (.box 0 m' c') => sel (Nat.beq m' m) (sel (Nat.beq c' ch) (allLt m ch) false) false | _ => false) false := rfl
  rw [e0, z8] at h
  split at h
  ·rename_i h6
   split at h
   ·rename_i m' c' hget
    rw [z8] at h
    split at h
    ·rename_i hm
     rw [z8] at h
     split at h
     ·rename_i hc
      subst hm; subst hc
      obtain ⟨vs, rfl, hcr⟩ := hx.z2L h6 (c.agree.2 _ _ hget)
      refine ⟨vs, rfl, hcr.1, hcr.2.1, fun i hi => ?_⟩
      have hli := z6B _ _ h i hi
      obtain ⟨u, a, b, _⟩ := hcr.2.2 i hi
      exact ⟨hli, by rw [a, z6A hli b]⟩
     ·cases h
    ·cases h
   ·cases h
  ·cases h
 | clo f cs =>
  have e0 : matchS H x (.clo f cs) = sel (Nat.beq (tagOf x) 10) (match tget H (payOf x) with | some (.box 2 m c) => sel (Nat.beq m (lenN cs)) (sel (Nat.beq (getW c 0) f) (matchC H c cs 1) false) false | _ => false) false := rfl
  rw [e0, z8] at h
  split at h
  ·rename_i h10
   split at h
   ·rename_i m ch hget
    rw [z8] at h
    split at h
    ·rename_i hm
     rw [z8] at h
     split at h
     ·rename_i hf
      obtain ⟨m', c', vs, hL, hsz, hvs, rfl⟩ := hx.z7F h10 ⟨_, _, c.agree.2 _ _ hget⟩
      have := c.agree.2 _ _ hget
      rw [hL] at this; injection this with this; injection this with _ e1 e2
      subst e1; subst e2
      rw [z7M] at hm
      refine ⟨vs, by rw [hf], by rw [hsz, hm], fun i x hi => ?_⟩
      have := z5k c hvs cs 0 h (by rw [hsz, hm]; omega) i x hi
      rwa [Nat.zero_add] at this
     ·cases h
    ·cases h
   ·cases h
  ·cases h
theorem z5l (c : Ctx base H n ρ L w) : ∀ (l : List Sh) (ws : List Nat) (vs : List Value), AR ρ L ws vs → matchL H l ws = true → HoldsL w l vs
 | [], ws, vs, ha, h => by
  cases ha with
  | nil => exact .nil
  | cons => cases h
 | s :: l, ws, vs, ha, h => by
  cases ha with
  | nil => cases h
  | cons x v xs vs' hx ha' =>
   have e : matchL H (s :: l) (x :: xs) = sel (matchS H x s) (matchL H l xs) false := rfl
   rw [e, zf] at h
   split at h
   ·rename_i h1
    exact .cons _ _ _ _ (z9l c hx s h1) (z5l c l xs vs' ha' h)
   ·cases h
theorem Ctx.later {W : World} (c : Ctx base H n ρ L w) (hb : Below w.heap.size w W) : Ctx base H n ρ L W := by
 have hs := c.sim
 refine ⟨⟨fun b r h => ?_, hs.sep, hs.same, hs.mx, hs.rw, hs.ro, fun b r h => Nat.lt_of_lt_of_le (hs.bnd b r h) hb.size, Nat.le_trans hs.bs hb.size, hs.ld, hs.kind, hs.pol, hs.rk, fun k o h => (hb.block _ (Array.getElem?_eq_some_iff.1 (hs.kp k o h)).1).trans (hs.kp k o h)⟩, c.agree, c.fresh⟩
 obtain ⟨k, h1, h2⟩ := hs.blk b r h
 exact ⟨k, h1, fun hl => (h2 hl).mono (Ext.refl _ _) (hb.block _ (hs.bnd b r h))⟩
end
end
theorem z9m {P : Program} : ∀ (l : List Memo), (∀ e ∈ l, MemoK P e) → Always P (memoS l) := by
 intro l hl E Pd base H n ρ L w f args vs v H' n' cs c ha h
 induction l with
 | nil => cases h
 | cons e l ih =>
  have e0 : memoS (e :: l) f args H n = sel (sel (Nat.beq e.1 f) (matchL H e.2.1 args) false) (.yes (.ok e.2.2 H n)) (memoS l f args H n) := rfl
  rw [e0, zf] at h
  split at h
  ·rename_i h1
   rw [z8] at h1
   split at h1
   ·rename_i hf
    injection h with h
    injection h with q1 q2 q3
    subst q1; subst q2; subst q3
    have K := hl e List.mem_cons_self
    have hh := z5l c e.2.1 args vs.toList ha h1
    obtain ⟨W, hb, hcall⟩ := K.calls Pd w vs hh cs
    rw [← hf]
    have hlit : litW e.2.2 = true := by
     unfold litW
     rcases K.lit with ⟨h1, h2⟩ | h1 | h1
     ·rw [zJ, if_pos (by have := wordOf e.2.2; rw [h1, mk_eq] at this; omega), h1, z8, if_pos rfl]; exact (z08 _ _).2 h2
     ·rw [h1]; rfl
     ·rw [h1]; rfl
    have hbase : Below base w W := hb.mono c.sim.bs
    exact ⟨ρ, L, W, _, c.later hb, .refl _ _, hbase, .refl _ _ _ _, Nat.le_refl _, z4Y hlit, K.known, hcall⟩
   ·cases h1
  ·exact ih (fun e he => hl e (List.mem_cons_of_mem _ he)) h
section
variable [E : Env] [Pd : Pad]
theorem z3i {u : Nat} (h : litW u = true) : storable u = true := by
 have hlt := zcV h
 have h := za5 h
 rw [z0g]
 rw [z8] at h
 split at h
 ·rename_i h1; exact ⟨by omega, by omega, by omega, hlt⟩
 ·rw [z8] at h
  split at h
  ·rename_i h2; subst h2; exact ⟨by decide, by decide, by decide, hlt⟩
  ·rw [z8] at h
   split at h
   ·rename_i h3; subst h3; exact ⟨by decide, by decide, by decide, hlt⟩
   ·have h8 := Nat.eq_of_beq_eq_true h
    exact ⟨by omega, by omega, by omega, hlt⟩
variable {ρ : Rho} {L : Look} {w : World}
theorem zcW : ∀ (cs : List Nat) (H : Trie) (n : Nat) (ws : List Nat), (layC cs H n ws).n = n + cs.length ∧ (layC cs H n ws).ws.length = ws.length + cs.length
 | [], H, n, ws => ⟨rfl, rfl⟩
 | x :: cs, H, n, ws => by
  have e : layC (x :: cs) H n ws = layC cs (hset H n (.cells 1 x 0 0 0 0)) (n + 1) (ws ++ [wP n 0]) := rfl
  rw [e]
  obtain ⟨h1, h2⟩ := zcW cs (hset H n (.cells 1 x 0 0 0 0)) (n + 1) (ws ++ [wP n 0])
  rw [h1, h2]
  simp; omega
theorem z7y : ∀ (cs : List Nat) (H : Trie) (n : Nat) (ws : List Nat) (ρ : Rho) (L : Look) (vs us : List Value), Ctx w.heap.size H n ρ L w → n + cs.length < 16384 → AR ρ L ws us → (∀ x ∈ ws, x < 2 ^ 128) → vs.length = cs.length →
  (∀ (i x : Nat), cs[i]? = some x → ∃ a : Addr, vs[i]? = some (Value.pointer (some a)) ∧ LitAt w a x) →
  ∃ ρ' L', Ctx w.heap.size (layC cs H n ws).H (layC cs H n ws).n ρ' L' w ∧ Ext ρ L ρ' L' ∧ AR ρ' L' (layC cs H n ws).ws (us ++ vs) ∧ ∀ x ∈ (layC cs H n ws).ws, x < 2 ^ 128
 | [], H, n, ws, ρ, L, vs, us, c, hn, ha, hs, hl, h => by
  have : vs = [] := List.eq_nil_of_length_eq_zero (by simpa using hl)
  subst this
  exact ⟨ρ, L, c, .refl _ _, by rw [List.append_nil]; exact ha, hs⟩
 | x :: cs, H, n, ws, ρ, L, vs, us, c, hn, ha, hs, hl, h => by
  simp only [List.length_cons] at hn hl
  obtain ⟨a, h1, hlit, cc, ty, fz, hsp, hh, hc⟩ := h 0 x rfl
  cases vs with
  | nil => simp at hl
  | cons v vs =>
   simp only [List.getElem?_cons_zero, Option.some.injEq] at h1
   subst h1
   have hrb : a.block < w.heap.size := (Array.getElem?_eq_some_iff.1 hh).1
   have hoff : a.off < cc.size := (Array.getElem?_eq_some_iff.1 hc).1
   have c1 := c.arg (nb := 1) (ch := x) (sz := 1) (d := a.off) (by omega) hh hrb (by omega) (Nat.le_refl _) (fun i hi => by
    obtain rfl : i = 0 := by omega
    have e : getW x 0 = x := by rw [z1w]; simpa using zcV hlit
    rw [e]
    exact ⟨_, by simpa using hc, z4Y hlit, z3i hlit⟩)
   have e1 : Ext ρ L (updR ρ n (a.block, a.off, 1)) (upd L n (.cells 1 x 0 0 0 0)) := .fresh c.fresh _ _
   have hp : VR (updR ρ n (a.block, a.off, 1)) (upd L n (.cells 1 x 0 0 0 0)) (wP n 0) (.pointer (some a)) := by
    have := VR.ptr (ρ := updR ρ n (a.block, a.off, 1)) (L := upd L n (.cells 1 x 0 0 0 0)) n 0 a.block a.off 1 (zU _ _ _) (by omega)
    have ea : a = ⟨a.block, a.off + 0, none⟩ := by
     cases a with
     | mk b o s => simp at hsp ⊢; exact hsp
    rw [← ea] at this; exact this
   have app : ∀ {ρ : Rho} {L : Look} {xs ys : List Nat} {us vs : List Value}, AR ρ L xs us → AR ρ L ys vs → AR ρ L (xs ++ ys) (us ++ vs) := by
    intro ρ L xs ys us vs h1 h2
    induction h1 with
    | nil => exact h2
    | cons x v xs vs hv _ ih => exact .cons _ _ _ _ hv ih
   have hw : wP n 0 < 2 ^ 128 := by rw [zd1]; omega
   obtain ⟨ρ', L', c', e', ha', hs'⟩ := z7y cs (hset H n (.cells 1 x 0 0 0 0)) (n + 1) (ws ++ [wP n 0]) _ _ vs (us ++ [.pointer (some a)]) c1 (by omega) (app (ha.mono e1) (.cons _ _ _ _ hp .nil)) (fun y hy => by
    rcases List.mem_append.1 hy with hy | hy
    ·exact hs y hy
    ·simp at hy; subst hy; exact hw) (by simpa using hl) (fun i y hi => by
    have := h (i + 1) y (by simpa using hi)
    simpa using this)
   refine ⟨ρ', L', c', e1.trans e', ?_, hs'⟩
   have : us ++ Value.pointer (some a) :: vs = us ++ [Value.pointer (some a)] ++ vs := by simp
   rw [this]; exact ha'
theorem zbK (s : Sh) (H : Trie) (n : Nat) (k : Nat → Trie → Nat → Lay) : ∃ x H1 n1, layS s H n k = k x H1 n1 ∧ n ≤ n1 ∧
  ∀ (ρ : Rho) (L : Look) (v : Value), Ctx w.heap.size H n ρ L w → HoldsS w s v → n1 < 16384 → shOk [s] = true → ∃ ρ' L', Ctx w.heap.size H1 n1 ρ' L' w ∧ Ext ρ L ρ' L' ∧ VR ρ' L' x v := by
 cases s with
 | lit u => exact ⟨u, H, n, rfl, Nat.le_refl _, fun ρ L v c hh _ _ => by obtain ⟨h1, rfl⟩ := hh; exact ⟨ρ, L, c, .refl _ _, z4Y h1⟩⟩
 | row e m ch =>
  refine ⟨wS n e 0 m 0, hset H n (.cells (Nat.mul m e) ch 0 0 0 0), n + 1, rfl, Nat.le_succ _, fun ρ L v c hh hn _ => ?_⟩
  obtain ⟨h0, h1, h2, rb, d, cp, cs, ty, fz, rfl, h3, h4, h5, h6, h7⟩ := hh
  have hrb : rb < w.heap.size := (Array.getElem?_eq_some_iff.1 h5).1
  have hle : m * e ≤ cp * e := Nat.mul_le_mul_right _ h3
  have c1 := c.arg (nb := m * e) (ch := ch) (sz := cp * e) (d := d) (by omega) h5 hrb h6 hle (fun i hi => by
   obtain ⟨a, b⟩ := h7 i hi
   exact ⟨_, b, z4Y a, z3i a⟩)
  exact ⟨_, _, c1, .fresh c.fresh _ _, .slice n e 0 m 0 rb d (cp * e) cp _ (zU _ _ _) h1 (by omega) h2 (by omega) h3 h4 (.inl rfl) (.inr ⟨by simp, by omega⟩)⟩
 | agg m ch =>
  refine ⟨mk 6 n, hset H n (.box 0 m ch), n + 1, rfl, Nat.le_succ _, fun ρ L v c hh hn _ => ?_⟩
  obtain ⟨vs, rfl, h1, h2, h3⟩ := hh
  have e : Ext ρ L ρ (upd L n (.box 0 m ch)) := .freshL c.fresh _
  have hc : CellsR ρ L m ch vs := ⟨h1, h2, fun i hi => by
   obtain ⟨a, b⟩ := h3 i hi
   exact ⟨_, b, z4Y a, z3i a⟩⟩
  exact ⟨ρ, _, ⟨c.sim.box c.fresh _ _ _, c.agree.hset (by omega) _, c.fresh.updL _⟩, e, (hc.mono0 e.toExt0).agg (upd_same _ _ _)⟩
 | clo f cs =>
  have hle := zcW cs H n []
  refine ⟨mk 10 (layC cs H n []).n, hset (layC cs H n []).H (layC cs H n []).n (.box 2 (lenN cs) (listW (f :: (layC cs H n []).ws))), (layC cs H n []).n + 1, rfl, by omega, fun ρ L v c hh hn hok => ?_⟩
  obtain ⟨vs, rfl, h1, h2⟩ := hh
  have hf : f < 1000000 := by
   have e0 : shOk [.clo f cs] = sel (ltb f 1000000) true false := rfl
   rw [e0, zJ] at hok
   split at hok
   ·assumption
   ·cases hok
  obtain ⟨ρ1, L1, c1, e1, ha, hs⟩ := z7y cs H n [] ρ L vs.toList [] c (by omega) .nil (fun x hx => by cases hx) (by simpa using h1) (fun i x hi => by
   obtain ⟨a, b1, b2⟩ := h2 i x hi
   exact ⟨a, by simpa using b1, b2⟩)
  have hn1 : (layC cs H n []).n < 16384 := by omega
  have e2 : Ext ρ1 L1 ρ1 (upd L1 (layC cs H n []).n (.box 2 (lenN cs) (listW (f :: (layC cs H n []).ws)))) := .freshL c1.fresh _
  have hsl : allSlot (f :: (layC cs H n []).ws) = true := z3c _ fun y hy => by
   rcases List.mem_cons.1 hy with rfl | hy
   ·omega
   ·exact hs y hy
  refine ⟨ρ1, _, ⟨c1.sim.box c1.fresh _ _ _, c1.agree.hset hn1 _, c1.fresh.updL _⟩, e1.trans e2, ?_⟩
  refine .clo _ _ _ f vs (upd_same _ _ _) (by rw [z0X _ hsl]; rfl) (by rw [h1, z7M]) fun i hi => ?_
  rw [z0X _ hsl]
  have hi' : i < ([] ++ vs.toList).length := by simpa using hi
  have := (ha.get i hi').mono e2
  simpa using this
theorem zcX (s : Sh) (l : List Sh) : shOk (s :: l) = true → shOk [s] = true ∧ shOk l = true := by
 intro h
 cases s with
 | lit u => exact ⟨rfl, h⟩
 | row e n c => exact ⟨rfl, h⟩
 | agg m c => exact ⟨rfl, h⟩
 | clo f cs =>
  have e0 : shOk (.clo f cs :: l) = sel (ltb f 1000000) (shOk l) false := rfl
  have e1 : shOk [.clo f cs] = sel (ltb f 1000000) true false := rfl
  rw [e0, zJ] at h
  rw [e1, zJ]
  split at h
  ·rename_i hf; exact ⟨by rw [if_pos hf], h⟩
  ·cases h
theorem z7z : ∀ (l : List Sh) (H : Trie) (n : Nat) (ws : List Nat), n ≤ (layL l H n ws).n ∧
  ∀ (ρ : Rho) (L : Look) (vs us : List Value), Ctx w.heap.size H n ρ L w → AR ρ L ws us → HoldsL w l vs → (layL l H n ws).n < 1000 → shOk l = true →
   ∃ ρ' L', Ctx w.heap.size (layL l H n ws).H (layL l H n ws).n ρ' L' w ∧ AR ρ' L' (layL l H n ws).ws (us ++ vs)
 | [], H, n, ws => ⟨Nat.le_refl _, fun ρ L vs us c ha hh _ _ => by cases hh; exact ⟨ρ, L, c, by rw [List.append_nil]; exact ha⟩⟩
 | s :: l, H, n, ws => by
  obtain ⟨x, H1, n1, e, hn, hS⟩ := zbK (w := w) s H n (fun w' H' n' => layL l H' n' (ws ++ [w']))
  have e0 : layL (s :: l) H n ws = layL l H1 n1 (ws ++ [x]) := e
  obtain ⟨h1, h2⟩ := z7z l H1 n1 (ws ++ [x])
  rw [e0]
  refine ⟨Nat.le_trans hn h1, fun ρ L vs us c ha hh hlt hok => ?_⟩
  cases hh with
  | cons _ v _ vs' hv hl =>
   obtain ⟨ok1, ok2⟩ := zcX s l hok
   obtain ⟨ρ1, L1, c1, e1, hx⟩ := hS ρ L v c hv (by omega) ok1
   have app : ∀ {ρ : Rho} {L : Look} {xs ys : List Nat} {us vs : List Value}, AR ρ L xs us → AR ρ L ys vs → AR ρ L (xs ++ ys) (us ++ vs) := by
    intro ρ L xs ys us vs h1 h2
    induction h1 with
    | nil => exact h2
    | cons x v xs vs hv _ ih => exact .cons _ _ _ _ hv ih
   obtain ⟨ρ', L', c', ha'⟩ := h2 ρ1 L1 vs' (us ++ [v]) c1 (app (ha.mono e1) (.cons _ _ _ _ hx .nil)) hl hlt ok2
   exact ⟨ρ', L', c', by simpa using ha'⟩
end
@[reducible] noncomputable def noEnv : Env where
 lst := fun j => if j = 1001 then [.int .u8 0] else []
 int := fun j => if j = 1099511627776 + 1001 then 1 else 0
 wf := fun j => by split <;> omega
 len := fun j _ => by
  have : lenIx j = 1099511627776 + j := rfl
  rw [this]
  by_cases h : j = 1001
  ·subst h; simp
  ·rw [if_neg (by omega), if_neg h]; rfl
 byThree := by simp
 notThree := by simp
 txt := fun _ => ⟨#[0]⟩
 txtNe := fun _ _ => zcU
theorem zdF {P : Program} {call : Nat → List Nat → Trie → Nat → OR} {fuel f v n n' : Nat} {args : List Nat} {H H' : Trie} (h : funE P call fuel f args H n = .ok v H' n') : Known P f := by
 unfold funE at h
 split at h
 ·rename_i fn hfn
  split at h
  ·rename_i c hb
   rw [z8] at h
   split at h
   ·cases h
   ·rename_i hne
    refine ⟨fn, hfn, by rw [hb]; rfl, fun hname => hne ?_⟩
    unfold funE.bne'
    rw [if_pos hname]
  ·cases h
 ·cases h
theorem zed {P : Program} {S : Sums} (hS : Always P S) {fuel d f v : Nat} {l : List Sh} (h : isWord v (memoRun P S fuel d f l) = true) : MemoK P (f, l, v) := by
 letI : Env := noEnv
 letI := pad0
 unfold memoRun at h
 simp only at h
 cases hg : sel (shOk l) (ltb (layL l .nil 0 []).n 1000) false with
 | false => rw [hg] at h; cases h
 | true =>
  rw [hg, z0b] at h
  rw [zf] at hg
  split at hg
  ·rename_i hok
   have hlt := (z08 _ _).1 hg
   cases hr : funE P (callN P S fuel d) fuel f (layL l .nil 0 []).ws (layL l .nil 0 []).H (layL l .nil 0 []).n with
   | bad q => rw [hr] at h; cases h
   | ok v' H' n' =>
    rw [hr] at h
    have h' : sel (Nat.beq v' v) (sel (Nat.beq (tagOf v) 1) (ltb (payOf v) 18446744073709551616) (sel (Nat.beq v 18) true (Nat.beq v 2))) false = true := h
    rw [z8] at h'
    split at h'
    ·rename_i hv
     subst hv
     have lit : ∀ (Pd : Pad) (w : World) (vs : Array Value), HoldsL w l vs.toList → ∃ x, litW v' = true ∧ x = litV v' ∧ ∀ cs, ∃ w', Below w.heap.size w w' ∧ @CallsAt Pd P f vs w cs (fun e W => e = .returned x ∧ W = w') := by
      intro Pd w vs hh
      obtain ⟨_, hL⟩ := z7z (w := w) l .nil 0 []
      obtain ⟨ρ', L', c, ha⟩ := hL _ _ vs.toList [] (Ctx.start w) .nil hh hlt hok
      have key : ∀ cs, ∃ ρ' L' w' x, Below w.heap.size w w' ∧ VR ρ' L' v' x ∧ CallsAt P f vs w cs (fun e W => e = .returned x ∧ W = w') := by
       intro cs
       obtain ⟨ρ2, L2, w', x, _, _, hb, _, _, hx, _, hc⟩ := z2o (z2x P (hS noEnv Pd) fuel d) cs c (by simpa using ha) hr
       exact ⟨ρ2, L2, w', x, hb, hx, hc⟩
      have hlitw : ∃ (ρ : Rho) (L : Look) (x : Value), VR ρ L v' x := by
       obtain ⟨ρ2, L2, w', x, _, hx, _⟩ := key []
       exact ⟨ρ2, L2, x, hx⟩
      have hl : litW v' = true := by
       obtain ⟨ρ2, L2, x, hx⟩ := hlitw
       unfold litW
       rw [z8] at h'
       split at h'
       ·rename_i h1
        obtain ⟨p, hp, hw, hpp, _⟩ := hx.z0i h1
        rw [zJ, if_pos (by rw [hw]; exact zec hp), z8, if_pos h1, hpp]
        exact (z08 _ _).2 hp
       ·rw [z8] at h'
        split at h'
        ·rename_i h2; subst h2; rfl
        ·have := Nat.eq_of_beq_eq_true h'; subst this; rfl
      refine ⟨litV v', hl, rfl, fun cs => ?_⟩
      obtain ⟨ρ2, L2, w', x, hb, hx, hc⟩ := key cs
      have hxl := z6A hl hx
      subst hxl
      exact ⟨w', hb, hc⟩
     refine ⟨zdF hr, ?_, fun Pd w vs hh => ?_⟩
     ·rw [z8] at h'
      split at h'
      ·rename_i h1
       exact .inl ⟨h1, (z08 _ _).1 h'⟩
      ·rw [z8] at h'
       split at h'
       ·exact .inr (.inl (by assumption))
       ·exact .inr (.inr (Nat.eq_of_beq_eq_true h'))
     ·obtain ⟨x, _, rfl, hc⟩ := lit Pd w vs hh
      exact hc
    ·cases h'
  ·cases hg
end Go.Eng
namespace Go.Eng
open Go Go.RowKit
open Go.Conc
def Alone (P : Program) (ty : TypeId) (S : Sums) : Prop := ∀ (E : Env) (Pd : Pad), Pd.main = true → Pd.leap = leapP ty → @SumS E Pd P S
theorem Always.alone {P : Program} {ty : TypeId} {S : Sums} (h : Always P S) : Alone P ty S := fun E Pd _ _ => h E Pd
theorem Alone.orS {P : Program} {ty : TypeId} {A B : Sums} (ha : Alone P ty A) (hb : Alone P ty B) : Alone P ty (orS A B) := fun E Pd h1 h2 => z9k E Pd (ha E Pd h1 h2) (hb E Pd h1 h2)
abbrev LawQ (W : World) (x : Value) (v : World) : Prop := x = .bool true ∧ Below W.heap.size (V0 W) v
theorem za6 (W : World) : (V0 W).heap.size = W.heap.size := by unfold V0; simp
theorem za7 {P : Program} {ty : TypeId} {S : Sums} (hS : Alone P ty S) {fuel d f n r : Nat} {H : Trie} {args : List Nat} {vs : Array Value} {W : World} {fn : Func} (hfn : P.funcs[f]? = some fn) (hres : fn.results = #[.tmp r]) (hin : P.inits.idxOf? f = none)
  (E : Env) {ρ : Rho} {L : Look} (c : @Ctx E W.heap.size H n ρ L (V0 W)) (ha : @AR E ρ L args vs.toList) (h : isTrue (funE P (callN P S fuel d) fuel f args H n) = true) :
  Win P true (leapP ty) (Ends P (LawQ W)) (Frame.enter P f vs .normal, [], V0 W) := by
 refine z4d fun Pd hm hl => ?_
 letI : Env := E
 letI : Pad := Pd
 cases hr : funE P (callN P S fuel d) fuel f args H n with
 | bad q => rw [hr] at h; cases h
 | ok v H' n' =>
  rw [hr] at h
  have hv : v = 18 := Nat.eq_of_beq_eq_true h
  subst hv
  obtain ⟨ρ', L', w', x, _, _, hb, _, _, hx, _, hc⟩ := z2o (z2x P (hS E Pd hm hl) fuel d) [] c ha hr
  obtain ⟨b, hb1, hb2⟩ := hx.z1J (by rfl)
  have hbt : b = true := by
   cases b with
   | true => rfl
   | false => cases hb1
  subst hbt
  subst hb2
  obtain ⟨x', w2, tmps, td, fn', ⟨h1, h2⟩, hst, hfn', hsz, hrun⟩ := hc
  injection h1 with h1
  subst h1
  have hff : fn' = fn := by rw [hfn] at hfn'; injection hfn' with e; exact e.symm
  subst hff
  have hx : tmps.getD r Go.undef = .bool true := by
   simp [results, hres] at hrun
   simpa [Array.getD_eq_getD_getElem?] using hrun
  refine ⟨(mkR ⟨f, .normal, none⟩ tmps [] td, [], w2), ⟨.bool true, fun w => ?_, rfl, ?_⟩, hst⟩
  ·have hx1 : (results fn' tmps).run P w = .ok (.bool true) w := by
    simp [results, hres]
    simpa [Array.getD_eq_getD_getElem?] using hx
   have hx2 : (results fn' tmps).events P w #[] = #[] := by simp [results, hres]
   simp [stepG, unwind, mkR, G, hfn, hx1, hx2, doReturn, GStep.after, seen_none, hin]
  ·have hsz' : W.heap.size ≤ w2.heap.size := by rw [← za6 W]; exact hsz
   subst h2
   refine ⟨hb.os, hb.tape, hb.output, by rw [za6]; exact hsz', fun j hj => ?_⟩
   have h3 := hb.block j hj
   have h4 := z6h w2 (Pd.pad (mkR ⟨f, .normal, none⟩ tmps [] td) [] w2) j (Nat.lt_of_lt_of_le hj hsz')
   exact h4.symm.trans h3
def GoodRun (P : Program) (ty : TypeId) (f : Nat) (args : List Nat) : Prop := ∃ S, Alone P ty S ∧ isTrue (funE P (callN P S 1000 60) 1000 f args .nil 0) = true
theorem wf_i64 {n : Int} (h : (Lit.int .i64 n).wf = true) : -9223372036854775808 ≤ n ∧ n < 9223372036854775808 := by
 have hmin : IntKind.i64.min = -9223372036854775808 := rfl
 have hmax : IntKind.i64.max = 9223372036854775807 := rfl
 simp only [Lit.wf, Bool.and_eq_true, decide_eq_true_eq] at h
 rw [hmin, hmax] at h
 omega
theorem law_ends {P : Program} {ty : TypeId} {fr : Frame} {W : World} (h : Win P true (leapP ty) (Ends P (LawQ W)) (fr, [], V0 W)) {Post : Value → World → Prop} (hp : ∀ w', Below W.heap.size W w' → Post (.bool true) w') :
  ∃ M last o w' t', runNT P (M + 1) (solo (G fr []) W) #[] = (.ended o w', t') ∧ runN P M (solo (G fr []) W) = .next last ∧ step P last = .ended o w' ∧ Conc.Good P Post last o w' t' := by
 obtain ⟨M, last, o, w', t', h1, h2, h3, h4⟩ := z9a h
 refine ⟨M, last, o, w', t', h1, h2, h3, h4.mono fun v hv => ?_⟩
 have hb := hv.below fun x u hx => hx.2
 obtain ⟨u, hu, _⟩ := hv
 rw [hu.1]
 exact hp w' hb
noncomputable def onF (f : Nat) (S : Sums) : Sums := fun g args H n => sel (Nat.beq f g) (S g args H n) .no
theorem zbL {P : Program} {S : Sums} {f : Nat} (hS : Always P S) : Always P (onF f S) := by
 intro E Pd base H n ρ L w g args vs v H' n' cs c ha h
 have e : onF f S g args H n = sel (Nat.beq f g) (S g args H n) .no := rfl
 rw [e, z8] at h
 split at h
 ·exact hS E Pd base H n ρ L w g args vs v H' n' cs c ha h
 ·cases h
noncomputable def preS (s : Sh) (S : Sums) : Sums := fun g args H n => match args with | x :: l => sel (matchS H x s) (S g (x :: l) H n) .no | [] => .no
theorem za8 {P : Program} {S : Sums} {s : Sh} (hS : Always P S) : Always P (preS s S) := by
 intro E Pd base H n ρ L w g args vs v H' n' cs c ha h
 cases args with
 | nil => cases h
 | cons x l =>
  have e : preS s S g (x :: l) H n = sel (matchS H x s) (S g (x :: l) H n) .no := rfl
  rw [e, zf] at h
  split at h
  ·exact hS E Pd base H n ρ L w g (x :: l) vs v H' n' cs c ha h
  ·cases h
noncomputable def allW (P : Program) (S : Sums) (l : List Memo) : Bool := List.rec (motive := fun _ => Bool) true (fun e _ ih => sel (isWord e.2.2 (memoRun P S 1000 60 e.1 e.2.1)) ih false) l
theorem zaW {P : Program} {S : Sums} (hS : Always P S) : ∀ l, allW P S l = true → ∀ e ∈ l, MemoK P e
 | [], _ => fun e he => by cases he
 | x :: l, h => by
  have e0 : allW P S (x :: l) = sel (isWord x.2.2 (memoRun P S 1000 60 x.1 x.2.1)) (allW P S l) false := rfl
  rw [e0] at h
  obtain ⟨h1, h2⟩ := selA h
  intro e he
  rcases List.mem_cons.1 he with rfl | he
  ·exact zed hS h1
  ·exact zaW hS l h2 e he
theorem zbM {P : Program} {S : Sums} (hS : Always P S) {s : Sh} {l : List Memo} (h : allW P S l = true) : Always P (preS s (memoS l)) := za8 (z9m _ (zaW hS l h))
end Go.Eng
