import PyProof.Rows.All
import Wide.All
import OpenK.AllK
import Wide.FinOn
import HandS.ForMost
import HandS.Evl
import HandS.TupAny
import HandS.TupMul
import HandS.IsInst
import HandS.Zip
import HandS.Deep
import HandS.Style
import HandS.Strs
import HandS.More
import HandS.Exc
import HandS.ExcInit
import HandS.ExcOwn
import HandS.ExcField
import HandS.WordsExc
import HandS.Dict
import HandS.TryOnly
import HandS.Walk
import HandS.Comp
import KE.GoesComp
import KE.KAsSuite
import HandS.DictComp
import PySem.Challenge.RW_rightskept_k30_breaking_programs
set_option Elab.async false
set_option linter.all false
set_option maxRecDepth 100000
set_option maxHeartbeats 4000000
namespace Ver
open PySem L2 Evl
/-- a new list, a new tuple -/
def NewL (xs : List V) (H : Hp) (Q : VK) : Prop := xs.length ≤ sizeLine ∧ ∀ p, H p = none → Q (.ref p) (upd H p (.lst xs))
def NewU (xs : List V) (H : Hp) (Q : VK) : Prop := xs.length ≤ sizeLine ∧ ∀ p, H p = none → Q (.ref p) (upd H p (.tup xs))
/-! ## a small executor over readings: one lemma a head -/
section
variable {K : PySem.W.Frag} {σ : L2.St} {H H' H1 : Hp} {ta tb te : TE} {t u c : TT} {ts us : TS} {x y z v : V} {r : R2} {D : Ends} {g : TG} {Q : VK} {i j : Nat}
theorem w_seq (h : ts { D with nx := us D } σ H) : tSeq ts us D σ H := h
theorem w_next (h : D.nx σ H) : tNext D σ H := h
theorem w_asg (h : te σ H fun a Ha => g a σ Ha D.nx) : tAsg te g D σ H := h
theorem w_name {N : L2.St → Hp → Prop} (h : N (σ.set i (some v)) H) : gName i v σ H N := h
theorem w_if (h : c σ H fun k Hk => if k = true then ts D σ Hk else us D σ Hk) : tIfS c ts us D σ H := h
theorem w_ret (h : te σ H D.rt) : tRet te D σ H := h
theorem w_drop (h : te σ H fun _ Ha => D.nx σ Ha) : tDrop te D σ H := h
theorem w_brk (h : D.bk σ H) : tBreak D σ H := h
theorem w_cont (h : D.ct σ H) : tCont D σ H := h
theorem w_var (e : σ[i]? = some (some v)) (h : Q v H) : tVar i σ H Q := ⟨v, e, h⟩
theorem w_c (h : Q v H) : tC v σ H Q := h
theorem w_op (h : ta σ H fun a Ha => tb σ Ha fun b Hb => r a b Hb Q) : tOp r ta tb σ H Q := h
theorem w_un {f : V → Hp → VK → Prop} (h : ta σ H fun a Ha => f a Ha Q) : tUn f ta σ H Q := h
theorem w_I0 {f : Int → Int → V} {a b : Int} (h : Q (f a b) H) : rI0 f (.int a) (.int b) H Q := ⟨a, b, rfl, rfl, h⟩
theorem w_I {C : Int → Int → Prop} {f : Int → Int → V} {a b : Int} (hc : C a b) (h : Q (f a b) H) : rI C f (.int a) (.int b) H Q := ⟨a, b, rfl, rfl, hc, h⟩
theorem w_neg {a : Int} (h : Q (.int (-a)) H) : rU (fun n => .int (-n)) (.int a) H Q := ⟨a, rfl, h⟩
theorem w_eq (e : scal x y = true) (h : Q (.bl (decide (x = y))) H) : rEq x y H Q := ⟨e, h⟩
theorem w_ne (e : scal x y = true) (h : Q (.bl (!decide (x = y))) H) : rNe x y H Q := ⟨e, h⟩
theorem w_eqI {a b : Int} (h : Q (.bl (decide (a = b))) H) : rEq (.int a) (.int b) H Q := ⟨rfl, by
  have e : decide (V.int a = V.int b) = decide (a = b) := by
    by_cases q : a = b
    · rw [q]; simp
    · rw [decide_eq_false q, decide_eq_false (fun z => q (V.int.inj z))]
  rw [e]; exact h⟩
theorem w_neI {a b : Int} (h : Q (.bl (!decide (a = b))) H) : rNe (.int a) (.int b) H Q := ⟨rfl, by
  have e : decide (V.int a = V.int b) = decide (a = b) := by
    by_cases q : a = b
    · rw [q]; simp
    · rw [decide_eq_false q, decide_eq_false (fun z => q (V.int.inj z))]
  rw [e]; exact h⟩
theorem w_eqS {a b : Str} (h : Q (.bl (decide (a = b))) H) : rEq (.str a) (.str b) H Q := ⟨rfl, by
  have e : decide (V.str a = V.str b) = decide (a = b) := by
    by_cases q : a = b
    · rw [q]; simp
    · rw [decide_eq_false q, decide_eq_false (fun z => q (V.str.inj z))]
  rw [e]; exact h⟩
theorem w_neS {a b : Str} (h : Q (.bl (!decide (a = b))) H) : rNe (.str a) (.str b) H Q := ⟨rfl, by
  have e : decide (V.str a = V.str b) = decide (a = b) := by
    by_cases q : a = b
    · rw [q]; simp
    · rw [decide_eq_false q, decide_eq_false (fun z => q (V.str.inj z))]
  rw [e]; exact h⟩
theorem w_eqB {a b : Bool} (h : Q (.bl (a == b)) H) : rEq (.bl a) (.bl b) H Q := ⟨rfl, by
  have e : decide (V.bl a = V.bl b) = (a == b) := by cases a <;> cases b <;> rfl
  rw [e]; exact h⟩
theorem w_neB {a b : Bool} (h : Q (.bl (a != b)) H) : rNe (.bl a) (.bl b) H Q := ⟨rfl, by
  have e : (!decide (V.bl a = V.bl b)) = (a != b) := by cases a <;> cases b <;> rfl
  rw [e]; exact h⟩
theorem w_test {N : Bool → Hp → Prop} (h : te σ H fun a Ha => ∃ k, a = .bl k ∧ N k Ha) : tTest te σ H N := h
theorem w_B {N : Bool → Hp → Prop} (h : te σ H fun a Ha => ∃ k, a = .bl k ∧ N k Ha) : tB te σ H N := h
theorem w_bl {N : Bool → Hp → Prop} {k : Bool} (h : N k H) : ∃ k', V.bl k = .bl k' ∧ N k' H := ⟨k, rfl, h⟩
theorem w_blV {N : Bool → Prop} {k : Bool} (h : N k) : ∃ k', V.bl k = .bl k' ∧ N k' := ⟨k, rfl, h⟩
theorem w_and {N : Bool → Hp → Prop} (h : t σ H fun k Hk => if k = true then u σ Hk N else N false Hk) : tAnd t u σ H N := h
theorem w_or {N : Bool → Hp → Prop} (h : t σ H fun k Hk => if k = true then N true Hk else u σ Hk N) : tOr t u σ H N := h
theorem w_not {N : Bool → Hp → Prop} (h : t σ H fun k Hk => N (!k) Hk) : tNot t σ H N := h
theorem w_andV (h : ta σ H fun a Ha => ∃ k, a = .bl k ∧ if k = true then tb σ Ha Q else Q (.bl false) Ha) : tAndV ta tb σ H Q := h
theorem w_orV (h : ta σ H fun a Ha => ∃ k, a = .bl k ∧ if k = true then Q (.bl true) Ha else tb σ Ha Q) : tOrV ta tb σ H Q := h
theorem w_notV (h : ta σ H fun a Ha => ∃ k, a = .bl k ∧ Q (.bl (!k)) Ha) : tNotV ta σ H Q := h
theorem w_ifE (h : c σ H fun k Hk => if k = true then ta σ Hk Q else tb σ Hk Q) : tIf c ta tb σ H Q := h
theorem w_yes {N : Bool → Hp → Prop} (h : N true H) : tYes σ H N := h
theorem w_nil {N : List V → Hp → Prop} (h : N [] H) : tNil σ H N := h
theorem w_cons {tr : TA} {N : List V → Hp → Prop} (h : ta σ H fun a Ha => tr σ Ha fun xs Hb => N (a :: xs) Hb) : tCons ta tr σ H N := h
theorem w_CB {f : List V → Hp → VK → Prop} {a : TA} (h : a σ H fun vs Ha => f vs Ha Q) : tCB f a σ H Q := h
theorem w_call {sp : Sp} {dvs : List V} {E : XK} {a : TA} (h : a σ H fun vs Ha => sp (vs ++ dvs) Ha Q E) : tCall sp dvs E a σ H Q := h
theorem w_callN {sp : Sp} {E : XK} {a : TA} (h : a σ H fun vs Ha => sp vs Ha Q E) : tCall sp [] E a σ H Q := by
  have e : (fun (vs : List V) Ha => sp (vs ++ []) Ha Q E) = fun vs Ha => sp vs Ha Q E := by
    funext vs Ha
    rw [List.append_nil]
  show a σ H fun vs Ha => sp (vs ++ []) Ha Q E
  rw [e]
  exact h
theorem w_BM {T : String} {f : V → List V → Hp → VK → Prop} {a : TA} (h : te σ H fun x Ha => tyV K T x Ha ∧ a σ Ha fun xs Hb => f x xs Hb Q) : tBM K T f te a σ H Q := h
theorem w_BM0 {T : String} {f : V → List V → Hp → VK → Prop} (h : te σ H fun x Ha => tyV K T x Ha ∧ f x [] Ha Q) : tBM0 K T f te σ H Q := h
theorem w_noPart {N : Option Int → Hp → Prop} (h : N none H) : tNoPart σ H N := h
theorem w_part {N : Option Int → Hp → Prop} (h : te σ H fun a Ha => ∃ k, a = .int k ∧ N (some k) Ha) : tPart te σ H N := h
theorem w_int {N : Option Int → Hp → Prop} {k : Int} (h : N (some k) H) : ∃ k', V.int k = .int k' ∧ N (some k') H := ⟨k, rfl, h⟩
theorem w_sl {f : V → Option Int → Option Int → Hp → VK → Prop} {tl th : TO} (h : te σ H fun a Ha => tl σ Ha fun l Hb => th σ Hb fun m Hc => f a l m Hc Q) : tSl f te tl th σ H Q := h
theorem w_tup {a : TA} (h : a σ H fun xs Ha => NewU xs Ha Q) : tTup a σ H Q := h
theorem w_lst {a : TA} (h : a σ H fun xs Ha => NewL xs Ha Q) : tLst a σ H Q := h
theorem w_subG {to ti : TE} {f : TSet} {N : L2.St → Hp → Prop} (h : to σ H fun o Ha => ti σ Ha fun k Hb => f o k v Hb fun Hc => N σ Hc) : gSub to ti f v σ H N := h
theorem w_gtup {n : Nat} {gs : TGs} {N : L2.St → Hp → Prop} {p : Addr} {xs : List V} (hx : SqT K H p xs) (hn : xs.length = n) (h : gs xs σ H N) : gTup K n gs (.ref p) σ H N := ⟨p, xs, rfl, hx, hn, h⟩
theorem w_gcons {gs : TGs} {xs : List V} {N : L2.St → Hp → Prop} (h : g v σ H fun σ' Ha => gs xs σ' Ha N) : gCons g gs (v :: xs) σ H N := ⟨v, xs, rfl, h⟩
theorem w_gnil {N : L2.St → Hp → Prop} (h : N σ H) : gNil [] σ H N := ⟨rfl, h⟩
theorem iteNT {A B : Prop} (h : B) : if (!true) = true then A else B := h
theorem iteNF {A B : Prop} (h : A) : if (!false) = true then A else B := h
theorem w_chain {r' : R2} {tc : TE} (h : ta σ H fun a Ha => tb σ Ha fun b Hb => r a b Hb fun z Hc => ∃ k, z = .bl k ∧ (if k = true then tc σ Hc fun c Hd => r' b c Hd Q else Q (.bl false) Hc)) : tChain r r' ta tb tc σ H Q := h
theorem w_lenS {a : Str} (hz : a.length ≤ 100000) (k : Q (.int a.length) H) : (∃ s, [V.str a] = [.str s] ∧ s.length ≤ sizeLine ∧ Q (.int s.length) H) := ⟨a, rfl, sz_of hz, k⟩
/-! loops -/
def LoopG (J : It) (g : TG) (b : TS) (D : Ends) (σ : L2.St) (H : Hp) : Prop := tFor (fun _ h R => R J h) g b D σ H
def CompG (J : It) (g : TG) (t : TT) (e : TE) (vs : List Nat) (σ : L2.St) (H : Hp) (Q : VK) : Prop := tLc (fun _ h R => R J h) g t e vs σ H Q
theorem w_for {wi : TI} (h : wi σ H fun J Ha => LoopG J g ts D σ Ha) : tFor wi g ts D σ H := h
theorem w_lc {wi : TI} {vs : List Nat} (h : wi σ H fun J Ha => CompG J g t te vs σ Ha Q) : tLc wi g t te vs σ H Q := h
theorem w_iR1 {a : TA} {R : It → Hp → Prop} (h : a σ H fun vs Ha => ∃ k : Int, vs = [.int k] ∧ -(2 ^ 62) ≤ k ∧ k < 2 ^ 62 ∧ R (Itr 0 k.toNat) Ha) : iRng1 a σ H R := h
theorem w_iR2 {a : TA} {R : It → Hp → Prop} (h : a σ H fun vs Ha => ∃ k l : Int, vs = [.int k, .int l] ∧ (-(2 ^ 62) ≤ k ∧ k < 2 ^ 62 ∧ -(2 ^ 62) ≤ l ∧ l < 2 ^ 62) ∧ R (Itr k (l - k).toNat) Ha) : iRng2 a σ H R := h
theorem w_iL {R : It → Hp → Prop} (h : te σ H fun a Ha => ∃ p, a = .ref p ∧ (∃ xs, SqL K Ha p xs) ∧ R (Itl K p) Ha) : iList K te σ H R := h
theorem w_iT {R : It → Hp → Prop} (h : te σ H fun a Ha => ∃ p, a = .ref p ∧ (∃ xs, SqT K Ha p xs) ∧ R (Itt K p) Ha) : iTup K te σ H R := h
theorem w_iS {R : It → Hp → Prop} (h : te σ H fun a Ha => ∃ s, a = .str s ∧ R (Its s) Ha) : iStr te σ H R := h
theorem r_R1 {k : Int} (hk : 0 ≤ k ∧ k ≤ 100000) (h : LoopG (Itr 0 k.toNat) g ts D σ H) : ∃ k' : Int, [V.int k] = [.int k'] ∧ -(2 ^ 62) ≤ k' ∧ k' < 2 ^ 62 ∧ LoopG (Itr 0 k'.toNat) g ts D σ H := ⟨k, rfl, by omega, by omega, h⟩
theorem c_R1 {k : Int} {vs : List Nat} (hk : 0 ≤ k ∧ k ≤ 100000) (h : CompG (Itr 0 k.toNat) g t te vs σ H Q) : ∃ k' : Int, [V.int k] = [.int k'] ∧ -(2 ^ 62) ≤ k' ∧ k' < 2 ^ 62 ∧ CompG (Itr 0 k'.toNat) g t te vs σ H Q := ⟨k, rfl, by omega, by omega, h⟩
theorem r_R2 {k l : Int} (hk : 0 ≤ k ∧ k ≤ 100000 ∧ -100000 ≤ l ∧ l ≤ 100000) (h : LoopG (Itr k (l - k).toNat) g ts D σ H) : ∃ k' l' : Int, [V.int k, V.int l] = [.int k', .int l'] ∧ (-(2 ^ 62) ≤ k' ∧ k' < 2 ^ 62 ∧ -(2 ^ 62) ≤ l' ∧ l' < 2 ^ 62) ∧ LoopG (Itr k' (l' - k').toNat) g ts D σ H := ⟨k, l, rfl, by omega, h⟩
theorem r_L {p : Addr} {xs : List V} (hx : SqL K H p xs) (h : LoopG (Itl K p) g ts D σ H) : ∃ q, V.ref p = .ref q ∧ (∃ xs, SqL K H q xs) ∧ LoopG (Itl K q) g ts D σ H := ⟨p, rfl, ⟨xs, hx⟩, h⟩
theorem c_L {p : Addr} {xs : List V} {vs : List Nat} (hx : SqL K H p xs) (h : CompG (Itl K p) g t te vs σ H Q) : ∃ q, V.ref p = .ref q ∧ (∃ xs, SqL K H q xs) ∧ CompG (Itl K q) g t te vs σ H Q := ⟨p, rfl, ⟨xs, hx⟩, h⟩
theorem r_T {p : Addr} {xs : List V} (hx : SqT K H p xs) (h : LoopG (Itt K p) g ts D σ H) : ∃ q, V.ref p = .ref q ∧ (∃ xs, SqT K H q xs) ∧ LoopG (Itt K q) g ts D σ H := ⟨p, rfl, ⟨xs, hx⟩, h⟩
theorem c_T {p : Addr} {xs : List V} {vs : List Nat} (hx : SqT K H p xs) (h : CompG (Itt K p) g t te vs σ H Q) : ∃ q, V.ref p = .ref q ∧ (∃ xs, SqT K H q xs) ∧ CompG (Itt K q) g t te vs σ H Q := ⟨p, rfl, ⟨xs, hx⟩, h⟩
theorem r_S {s : Str} (h : LoopG (Its s) g ts D σ H) : ∃ s', V.str s = .str s' ∧ LoopG (Its s') g ts D σ H := ⟨s, rfl, h⟩
theorem c_S {s : Str} {vs : List Nat} (h : CompG (Its s) g t te vs σ H Q) : ∃ s', V.str s = .str s' ∧ CompG (Its s') g t te vs σ H Q := ⟨s, rfl, h⟩
theorem lp_range {n : Nat} {lo : Int} (P : Nat → L2.St → Hp → Prop) (h0 : P 0 σ H)
    (hs : ∀ k s h, k < n → P k s h → g (.int (lo + k)) s h fun s2 h2 => ts { D with nx := P (k + 1), ct := P (k + 1), bk := D.nx } s2 h2)
    (hd : ∀ s h, P n s h → D.nx s h) : LoopG (Itr lo n) g ts D σ H := for_range P h0 hs hd
theorem lp_list {p : Addr} {xs : List V} (P : Nat → L2.St → Hp → Prop) (h0 : P 0 σ H) (hl : ∀ k s h, k ≤ xs.length → P k s h → SqL K h p xs)
    (hs : ∀ k a s h, xs[k]? = some a → P k s h → g a s h fun s2 h2 => ts { D with nx := P (k + 1), ct := P (k + 1), bk := D.nx } s2 h2)
    (hd : ∀ s h, P xs.length s h → D.nx s h) : LoopG (Itl K p) g ts D σ H := for_list P h0 hl hs hd
theorem lp_tup {p : Addr} {xs : List V} (P : Nat → L2.St → Hp → Prop) (h0 : P 0 σ H) (hl : ∀ k s h, k ≤ xs.length → P k s h → SqT K h p xs)
    (hs : ∀ k a s h, xs[k]? = some a → P k s h → g a s h fun s2 h2 => ts { D with nx := P (k + 1), ct := P (k + 1), bk := D.nx } s2 h2)
    (hd : ∀ s h, P xs.length s h → D.nx s h) : LoopG (Itt K p) g ts D σ H := for_tup P h0 hl hs hd
theorem cp_range {n : Nat} {lo : Int} {vs : List Nat} (P : Addr → Nat → Hp → Prop) (h0 : ∀ p, H p = none → P p 0 (upd H p (.lst [])))
    (hs : ∀ p k h, H p = none → k < n → P p k h → g (.int (lo + k)) (wipe σ vs) h fun s2 h2 => wipe s2 vs = wipe σ vs ∧ t s2 h2 fun b h3 =>
      if b = true then te s2 h3 fun a h4 => ∃ acc, h4 p = some (.lst acc) ∧ acc.length < sizeLine ∧ P p (k + 1) (upd h4 p (.lst (acc ++ [a]))) else P p (k + 1) h3)
    (hd : ∀ p h, H p = none → P p n h → Q (.ref p) h) : CompG (Itr lo n) g t te vs σ H Q := fun p hp => lc_range (P p) (h0 p hp) (fun k h hk => hs p k h hp hk) (fun h => hd p h hp)
theorem cp_list {a : Addr} {xs : List V} {vs : List Nat} (P : Addr → Nat → Hp → Prop) (h0 : ∀ p, H p = none → P p 0 (upd H p (.lst []))) (hl : ∀ p k h, H p = none → k ≤ xs.length → P p k h → SqL K h a xs)
    (hs : ∀ p k x h, H p = none → xs[k]? = some x → P p k h → g x (wipe σ vs) h fun s2 h2 => wipe s2 vs = wipe σ vs ∧ t s2 h2 fun b h3 =>
      if b = true then te s2 h3 fun a h4 => ∃ acc, h4 p = some (.lst acc) ∧ acc.length < sizeLine ∧ P p (k + 1) (upd h4 p (.lst (acc ++ [a]))) else P p (k + 1) h3)
    (hd : ∀ p h, H p = none → P p xs.length h → Q (.ref p) h) : CompG (Itl K a) g t te vs σ H Q := fun p hp => lc_list (P p) (h0 p hp) (fun k h hk => hl p k h hp hk) (fun k x h hk => hs p k x h hp hk) (fun h => hd p h hp)
theorem cp_tup {a : Addr} {xs : List V} {vs : List Nat} (P : Addr → Nat → Hp → Prop) (h0 : ∀ p, H p = none → P p 0 (upd H p (.lst []))) (hl : ∀ p k h, H p = none → k ≤ xs.length → P p k h → SqT K h a xs)
    (hs : ∀ p k x h, H p = none → xs[k]? = some x → P p k h → g x (wipe σ vs) h fun s2 h2 => wipe s2 vs = wipe σ vs ∧ t s2 h2 fun b h3 =>
      if b = true then te s2 h3 fun a h4 => ∃ acc, h4 p = some (.lst acc) ∧ acc.length < sizeLine ∧ P p (k + 1) (upd h4 p (.lst (acc ++ [a]))) else P p (k + 1) h3)
    (hd : ∀ p h, H p = none → P p xs.length h → Q (.ref p) h) : CompG (Itt K a) g t te vs σ H Q := fun p hp => lc_tup (P p) (h0 p hp) (fun k h hk => hl p k h hp hk) (fun k x h hk => hs p k x h hp hk) (fun h => hd p h hp)
end
/-! ## heaps: what an edge keeps -/
/-- all but S is kept -/
def Ks (S : List Addr) (H H' : Hp) : Prop := ∀ a o, a ∉ S → H a = some o → H' a = some o
theorem Ks.refl (S : List Addr) (H : Hp) : Ks S H H := fun _ _ _ h => h
theorem Ks.trans {S : List Addr} {H H1 H2 : Hp} (a : Ks S H H1) (b : Ks S H1 H2) : Ks S H H2 := fun x o n h => b x o n (a x o n h)
theorem Ks.of {S : List Addr} {H H' : Hp} (e : Ex H H') : Ks S H H' := fun a o _ h => e a o h
theorem Ks.upd {S : List Addr} {H H' : Hp} {p : Addr} {o : HO} (e : Ks S H H') (h : p ∈ S) : Ks S H (L2.upd H' p o) := fun a u n q => by
  rw [upd_ne (show a ≠ p from fun z => n (by rw [z]; exact h))]
  exact e a u n q
theorem Ks.mut {S : List Addr} {H H' : Hp} {p : Addr} {o : HO} (e : Ks S H H') (h : H p = none) : Ks S H (L2.upd H' p o) := fun a u n q => by
  rw [upd_ne (ne_of_none q h)]
  exact e a u n q
theorem Ks.drop {S : List Addr} {H H' : Hp} {p : Addr} (e : Ks (p :: S) H H') (h : H p = none) : Ks S H H' := fun a u n q =>
  e a u (fun z => (List.mem_cons.mp z).elim (ne_of_none q h) n) q
theorem Ks.mono {S S' : List Addr} {H H' : Hp} (e : Ks S H H') (h : ∀ a ∈ S, a ∈ S') : Ks S' H H' := fun a u n q => e a u (fun z => n (h a z)) q
theorem Ks.ex {H H' : Hp} (e : Ks [] H H') : Ex H H' := fun a u q => e a u (by simp) q
theorem ex_at {H H' : Hp} {a : Addr} {o : HO} (h : H a = some o) (e : Ex H H') : H' a = some o := e a o h
theorem ks_at {S : List Addr} {H H' : Hp} {a : Addr} {o : HO} (h : H a = some o) (e : Ks S H H') (n : a ∉ S) : H' a = some o := e a o n h
theorem ex_sl {K : PySem.W.Frag} {H H' : Hp} {a : Addr} {xs : List V} (h : SqL K H a xs) (e : Ex H H') : SqL K H' a xs := ex_l e h
theorem ex_st {K : PySem.W.Frag} {H H' : Hp} {a : Addr} {xs : List V} (h : SqT K H a xs) (e : Ex H H') : SqT K H' a xs := ex_t e h
theorem nin_nil {a : Addr} : a ∉ ([] : List Addr) := by simp
theorem nin_cons {a b : Addr} {S : List Addr} (h : a ≠ b) (k : a ∉ S) : a ∉ b :: S := fun z => (List.mem_cons.mp z).elim h k
theorem ne_old {H : Hp} {a p : Addr} {o : HO} (h : H a = some o) (n : H p = none) : a ≠ p := ne_of_none h n
/-- a new object -/
theorem new_lst {H : Hp} {xs : List V} {Q : VK} (hz : xs.length ≤ 100000) (k : ∀ p H1, H p = none → Ex H H1 → H1 p = some (.lst xs) → Q (.ref p) H1) :
    NewL xs H Q := ⟨sz_of hz, fun p n => k p _ n (Ex.new n) upd_same⟩
theorem new_tup {H : Hp} {xs : List V} {Q : VK} (hz : xs.length ≤ 100000) (k : ∀ p H1, H p = none → Ex H H1 → H1 p = some (.tup xs) → Q (.ref p) H1) :
    NewU xs H Q := ⟨sz_of hz, fun p n => k p _ n (Ex.new n) upd_same⟩
theorem new_any {H : Hp} {o : HO} {Q : VK} (k : ∀ p H1, H p = none → Ex H H1 → H1 p = some o → Q (.ref p) H1) : ∀ p, H p = none → Q (.ref p) (upd H p o) := fun p n => k p _ n (Ex.new n) upd_same
/-! ## built-ins by named relations -/
def qAbs : List V → Hp → VK → Prop := fun xs H Q => ∃ n, xs = [.int n] ∧ Q (.int (if n < 0 then -n else n)) H
def qInt : List V → Hp → VK → Prop := fun xs H Q => (∃ n, xs = [.int n] ∧ Q (.int n) H) ∨ ∃ k, xs = [.bl k] ∧ Q (.int (if k then 1 else 0)) H
def qTup (K : PySem.W.Frag) : List V → Hp → VK → Prop := fun xs H Q => ∃ p ys, xs = [.ref p] ∧ ((SqL K H p ys ∧ ∀ l, H l = none → Q (.ref l) (upd H l (.tup ys))) ∨ (SqT K H p ys ∧ Q (.ref p) H))
def qLenS : List V → Hp → VK → Prop := fun xs H Q => ∃ s, xs = [.str s] ∧ s.length ≤ sizeLine ∧ Q (.int s.length) H
def qInS (neg : Bool) : R2 := fun x y H Q => ∃ i j, x = .str i ∧ y = .str j ∧ Q (.bl (if neg then (!(!(Builtin.Str.occurrences j i 0 j.length 1).isEmpty)) else (!(Builtin.Str.occurrences j i 0 j.length 1).isEmpty))) H
section
variable {X : Cx}
theorem k_abs : CallR X (.builtin "abs") qAbs := call_abs
theorem k_int : CallR X (.type "int") qInt := call_int1
theorem k_tup : CallR X (.type "tuple") (qTup X.K) := call_tuple_of
theorem k_lst : CallR X (.type "list") (rListS X.K) := call_list_of
theorem k_len : CallR X (.builtin "len") (rLenS X.K) := call_len_seq
theorem k_lenS : CallR X (.builtin "len") qLenS := call_len_str
theorem k_inS : OpR X (compareOp .In) (qInS false) := op_in_str
theorem k_ninS : OpR X (compareOp .NotIn) (qInS true) := op_notin_str
end
section
variable {K : PySem.W.Frag} {H : Hp} {Q : VK} {p : Addr} {xs : List V}
theorem a_abs {n : Int} (k : Q (.int (if n < 0 then -n else n)) H) : qAbs [.int n] H Q := ⟨n, rfl, k⟩
theorem a_intI {n : Int} (k : Q (.int n) H) : qInt [.int n] H Q := .inl ⟨n, rfl, k⟩
theorem a_intB {b : Bool} (k : Q (.int (if b then 1 else 0)) H) : qInt [.bl b] H Q := .inr ⟨b, rfl, k⟩
theorem a_tupL (h : SqL K H p xs) (k : ∀ q H1, H q = none → Ex H H1 → H1 q = some (.tup xs) → Q (.ref q) H1) : qTup K [.ref p] H Q := ⟨p, xs, rfl, .inl ⟨h, fun q n => k q _ n (Ex.new n) upd_same⟩⟩
theorem a_tupT (h : SqT K H p xs) (k : Q (.ref p) H) : qTup K [.ref p] H Q := ⟨p, xs, rfl, .inr ⟨h, k⟩⟩
theorem a_lstL (h : SqL K H p xs) (k : ∀ q H1, H q = none → Ex H H1 → H1 q = some (.lst xs) → Q (.ref q) H1) : rListS K [.ref p] H Q := ⟨p, xs, rfl, .inl h, fun q n => k q _ n (Ex.new n) upd_same⟩
theorem a_lstT (h : SqT K H p xs) (k : ∀ q H1, H q = none → Ex H H1 → H1 q = some (.lst xs) → Q (.ref q) H1) : rListS K [.ref p] H Q := ⟨p, xs, rfl, .inr h, fun q n => k q _ n (Ex.new n) upd_same⟩
theorem a_lenS {s : Str} (hz : s.length ≤ 100000) (k : Q (.int s.length) H) : qLenS [.str s] H Q := ⟨s, rfl, sz_of hz, k⟩
theorem a_inS {i j : Str} {b : Bool} (e : (!(Builtin.Str.occurrences j i 0 j.length 1).isEmpty) = b) (k : Q (.bl b) H) : qInS false (.str i) (.str j) H Q := ⟨i, j, rfl, rfl, by rw [e]; exact k⟩
theorem a_ninS {i j : Str} {b : Bool} (e : (!(Builtin.Str.occurrences j i 0 j.length 1).isEmpty) = b) (k : Q (.bl (!b)) H) : qInS true (.str i) (.str j) H Q := ⟨i, j, rfl, rfl, by rw [e]; exact k⟩
end
/-! ## is, is not -/
def qIsN : R2 := fun x y H Q => y = .non ∧ Q (.bl (decide (x = .non))) H
def qNotN : R2 := fun x y H Q => y = .non ∧ Q (.bl (!decide (x = .non))) H
def qIsTy : R2 := fun x y H Q => ∃ m n, x = .ty m ∧ y = .ty n ∧ Q (.bl (decide (m = n))) H
def qNotTy : R2 := fun x y H Q => ∃ m n, x = .ty m ∧ y = .ty n ∧ Q (.bl (!decide (m = n))) H
section
variable {X : Cx}
theorem k_isN : OpR X (compareOp .Is) qIsN := op_isN
theorem k_notN : OpR X (compareOp .IsNot) qNotN := op_notN
theorem k_isTy : OpR X (compareOp .Is) qIsTy := op_isTy
theorem k_notTy : OpR X (compareOp .IsNot) qNotTy := op_isNotTy
end
section
variable {H : Hp} {Q : VK}
theorem a_isNn (k : Q (.bl true) H) : qIsN .non .non H Q := ⟨rfl, k⟩
theorem a_isNr {p : Addr} (k : Q (.bl false) H) : qIsN (.ref p) .non H Q := ⟨rfl, k⟩
theorem a_notNn (k : Q (.bl false) H) : qNotN .non .non H Q := ⟨rfl, k⟩
theorem a_notNr {p : Addr} (k : Q (.bl true) H) : qNotN (.ref p) .non H Q := ⟨rfl, k⟩
theorem a_isTy {m n : String} (k : Q (.bl (decide (m = n))) H) : qIsTy (.ty m) (.ty n) H Q := ⟨m, n, rfl, rfl, k⟩
theorem a_notTy {m n : String} (k : Q (.bl (!decide (m = n))) H) : qNotTy (.ty m) (.ty n) H Q := ⟨m, n, rfl, rfl, k⟩
theorem a_isBl {m n : Bool} (k : Q (.bl (m == n)) H) : rIsB (.bl m) (.bl n) H Q := ⟨m, n, rfl, rfl, by
  have e : decide (m = n) = (m == n) := by cases m <;> cases n <;> rfl
  rw [e]; exact k⟩
theorem a_notBl {m n : Bool} (k : Q (.bl (m != n)) H) : rNotB (.bl m) (.bl n) H Q := ⟨m, n, rfl, rfl, by
  have e : (!decide (m = n)) = (m != n) := by cases m <;> cases n <;> rfl
  rw [e]; exact k⟩
theorem w_par {i j : Nat} {a : TA} {D : Ends} {σ : L2.St} (h : a σ H fun vs Ha => ∃ v w, vs = [v, w] ∧ D.nx ((σ.set i (some v)).set j (some w)) Ha) : tPar i j a D σ H := h
theorem a_cat {p q : Addr} {xs ys : List V} (h1 : H p = some (.lst xs)) (h2 : H q = some (.lst ys)) (hz : xs.length + ys.length ≤ 100000) (k : ∀ l H1, H l = none → Ex H H1 → H1 l = some (.lst (xs ++ ys)) → Q (.ref l) H1) : rCat (.ref p) (.ref q) H Q :=
  ⟨p, q, xs, ys, rfl, rfl, h1, h2, sz_of hz, fun l n => k l _ n (Ex.new n) upd_same⟩
end
/-! ## the rules that name the written part, by its name -/
section
variable (K : PySem.W.Frag) {X : Cx}
theorem plK {tg l : Expr} {tl : TE} (hl : PE X l tl) (h : X.K = K := by rfl) : PI X tg l (iList K tl) := by subst h; exact pi_list hl
theorem ptK {tg l : Expr} {tl : TE} (hl : PE X l tl) (h : X.K = K := by rfl) : PI X tg l (iTup K tl) := by subst h; exact pi_tup hl
theorem ixL (h : X.K = K := by rfl) : IxR X (rIxL K) := by subst h; exact ix_list
theorem ixT (h : X.K = K := by rfl) : IxR X (rIxT K) := by subst h; exact ix_tup
theorem slA (h : X.K = K := by rfl) : SlR X (rSlA K) := by subst h; exact sl_tupA
theorem slL (h : X.K = K := by rfl) : SlR X (rSlL K) := by subst h; exact sl_list
theorem lenK (h : X.K = K := by rfl) : CallR X (.builtin "len") (rLenS K) := by subst h; exact k_len
theorem inK (h : X.K = K := by rfl) : OpR X (compareOp .In) (rIn K false) := by subst h; exact op_in_seq
theorem ninK (h : X.K = K := by rfl) : OpR X (compareOp .NotIn) (rIn K true) := by subst h; exact op_notIn_seq
theorem lstK (h : X.K = K := by rfl) : CallR X (.type "list") (rListS K) := by subst h; exact k_lst
theorem catAK (h : X.K = K := by rfl) : OpR X (binaryOp .Add) (rCatA K) := by subst h; exact op_catA
theorem eqDK (hu : X.A.units + 64 < cLine) (h : X.K = K := by rfl) : OpR X (compareOp .Eq) (rEqD K) := by subst h; exact op_eqD hu
theorem neDK (hu : X.A.units + 64 < cLine) (h : X.K = K := by rfl) : OpR X (compareOp .NotEq) (rNeD K) := by subst h; exact op_neD hu
theorem inDK (hu : X.A.units + 65 < cLine) (h : X.K = K := by rfl) : OpR X (compareOp .In) (rInD K) := by subst h; exact op_inD hu
theorem ninDK (hu : X.A.units + 65 < cLine) (h : X.K = K := by rfl) : OpR X (compareOp .NotIn) (rNotInD K) := by subst h; exact op_notInD hu
theorem allK (hc : X.calm = true := by rfl) (h : X.K = K := by rfl) : CallR X (.builtin "all") (rAll K) := by subst h; exact cr_all hc
theorem typK (h : X.K = K := by rfl) : CallR X (.type "type") (rTyp K) := by subst h; exact call_type1
theorem isiK (h : X.K = K := by rfl) : CallR X (.builtin "isinstance") (rIsi K) := by subst h; exact call_isi
end
theorem hd_of {A : Around} {k : Nat} (hr : Room k A) : A.units + 65 < cLine := by have := hr.un; omega
/-! ## operations by what is known of the heap -/
section
variable {K : PySem.W.Frag} {H : Hp} {Q : VK} {p q : Addr} {xs ys : List V} {v x : V} {n : Int}
theorem a_ixL (h : SqL K H p xs) (e : atI xs n = some v) (k : Q v H) : rIxL K (.ref p) (.int n) H Q := ⟨p, xs, n, v, rfl, rfl, h, e, k⟩
theorem a_ixT (h : SqT K H p xs) (e : atI xs n = some v) (k : Q v H) : rIxT K (.ref p) (.int n) H Q := ⟨p, xs, n, v, rfl, rfl, h, e, k⟩
theorem a_lenL (h : SqL K H p xs) (k : Q (.int xs.length) H) : rLenS K [.ref p] H Q := ⟨p, xs, rfl, .inl h, k⟩
theorem a_lenT (h : SqT K H p xs) (k : Q (.int xs.length) H) : rLenS K [.ref p] H Q := ⟨p, xs, rfl, .inr h, k⟩
theorem a_app (h : H p = some (.lst xs)) (hz : xs.length < 100000) (k : Q .non (upd H p (.lst (xs ++ [v])))) : rAppend (.ref p) [v] H Q := ⟨p, xs, v, rfl, rfl, h, sz_lt hz, k⟩
theorem a_ty (h : H p = some (.lst xs)) : tyV K "list" (.ref p) H := .inl ⟨rfl, xs, SqL.of h⟩
theorem a_setL {j : Nat} {N : Hp → Prop} (h : H p = some (.lst xs)) (hj : j < xs.length) (k : N (upd H p (.lst (xs.set j v)))) : rSetL (.ref p) (.int j) v H N := ⟨p, xs, j, j, rfl, rfl, h, ixN_nat hj, k⟩
theorem a_inL (h : SqL K H p xs) (hx : flatV x = true) (ha : xs.all flatV = true) (k : Q (.bl (inV x xs)) H) : rIn K false x (.ref p) H Q := ⟨p, xs, rfl, .inl h, hx, ha, k⟩
theorem a_inT (h : SqT K H p xs) (hx : flatV x = true) (ha : xs.all flatV = true) (k : Q (.bl (inV x xs)) H) : rIn K false x (.ref p) H Q := ⟨p, xs, rfl, .inr h, hx, ha, k⟩
theorem a_ninL (h : SqL K H p xs) (hx : flatV x = true) (ha : xs.all flatV = true) (k : Q (.bl (!inV x xs)) H) : rIn K true x (.ref p) H Q := ⟨p, xs, rfl, .inl h, hx, ha, k⟩
theorem a_ninT (h : SqT K H p xs) (hx : flatV x = true) (ha : xs.all flatV = true) (k : Q (.bl (!inV x xs)) H) : rIn K true x (.ref p) H Q := ⟨p, xs, rfl, .inr h, hx, ha, k⟩
end
def NewD (H : Hp) (Q : VK) : Prop := ∀ p, H p = none → Q (.ref p) (upd H p (.dK []))
theorem w_dK {σ : L2.St} {H : Hp} {Q : VK} (h : NewD H Q) : tDNewK σ H Q := h
theorem new_dK {H : Hp} {Q : VK} (k : ∀ p H1, H p = none → Ex H H1 → H1 p = some (.dK []) → Q (.ref p) H1) : NewD H Q := fun p n => k p _ n (Ex.new n) upd_same
/-! ## the box of draws: a list of a row and a place -/
def Bx (H : Hp) (b r : Addr) : Prop := ∃ (n : Nat) (ns : List Int), H b = some (.lst [.ref r, .int (n : Int)]) ∧ H r = some (.lst (ns.map V.int)) ∧ ns.length ≤ 100000
theorem bx_ex {H H' : Hp} {b r : Addr} (h : Bx H b r) (e : Ex H H') : Bx H' b r := by
  obtain ⟨n, ns, h1, h2, h3⟩ := h
  exact ⟨n, ns, e _ _ h1, e _ _ h2, h3⟩
theorem bx_ks {S : List Addr} {H H' : Hp} {b r : Addr} (h : Bx H b r) (e : Ks S H H') (nb : b ∉ S) (nr : r ∉ S) : Bx H' b r := by
  obtain ⟨n, ns, h1, h2, h3⟩ := h
  exact ⟨n, ns, e _ _ nb h1, e _ _ nr h2, h3⟩
theorem bx_nb {H : Hp} {b r p : Addr} (h : Bx H b r) (n : H p = none) : b ≠ p := by
  obtain ⟨_, _, h1, _⟩ := h
  exact ne_of_none h1 n
theorem bx_nr {H : Hp} {b r p : Addr} (h : Bx H b r) (n : H p = none) : r ≠ p := by
  obtain ⟨_, _, _, h2, _⟩ := h
  exact ne_of_none h2 n
theorem bx_rb {H : Hp} {b r : Addr} (h : Bx H b r) : r ≠ b := by
  obtain ⟨n, ns, h1, h2, _⟩ := h
  refine ne_of h2 h1 fun z => ?_
  cases ns with
  | nil => exact nomatch z
  | cons a as => exact nomatch z
theorem ks_st {K : PySem.W.Frag} {S : List Addr} {H H' : Hp} {a : Addr} {xs : List V} (h : SqT K H a xs) (e : Ks S H H') (n : a ∉ S) : SqT K H' a xs := by
  rcases h with (h | ⟨o, h⟩) | h
  · exact .inl (.inl (e _ _ n h))
  · exact .inl (.inr ⟨o, e _ _ n h⟩)
  · exact .inr h
theorem ks_sl {K : PySem.W.Frag} {S : List Addr} {H H' : Hp} {a : Addr} {xs : List V} (h : SqL K H a xs) (e : Ks S H H') (n : a ∉ S) : SqL K H' a xs := by
  rcases h with (h | ⟨o, h⟩) | h
  · exact .inl (.inl (e _ _ n h))
  · exact .inl (.inr ⟨o, e _ _ n h⟩)
  · exact .inr h
/-- a promise's two common ends -/
abbrev RV1 (v : V) (H : Hp) (Q : VK) : Prop := ∀ H2, Ex H H2 → Q v H2
abbrev RT1 (xs : List V) (H : Hp) (Q : VK) : Prop := ∀ p H2, Ex H H2 → H2 p = some (.tup xs) → Q (.ref p) H2
end Ver

set_option Elab.async false
set_option linter.all false
set_option maxRecDepth 100000
set_option maxHeartbeats 4000000
namespace Ver
open PySem PySem.Spec PyProof.Rows L2 Evl
/-! ## rights as data -/
inductive R | rw | r | w | n
  deriving DecidableEq
def R.s : R → Str
  | .rw => "rw"
  | .r => "r"
  | .w => "w"
  | .n => "-"
def R.hr : R → Bool
  | .rw => true
  | .r => true
  | _ => false
def R.hw : R → Bool
  | .rw => true
  | .w => true
  | _ => false
theorem R.s_inj {a b : R} (h : a.s = b.s) : a = b := by
  cases a <;> cases b <;> first | rfl | exact absurd h (by decide)
theorem dec_s (a b : R) : decide (a.s = b.s) = decide (a = b) := by
  cases a <;> cases b <;> decide
def tv (xs : List R) : List V := xs.map fun x => .str x.s
theorem tv_len (xs : List R) : (tv xs).length = xs.length := List.length_map _
theorem tv_at {xs : List R} {i : Nat} {x : R} (h : xs[i]? = some x) : (tv xs)[i]? = some (.str x.s) := by
  unfold tv
  rw [List.getElem?_map, h]
  rfl
theorem tv_get {xs : List R} {i : Nat} {v : V} (h : (tv xs)[i]? = some v) : ∃ x, xs[i]? = some x ∧ v = .str x.s := by
  unfold tv at h
  rw [List.getElem?_map] at h
  cases e : xs[i]? with
  | none => rw [e] at h; cases h
  | some x => rw [e] at h; exact ⟨x, rfl, (Option.some.inj h).symm⟩
theorem tv_flat (xs : List R) : (tv xs).all flatV = true := by
  unfold tv
  rw [List.all_map]
  exact List.all_eq_true.mpr fun _ _ => rfl
theorem tv_strs (xs : List R) : tv xs = (xs.map R.s).map V.str := by
  unfold tv
  rw [List.map_map]
  rfl
theorem tv_in (x : R) (xs : List R) : inV (.str x.s) (tv xs) = decide (x ∈ xs) := by
  induction xs with
  | nil => rfl
  | cons a as ih =>
    have e : inV (.str x.s) (tv (a :: as)) = (eqV (.str a.s) (.str x.s) || inV (.str x.s) (tv as)) := rfl
    have e2 : eqV (.str a.s) (.str x.s) = decide (x = a) := by cases a <;> cases x <;> rfl
    rw [e, ih, e2]
    by_cases h : x = a
    · subst h; simp
    · simp [h]
theorem in_r (a : R) : (!(Builtin.Str.occurrences a.s "r" 0 a.s.length 1).isEmpty) = a.hr := by cases a <;> decide +kernel
theorem in_w (a : R) : (!(Builtin.Str.occurrences a.s "w" 0 a.s.length 1).isEmpty) = a.hw := by cases a <;> decide +kernel
/-- each letter of a is one of b's -/
def wi (a b : R) : Bool := (!a.hr || b.hr) && (!a.hw || b.hw)
/-- converting, level by level, for equal lengths -/
def cw : List R → List R → Bool
  | a :: as, b :: bs => wi b a && (!b.hr || cw as bs) && (!b.hw || cw bs as)
  | _, _ => true
termination_by xs ys => xs.length + ys.length
def cv (xs ys : List R) : Bool := decide (xs.length = ys.length) && cw xs ys
theorem cw_nil : cw [] [] = true := by rw [cw]; all_goals (intros; contradiction)
theorem cw_cons (a b : R) (as bs : List R) : cw (a :: as) (b :: bs) = (wi b a && (!b.hr || cw as bs) && (!b.hw || cw bs as)) := by rw [cw]
theorem cv_ne {xs ys : List R} (h : xs.length ≠ ys.length) : cv xs ys = false := by
  unfold cv
  rw [decide_eq_false h]
  rfl
theorem cv_nil : cv [] [] = true := by
  unfold cv
  rw [cw_nil]
  rfl
theorem cv_cons {a b : R} {as bs : List R} (h : as.length = bs.length) : cv (a :: as) (b :: bs) = (wi b a && (!b.hr || cv as bs) && (!b.hw || cv bs as)) := by
  unfold cv
  rw [cw_cons, List.length_cons, List.length_cons, decide_eq_true (show as.length + 1 = bs.length + 1 by omega), decide_eq_true h, decide_eq_true h.symm]
  simp only [Bool.true_and]
theorem cw_refl : ∀ xs : List R, cw xs xs = true
  | [] => cw_nil
  | a :: as => by
    rw [cw_cons, cw_refl as]
    cases a <;> rfl
theorem cv_refl (xs : List R) : cv xs xs = true := by
  unfold cv
  rw [cw_refl, decide_eq_true rfl]
  rfl
theorem cw_trans : ∀ (n : Nat) (xs ys zs : List R), xs.length = n → ys.length = n → zs.length = n → cw xs ys = true → cw ys zs = true → cw xs zs = true
  | 0, [], [], [], _, _, _, _, _ => cw_nil
  | n + 1, a :: as, b :: bs, c :: cs, h1, h2, h3, p, q => by
    rw [cw_cons] at p q ⊢
    simp only [List.length_cons, Nat.add_right_cancel_iff] at h1 h2 h3
    have t1 := cw_trans n as bs cs h1 h2 h3
    have t2 := cw_trans n cs bs as h3 h2 h1
    generalize cw as bs = u1 at p t1
    generalize cw bs as = u2 at p t2
    generalize cw bs cs = u3 at q t1
    generalize cw cs bs = u4 at q t2
    generalize cw as cs = u5 at t1 ⊢
    generalize cw cs as = u6 at t2 ⊢
    revert p q t1 t2
    cases a <;> cases b <;> cases c <;> cases u1 <;> cases u2 <;> cases u3 <;> cases u4 <;> cases u5 <;> cases u6 <;> decide
theorem cv_trans {xs ys zs : List R} (p : cv xs ys = true) (q : cv ys zs = true) : cv xs zs = true := by
  unfold cv at *
  simp only [Bool.and_eq_true, decide_eq_true_eq] at *
  exact ⟨p.1.trans q.1, cw_trans xs.length xs ys zs rfl p.1.symm (p.1.trans q.1).symm p.2 q.2⟩
/-- the plain form -/
def pl : List R → List R
  | [] => []
  | x :: xs => if x = .n then .n :: xs.map (fun _ => .n) else x :: pl xs
theorem pl_len : ∀ xs : List R, (pl xs).length = xs.length
  | [] => rfl
  | x :: xs => by
    unfold pl
    by_cases h : x = .n
    · rw [if_pos h, List.length_cons, List.length_map, List.length_cons]
    · rw [if_neg h, List.length_cons, List.length_cons, pl_len xs]
theorem map_const {xs ys : List R} (h : xs.length = ys.length) : (xs.map fun _ => R.n) = ys.map fun _ => R.n := by
  rw [List.map_const', List.map_const', h]
theorem alike_pl : ∀ (xs ys : List R), (cv xs ys && cv ys xs) = decide (pl xs = pl ys)
  | [], [] => by rw [cv_nil]; rfl
  | [], b :: bs => by
    rw [cv_ne (by simp)]
    have h : pl [] ≠ pl (b :: bs) := fun e => by
      have := congrArg List.length e
      rw [pl_len, pl_len] at this
      simp at this
    rw [decide_eq_false h]
    rfl
  | a :: as, [] => by
    rw [cv_ne (by simp)]
    have h : pl (a :: as) ≠ pl [] := fun e => by
      have := congrArg List.length e
      rw [pl_len, pl_len] at this
      simp at this
    rw [decide_eq_false h]
    rfl
  | a :: as, b :: bs => by
    by_cases hl : as.length = bs.length
    · have ih := alike_pl as bs
      rw [cv_cons hl, cv_cons hl.symm]
      by_cases hab : a = b
      · subst hab
        by_cases hn : a = .n
        · subst hn
          have e : pl (R.n :: as) = pl (R.n :: bs) := by
            unfold pl
            rw [if_pos rfl, if_pos rfl, map_const hl]
          rw [decide_eq_true e]
          rfl
        · have e : decide (pl (a :: as) = pl (a :: bs)) = decide (pl as = pl bs) := by
            rw [show pl (a :: as) = a :: pl as by (conv => lhs; unfold pl); rw [if_neg hn], show pl (a :: bs) = a :: pl bs by (conv => lhs; unfold pl); rw [if_neg hn]]
            simp
          rw [e, ← ih]
          generalize cv as bs = u1
          generalize cv bs as = u2
          revert hn
          cases a <;> cases u1 <;> cases u2 <;> decide
      · have e : pl (a :: as) ≠ pl (b :: bs) := fun e => hab (by
          have q := congrArg List.head? e
          revert q
          unfold pl
          by_cases h1 : a = .n
          · by_cases h2 : b = .n
            · rw [h1, h2]; intro _; rfl
            · rw [if_pos h1, if_neg h2, h1]; intro q; exact Option.some.inj q
          · by_cases h2 : b = .n
            · rw [if_neg h1, if_pos h2, h2]; intro q; exact Option.some.inj q
            · rw [if_neg h1, if_neg h2]; intro q; exact Option.some.inj q)
        rw [decide_eq_false e]
        generalize cv as bs = u1
        generalize cv bs as = u2
        revert hab
        cases a <;> cases b <;> cases u1 <;> cases u2 <;> decide
    · rw [cv_ne (by simpa using hl)]
      have h : pl (a :: as) ≠ pl (b :: bs) := fun e => by
        have := congrArg List.length e
        rw [pl_len, pl_len] at this
        simp at this
        exact hl this
      rw [decide_eq_false h]
      rfl
/-! ## tuples of rights compared -/
def ru (xs : List R) : PyData := .tuple (xs.map fun x => .str x.s)
theorem dp_all {K : PySem.W.Frag} {H : Hp} : ∀ xs : List R, DpAll K H (tv xs) (xs.map fun x => .str x.s)
  | [] => .nil
  | x :: xs => .cons (.str x.s) (dp_all xs)
theorem dp_ru {K : PySem.W.Frag} {H : Hp} {a : Addr} {xs : List R} (h : SqT K H a (tv xs)) : Dp K H (.ref a) (ru xs) := .tup h (dp_all xs)
theorem eqv_rs : ∀ xs ys : List R, PyData.eqvAll (xs.map fun x => .str x.s) (ys.map fun x => .str x.s) = decide (xs = ys)
  | [], [] => rfl
  | [], y :: ys => rfl
  | x :: xs, [] => rfl
  | x :: xs, y :: ys => by
    show (PyData.eqv (.str x.s) (.str y.s) && PyData.eqvAll (xs.map fun x => .str x.s) (ys.map fun x => .str x.s)) = _
    rw [eqv_rs xs ys]
    have e : PyData.eqv (.str x.s) (.str y.s) = decide (x = y) := by cases x <;> cases y <;> rfl
    rw [e]
    by_cases h1 : x = y
    · subst h1; simp
    · simp [h1]
theorem eqv_ru (xs ys : List R) : PyData.eqv (ru xs) (ru ys) = decide (xs = ys) := eqv_rs xs ys
theorem depth_rs : ∀ xs : List R, PyData.depthAll (xs.map fun x => .str x.s) ≤ 1
  | [] => by simp [PyData.depthAll]
  | x :: xs => by
    have := depth_rs xs
    simp [PyData.depthAll, PyData.depth] at this ⊢
    try omega
theorem lay_rs : ∀ xs : List R, PyData.canLayAll0 (xs.map fun x => .str x.s) = true
  | [] => by simp [PyData.canLayAll0]
  | x :: xs => by
    have := lay_rs xs
    simp [PyData.canLayAll0, PyData.canLay0] at this ⊢
    exact ⟨by cases x <;> decide +kernel, this⟩
theorem shaped_ru (xs : List R) : SeqAt.shaped (ru xs) = true := by
  have d := depth_rs xs
  have l := lay_rs xs
  unfold SeqAt.shaped ru
  simp only [PyData.canLay0, PyData.depth, Bool.and_eq_true]
  exact ⟨l, decide_eq_true (by omega)⟩
theorem a_eqU {K : PySem.W.Frag} {H : Hp} {Q : VK} {a b : Addr} {xs ys : List R} (h1 : SqT K H a (tv xs)) (h2 : SqT K H b (tv ys)) (k : Q (.bl (decide (xs = ys))) H) : rEqD K (.ref a) (.ref b) H Q :=
  ⟨ru xs, ru ys, dp_ru h1, dp_ru h2, shaped_ru xs, shaped_ru ys, by rw [eqv_ru]; exact k⟩
theorem a_neU {K : PySem.W.Frag} {H : Hp} {Q : VK} {a b : Addr} {xs ys : List R} (h1 : SqT K H a (tv xs)) (h2 : SqT K H b (tv ys)) (k : Q (.bl (!decide (xs = ys))) H) : rNeD K (.ref a) (.ref b) H Q :=
  ⟨ru xs, ru ys, dp_ru h1, dp_ru h2, shaped_ru xs, shaped_ru ys, by rw [eqv_ru]; exact k⟩
/-! ## parts of tuples -/
theorem a_slT1 {K : PySem.W.Frag} {H : Hp} {Q : VK} {a : Addr} {v : V} {vs : List V} (h : SqT K H a (v :: vs)) (k : ∀ q H1, H q = none → Ex H H1 → H1 q = some (.tup vs) → Q (.ref q) H1) : rSlA K (.ref a) (some 1) none H Q := by
  have e1 : HT.sIx (v :: vs).length 0 (some 1) = 1 := by
    rw [show HT.sIx (v :: vs).length 0 (some 1) = min 1 (v :: vs).length from HT.sIx_nat (v :: vs).length 0 1, List.length_cons]
    omega
  refine ⟨a, v :: vs, rfl, h, fun z => ?_, fun _ p hp => ?_⟩
  · rw [e1] at z
    exact absurd z.1 (by decide)
  · have e : cutV (v :: vs) (some 1) none = vs := by
      unfold cutV
      rw [e1, HT.sIx_none, List.length_cons]
      show vs.take (vs.length + 1 - 1) = vs
      rw [Nat.add_sub_cancel]
      exact List.take_length
    rw [e]
    exact k p _ hp (Ex.new hp) upd_same
theorem a_slTo {K : PySem.W.Frag} {H : Hp} {Q : VK} {a : Addr} {vs : List V} {n : Nat} (h : SqT K H a vs) (hn : n < vs.length) (k : ∀ q H1, H q = none → Ex H H1 → H1 q = some (.tup (vs.take n)) → Q (.ref q) H1) : rSlA K (.ref a) none (some (n : Int)) H Q := by
  have e1 : HT.sIx vs.length vs.length (some (n : Int)) = n := by
    rw [HT.sIx_nat vs.length vs.length n]
    omega
  refine ⟨a, vs, rfl, h, fun z => ?_, fun _ p hp => ?_⟩
  · rw [e1] at z
    exact absurd z.2 (by omega)
  · have e : cutV vs none (some (n : Int)) = vs.take n := by
      unfold cutV
      rw [e1, HT.sIx_none]
      simp
    rw [e]
    exact k p _ hp (Ex.new hp) upd_same
theorem a_catA {K : PySem.W.Frag} {H : Hp} {Q : VK} {a b : Addr} {xs ys : List V} (h1 : SqT K H a xs) (h2 : SqT K H b ys) (hz : xs.length + ys.length ≤ 100000) (k : ∀ q H1, Ex H H1 → SqT K H1 q (xs ++ ys) → Q (.ref q) H1) : rCatA K (.ref a) (.ref b) H Q :=
  ⟨a, b, xs, ys, rfl, rfl, h1, h2, sz_of hz, fun e => k b H (Ex.refl H) (by rw [e]; exact h2), fun _ e => k a H (Ex.refl H) (by rw [e, List.append_nil]; exact h1), fun _ _ p hp => k p _ (Ex.new hp) (SqT.of upd_same)⟩
/-! ## t * n, n from 1 on -/
theorem tup_mul1 (l : Addr) (its : Array Value) (n : Nat) (dd : Option Addr) (sl : Array (Option Value)) (u : Tok) :
    Meets (Builtin.«tuple.__mul__» ⟨[.ref l, .int 1 u], []⟩) (fun _ R s => s.heap.get? l = some { cls := .type "tuple", dict := dd, data := .seq its n, slots := sl } ∧ R (.ok (.ret (Value.ref l))) s) :=
  .of_wp fun prog w A R s h => by
    obtain ⟨hp, g, d, tk, os⟩ := s
    obtain ⟨hl, h⟩ := h
    have f1 := AutoSeq1.idx_int
    wp_walk using wpAny_loadPart' hl
    exact ⟨_, rfl, h⟩
def rRepA (K : PySem.W.Frag) : R2 := fun x y H Q => ∃ l k xs, x = .ref l ∧ y = .int k ∧ SqT K H l xs ∧ xs ≠ [] ∧ 1 ≤ k ∧ k ≤ 1000 ∧ xs.length ≤ 1000 ∧ ∀ q H1, Ex H H1 → SqT K H1 q (List.replicate k.toNat xs).flatten → Q (.ref q) H1
theorem op_repA {X : Cx} : OpR X (binaryOp .Mult) (rRepA X.K) := by
  intro pins s σ H x y v u Q I rx ry h
  obtain ⟨l, k, xs, rfl, rfl, hT, hne, h1, h2, hz, q⟩ := h
  by_cases hk : 2 ≤ k
  · exact op_repT pins s σ H _ _ v u Q I rx ry ⟨l, k, xs, rfl, rfl, hT, hne, hk, h2, hz, fun p hp => q p _ (Ex.new hp) (SqT.of upd_same)⟩
  · have e : k = 1 := by omega
    subst e
    cases rx
    obtain ⟨t, rfl⟩ := ry
    have q' := q l H (Ex.refl H) (by simpa using hT)
    obtain ⟨its, r, ⟨⟨cls, dd, data, sl⟩, ho, hc, n, hd⟩, hs⟩ := I.tuple hT
    simp only at hc hd
    subst hc hd
    exact wpAny_binaryOp_repeat_ref (T := "tuple") (U := "int") (by decide) ⟨_, ho, rfl⟩ (fun s' => typeIs_int s' 1 t) noFill_tuple_mul F.fills_int_mul F.slot_int_rmul repeat_tuple F.slot_int_index.lookup
      (call_meets F.slot_int_rmul (typeIs_int s 1 t) F.entry_int_rmul (F.args_int_rmul_2 _ _) (int_rmul_tuple 1 t l its.toArray n dd sl)
        ⟨ho, rfl, ⟨_, ho, rfl⟩, call_meets F.slot_tuple_mul ⟨_, ho, rfl⟩ F.entry_tuple_mul (F.args_tuple_mul_2 _ _) (tup_mul1 l its.toArray n dd sl t) ⟨ho, ⟨.ref l, H, I, rfl, q'⟩⟩⟩)
/-! ## tuples whose very object is known: their methods -/
def Tu (H : Hp) (a : Addr) (xs : List V) : Prop := ∃ ob : Obj, ob.dict = none ∧ H a = some (.frz ob (.tup xs))
theorem Tu.st {K : PySem.W.Frag} {H : Hp} {a : Addr} {xs : List V} (h : Tu H a xs) : SqT K H a xs := by
  obtain ⟨ob, _, h⟩ := h
  exact .inl (.inr ⟨ob, h⟩)
theorem Tu.ex {H H' : Hp} {a : Addr} {xs : List V} (h : Tu H a xs) (e : Ex H H') : Tu H' a xs := by
  obtain ⟨ob, d, h⟩ := h
  exact ⟨ob, d, e _ _ h⟩
theorem Tu.ks {S : List Addr} {H H' : Hp} {a : Addr} {xs : List V} (h : Tu H a xs) (e : Ks S H H') (n : a ∉ S) : Tu H' a xs := by
  obtain ⟨ob, d, h⟩ := h
  exact ⟨ob, d, e _ _ n h⟩
theorem Tu.ne {H : Hp} {a b r : Addr} {xs : List V} (h : Tu H a xs) (g : Bx H b r) : a ≠ b ∧ a ≠ r := by
  obtain ⟨n, ns, h1, h2, _⟩ := g
  obtain ⟨ob, d, h⟩ := h
  exact ⟨ne_of h h1 (fun z => nomatch z), ne_of h h2 (fun z => nomatch z)⟩
def qTupF (K : PySem.W.Frag) : List V → Hp → VK → Prop := fun xs H Q => ∃ p ys, xs = [.ref p] ∧ ((SqL K H p ys ∧ ∀ l (ob : Obj), H l = none → ob.dict = none → Q (.ref l) (upd H l (.frz ob (.tup ys)))) ∨ (SqT K H p ys ∧ Q (.ref p) H))
theorem k_tupF {X : Cx} : CallR X (.type "tuple") (qTupF X.K) := by
  intro pins s σ H xs us Q I rs h
  obtain ⟨p, ys, rfl, h⟩ := h
  obtain ⟨u, rfl, ru⟩ := vals1 rs
  cases ru
  rcases h with ⟨hq, q⟩ | ⟨hq, q⟩
  · obtain ⟨its, rv, pls, hz⟩ := I.list hq
    have hlen := rv.length
    refine call_tuple_list pls.isList (fun g kp => ?_) (by rw [List.size_toArray]; omega)
    have J : Inv X pins σ H { s with heap := g } := I.kept (t' := s.toks) kp
    have J2 : Inv X pins σ (upd H g.objs.size (.frz { cls := .type "tuple", data := .seq its.toArray } (.tup ys))) { s with heap := g.push { cls := .type "tuple", data := .seq its.toArray } } :=
      J.laid (t' := s.toks) (fun c o z => Heap.get?_push_of_some _ z) (Nat.le_refl _) ⟨Heap.get?_push_size _ rfl, ⟨hz, its, rv, IsTup.new _ _⟩⟩
    exact ⟨.ref g.objs.size, _, J2, rfl, q _ _ (J.hok.fresh (Nat.le_refl _)) rfl⟩
  · obtain ⟨its, rv, pls, hz⟩ := I.tuple hq
    exact call_tuple_same pls ⟨.ref p, H, I, rfl, q⟩
theorem tupFK (K : PySem.W.Frag) {X : Cx} (h : X.K = K := by rfl) : CallR X (.type "tuple") (qTupF K) := by subst h; exact k_tupF
theorem repAK (K : PySem.W.Frag) {X : Cx} (h : X.K = K := by rfl) : OpR X (binaryOp .Mult) (rRepA K) := by subst h; exact op_repA
theorem a_tupFL {K : PySem.W.Frag} {H : Hp} {Q : VK} {p : Addr} {xs : List V} (h : SqL K H p xs) (k : ∀ q H1, H q = none → Ex H H1 → Tu H1 q xs → Q (.ref q) H1) : qTupF K [.ref p] H Q :=
  ⟨p, xs, rfl, .inl ⟨h, fun q _ n d => k q _ n (Ex.new n) ⟨_, d, upd_same⟩⟩⟩
def tBMT (f : V → List V → Hp → VK → Prop) (to : TE) (a : TA) : TE := fun σ H Q => to σ H fun x Ha => (∃ p ys, x = .ref p ∧ Tu Ha p ys) ∧ a σ Ha fun xs Hb => f x xs Hb Q
theorem w_BMT {f : V → List V → Hp → VK → Prop} {to : TE} {a : TA} {σ : L2.St} {H : Hp} {Q : VK} (h : to σ H fun x Ha => (∃ p ys, x = .ref p ∧ Tu Ha p ys) ∧ a σ Ha fun xs Hb => f x xs Hb Q) : tBMT f to a σ H Q := h
theorem pe_bmT {X : Cx} {o e : Expr} {es : List Expr} {to : TE} {t : TA} {nm : Str} {ap cp : Pos} {id : String} {f : V → List V → Hp → VK → Prop} (pa : PlainAttrs "tuple") (slot : Slot "tuple" nm id) (hty : typeOf (.builtin id) = pure (.type "method_descriptor")) (hm : MtR X id f) (ho : PE X o to) (ha : PA X (e :: es) t)
    (h1 : attributeBase o nm X.env (eval o X.env) = eval o X.env := by rfl)
    (h2 : ((backTo cp (starEach (e :: es) X.env)).all (fun z => !z.1) && (backToKw cp (keywordEach [] X.env)).all (fun z => z.1.isSome) && decide ((e :: es).length + ([] : List Keyword).length + (if ([] : List Keyword).isEmpty then 0 else 1) < 30)) = true := by rfl)
    (h3 : (ap.endLine == cp.line) = true := by rfl) (h4 : starEach (e :: es) X.env = (false, eval e X.env) :: starEach es X.env := by rfl) (h5 : (backTo cp (starEach es X.env)).any (·.1) = false := by rfl) :
    PE X (.Call (.Attribute o nm ap) (e :: es) [] cp) (tBMT f to t) := by
  refine ⟨fun pins s σ H Q I h => wpAny_Call_method_late h1 h2 h3 rfl (thn (ho.run pins s σ H _ I h) fun v s1 ⟨x, H1, I1, r1, ty, q1⟩ => ?_)⟩
  obtain ⟨p, ys, rfl, ob, hd, hp⟩ := ty
  cases r1
  obtain ⟨g1, _, its, _, g2⟩ := I1.hok p _ hp
  have A := ha.run cp pins s1 σ H1 _ I1 q1
  rw [h4] at A
  refine ⟨"tuple", id, pa, slot, hty, g2.typeIs, fun c z => ⟨ob, by cases z; exact g1, hd⟩, ?_⟩
  rw [h4]
  refine Calls.callWith_builtin (by show (false || (backTo cp (starEach es X.env)).any (·.1)) = false; rw [h5]; rfl) (Calls.evalArgs_plain ?_)
  exact thn A fun us s2 ⟨vs, H2, I2, r2, q2⟩ => hm pins s2 σ H2 (.ref p) vs _ us Q I2 rfl r2 q2
/-! ## bars -/
def ltr (b : Bool) : Str := if b then "r" else "w"
def lv (ls : List Bool) : List V := ls.map fun b => .str (ltr b)
theorem lv_len (ls : List Bool) : (lv ls).length = ls.length := List.length_map _
def R.has (x : R) (b : Bool) : Bool := if b then x.hr else x.hw
theorem in_l (x : R) (b : Bool) : (!(Builtin.Str.occurrences x.s (ltr b) 0 x.s.length 1).isEmpty) = x.has b := by
  cases b
  · exact in_w x
  · exact in_r x
/-- going down by letters, turning about at w, to a right that the second has and the first lacks -/
def ib : List R → List R → List Bool → Bool → Bool
  | x :: _, y :: _, [], b => y.has b && !x.has b
  | _ :: xs, y :: ys, l :: ls, b => y.has l && ib (if l then xs else ys) (if l then ys else xs) ls b
  | _, _, _, _ => false
theorem ib_long : ∀ (ls : List Bool) (xs ys : List R) (b : Bool), xs.length = ys.length → xs.length ≤ ls.length → ib xs ys ls b = false
  | [], xs, ys, b, _, h => by
    have e : xs = [] := List.eq_nil_of_length_eq_zero (by simpa using h)
    subst e
    cases ys <;> rfl
  | l :: ls, [], ys, b, _, _ => by cases ys <;> rfl
  | l :: ls, x :: xs, [], b, h, _ => by cases h
  | l :: ls, x :: xs, y :: ys, b, h, h2 => by
    have h' : xs.length = ys.length := by simpa using h
    have h2' : xs.length ≤ ls.length := by simpa using h2
    show (y.has l && ib (if l then xs else ys) (if l then ys else xs) ls b) = false
    cases l
    · rw [show ib (if false = true then xs else ys) (if false = true then ys else xs) ls b = ib ys xs ls b from rfl, ib_long ls ys xs b h'.symm (by omega), Bool.and_false]
    · rw [show ib (if true = true then xs else ys) (if true = true then ys else xs) ls b = ib xs ys ls b from rfl, ib_long ls xs ys b h' h2', Bool.and_false]
theorem cv_cons' {a b : R} {as bs : List R} (h : as.length = bs.length) : cv (a :: as) (b :: bs) = (((!b.has true || a.has true) && (!b.has false || a.has false)) && (!b.has true || cv as bs) && (!b.has false || cv bs as)) := cv_cons h
/-- converting and bars exclude one another -/
theorem ib_cv : ∀ (ls : List Bool) (xs ys : List R) (b : Bool), xs.length = ys.length → ib xs ys ls b = true → cv xs ys = false
  | [], [], ys, b, _, h => by cases ys <;> cases h
  | [], x :: xs, [], b, h, _ => by cases h
  | [], x :: xs, y :: ys, b, h, g => by
    rw [cv_cons' (by simpa using h)]
    have g' : (y.has b && !x.has b) = true := g
    revert g'
    generalize cv xs ys = u1
    generalize cv ys xs = u2
    cases b <;> cases x <;> cases y <;> cases u1 <;> cases u2 <;> decide
  | l :: ls, [], ys, b, _, h => by cases ys <;> cases h
  | l :: ls, x :: xs, [], b, h, _ => by cases h
  | l :: ls, x :: xs, y :: ys, b, h, g => by
    have h' : xs.length = ys.length := by simpa using h
    have g' : (y.has l && ib (if l then xs else ys) (if l then ys else xs) ls b) = true := g
    rw [Bool.and_eq_true] at g'
    rw [cv_cons' h']
    cases l
    · have c := ib_cv ls ys xs b h'.symm g'.2
      rw [c, g'.1]
      simp
    · have c := ib_cv ls xs ys b h' g'.2
      rw [c, g'.1]
      simp
end Ver

set_option Elab.async false
set_option linter.all false
set_option maxRecDepth 100000
set_option maxHeartbeats 4000000
namespace Ver
open PySem PySem.Spec PyProof.Rows L2 Evl
section
variable {K : PySem.W.Frag}
abbrev rs4 : List V := [.str "rw", .str "r", .str "w", .str "-"]
/-- which datum is a right -/
def irD : PyData → Bool
  | .str x => inV (.str x) rs4
  | _ => false
theorem dp_ty {H : Hp} {v : V} {d : PyData} (h : Dp K H v d) : ∃ T, TyB K H v T ∧ ((∃ x, v = .str x ∧ d = .str x ∧ T = "str") ∨ (T ≠ "str" ∧ irD d = false)) := by
  cases h with
  | non => exact ⟨_, .non, .inr ⟨by decide, rfl⟩⟩
  | bl b => exact ⟨_, .bl b, .inr ⟨by decide, rfl⟩⟩
  | int i => exact ⟨_, .int i, .inr ⟨by decide, rfl⟩⟩
  | str x => exact ⟨_, .str x, .inl ⟨x, rfl, rfl, rfl⟩⟩
  | lst h _ => exact ⟨_, .lst h, .inr ⟨by decide, rfl⟩⟩
  | tup h _ => exact ⟨_, .tup h, .inr ⟨by decide, rfl⟩⟩
def vtD (ds : List PyData) : Bool := decide (ds.length ≤ 6) && ds.all irD
theorem dpa_len {H : Hp} : ∀ {xs : List V} {ds : List PyData}, DpAll K H xs ds → xs.length = ds.length
  | _, _, .nil => rfl
  | _, _, .cons _ t => congrArg (· + 1) (dpa_len t)
theorem dpa_at {H : Hp} : ∀ {xs : List V} {ds : List PyData} {i : Nat} {v : V}, DpAll K H xs ds → xs[i]? = some v → ∃ d, ds[i]? = some d ∧ Dp K H v d
  | _, _, _, _, .nil, e => by simp at e
  | _, _, 0, _, .cons h _, e => by
    cases Option.some.inj e
    exact ⟨_, rfl, h⟩
  | _, _, i + 1, _, .cons _ t, e => dpa_at (i := i) t e
mutual
theorem dp_ex {H H' : Hp} (e : Ex H H') : ∀ {v : V} {d : PyData}, Dp K H v d → Dp K H' v d
  | _, _, .non => .non
  | _, _, .bl b => .bl b
  | _, _, .int i => .int i
  | _, _, .str x => .str x
  | _, _, .lst h t => .lst (ex_sl h e) (dpa_ex e t)
  | _, _, .tup h t => .tup (ex_st h e) (dpa_ex e t)
theorem dpa_ex {H H' : Hp} (e : Ex H H') : ∀ {xs : List V} {ds : List PyData}, DpAll K H xs ds → DpAll K H' xs ds
  | _, _, .nil => .nil
  | _, _, .cons h t => .cons (dp_ex e h) (dpa_ex e t)
end
theorem take_all {ds : List PyData} {k : Nat} {d : PyData} (h : ds[k]? = some d) : (ds.take (k + 1)).map irD = (ds.take k).map irD ++ [irD d] := by
  rw [List.take_add_one, h, List.map_append]
  rfl

def tyD (ds : List PyData) : Bool := vtD ds && decide (0 < ds.length)
/-! ## data by their kinds -/
def tagD : PyData → String
  | .none => "NoneType"
  | .bool _ => "bool"
  | .int _ => "int"
  | .str _ => "str"
  | .list _ => "list"
  | .tuple _ => "tuple"
  | .dict _ => "dict"
theorem dp_tag {H : Hp} {v : V} {d : PyData} (h : Dp K H v d) : TyB K H v (tagD d) := by
  cases h with
  | non => exact .non
  | bl b => exact .bl b
  | int i => exact .int i
  | str x => exact .str x
  | lst h _ => exact .lst h
  | tup h _ => exact .tup h
theorem tag_tup {d : PyData} (h : tagD d = "tuple") : ∃ ds, d = .tuple ds := by
  cases d <;> first | exact ⟨_, rfl⟩ | exact absurd h (by simp only [tagD]; decide)
theorem tag_lst {d : PyData} (h : tagD d = "list") : ∃ ds, d = .list ds := by
  cases d <;> first | exact ⟨_, rfl⟩ | exact absurd h (by simp only [tagD]; decide)
theorem tag_str {d : PyData} (h : tagD d = "str") : ∃ x, d = .str x := by
  cases d <;> first | exact ⟨_, rfl⟩ | exact absurd h (by simp only [tagD]; decide)
theorem tag_int {d : PyData} (h : tagD d = "int") : ∃ x, d = .int x := by
  cases d <;> first | exact ⟨_, rfl⟩ | exact absurd h (by simp only [tagD]; decide)
theorem dp_tup {H : Hp} {v : V} {ds : List PyData} (h : Dp K H v (.tuple ds)) : ∃ p xs, v = .ref p ∧ SqT K H p xs ∧ DpAll K H xs ds := by
  cases h with
  | tup h t => exact ⟨_, _, rfl, h, t⟩
theorem dp_lst {H : Hp} {v : V} {ds : List PyData} (h : Dp K H v (.list ds)) : ∃ p xs, v = .ref p ∧ SqL K H p xs ∧ DpAll K H xs ds := by
  cases h with
  | lst h t => exact ⟨_, _, rfl, h, t⟩
theorem dp_str {H : Hp} {v : V} {x : Str} (h : Dp K H v (.str x)) : v = .str x := by
  cases h with
  | str => rfl
theorem dp_int {H : Hp} {v : V} {x : Int} (h : Dp K H v (.int x)) : v = .int x := by
  cases h with
  | int => rfl
def lenD : PyData → Nat
  | .tuple ds => ds.length
  | _ => 0
def nthD : PyData → Nat → PyData
  | .tuple ds, i => ds.getD i .none
  | _, _ => .none
def numD : PyData → Int → Bool
  | .int i, m => decide (0 ≤ i) && decide (i ≤ m)
  | _, _ => false
abbrev signs : Str := "abcdefghijklmnopqrstuvwxyz"
def sgOk (c : Nat) : Bool := !(Builtin.Str.occurrences signs ⟨#[c]⟩ 0 signs.length 1).isEmpty
def nameD : PyData → Bool
  | .str s => !decide (s = "null") && (decide (1 ≤ s.length) && decide (s.length ≤ 8)) && s.cps.toList.all sgOk
  | _ => false
def placeD (d : PyData) : Bool := decide (tagD d = "tuple") && decide (lenD d = 2) && (nameD (nthD d 0) && numD (nthD d 1) 5)
def strD : PyData → Str
  | .str x => x
  | _ => ""
def fwD (d : PyData) : Str := if tagD d = "tuple" ∧ 0 < lenD d ∧ tagD (nthD d 0) = "str" then strD (nthD d 0) else ""
def srcD (d : PyData) : Bool := if fwD d = "null" then decide (lenD d = 1) else if fwD d = "number" then decide (lenD d = 2) && numD (nthD d 1) 1000 else
  inV (.str (fwD d)) [.str "value", .str "address"] && (decide (lenD d = 2) && placeD (nthD d 1))
def itemsD : PyData → List PyData
  | .list ds => ds
  | .tuple ds => ds
  | _ => []
def srcsD (d : PyData) : Bool := decide (tagD d = "list") && (itemsD d).all srcD
def typD : PyData → Bool
  | .tuple ds => tyD ds
  | _ => false
def declD (d : PyData) : Bool := decide (tagD d = "tuple") && decide (lenD d = 2) && (nameD (nthD d 0) && (typD (nthD d 1) || numD (nthD d 1) 5))
def cut13 (d : PyData) : PyData := .tuple (((itemsD d).drop 1).take 2)
def stmtD (d : PyData) : Bool := if fwD d = "let" then decide (lenD d = 4) && (declD (cut13 d) && srcD (nthD d 3)) else if fwD d = "put" then decide (lenD d = 3) && (placeD (nthD d 1) && srcD (nthD d 2)) else
  decide (fwD d = "call") && (decide (lenD d = 3) && (nameD (nthD d 1) && srcsD (nthD d 2)))
theorem fw_ne {d : PyData} (h : fwD d ≠ "") : ∃ ds, d = .tuple ds ∧ 0 < ds.length := by
  unfold fwD at h
  split at h
  · rename_i c
    obtain ⟨ds, rfl⟩ := tag_tup c.1
    exact ⟨ds, rfl, c.2.1⟩
  · exact absurd rfl h
theorem nth_dp {H : Hp} {xs : List V} {ds : List PyData} {i : Nat} (h : DpAll K H xs ds) (hi : i < ds.length) : ∃ v, xs[i]? = some v ∧ Dp K H v (nthD (.tuple ds) i) := by
  have hx : i < xs.length := by rw [dpa_len h]; exact hi
  refine ⟨xs[i], List.getElem?_eq_getElem hx, ?_⟩
  obtain ⟨d, hd, dp⟩ := dpa_at h (List.getElem?_eq_getElem hx)
  have e : nthD (.tuple ds) i = d := by
    show ds.getD i .none = d
    rw [List.getD_eq_getElem?_getD, hd]
    rfl
  rw [e]
  exact dp
/-- an item of a datum -/
theorem a_nth {H : Hp} {Q : VK} {p : Addr} {xs : List V} {ds : List PyData} {i : Nat} (hT : SqT K H p xs) (h : DpAll K H xs ds) (hi : i < ds.length) (k : ∀ v, Dp K H v (nthD (.tuple ds) i) → Q v H) : rIxT K (.ref p) (.int (i : Int)) H Q := by
  obtain ⟨v, hv, dp⟩ := nth_dp h hi
  exact a_ixT hT (atI_nat hv) (k v dp)
theorem dpa_drop {H : Hp} : ∀ {xs : List V} {ds : List PyData} (n : Nat), DpAll K H xs ds → DpAll K H (xs.drop n) (ds.drop n)
  | _, _, 0, h => h
  | _, _, _ + 1, .nil => .nil
  | _, _, n + 1, .cons _ t => dpa_drop n t
theorem dpa_take {H : Hp} : ∀ {xs : List V} {ds : List PyData} (n : Nat), DpAll K H xs ds → DpAll K H (xs.take n) (ds.take n)
  | _, _, 0, _ => .nil
  | _, _, _ + 1, .nil => .nil
  | _, _, n + 1, .cons h t => .cons h (dpa_take n t)
theorem dpa_app {H : Hp} : ∀ {xs ys : List V} {ds es : List PyData}, DpAll K H xs ds → DpAll K H ys es → DpAll K H (xs ++ ys) (ds ++ es)
  | _, _, _, _, .nil, g => g
  | _, _, _, _, .cons h t, g => .cons h (dpa_app t g)

/-! ## data of bounded size -/
mutual
def smD : PyData → Bool
  | .str x => decide (x.length ≤ 100000)
  | .list ds => decide (ds.length ≤ 100000) && smAll ds
  | .tuple ds => decide (ds.length ≤ 100000) && smAll ds
  | _ => true
def smAll : List PyData → Bool
  | [] => true
  | d :: ds => smD d && smAll ds
end
def Ds (K : PySem.W.Frag) (H : Hp) (v : V) (d : PyData) : Prop := Dp K H v d ∧ smD d = true
theorem ds_ex {H H' : Hp} {v : V} {d : PyData} (h : Ds K H v d) (e : Ex H H') : Ds K H' v d := ⟨dp_ex e h.1, h.2⟩
theorem sm_at : ∀ {ds : List PyData} {i : Nat} {d : PyData}, smAll ds = true → ds[i]? = some d → smD d = true
  | [], _, _, _, e => by simp at e
  | a :: as, 0, d, h, e => by
    cases Option.some.inj e
    exact (Bool.and_eq_true _ _ ▸ h).1
  | a :: as, i + 1, d, h, e => sm_at (ds := as) (i := i) (Bool.and_eq_true _ _ ▸ h).2 e
theorem nthD_get {ds : List PyData} {i : Nat} (hi : i < ds.length) : ds[i]? = some (nthD (.tuple ds) i) := by
  show _ = some (ds.getD i .none)
  rw [List.getD_eq_getElem?_getD, List.getElem?_eq_getElem hi]
  rfl
theorem ds_nth {H : Hp} {xs : List V} {ds : List PyData} {i : Nat} (h : DpAll K H xs ds) (s : smAll ds = true) (hi : i < ds.length) : ∃ v, xs[i]? = some v ∧ Ds K H v (nthD (.tuple ds) i) := by
  obtain ⟨v, hv, dv⟩ := nth_dp h hi
  exact ⟨v, hv, dv, sm_at s (nthD_get hi)⟩
/-- an item of a bounded datum -/
theorem a_nthS {H : Hp} {Q : VK} {p : Addr} {xs : List V} {ds : List PyData} {i : Nat} (hT : SqT K H p xs) (h : DpAll K H xs ds) (s : smAll ds = true) (hi : i < ds.length) (k : ∀ v, Ds K H v (nthD (.tuple ds) i) → Q v H) : rIxT K (.ref p) (.int (i : Int)) H Q := by
  obtain ⟨v, hv, dv⟩ := ds_nth h s hi
  exact a_ixT hT (atI_nat hv) (k v dv)
theorem ds_tupz {H : Hp} {v : V} {d : PyData} (h : Ds K H v d) (c : tagD d = "tuple") : ∃ p xs ds, v = .ref p ∧ d = .tuple ds ∧ SqT K H p xs ∧ DpAll K H xs ds ∧ smAll ds = true ∧ ds.length ≤ 100000 ∧ xs.length = ds.length := by
  obtain ⟨ds, rfl⟩ := tag_tup c
  obtain ⟨p, xs, rfl, h1, h2⟩ := dp_tup h.1
  have h3 : (decide (ds.length ≤ 100000) && smAll ds) = true := h.2
  rw [Bool.and_eq_true] at h3
  exact ⟨p, xs, ds, rfl, rfl, h1, h2, h3.2, of_decide_eq_true h3.1, dpa_len h2⟩
theorem ds_tup {H : Hp} {v : V} {d : PyData} (h : Ds K H v d) (c : tagD d = "tuple") : ∃ p xs ds, v = .ref p ∧ d = .tuple ds ∧ SqT K H p xs ∧ DpAll K H xs ds ∧ smAll ds = true ∧ xs.length = ds.length := by
  obtain ⟨p, xs, ds, e1, e2, h1, h2, h3, _, h4⟩ := ds_tupz h c
  exact ⟨p, xs, ds, e1, e2, h1, h2, h3, h4⟩
theorem sm_tup {ds : List PyData} (h : smAll ds = true) (z : ds.length ≤ 100000) : smD (.tuple ds) = true := by
  show (decide (ds.length ≤ 100000) && smAll ds) = true
  rw [decide_eq_true z, h]
  rfl
theorem sm_lst {ds : List PyData} (h : smAll ds = true) (z : ds.length ≤ 100000) : smD (.list ds) = true := by
  show (decide (ds.length ≤ 100000) && smAll ds) = true
  rw [decide_eq_true z, h]
  rfl
theorem ds_lst {H : Hp} {v : V} {d : PyData} (h : Ds K H v d) (c : tagD d = "list") : ∃ p xs ds, v = .ref p ∧ d = .list ds ∧ SqL K H p xs ∧ DpAll K H xs ds ∧ smAll ds = true ∧ ds.length ≤ 100000 ∧ xs.length = ds.length := by
  obtain ⟨ds, rfl⟩ := tag_lst c
  obtain ⟨p, xs, rfl, h1, h2⟩ := dp_lst h.1
  have h3 : (decide (ds.length ≤ 100000) && smAll ds) = true := h.2
  rw [Bool.and_eq_true] at h3
  exact ⟨p, xs, ds, rfl, rfl, h1, h2, h3.2, of_decide_eq_true h3.1, dpa_len h2⟩
theorem ds_str {H : Hp} {v : V} {d : PyData} (h : Ds K H v d) (c : tagD d = "str") : ∃ x, v = .str x ∧ d = .str x ∧ x.length ≤ 100000 := by
  obtain ⟨x, rfl⟩ := tag_str c
  exact ⟨x, dp_str h.1, rfl, of_decide_eq_true h.2⟩
theorem ds_int {H : Hp} {v : V} {d : PyData} (h : Ds K H v d) (c : tagD d = "int") : ∃ x, v = .int x ∧ d = .int x := by
  obtain ⟨x, rfl⟩ := tag_int c
  exact ⟨x, dp_int h.1, rfl⟩
theorem sm_drop : ∀ {ds : List PyData} (n : Nat), smAll ds = true → smAll (ds.drop n) = true
  | _, 0, h => h
  | [], _ + 1, h => h
  | _ :: ds, n + 1, h => sm_drop (ds := ds) n (Bool.and_eq_true _ _ ▸ h).2
theorem sm_take : ∀ {ds : List PyData} (n : Nat), smAll ds = true → smAll (ds.take n) = true
  | _, 0, _ => rfl
  | [], _ + 1, h => h
  | a :: ds, n + 1, h => by
    have h' := (Bool.and_eq_true _ _ ▸ h : smD a = true ∧ smAll ds = true)
    show (smD a && smAll (ds.take n)) = true
    rw [h'.1, sm_take n h'.2]
    rfl
/-- a promise of a question asked of one datum -/
def pF1 (K : PySem.W.Frag) (f : PyData → Bool) : Sp := fun vs H Q _ => ∃ v d, vs = [v] ∧ Ds K H v d ∧ RV1 (.bl (f d)) H Q
def pNum (K : PySem.W.Frag) : Sp := fun vs H Q _ => ∃ v d m, vs = [v, .int m] ∧ Ds K H v d ∧ RV1 (.bl (numD d m)) H Q
theorem not_tag {d : PyData} {s : String} (c : ¬ decide (tagD d = s) = true) : tagD d ≠ s := fun z => c (decide_eq_true z)
def vtyD : PyData → Bool
  | .tuple ds => vtD ds
  | _ => false
theorem typD_eq (d : PyData) : typD d = (vtyD d && decide (0 < lenD d)) := by
  cases d <;> rfl
theorem vtyD_tag {d : PyData} (h : tagD d ≠ "tuple") : vtyD d = false := by
  cases d <;> first | rfl | exact absurd rfl h
theorem typD_tag {d : PyData} (h : tagD d ≠ "tuple") : typD d = false := by
  cases d <;> first | rfl | exact absurd rfl h
theorem nameD_tag {d : PyData} (h : tagD d ≠ "str") : nameD d = false := by
  cases d <;> first | rfl | exact absurd rfl h
theorem numD_tag {d : PyData} {m : Int} (h : tagD d ≠ "int") : numD d m = false := by
  cases d <;> first | rfl | exact absurd rfl h
theorem irD_tag {d : PyData} (h : tagD d ≠ "str") : irD d = false := by
  cases d <;> first | rfl | exact absurd rfl h
theorem placeD_tag {d : PyData} (h : tagD d ≠ "tuple") : placeD d = false := by
  unfold placeD
  rw [decide_eq_false h]
  rfl
theorem declD_tag {d : PyData} (h : tagD d ≠ "tuple") : declD d = false := by
  unfold declD
  rw [decide_eq_false h]
  rfl
theorem srcsD_tag {d : PyData} (h : tagD d ≠ "list") : srcsD d = false := by
  unfold srcsD
  rw [decide_eq_false h]
  rfl
theorem nf {b : Bool} (c : ¬ b = true) : b = false := Bool.eq_false_iff.mpr c
theorem bools_snoc (f : PyData → Bool) {ds : List PyData} {k : Nat} {d : PyData} (h : ds[k]? = some d) : ((ds.take (k + 1)).map f).map V.bl = ((ds.take k).map f).map V.bl ++ [.bl (f d)] := by
  rw [List.take_add_one, h, List.map_append, List.map_append]
  rfl
theorem bools_len (f : PyData → Bool) (ds : List PyData) (k : Nat) : (((ds.take k).map f).map V.bl).length = min k ds.length := by
  rw [List.length_map, List.length_map, List.length_take]
theorem bools_all (f : PyData → Bool) (ds : List PyData) : (ds.map f).all id = ds.all f := by
  rw [List.all_map]
  rfl
theorem ds_at {H : Hp} {xs : List V} {ds : List PyData} {i : Nat} {v : V} (h : DpAll K H xs ds) (s : smAll ds = true) (e : xs[i]? = some v) : ∃ d, ds[i]? = some d ∧ Ds K H v d := by
  obtain ⟨d, hd, dv⟩ := dpa_at h e
  exact ⟨d, hd, dv, sm_at s hd⟩
theorem at_lt {α : Type} {xs : List α} {i : Nat} {v : α} (h : xs[i]? = some v) : i < xs.length := (List.getElem?_eq_some_iff.mp h).1
/-- a comprehension over characters -/
theorem cp_chars {σ : L2.St} {H : Hp} {g : TG} {t : TT} {te : TE} {Q : VK} {z : Str} {vs : List Nat} (J : Addr → Nat → Hp → Prop) (h0 : ∀ p, H p = none → J p 0 (upd H p (.lst [])))
    (hs : ∀ (p : Addr) (k : Nat) (c : Nat) (h : Hp), H p = none → z.cps[k]? = some c → J p k h → g (.str ⟨#[c]⟩) (wipe σ vs) h fun s2 h2 => wipe s2 vs = wipe σ vs ∧ t s2 h2 fun b h3 =>
      if b = true then te s2 h3 fun a h4 => ∃ acc, h4 p = some (.lst acc) ∧ acc.length < sizeLine ∧ J p (k + 1) (upd h4 p (.lst (acc ++ [a]))) else J p (k + 1) h3)
    (hd : ∀ p h, H p = none → J p z.cps.size h → Q (.ref p) h) : CompG (Its z) g t te vs σ H Q := fun p hp => by
  refine ⟨fun i m h => m = z.cps.size - i ∧ i ≤ z.cps.size ∧ J p i h, ⟨_, rfl, Nat.zero_le _, h0 p hp⟩, ?_⟩
  rintro i m h ⟨rfl, hi, q⟩
  by_cases hlt : i < z.cps.size
  · refine .inr ⟨hlt, J p (i + 1), fun h' q' => ⟨z.cps.size - (i + 1), by omega, rfl, hlt, q'⟩, fun x h' y => ?_⟩
    obtain ⟨e, c, y, e2⟩ := y
    subst e e2
    exact hs p i c _ hp y q
  · have e : i = z.cps.size := by omega
    subst e
    exact .inl ⟨Nat.le_refl _, hd p h hp q⟩
theorem chars_snoc {s : Str} {k c : Nat} (h : s.cps[k]? = some c) : ((s.cps.toList.take (k + 1)).map sgOk).map V.bl = ((s.cps.toList.take k).map sgOk).map V.bl ++ [.bl (sgOk c)] := by
  have h' : s.cps.toList[k]? = some c := by simpa using h
  rw [List.take_add_one, h', List.map_append, List.map_append]
  rfl
theorem fw_str {ds : List PyData} {x : Str} (h : 0 < ds.length) (e : nthD (.tuple ds) 0 = .str x) : fwD (.tuple ds) = x := by
  unfold fwD
  rw [if_pos ⟨rfl, h, by rw [e]; rfl⟩, e]
  rfl
theorem fw_no {d : PyData} (h : tagD d ≠ "tuple" ∨ lenD d = 0 ∨ tagD (nthD d 0) ≠ "str") : fwD d = "" := by
  unfold fwD
  refine if_neg fun z => ?_
  rcases h with h | h | h
  · exact h z.1
  · have := z.2.1; omega
  · exact h z.2.2
theorem vt_nil (ds : List PyData) (h : ¬ ds.length ≤ 6) : vtD ds = false := by
  unfold vtD
  rw [decide_eq_false h]
  rfl
theorem vt_all (ds : List PyData) (h : ds.length ≤ 6) : vtD ds = ds.all irD := by
  unfold vtD
  rw [decide_eq_true h]
  rfl
theorem a_sl13 {p : Addr} {xs : List V} {H : Hp} {Q : VK} (h : SqT K H p xs) (hn : 3 ≤ xs.length) (k : ∀ p H1, H p = none → Ex H H1 → H1 p = some (.tup ((xs.drop 1).take 2)) → Q (.ref p) H1) : rSlA K (.ref p) (some 1) (some 3) H Q := by
  have e1 : HT.sIx xs.length 0 (some 1) = 1 := by
    rw [show HT.sIx xs.length 0 (some 1) = min 1 xs.length from HT.sIx_nat xs.length 0 1]
    omega
  have e3 : HT.sIx xs.length xs.length (some 3) = 3 := by
    rw [show HT.sIx xs.length xs.length (some 3) = min 3 xs.length from HT.sIx_nat xs.length xs.length 3]
    omega
  refine ⟨p, xs, rfl, h, fun z => ?_, fun _ l hp => ?_⟩
  · rw [e1] at z
    exact absurd z.1 (by decide)
  · have e : cutV xs (some 1) (some 3) = (xs.drop 1).take 2 := by
      unfold cutV
      rw [e1, e3]
    rw [e]
    exact k l _ hp (Ex.new hp) upd_same
/-! ## the heap but for some places -/
def dl (S : List Addr) (H : Hp) : Hp := fun a => if a ∈ S then none else H a
theorem dl_nin {S : List Addr} {H : Hp} {a : Addr} (h : a ∉ S) : dl S H a = H a := if_neg h
theorem dl_in {S : List Addr} {H : Hp} {a : Addr} (h : a ∈ S) : dl S H a = none := if_pos h
theorem dl_le (S : List Addr) (H : Hp) : Ex (dl S H) H := fun a o e => by
  by_cases h : a ∈ S
  · rw [dl_in h] at e
    cases e
  · rw [dl_nin h] at e
    exact e
theorem dl_ex {S : List Addr} {H H1 : Hp} (e : Ex H H1) : Ex (dl S H) (dl S H1) := fun a o q => by
  by_cases h : a ∈ S
  · rw [dl_in h] at q
    cases q
  · rw [dl_nin h] at q ⊢
    exact e a o q
theorem dl_ks {S : List Addr} {H H1 : Hp} (e : Ks S H H1) : Ex (dl S H) (dl S H1) := fun a o q => by
  by_cases h : a ∈ S
  · rw [dl_in h] at q
    cases q
  · rw [dl_nin h] at q ⊢
    exact e a o h q
theorem dl_sub {S T : List Addr} {H : Hp} (h : ∀ a ∈ S, a ∈ T) : Ex (dl T H) (dl S H) := fun a o q => by
  by_cases k : a ∈ T
  · rw [dl_in k] at q
    cases q
  · rw [dl_nin k] at q
    rw [dl_nin fun z => k (h a z)]
    exact q
theorem dl_upd {S : List Addr} {H : Hp} {p : Addr} {o : HO} (h : p ∈ S) : dl S (upd H p o) = dl S H := by
  funext a
  by_cases k : a ∈ S
  · rw [dl_in k, dl_in k]
  · rw [dl_nin k, dl_nin k, upd_ne fun z => k (by rw [z]; exact h)]
/-- places of S are there -/
def Al (S : List Addr) (H : Hp) : Prop := ∀ a ∈ S, H a ≠ none
theorem Al.ex {S : List Addr} {H H1 : Hp} (h : Al S H) (e : Ex H H1) : Al S H1 := fun a k n => by
  cases q : H a with
  | none => exact h a k q
  | some o =>
    rw [e a o q] at n
    cases n
theorem Al.nil {H : Hp} : Al [] H := fun _ k => by cases k
theorem Al.cons {S : List Addr} {H : Hp} {p : Addr} {o : HO} (h : Al S H) (e : H p = some o) : Al (p :: S) H := fun a k => by
  rcases List.mem_cons.mp k with rfl | k
  · rw [e]
    exact fun z => by cases z
  · exact h a k
theorem Al.upd {S : List Addr} {H : Hp} {p : Addr} {o : HO} (h : Al S H) : Al S (L2.upd H p o) := fun a k => by
  by_cases z : a = p
  · rw [z, upd_same]
    exact fun z => by cases z
  · rw [upd_ne z]
    exact h a k
theorem ks_none {S : List Addr} {H H' : Hp} {q : Addr} (e : Ks S H H') (n : H' q = none) (h : q ∉ S) : H q = none := by
  cases z : H q with
  | none => rfl
  | some o =>
    rw [e q o h z] at n
    cases n
theorem Al.nin {S : List Addr} {H : Hp} {p : Addr} (h : Al S H) (n : H p = none) : p ∉ S := fun k => h p k n
/-- from the old heap to a new one without a place that is new -/
theorem dl_new {S : List Addr} {H H1 : Hp} {p : Addr} (n : H p = none) (e : Ex H H1) : Ex (dl S H) (dl (p :: S) H1) := fun a o q => by
  by_cases h : a ∈ S
  · rw [dl_in h] at q
    cases q
  · rw [dl_nin h] at q
    have k : a ≠ p := ne_of_none q n
    rw [dl_nin fun z => (List.mem_cons.mp z).elim k h]
    exact e a o q
theorem dl_at {S : List Addr} {H : Hp} {p : Addr} {o : HO} (h : p ∉ S) (e : H p = some o) : dl S H p = some o := by rw [dl_nin h]; exact e
theorem tu_dl {S : List Addr} {H : Hp} {p : Addr} {xs : List V} (h : p ∉ S) (e : Tu H p xs) : Tu (dl S H) p xs := by
  unfold Tu
  rw [dl_nin h]
  exact e
theorem dpa_snoc {H : Hp} {xs : List V} {ds : List PyData} {v : V} {d : PyData} (h : DpAll K H xs ds) (k : Dp K H v d) : DpAll K H (xs ++ [v]) (ds ++ [d]) := dpa_app h (.cons k .nil)
theorem take_snoc {α : Type} {ds : List α} {k : Nat} {d : α} (h : ds[k]? = some d) : ds.take (k + 1) = ds.take k ++ [d] := by
  rw [List.take_add_one, h]
  rfl
theorem take_len {α : Type} {ds : List α} {k : Nat} {d : α} (h : ds[k]? = some d) : (ds.take k).length = k := by
  have := at_lt h
  rw [List.length_take]
  omega
theorem sl_dl {S : List Addr} {H : Hp} {p : Addr} {xs : List V} (h : SqL K (dl S H) p xs) : SqL K H p xs := ex_sl h (dl_le S H)
theorem st_dl {S : List Addr} {H : Hp} {p : Addr} {xs : List V} (h : SqT K (dl S H) p xs) : SqT K H p xs := ex_st h (dl_le S H)
/-- a list of data that stands in a heap -/
structure Dl (K : PySem.W.Frag) (G : Hp) (p : Addr) (ds : List PyData) : Prop where
  ex : ∃ xs, SqL K G p xs ∧ DpAll K G xs ds
  sm : smAll ds = true
  le : ds.length ≤ 100000
theorem Dl.up {G G' : Hp} {p : Addr} {ds : List PyData} (h : Dl K G p ds) (e : Ex G G') : Dl K G' p ds := by
  obtain ⟨xs, h1, h2⟩ := h.ex
  exact ⟨⟨xs, ex_sl h1 e, dpa_ex e h2⟩, h.sm, h.le⟩
def pCop (K : PySem.W.Frag) : Sp := fun vs H Q _ => ∃ S v d, vs = [v] ∧ Al S H ∧ Ds K (dl S H) v d ∧ (tagD d ≠ "list" → Q v H) ∧
  (∀ ds, d = .list ds → ∀ q ys H1, H q = none → Ex H H1 → H1 q = some (.lst ys) → DpAll K (dl S H1) ys ds → Q (.ref q) H1)
def pCs (K : PySem.W.Frag) : Sp := fun vs H Q _ => ∃ S v d, vs = [v] ∧ Al S H ∧ Ds K (dl S H) v d ∧ ∀ v' H1, Ex H H1 → Dp K (dl S H1) v' d → Q v' H1
def pCss (K : PySem.W.Frag) : Sp := fun vs H Q _ => ∃ S p ds, vs = [.ref p] ∧ Al S H ∧ Dl K (dl S H) p ds ∧ ∀ q ys H1, H q = none → Ex H H1 → H1 q = some (.lst ys) → DpAll K (dl S H1) ys ds → Q (.ref q) H1
/-! ## instances -/
def GetF (K : PySem.W.Frag) (f : Str) (x : V) (H : Hp) (Q : VK) : Prop := ∃ a C dx fs v, x = .ref a ∧ H a = some (.ins C dx fs) ∧ Cls K C ∧ NoAttr K C f ∧ fs.lookup f = some v ∧ Q v H
def SetF (K : PySem.W.Frag) (f : Str) (x y : V) (H : Hp) (N : Hp → Prop) : Prop := ∃ a C dx fs, x = .ref a ∧ H a = some (.ins C dx fs) ∧ Cls K C ∧ NoAttr K C f ∧ fs.length < 1000 ∧ N (upd H a (.ins C dx (putF f y fs)))
def NewI (C : Addr) (sp : Sp) (E : XK) (vs : List V) (H : Hp) (Q : VK) : Prop := ∀ x dx, H x = none → H dx = none → dx ≠ x → sp (.ref x :: vs) (upd (upd H dx (.own x)) x (.ins C dx [])) (fun v H2 => v = .non ∧ Q (.ref x) H2) E
theorem w_getF {σ : L2.St} {H : Hp} {ta : TE} {f : Str} {Q : VK} (h : ta σ H fun x Ha => GetF K f x Ha Q) : tFld K ta f σ H Q := h
theorem fldK (K : PySem.W.Frag) {X : Cx} {e : Expr} {ta : TE} {f : Str} {pos : Pos} (he : PE X e ta) (hb : attributeBase e f X.env (eval e X.env) = eval e X.env) (h : X.K = K := by rfl) : PE X (.Attribute e f pos) (tFld K ta f) := by
  subst h
  exact pe_fld he hb
theorem w_setF {σ : L2.St} {H : Hp} {ta tv : TE} {f : Str} {D : Ends} (h : tv σ H fun y Ha => ta σ Ha fun x Hb => SetF K f x y Hb fun Hc => D.nx σ Hc) : sFld K ta tv f D σ H := h
theorem w_newI {σ : L2.St} {H : Hp} {C : Addr} {sp : Sp} {E : XK} {t : TA} {Q : VK} (h : t σ H fun vs Ha => NewI C sp E vs Ha Q) : tMake C sp [] E t σ H Q := by
  have e : (fun vs Ha => NewI C sp E vs Ha Q) = fun (vs : List V) H1 => ∀ x dx, H1 x = none → H1 dx = none → dx ≠ x → sp (.ref x :: (vs ++ [])) (upd (upd H1 dx (.own x)) x (.ins C dx [])) (fun v H2 => v = .non ∧ Q (.ref x) H2) E := by
    funext vs Ha
    rw [List.append_nil]
    rfl
  show t σ H fun vs H1 => ∀ x dx, H1 x = none → H1 dx = none → dx ≠ x → sp (.ref x :: (vs ++ [])) (upd (upd H1 dx (.own x)) x (.ins C dx [])) (fun v H2 => v = .non ∧ Q (.ref x) H2) E
  rw [← e]
  exact h
theorem w_callS {σ : L2.St} {H : Hp} {sp : Sp} {E : L2.St → XK} {t : TA} {Q : VK} (h : t σ H fun vs Ha => sp vs Ha Q (E σ)) : tCallS sp E t σ H Q := h
theorem a_get {H : Hp} {a C dx : Addr} {fs : List (Str × V)} {f : Str} {v : V} {Q : VK} (c : Cls K C) (n : PySem.W.findIn K (.ref C) f = some none) (e : H a = some (.ins C dx fs)) (l : fs.lookup f = some v) (k : Q v H) : GetF K f (.ref a) H Q := ⟨a, C, dx, fs, v, rfl, e, c, n, l, k⟩
theorem a_put {H : Hp} {a C dx : Addr} {fs : List (Str × V)} {f : Str} {y : V} {N : Hp → Prop} (c : Cls K C) (n : PySem.W.findIn K (.ref C) f = some none) (e : H a = some (.ins C dx fs)) (hl : fs.length < 1000) (k : N (upd H a (.ins C dx (putF f y fs)))) : SetF K f (.ref a) y H N := ⟨a, C, dx, fs, rfl, e, c, n, hl, k⟩
/-- a new instance: what is made, then __init__ -/
theorem a_new {H : Hp} {C : Addr} {sp : Sp} {E : XK} {vs : List V} {Q : VK} (k : ∀ x dx H1, H x = none → H dx = none → dx ≠ x → Ex H H1 → H1 x = some (.ins C dx []) → H1 dx = some (.own x) → sp (.ref x :: vs) H1 (fun v H2 => v = .non ∧ Q (.ref x) H2) E) : NewI C sp E vs H Q := fun x dx n1 n2 n3 =>
  k x dx _ n1 n2 n3 ((Ex.new n2).mut n1) upd_same (by rw [upd_ne n3, upd_same])
/-! ## the program's functions -/
def fnF (nv : V) (p b : Addr) : List (Str × V) := putF "body" (.ref b) (putF "params" (.ref p) (putF "name" nv []))
theorem fn_name (nv : V) (p b : Addr) : (fnF nv p b).lookup ("name" : Str) = some nv := by
  unfold fnF
  rw [lookup_putF, if_neg (by decide +kernel), lookup_putF, if_neg (by decide +kernel), lookup_putF, if_pos rfl]
theorem fn_params (nv : V) (p b : Addr) : (fnF nv p b).lookup ("params" : Str) = some (.ref p) := by
  unfold fnF
  rw [lookup_putF, if_neg (by decide +kernel), lookup_putF, if_pos rfl]
theorem fn_body (nv : V) (p b : Addr) : (fnF nv p b).lookup ("body" : Str) = some (.ref b) := by
  unfold fnF
  rw [lookup_putF, if_pos rfl]
theorem putF_le (f : Str) (v : V) : ∀ fs : List (Str × V), (putF f v fs).length ≤ fs.length + 1
  | [] => Nat.le_refl _
  | (g, x) :: r => by
    show (if g = f then (g, v) :: r else (g, x) :: putF f v r).length ≤ _
    by_cases h : g = f
    · rw [if_pos h]
      exact Nat.le_succ _
    · rw [if_neg h, List.length_cons, List.length_cons]
      exact Nat.succ_le_succ (putF_le f v r)
theorem put1_lt (f : Str) (v : V) : (putF f v []).length < 1000 := Nat.lt_of_le_of_lt (putF_le f v []) (by decide)
theorem put2_lt (f g : Str) (v u : V) : (putF f v (putF g u [])).length < 1000 := by
  have h1 := putF_le f v (putF g u [])
  have h2 := putF_le g u []
  have h3 : ([] : List (Str × V)).length = 0 := rfl
  omega
def pgF (f s : Addr) : List (Str × V) := putF "statements" (.ref s) (putF "functions" (.ref f) [])
theorem pg_fns (f s : Addr) : (pgF f s).lookup ("functions" : Str) = some (.ref f) := by
  unfold pgF
  rw [lookup_putF, if_neg (by decide +kernel), lookup_putF, if_pos rfl]
theorem pg_sts (f s : Addr) : (pgF f s).lookup ("statements" : Str) = some (.ref s) := by
  unfold pgF
  rw [lookup_putF, if_pos rfl]
/-- a list of data that can be changed -/
structure Dx (K : PySem.W.Frag) (G : Hp) (p : Addr) (ds : List PyData) : Prop where
  ex : ∃ xs, G p = some (.lst xs) ∧ DpAll K G xs ds
  sm : smAll ds = true
  le : ds.length ≤ 100000
theorem Dx.up {G G' : Hp} {p : Addr} {ds : List PyData} (h : Dx K G p ds) (e : Ex G G') : Dx K G' p ds := by
  obtain ⟨xs, h1, h2⟩ := h.ex
  exact ⟨⟨xs, e _ _ h1, dpa_ex e h2⟩, h.sm, h.le⟩
theorem Dx.dl {G : Hp} {p : Addr} {ds : List PyData} (h : Dx K G p ds) : Dl K G p ds := by
  obtain ⟨xs, h1, h2⟩ := h.ex
  exact ⟨⟨xs, SqL.of h1, h2⟩, h.sm, h.le⟩
structure FD where
  n : PyData
  p : List PyData
  b : List PyData
/-- a function as an object -/
structure FnAt (K : PySem.W.Frag) (C : Addr) (G : Hp) (a : Addr) (f : FD) : Prop where
  ex : ∃ dx nv q1 q2, G a = some (.ins C dx (fnF nv q1 q2)) ∧ Ds K G nv f.n ∧ Dx K G q1 f.p ∧ Dx K G q2 f.b
theorem FnAt.up {C : Addr} {G G' : Hp} {a : Addr} {f : FD} (h : FnAt K C G a f) (e : Ex G G') : FnAt K C G' a f := by
  obtain ⟨dx, nv, q1, q2, h1, h2, h3, h4⟩ := h.ex
  exact ⟨dx, nv, q1, q2, e _ _ h1, ds_ex h2 e, h3.up e, h4.up e⟩
inductive FnAll (K : PySem.W.Frag) (C : Addr) (G : Hp) : List V → List FD → Prop
  | nil : FnAll K C G [] []
  | cons {a : Addr} {f : FD} {xs : List V} {fs : List FD} : FnAt K C G a f → FnAll K C G xs fs → FnAll K C G (.ref a :: xs) (f :: fs)
theorem FnAll.up {C : Addr} {G G' : Hp} (e : Ex G G') : ∀ {xs : List V} {fs : List FD}, FnAll K C G xs fs → FnAll K C G' xs fs
  | _, _, .nil => .nil
  | _, _, .cons h t => .cons (h.up e) (t.up e)
theorem FnAll.len {C : Addr} {G : Hp} : ∀ {xs : List V} {fs : List FD}, FnAll K C G xs fs → xs.length = fs.length
  | _, _, .nil => rfl
  | _, _, .cons _ t => congrArg (· + 1) t.len
theorem FnAll.get {C : Addr} {G : Hp} : ∀ {xs : List V} {fs : List FD} {i : Nat} {v : V}, FnAll K C G xs fs → xs[i]? = some v → ∃ a f, v = .ref a ∧ fs[i]? = some f ∧ FnAt K C G a f
  | _, _, _, _, .nil, e => by simp at e
  | _, _, 0, _, .cons h _, e => by
    cases Option.some.inj e
    exact ⟨_, _, rfl, rfl, h⟩
  | _, _, i + 1, _, .cons _ t, e => FnAll.get (i := i) t e
theorem FnAll.snoc {C : Addr} {G : Hp} {a : Addr} {f : FD} (k : FnAt K C G a f) : ∀ {xs : List V} {fs : List FD}, FnAll K C G xs fs → FnAll K C G (xs ++ [.ref a]) (fs ++ [f])
  | _, _, .nil => .cons k .nil
  | _, _, .cons h t => .cons h (FnAll.snoc k t)
def stsD (m : Nat) (ds : List PyData) : Bool := decide (ds.length ≤ m) && ds.all stmtD
def fnD (f : FD) : Bool := nameD f.n && (decide (f.p.length ≤ 4) && f.p.all declD) && stsD 12 f.b
/-- a function object that is new, its lists too -/
def NewF (C : Addr) (H H1 : Hp) (v : V) : Prop := ∃ a dx nv q1 q2, v = .ref a ∧ H a = none ∧ H1 a = some (.ins C dx (fnF nv q1 q2)) ∧ H q1 = none ∧ H q2 = none
theorem ex_none {H H1 : Hp} {a : Addr} (e : Ex H H1) (n : H1 a = none) : H a = none := by
  cases z : H a with
  | none => rfl
  | some o =>
    rw [e _ _ z] at n
    cases n
theorem NewF.up {C : Addr} {H H1 H2 : Hp} {v : V} (h : NewF C H H1 v) (e : Ex H1 H2) : NewF C H H2 v := by
  obtain ⟨a, dx, nv, q1, q2, h1, h2, h3, h4, h5⟩ := h
  exact ⟨a, dx, nv, q1, q2, h1, h2, e _ _ h3, h4, h5⟩
theorem NewF.down {C : Addr} {H0 H H1 : Hp} {v : V} (h : NewF C H H1 v) (e : Ex H0 H) : NewF C H0 H1 v := by
  obtain ⟨a, dx, nv, q1, q2, h1, h2, h3, h4, h5⟩ := h
  exact ⟨a, dx, nv, q1, q2, h1, ex_none e h2, h3, ex_none e h4, ex_none e h5⟩
/-- .. also behind a change of another kind of thing -/
theorem NewF.mut {C : Addr} {H H1 : Hp} {v : V} {p : Addr} {xs : List V} {o : HO} (h : NewF C H H1 v) (f : H1 p = some (.lst xs)) : NewF C H (upd H1 p o) v := by
  obtain ⟨a, dx, nv, q1, q2, h1, h2, h3, h4, h5⟩ := h
  have z : a ≠ p := fun z => by
    rw [z, f] at h3
    cases h3
  exact ⟨a, dx, nv, q1, q2, h1, h2, by rw [upd_ne z]; exact h3, h4, h5⟩
theorem NewF.ks {C : Addr} {H H1 H2 : Hp} {v : V} {p : Addr} {o : HO} (h : NewF C H H1 v) (f : H p = some o) (k : Ks [p] H1 H2) : NewF C H H2 v := by
  obtain ⟨a, dx, nv, q1, q2, h1, h2, h3, h4, h5⟩ := h
  have z : a ≠ p := fun z => by
    rw [z, f] at h2
    cases h2
  exact ⟨a, dx, nv, q1, q2, h1, h2, k _ _ (by simpa using z) h3, h4, h5⟩
def pFi (K : PySem.W.Frag) (C : Addr) : Sp := fun vs H Q _ => ∃ S a dx nv pp bp, ∃ f : FD, vs = [.ref a, nv, .ref pp, .ref bp] ∧ Al S H ∧ a ∈ S ∧ H a = some (.ins C dx []) ∧ Ds K (dl S H) nv f.n ∧ Dl K (dl S H) pp f.p ∧ Dl K (dl S H) bp f.b ∧
  ∀ q1 q2 ys1 ys2 H1, Ks [a] H H1 → H q1 = none → H q2 = none → q1 ≠ q2 → H1 a = some (.ins C dx (fnF nv q1 q2)) → H1 q1 = some (.lst ys1) → H1 q2 = some (.lst ys2) → DpAll K (dl S H1) ys1 f.p → DpAll K (dl S H1) ys2 f.b → Q .non H1
def pCf (K : PySem.W.Frag) (C : Addr) : Sp := fun vs H Q _ => ∃ S a f, vs = [.ref a] ∧ Al S H ∧ FnAt K C (dl S H) a f ∧ ∀ b H1, H b = none → Ex H H1 → FnAt K C (dl S H1) b f → NewF C H H1 (.ref b) → Q (.ref b) H1
def pCfs (K : PySem.W.Frag) (C : Addr) : Sp := fun vs H Q _ => ∃ S p xs fs, vs = [.ref p] ∧ Al S H ∧ SqL K (dl S H) p xs ∧ FnAll K C (dl S H) xs fs ∧ fs.length ≤ 100000 ∧ ∀ q ys H1, H q = none → Ex H H1 → H1 q = some (.lst ys) → FnAll K C (dl S H1) ys fs → (∀ v ∈ ys, NewF C H H1 v) → Q (.ref q) H1
def pSts (K : PySem.W.Frag) : Sp := fun vs H Q _ => ∃ p ds m, vs = [.ref p, .int (m : Nat)] ∧ Dl K H p ds ∧ RV1 (.bl (stsD m ds)) H Q
def pIf (K : PySem.W.Frag) (C : Addr) : Sp := fun vs H Q _ => ∃ a f, vs = [.ref a] ∧ FnAt K C H a f ∧ RV1 (.bl (fnD f)) H Q
/-! ## what is declared -/
def letsD (ds : List PyData) : List PyData := (ds.filter fun d => decide (fwD d = "let")).map cut13
theorem lets_snoc (ds : List PyData) (d : PyData) : letsD (ds ++ [d]) = letsD ds ++ (if fwD d = "let" then [cut13 d] else []) := by
  unfold letsD
  rw [List.filter_append, List.map_append]
  by_cases h : fwD d = "let"
  · rw [if_pos h, List.filter_cons_of_pos (by simpa using h)]
    rfl
  · rw [if_neg h, List.filter_cons_of_neg (by simpa using h)]
    rfl
theorem lets_len (ds : List PyData) : (letsD ds).length ≤ ds.length := by
  unfold letsD
  rw [List.length_map]
  exact List.length_filter_le _ _
structure StOk (d : PyData) (ds : List PyData) : Prop where
  e : d = .tuple ds
  ne : 0 < ds.length
  w : nthD (.tuple ds) 0 = .str (fwD d)
  lt : fwD d = "let" → ds.length = 4 ∧ declD (cut13 d) = true
  cl : fwD d = "call" → ds.length = 3 ∧ nameD (nthD d 1) = true ∧ srcsD (nthD d 2) = true
theorem st_ok {d : PyData} (h : stmtD d = true) : ∃ ds, StOk d ds := by
  have hw : fwD d ≠ "" := fun z => by
    unfold stmtD at h
    rw [z, if_neg (by decide), if_neg (by decide)] at h
    rw [decide_eq_false (by decide)] at h
    cases h
  obtain ⟨ds, e, ne⟩ := fw_ne hw
  have hs : tagD (nthD d 0) = "str" := Decidable.byContradiction fun z => hw (fw_no (.inr (.inr z)))
  obtain ⟨x, ex⟩ := tag_str hs
  refine ⟨ds, e, ne, ?_, fun c => ?_, fun c => ?_⟩
  · subst e
    rw [ex, fw_str ne ex]
  · unfold stmtD at h
    rw [if_pos c, Bool.and_eq_true, Bool.and_eq_true] at h
    have h1 := of_decide_eq_true h.1
    subst e
    exact ⟨h1, h.2.1⟩
  · unfold stmtD at h
    rw [c, if_neg (by decide), if_neg (by decide), Bool.and_eq_true, Bool.and_eq_true, Bool.and_eq_true] at h
    have h1 := of_decide_eq_true h.2.1
    subst e
    exact ⟨h1, h.2.2.1, h.2.2.2⟩
structure PrOk (d : PyData) (ds : List PyData) : Prop where
  e : d = .tuple ds
  l : ds.length = 2
  n : nameD (nthD (.tuple ds) 0) = true
theorem pr_ok {d : PyData} (h : declD d = true) : ∃ ds, PrOk d ds := by
  unfold declD at h
  rw [Bool.and_eq_true, Bool.and_eq_true, Bool.and_eq_true] at h
  obtain ⟨ds, rfl⟩ := tag_tup (of_decide_eq_true h.1.1)
  exact ⟨ds, rfl, of_decide_eq_true h.1.2, h.2.1⟩
theorem name_str {d : PyData} (h : nameD d = true) : d = .str (strD d) ∧ (strD d).length ≤ 8 := by
  cases d with
  | str x =>
    refine ⟨rfl, ?_⟩
    have h' : (!decide (x = "null") && (decide (1 ≤ x.length) && decide (x.length ≤ 8)) && x.cps.toList.all sgOk) = true := h
    rw [Bool.and_eq_true, Bool.and_eq_true, Bool.and_eq_true] at h'
    exact of_decide_eq_true h'.1.2.2
  | _ => exact absurd h (by simp [nameD])
def declsF (fs : List FD) : List PyData := fs.flatMap fun f => f.p ++ letsD f.b
def declsD (fs : List FD) (ss : List PyData) : List PyData := declsF fs ++ letsD ss
theorem declsF_snoc (fs : List FD) (f : FD) : declsF (fs ++ [f]) = declsF fs ++ (f.p ++ letsD f.b) := by
  unfold declsF
  rw [List.flatMap_append]
  simp
theorem all_at {α : Type} {p : α → Bool} {xs : List α} {i : Nat} {x : α} (h : xs.all p = true) (e : xs[i]? = some x) : p x = true := List.all_eq_true.mp h x (List.mem_of_getElem? e)
theorem fn_le {f : FD} (h : fnD f = true) : f.p.length ≤ 4 ∧ f.b.length ≤ 12 ∧ nameD f.n = true ∧ f.p.all declD = true ∧ f.b.all stmtD = true := by
  unfold fnD stsD at h
  rw [Bool.and_eq_true, Bool.and_eq_true, Bool.and_eq_true, Bool.and_eq_true] at h
  exact ⟨of_decide_eq_true h.1.2.1, of_decide_eq_true h.2.1, h.1.1, h.1.2.2, h.2.2⟩
theorem lets_ok {ds : List PyData} (h : ds.all stmtD = true) : (letsD ds).all declD = true := by
  rw [List.all_eq_true] at h ⊢
  intro x hx
  unfold letsD at hx
  obtain ⟨d, hd, rfl⟩ := List.mem_map.mp hx
  obtain ⟨h1, h2⟩ := List.mem_filter.mp hd
  obtain ⟨_, o⟩ := st_ok (h d h1)
  exact (o.lt (of_decide_eq_true h2)).2
theorem declsF_le : ∀ {fs : List FD}, fs.all fnD = true → (declsF fs).length ≤ 16 * fs.length
  | [], _ => Nat.le_refl _
  | f :: fs, h => by
    rw [List.all_cons, Bool.and_eq_true] at h
    have h1 := fn_le h.1
    have h2 := declsF_le h.2
    have h3 := lets_len f.b
    unfold declsF at h2 ⊢
    rw [List.flatMap_cons, List.length_append, List.length_append, List.length_cons]
    omega
theorem declsF_ok {fs : List FD} (h : fs.all fnD = true) : (declsF fs).all declD = true := by
  rw [List.all_eq_true] at h ⊢
  intro x hx
  unfold declsF at hx
  obtain ⟨f, hf, hx⟩ := List.mem_flatMap.mp hx
  have h1 := fn_le (h f hf)
  rcases List.mem_append.mp hx with hx | hx
  · exact List.all_eq_true.mp h1.2.2.2.1 x hx
  · exact List.all_eq_true.mp (lets_ok h1.2.2.2.2) x hx
theorem decls_ok {fs : List FD} {ss : List PyData} (h : fs.all fnD = true) (k : ss.all stmtD = true) : (declsD fs ss).all declD = true := by
  unfold declsD
  rw [List.all_append, declsF_ok h, lets_ok k]
  rfl
theorem decls_le {fs : List FD} {ss : List PyData} (h : fs.all fnD = true) (h4 : fs.length ≤ 4) (h40 : ss.length ≤ 40) : (declsD fs ss).length ≤ 104 := by
  have h1 := declsF_le h
  have h2 := lets_len ss
  unfold declsD
  rw [List.length_append]
  omega
theorem a_extend {H : Hp} {Q : VK} {p b : Addr} {xs zs : List V} (h : H p = some (.lst xs)) (k : H b = some (.lst zs)) (hz : xs.length + zs.length ≤ 100000) (q : Q .non (upd H p (.lst (xs ++ zs)))) : rExtend (.ref p) [.ref b] H Q := ⟨p, b, xs, zs, rfl, rfl, h, k, sz_of hz, q⟩
def pLets (K : PySem.W.Frag) : Sp := fun vs H Q _ => ∃ S p ds, vs = [.ref p] ∧ Al S H ∧ Dl K (dl S H) p ds ∧ ds.all stmtD = true ∧ ∀ q ys H1, H q = none → Ex H H1 → H1 q = some (.lst ys) → DpAll K (dl S H1) ys (letsD ds) → Q (.ref q) H1
/-- the parts of a program -/
structure Pg (K : PySem.W.Frag) (C : Addr) (G : Hp) (pf ps : Addr) (fs : List FD) (ss : List PyData) : Prop where
  fx : ∃ xs, SqL K G pf xs ∧ FnAll K C G xs fs
  sx : Dl K G ps ss
  fo : fs.all fnD = true
  so : ss.all stmtD = true
  f4 : fs.length ≤ 4
  s40 : ss.length ≤ 40
theorem Pg.up {C : Addr} {G G' : Hp} {pf ps : Addr} {fs : List FD} {ss : List PyData} (h : Pg K C G pf ps fs ss) (e : Ex G G') : Pg K C G' pf ps fs ss := by
  obtain ⟨xs, h1, h2⟩ := h.fx
  exact ⟨⟨xs, ex_sl h1 e, h2.up e⟩, h.sx.up e, h.fo, h.so, h.f4, h.s40⟩
def pDecl (K : PySem.W.Frag) (C : Addr) : Sp := fun vs H Q _ => ∃ S pf ps fs ss, vs = [.ref pf, .ref ps] ∧ Al S H ∧ Pg K C (dl S H) pf ps fs ss ∧ ∀ q ys H1, H q = none → Ex H H1 → H1 q = some (.lst ys) → DpAll K (dl S H1) ys (declsD fs ss) → Q (.ref q) H1
def namesD (fs : List FD) (ss : List PyData) : List Str := (fs.map fun f => strD f.n) ++ (declsD fs ss).map fun d => strD (nthD d 0)
def kindsD (fs : List FD) (ss : List PyData) : List PyData := (declsD fs ss).map fun d => nthD d 1
def pNames (K : PySem.W.Frag) (C : Addr) : Sp := fun vs H Q _ => ∃ S pf ps fs ss, vs = [.ref pf, .ref ps] ∧ Al S H ∧ Pg K C (dl S H) pf ps fs ss ∧ ∀ q H1, H q = none → Ex H H1 → H1 q = some (.lst ((namesD fs ss).map V.str)) → Q (.ref q) H1
def pKinds (K : PySem.W.Frag) (C : Addr) : Sp := fun vs H Q _ => ∃ S pf ps fs ss, vs = [.ref pf, .ref ps] ∧ Al S H ∧ Pg K C (dl S H) pf ps fs ss ∧ ∀ q ys H1, H q = none → Ex H H1 → H1 q = some (.lst ys) → DpAll K (dl S H1) ys (kindsD fs ss) → Q (.ref q) H1
theorem w_gtupS {σ : L2.St} {H : Hp} {n : Nat} {gs : TGs} {N : L2.St → Hp → Prop} {p : Addr} {xs : List V} (hx : SqT K H p xs) (hn : xs.length = n) (h : gs xs σ H N) : gTup K n gs (.ref p) σ H N := ⟨p, xs, rfl, hx, hn, h⟩
theorem dpa_two {G : Hp} {xs : List V} {ds : List PyData} (h : DpAll K G xs ds) (l : ds.length = 2) : ∃ u v, xs = [u, v] ∧ Dp K G u (nthD (.tuple ds) 0) ∧ Dp K G v (nthD (.tuple ds) 1) := by
  match ds, l, h with
  | [_, _], _, .cons h1 (.cons h2 .nil) => exact ⟨_, _, rfl, h1, h2⟩
theorem ev_le {G : Hp} {xs : List V} {ds : List PyData} (h : DpAll K G xs ds) (l : ds.length ≤ 104) : xs.length ≤ 104 := by rw [dpa_len h]; exact l
def kindD (ds : List PyData) : Bool := ds.all typD || ds.all fun d => numD d 5
def pKind (K : PySem.W.Frag) : Sp := fun vs H Q _ => ∃ p ds, vs = [.ref p] ∧ Dl K H p ds ∧ RV1 (.bl (kindD ds)) H Q
/-! ## calls that fit -/
abbrev Kv := List (Key × V)
def IntK (kvs : Kv) : Prop := ∀ k v, valV kvs k = some v → ∃ i, v = .int i
def fit1 (kvs : Kv) (d : PyData) : Bool := !decide (fwD d = "call") || decide ((valV kvs (Sum.inr (strD (nthD d 1)))).getD .non = .int ((itemsD (nthD d 2)).length : Nat))
def fitD (kvs : Kv) (ss : List PyData) : Bool := ss.all (fit1 kvs)
def putN (kvs : Kv) (f : FD) : Kv := putK kvs (Sum.inr (strD f.n)) (.int (f.p.length : Nat))
def fitF (kvs : Kv) : List FD → List PyData → Bool
  | [], ss => fitD kvs ss
  | f :: fs, ss => fitD kvs f.b && fitF (putN kvs f) fs ss
theorem putN_le (kvs : Kv) (f : FD) : (putN kvs f).length ≤ kvs.length + 1 := by
  unfold putN putK
  split
  · rw [List.length_map]
    exact Nat.le_succ _
  · rw [List.length_append]
    exact Nat.le_refl _
theorem IntK.put {kvs : Kv} (h : IntK kvs) (f : FD) : IntK (putN kvs f) := fun k v e => by
  unfold putN at e
  rw [valV_put] at e
  by_cases z : k = Sum.inr (strD f.n)
  · rw [if_pos z] at e
    exact ⟨_, (Option.some.inj e).symm⟩
  · rw [if_neg z] at e
    exact h k v e
theorem int_scal {kvs : Kv} (h : IntK kvs) (k : Key) (n : Int) : scal ((valV kvs k).getD .non) (.int n) = true := by
  cases e : valV kvs k with
  | none => rfl
  | some v =>
    obtain ⟨i, rfl⟩ := h k v e
    rfl
def pFit (K : PySem.W.Frag) : Sp := fun vs H Q _ => ∃ ps ss m kvs, vs = [.ref ps, .ref m] ∧ Dl K H ps ss ∧ ss.all stmtD = true ∧ H m = some (.dK kvs) ∧ IntK kvs ∧ RV1 (.bl (fitD kvs ss)) H Q
def pFits (K : PySem.W.Frag) (C : Addr) : Sp := fun vs H Q _ => ∃ pf ps fs ss, vs = [.ref pf, .ref ps] ∧ Pg K C H pf ps fs ss ∧ RV1 (.bl (fitF [] fs ss)) H Q
def GetD (ty : TE) (x : V) (σ : L2.St) (H : Hp) (Q : VK) : Prop := ∃ a, x = .ref a ∧ IsD H a ∧ ty σ H fun y H2 => ∃ o, DGet H2 a y o ∧ Q (o.getD .non) H2
theorem w_getD1 {σ : L2.St} {H : Hp} {td ty : TE} {Q : VK} (h : td σ H fun x Ha => GetD ty x σ Ha Q) : tDGet1 td ty σ H Q := h
theorem a_getD {σ : L2.St} {H : Hp} {ty : TE} {Q : VK} {m : Addr} {kvs : Kv} (e : H m = some (.dK kvs)) (h : ty σ H fun y H2 => ∃ o, DGet H2 m y o ∧ Q (o.getD .non) H2) : GetD ty (.ref m) σ H Q := ⟨m, rfl, .inl ⟨kvs, .inl e⟩, h⟩
def PutD (x y v : V) (H : Hp) (N : Hp → Prop) : Prop := ∃ a H4, x = .ref a ∧ DPut H a y v H4 ∧ N H4
theorem w_putD {σ : L2.St} {H : Hp} {td ty tv : TE} {D : Ends} (h : tv σ H fun v Ha => td σ Ha fun x Hb => ty σ Hb fun y Hc => PutD x y v Hc fun Hd => D.nx σ Hd) : sDPut td ty tv D σ H := h
theorem a_putD {H : Hp} {m : Addr} {kvs : Kv} {x : Str} {v : V} {N : Hp → Prop} (e : H m = some (.dK kvs)) (hl : kvs.length < 100000) (k : N (upd H m (.dK (putK kvs (Sum.inr x) v)))) : PutD (.ref m) (.str x) v H N := ⟨m, _, rfl, DPut.k (k := Sum.inr x) e (sz_lt hl), k⟩
theorem dl_nil (H : Hp) : dl [] H = H := by
  funext a
  exact if_neg (by simp)
def nodupD (ss : List Str) : Bool := decide ss.Nodup
def pDiff (K : PySem.W.Frag) : Sp := fun vs H Q _ => ∃ p ss, vs = [.ref p] ∧ SqL K H p (ss.map V.str) ∧ ss.length ≤ 200 ∧ (∀ s ∈ ss, s.length ≤ 8) ∧ RV1 (.bl (nodupD ss)) H Q
def progD (fs : List FD) (ss : List PyData) : Bool := decide (fs.length ≤ 4) && fs.all fnD && stsD 40 ss && (nodupD (namesD fs ss) && kindD (kindsD fs ss) && fitF [] fs ss)
def pIp (K : PySem.W.Frag) (C : Addr) : Sp := fun vs H Q _ => ∃ pf ps xs fs ss, vs = [.ref pf, .ref ps] ∧ SqL K H pf xs ∧ FnAll K C H xs fs ∧ fs.length ≤ 100000 ∧ Dl K H ps ss ∧ RV1 (.bl (progD fs ss)) H Q
/-! ## the error -/
def pRe (C : Addr) : Sp := fun vs H Q _ => ∃ a r, vs = [.ref a, .str r] ∧ H a = some (exo a C none) ∧ ∀ dx, H dx = none → dx ≠ a → Q .non (upd (upd H dx (exd dx [("reason", .str r)])) a (exo a C (some dx)))
def VeI (K : PySem.W.Frag) (vs : List V) (H : Hp) (Q : VK) : Prop := ∃ (a C : Addr) (ws : List V), vs = .ref a :: ws ∧ ws.length ≤ 1000 ∧ OexC K C ∧ H a = some (exo a C none) ∧ Q .non H
theorem w_veI {σ : L2.St} {H : Hp} {ta : TA} {Q : VK} (h : ta σ H fun vs Ha => VeI K vs Ha Q) : tVeI K ta σ H Q := h
def OstI (K : PySem.W.Frag) (f : Str) (x y : V) (H : Hp) (N : Hp → Prop) : Prop := ∃ a C : Addr, x = .ref a ∧ OexC K C ∧ PySem.W.findIn K (.ref C) f = some none ∧
  ((H a = some (exo a C none) ∧ ∀ dx, H dx = none → dx ≠ a → N (upd (upd H dx (exd dx [(f, y)])) a (exo a C (some dx)))) ∨
    ∃ (dx : Addr) (fs : List (Str × V)), H a = some (exo a C (some dx)) ∧ H dx = some (exd dx fs) ∧ fs.length ≤ 900 ∧ N (upd H dx (exd dx ((f, y) :: fs))))
theorem w_ostI {σ : L2.St} {H : Hp} {f : Str} {to te : TE} {D : Ends} (h : te σ H fun y Ha => to σ Ha fun x Hb => OstI K f x y Hb fun Hc => D.nx σ Hc) : tOst K f to te D σ H := h
def MkO (C : Addr) (sp : Sp) (vs : List V) (H : Hp) (Q : XK) : Prop := vs.length ≤ 1000 ∧ ∀ a, H a = none → sp (.ref a :: vs) (upd H a (exo a C none))
  (fun v H2 => v = .non ∧ ∃ (d : Addr) (fs : List (Str × V)), H2 a = some (exo a C (some d)) ∧ H2 d = some (exd d fs) ∧ H d = none ∧ Q (.ref C) (some d) (upd (del H2 a) d (.xd fs))) (fun _ _ _ => False)
theorem w_mkO {σ : L2.St} {H : Hp} {C : Addr} {sp : Sp} {ta : TA} {Q : XK} (h : ta σ H fun vs Ha => MkO C sp vs Ha Q) : tMkO C sp [] ta σ H Q := by
  have e : (fun vs Ha => MkO C sp vs Ha Q) = fun (vs : List V) H1 => vs.length ≤ 1000 ∧ ∀ a, H1 a = none → sp (.ref a :: (vs ++ [])) (upd H1 a (exo a C none))
      (fun v H2 => v = .non ∧ ∃ (d : Addr) (fs : List (Str × V)), H2 a = some (exo a C (some d)) ∧ H2 d = some (exd d fs) ∧ H1 d = none ∧ Q (.ref C) (some d) (upd (del H2 a) d (.xd fs))) (fun _ _ _ => False) := by
    funext vs Ha
    rw [List.append_nil]
    rfl
  show ta σ H fun vs H1 => vs.length ≤ 1000 ∧ ∀ a, H1 a = none → sp (.ref a :: (vs ++ [])) (upd H1 a (exo a C none))
      (fun v H2 => v = .non ∧ ∃ (d : Addr) (fs : List (Str × V)), H2 a = some (exo a C (some d)) ∧ H2 d = some (exd d fs) ∧ H1 d = none ∧ Q (.ref C) (some d) (upd (del H2 a) d (.xd fs))) (fun _ _ _ => False)
  rw [← e]
  exact h
/-- what a made error leaves behind -/
theorem mko_re {C : Addr} {r : Str} {H : Hp} {Q : XK} (k : ∀ d H1, H d = none → Ex H H1 → H1 d = some (.xd [("reason", .str r)]) → Q (.ref C) (some d) H1) : MkO C (pRe C) [.str r] H Q := by
  refine ⟨(show 1 ≤ 1000 by decide), fun a na => ⟨a, r, rfl, upd_same, fun dx n ne => ⟨rfl, dx, [("reason", .str r)], upd_same, by rw [upd_ne ne, upd_same], by rw [upd_ne ne] at n; exact n, ?_⟩⟩⟩
  have nd : H dx = none := by rw [upd_ne ne] at n; exact n
  refine k dx _ nd (fun b o e => ?_) upd_same
  have b1 : b ≠ dx := ne_of_none e nd
  have b2 : b ≠ a := ne_of_none e na
  rw [upd_ne b1, del_ne b2, upd_ne b2, upd_ne b1, upd_ne b2]
  exact e
def pPi (K : PySem.W.Frag) (C CF CE : Addr) : Sp := fun vs H Q E => ∃ S a dx pf ps xs fs ss, vs = [.ref a, .ref pf, .ref ps] ∧ Al S H ∧ a ∈ S ∧ H a = some (.ins C dx []) ∧ SqL K (dl S H) pf xs ∧ FnAll K CF (dl S H) xs fs ∧ fs.length ≤ 100000 ∧ Dl K (dl S H) ps ss ∧
  (progD fs ss = true → ∀ q1 q2 ys1 ys2 H1, Ks [a] H H1 → H q1 = none → H q2 = none → H1 a = some (.ins C dx (pgF q1 q2)) → H1 q1 = some (.lst ys1) → FnAll K CF (dl S H1) ys1 fs → (∀ v ∈ ys1, NewF CF H H1 v) → H1 q2 = some (.lst ys2) → DpAll K (dl S H1) ys2 ss → Q .non H1) ∧
  (progD fs ss = false → ∀ d H1, Ks [a] H H1 → H d = none → H1 d = some (.xd [("reason", .str "no program")]) → E (.ref CE) (some d) H1)
theorem pi_keep {C : Addr} {n1 : Str} {H1 H2 : Hp} (S : List Addr) (e : Ex H1 H2) : Ex (dl S H1) (dl S H2) := dl_ex e
theorem sts_le {m : Nat} {ss : List PyData} (h : stsD m ss = true) : ss.length ≤ m ∧ ss.all stmtD = true := by
  unfold stsD at h
  rw [Bool.and_eq_true] at h
  exact ⟨of_decide_eq_true h.1, h.2⟩
theorem FnAll.ref {C : Addr} {G : Hp} {xs : List V} {fs : List FD} (h : FnAll K C G xs fs) : True := trivial
theorem kinds_sm {fs : List FD} {ss : List PyData} (h : smAll (declsD fs ss) = true) (o : (declsD fs ss).all declD = true) : smAll (kindsD fs ss) = true := by
  unfold kindsD
  revert h o
  induction declsD fs ss with
  | nil => intro _ _; rfl
  | cons d ds ih =>
    intro h o
    have h' := (Bool.and_eq_true _ _ ▸ h : smD d = true ∧ smAll ds = true)
    rw [List.all_cons, Bool.and_eq_true] at o
    obtain ⟨es, p⟩ := pr_ok o.1
    have h2 : smD d = true := h'.1
    rw [p.e] at h2
    have h3 := (Bool.and_eq_true _ _ ▸ h2 : decide (es.length ≤ 100000) = true ∧ smAll es = true)
    show (smD (nthD d 1) && smAll (ds.map fun d => nthD d 1)) = true
    rw [ih h'.2 o.2, p.e, sm_at h3.2 (nthD_get (by rw [p.l]; decide))]
    rfl
theorem sm_app : ∀ {xs ys : List PyData}, smAll xs = true → smAll ys = true → smAll (xs ++ ys) = true
  | [], _, _, h => h
  | a :: as, ys, h, g => by
    have h' := (Bool.and_eq_true _ _ ▸ h : smD a = true ∧ smAll as = true)
    show (smD a && smAll (as ++ ys)) = true
    rw [h'.1, sm_app h'.2 g]
    rfl
theorem sm_lets : ∀ {ss : List PyData}, smAll ss = true → ss.all stmtD = true → smAll (letsD ss) = true
  | [], _, _ => rfl
  | d :: ds, h, o => by
    have h' := (Bool.and_eq_true _ _ ▸ h : smD d = true ∧ smAll ds = true)
    rw [List.all_cons, Bool.and_eq_true] at o
    have ih := sm_lets h'.2 o.2
    unfold letsD at ih ⊢
    by_cases c : fwD d = "let"
    · rw [List.filter_cons_of_pos (by simpa using c), List.map_cons]
      obtain ⟨es, p⟩ := st_ok o.1
      have h2 : smD d = true := h'.1
      rw [p.e] at h2
      have h3 := (Bool.and_eq_true _ _ ▸ h2 : decide (es.length ≤ 100000) = true ∧ smAll es = true)
      show (smD (cut13 d) && smAll _) = true
      rw [ih, p.e]
      have : smD (cut13 (.tuple es)) = true := sm_tup (sm_take 2 (sm_drop 1 h3.2)) (by rw [List.length_take]; omega)
      rw [this]
      rfl
    · rw [List.filter_cons_of_neg (by simpa using c)]
      exact ih
theorem fn_sm {C : Addr} {G : Hp} : ∀ {xs : List V} {fs : List FD}, FnAll K C G xs fs → fs.all fnD = true → smAll (declsF fs) = true
  | _, _, .nil, _ => rfl
  | _, _, .cons (f := f) (fs := fs) h t, o => by
    rw [List.all_cons, Bool.and_eq_true] at o
    obtain ⟨_, _, _, _, _, _, hp, hb⟩ := h.ex
    have ih := fn_sm t o.2
    unfold declsF at ih ⊢
    rw [List.flatMap_cons]
    exact sm_app (sm_app hp.sm (sm_lets hb.sm (fn_le o.1).2.2.2.2)) ih
theorem names_le {fs : List FD} {ss : List PyData} (h : fs.all fnD = true) (h4 : fs.length ≤ 4) (h40 : ss.length ≤ 40) : (namesD fs ss).length ≤ 200 := by
  have h1 := decls_le h h4 h40
  unfold namesD
  rw [List.length_append, List.length_map, List.length_map]
  omega
theorem names_s {fs : List FD} {ss : List PyData} (h : fs.all fnD = true) (k : ss.all stmtD = true) : ∀ s ∈ namesD fs ss, s.length ≤ 8 := fun s hs => by
  unfold namesD at hs
  rcases List.mem_append.mp hs with hs | hs
  · obtain ⟨f, hf, rfl⟩ := List.mem_map.mp hs
    exact (name_str (fn_le (List.all_eq_true.mp h f hf)).2.2.1).2
  · obtain ⟨d, hd, rfl⟩ := List.mem_map.mp hs
    obtain ⟨es, o⟩ := pr_ok (List.all_eq_true.mp (decls_ok h k) d hd)
    rw [o.e]
    exact (name_str o.n).2
end
end Ver

set_option Elab.async false
set_option linter.all false
set_option maxRecDepth 100000
set_option maxHeartbeats 4000000
namespace Ver
open PySem PySem.Spec PyProof.Rows L2 Evl
/-! ## raise C(): an own class, no arguments -/
section
variable {X : Cx} {C : Addr} {bmB : List Value} {B newId initId : String}
theorem pmk_own0 {x : Str} {p ps : Pos} (F : ExcBaseFacts B newId initId bmB) (xq : PySem.W.excIn X.K C bmB newId = true) (xg : X.mg x = some (.ref C)) (xk : PySem.W.keepIn X.K (.ref C) = true) (xr : Raises X (.ref C)) (hg : Gl X x)
    (nd : (x == ("__debug__" : Str)) = false := by decide) : PMk X (.Call (.Name x p) [] [] ps) (fun _ H Q => Q (.ref C) none H) := by
  intro pn s σ H Q I q
  refine wpAny_Call_Name_kw (ld_glob I hg xg ?_ nd)
  refine PySem.W.callWith_K0 I.kIn xk ?_
  obtain ⟨b1, b2, b3, b4, b5, b6, b7, b8, b9, c1, c2, c3, c4, c5, c6, c7, c8, hC, hN, hni, hT⟩ := exc_obj I.kIn xq
  show wpAny _ _ (call (.ref C) []) _ _ _
  refine wpAny_call_exc_subT F hT hC hN hni (fun h' e m => ?_) (Nat.zero_le _)
  exact mk_of I m xr q (I.hok.gone m.new)
end
/-! ## a comprehension out of which an exception comes -/
theorem note_alike {e : Value} {e1 e2 : Env} (h : e1.frame = e2.frame) : noteFrame e e1 = noteFrame e e2 := by
  unfold PySem.noteFrame PySem.frameOf
  rw [h]
theorem without (h : Heap) (C : Addr) : ∃ G : Heap, (∀ b, b ≠ C → G.get? b = h.get? b) ∧ G.get? C = none := by
  obtain ⟨G, g1, g2⟩ := restrict h fun b => decide (b ≠ C)
  exact ⟨G, fun b hb => g1 b (decide_eq_true hb), g2 C (by simp)⟩
/-- what a call within the block lets out goes on behind the block -/
theorem blk_out {X : Cx} {W : WX} {E : XK} {pins pn1 pins1 : List (Addr × Obj)} {σ σ1 : L2.St} {H0 H : Hp} {s0 s s' : Shared} {scope : Scope} {ce : Env} {fp : List Addr} {xe : Value → Shared → Prop} {u : Value}
    (hs : X.stack = X.env :: X.outer) (hf : X.env.frame = some X.env.locals) (cf : ce.frame = X.env.frame) (cl : ce.locals = s0.heap.objs.size) (tk : Takes X W) (hW : ∀ c d H', E c d H' → W c d σ H')
    (I0 : Inv X pins σ H0 s0) (f0 : ∀ b ∈ fp, FpOk X pins H0 b ∧ b < s0.heap.objs.size) (I1 : Inv ((X.blk s0 H0 scope ce fp).tr pn1 xe) pins1 σ1 H s)
    (c : L2.CX X.prog X.w X.stack H s E u s') : notedBy (model X.prog X.w) X.A ce (CompFails (model X.prog X.w) X.A X.xe ce) u s' := by
  obtain ⟨a, B, H', cls, d, rfl, fly, hokB, ub, na, os, ag, hE⟩ := c
  have hC : H ce.locals = none := I1.free
  have hC' : H' ce.locals = none := by
    obtain ⟨m, hn, _⟩ := I1.loc
    obtain ⟨o, _, _, ho, _⟩ := hn
    exact ub.free _ _ ho hC
  have nfr : ce.locals ∉ frs X.stack := fun hm => by
    have z := (I0.stack.mem hm).2
    obtain ⟨o, e, _⟩ := z
    have := Heap.lt_size e
    rw [cl] at this
    exact absurd this (Nat.lt_irrefl _)
  have old : ∀ b o, s0.heap.get? b = some o → b ≠ ce.locals := fun b o e => by
    rw [cl]
    exact Nat.ne_of_lt (Heap.lt_size e)
  -- the state at the call, the block's names left out
  obtain ⟨G, g1, g2⟩ := without s.heap ce.locals
  have un : Un (frs X.stack) fp H0 H s0.heap s.heap := I1.base
  have gle : ∀ b o, G.get? b = some o → s.heap.get? b = some o ∧ b ≠ ce.locals := fun b o e => by
    have : b ≠ ce.locals := fun z => by
      rw [z, g2] at e
      cases e
    exact ⟨(g1 b this) ▸ e, this⟩
  have hokG : HOk X.prog X.w H G := fun b o q => (I1.hok b o q).stay (fun c' v hc r => by
    rw [g1 c' (fun z => by
      rcases hc with hc | hc
      · rw [← hc, z, hC] at q; cases q
      · rw [z, hC] at hc; cases hc)]
    exact r) (fun _ r => r) fun _ _ r => r
  have J1 : Inv X pins σ H { s with heap := G } := I0.call' (s' := { s with heap := G }) I1.os
    ⟨fun b o e n hb hx => (g1 b (old b o e)).trans (un.keep b o e n hb hx), fun b o e n hb hx => by
        obtain ⟨sl, q⟩ := un.slot b o e n hb hx
        exact ⟨sl, (g1 b (old b o e)).trans q⟩,
      un.free, fun b o e hx => by
        obtain ⟨o', q⟩ := un.there b o e hx
        exact ⟨o', (g1 b (old b o e)).trans q⟩, un.tups, un.frzs, un.tbls⟩ hokG I1.bare fun b hb => ⟨(f0 b hb).1.2.2.2.1, (f0 b hb).1.2.1, (f0 b hb).1.2.2.2.2.1, (f0 b hb).1.2.2.2.2.2⟩
  -- the ground without the block's names
  obtain ⟨B1, k1, k2⟩ := without B ce.locals
  have ble : ∀ b o, B1.get? b = some o → B.get? b = some o ∧ b ≠ ce.locals := fun b o e => by
    have : b ≠ ce.locals := fun z => by
      rw [z, k2] at e
      cases e
    exact ⟨(k1 b this) ▸ e, this⟩
  have noB : ∀ b, B.get? b = none → B1.get? b = none := fun b e => by
    by_cases z : b = ce.locals
    · rw [z]; exact k2
    · rw [k1 b z]; exact e
  have hokB1 : HOk X.prog X.w H' B1 := fun b o q => (hokB b o q).stay (fun c' v hc r => by
    rw [k1 c' (fun z => by
      rcases hc with hc | hc
      · rw [← hc, z, hC'] at q; cases q
      · rw [z, hC'] at hc; cases hc)]
    exact r) (fun _ r => r) fun _ _ r => r
  obtain ⟨st, ba, ff, tr⟩ := fly
  have fr1 : ∀ {h : Heap} {l : List Env}, h.FunFrames B l → h.FunFrames B1 l := by
    intro h l
    induction l with
    | nil => exact fun _ => trivial
    | cons e l ih =>
      rintro ⟨t1, ⟨L, o, t2, t3, t4⟩, t5⟩
      exact ⟨t1, ⟨L, o, t2, noB L t3, t4⟩, ih t5⟩
  have fly1 : HandSPX.FlyingZ B1 (X.env :: X.outer) a (Zc cls d) s'.heap := by
    refine ⟨fun b o e => st b o (ble b o e).1, noB a ba, by rw [← hs]; exact fr1 ff, ?_⟩
    obtain ⟨oe, vs, T, oT, ts, t1, t2, t3, t4, t5, t6⟩ := tr
    exact ⟨oe, vs, T, oT, ts, t1, t2, t3, t4, noB T t5, t6⟩
  -- the state that goes on
  obtain ⟨G2, r1, r2⟩ := restrict s'.heap fun b => (B1.get? b).isSome || decide (b ∈ frs X.stack)
  have inB : ∀ b o, B1.get? b = some o → G2.get? b = some o := fun b o e => by
    rw [r1 b (by simp [e])]
    exact st b o (ble b o e).1
  have inF : ∀ b, b ∈ frs X.stack → G2.get? b = s'.heap.get? b := fun b hb => r1 b (by simp [hb])
  have back : ∀ b o, G2.get? b = some o → s'.heap.get? b = some o ∧ ((B1.get? b).isSome = true ∨ b ∈ frs X.stack) := fun b o e => by
    cases q : ((B1.get? b).isSome || decide (b ∈ frs X.stack)) with
    | false => rw [r2 b q] at e; cases e
    | true =>
      rw [r1 b q] at e
      exact ⟨e, by simpa [Bool.or_eq_true] using q⟩
  have up2 : ∀ b o, G2.get? b = some o → b ≠ ce.locals := fun b o e z => by
    rcases (back b o e).2 with q | q
    · rw [z, k2] at q; cases q
    · rw [z] at q; exact nfr q
  have J2 : Inv X pins σ H' { s with heap := G2, gens := s'.gens, drawn := s'.drawn, toks := s'.toks } := by
    refine Inv.call (s := { s with heap := G }) J1 (ch := []) (h' := G2) (H' := H') ⟨fun b o e n hb _ => ?_, fun b o e n hb _ => ?_, fun b o e n _ => ub.free b o (gle b o e).1 n, fun b o e _ => ?_, ub.tups, ub.frzs, ub.tbls⟩ (hokB1.kept inB) ag (fun _ z => nomatch z)
    · refine inB b o ?_
      rw [k1 b (gle b o e).2]
      exact ub.keep b o (gle b o e).1 n hb
    · obtain ⟨sl, q⟩ := ub.slot b o (gle b o e).1 hb
      exact ⟨sl, (inF b hb).trans q⟩
    · by_cases hb : b ∈ frs X.stack
      · obtain ⟨sl, q⟩ := ub.slot b o (gle b o e).1 hb
        exact ⟨_, (inF b hb).trans q⟩
      · obtain ⟨o', q⟩ := ub.there b o (gle b o e).1 hb
        exact ⟨o', inB b o' ((k1 b (gle b o e).2).trans q)⟩
  have nb2 : ∀ b o, G2.get? b = some o → b ∉ frs X.stack → B1.get? b = some o := fun b o e hb => by
    obtain ⟨e', q⟩ := back b o e
    rcases q with q | q
    · obtain ⟨o', q⟩ := Option.isSome_iff_exists.mp q
      have z := st b o' (ble b o' q).1
      rw [e'] at z
      cases z
      exact q
    · exact absurd q hb
  have hfr : X.A.frames = some (X.env :: X.outer) := by rw [I0.ok.frames, hs]
  show wpAny _ _ (noteFrame (.ref a) ce) _ _ _
  rw [note_alike cf]
  refine HandSPX.looks_onZ Zc.steady hfr hf fly1 fun h1 held up1 => ?_
  -- the block's names are let go
  obtain ⟨m, hn, _⟩ := I1.loc
  have hn : s.heap.Ns ce.locals m := hn
  have hn1 : s'.heap.Ns ce.locals m := hn.at fun o e => st _ _ (ub.keep _ _ e hC nfr)
  have hn2 : h1.Ns ce.locals m := up1.ns hn1
  refine ⟨m, hn2, fun h2 m2 hn3 sb => ?_⟩
  obtain ⟨oC, esC, epC, hoC, hdC, _⟩ := hn2
  have recN : ∀ b o (vs : Array Value), h1.get? b = some o → o.data = .fields vs → b ≠ ce.locals := fun b o vs e hd z => by
    rw [z, hoC] at e
    cases e
    rw [hdC] at hd
    cases hd
  obtain ⟨q1, q2, q3, oe, vs, T, oT, ts, t1, t2, t3, t4, t5, t6, t7, t8, t9⟩ := held
  have n1 := recN a oe vs t1 t3
  have n2 := recN T oT ts t7 t8
  have held2 : HandSPX.HeldZ B1 (X.env :: X.outer) a (Zc cls d) X.env.locals h2 :=
    ⟨fun b o e => (sb.2 b (ble b o e).2).trans (q1 b o e), q2, Heap.FunFrames.sameBut sb hn3 q3, oe, vs, T, oT, ts, (sb.2 a n1).trans t1, t2, t3, t4, t5, t6, (sb.2 T n2).trans t7, t8, t9⟩
  unfold PySem.passOn
  refine wpAny_bind (wpAny_field ((sb.2 a n1).trans t1) t3 t4 ?_)
  rw [if_neg (show ¬ ((Value.ref T == Value.none) = true) from by simp)]
  have last : wpAny (model X.prog X.w) X.A (setFlight (.ref a) ce.frame) (fun _ s4 => wpAny (model X.prog X.w) X.A (throw (.ref a) : Sem Value) (fun _ _ => False) X.xe s4) X.xe { s' with heap := h2 } := by
    rw [cf, hf]
    refine HandSPX.setFlight_onZ held2 fun h4 held4 up4 => wpAny_throw (tk _ _ ?_)
    refine ⟨a, B1, _, pins, σ, H', cls, d, rfl, J2, nb2, fun b o e hd => ?_, .inr (.inr (by rw [hs]; exact held4)), na, os, ag, hW _ _ _ hE⟩
    obtain ⟨sl, e1⟩ := up1 b o (back b o e).1 hd
    have e2 : h2.get? b = some { o with slots := sl } := (sb.2 b (up2 b o e)).trans e1
    exact up4 b { o with slots := sl } e2 hd
  first
    | exact wpAny_bind (wpAny_pure (wpAny_bind last))
    | exact wpAny_bind last
/-- the reading: what the element may let out is wished at the slots ahead of the block -/
def tLcX (wi : TI) (g : TG) (tt : TT) (te : XK → TE) (W : WX) (vs : List Nat) : TE := fun σ H Q => tLc wi g tt (te fun c d H' => W c d σ H') vs σ H Q
/-- an element out of which errors come -/
abbrev ElX (X : Cx) (scope : Scope) (elt : Expr) (te : XK → TE) : Prop := ∀ (s : Shared) (H : Hp) (C : Addr) (cl : List (Str × Addr)) (fp : List Addr) (pn : List (Addr × Obj)) (xe : Value → Shared → Prop) (E : XK),
  (∀ σ, PassesAt (L2.CX X.prog X.w) ((X.blk s H scope (compEnvC scope cl C X.env) fp).tr pn xe) σ E) → PE ((X.blk s H scope (compEnvC scope cl C X.env) fp).tr pn xe) elt (te E)
theorem mono_no {α : Type} {t : Sem α} {Q Q' : α → Shared → Prop} {M : Model} {A : Around} {E : Value → Shared → Prop} {s : Shared} (h : wpAny M A t Q (fun _ _ => False) s) (k : ∀ a s, Q a s → Q' a s) : wpAny M A t Q' E s := wpAny_mono h k fun _ _ z => z.elim
section
variable {X : Cx} {W : WX} {elt tg iter : Expr} {ifs : List Expr} {scope : Scope} {own : List (Str × Nat)} {pos : Pos} {wi : TI} {g : TG} {tt : TT} {te : XK → TE}
theorem lcx_core {pins : List (Addr × Obj)} {s : Shared} {σ : L2.St} {H : Hp} {Q : VK} {pos' : Pos} {use : Option (Value → Sem Unit)} {Qf : Value → Shared → Prop}
    (hst : X.stack = X.env :: X.outer) (hfm : X.env.frame = some X.env.locals) (tk : Takes X W) (hc : X.calm = true) (hN : X.N.Nodup) (I : Inv X pins σ H s) (hi : PI X tg iter wi) (ok : BlkOk X.N X.env.scope scope own)
    (hg : ∀ (s : Shared) (H : Hp) (C : Addr) (cl : List (Str × Addr)) (fp : List Addr), PG (X.blk s H scope (compEnvC scope cl C X.env) fp) tg g) (hts : ∀ (s : Shared) (H : Hp) (C : Addr) (cl : List (Str × Addr)) (fp : List Addr), PTs (X.blk s H scope (compEnvC scope cl C X.env) fp) ifs tt)
    (he : ElX X scope elt te) (hfo : ∀ x, foldedSetIterable iter X.env x = pure x) (h : tLcX wi g tt te W (own.map (·.2)) σ H Q)
    (fin : ∀ D ce s' m H', Inv X pins σ H' s' → Q (.ref D) H' → s'.heap.Ns ce.locals m → FpOk X pins H' ce.locals → compEnds (model X.prog X.w) X.A X.xe use Qf (.ref D) ce (.ok .next) s') :
    wpAny (model X.prog X.w) X.A (comprehension (.ListComp elt [⟨tg, iter, ifs, 0⟩] scope pos) scope X.env pos' (newList []) false (eval iter X.env) use) Qf X.xe s := by
  have fr : ∀ y ∈ scope.names, y.2 = .free → ∃ c, X.env.cells.lookup y.1 = some c := fun y hy e =>
    (ok.free y hy e).elim (fun k => I.ok.has _ (.inl k)) fun k => I.ok.has _ (.inr k)
  refine comprehension_at (use := use) rfl hfo (closure_ok fr) ok.kind (fun y hy e => by rw [ok.uniq y hy, e]) (thn (hi.run pins s σ H _ I h) fun xv s1 hx => thn hx fun itv s2 h2 => ?_)
  obtain ⟨it, fp, tn, J, H2, rfl, I2, T, st2, f2, q⟩ := h2
  refine wpAny_newObj_type (newEnv_comp ?_) (Nat.zero_le _)
  generalize eD : s2.heap.objs.size = D
  have nD : H2 D = none := I2.hok.fresh (Nat.le_of_eq eD)
  obtain ⟨Wl, ⟨m0, w0⟩, turn⟩ := q D nD
  generalize e3 : ({ s2 with heap := s2.heap.push { cls := .type "list", data := .seq ([] : List Value).toArray } } : Shared) = s3
  have p3 : s3.heap = s2.heap.push { cls := .type "list", data := .seq ([] : List Value).toArray } := by rw [← e3]
  have I3 : Inv X pins σ (upd H2 D (.lst [])) s3 := by
    rw [← e3]
    exact I2.laid (t' := s2.toks) (fun b o z => Heap.get?_push_of_some _ z) (Nat.le_of_eq eD) ⟨Nat.zero_le _, [], 0, .nil, by rw [← eD]; exact Heap.get?_push_size _ rfl⟩
  have f3 : ∀ b ∈ fp, FpOk X pins (upd H2 D (.lst [])) b ∧ b < s3.heap.objs.size := fun b hb => by
    obtain ⟨o, z, _⟩ := T.obj _ _ st2 b hb
    have lt := Heap.lt_size z
    refine ⟨⟨?_, (f2 b hb).2⟩, by rw [p3, Heap.size_push]; exact Nat.lt_succ_of_lt lt⟩
    rw [upd_ne (by rw [← eD]; exact Nat.ne_of_lt lt)]
    exact (f2 b hb).1
  have st3 : tn 0 s3.heap := T.keep _ _ _ st2 fun b _ o z => by rw [p3]; exact Heap.get?_push_of_some _ z
  have I4 := block_start I3 ok hN f3
  generalize ecl : cellsFrom (s3.heap.objs.size + 1) scope.names (cloFrom X.env.cells scope.names []) = cl at I4
  generalize eH3 : upd H2 D (.lst []) = H3 at I3 I4 w0 f3
  have pg := hg s3 H3 s3.heap.objs.size cl fp
  have pts := hts s3 H3 s3.heap.objs.size cl fp
  have pel := he s3 H3 s3.heap.objs.size cl fp
  show codeAny _ _ (.compStart (.ListComp elt [⟨tg, iter, ifs, 0⟩] scope pos) 0 (.ref it) (.ref D) (compEnvC scope cl s3.heap.objs.size X.env))
    (compEnds (model X.prog X.w) X.A X.xe use Qf (.ref D) (compEnvC scope cl s3.heap.objs.size X.env)) { s3 with heap := pushCells (s3.heap.push { cls := .type "dict", data := .dict #[] }) scope.names }
  have ceL : (compEnvC scope cl s3.heap.objs.size X.env).locals = s3.heap.objs.size := rfl
  have ceF : (compEnvC scope cl s3.heap.objs.size X.env).frame = X.env.frame := rfl
  generalize compEnvC scope cl s3.heap.objs.size X.env = ce at I4 pg pts pel ceL ceF ⊢
  generalize e4 : ({ s3 with heap := pushCells (s3.heap.push { cls := .type "dict", data := .dict #[] }) scope.names } : Shared) = s4 at I4 ⊢
  have st4 : tn 0 s4.heap := T.keep _ _ _ st3 fun b _ o z => by rw [← e4]; exact pushCells_keeps _ _ _ _ (Heap.get?_push_of_some _ z)
  have calmF : ∀ {σ' : L2.St} {H' : Hp} {s' : Shared}, Inv (X.blk s3 H3 scope ce fp) [] σ' H' s' → (∀ b ∈ fp, H' b = none) → ∀ b ∈ fp, FpOk (X.blk s3 H3 scope ce fp) [] H' b := fun {σ' H' s'} I' hn b hb =>
    ⟨hn b hb, (I'.ok.exf b hb).1, I'.ok.exfs b hb, .inl hb, fun x c e => (I'.ok.exf b hb).2 x c e, fun p hp => absurd hp (List.not_mem_nil)⟩
  -- an error out of the element
  have out : ∀ (pn : List (Addr × Obj)) (σ1 : L2.St), PassesAt (L2.CX X.prog X.w) ((X.blk s3 H3 scope ce fp).tr pn (notedBy (model X.prog X.w) X.A ce (CompFails (model X.prog X.w) X.A X.xe ce))) σ1 (fun c d H' => W c d σ H') := fun pn σ1 pins1 H1 s1 u s1' I1 c1 =>
    blk_out hst hfm ceF ceL tk (fun _ _ _ h => h) I3 f3 I1 c1
  have whole : codeAny (model X.prog X.w) X.A (.compLoop (.ListComp elt [⟨tg, iter, ifs, 0⟩] scope pos) 0 (.ref it) (.ref D) ce) (compEnds (model X.prog X.w) X.A X.xe use Qf (.ref D) ce) s4 := by
    refine compLoop_any (fun n s' => ∃ i H', Inv (X.blk s3 H3 scope ce fp) [] (wipe σ (own.map (·.2))) H' s' ∧ tn i s'.heap ∧ (∀ b ∈ fp, H' b = none) ∧ Wl i n H') ?_ m0 ⟨0, H3, I4, st4, fun b hb => (f3 b hb).1.1, w0⟩
    rintro n s5 ⟨i, H5, I5, st5, n5, w5⟩
    rcases turn i n H5 w5 with ⟨stop, qq⟩ | ⟨go, Nx, hNx, step⟩
    · refine mono_no (T.done (X.blk s3 H3 scope ce fp) rfl rfl rfl hc i [] s5 _ H5 (fun _ _ => False) I5 (calmF I5 n5) st5 stop) fun r s6 ⟨er, I6⟩ => ?_
      subst er
      have un6 : Un (frs X.stack) fp H3 H5 s3.heap s6.heap := I6.base
      have I7 : Inv X pins σ H5 s6 := I3.call' (ch := fp) I6.os un6 I6.hok I6.bare fun b hb => ⟨(f3 b hb).1.2.2.2.1, (f3 b hb).1.2.1, (f3 b hb).1.2.2.2.2.1, (f3 b hb).1.2.2.2.2.2⟩
      have nC : H5 ce.locals = none := I6.free
      obtain ⟨m, hn, _⟩ := I6.loc
      exact fin D ce s6 m H5 I7 qq hn (by rw [ceL] at nC ⊢; exact I3.fpOk (Nat.le_refl _) nC)
    · refine mono_no (T.item (X.blk s3 H3 scope ce fp) rfl rfl rfl hc i [] s5 _ H5 (fun _ _ => False) I5 (calmF I5 n5) st5 go) fun r s6 ⟨u, er, h6⟩ => ?_
      subst er
      refine mono_no h6 fun _ s7 ⟨x, H7, I7, r7, y7, st7, n7⟩ => ?_
      have I7' := I7.pinned (calmF I7 n7) (T.obj _ _ st7)
      refine mono_no (pg.run _ s7 _ H7 x u _ I7' r7 (step x H7 y7)) fun _ s8 ⟨σ8, H8, I8, hw8, q8⟩ => ?_
      refine mono_no (pts.run _ s8 σ8 H8 _ I8 q8) fun b s9 ⟨H9, I9, q9⟩ => ?_
      have close : ∀ {s' : Shared} {H' : Hp}, Inv (X.blk s3 H3 scope ce fp) ([] ++ pinsAt fp s7.heap) σ8 H' s' → Nx H' → ∃ m, m < n ∧ ∃ i H', Inv (X.blk s3 H3 scope ce fp) [] (wipe σ (own.map (·.2))) H' s' ∧ tn i s'.heap ∧ (∀ b ∈ fp, H' b = none) ∧ Wl i m H' := fun {s' H'} I' nx => by
        obtain ⟨m', hm, w'⟩ := hNx H' nx
        have pinned : ∀ b ∈ fp, ∀ o, s7.heap.get? b = some o → s'.heap.get? b = some o ∧ H' b = none := fun b hb o z => by
          have z := I'.pin (b, o) (List.mem_append_right _ (List.mem_append_right _ (mem_pinsAt hb z)))
          exact ⟨z.1, z.2.1⟩
        refine ⟨m', hm, i + 1, H', (I'.unpinned (pins := [])).weak (by rw [← hw8, wipe_length]) (fun j v z => by rw [← hw8] at z; exact (wipe_some z).1), T.keep _ _ _ st7 fun b hb o z => (pinned b hb o z).1, fun b hb => ?_, w'⟩
        obtain ⟨o, z, _⟩ := T.obj _ _ st7 b hb
        exact (pinned b hb o z).2
      cases b with
      | false =>
        simp only [Bool.false_eq_true, if_false] at q9 ⊢
        exact close I9 q9
      | true =>
        simp only [if_true] at q9 ⊢
        have pe := pel ([] ++ ([] ++ pinsAt fp s7.heap)) (notedBy (model X.prog X.w) X.A ce (CompFails (model X.prog X.w) X.A X.xe ce)) _ (out ([] ++ ([] ++ pinsAt fp s7.heap)))
        refine wpAny_mono (pe.run [] s9 σ8 H9 _ (I9.toTry _) q9) (fun z s10 ⟨yv, H10, I10, r10, acc, hD10, hz10, nx⟩ => ?_) fun _ _ z => z
        exact app_ok (X := X.blk s3 H3 scope ce fp) (I10.ofTry I9.ok) hD10 hz10 r10 fun s11 I11 => close I11 nx
  exact codeAny_compStart_list whole (T.self X.A 0 _ _ _ st4 whole)
/-- name = [..], the name a local: errors of the element pass -/
theorem ps_setLcX {i : Nat} {y : Str} {py spos : Pos} (hst : X.stack = X.env :: X.outer) (hfm : X.env.frame = some X.env.locals) (tk : Takes X W) (hc : X.calm = true) (hN : X.N.Nodup) (hy : X.N[i]? = some y) (hyl : X.env.scope.names.lookup y = some .local)
    (hsw : swapsWith (.ListComp elt [⟨tg, iter, ifs, 0⟩] scope pos) (some (.Name y py)) spos.line X.env = pure true) (hi : PI X tg iter wi) (ok : BlkOk X.N X.env.scope scope own)
    (hg : ∀ (s : Shared) (H : Hp) (C : Addr) (cl : List (Str × Addr)) (fp : List Addr), PG (X.blk s H scope (compEnvC scope cl C X.env) fp) tg g) (hts : ∀ (s : Shared) (H : Hp) (C : Addr) (cl : List (Str × Addr)) (fp : List Addr), PTs (X.blk s H scope (compEnvC scope cl C X.env) fp) ifs tt)
    (he : ElX X scope elt te) (hfo : ∀ x, foldedSetIterable iter X.env x = pure x := by intro _; rfl) :
    PS X (.Assign [.Name y py] (.ListComp elt [⟨tg, iter, ifs, 0⟩] scope pos) spos) (tAsg (tLcX wi g tt te W (own.map (·.2))) (gName i)) := by
  refine ⟨fun pins s σ H D I h => ?_⟩
  rw [exec_Assign_Name_used _ _ _ _ hsw]
  have h' : tLcX wi g tt te W (own.map (·.2)) σ H (fun x H1 => gName i x σ H1 D.nx) := h
  refine wpAny_bind (wpAny_standAt (wpAny_bind ?_))
  show wpAny _ X.A (do let _ ← comprehension (.ListComp elt [⟨tg, iter, ifs, 0⟩] scope pos) scope X.env (firstIterPos [⟨tg, iter, ifs, 0⟩] pos) (newList []) false (eval iter X.env) (some (assign (.Name y py) X.env))) _ _ s
  refine wpAny_bind (thn (lcx_core (Qf := fun _ s' => SP X pins D .next s') hst hfm tk hc hN I hi ok hg hts he hfo h' fun L ce s' m H' I' q hn f => ?_) fun _ s' z => wpAny_pure (wpAny_pure z))
  show wpAny _ _ (assign (.Name y py) X.env (.ref L)) _ _ _
  refine wpAny_assign_Name (store_ok2 (v := V.ref L) I' hN hy (.inl hyl) rfl (fun s2 I2 ⟨a, sb, ha⟩ => ?_) (.inr hyl))
  obtain ⟨f0, f1, f2, f3, f4, f5⟩ := f
  have ne : ce.locals ≠ a := ha.elim (fun z => by rw [z]; exact f1) fun z e => f4 y a z e.symm
  exact ⟨m, hn.sameBut sb ne, fun h3 sb3 => ⟨_, H', I2.turned (t' := s2.toks) (fun b o hb e => (sb3.2 b hb).trans e) f0 f1 f3 f4 f5, q⟩⟩
end
end Ver

set_option Elab.async false
set_option linter.all false
set_option maxRecDepth 100000
set_option maxHeartbeats 4000000
namespace Ver
open PySem PySem.Spec PyProof.Rows
/-! ## how many different texts a list has: len(set(xs)) -/
abbrev eS (b : Bool) : Obj := { cls := .type "set", dict := none, data := .set #[] 0 (.fresh 0 0 b) }
def nth (xs : List Str) (i : Nat) : Str := xs.getD i Str.empty
/-- the texts met before place i, each once -/
def fm (xs : List Str) : Nat → List Str
  | 0 => []
  | i + 1 => if nth xs i ∈ fm xs i then fm xs i else fm xs i ++ [nth xs i]
theorem fm_le (xs : List Str) : ∀ i, (fm xs i).length ≤ i
  | 0 => Nat.le_refl _
  | i + 1 => by
    have h := fm_le xs i
    unfold fm
    split
    · omega
    · rw [List.length_append, List.length_singleton]
      omega
theorem fm_mem (xs : List Str) (i : Nat) (k : Str) : decide (k ∈ fm xs (i + 1)) = (decide (k ∈ fm xs i) || decide (k = nth xs i)) := by
  have e : fm xs (i + 1) = if nth xs i ∈ fm xs i then fm xs i else fm xs i ++ [nth xs i] := rfl
  rw [e]
  by_cases h : nth xs i ∈ fm xs i
  · rw [if_pos h]
    by_cases z : k = nth xs i
    · subst z
      simp [h]
    · simp [z]
  · rw [if_neg h]
    simp [List.mem_append]
theorem fm_num (xs : List Str) (i : Nat) : (fm xs (i + 1)).length = if decide (nth xs i ∈ fm xs i) = true then (fm xs i).length else (fm xs i).length + 1 := by
  have e : fm xs (i + 1) = if nth xs i ∈ fm xs i then fm xs i else fm xs i ++ [nth xs i] := rfl
  rw [e]
  by_cases h : nth xs i ∈ fm xs i
  · rw [if_pos h, if_pos (decide_eq_true h)]
  · rw [if_neg h, if_neg (by simpa using h), List.length_append, List.length_singleton]
theorem nth_eq {xs : List Str} {i : Nat} (h : i < xs.length) : nth xs i = xs[i] := by
  unfold nth
  rw [List.getD_eq_getElem?_getD, List.getElem?_eq_getElem h]
  rfl
theorem fm_take (xs : List Str) : ∀ i, i ≤ xs.length → (∀ k, k ∈ fm xs i ↔ k ∈ xs.take i) ∧ ((fm xs i).length = i ↔ (xs.take i).Nodup)
  | 0, _ => ⟨fun k => by simp [fm], by simp [fm]⟩
  | i + 1, h => by
    have hi : i < xs.length := h
    obtain ⟨h1, h2⟩ := fm_take xs i (Nat.le_of_lt hi)
    have et : xs.take (i + 1) = xs.take i ++ [nth xs i] := by
      rw [nth_eq hi]
      exact take_snoc (List.getElem?_eq_getElem hi)
    have hl := fm_le xs i
    constructor
    · intro k
      have a := fm_mem xs i k
      have b : k ∈ fm xs (i + 1) ↔ (k ∈ fm xs i ∨ k = nth xs i) := by
        by_cases z : k ∈ fm xs (i + 1) <;> by_cases y : k ∈ fm xs i <;> by_cases x : k = nth xs i <;> simp_all
      rw [b, et, List.mem_append, List.mem_singleton, h1 k]
    · rw [fm_num, et, List.nodup_append]
      by_cases z : nth xs i ∈ fm xs i
      · rw [if_pos (decide_eq_true z)]
        constructor
        · intro y
          omega
        · intro y
          exact absurd rfl (y.2.2 _ ((h1 _).mp z) _ (by simp))
      · rw [if_neg (by simpa using z)]
        constructor
        · intro y
          refine ⟨h2.mp (by omega), by simp, fun a ha b hb e => ?_⟩
          rw [List.mem_singleton] at hb
          rw [e, hb] at ha
          exact z ((h1 _).mpr ha)
        · intro y
          have := h2.mpr y.1
          omega
theorem fm_nodup (xs : List Str) : decide (((fm xs xs.length).length : Int) = (xs.length : Int)) = nodupD xs := by
  have h := (fm_take xs xs.length (Nat.le_refl _)).2
  rw [List.take_length] at h
  unfold nodupD
  by_cases z : xs.Nodup
  · rw [decide_eq_true z, decide_eq_true (by have := h.mpr z; omega)]
  · rw [decide_eq_false z, decide_eq_false (fun y => z (h.mp (by omega)))]
section
variable {P : Program} {w : World} {B : Around} {R : Result → Shared → Prop} {J : Addr} {fp wr : List Addr} {G : Array GenState → Array GenState → Prop} {n : Nat} {Pv : Nat → Value → Prop} {St : Nat → Shared → Prop}
theorem loop_txt (W : WalksS P w B.in1 J fp wr G n Pv St) (D : Addr) (nf : D ∉ fp) (xs : List Str) (small : n + 1 < scanBound) (hv : ∀ i v, Pv i v → ∃ t, v = .str (nth xs i) t) :
    ∀ (m i : Nat) (s0 : Shared), n - i = m → i ≤ n → St i s0 → s0.heap.SetOf (strKind P w) D (fun k => decide (k ∈ fm xs i)) (fm xs i).length →
      (∀ s1, Moved (D :: wr) G s0 s1 → s1.heap.SetOf (strKind P w) D (fun k => decide (k ∈ fm xs n)) (fm xs n).length → R (.ok (.ret .none)) s1) →
      codeAny (model P w) B (.builtin "set.update.loop" ⟨[.ref D, .ref J], []⟩) R s0 := by
  have nw : D ∉ wr := fun z => nf (W.sub _ z)
  have up : ∀ b ∈ wr, b ∈ D :: wr := fun b z => List.mem_cons_of_mem _ z
  intro m
  induction m with
  | zero =>
    intro i s0 hm hi hst hD hR
    obtain rfl : i = n := by omega
    refine codeAny_builtin F.entry_set_update_loop ?_
    rw [Around.under_plainId F.plain_set_update_loop _]
    show wpAny _ B.in1 (pyNext (.ref J) >>= _) _ _ s0
    refine wpAny_bind (W.done s0 _ _ hst fun s1 mv => ?_)
    show wpAny _ B.in1 (ret Value.none) _ _ s1
    obtain ⟨o, es, ep, tb, ho, rest⟩ := hD
    exact wpAny_pure (hR s1 (mv.mono up) ⟨o, es, ep, tb, mv.heap D _ nw ho, rest⟩)
  | succ m ih =>
    intro i s0 hm hi hst hD hR
    have lt : i < n := by omega
    refine codeAny_builtin F.entry_set_update_loop ?_
    rw [Around.under_plainId F.plain_set_update_loop _]
    show wpAny _ B.in1 (pyNext (.ref J) >>= _) _ _ s0
    refine wpAny_bind (W.item i s0 _ _ lt hst fun v s1 pv st1 mv => ?_)
    obtain ⟨t, rfl⟩ := hv i v pv
    have hD1 : s1.heap.SetOf (strKind P w) D (fun k => decide (k ∈ fm xs i)) (fm xs i).length := by
      obtain ⟨o, es, ep, tb, ho, rest⟩ := hD
      exact ⟨o, es, ep, tb, mv.heap D _ nw ho, rest⟩
    show wpAny _ B.in1 (holding [Value.str (nth xs i) t] (setAdd D (.str (nth xs i) t)) >>= _) _ _ s1
    refine wpAny_bind (wpAny_holding ?_)
    unfold setAdd
    refine wpAny_holding (wpAny_bind ((strKind P w).pyHash (k := nth xs i) (strKind_is _ _ _ _) ?_))
    have room := fm_le xs i
    refine wpAny_setAddHashed_of (knd := strKind P w) (s := { s1 with toks := s1.toks + 1 }) (strKind_is _ _ _ _) rfl hD1 (by omega) fun h2 sb hD2 => ?_
    have hD3 : h2.SetOf (strKind P w) D (fun k => decide (k ∈ fm xs (i + 1))) (fm xs (i + 1)).length := SetOf_congr hD2 (fun k => (fm_mem xs i k).symm) (fm_num xs i).symm
    refine wpAny_pure ⟨plainId_quiet F.plain_set_update_loop _, ih (i + 1) _ (by omega) lt (W.frame _ s1 _ _ st1 (Nat.le_succ _) fun b hb o e => ?_) hD3 fun s2 mv2 hD4 => ?_⟩
    · rw [sb.2 b fun z : b = D => nf (by rw [← z]; exact hb)]
      exact e
    · refine hR s2 (Moved.trans W.gtrans ((mv.mono up).then_heap (Nat.le_succ _) fun b o hb e => ?_) mv2) hD4
      rw [sb.2 b fun z : b = D => hb (by rw [z]; exact List.mem_cons_self)]
      exact e
end
section
variable {P : Program} {w : World} {B : Around} {E : Value → Shared → Prop} {s0 : Shared}
set_option maxHeartbeats 8000000 in
theorem set_txt {l : Addr} {its : Array Value} {xs : List Str} {Q : Value → Shared → Prop} (nh : B.handled = none) (li : s0.heap.IsList l its) (ar : StrsAre its.toList xs) (small : its.size + 1 < scanBound)
    (k : ∀ (h1 : Heap) (tk : Nat), h1.SetOf (strKind P w) s0.heap.objs.size (fun x => decide (x ∈ fm xs its.size)) (fm xs its.size).length → (∀ b o, b < s0.heap.objs.size → s0.heap.get? b = some o → h1.get? b = some o) →
      Q (.ref s0.heap.objs.size) { s0 with heap := h1, toks := tk }) : wpAny (model P w) B (call (.type "set") [.ref l]) Q E s0 := by
  obtain ⟨c, tl, hmro⟩ := PySem.F.called_set.mro
  have m1 := PySem.F.called_set.made
  have m2 := PySem.F.called_set.sub
  refine wpAny_call (codeAny_of_tree ?_)
  show wpAny _ _ (callAny (.type "set") _) _ _ _
  refine wpAny_pure ⟨Code.quiet_builtin _ (by decide +kernel), codeAny_builtin PySem.F.entry_type_call ?_⟩
  rw [Around.under_plain (weight_type_call_type "set" [.ref l] []) rfl]
  have m3 := PySem.F.called_set.notType
  have m4 := PySem.F.called_set.canCreate
  have m5 := PySem.F.typeCall_set_1 (.ref l)
  repeat (any_goals (first | assumption | wp_step))
  refine codeAny_mono (code_set_new_1 (.ref l) (E := E) (Q₁ := fun v z => ∃ b : Bool, v = .ref s0.heap.objs.size ∧ z = { s0 with heap := s0.heap.push (eS b) }) fun b => ⟨b, rfl, rfl⟩) fun r z hz => ?_
  match r, hz with
  | .error e, hz => exact hz
  | .ok (.ret v), hz =>
    obtain ⟨b, rfl, rfl⟩ := hz
    have at0 : (s0.heap.push (eS b)).get? s0.heap.objs.size = some (eS b) := Heap.get?_push_size _ rfl
    have ty0 : Shared.TypeIs { s0 with heap := s0.heap.push (eS b) } (.ref s0.heap.objs.size) "set" := ⟨_, at0, rfl⟩
    have i1 := PySem.F.called_set.init.lookup
    have i2 := PySem.F.called_set.init.bind (.ref s0.heap.objs.size)
    repeat (any_goals (first | assumption | wp_step))
    refine codeAny_mono (codeAny_call_builtin (R := wants (fun r z => r = .none ∧ ∃ h1 tk, z = { s0 with heap := h1, toks := tk } ∧ h1.SetOf (strKind P w) s0.heap.objs.size (fun x => decide (x ∈ fm xs its.size)) (fm xs its.size).length ∧
      (∀ b o, b < s0.heap.objs.size → s0.heap.get? b = some o → h1.get? b = some o)) E) PySem.F.called_set.init.plain PySem.F.entry_set_init (check_set_init_1 ty0 ?_)) fun r2 z2 hz2 => ?_
    · obtain ⟨⟨lc, ld, lt, ls⟩, lo, c1, ln, c2⟩ := li
      simp only at c1 c2
      subst c1
      subst c2
      have lo' : (s0.heap.push (eS b)).get? l = some { cls := .type "list", dict := ld, data := .seq its ln, slots := ls } := Heap.get?_push_of_some _ lo
      have n1 := PySem.F.sub_list_set
      have n2 := PySem.F.sub_list_frozenset
      have n3 : (Value.type "list" == Value.type "dict") = false := by decide
      have li1 : (s0.heap.push (eS b)).IsList l its := ⟨_, lo', rfl, ln, rfl⟩
      unfold Builtin.«set.__init__» noKeywords Builtin.Frozenset.updateFrom
      generalize pz : pyIter = PZ
      wp_walk
      subst pz
      refine wpAny_pyIter_list li1 (wpAny_bind (wpAny_runValue ?_))
      have lLt : l < s0.heap.objs.size := Heap.lt_size lo
      have nh3 : B.in1.in1.in1.handled = none := by simp [nh]
      have lNe : l ≠ (s0.heap.push (eS b)).objs.size := by
        rw [Heap.size_push]
        exact Nat.ne_of_lt (Nat.lt_succ_of_lt lLt)
      have sNin : s0.heap.objs.size ∉ [(s0.heap.push (eS b)).objs.size, l] := by
        rw [Heap.size_push]
        simp only [List.mem_cons, List.mem_singleton, List.not_mem_nil, or_false, not_or]
        exact ⟨Nat.ne_of_lt (Nat.lt_succ_self _), Nat.ne_of_gt lLt⟩
      refine loop_txt ((Walks.list nh3 _ l lNe its).toS) s0.heap.objs.size sNin xs small (fun i v q => SS.strs_at ar i v (by rw [Array.getElem?_toList]; exact q)) (its.size - 0) 0 _ (by omega) (Nat.zero_le _) ⟨⟨_, Heap.get?_push_size _ rfl, rfl, rfl⟩, (li1.push _)⟩ ?setA ?setB
      case setA =>
        have at1 : ((s0.heap.push (eS b)).push { cls := .type "list_iterator", data := .fields #[.ref l, .int 0 0] }).get? s0.heap.objs.size = some (eS b) := Heap.get?_push_of_some _ at0
        exact SetOf_congr ((setObjOf_fresh (knd := strKind P w) b).setOf at1 (by unfold scanBound; omega)) (fun _ => by simp [fm]) rfl
      case setB =>
        rintro ⟨h1, g1, d1, tk1, os1⟩ mv hD
        obtain rfl : g1 = s0.gens := mv.gens
        obtain rfl : d1 = s0.drawn := mv.drawn
        obtain rfl : os1 = s0.os := mv.os
        show wpAny _ _ _ _ _ _
        refine wpAny_pure ?_
        show wpAny _ _ (ret Value.none) _ _ _
        refine wpAny_pure ⟨rfl, h1, tk1, rfl, hD, fun b o hb e => mv.heap b o ?_ (Heap.get?_push_of_some _ (Heap.get?_push_of_some _ e))⟩
        rw [Heap.size_push]
        simp only [List.mem_cons, List.mem_singleton, List.not_mem_nil, or_false, not_or]
        exact ⟨Nat.ne_of_lt hb, Nat.ne_of_lt (Nat.lt_succ_of_lt hb)⟩
    · match r2, hz2 with
      | .error e, hz2 => exact hz2
      | .ok (.ret v2), hz2 =>
        obtain ⟨rfl, h1, tk, rfl, hD, kp⟩ := hz2
        repeat (any_goals (first | assumption | wp_step))
        exact k _ _ hD kp
      | .ok .next, hz2 => exact hz2.elim
      | .ok .brk, hz2 => exact hz2.elim
      | .ok .cont, hz2 => exact hz2.elim
  | .ok .next, hz => exact hz.elim
  | .ok .brk, hz => exact hz.elim
  | .ok .cont, hz => exact hz.elim
end
end Ver
namespace L2
open PySem PySem.Spec PyProof.Rows
section
variable {X : Cx} {CX : CXT} {k : Nat} {f C : Addr} {fd : FuncData} {ps : List Str} {sp : Sp} {E : St → XK} {x : Str} {p1 p2 : Pos} {e : Expr} {es : List Expr} {t : TA}
/-- C(..) that may raise: the wish is taken at the slots -/
def tMakeS (C : Addr) (sp : Sp) (E : St → XK) (t : TA) : TE := fun σ H Q => t σ H fun vs Ha => ∀ y dy, Ha y = none → Ha dy = none → dy ≠ y →
  sp (.ref y :: vs) (upd (upd Ha dy (.own y)) y (.ins C dy [])) (fun v Hb => v = .non ∧ Q (.ref y) Hb) (E σ)
theorem run_mkS {pins : List (Addr × Obj)} {σ : St} {H : Hp} {s0 : Shared} {Q : VK} {us : List Value} {vs : List V} (M : Mk X.K C f) (F : FnOk X.prog X.w X.K X.mg X.base CX k f fd ps sp) (room : Room (k + 1) X.A) (bd : Binds X.K fd ps [])
    (out : PassesAt CX X σ (E σ)) (I : Inv X pins σ H s0) (rv : Vals vs us) (h : ∀ y dy, H y = none → H dy = none → dy ≠ y → sp (.ref y :: vs) (upd (upd H dy (.own y)) y (.ins C dy [])) (fun v Hb => v = .non ∧ Q (.ref y) Hb) (E σ)) :
    wpAny (model X.prog X.w) X.A (call (.ref C) us) (EP X pins σ Q) X.xe s0 := by
  have want := h (s0.heap.objs.size + 1) s0.heap.objs.size (I.hok.fresh (Nat.le_succ _)) (I.hok.fresh (Nat.le_refl _)) (Nat.ne_of_lt (Nat.lt_succ_self _))
  have Im := Inv.made (C := C) I
  have rv2 : Vals (V.ref (s0.heap.objs.size + 1) :: vs) (Value.ref (s0.heap.objs.size + 1) :: us) := .cons rfl rv
  have same : (Value.ref (s0.heap.objs.size + 1) :: us).length = ps.length := by
    have e := rv2.length
    rw [F.len _ _ _ _ want] at e
    exact e.symm
  have bd2 := bd _ (Value.ref (s0.heap.objs.size + 1) :: us) Im.kIn (by rw [List.append_nil]; exact same)
  rw [List.append_nil] at bd2
  refine wpAny_call (make_map (f := f) I.kIn M.makes M.init (beq_iff_eq.mp M.fn) (codeAny_mono (F.run _ X.stack _ _ ⟨Value.ref (s0.heap.objs.size + 1) :: us, []⟩ _ _ _ (E σ) (room.make C us []) (Im.env0.make C us []) bd2 rv2 want) fun r s1 got => ?_))
  match r, got with
  | .error er, got => exact out pins _ _ er s1 Im got
  | .ok (.ret u), got =>
    obtain ⟨v, Hb, I3, rz, ev, q⟩ := Im.after got
    subst ev
    exact ⟨rz, ⟨V.ref (s0.heap.objs.size + 1), Hb, I3, rfl, q⟩⟩
  | .ok .next, got => exact got.elim
  | .ok .brk, got => exact got.elim
  | .ok .cont, got => exact got.elim
theorem pe_makeS (M : Mk X.K C f) (F : FnOk X.prog X.w X.K X.mg X.base CX k f fd ps sp) (room : Room (k + 1) X.A) (gl : Gl X x) (mg : X.mg x = some (.ref C)) (bd : Binds X.K fd ps []) (out : ∀ σ, PassesAt CX X σ (E σ)) (ha : PA X (e :: es) t)
    (nd : (x == ("__debug__" : Str)) = false := by decide) (he : starEach (e :: es) X.env = (false, eval e X.env) :: starEach es X.env := by rfl) (hp : (backTo p2 (starEach es X.env)).any (·.1) = false := by rfl) :
    PE X (.Call (.Name x p1) (e :: es) [] p2) (tMakeS C sp E t) := by
  refine ⟨fun pins s0 σ H Q I h => wpAny_Call_Name_kw (ld_glob I gl mg ?_ nd)⟩
  refine PySem.W.callWith_K (h₀ := X.base) I.ok.mod.kin M.kp (thn (ha.run p2 pins s0 σ H _ I h) fun us s1 ⟨vs, Ha, I1, rv, q⟩ => ⟨I1.kIn, ?_⟩) he hp
  exact run_mkS M F room bd (out σ) I1 rv q
end
/-- len(set(xs)), xs a list of texts -/
def tSetN (K : PySem.W.Frag) (ta : TE) : TE := fun σ H Q => ta σ H fun x Ha => ∃ l, ∃ xs : List Str, x = .ref l ∧ SqL K Ha l (xs.map V.str) ∧ xs.length ≤ 1000 ∧ Q (.int (Ver.fm xs xs.length).length) Ha
theorem pe_setN {X : Cx} {a : Expr} {ta : TE} {p1 p2 p3 p4 : Pos} (hc : X.calm = true) (g1 : Gl X "len") (m1 : X.mg "len" = none) (g2 : Gl X "set") (m2 : X.mg "set" = none) (ha : PE X a ta)
    (na : starEach [a] X.env = (false, eval a X.env) :: starEach [] X.env := by rfl) : PE X (.Call (.Name "len" p1) [.Call (.Name "set" p2) [a] [] p3] [] p4) (tSetN X.K ta) := by
  refine ⟨fun pins s0 σ H Q I h => Call_ (ld_blt I g1 m1 boot_len ?_)⟩
  refine PyProof.Rows.callWith_builtin1 (PyProof.Rows.args_cons (Call_ (ld_blt I g2 m2 boot_set ?_)) rfl) rfl rfl
  refine PyProof.Rows.callWith_type1 (PyProof.Rows.args_cons (thn (ha.run pins s0 σ H _ I h) fun v s1 ⟨x, Ha, I1, rx, l, xs, ex, hL, hz, q⟩ => PyProof.Rows.args_nil ?_) na) na rfl
  subst ex
  cases rx
  obtain ⟨its, rv, li, _⟩ := I1.list hL
  have el : its.toArray.size = xs.length := by rw [List.size_toArray, ← rv.length, List.length_map]
  have sb : its.toArray.size + 1 < scanBound := by
    rw [el]
    unfold scanBound
    omega
  refine Ver.set_txt (I1.ok.hd hc) li.isList (by simpa using strsAre_of rv) sb fun h1 tk hD kp => PyProof.Rows.args_nil ?_
  rw [el] at hD
  obtain ⟨o, es, ep, t, ho, hx, hd, _, _, _, hf, hn⟩ := hD
  have I2 : Inv X pins σ Ha { s1 with heap := h1, toks := tk } := I1.kept fun b o e => kp b o (Heap.lt_size e) e
  have le := Ver.fm_le xs xs.length
  exact call_len_set ho hx hd hf (by rw [hn]; omega) ⟨.int (Ver.fm xs xs.length).length, Ha, I2.tok _, ⟨_, by rw [hn]⟩, q⟩
end L2
namespace Ver
open PySem PySem.Spec PyProof.Rows L2 Evl
theorem setNK (K : PySem.W.Frag) {X : Cx} {a : Expr} {ta : TE} {p1 p2 p3 p4 : Pos} (hc : X.calm = true) (g1 : Gl X "len") (m1 : X.mg "len" = none) (g2 : Gl X "set") (m2 : X.mg "set" = none) (ha : PE X a ta)
    (na : starEach [a] X.env = (false, eval a X.env) :: starEach [] X.env := by rfl) (h : X.K = K := by rfl) : PE X (.Call (.Name "len" p1) [.Call (.Name "set" p2) [a] [] p3] [] p4) (tSetN K ta) := by
  subst h
  exact pe_setN hc g1 m1 g2 m2 ha na
end Ver
namespace Ver
open PySem PySem.Spec PyProof.Rows L2 Evl
section
variable {K : PySem.W.Frag}
def NewS (C : Addr) (sp : Sp) (E : XK) (vs : List V) (H : Hp) (Q : VK) : Prop := ∀ y dy, H y = none → H dy = none → dy ≠ y → sp (.ref y :: vs) (upd (upd H dy (.own y)) y (.ins C dy [])) (fun v Hb => v = .non ∧ Q (.ref y) Hb) E
theorem w_newS {σ : L2.St} {H : Hp} {C : Addr} {sp : Sp} {E : L2.St → XK} {t : TA} {Q : VK} (h : t σ H fun vs Ha => NewS C sp (E σ) vs Ha Q) : tMakeS C sp E t σ H Q := h
theorem a_newS {H : Hp} {C : Addr} {sp : Sp} {E : XK} {vs : List V} {Q : VK} (k : ∀ x dx H1, H x = none → H dx = none → dx ≠ x → Ex H H1 → H1 x = some (.ins C dx []) → H1 dx = some (.own x) → sp (.ref x :: vs) H1 (fun v H2 => v = .non ∧ Q (.ref x) H2) E) : NewS C sp E vs H Q := fun x dx n1 n2 n3 =>
  k x dx _ n1 n2 n3 ((Ex.new n2).mut n1) upd_same (by rw [upd_ne n3, upd_same])
def Xf (a : Addr) (cls : Value) (d : Option Addr) (C : Addr) (f : Str) (x : V) (H : Hp) (Q : VK) : Prop := x = .ref a ∧ cls = .ref C ∧ ∃ (dd : Addr) (fs : List (Str × V)) (v : V), d = some dd ∧ H dd = some (.xd fs) ∧ fs.lookup f = some v ∧ Q v H
theorem w_xf {σ : L2.St} {H : Hp} {a C : Addr} {cls : Value} {d : Option Addr} {f : Str} {te : TE} {Q : VK} (h : te σ H fun x Ha => Xf a cls d C f x Ha Q) : tXf a cls d C f te σ H Q := h
/-- two new places of a heap, left out again -/
theorem ex_two {H H1 : Hp} {x y : Addr} (n1 : H x = none) (n2 : H y = none) (e : Ex H H1) : Ex H (dl [x, y] H1) := fun b o z => by
  rw [dl_nin (by
    intro k
    rcases List.mem_cons.mp k with k | k
    · rw [k, n1] at z; cases z
    rcases List.mem_cons.mp k with k | k
    · rw [k, n2] at z; cases z
    · cases k)]
  exact e b o z
/-- a function as the law tells it -/
def fdat (f : FD) : PyData := .list [f.n, .list f.p, .list f.b]
def pAcc (K : PySem.W.Frag) : Sp := fun vs H Q _ => ∃ v1 v2 fs ss, vs = [v1, v2] ∧ Ds K H v1 (.list (fs.map fdat)) ∧ Ds K H v2 (.list ss) ∧ RV1 (.bl (progD fs ss)) H Q
theorem dpa_three {G : Hp} {xs : List V} {a b c : PyData} (h : DpAll K G xs [a, b, c]) : ∃ u v w, xs = [u, v, w] ∧ Dp K G u a ∧ Dp K G v b ∧ Dp K G w c := by
  match h with
  | .cons h1 (.cons h2 (.cons h3 .nil)) => exact ⟨_, _, _, rfl, h1, h2, h3⟩
theorem ds_fdat {G : Hp} {v : V} {f : FD} (h : Ds K G v (fdat f)) : ∃ p u q r, v = .ref p ∧ SqL K G p [u, .ref q, .ref r] ∧ Ds K G u f.n ∧ Dl K G q f.p ∧ Dl K G r f.b := by
  obtain ⟨p, xs, ds, rfl, e, hL, hD, hs, _, _⟩ := ds_lst h rfl
  cases e
  obtain ⟨u, v, w, rfl, d1, d2, d3⟩ := dpa_three hD
  have s0 := sm_at (i := 0) hs rfl
  have s1 := sm_at (i := 1) hs rfl
  have s2 := sm_at (i := 2) hs rfl
  obtain ⟨q, x1, _, rfl, e1, l1, k1, m1, z1, _⟩ := ds_lst (⟨d2, s1⟩ : Ds K G v (.list f.p)) rfl
  cases e1
  obtain ⟨r, x2, _, rfl, e2, l2, k2, m2, z2, _⟩ := ds_lst (⟨d3, s2⟩ : Ds K G w (.list f.b)) rfl
  cases e2
  exact ⟨p, u, q, r, rfl, hL, ⟨d1, s0⟩, ⟨⟨x1, l1, k1⟩, m1, z1⟩, ⟨⟨x2, l2, k2⟩, m2, z2⟩⟩
end
end Ver

set_option Elab.async false
set_option linter.all false
set_option maxRecDepth 100000
set_option maxHeartbeats 4000000
namespace Ver
open PySem PySem.Spec PyProof.Rows L2 Evl
/-! ## programs as trees of their own -/
inductive Src | num (n : Int) | null | val (x : Str) (k : Nat) | adr (x : Str) (k : Nat)
inductive Stm | lt (x : Str) (T : List R) (s : Src) | put (x : Str) (k : Nat) (s : Src) | call (f : Str) (ss : List Src)
def plD (x : Str) (k : Nat) : PyData := .tuple [.str x, .int (k : Int)]
def sD : Src → PyData
  | .num n => .tuple [.str "number", .int n]
  | .null => .tuple [.str "null"]
  | .val x k => .tuple [.str "value", plD x k]
  | .adr x k => .tuple [.str "address", plD x k]
def stD : Stm → PyData
  | .lt x T s => .tuple [.str "let", .str x, ru T, sD s]
  | .put x k s => .tuple [.str "put", plD x k, sD s]
  | .call f ss => .tuple [.str "call", .str f, .list (ss.map sD)]
structure TF where
  n : Str
  p : List (Str × List R)
  b : List Stm
def pD (q : Str × List R) : PyData := .tuple [.str q.1, ru q.2]
def TF.fd (f : TF) : FD := ⟨.str f.n, f.p.map pD, f.b.map stD⟩
def nmO (x : Str) : Prop := nameD (.str x) = true
def sO : Src → Prop
  | .num n => 0 ≤ n ∧ n ≤ 1000
  | .null => True
  | .val x k => nmO x ∧ k ≤ 5
  | .adr x k => nmO x ∧ k ≤ 5
def tyO (T : List R) : Prop := 1 ≤ T.length ∧ T.length ≤ 6
def stO : Stm → Prop
  | .lt x T s => nmO x ∧ tyO T ∧ sO s
  | .put x k s => nmO x ∧ k ≤ 5 ∧ sO s
  | .call f ss => nmO f ∧ ss.length ≤ 4 ∧ ∀ s ∈ ss, sO s
theorem and_t {a b : Bool} (h : a = true) (k : b = true) : (a && b) = true := by rw [h, k]; rfl
theorem nm_8 {x : Str} (h : nmO x) : x.length ≤ 8 := (name_str (d := .str x) h).2
theorem pl_ok {x : Str} {k : Nat} (h : nmO x) (hk : k ≤ 5) : placeD (plD x k) = true := by
  have e : numD (.int (k : Int)) 5 = true := and_t (decide_eq_true (Int.natCast_nonneg k)) (decide_eq_true (by omega))
  show (decide ("tuple" = "tuple") && decide (2 = 2) && (nameD (.str x) && numD (.int (k : Int)) 5)) = true
  rw [e, show nameD (.str x) = true from h]
  rfl
theorem src_ok {s : Src} (h : sO s) : srcD (sD s) = true := by
  cases s with
  | num n =>
    have e : fwD (sD (.num n)) = "number" := fw_str (by simp) rfl
    unfold srcD
    rw [e, if_neg (by decide), if_pos rfl]
    show (decide (2 = 2) && numD (.int n) 1000) = true
    have : numD (.int n) 1000 = true := and_t (decide_eq_true h.1) (decide_eq_true h.2)
    rw [this]
    rfl
  | null =>
    have e : fwD (sD .null) = "null" := fw_str (by simp) rfl
    unfold srcD
    rw [e, if_pos rfl]
    rfl
  | val x k =>
    have e : fwD (sD (.val x k)) = "value" := fw_str (by simp) rfl
    unfold srcD
    rw [e, if_neg (by decide), if_neg (by decide)]
    show (inV (.str "value") [.str "value", .str "address"] && (decide (2 = 2) && placeD (plD x k))) = true
    rw [pl_ok h.1 h.2]
    rfl
  | adr x k =>
    have e : fwD (sD (.adr x k)) = "address" := fw_str (by simp) rfl
    unfold srcD
    rw [e, if_neg (by decide), if_neg (by decide)]
    show (inV (.str "address") [.str "value", .str "address"] && (decide (2 = 2) && placeD (plD x k))) = true
    rw [pl_ok h.1 h.2]
    rfl
theorem ir_R (x : R) : irD (.str x.s) = true := by cases x <;> decide
theorem ru_all (T : List R) : (T.map fun x => PyData.str x.s).all irD = true := by
  rw [List.all_map, List.all_eq_true]
  exact fun x _ => ir_R x
theorem typ_ok {T : List R} (h : tyO T) : typD (ru T) = true := by
  show (vtD (T.map fun x => PyData.str x.s) && decide (0 < (T.map fun x => PyData.str x.s).length)) = true
  unfold vtD
  rw [List.length_map, ru_all, decide_eq_true h.2, decide_eq_true (show 0 < T.length from h.1)]
  rfl
theorem pd_ok {q : Str × List R} (h : nmO q.1) (t : tyO q.2) : declD (pD q) = true := by
  show (decide ("tuple" = "tuple") && decide (2 = 2) && (nameD (.str q.1) && (typD (ru q.2) || numD (ru q.2) 5))) = true
  rw [show nameD (.str q.1) = true from h, typ_ok t]
  rfl
theorem st_okD {s : Stm} (h : stO s) : stmtD (stD s) = true := by
  cases s with
  | lt x T s =>
    have e : fwD (stD (.lt x T s)) = "let" := fw_str (by simp) rfl
    unfold stmtD
    rw [e, if_pos rfl]
    show (decide (4 = 4) && (declD (pD (x, T)) && srcD (sD s))) = true
    rw [pd_ok h.1 h.2.1, src_ok h.2.2]
    rfl
  | put x k s =>
    have e : fwD (stD (.put x k s)) = "put" := fw_str (by simp) rfl
    unfold stmtD
    rw [e, if_neg (by decide), if_pos rfl]
    show (decide (3 = 3) && (placeD (plD x k) && srcD (sD s))) = true
    rw [pl_ok h.1 h.2.1, src_ok h.2.2]
    rfl
  | call f ss =>
    have e : fwD (stD (.call f ss)) = "call" := fw_str (by simp) rfl
    unfold stmtD
    rw [e, if_neg (by decide), if_neg (by decide)]
    show (decide ("call" = "call") && (decide (3 = 3) && (nameD (.str f) && (decide ("list" = "list") && (ss.map sD).all srcD)))) = true
    have a : (ss.map sD).all srcD = true := by
      rw [List.all_map, List.all_eq_true]
      exact fun s hs => src_ok (h.2.2 s hs)
    rw [show nameD (.str f) = true from h.1, a]
    rfl
def letP : Stm → Option (Str × List R)
  | .lt x T _ => some (x, T)
  | _ => none
def lets (b : List Stm) : List (Str × List R) := b.filterMap letP
theorem lets_app (a b : List Stm) : lets (a ++ b) = lets a ++ lets b := List.filterMap_append
theorem letsD_eq : ∀ b : List Stm, letsD (b.map stD) = (lets b).map pD
  | [] => rfl
  | s :: b => by
    have ih := letsD_eq b
    unfold letsD lets at ih ⊢
    cases s with
    | lt x T s =>
      have e : fwD (stD (.lt x T s)) = "let" := fw_str (by simp) rfl
      rw [List.map_cons, List.filter_cons_of_pos (by simpa using e), List.map_cons, ih]
      rfl
    | put x k s =>
      have e : fwD (stD (.put x k s)) = "put" := fw_str (by simp) rfl
      rw [List.map_cons, List.filter_cons_of_neg (by rw [e]; decide), ih]
      rfl
    | call f ss =>
      have e : fwD (stD (.call f ss)) = "call" := fw_str (by simp) rfl
      rw [List.map_cons, List.filter_cons_of_neg (by rw [e]; decide), ih]
      rfl
def declF (fs : List TF) : List (Str × List R) := fs.flatMap fun f => f.p ++ lets f.b
def decl (fs : List TF) (ss : List Stm) : List (Str × List R) := declF fs ++ lets ss
theorem declF_snoc (fs : List TF) (f : TF) : declF (fs ++ [f]) = declF fs ++ (f.p ++ lets f.b) := by
  unfold declF
  rw [List.flatMap_append]
  simp
theorem declsF_eq : ∀ fs : List TF, declsF (fs.map TF.fd) = (declF fs).map pD
  | [] => rfl
  | f :: fs => by
    have ih := declsF_eq fs
    unfold declsF declF at ih ⊢
    rw [List.map_cons, List.flatMap_cons, List.flatMap_cons, ih, List.map_append, List.map_append]
    show f.p.map pD ++ letsD (f.b.map stD) ++ _ = _
    rw [letsD_eq]
theorem declsD_eq (fs : List TF) (ss : List Stm) : declsD (fs.map TF.fd) (ss.map stD) = (decl fs ss).map pD := by
  unfold declsD decl
  rw [declsF_eq, letsD_eq, List.map_append]
theorem namesD_eq (fs : List TF) (ss : List Stm) : namesD (fs.map TF.fd) (ss.map stD) = fs.map TF.n ++ (decl fs ss).map Prod.fst := by
  unfold namesD
  rw [declsD_eq, List.map_map, List.map_map]
  rfl
theorem kindsD_eq (fs : List TF) (ss : List Stm) : kindsD (fs.map TF.fd) (ss.map stD) = (decl fs ss).map fun q => ru q.2 := by
  unfold kindsD
  rw [declsD_eq, List.map_map]
  rfl
/-- a call's function is there, and it has as many sources -/
def cf (fs : List TF) : Stm → Prop
  | .call f ss => ∃ g ∈ fs, g.n = f ∧ ss.length = g.p.length
  | _ => True
def Fit : List TF → List TF → List Stm → Prop
  | d, [], ss => ∀ s ∈ ss, cf d s
  | d, f :: r, ss => (∀ s ∈ f.b, cf d s) ∧ Fit (d ++ [f]) r ss
theorem fit1_ok {kvs : Kv} {d : List TF} {s : Stm} (h : ∀ g ∈ d, valV kvs (Sum.inr g.n) = some (.int (g.p.length : Nat))) (c : cf d s) : fit1 kvs (stD s) = true := by
  unfold fit1
  cases s with
  | lt x T s =>
    rw [show fwD (stD (.lt x T s)) = "let" from fw_str (by simp) rfl]
    rfl
  | put x k s =>
    rw [show fwD (stD (.put x k s)) = "put" from fw_str (by simp) rfl]
    rfl
  | call f ss =>
    obtain ⟨g, hg, rfl, e⟩ := c
    have e1 : decide ((valV kvs (Sum.inr (strD (nthD (stD (.call g.n ss)) 1)))).getD .non = .int ((itemsD (nthD (stD (.call g.n ss)) 2)).length : Nat)) = true := by
      apply decide_eq_true
      show (valV kvs (Sum.inr g.n)).getD .non = .int ((ss.map sD).length : Nat)
      rw [h g hg, List.length_map, e]
      rfl
    rw [e1, Bool.or_true]
theorem fit_ok : ∀ (r d : List TF) (ss : List Stm) (kvs : Kv), (∀ g ∈ d, valV kvs (Sum.inr g.n) = some (.int (g.p.length : Nat))) → ((d ++ r).map TF.n).Nodup → Fit d r ss → fitF kvs (r.map TF.fd) (ss.map stD) = true
  | [], d, ss, kvs, h, _, c => by
    show fitD kvs (ss.map stD) = true
    unfold fitD
    rw [List.all_map, List.all_eq_true]
    exact fun s hs => fit1_ok h (c s hs)
  | f :: r, d, ss, kvs, h, nd, c => by
    show (fitD kvs (f.b.map stD) && fitF (putN kvs f.fd) (r.map TF.fd) (ss.map stD)) = true
    refine and_t ?_ (fit_ok r (d ++ [f]) ss _ ?_ (by rw [List.append_assoc]; exact nd) c.2)
    · unfold fitD
      rw [List.all_map, List.all_eq_true]
      exact fun s hs => fit1_ok h (c.1 s hs)
    · intro g hg
      unfold putN
      rw [valV_put]
      show (if (Sum.inr g.n : Key) = Sum.inr f.n then some (V.int ((f.p.map pD).length : Nat)) else valV kvs (Sum.inr g.n)) = _
      rcases List.mem_append.mp hg with hg | hg
      · have ne : g.n ≠ f.n := fun z => by
          rw [List.map_append, List.map_cons] at nd
          have := (List.nodup_append.mp nd).2.2 g.n (List.mem_map_of_mem hg) f.n (List.mem_cons_self ..)
          exact this z
        rw [if_neg (fun z => ne (Sum.inr.inj z))]
        exact h g hg
      · rw [List.mem_singleton] at hg
        subst hg
        rw [if_pos rfl, List.length_map]
structure FOk (f : TF) : Prop where
  n : nmO f.n
  p4 : f.p.length ≤ 4
  po : ∀ q ∈ f.p, nmO q.1 ∧ tyO q.2
  b12 : f.b.length ≤ 12
  bo : ∀ s ∈ f.b, stO s
structure POk (fs : List TF) (ss : List Stm) : Prop where
  f4 : fs.length ≤ 4
  fo : ∀ f ∈ fs, FOk f
  s40 : ss.length ≤ 40
  so : ∀ s ∈ ss, stO s
  nd : (fs.map TF.n ++ (decl fs ss).map Prod.fst).Nodup
  ft : Fit [] fs ss
theorem lets_tyO {b : List Stm} (h : ∀ s ∈ b, stO s) : ∀ q ∈ lets b, nmO q.1 ∧ tyO q.2 := fun q hq => by
  obtain ⟨s, hs, e⟩ := List.mem_filterMap.mp hq
  cases s with
  | lt x T s =>
    cases Option.some.inj e
    exact ⟨(h _ hs).1, (h _ hs).2.1⟩
  | put x k s => cases e
  | call f ss => cases e
theorem fn_okD {f : TF} (h : FOk f) : fnD f.fd = true := by
  unfold fnD stsD
  refine and_t (and_t h.n (and_t (decide_eq_true ?_) ?_)) (and_t (decide_eq_true ?_) ?_)
  · show (f.p.map pD).length ≤ 4
    rw [List.length_map]
    exact h.p4
  · show (f.p.map pD).all declD = true
    rw [List.all_map, List.all_eq_true]
    exact fun q hq => pd_ok (h.po q hq).1 (h.po q hq).2
  · show (f.b.map stD).length ≤ 12
    rw [List.length_map]
    exact h.b12
  · show (f.b.map stD).all stmtD = true
    rw [List.all_map, List.all_eq_true]
    exact fun q hq => st_okD (h.bo q hq)
theorem decl_tyO {fs : List TF} {ss : List Stm} (h : POk fs ss) : ∀ q ∈ decl fs ss, nmO q.1 ∧ tyO q.2 := fun q hq => by
  rcases List.mem_append.mp hq with hq | hq
  · obtain ⟨f, hf, hq⟩ := List.mem_flatMap.mp hq
    rcases List.mem_append.mp hq with hq | hq
    · exact (h.fo f hf).po q hq
    · exact lets_tyO (h.fo f hf).bo q hq
  · exact lets_tyO h.so q hq
theorem prog_ok {fs : List TF} {ss : List Stm} (h : POk fs ss) : progD (fs.map TF.fd) (ss.map stD) = true := by
  unfold progD stsD
  refine and_t (and_t (and_t (decide_eq_true ?_) ?_) (and_t (decide_eq_true ?_) ?_)) (and_t (and_t ?_ ?_) ?_)
  · rw [List.length_map]
    exact h.f4
  · rw [List.all_map, List.all_eq_true]
    exact fun q hq => fn_okD (h.fo q hq)
  · rw [List.length_map]
    exact h.s40
  · rw [List.all_map, List.all_eq_true]
    exact fun q hq => st_okD (h.so q hq)
  · rw [namesD_eq]
    exact decide_eq_true h.nd
  · rw [kindsD_eq]
    unfold kindD
    rw [show ((decl fs ss).map fun q => ru q.2).all typD = true from by
      rw [List.all_map, List.all_eq_true]
      exact fun q hq => typ_ok (decl_tyO h q hq).2]
    rfl
  · refine fit_ok fs [] ss [] (fun g hg => by cases hg) ?_ h.ft
    rw [List.nil_append]
    exact (List.nodup_append.mp h.nd).1
/-! ## sizes -/
theorem sm_ru (T : List R) (h : T.length ≤ 6) : smD (ru T) = true := by
  refine sm_tup ?_ (by rw [List.length_map]; omega)
  clear h
  induction T with
  | nil => rfl
  | cons a T ih =>
    show (decide (a.s.length ≤ 100000) && smAll (T.map fun x => PyData.str x.s)) = true
    refine and_t ?_ ih
    cases a <;> decide
theorem sm_nm {x : Str} (h : nmO x) : smD (.str x) = true := decide_eq_true (Nat.le_trans (nm_8 h) (by decide))
theorem sm_pl {x : Str} {k : Nat} (h : nmO x) : smD (plD x k) = true := sm_tup (and_t (sm_nm h) rfl) (by simp)
theorem sm_sD {s : Src} (h : sO s) : smD (sD s) = true := by
  cases s with
  | num n => exact sm_tup (and_t (by decide) rfl) (by simp)
  | null => exact sm_tup (and_t (by decide) rfl) (by simp)
  | val x k => exact sm_tup (and_t (by decide) (and_t (sm_pl h.1) rfl)) (by simp)
  | adr x k => exact sm_tup (and_t (by decide) (and_t (sm_pl h.1) rfl)) (by simp)
theorem sm_map {α : Type} {f : α → PyData} : ∀ {xs : List α}, (∀ x ∈ xs, smD (f x) = true) → smAll (xs.map f) = true
  | [], _ => rfl
  | x :: xs, h => and_t (h x (List.mem_cons_self ..)) (sm_map fun y hy => h y (List.mem_cons_of_mem _ hy))
theorem sm_stD {s : Stm} (h : stO s) : smD (stD s) = true := by
  cases s with
  | lt x T s => exact sm_tup (and_t (by decide) (and_t (sm_nm h.1) (and_t (sm_ru T h.2.1.2) (and_t (sm_sD h.2.2) rfl)))) (by simp)
  | put x k s => exact sm_tup (and_t (by decide) (and_t (sm_pl h.1) (and_t (sm_sD h.2.2) rfl))) (by simp)
  | call f ss => exact sm_tup (and_t (by decide) (and_t (sm_nm h.1) (and_t (sm_lst (sm_map fun s hs => sm_sD (h.2.2 s hs)) (by rw [List.length_map]; have := h.2.1; omega)) rfl))) (by simp)
theorem sm_pD {q : Str × List R} (h : nmO q.1) (t : tyO q.2) : smD (pD q) = true := sm_tup (and_t (sm_nm h) (and_t (sm_ru _ t.2) rfl)) (by simp)
def tfD (f : TF) : PyData := .list [.str f.n, .list (f.p.map pD), .list (f.b.map stD)]
theorem sm_tf {f : TF} (h : FOk f) : smD (tfD f) = true :=
  sm_lst (and_t (sm_nm h.n) (and_t (sm_lst (sm_map fun q hq => sm_pD (h.po q hq).1 (h.po q hq).2) (by rw [List.length_map]; have := h.p4; omega)) (and_t (sm_lst (sm_map fun s hs => sm_stD (h.bo s hs)) (by rw [List.length_map]; have := h.b12; omega)) rfl))) (by simp)
/-! ## what is known -/
abbrev Env := Str → Option (List R)
def Env.put (e : Env) (x : Str) (T : List R) : Env := fun y => if y = x then some T else e y
def envS (e : Env) : Stm → Env
  | .lt x T _ => e.put x T
  | _ => e
def e0 : Env := fun _ => none
def envP (e : Env) (ps : List (Str × List R)) : Env := ps.foldl (fun e q => e.put q.1 q.2) e
/-- a dict of types -/
structure TyD (K : PySem.W.Frag) (S : List Addr) (H : Hp) (pt : Addr) (e : Env) : Prop where
  ex : ∃ kvs : Kv, H pt = some (.dK kvs) ∧ kvs.length ≤ 1000 ∧ ∀ x, (e x = none → valV kvs (Sum.inr x) = none) ∧ ∀ T, e x = some T → ∃ a, valV kvs (Sum.inr x) = some (.ref a) ∧ SqT K (dl S H) a (tv T)
end Ver

set_option Elab.async false
set_option linter.all false
set_option maxRecDepth 100000
set_option maxHeartbeats 4000000
namespace Ver
open PySem PySem.Spec PyProof.Rows L2 Evl
/-! ## dicts: their words -/
def GetI (x y : V) (H : Hp) (Q : VK) : Prop := ∃ a v, x = .ref a ∧ DGet H a y (some v) ∧ Q v H
def MemD (neg : Bool) (y x : V) (H : Hp) (Q : VK) : Prop := ∃ a o, x = .ref a ∧ DGet H a y o ∧ Q (.bl (if neg then !o.isSome else o.isSome)) H
section
variable {σ : L2.St} {H : Hp} {Q : VK} {td ty : TE} {a : Addr} {kvs : Kv} {x : Str} {v : V}
theorem w_dget (h : td σ H fun x Ha => ty σ Ha fun y Hb => GetI x y Hb Q) : tDGet td ty σ H Q := h
theorem w_din (h : ty σ H fun y Ha => td σ Ha fun x Hb => MemD false y x Hb Q) : tDIn ty td σ H Q := h
theorem w_dnin (h : ty σ H fun y Ha => td σ Ha fun x Hb => MemD true y x Hb Q) : tDNotIn ty td σ H Q := h
theorem a_dget (e : H a = some (.dK kvs)) (hv : valV kvs (Sum.inr x) = some v) (k : Q v H) : GetI (.ref a) (.str x) H Q := ⟨a, v, rfl, hv ▸ DGet.k (k := Sum.inr x) e, k⟩
theorem a_dmem {neg : Bool} (e : H a = some (.dK kvs)) (k : Q (.bl (if neg then !(valV kvs (Sum.inr x)).isSome else (valV kvs (Sum.inr x)).isSome)) H) : MemD neg (.str x) (.ref a) H Q := ⟨a, _, rfl, DGet.k (k := Sum.inr x) e, k⟩
end
/-- a dict of pairs in a list -/
def qDict (K : PySem.W.Frag) : List V → Hp → VK → Prop := fun xs H Q => ∃ (a : Addr) (ps : List Addr) (kvs : List (Key × V)), xs = [.ref a] ∧ SqL K H a (ps.map V.ref) ∧ Paired (fun p kv => SqT K H p [kV kv.1, kv.2]) ps kvs ∧ ∀ p, H p = none → Q (.ref p) (upd H p (.dK (mergeK [] kvs)))
theorem dctK (K : PySem.W.Frag) {X : Cx} (hc : X.calm = true := by rfl) (h : X.K = K := by rfl) : CallR X (.type "dict") (qDict K) := by subst h; exact call_dictP hc
/-- the first item of a list is taken out -/
theorem a_pop0 {H : Hp} {Q : VK} {l : Addr} {y : V} {xs : List V} (h : H l = some (.lst (y :: xs))) (k : Q y (upd H l (.lst xs))) : rPopAt (.ref l) [.int 0] H Q :=
  ⟨l, y :: xs, 0, 0, y, rfl, rfl, h, by decide, by decide, by
    have := (ixN_seq (ixN_nat (n := (y :: xs).length) (j := 0) (by simp))).1
    exact this, rfl, k⟩
def qMin : List V → Hp → VK → Prop := fun xs H Q => ∃ i j, xs = [.int i, .int j] ∧ Q (.int (if j < i then j else i)) H
theorem minK {X : Cx} (hc : X.calm = true := by rfl) : CallR X (.builtin "min") qMin := call_min2 hc
/-! ## walks by enumerate, zip; a dict comprehension -/
theorem w_iEn {K : PySem.W.Frag} {σ : L2.St} {H : Hp} {a : TA} {N : It → Hp → Prop} (h : a σ H fun vs Ha => ∃ a xs, vs = [.ref a] ∧ SqL K Ha a xs ∧ N (Ite K a) Ha) : iEnum K a σ H N := h
theorem w_iZp {K : PySem.W.Frag} {σ : L2.St} {H : Hp} {a : TA} {N : It → Hp → Prop} (h : a σ H fun vs Ha => ∃ a b xs ys, vs = [.ref a, .ref b] ∧ SqL K Ha a xs ∧ SqL K Ha b ys ∧ N (Itz K a b) Ha) : iZip K a σ H N := h
theorem enK (K : PySem.W.Frag) {X : Cx} {e : Expr} {ta : TA} {p pos tpos : Pos} {elts : List Expr} {kk : Nat} (hg : Gl X "enumerate") (hm : X.mg "enumerate" = none) (ha : PA X [e] ta) (hs : starEach [e] X.env = [(false, eval e X.env)] := by rfl) (h : X.K = K := by rfl) :
    PI X (.Tuple elts kk tpos) (.Call (.Name "enumerate" p) [e] [] pos) (iEnum K ta) := by subst h; exact pi_enum hg hm ha hs
theorem zpK (K : PySem.W.Frag) {X : Cx} {e e2 : Expr} {ta : TA} {p pos tpos : Pos} {elts : List Expr} {kk : Nat} (hg : Gl X "zip") (hm : X.mg "zip" = none) (ha : PA X [e, e2] ta)
    (hs : starEach [e, e2] X.env = (false, eval e X.env) :: starEach [e2] X.env := by rfl) (hpl : (backTo pos (starEach [e2] X.env)).any (·.1) = false := by rfl) (h : X.K = K := by rfl) :
    PI X (.Tuple elts kk tpos) (.Call (.Name "zip" p) [e, e2] [] pos) (iZip K ta) := by subst h; exact pi_zip hg hm ha hs hpl
section
variable {K : PySem.W.Frag} {σ : L2.St} {H : Hp} {g : TG} {ts : TS} {D : Ends} {Q : VK} {p q : Addr} {xs ys : List V}
theorem lp_enum (P : Nat → L2.St → Hp → Prop) (h0 : P 0 σ H) (hl : ∀ k s h, k ≤ xs.length → P k s h → SqL K h p xs)
    (hs : ∀ k x s h T, xs[k]? = some x → P k s h → h T = none → g (.ref T) s (upd h T (.tup [.int (k : Nat), x])) fun s2 h2 => ts { D with nx := P (k + 1), ct := P (k + 1), bk := D.nx } s2 h2)
    (hd : ∀ s h, P xs.length s h → D.nx s h) : LoopG (Ite K p) g ts D σ H :=
  for_it (walk_enum (xs := xs)) P h0 (fun i s h hi c => hl i s h hi c) (fun i x s h h' hi c y => by
    obtain ⟨T, u, v, rfl, n, rfl, e1, e2⟩ := y
    cases Option.some.inj e1
    exact hs i v s h T e2 c n) hd
theorem lp_zip (hn : xs.length = ys.length) (P : Nat → L2.St → Hp → Prop) (h0 : P 0 σ H) (hl : ∀ k s h, k ≤ xs.length → P k s h → SqL K h p xs ∧ SqL K h q ys)
    (hs : ∀ k x y s h T, xs[k]? = some x → ys[k]? = some y → P k s h → h T = none → g (.ref T) s (upd h T (.tup [x, y])) fun s2 h2 => ts { D with nx := P (k + 1), ct := P (k + 1), bk := D.nx } s2 h2)
    (hd : ∀ s h, P xs.length s h → D.nx s h) : LoopG (Itz K p q) g ts D σ H :=
  for_it (walk_zip (xs := xs) (ys := ys) (n := xs.length) (by rw [hn, Nat.min_self])) P h0 (fun i s h hi c => hl i s h hi c) (fun i x s h h' hi c y => by
    obtain ⟨T, u, v, rfl, n, rfl, e1, e2⟩ := y
    exact hs i u v s h T e1 e2 c n) hd
def DCompG (J : It) (g : TG) (t : TT) (tk tv : TE) (vs : List Nat) (σ : L2.St) (H : Hp) (Q : VK) : Prop := tDc (fun _ h R => R J h) g t tk tv vs σ H Q
theorem w_dc {wi : TI} {t : TT} {tk tv : TE} {vs : List Nat} (h : wi σ H fun J Ha => DCompG J g t tk tv vs σ Ha Q) : tDc wi g t tk tv vs σ H Q := h
theorem dc_L {t : TT} {tk tv : TE} {vs : List Nat} (hx : SqL K H p xs) (h : DCompG (Itl K p) g t tk tv vs σ H Q) : ∃ q, V.ref p = .ref q ∧ (∃ xs, SqL K H q xs) ∧ DCompG (Itl K q) g t tk tv vs σ H Q := ⟨p, rfl, ⟨xs, hx⟩, h⟩
theorem dcp_list {t : TT} {tk tv : TE} {vs : List Nat} (P : Addr → Nat → Hp → Prop) (h0 : ∀ D, H D = none → P D 0 (upd H D (.dK []))) (hl : ∀ D k h, H D = none → k ≤ xs.length → P D k h → SqL K h p xs)
    (hs : ∀ D k x h, H D = none → xs[k]? = some x → P D k h → g x (wipe σ vs) h fun s2 h2 => wipe s2 vs = wipe σ vs ∧ t s2 h2 fun b h3 =>
      if b = true then tk s2 h3 fun y h4 => tv s2 h4 fun z h5 => ∃ kvs k', y = kV k' ∧ h5 D = some (.dK kvs) ∧ kvs.length < sizeLine ∧ P D (k + 1) (upd h5 D (.dK (putK kvs k' z))) else P D (k + 1) h3)
    (hd : ∀ D h, H D = none → P D xs.length h → Q (.ref D) h) : DCompG (Itl K p) g t tk tv vs σ H Q := fun D hD => by
  refine ⟨fun i m h => m = xs.length - i ∧ i ≤ xs.length ∧ P D i h, ⟨xs.length, by simp, Nat.zero_le _, h0 D hD⟩, ?_⟩
  rintro i m h ⟨rfl, hi, c⟩
  have q := hl D i h hD hi c
  by_cases hlt : i < xs.length
  · refine .inr ⟨⟨xs, xs[i], q, by simp [hlt]⟩, P D (i + 1), fun H' p' => ⟨xs.length - (i + 1), by omega, rfl, hlt, p'⟩, fun x H' y => ?_⟩
    obtain ⟨e, y⟩ := y
    subst e
    exact hs D i x _ hD (y xs q) c
  · have e : i = xs.length := by omega
    subst e
    exact .inl ⟨⟨xs, q, Nat.le_refl _⟩, hd D h hD c⟩
end
/-! ## parts of tuples, any -/
theorem a_slFr {K : PySem.W.Frag} {H : Hp} {Q : VK} {a : Addr} {vs : List V} {n : Nat} (h : SqT K H a vs) (k : ∀ q H1, Ex H H1 → SqT K H1 q (vs.drop n) → (q = a ∧ H1 = H ∨ H q = none) → Q (.ref q) H1) : rSlA K (.ref a) (some (n : Int)) none H Q := by
  have e1 : HT.sIx vs.length 0 (some (n : Int)) = min n vs.length := HT.sIx_nat vs.length 0 n
  refine ⟨a, vs, rfl, h, fun z => ?_, fun _ p hp => ?_⟩
  · rw [e1] at z
    refine k a H (Ex.refl H) ?_ (.inl ⟨rfl, rfl⟩)
    have : n = 0 ∨ vs.length = 0 := by have := z.1; omega
    rcases this with rfl | e
    · exact h
    · rw [List.length_eq_zero_iff.mp e] at h ⊢
      rw [List.drop_nil]
      exact h
  · have e : cutV vs (some (n : Int)) none = vs.drop n := by
      unfold cutV
      rw [e1, HT.sIx_none]
      by_cases c : n ≤ vs.length
      · rw [Nat.min_eq_left c, List.take_of_length_le (by rw [List.length_drop]; exact Nat.le_refl _)]
      · have c' : vs.length ≤ n := by omega
        rw [Nat.min_eq_right c', Nat.sub_self, List.take_zero, List.drop_eq_nil_of_le c']
    rw [e]
    exact k p _ (Ex.new hp) (SqT.of upd_same) (.inr hp)
theorem a_slUp {K : PySem.W.Frag} {H : Hp} {Q : VK} {a : Addr} {vs : List V} {n : Nat} (h : SqT K H a vs) (k : ∀ q H1, Ex H H1 → SqT K H1 q (vs.take n) → (q = a ∧ H1 = H ∨ H q = none) → Q (.ref q) H1) : rSlA K (.ref a) none (some (n : Int)) H Q := by
  have e1 : HT.sIx vs.length vs.length (some (n : Int)) = min n vs.length := HT.sIx_nat vs.length vs.length n
  refine ⟨a, vs, rfl, h, fun z => ?_, fun _ p hp => ?_⟩
  · rw [e1] at z
    refine k a H (Ex.refl H) ?_ (.inl ⟨rfl, rfl⟩)
    rw [List.take_of_length_le (by have := z.2; omega)]
    exact h
  · have e : cutV vs none (some (n : Int)) = vs.take n := by
      unfold cutV
      rw [e1, HT.sIx_none]
      by_cases c : n ≤ vs.length
      · rw [Nat.min_eq_left c]
        simp
      · rw [Nat.min_eq_right (by omega)]
        simp
        rw [List.take_of_length_le (by omega)]
    rw [e]
    exact k p _ (Ex.new hp) (SqT.of upd_same) (.inr hp)
theorem tv_drop (T : List R) (n : Nat) : (tv T).drop n = tv (T.drop n) := (List.map_drop).symm
theorem tv_take (T : List R) (n : Nat) : (tv T).take n = tv (T.take n) := (List.map_take).symm
/-! ## dicts of types -/
theorem sqt_le {K : PySem.W.Frag} {G G' : Hp} (e : Ex G G') {a : Addr} {xs : List V} (h : SqT K G a xs) : SqT K G' a xs := ex_st h e
section
variable {K : PySem.W.Frag} {S : List Addr} {H H1 : Hp} {pt : Addr} {e : Env}
theorem TyD.ex' (h : TyD K S H pt e) (x1 : Ex H H1) : TyD K S H1 pt e := by
  obtain ⟨kvs, h1, h2, h3⟩ := h.ex
  exact ⟨kvs, x1 _ _ h1, h2, fun x => ⟨(h3 x).1, fun T t => by
    obtain ⟨a, g1, g2⟩ := (h3 x).2 T t
    exact ⟨a, g1, ex_st g2 (dl_ex x1)⟩⟩⟩
theorem TyD.ks {M : List Addr} (h : TyD K S H pt e) (k : Ks M H H1) (hm : ∀ a ∈ M, a ∈ S) (hp : pt ∉ M) : TyD K S H1 pt e := by
  obtain ⟨kvs, h1, h2, h3⟩ := h.ex
  exact ⟨kvs, k _ _ hp h1, h2, fun x => ⟨(h3 x).1, fun T t => by
    obtain ⟨a, g1, g2⟩ := (h3 x).2 T t
    exact ⟨a, g1, ex_st g2 (dl_ks (k.mono hm))⟩⟩⟩
theorem TyD.grow {p : Addr} (h : TyD K S H pt e) (n : H p = none) (x1 : Ex H H1) : TyD K (p :: S) H1 pt e := by
  obtain ⟨kvs, h1, h2, h3⟩ := h.ex
  exact ⟨kvs, x1 _ _ h1, h2, fun x => ⟨(h3 x).1, fun T t => by
    obtain ⟨a, g1, g2⟩ := (h3 x).2 T t
    exact ⟨a, g1, ex_st g2 (dl_new n x1)⟩⟩⟩
theorem TyD.sub {S' : List Addr} (h : TyD K S H pt e) (m : ∀ a ∈ S', a ∈ S) : TyD K S' H pt e := by
  obtain ⟨kvs, h1, h2, h3⟩ := h.ex
  exact ⟨kvs, h1, h2, fun x => ⟨(h3 x).1, fun T t => by
    obtain ⟨a, g1, g2⟩ := (h3 x).2 T t
    exact ⟨a, g1, ex_st g2 (dl_sub m)⟩⟩⟩
theorem TyD.get (h : TyD K S H pt e) {x : Str} {T : List R} (t : e x = some T) {Q : VK} (k : ∀ a, SqT K (dl S H) a (tv T) → Q (.ref a) H) : GetI (.ref pt) (.str x) H Q := by
  obtain ⟨kvs, h1, h2, h3⟩ := h.ex
  obtain ⟨a, g1, g2⟩ := (h3 x).2 T t
  exact a_dget h1 g1 (k a g2)
theorem TyD.mem (h : TyD K S H pt e) {x : Str} {neg : Bool} {Q : VK} (k : Q (.bl (if neg then !(e x).isSome else (e x).isSome)) H) : MemD neg (.str x) (.ref pt) H Q := by
  obtain ⟨kvs, h1, h2, h3⟩ := h.ex
  refine a_dmem h1 ?_
  have z : (valV kvs (Sum.inr x)).isSome = (e x).isSome := by
    cases q : e x with
    | none => rw [(h3 x).1 q]; rfl
    | some T =>
      obtain ⟨a, g1, _⟩ := (h3 x).2 T q
      rw [g1]
      rfl
  rw [z]
  exact k
theorem putK_le (kvs : Kv) (k : Key) (v : V) : (putK kvs k v).length ≤ kvs.length + 1 := by
  unfold putK
  split
  · rw [List.length_map]
    exact Nat.le_succ _
  · rw [List.length_append]
    exact Nat.le_refl _
def TyN (K : PySem.W.Frag) (S : List Addr) (H : Hp) (pt : Addr) (e : Env) (n : Nat) : Prop := ∃ kvs : Kv, H pt = some (.dK kvs) ∧ kvs.length ≤ n ∧ ∀ x, (e x = none → valV kvs (Sum.inr x) = none) ∧ ∀ T, e x = some T → ∃ a, valV kvs (Sum.inr x) = some (.ref a) ∧ SqT K (dl S H) a (tv T)
theorem TyN.d {n : Nat} (h : TyN K S H pt e n) (l : n ≤ 1000) : TyD K S H pt e := by
  obtain ⟨kvs, h1, h2, h3⟩ := h
  exact ⟨kvs, h1, Nat.le_trans h2 l, h3⟩
theorem TyN.ks {n : Nat} {M : List Addr} (h : TyN K S H pt e n) (k : Ks M H H1) (hm : ∀ a ∈ M, a ∈ S) (hp : pt ∉ M) : TyN K S H1 pt e n := by
  obtain ⟨kvs, h1, h2, h3⟩ := h
  exact ⟨kvs, k _ _ hp h1, h2, fun x => ⟨(h3 x).1, fun T t => by
    obtain ⟨a, g1, g2⟩ := (h3 x).2 T t
    exact ⟨a, g1, ex_st g2 (dl_ks (k.mono hm))⟩⟩⟩
theorem TyN.ex' {n : Nat} (h : TyN K S H pt e n) (x1 : Ex H H1) : TyN K S H1 pt e n := h.ks (M := []) (Ks.of x1) (fun _ z => by cases z) (by simp)
theorem TyN.grow {n : Nat} {p : Addr} (h : TyN K S H pt e n) (q : H p = none) (x1 : Ex H H1) : TyN K (p :: S) H1 pt e n := by
  obtain ⟨kvs, h1, h2, h3⟩ := h
  exact ⟨kvs, x1 _ _ h1, h2, fun x => ⟨(h3 x).1, fun T t => by
    obtain ⟨a, g1, g2⟩ := (h3 x).2 T t
    exact ⟨a, g1, ex_st g2 (dl_new q x1)⟩⟩⟩
theorem TyN.sub {n : Nat} {S' : List Addr} (h : TyN K S H pt e n) (m : ∀ a ∈ S', a ∈ S) : TyN K S' H pt e n := by
  obtain ⟨kvs, h1, h2, h3⟩ := h
  exact ⟨kvs, h1, h2, fun x => ⟨(h3 x).1, fun T t => by
    obtain ⟨a, g1, g2⟩ := (h3 x).2 T t
    exact ⟨a, g1, ex_st g2 (dl_sub m)⟩⟩⟩
/-- types[x] = T -/
theorem TyN.put {n : Nat} (h : TyN K S H pt e n) (hp : pt ∈ S) (hn : n < 1000) {x : Str} {T : List R} {a : Addr} (t : SqT K (dl S H) a (tv T)) {N : Hp → Prop} (k : ∀ H1, Ks [pt] H H1 → TyN K S H1 pt (e.put x T) (n + 1) → N H1) : PutD (.ref pt) (.str x) (.ref a) H N := by
  obtain ⟨kvs, h1, h2, h3⟩ := h
  refine a_putD h1 (by omega) (k _ ((Ks.refl _ _).upd (by simp)) ⟨_, upd_same, Nat.le_trans (putK_le _ _ _) (Nat.succ_le_succ h2), fun y => ?_⟩)
  rw [dl_upd hp, valV_put]
  unfold Env.put
  by_cases c : y = x
  · rw [if_pos c, if_pos (by rw [c])]
    refine ⟨fun z => (by cases z), fun U z => ?_⟩
    cases Option.some.inj z
    exact ⟨a, rfl, t⟩
  · rw [if_neg c, if_neg (fun z => c (Sum.inr.inj z))]
    exact h3 y
/-- {} as a dict of types -/
theorem TyN.new (h : H pt = some (.dK [])) : TyN K S H pt e0 0 := ⟨[], h, Nat.le_refl _, fun x => ⟨fun _ => rfl, fun T z => by cases z⟩⟩
end
/-! ## dict(params) -/
theorem dpa_rs {K : PySem.W.Frag} {H : Hp} : ∀ (T : List R) (zs : List V), DpAll K H zs (T.map fun x => .str x.s) → zs = tv T
  | [], _, h => by
    cases h
    rfl
  | x :: T, _, h => by
    cases h with
    | cons u v =>
      cases dp_str u
      rw [dpa_rs T _ v]
      rfl
theorem dp_ruT {K : PySem.W.Frag} {H : Hp} {v : V} {T : List R} (h : Dp K H v (ru T)) : ∃ a, v = .ref a ∧ SqT K H a (tv T) := by
  obtain ⟨a, zs, rfl, h1, h2⟩ := dp_tup h
  rw [dpa_rs T zs h2] at h1
  exact ⟨a, rfl, h1⟩
theorem dp_pD {K : PySem.W.Frag} {H : Hp} {v : V} {q : Str × List R} (h : Dp K H v (pD q)) : ∃ p a, v = .ref p ∧ SqT K H p [.str q.1, .ref a] ∧ SqT K H a (tv q.2) := by
  obtain ⟨p, ys, rfl, hT, hA⟩ := dp_tup h
  cases hA with
  | cons g1 t =>
    cases t with
    | cons g2 t =>
      cases t
      cases dp_str g1
      obtain ⟨a, rfl, hT2⟩ := dp_ruT g2
      exact ⟨p, a, rfl, hT, hT2⟩
def EnvK (K : PySem.W.Frag) (H : Hp) (kvs : Kv) (e : Env) : Prop := ∀ x, (e x = none → valV kvs (Sum.inr x) = none) ∧ ∀ T, e x = some T → ∃ a, valV kvs (Sum.inr x) = some (.ref a) ∧ SqT K H a (tv T)
theorem EnvK.put {K : PySem.W.Frag} {H : Hp} {kvs : Kv} {e : Env} (h : EnvK K H kvs e) {x : Str} {T : List R} {a : Addr} (t : SqT K H a (tv T)) : EnvK K H (putK kvs (Sum.inr x) (.ref a)) (e.put x T) := fun y => by
  rw [valV_put]
  unfold Env.put
  by_cases c : y = x
  · rw [if_pos c, if_pos (by rw [c])]
    refine ⟨fun z => (by cases z), fun U z => ?_⟩
    cases Option.some.inj z
    exact ⟨a, rfl, t⟩
  · rw [if_neg c, if_neg (fun z => c (Sum.inr.inj z))]
    exact h y
theorem merge_env {K : PySem.W.Frag} {H : Hp} (ps : List (Str × List R)) : ∀ (xs : List V) (kvs : Kv) (e : Env), DpAll K H xs (ps.map pD) → EnvK K H kvs e →
    ∃ (as : List Addr) (more : List (Key × V)), xs = as.map V.ref ∧ Paired (fun p kv => SqT K H p [kV kv.1, kv.2]) as more ∧ more.length = ps.length ∧ EnvK K H (mergeK kvs more) (envP e ps) := by
  induction ps with
  | nil =>
    intro xs kvs e d h
    cases d
    exact ⟨[], [], rfl, .nil, rfl, h⟩
  | cons q ps ih =>
    intro xs kvs e d h
    cases d with
    | cons d t =>
      obtain ⟨p, a, rfl, hT, hT2⟩ := dp_pD d
      obtain ⟨as, more, e1, e2, e3, e4⟩ := ih _ (putK kvs (Sum.inr q.1) (.ref a)) (e.put q.1 q.2) t (h.put hT2)
      exact ⟨p :: as, (Sum.inr q.1, .ref a) :: more, by rw [e1]; rfl, .cons hT e2, by rw [List.length_cons, List.length_cons, e3], e4⟩
theorem merge_len : ∀ (more kvs : Kv), (mergeK kvs more).length ≤ kvs.length + more.length
  | [], kvs => Nat.le_refl _
  | q :: more, kvs => by
    have h1 := merge_len more (putK kvs q.1 q.2)
    have h2 := putK_le kvs q.1 q.2
    show (mergeK (putK kvs q.1 q.2) more).length ≤ _
    rw [List.length_cons]
    omega
theorem a_dict {K : PySem.W.Frag} {H : Hp} {Q : VK} {p : Addr} {xs : List V} {ps : List (Str × List R)} (h : SqL K H p xs) (d : DpAll K H xs (ps.map pD)) (hz : ps.length ≤ 100) (k : ∀ m H1, H m = none → Ex H H1 → TyN K [m] H1 m (envP e0 ps) ps.length → Q (.ref m) H1) : qDict K [.ref p] H Q := by
  obtain ⟨as, more, e1, e2, e3, e4⟩ := merge_env ps xs [] e0 d (fun x => ⟨fun _ => rfl, fun T z => (by cases z)⟩)
  subst e1
  refine ⟨p, as, more, rfl, h, e2, fun m n => k m _ n (Ex.new n) ⟨_, upd_same, ?_, fun x => ⟨(e4 x).1, fun T t => ?_⟩⟩⟩
  · have := merge_len more []
    rw [e3] at this
    simpa using this
  · obtain ⟨a, g1, g2⟩ := (e4 x).2 T t
    have := ex_st g2 (dl_new (S := []) n (Ex.new n (o := .dK (mergeK [] more))) |> fun z => by rw [dl_nil] at z; exact z)
    exact ⟨a, g1, this⟩
end Ver

set_option Elab.async false
set_option linter.all false
set_option maxRecDepth 100000
set_option maxHeartbeats 4000000
namespace Ver
open PySem PySem.Spec PyProof.Rows L2 Evl
/-! ## judging, as the document has it -/
def xD (q : List R × List R) : PyData := .tuple [ru q.1, ru q.2]
def exB (ex : List (List R × List R)) (a b : List R) : Bool := (ex.map xD).any fun z => PyData.eqv z (xD (a, b))
def jPlace (e : Env) (x : Str) (k : Nat) : Option Str := match e x with
  | none => some "unknown name"
  | some T => if T.length ≤ k then some "too many stars" else if (T.take k).all R.hr then none else some "may not read"
def jSeen (e : Env) (x : Str) (k : Nat) : List R := ((e x).getD []).drop k
def jConv (ex : List (List R × List R)) (one two : List R) : Option Str := if one.length ≠ two.length then some "other depth" else if cv one two || exB ex one two then none else some "no conversion"
def hdR : List R → R
  | x :: _ => x
  | [] => .n
def jSrc (e : Env) (ex : List (List R × List R)) (goal : List R) : Src → Option Str
  | .num _ => if goal = [] then none else some "other depth"
  | .null => if goal = [] then some "other depth" else none
  | .adr x k => match jPlace e x k with
    | some f => some f
    | none => jConv ex (jSeen e x k) goal
  | .val x k => match jPlace e x k with
    | some f => some f
    | none => if (hdR (jSeen e x k)).hr then jConv ex ((jSeen e x k).drop 1) goal else some "may not read"
def jCall (e : Env) (ex : List (List R × List R)) : List (Str × List R) → List Src → Option Str
  | q :: ps, s :: ss => match jSrc e ex (q.2.drop 1) s with
    | some f => some f
    | none => jCall e ex ps ss
  | _, _ => none
def prm : List TF → Str → List (Str × List R)
  | [], _ => []
  | g :: gs, f => if g.n = f then g.p else prm gs f
def jStm (fs : List TF) (e : Env) (ex : List (List R × List R)) : Stm → Option Str
  | .lt _ T s => jSrc e ex (T.drop 1) s
  | .put x k s => match jPlace e x k with
    | some f => some f
    | none => if (hdR (jSeen e x k)).hw then jSrc e ex ((jSeen e x k).drop 1) s else some "may not write"
  | .call f ss => jCall e ex (prm fs f) ss
def jBlk (fs : List TF) (ex : List (List R × List R)) : Env → Nat → List Stm → List (Nat × Str)
  | _, _, [] => []
  | e, k, s :: ss => (match jStm fs e ex s with
    | some f => [(k, f)]
    | none => []) ++ jBlk fs ex (envS e s) (k + 1) ss
def jFn (fs : List TF) (ex : List (List R × List R)) (f : TF) : List (Str × Nat × Str) := (jBlk fs ex (envP e0 f.p) 0 f.b).map fun q => (f.n, q)
def jAll (fs : List TF) (ss : List Stm) (ex : List (List R × List R)) : List (Str × Nat × Str) := fs.flatMap (jFn fs ex) ++ (jBlk fs ex e0 0 ss).map fun q => (("" : Str), q)
def ofO : Option Str → V
  | none => .non
  | some f => .str f
def bfD (q : Nat × Str) : PyData := .tuple [.int (q.1 : Nat), .str q.2]
def faD (q : Str × Nat × Str) : PyData := .tuple [.str q.1, .int (q.2.1 : Nat), .str q.2.2]
/-- all that is known are types -/
def EO (e : Env) : Prop := ∀ x T, e x = some T → tyO T
theorem EO.nil : EO e0 := fun _ _ h => by cases h
theorem EO.put {e : Env} (h : EO e) (x : Str) {T : List R} (t : tyO T) : EO (e.put x T) := fun y U z => by
  unfold Env.put at z
  by_cases c : y = x
  · rw [if_pos c] at z
    cases Option.some.inj z
    exact t
  · rw [if_neg c] at z
    exact h y U z
theorem EO.ps : ∀ {ps : List (Str × List R)} {e : Env}, EO e → (∀ q ∈ ps, tyO q.2) → EO (envP e ps)
  | [], e, h, _ => h
  | q :: ps, e, h, t => EO.ps (ps := ps) (h.put q.1 (t q (List.mem_cons_self ..))) fun p hp => t p (List.mem_cons_of_mem _ hp)
theorem EO.st {e : Env} (h : EO e) {s : Stm} (o : stO s) : EO (envS e s) := by
  cases s with
  | lt x T s => exact h.put x o.2.1
  | put x k s => exact h
  | call f ss => exact h
theorem jPlace_none {e : Env} {x : Str} {k : Nat} (h : jPlace e x k = none) : ∃ T, e x = some T ∧ k < T.length ∧ jSeen e x k = T.drop k := by
  unfold jPlace at h
  cases q : e x with
  | none => rw [q] at h; cases h
  | some T =>
    rw [q] at h
    by_cases c : T.length ≤ k
    · simp only [if_pos c] at h
      cases h
    · exact ⟨T, rfl, by omega, by unfold jSeen; rw [q]; rfl⟩
theorem seen_cons {e : Env} {x : Str} {k : Nat} (h : jPlace e x k = none) : ∃ r W, jSeen e x k = r :: W ∧ ∃ T, e x = some T ∧ k < T.length ∧ jSeen e x k = T.drop k := by
  obtain ⟨T, h1, h2, h3⟩ := jPlace_none h
  cases q : T.drop k with
  | nil =>
    have := congrArg List.length q
    rw [List.length_drop] at this
    simp at this
    omega
  | cons r W => exact ⟨r, W, by rw [h3, q], T, h1, h2, h3⟩
theorem seen_len {e : Env} (he : EO e) (x : Str) (k : Nat) : (jSeen e x k).length ≤ 6 := by
  unfold jSeen
  rw [List.length_drop]
  cases q : e x with
  | none => simp
  | some T =>
    have := (he x T q).2
    show T.length - k ≤ 6
    omega
/-! ## extra conversions as data -/
structure XL (K : PySem.W.Frag) (H : Hp) (a : Addr) (ex : List (List R × List R)) : Prop where
  ex : ∃ xs, SqL K H a xs ∧ DpAll K H xs (ex.map xD)
theorem XL.up {K : PySem.W.Frag} {H H1 : Hp} {a : Addr} {ex : List (List R × List R)} (h : XL K H a ex) (e : Ex H H1) : XL K H1 a ex := by
  obtain ⟨xs, h1, h2⟩ := h.ex
  exact ⟨xs, ex_sl h1 e, dpa_ex e h2⟩
theorem shp_tup {ds : List PyData} (h : PyData.canLayAll0 ds = true) (d : PyData.depthAll ds ≤ 40) : SeqAt.shaped (.tuple ds) = true := by
  unfold SeqAt.shaped
  simp only [PyData.canLay0, PyData.depth, Bool.and_eq_true]
  exact ⟨h, decide_eq_true (by omega)⟩
theorem lay_ru (T : List R) : PyData.canLay0 (ru T) = true := by
  show PyData.canLay0 (.tuple (T.map fun x => .str x.s)) = true
  simp only [PyData.canLay0]
  exact lay_rs T
theorem dep_ru (T : List R) : PyData.depth (ru T) ≤ 2 := by
  show PyData.depth (.tuple (T.map fun x => .str x.s)) ≤ 2
  simp only [PyData.depth]
  have := depth_rs T
  omega
theorem lay_xD (q : List R × List R) : PyData.canLay0 (xD q) = true := by
  unfold xD
  simp only [PyData.canLay0, PyData.canLayAll0, Bool.and_eq_true]
  exact ⟨lay_ru _, lay_ru _, trivial⟩
theorem dep_xD (q : List R × List R) : PyData.depth (xD q) ≤ 3 := by
  unfold xD
  have h1 := dep_ru q.1
  have h2 := dep_ru q.2
  simp only [PyData.depth, PyData.depthAll]
  omega
theorem shp_xD (q : List R × List R) : SeqAt.shaped (xD q) = true := by
  have := dep_xD q
  unfold SeqAt.shaped
  rw [Bool.and_eq_true]
  exact ⟨lay_xD q, decide_eq_true (by omega)⟩
theorem shp_ex (ex : List (List R × List R)) : SeqAt.shaped (.list (ex.map xD)) = true := by
  have h : PyData.canLayAll0 (ex.map xD) = true ∧ PyData.depthAll (ex.map xD) ≤ 3 := by
    induction ex with
    | nil => simp [PyData.canLayAll0, PyData.depthAll]
    | cons q ex ih =>
      have := dep_xD q
      rw [List.map_cons]
      simp only [PyData.canLayAll0, PyData.depthAll, Bool.and_eq_true]
      exact ⟨⟨lay_xD q, ih.1⟩, by omega⟩
  unfold SeqAt.shaped
  simp only [PyData.canLay0, PyData.depth, Bool.and_eq_true]
  exact ⟨h.1, decide_eq_true (by omega)⟩
/-- (one, two) in extra -/
theorem a_inX {K : PySem.W.Frag} {H : Hp} {Q : VK} {t a x y : Addr} {one two : List R} {ex : List (List R × List R)} (ht : H t = some (.tup [.ref x, .ref y])) (hx : SqT K H x (tv one)) (hy : SqT K H y (tv two)) (h : XL K H a ex) (k : Q (.bl (exB ex one two)) H) : rInD K (.ref t) (.ref a) H Q := by
  obtain ⟨xs, h1, h2⟩ := h.ex
  exact ⟨xD (one, two), ex.map xD, .tup (SqT.of ht) (.cons (dp_ru hx) (.cons (dp_ru hy) .nil)), .lst h1 h2, shp_xD _, shp_ex ex, k⟩
theorem a_ninX {K : PySem.W.Frag} {H : Hp} {Q : VK} {t a x y : Addr} {one two : List R} {ex : List (List R × List R)} (ht : H t = some (.tup [.ref x, .ref y])) (hx : SqT K H x (tv one)) (hy : SqT K H y (tv two)) (h : XL K H a ex) (k : Q (.bl (!exB ex one two)) H) : rNotInD K (.ref t) (.ref a) H Q := by
  obtain ⟨xs, h1, h2⟩ := h.ex
  exact ⟨xD (one, two), ex.map xD, .tup (SqT.of ht) (.cons (dp_ru hx) (.cons (dp_ru hy) .nil)), .lst h1 h2, shp_xD _, shp_ex ex, k⟩
/-- a place, a source, a statement as objects -/
theorem dp_pl {K : PySem.W.Frag} {H : Hp} {v : V} {x : Str} {k : Nat} (h : Dp K H v (plD x k)) : ∃ p, v = .ref p ∧ SqT K H p [.str x, .int (k : Int)] := by
  obtain ⟨p, ys, rfl, hT, hA⟩ := dp_tup h
  cases hA with
  | cons g1 t =>
    cases t with
    | cons g2 t =>
      cases t
      cases dp_str g1
      cases dp_int g2
      exact ⟨p, rfl, hT⟩
theorem dp_two {K : PySem.W.Frag} {H : Hp} {v : V} {a b : PyData} (h : Dp K H v (.tuple [a, b])) : ∃ p u w, v = .ref p ∧ SqT K H p [u, w] ∧ Dp K H u a ∧ Dp K H w b := by
  obtain ⟨p, ys, rfl, hT, hA⟩ := dp_tup h
  cases hA with
  | cons g1 t =>
    cases t with
    | cons g2 t =>
      cases t
      exact ⟨p, _, _, rfl, hT, g1, g2⟩
theorem dp_thr {K : PySem.W.Frag} {H : Hp} {v : V} {a b c : PyData} (h : Dp K H v (.tuple [a, b, c])) : ∃ p u w z, v = .ref p ∧ SqT K H p [u, w, z] ∧ Dp K H u a ∧ Dp K H w b ∧ Dp K H z c := by
  obtain ⟨p, ys, rfl, hT, hA⟩ := dp_tup h
  cases hA with
  | cons g1 t =>
    cases t with
    | cons g2 t =>
      cases t with
      | cons g3 t =>
        cases t
        exact ⟨p, _, _, _, rfl, hT, g1, g2, g3⟩
theorem dp_fou {K : PySem.W.Frag} {H : Hp} {v : V} {a b c d : PyData} (h : Dp K H v (.tuple [a, b, c, d])) : ∃ p u w z y, v = .ref p ∧ SqT K H p [u, w, z, y] ∧ Dp K H u a ∧ Dp K H w b ∧ Dp K H z c ∧ Dp K H y d := by
  obtain ⟨p, ys, rfl, hT, hA⟩ := dp_tup h
  cases hA with
  | cons g1 t =>
    cases t with
    | cons g2 t =>
      cases t with
      | cons g3 t =>
        cases t with
        | cons g4 t =>
          cases t
          exact ⟨p, _, _, _, _, rfl, hT, g1, g2, g3, g4⟩
theorem dp_1 {K : PySem.W.Frag} {H : Hp} {v : V} {a : PyData} (h : Dp K H v (.tuple [a])) : ∃ p u, v = .ref p ∧ SqT K H p [u] ∧ Dp K H u a := by
  obtain ⟨p, ys, rfl, hT, hA⟩ := dp_tup h
  cases hA with
  | cons g1 t =>
    cases t
    exact ⟨p, _, rfl, hT, g1⟩
/-- is not None -/
theorem a_notO {H : Hp} {Q : VK} {o : Option Str} (k : Q (.bl o.isSome) H) : qNotN (ofO o) .non H Q := ⟨rfl, by cases o <;> exact k⟩
/-- the promises -/
def pPlF (K : PySem.W.Frag) : Sp := fun vs H Q _ => ∃ S pt v e x k, vs = [.ref pt, v] ∧ TyD K S H pt e ∧ EO e ∧ Dp K H v (plD x k) ∧ RV1 (ofO (jPlace e x k)) H Q
def pSeen (K : PySem.W.Frag) : Sp := fun vs H Q _ => ∃ S pt v e x k T, vs = [.ref pt, v] ∧ TyD K S H pt e ∧ Dp K H v (plD x k) ∧ e x = some T ∧ ∀ a H1, Ex H H1 → SqT K H1 a (tv (T.drop k)) → Q (.ref a) H1
def pCnv (K : PySem.W.Frag) : Sp := fun vs H Q _ => ∃ a b c one two ex, vs = [.ref a, .ref b, .ref c] ∧ SqT K H a (tv one) ∧ SqT K H b (tv two) ∧ one.length ≤ 6 ∧ XL K H c ex ∧ RV1 (ofO (jConv ex one two)) H Q
def pSrc (K : PySem.W.Frag) : Sp := fun vs H Q _ => ∃ S pt v g c e s goal ex, vs = [.ref pt, v, .ref g, .ref c] ∧ TyD K S H pt e ∧ EO e ∧ Dp K H v (sD s) ∧ SqT K H g (tv goal) ∧ XL K H c ex ∧ RV1 (ofO (jSrc e ex goal s)) H Q
theorem new_dl {H H1 : Hp} {m : Addr} (n : H m = none) (e : Ex H H1) : Ex H (dl [m] H1) := fun a o q => by
  have k : a ≠ m := ne_of_none q n
  rw [dl_nin (by simpa using k)]
  exact e a o q
/-- functions by their names -/
structure FnD (K : PySem.W.Frag) (C : Addr) (H : Hp) (pd : Addr) (fs : List TF) : Prop where
  ex : ∃ kvs : Kv, H pd = some (.dK kvs) ∧ ∀ g ∈ fs, ∃ a, valV kvs (Sum.inr g.n) = some (.ref a) ∧ FnAt K C H a g.fd
theorem FnD.up {K : PySem.W.Frag} {C : Addr} {H H1 : Hp} {pd : Addr} {fs : List TF} (h : FnD K C H pd fs) (e : Ex H H1) : FnD K C H1 pd fs := by
  obtain ⟨kvs, h1, h2⟩ := h.ex
  exact ⟨kvs, e _ _ h1, fun g hg => by
    obtain ⟨a, g1, g2⟩ := h2 g hg
    exact ⟨a, g1, g2.up e⟩⟩
theorem prm_eq : ∀ {fs : List TF} {g : TF}, (fs.map TF.n).Nodup → g ∈ fs → prm fs g.n = g.p
  | f :: fs, g, nd, hg => by
    rw [List.map_cons, List.nodup_cons] at nd
    unfold prm
    rcases List.mem_cons.mp hg with rfl | hg
    · rw [if_pos rfl]
    · rw [if_neg (fun z => nd.1 (by rw [z]; exact List.mem_map_of_mem hg))]
      exact prm_eq nd.2 hg
def pPut (K : PySem.W.Frag) : Sp := fun vs H Q _ => ∃ S pt v u c e x k s ex, vs = [.ref pt, v, u, .ref c] ∧ TyD K S H pt e ∧ EO e ∧ Dp K H v (plD x k) ∧ Dp K H u (sD s) ∧ XL K H c ex ∧ RV1 (ofO (jStm [] e ex (.put x k s))) H Q
def pCall (K : PySem.W.Frag) : Sp := fun vs H Q _ => ∃ S pt pp pq c e xs ys ps ss ex, vs = [.ref pt, .ref pp, .ref pq, .ref c] ∧ TyD K S H pt e ∧ EO e ∧ SqL K H pp xs ∧ DpAll K H xs (List.map pD ps) ∧ SqL K H pq ys ∧ DpAll K H ys (List.map sD ss) ∧ ps.length = ss.length ∧ XL K H c ex ∧ RV1 (ofO (jCall e ex ps ss)) H Q
def pStF (K : PySem.W.Frag) (C : Addr) : Sp := fun vs H Q _ => ∃ S pd pt v c e s fs ex, vs = [.ref pd, .ref pt, v, .ref c] ∧ FnD K C H pd fs ∧ (fs.map TF.n).Nodup ∧ cf fs s ∧ TyD K S H pt e ∧ EO e ∧ Dp K H v (stD s) ∧ XL K H c ex ∧ RV1 (ofO (jStm fs e ex s)) H Q
def pBlk (K : PySem.W.Frag) (C : Addr) : Sp := fun vs H Q _ => ∃ pd pp pq c xs ys ps b fs ex, vs = [.ref pd, .ref pp, .ref pq, .ref c] ∧ FnD K C H pd fs ∧ (fs.map TF.n).Nodup ∧ (∀ s ∈ b, cf fs s ∧ stO s) ∧ b.length ≤ 100 ∧ SqL K H pp xs ∧ DpAll K H xs (List.map pD ps) ∧ ps.length ≤ 100 ∧ (∀ q ∈ ps, tyO q.2) ∧ SqL K H pq ys ∧ DpAll K H ys (b.map stD) ∧ XL K H c ex ∧
  ∀ l vs H1, H l = none → Ex H H1 → H1 l = some (.lst vs) → DpAll K H1 vs ((jBlk fs ex (envP e0 ps) 0 b).map bfD) → Q (.ref l) H1
theorem jBlk_len (fs : List TF) (ex : List (List R × List R)) : ∀ (b : List Stm) (e : Env) (k : Nat), (jBlk fs ex e k b).length ≤ b.length
  | [], _, _ => Nat.le_refl _
  | s :: b, e, k => by
    have ih := jBlk_len fs ex b (envS e s) (k + 1)
    unfold jBlk
    rw [List.length_append, List.length_cons]
    cases jStm fs e ex s <;> simp <;> omega
/-- a program as an object -/
structure PgAt (K : PySem.W.Frag) (CP CF : Addr) (H : Hp) (z : Addr) (fs : List TF) (ss : List Stm) : Prop where
  ex : ∃ dz r1 r2 ws1 ws2, H z = some (.ins CP dz (pgF r1 r2)) ∧ H r1 = some (.lst ws1) ∧ FnAll K CF H ws1 (fs.map TF.fd) ∧ H r2 = some (.lst ws2) ∧ DpAll K H ws2 (ss.map stD)
theorem PgAt.up {K : PySem.W.Frag} {CP CF : Addr} {H H1 : Hp} {z : Addr} {fs : List TF} {ss : List Stm} (h : PgAt K CP CF H z fs ss) (e : Ex H H1) : PgAt K CP CF H1 z fs ss := by
  obtain ⟨dz, r1, r2, ws1, ws2, h1, h2, h3, h4, h5⟩ := h.ex
  exact ⟨dz, r1, r2, ws1, ws2, e _ _ h1, e _ _ h2, h3.up e, e _ _ h4, dpa_ex e h5⟩
def allCf (fs : List TF) (ss : List Stm) : Prop := (∀ f ∈ fs, ∀ s ∈ f.b, cf fs s) ∧ ∀ s ∈ ss, cf fs s
theorem cf_mono {d fs : List TF} {s : Stm} (h : cf d s) (m : ∀ g ∈ d, g ∈ fs) : cf fs s := by
  cases s with
  | lt x T s => trivial
  | put x k s => trivial
  | call f ss =>
    obtain ⟨g, h1, h2⟩ := h
    exact ⟨g, m g h1, h2⟩
theorem Fit.all : ∀ {r d : List TF} {ss : List Stm}, Fit d r ss → (∀ f ∈ r, ∀ s ∈ f.b, cf (d ++ r) s) ∧ ∀ s ∈ ss, cf (d ++ r) s
  | [], d, ss, h => ⟨fun f hf => (by cases hf), fun s hs => cf_mono (h s hs) fun g hg => List.mem_append_left _ hg⟩
  | f :: r, d, ss, h => by
    have ih := Fit.all h.2
    rw [List.append_assoc] at ih
    refine ⟨fun g hg s hs => ?_, ih.2⟩
    rcases List.mem_cons.mp hg with rfl | hg
    · exact cf_mono (h.1 s hs) fun g hg => List.mem_append_left _ hg
    · exact ih.1 g hg s hs
def pFa (K : PySem.W.Frag) (CP CF : Addr) : Sp := fun vs H Q _ => ∃ z c fs ss ex, vs = [.ref z, .ref c] ∧ PgAt K CP CF H z fs ss ∧ POk fs ss ∧ XL K H c ex ∧
  ∀ l vs H1, H l = none → Ex H H1 → H1 l = some (.lst vs) → DpAll K H1 vs ((jAll fs ss ex).map faD) → Q (.ref l) H1
def pLet1 (K : PySem.W.Frag) (CP CF : Addr) : Sp := fun vs H Q _ => ∃ z c fs ss ex, vs = [.ref z, .ref c] ∧ PgAt K CP CF H z fs ss ∧ POk fs ss ∧ XL K H c ex ∧ RV1 (.bl (decide ((jAll fs ss ex).length = 0))) H Q
def pByN (K : PySem.W.Frag) (C : Addr) : Sp := fun vs H Q _ => ∃ p xs fs, vs = [.ref p] ∧ SqL K H p xs ∧ FnAll K C H xs (List.map TF.fd fs) ∧ (fs.map TF.n).Nodup ∧ fs.length ≤ 100 ∧ ∀ m H1, H m = none → Ex H H1 → FnD K C H1 m fs → Q (.ref m) H1
mutual
def ntD : PyData → Bool
  | .list _ => false
  | .tuple ds => ntA ds
  | _ => true
def ntA : List PyData → Bool
  | [] => true
  | d :: ds => ntD d && ntA ds
end
/-- all that is no list is kept -/
def Kt (H H' : Hp) : Prop := ∀ a o, H a = some o → (∀ xs, o ≠ .lst xs) → H' a = some o
theorem Kt.ex {H H' : Hp} (e : Ex H H') : Kt H H' := fun a o h _ => e a o h
theorem Kt.trans {H H1 H2 : Hp} (a : Kt H H1) (b : Kt H1 H2) : Kt H H2 := fun x o h n => b x o (a x o h n) n
theorem Kt.mut {H : Hp} {p : Addr} {xs : List V} {o : HO} (f : H p = some (.lst xs)) : Kt H (upd H p o) := fun a u h n => by
  rw [upd_ne (fun z => by rw [z, f] at h; exact n xs (Option.some.inj h).symm)]
  exact h
theorem Kt.dl {H : Hp} {p : Addr} {xs : List V} (f : H p = some (.lst xs)) : Kt H (dl [p] H) := fun a u h n => by
  rw [dl_nin (by
    rw [List.mem_singleton]
    exact fun z => by rw [z, f] at h; exact n xs (Option.some.inj h).symm)]
  exact h
section
variable {K : PySem.W.Frag}
theorem st_kt {H H' : Hp} {a : Addr} {xs : List V} (k : Kt H H') (f : SqT K H a xs) : SqT K H' a xs := by
  rcases f with (f | ⟨o, f⟩) | f
  · exact .inl (.inl (k _ _ f (fun _ z => by cases z)))
  · exact .inl (.inr ⟨o, k _ _ f (fun _ z => by cases z)⟩)
  · exact .inr f
mutual
theorem dp_kt {H H' : Hp} (k : Kt H H') : ∀ {v : V} {d : PyData}, Dp K H v d → ntD d = true → Dp K H' v d
  | _, _, .non, _ => .non
  | _, _, .bl x, _ => .bl x
  | _, _, .int i, _ => .int i
  | _, _, .str x, _ => .str x
  | _, _, .lst h t, n => by cases n
  | _, _, .tup h t, n => .tup (st_kt k h) (dpa_kt k t n)
theorem dpa_kt {H H' : Hp} (k : Kt H H') : ∀ {xs : List V} {ds : List PyData}, DpAll K H xs ds → ntA ds = true → DpAll K H' xs ds
  | _, _, .nil, _ => .nil
  | _, _, .cons h t, n => by
    have n' := (Bool.and_eq_true _ _ ▸ n : _ ∧ _)
    exact .cons (dp_kt k h n'.1) (dpa_kt k t n'.2)
end
theorem nt_map {α : Type} {f : α → PyData} (h : ∀ x, ntD (f x) = true) : ∀ xs : List α, ntA (xs.map f) = true
  | [] => rfl
  | x :: xs => and_t (h x) (nt_map h xs)
theorem bf_dl {H : Hp} {l : Addr} {xs vs : List V} {qs : List (Nat × Str)} (f : H l = some (.lst xs)) (d : DpAll K H vs (qs.map bfD)) : DpAll K (dl [l] H) vs (qs.map bfD) :=
  dpa_kt (Kt.dl f) d (nt_map (fun _ => rfl) qs)
end
def o1 (k : Nat) : Option Str → List (Nat × Str)
  | some f => [(k, f)]
  | none => []
theorem jBlk_at' (fs : List TF) (ex : List (List R × List R)) (e : Env) (k : Nat) (s : Stm) (b : List Stm) : jBlk fs ex e k (s :: b) = o1 k (jStm fs e ex s) ++ jBlk fs ex (envS e s) (k + 1) b := by
  rw [jBlk]
  cases jStm fs e ex s <;> rfl
theorem TyN.mono {K : PySem.W.Frag} {S : List Addr} {H : Hp} {pt : Addr} {e : Env} {n n' : Nat} (h : TyN K S H pt e n) (l : n ≤ n') : TyN K S H pt e n' := by
  obtain ⟨kvs, h1, h2, h3⟩ := h
  exact ⟨kvs, h1, Nat.le_trans h2 l, h3⟩
theorem dp_l3 {K : PySem.W.Frag} {H : Hp} {v : V} {a b c : PyData} (h : Dp K H v (.list [a, b, c])) : ∃ p u w z, v = .ref p ∧ SqL K H p [u, w, z] ∧ Dp K H u a ∧ Dp K H w b ∧ Dp K H z c := by
  obtain ⟨p, ys, rfl, hT, hA⟩ := dp_lst h
  cases hA with
  | cons g1 t =>
    cases t with
    | cons g2 t =>
      cases t with
      | cons g3 t =>
        cases t
        exact ⟨p, _, _, _, rfl, hT, g1, g2, g3⟩
theorem dp_l2 {K : PySem.W.Frag} {H : Hp} {v : V} {a b : PyData} (h : Dp K H v (.list [a, b])) : ∃ p u w, v = .ref p ∧ SqL K H p [u, w] ∧ Dp K H u a ∧ Dp K H w b := by
  obtain ⟨p, ys, rfl, hT, hA⟩ := dp_lst h
  cases hA with
  | cons g1 t =>
    cases t with
    | cons g2 t =>
      cases t
      exact ⟨p, _, _, rfl, hT, g1, g2⟩
end Ver

set_option Elab.async false
set_option linter.all false
set_option maxRecDepth 100000
set_option maxHeartbeats 4000000
namespace Ver
open PySem PySem.Spec PyProof.Rows L2 Evl
/-! ## running, as the document has it -/
inductive Vl | num (n : Int) | th (n : Nat) | nul
structure Thg where
  x : Str
  T : List R
  v : Vl
structure RS where
  th : List Thg
  br : List (Bool × Nat)
  n : Nat
abbrev Sc := Str → Option Nat
def sc0 : Sc := fun _ => none
def Sc.put (c : Sc) (x : Str) (n : Nat) : Sc := fun y => if y = x then some n else c y
abbrev Brs := List (Bool × Nat)
def rdB (t : Thg) (n : Nat) : Brs := if (hdR t.T).hr then [] else [(true, n)]
def wrB (t : Thg) (n : Nat) : Brs := if (hdR t.T).hw then [] else [(false, n)]
def fol (ths : List Thg) : Nat → Nat → Brs × Option Nat
  | 0, n => ([], some n)
  | k + 1, n => match ths[n]? with
    | none => ([], none)
    | some t => match t.v with
      | .th m => (rdB t n ++ (fol ths k m).1, (fol ths k m).2)
      | _ => (rdB t n, none)
def folX (ths : List Thg) (sc : Sc) (x : Str) (k : Nat) : Brs × Option Nat := match sc x with
  | none => ([], none)
  | some n => fol ths k n
def rdV (ths : List Thg) : Brs × Option Nat → Brs × Option Vl
  | (b, none) => (b, none)
  | (b, some m) => match ths[m]? with
    | none => (b, none)
    | some t => (b ++ rdB t m, some t.v)
def gv (ths : List Thg) (sc : Sc) : Src → Brs × Option Vl
  | .num n => ([], some (.num n))
  | .null => ([], some .nul)
  | .adr x k => ((folX ths sc x k).1, (folX ths sc x k).2.map Vl.th)
  | .val x k => rdV ths (folX ths sc x k)
def gvs (ths : List Thg) (sc : Sc) : List Src → Brs × Option (List Vl)
  | [] => ([], some [])
  | s :: ss => match gv ths sc s with
    | (b, none) => (b, none)
    | (b, some v) => (b ++ (gvs ths sc ss).1, (gvs ths sc ss).2.map (v :: ·))
def bindP (ths : List Thg) (sc : Sc) : List (Str × List R) → List Vl → List Thg × Sc
  | q :: ps, v :: vs => bindP (ths ++ [⟨q.1, q.2, v⟩]) (sc.put q.1 ths.length) ps vs
  | _, _ => (ths, sc)
inductive Out | go | stop | long
  deriving DecidableEq
abbrev CL := Str → List Vl → RS → Out × RS
def putT (s : RS) (sc : Sc) (b b2 : Brs) (m : Nat) (v : Vl) : Out × RS × Sc := match s.th[m]? with
  | none => (.stop, ⟨s.th, s.br ++ b ++ b2, s.n + 1⟩, sc)
  | some t => (.go, ⟨s.th.set m ⟨t.x, t.T, v⟩, s.br ++ b ++ b2 ++ wrB t m, s.n + 1⟩, sc)
def ex1 (lim : Bool) (cl : CL) (sc : Sc) (s : RS) (st : Stm) : Out × RS × Sc :=
  if lim = true ∧ 1000 ≤ s.n then (.long, ⟨s.th, s.br, s.n + 1⟩, sc) else
  match st with
  | .lt x T src => match gv s.th sc src with
    | (b, none) => (.stop, ⟨s.th, s.br ++ b, s.n + 1⟩, sc)
    | (b, some v) => (.go, ⟨s.th ++ [⟨x, T, v⟩], s.br ++ b, s.n + 1⟩, sc.put x s.th.length)
  | .put x k src => match folX s.th sc x k with
    | (b, none) => (.stop, ⟨s.th, s.br ++ b, s.n + 1⟩, sc)
    | (b, some m) => match gv s.th sc src with
      | (b2, none) => (.stop, ⟨s.th, s.br ++ b ++ b2, s.n + 1⟩, sc)
      | (b2, some v) => putT s sc b b2 m v
  | .call f ss => match gvs s.th sc ss with
    | (b, none) => (.stop, ⟨s.th, s.br ++ b, s.n + 1⟩, sc)
    | (b, some vs) => ((cl f vs ⟨s.th, s.br ++ b, s.n + 1⟩).1, (cl f vs ⟨s.th, s.br ++ b, s.n + 1⟩).2, sc)
def exs (lim : Bool) (cl : CL) : Sc → RS → List Stm → Out × RS × Sc
  | sc, s, [] => (.go, s, sc)
  | sc, s, st :: r => match ex1 lim cl sc s st with
    | (.go, s', sc') => exs lim cl sc' s' r
    | (.stop, s', sc') => (.stop, s', sc')
    | (.long, s', sc') => (.long, s', sc')
/-- functions: the last one first -/
def callF (lim : Bool) : List TF → CL
  | [], _, _, s => (.go, s)
  | g :: r, f, vs, s => if g.n = f then
      ((exs lim (callF lim r) (bindP s.th sc0 g.p vs).2 ⟨(bindP s.th sc0 g.p vs).1, s.br, s.n⟩ g.b).1, (exs lim (callF lim r) (bindP s.th sc0 g.p vs).2 ⟨(bindP s.th sc0 g.p vs).1, s.br, s.n⟩ g.b).2.1)
    else callF lim r f vs s
def s0 : RS := ⟨[], [], 0⟩
def runP (lim : Bool) (fs : List TF) (ss : List Stm) : Out × RS × Sc := exs lim (callF lim fs.reverse) sc0 s0 ss
/-! ## shape -/
def VSh (ths : List Thg) (l : Nat) : Vl → Prop
  | .num _ => l = 0
  | .nul => l ≠ 0
  | .th m => l ≠ 0 ∧ ∃ t : Thg, ths[m]? = some t ∧ t.T.length = l
def ThSh (ths : List Thg) : Prop := ∀ t ∈ ths, 1 ≤ t.T.length ∧ VSh ths (t.T.length - 1) t.v
def ScSh (ths : List Thg) (sc : Sc) (e : Env) : Prop := ∀ x T, e x = some T → ∃ (n : Nat) (t : Thg), sc x = some n ∧ ths[n]? = some t ∧ t.T = T
/-- the same things, other values, and more -/
def Gr (a b : List Thg) : Prop := ∀ (i : Nat) (t : Thg), a[i]? = some t → ∃ t' : Thg, b[i]? = some t' ∧ t'.T = t.T
theorem Gr.refl (a : List Thg) : Gr a a := fun _ t h => ⟨t, h, rfl⟩
theorem Gr.trans {a b c : List Thg} (h : Gr a b) (k : Gr b c) : Gr a c := fun i t e => by
  obtain ⟨t1, e1, q1⟩ := h i t e
  obtain ⟨t2, e2, q2⟩ := k i t1 e1
  exact ⟨t2, e2, q2.trans q1⟩
theorem Gr.app (a b : List Thg) : Gr a (a ++ b) := fun i t h => ⟨t, by rw [List.getElem?_append_left (at_lt h)]; exact h, rfl⟩
theorem Gr.set (a : List Thg) (m : Nat) {t : Thg} (h : a[m]? = some t) (v : Vl) : Gr a (a.set m ⟨t.x, t.T, v⟩) := fun i u e => by
  by_cases c : m = i
  · subst c
    rw [h] at e
    cases e
    exact ⟨_, List.getElem?_set_self (at_lt h), rfl⟩
  · exact ⟨u, by rw [List.getElem?_set_ne c]; exact e, rfl⟩
theorem VSh.gr {a b : List Thg} {l : Nat} {v : Vl} (h : VSh a l v) (g : Gr a b) : VSh b l v := by
  cases v with
  | num n => exact h
  | nul => exact h
  | th m =>
    obtain ⟨h0, t, h1, h2⟩ := h
    obtain ⟨t', e, q⟩ := g m t h1
    exact ⟨h0, t', e, by rw [q]; exact h2⟩
theorem ScSh.gr {a b : List Thg} {sc : Sc} {e : Env} (h : ScSh a sc e) (g : Gr a b) : ScSh b sc e := fun x T z => by
  obtain ⟨n, t, h1, h2, h3⟩ := h x T z
  obtain ⟨t', q1, q2⟩ := g n t h2
  exact ⟨n, t', h1, q1, q2.trans h3⟩
theorem ScSh.nil (ths : List Thg) (sc : Sc) : ScSh ths sc e0 := fun _ _ z => by cases z
theorem ScSh.put {ths : List Thg} {sc : Sc} {e : Env} (h : ScSh ths sc e) {x : Str} {T : List R} {n : Nat} {t : Thg} (k : ths[n]? = some t) (q : t.T = T) : ScSh ths (sc.put x n) (e.put x T) := fun y U z => by
  unfold Env.put at z
  unfold Sc.put
  by_cases c : y = x
  · rw [if_pos c] at z ⊢
    cases z
    exact ⟨n, t, rfl, k, q⟩
  · rw [if_neg c] at z ⊢
    exact h y U z
theorem ThSh.add {ths : List Thg} (h : ThSh ths) {x : Str} {T : List R} {v : Vl} (l : 1 ≤ T.length) (k : VSh ths (T.length - 1) v) : ThSh (ths ++ [⟨x, T, v⟩]) := fun t ht => by
  rcases List.mem_append.mp ht with ht | ht
  · exact ⟨(h t ht).1, (h t ht).2.gr (Gr.app _ _)⟩
  · cases List.mem_singleton.mp ht
    exact ⟨l, k.gr (Gr.app _ _)⟩
theorem ThSh.set {ths : List Thg} (h : ThSh ths) {m : Nat} {t : Thg} (e : ths[m]? = some t) {v : Vl} (k : VSh ths (t.T.length - 1) v) : ThSh (ths.set m ⟨t.x, t.T, v⟩) := fun u hu => by
  have g := Gr.set ths m e v
  obtain ⟨i, hi⟩ := List.getElem?_of_mem hu
  by_cases c : m = i
  · subst c
    rw [List.getElem?_set_self (at_lt e)] at hi
    cases hi
    exact ⟨(h t (List.mem_of_getElem? e)).1, k.gr g⟩
  · rw [List.getElem?_set_ne c] at hi
    have hm := List.mem_of_getElem? hi
    exact ⟨(h u hm).1, (h u hm).2.gr g⟩
/-- one step of an address: what is held there is an address or null -/
theorem sh_step {ths : List Thg} (h : ThSh ths) {n : Nat} {t : Thg} (e : ths[n]? = some t) (l : 1 < t.T.length) : t.v = .nul ∨ ∃ m u, t.v = .th m ∧ ths[m]? = some u ∧ u.T.length = t.T.length - 1 := by
  have q := (h t (List.mem_of_getElem? e)).2
  cases z : t.v with
  | num n =>
    rw [z] at q
    have q' : t.T.length - 1 = 0 := q
    omega
  | nul => exact .inl rfl
  | th m =>
    rw [z] at q
    obtain ⟨_, u, h1, h2⟩ := q
    exact .inr ⟨m, u, rfl, h1, h2⟩
theorem fol_sh {ths : List Thg} (h : ThSh ths) : ∀ (k n : Nat) (t : Thg), ths[n]? = some t → k < t.T.length → ∀ m, (fol ths k n).2 = some m → ∃ u, ths[m]? = some u ∧ u.T.length = t.T.length - k
  | 0, n, t, e, l, m, q => by
    cases q
    exact ⟨t, e, rfl⟩
  | k + 1, n, t, e, l, m, q => by
    unfold fol at q
    rw [e] at q
    rcases sh_step h e (by omega) with z | ⟨j, u, z, e2, l2⟩
    · simp only [z] at q
      cases q
    · simp only [z] at q
      obtain ⟨w, h1, h2⟩ := fol_sh h k j u e2 (by omega) m q
      exact ⟨w, h1, by omega⟩
def shSrc (e : Env) (l : Nat) : Src → Prop
  | .num _ => l = 0
  | .null => l ≠ 0
  | .adr x k => ∃ T, e x = some T ∧ k < T.length ∧ T.length - k = l
  | .val x k => ∃ T, e x = some T ∧ k < T.length ∧ T.length - k - 1 = l
theorem folX_sh {ths : List Thg} (h : ThSh ths) {sc : Sc} {e : Env} (c : ScSh ths sc e) {x : Str} {T : List R} (t : e x = some T) {k : Nat} (l : k < T.length) {m : Nat} (q : (folX ths sc x k).2 = some m) : ∃ u, ths[m]? = some u ∧ u.T.length = T.length - k := by
  obtain ⟨n, w, h1, h2, h3⟩ := c x T t
  unfold folX at q
  rw [h1] at q
  obtain ⟨u, e1, e2⟩ := fol_sh h k n w h2 (by rw [h3]; exact l) m q
  exact ⟨u, e1, by rw [e2, h3]⟩
theorem gv_sh {ths : List Thg} (h : ThSh ths) {sc : Sc} {e : Env} (c : ScSh ths sc e) {l : Nat} : ∀ {s : Src}, shSrc e l s → ∀ v, (gv ths sc s).2 = some v → VSh ths l v
  | .num n, k, v, q => by cases q; exact k
  | .null, k, v, q => by cases q; exact k
  | .adr x k, ⟨T, t, lt, eq⟩, v, q => by
    have q : (folX ths sc x k).2.map Vl.th = some v := q
    cases z : (folX ths sc x k).2 with
    | none => rw [z] at q; cases q
    | some m =>
      rw [z] at q
      cases q
      obtain ⟨u, e1, e2⟩ := folX_sh h c t lt z
      exact ⟨by omega, u, e1, by omega⟩
  | .val x k, ⟨T, t, lt, eq⟩, v, q => by
    have q : (rdV ths (folX ths sc x k)).2 = some v := q
    cases z : folX ths sc x k with
    | mk b o =>
    rw [z] at q
    cases o with
    | none => cases q
    | some m =>
      obtain ⟨u, e1, e2⟩ := folX_sh h c t lt (by rw [z])
      simp only [rdV, e1] at q
      cases q
      have := (h u (List.mem_of_getElem? e1)).2
      rw [show u.T.length - 1 = l by omega] at this
      exact this
def shSrcs (e : Env) : List (Str × List R) → List Src → Prop
  | q :: ps, s :: ss => shSrc e (q.2.length - 1) s ∧ shSrcs e ps ss
  | [], [] => True
  | _, _ => False
def VShs (ths : List Thg) : List (Str × List R) → List Vl → Prop
  | q :: ps, v :: vs => VSh ths (q.2.length - 1) v ∧ VShs ths ps vs
  | [], [] => True
  | _, _ => False
theorem gvs_sh {ths : List Thg} (h : ThSh ths) {sc : Sc} {e : Env} (c : ScSh ths sc e) : ∀ {ps : List (Str × List R)} {ss : List Src}, shSrcs e ps ss → ∀ vs, (gvs ths sc ss).2 = some vs → VShs ths ps vs
  | [], [], _, vs, q => by cases q; trivial
  | [], _ :: _, k, _, _ => k.elim
  | _ :: _, [], k, _, _ => k.elim
  | p :: ps, s :: ss, k, vs, q => by
    unfold gvs at q
    have g := gv_sh h c k.1
    cases z : gv ths sc s with
    | mk b o =>
    rw [z] at q g
    cases o with
    | none => cases q
    | some v =>
      simp only at q
      cases z2 : (gvs ths sc ss).2 with
      | none => rw [z2] at q; cases q
      | some us =>
        rw [z2] at q
        cases q
        exact ⟨g v rfl, gvs_sh h c k.2 us z2⟩
theorem VShs.gr {a b : List Thg} (g : Gr a b) : ∀ {ps : List (Str × List R)} {vs : List Vl}, VShs a ps vs → VShs b ps vs
  | [], [], _ => trivial
  | [], _ :: _, k => k.elim
  | _ :: _, [], k => k.elim
  | _ :: _, _ :: _, k => ⟨k.1.gr g, VShs.gr g k.2⟩
theorem bind_sh : ∀ {ps : List (Str × List R)} {vs : List Vl} {ths : List Thg} {sc : Sc} {e : Env}, ThSh ths → ScSh ths sc e → (∀ q ∈ ps, 1 ≤ q.2.length) → VShs ths ps vs →
    ThSh (bindP ths sc ps vs).1 ∧ ScSh (bindP ths sc ps vs).1 (bindP ths sc ps vs).2 (envP e ps) ∧ Gr ths (bindP ths sc ps vs).1
  | [], [], ths, sc, e, h, c, _, _ => ⟨h, c, Gr.refl _⟩
  | [], _ :: _, _, _, _, _, _, _, k => k.elim
  | _ :: _, [], _, _, _, _, _, _, k => k.elim
  | q :: ps, v :: vs, ths, sc, e, h, c, l, k => by
    have g := Gr.app ths [⟨q.1, q.2, v⟩]
    have e1 : (ths ++ [(⟨q.1, q.2, v⟩ : Thg)])[ths.length]? = some ⟨q.1, q.2, v⟩ := by simp
    obtain ⟨h1, h2, h3⟩ := bind_sh (ps := ps) (vs := vs) (e := e.put q.1 q.2) (h.add (l q (List.mem_cons_self ..)) k.1) ((c.gr g).put (x := q.1) e1 rfl) (fun p hp => l p (List.mem_cons_of_mem _ hp)) (VShs.gr g k.2)
    exact ⟨h1, h2, g.trans h3⟩
def shStm (fs : List TF) (e : Env) : Stm → Prop
  | .lt _ T s => 1 ≤ T.length ∧ shSrc e (T.length - 1) s
  | .put x k s => ∃ T, e x = some T ∧ k < T.length ∧ shSrc e (T.length - k - 1) s
  | .call f ss => ∃ g ∈ fs, g.n = f ∧ shSrcs e g.p ss
def shBlk (fs : List TF) : Env → List Stm → Prop
  | _, [] => True
  | e, s :: ss => shStm fs e s ∧ shBlk fs (envS e s) ss
/-- functions that fit, the last one first -/
def FnSh : List TF → Prop
  | [] => True
  | g :: r => (∀ q ∈ g.p, 1 ≤ q.2.length) ∧ shBlk r (envP e0 g.p) g.b ∧ g.n ∉ r.map TF.n ∧ FnSh r
theorem ex1_sh {lim : Bool} {cl : CL} {fs : List TF} (hcl : ∀ g ∈ fs, ∀ vs s, ThSh s.th → VShs s.th g.p vs → ThSh (cl g.n vs s).2.th ∧ Gr s.th (cl g.n vs s).2.th) {sc : Sc} {s : RS} {st : Stm} {e : Env} (h : ThSh s.th) (c : ScSh s.th sc e) (k : shStm fs e st) :
    ThSh (ex1 lim cl sc s st).2.1.th ∧ Gr s.th (ex1 lim cl sc s st).2.1.th ∧ ((ex1 lim cl sc s st).1 = .go → ScSh (ex1 lim cl sc s st).2.1.th (ex1 lim cl sc s st).2.2 (envS e st)) := by
  unfold ex1
  by_cases z : lim = true ∧ 1000 ≤ s.n
  · rw [if_pos z]
    exact ⟨h, Gr.refl _, fun z => by cases z⟩
  rw [if_neg z]
  cases st with
  | lt x T src =>
    have g := gv_sh h c k.2
    dsimp only
    cases q : gv s.th sc src with
    | mk b o =>
    rw [q] at g
    cases o with
    | none => exact ⟨h, Gr.refl _, fun z => by cases z⟩
    | some v =>
      have gr := Gr.app s.th [⟨x, T, v⟩]
      have e1 : (s.th ++ [(⟨x, T, v⟩ : Thg)])[s.th.length]? = some ⟨x, T, v⟩ := by simp
      exact ⟨h.add k.1 (g v rfl), gr, fun _ => (c.gr gr).put (x := x) e1 rfl⟩
  | put x j src =>
    obtain ⟨T, t, lt, k2⟩ := k
    have g := gv_sh h c k2
    dsimp only
    cases q : folX s.th sc x j with
    | mk b o =>
    cases o with
    | none => exact ⟨h, Gr.refl _, fun z => by cases z⟩
    | some m =>
      obtain ⟨u, e1, e2⟩ := folX_sh h c t lt (by rw [q])
      dsimp only
      cases q2 : gv s.th sc src with
      | mk b2 o =>
      rw [q2] at g
      cases o with
      | none => exact ⟨h, Gr.refl _, fun z => by cases z⟩
      | some v =>
        dsimp only
        unfold putT
        rw [e1]
        have gr := Gr.set s.th m e1 v
        exact ⟨h.set e1 (by rw [show u.T.length - 1 = T.length - j - 1 by omega]; exact g v rfl), gr, fun _ => c.gr gr⟩
  | call f ss =>
    obtain ⟨g, hg, rfl, k2⟩ := k
    have gg := gvs_sh h c k2
    dsimp only
    cases q : gvs s.th sc ss with
    | mk b o =>
    rw [q] at gg
    cases o with
    | none => exact ⟨h, Gr.refl _, fun z => by cases z⟩
    | some vs =>
      obtain ⟨h1, h2⟩ := hcl g hg vs ⟨s.th, s.br ++ b, s.n + 1⟩ h (gg vs rfl)
      exact ⟨h1, h2, fun _ => c.gr h2⟩
theorem exs_sh {lim : Bool} {cl : CL} {fs : List TF} (hcl : ∀ g ∈ fs, ∀ vs s, ThSh s.th → VShs s.th g.p vs → ThSh (cl g.n vs s).2.th ∧ Gr s.th (cl g.n vs s).2.th) : ∀ {b : List Stm} {sc : Sc} {s : RS} {e : Env}, ThSh s.th → ScSh s.th sc e → shBlk fs e b →
    ThSh (exs lim cl sc s b).2.1.th ∧ Gr s.th (exs lim cl sc s b).2.1.th
  | [], sc, s, e, h, c, _ => ⟨h, Gr.refl _⟩
  | st :: b, sc, s, e, h, c, k => by
    obtain ⟨h1, h2, h3⟩ := ex1_sh (lim := lim) hcl h c k.1
    unfold exs
    cases q : ex1 lim cl sc s st with
    | mk o p =>
    obtain ⟨s', sc'⟩ := p
    rw [q] at h1 h2 h3
    cases o with
    | go =>
      obtain ⟨i1, i2⟩ := exs_sh hcl (b := b) h1 (h3 rfl) k.2
      exact ⟨i1, h2.trans i2⟩
    | stop => exact ⟨h1, h2⟩
    | long => exact ⟨h1, h2⟩
theorem call_sh {lim : Bool} : ∀ {r : List TF}, FnSh r → ∀ g ∈ r, ∀ vs s, ThSh s.th → VShs s.th g.p vs → ThSh (callF lim r g.n vs s).2.th ∧ Gr s.th (callF lim r g.n vs s).2.th
  | g :: r, k, f, hf, vs, s, h, v => by
    obtain ⟨k1, k2, k3, k4⟩ := k
    unfold callF
    rcases List.mem_cons.mp hf with rfl | hf
    · rw [if_pos rfl]
      obtain ⟨h1, h2, h3⟩ := bind_sh h (ScSh.nil _ sc0) k1 v
      obtain ⟨i1, i2⟩ := exs_sh (lim := lim) (call_sh k4) (s := ⟨(bindP s.th sc0 f.p vs).1, s.br, s.n⟩) h1 h2 k2
      exact ⟨i1, h3.trans i2⟩
    · rw [if_neg fun z => k3 (by rw [z]; exact List.mem_map_of_mem hf)]
      exact call_sh k4 f hf vs s h v
end Ver

set_option Elab.async false
set_option linter.all false
set_option maxRecDepth 100000
set_option maxHeartbeats 4000000
namespace Ver
open PySem PySem.Spec PyProof.Rows L2 Evl
/-! ## what can't change -/
def isT : HO → Bool
  | .tup _ => true
  | .frz _ _ => true
  | _ => false
def Im (H : Hp) : Hp := fun a => match H a with
  | some o => if isT o = true then some o else none
  | none => none
theorem im_at {H : Hp} {a : Addr} {o : HO} (h : H a = some o) (t : isT o = true) : Im H a = some o := by
  unfold Im
  rw [h]
  exact if_pos t
theorem im_of {H : Hp} {a : Addr} {o : HO} (h : Im H a = some o) : H a = some o ∧ isT o = true := by
  unfold Im at h
  cases e : H a with
  | none => rw [e] at h; cases h
  | some u =>
    rw [e] at h
    by_cases t : isT u = true
    · simp only [if_pos t] at h
      cases h
      exact ⟨rfl, t⟩
    · simp only [if_neg t] at h
      cases h
theorem im_le (H : Hp) : Ex (Im H) H := fun _ _ h => (im_of h).1
theorem im_ex {H H1 : Hp} (e : Ex H H1) : Ex (Im H) (Im H1) := fun a o h => im_at (e _ _ (im_of h).1) (im_of h).2
theorem im_upd {H : Hp} {p : Addr} {o u : HO} (h : H p = some u) (t : isT u = false) : Ex (Im H) (Im (upd H p o)) := fun a v q => by
  obtain ⟨q1, q2⟩ := im_of q
  have : a ≠ p := fun z => by
    rw [z, h] at q1
    cases q1
    rw [t] at q2
    cases q2
  exact im_at (by rw [upd_ne this]; exact q1) q2
theorem im_new {H : Hp} {p : Addr} {o : HO} (h : H p = none) : Ex (Im H) (Im (upd H p o)) := im_ex (Ex.new h)
/-- all but M is kept, and what can't change -/
structure Kp (M : List Addr) (H H1 : Hp) : Prop where
  k : Ks M H H1
  i : Ex (Im H) (Im H1)
theorem Kp.refl (M : List Addr) (H : Hp) : Kp M H H := ⟨Ks.refl _ _, Ex.refl _⟩
theorem Kp.trans {M : List Addr} {H H1 H2 : Hp} (a : Kp M H H1) (b : Kp M H1 H2) : Kp M H H2 := ⟨a.k.trans b.k, a.i.trans b.i⟩
theorem Kp.of {M : List Addr} {H H1 : Hp} (e : Ex H H1) : Kp M H H1 := ⟨Ks.of e, im_ex e⟩
theorem Kp.mono {M N : List Addr} {H H1 : Hp} (a : Kp M H H1) (h : ∀ x ∈ M, x ∈ N) : Kp N H H1 := ⟨a.k.mono h, a.i⟩
theorem Kp.upd {M : List Addr} {H H1 : Hp} {p : Addr} {o u : HO} (a : Kp M H H1) (h : H1 p = some u) (t : isT u = false) (m : p ∈ M) : Kp M H (L2.upd H1 p o) := ⟨a.k.upd m, a.i.trans (im_upd h t)⟩
theorem Kp.mut {M : List Addr} {H H1 : Hp} {p : Addr} {o u : HO} (a : Kp M H H1) (h : H1 p = some u) (t : isT u = false) (n : H p = none) : Kp M H (L2.upd H1 p o) := ⟨a.k.mut n, a.i.trans (im_upd h t)⟩
theorem Kp.drop {M : List Addr} {H H1 : Hp} {p : Addr} (a : Kp (p :: M) H H1) (n : H p = none) : Kp M H H1 := ⟨a.k.drop n, a.i⟩
theorem Kp.of_ks {M : List Addr} {H H1 : Hp} (k : Ks M H H1) (t : ∀ a ∈ M, ∀ o, H a = some o → isT o = false) : Kp M H H1 := ⟨k, fun a o h => by
  obtain ⟨h1, h2⟩ := im_of h
  refine im_at (k a o (fun z => ?_) h1) h2
  rw [t a z o h1] at h2
  cases h2⟩
theorem Kp.at {M : List Addr} {H H1 : Hp} {a : Addr} {o : HO} (k : Kp M H H1) (n : a ∉ M) (h : H a = some o) : H1 a = some o := k.k _ _ n h
theorem Kp.ex {H H1 : Hp} (k : Kp [] H H1) : Ex H H1 := k.k.ex
section
variable {K : PySem.W.Frag}
theorem st_im {H : Hp} {a : Addr} {xs : List V} (h : SqT K H a xs) : SqT K (Im H) a xs := by
  rcases h with (h | ⟨o, h⟩) | h
  · exact .inl (.inl (im_at h rfl))
  · exact .inl (.inr ⟨o, im_at h rfl⟩)
  · exact .inr h
mutual
theorem dp_im {H : Hp} : ∀ {v : V} {d : PyData}, Dp K H v d → ntD d = true → Dp K (Im H) v d
  | _, _, .non, _ => .non
  | _, _, .bl x, _ => .bl x
  | _, _, .int i, _ => .int i
  | _, _, .str x, _ => .str x
  | _, _, .lst h t, n => by cases n
  | _, _, .tup h t, n => .tup (st_im h) (dpa_im t n)
theorem dpa_im {H : Hp} : ∀ {xs : List V} {ds : List PyData}, DpAll K H xs ds → ntA ds = true → DpAll K (Im H) xs ds
  | _, _, .nil, _ => .nil
  | _, _, .cons h t, n => by
    have n' := (Bool.and_eq_true _ _ ▸ n : _ ∧ _)
    exact .cons (dp_im h n'.1) (dpa_im t n'.2)
end
/-! ## things, breaches, states as objects -/
def vlD : Vl → PyData
  | .num n => .int n
  | .th n => .tuple [.str "thing", .int (n : Int)]
  | .nul => .none
def thD (t : Thg) : PyData := .tuple [.str t.x, ru t.T, vlD t.v]
def brD (b : Bool × Nat) : PyData := .tuple [.str (ltr b.1), .int (b.2 : Int)]
theorem nt_vl (v : Vl) : ntD (vlD v) = true := by cases v <;> rfl
theorem nt_ru (T : List R) : ntD (ru T) = true := nt_map (f := fun x : R => PyData.str x.s) (fun _ => rfl) T
abbrev kM : Str := "made"
abbrev kB : Str := "broken"
abbrev kE : Str := "executed"
abbrev kS : Str := "scope"
def st4 (a b c d : V) : List (Str × V) := [(kM, a), (kB, b), (kE, c), (kS, d)]
abbrev stF (md br : Addr) (n : Nat) (sc : Addr) : List (Str × V) := st4 (.ref md) (.ref br) (.int (n : Int)) (.ref sc)
theorem d_mb : ("made" : Str) ≠ "broken" := by decide +kernel
theorem d_me : ("made" : Str) ≠ "executed" := by decide +kernel
theorem d_ms : ("made" : Str) ≠ "scope" := by decide +kernel
theorem d_be : ("broken" : Str) ≠ "executed" := by decide +kernel
theorem d_bs : ("broken" : Str) ≠ "scope" := by decide +kernel
theorem d_es : ("executed" : Str) ≠ "scope" := by decide +kernel
theorem lk4 (f : Str) (a b c d : V) : (st4 a b c d).lookup f = if f = kM then some a else if f = kB then some b else if f = kE then some c else if f = kS then some d else none := by
  unfold st4
  simp only [List.lookup_cons]
  by_cases h1 : f = kM
  · rw [if_pos h1, show (f == kM) = true from beq_iff_eq.mpr h1]
  rw [if_neg h1, show (f == kM) = false from beq_eq_false_iff_ne.mpr h1]
  by_cases h2 : f = kB
  · rw [if_pos h2, show (f == kB) = true from beq_iff_eq.mpr h2]
  rw [if_neg h2, show (f == kB) = false from beq_eq_false_iff_ne.mpr h2]
  by_cases h3 : f = kE
  · rw [if_pos h3, show (f == kE) = true from beq_iff_eq.mpr h3]
  rw [if_neg h3, show (f == kE) = false from beq_eq_false_iff_ne.mpr h3]
  by_cases h4 : f = kS
  · rw [if_pos h4, show (f == kS) = true from beq_iff_eq.mpr h4]
  rw [if_neg h4, show (f == kS) = false from beq_eq_false_iff_ne.mpr h4]
  rfl
theorem lk_made (a b c d : V) : (st4 a b c d).lookup ("made" : Str) = some a := by rw [lk4, if_pos rfl]
theorem lk_broken (a b c d : V) : (st4 a b c d).lookup ("broken" : Str) = some b := by rw [lk4, if_neg d_mb.symm, if_pos rfl]
theorem lk_exec (a b c d : V) : (st4 a b c d).lookup ("executed" : Str) = some c := by rw [lk4, if_neg d_me.symm, if_neg d_be.symm, if_pos rfl]
theorem lk_scope (a b c d : V) : (st4 a b c d).lookup ("scope" : Str) = some d := by rw [lk4, if_neg d_ms.symm, if_neg d_bs.symm, if_neg d_es.symm, if_pos rfl]
theorem lk_none {f : Str} (a b c d : V) (h : (f ≠ kM ∧ f ≠ kB) ∧ f ≠ kE ∧ f ≠ kS) : (st4 a b c d).lookup f = none := by rw [lk4, if_neg h.1.1, if_neg h.1.2, if_neg h.2.1, if_neg h.2.2]
theorem put4 (f : Str) (v a b c d : V) : putF f v (st4 a b c d) = if kM = f then st4 v b c d else if kB = f then st4 a v c d else if kE = f then st4 a b v d else if kS = f then st4 a b c v else st4 a b c d ++ [(f, v)] := by
  unfold st4
  simp only [putF]
  by_cases h1 : kM = f
  · rw [if_pos h1, if_pos h1, h1]
  rw [if_neg h1, if_neg h1]
  by_cases h2 : kB = f
  · rw [if_pos h2, if_pos h2, h2]
  rw [if_neg h2, if_neg h2]
  by_cases h3 : kE = f
  · rw [if_pos h3, if_pos h3, h3]
  rw [if_neg h3, if_neg h3]
  by_cases h4 : kS = f
  · rw [if_pos h4, if_pos h4, h4]
  rw [if_neg h4, if_neg h4]
  rfl
theorem put_made (v a b c d : V) : putF "made" v (st4 a b c d) = st4 v b c d := by rw [put4, if_pos rfl]
theorem put_broken (v a b c d : V) : putF "broken" v (st4 a b c d) = st4 a v c d := by rw [put4, if_neg d_mb, if_pos rfl]
theorem put_exec (v a b c d : V) : putF "executed" v (st4 a b c d) = st4 a b v d := by rw [put4, if_neg d_me, if_neg d_be, if_pos rfl]
theorem put_scope (v a b c d : V) : putF "scope" v (st4 a b c d) = st4 a b c v := by rw [put4, if_neg d_ms, if_neg d_bs, if_neg d_es, if_pos rfl]
theorem putF_two {f g : Str} (n : g ≠ f) (v u : V) : putF f v [(g, u)] = [(g, u), (f, v)] := by
  simp only [putF]
  rw [if_neg n]
theorem stF_of (a b c d : V) : putF "scope" d (putF "executed" c (putF "broken" b (putF "made" a []))) = st4 a b c d := by
  have e0 : putF ("made" : Str) a [] = [(kM, a)] := rfl
  rw [e0, putF_two d_mb]
  simp only [putF]
  rw [if_neg d_me, if_neg d_be]
  simp only [putF]
  rw [if_neg d_ms, if_neg d_bs, if_neg d_es]
  rfl
/-- the object at z is the state s -/
structure SA (K : PySem.W.Frag) (C : Addr) (H : Hp) (z md br sc : Addr) (s : RS) : Prop where
  o : ∃ dx, H z = some (.ins C dx (stF md br s.n sc))
  m : ∃ xs, H md = some (.lst xs) ∧ DpAll K (Im H) xs (s.th.map thD)
  b : ∃ xs, H br = some (.lst xs) ∧ DpAll K (Im H) xs (s.br.map brD)
  d : md ≠ br
abbrev M3 (z md br : Addr) : List Addr := [z, md, br]
theorem SA.zm {C : Addr} {H : Hp} {z md br sc : Addr} {s : RS} (h : SA K C H z md br sc s) : z ≠ md := by
  obtain ⟨_, h1⟩ := h.o
  obtain ⟨_, h2, _⟩ := h.m
  exact ne_of h1 h2 (fun e => by cases e)
theorem SA.zb {C : Addr} {H : Hp} {z md br sc : Addr} {s : RS} (h : SA K C H z md br sc s) : z ≠ br := by
  obtain ⟨_, h1⟩ := h.o
  obtain ⟨_, h2, _⟩ := h.b
  exact ne_of h1 h2 (fun e => by cases e)
theorem SA.up {C : Addr} {H H1 : Hp} {z md br sc : Addr} {s : RS} {M : List Addr} (h : SA K C H z md br sc s) (k : Kp M H H1) (n : z ∉ M ∧ md ∉ M ∧ br ∉ M) : SA K C H1 z md br sc s where
  o := by
    obtain ⟨dx, e⟩ := h.o
    exact ⟨dx, k.at n.1 e⟩
  m := by
    obtain ⟨xs, e, d⟩ := h.m
    exact ⟨xs, k.at n.2.1 e, dpa_ex k.i d⟩
  b := by
    obtain ⟨xs, e, d⟩ := h.b
    exact ⟨xs, k.at n.2.2 e, dpa_ex k.i d⟩
  d := h.d
theorem SA.ex {C : Addr} {H H1 : Hp} {z md br sc : Addr} {s : RS} (h : SA K C H z md br sc s) (e : Ex H H1) : SA K C H1 z md br sc s := h.up (M := []) (Kp.of e) (by simp)
/-- a scope: the numbers of the things that are variables -/
def ScD (H : Hp) (sc : Addr) (c : Sc) (N : Nat) : Prop := ∃ kvs : Kv, H sc = some (.dK kvs) ∧ kvs.length ≤ N ∧ ∀ x, valV kvs (Sum.inr x) = (c x).map fun n => .int ((n : Nat) : Int)
theorem ScD.at {H H1 : Hp} {sc : Addr} {c : Sc} {N : Nat} {M : List Addr} (h : ScD H sc c N) (k : Kp M H H1) (n : sc ∉ M) : ScD H1 sc c N := by
  obtain ⟨kvs, e, r⟩ := h
  exact ⟨kvs, k.at n e, r⟩
theorem ScD.ex {H H1 : Hp} {sc : Addr} {c : Sc} {N : Nat} (h : ScD H sc c N) (e : Ex H H1) : ScD H1 sc c N := h.at (M := []) (Kp.of e) (by simp)
theorem ScD.mono {H : Hp} {sc : Addr} {c : Sc} {N N' : Nat} (h : ScD H sc c N) (l : N ≤ N') : ScD H sc c N' := by
  obtain ⟨kvs, e, r, q⟩ := h
  exact ⟨kvs, e, Nat.le_trans r l, q⟩
theorem ScD.nil {H : Hp} {sc : Addr} (h : H sc = some (.dK [])) : ScD H sc sc0 0 := ⟨[], h, Nat.le_refl _, fun _ => rfl⟩
theorem ScD.get {H : Hp} {sc : Addr} {c : Sc} {N : Nat} (h : ScD H sc c N) {x : Str} {n : Nat} (e : c x = some n) {Q : VK} (k : Q (.int (n : Int)) H) : GetI (.ref sc) (.str x) H Q := by
  obtain ⟨kvs, h1, _, h3⟩ := h
  exact a_dget h1 (by rw [h3 x, e]; rfl) k
theorem ScD.put {H : Hp} {sc : Addr} {c : Sc} {N : Nat} (h : ScD H sc c N) (hN : N < 90000) {x : Str} {n : Nat} {Q : Hp → Prop} (k : ∀ H1, Kp [sc] H H1 → ScD H1 sc (c.put x n) (N + 1) → Q H1) : PutD (.ref sc) (.str x) (.int (n : Int)) H Q := by
  obtain ⟨kvs, h1, h2, h3⟩ := h
  refine a_putD h1 (by omega) (k _ ((Kp.refl _ _).upd h1 rfl (by simp)) ⟨_, upd_same, Nat.le_trans (putK_le _ _ _) (Nat.succ_le_succ h2), fun y => ?_⟩)
  rw [valV_put]
  unfold Sc.put
  by_cases z : y = x
  · rw [if_pos z, if_pos (by rw [z])]
    rfl
  · rw [if_neg z, if_neg (fun q => z (Sum.inr.inj q))]
    exact h3 y
theorem ScD.ne {C : Addr} {H : Hp} {z md br sc sd : Addr} {s : RS} {c : Sc} {N : Nat} (h : ScD H sd c N) (a : SA K C H z md br sc s) : sd ≠ z ∧ sd ≠ md ∧ sd ≠ br := by
  obtain ⟨kvs, e, _⟩ := h
  obtain ⟨_, h1⟩ := a.o
  obtain ⟨_, h2, _⟩ := a.m
  obtain ⟨_, h3, _⟩ := a.b
  exact ⟨ne_of e h1 (fun z => by cases z), ne_of e h2 (fun z => by cases z), ne_of e h3 (fun z => by cases z)⟩
end
/-! ## readings: methods, fields that are changed, copies of dicts -/
def CallM (C : Addr) (m : Str) (sp : Sp) (E : XK) (t : TA) (σ : L2.St) (x : V) (H : Hp) (Q : VK) : Prop := ∃ a dx fs, x = .ref a ∧ H a = some (.ins C dx fs) ∧ fs.lookup m = none ∧ t σ H fun vs H2 => sp (x :: vs) H2 Q E
theorem w_meth {C : Addr} {m : Str} {sp : Sp} {E : XK} {ta : TE} {t : TA} {σ : L2.St} {H : Hp} {Q : VK} (h : ta σ H fun x H1 => CallM C m sp E t σ x H1 Q) : tMeth C m sp [] E ta t σ H Q := by
  have e : (fun x H1 => CallM C m sp E t σ x H1 Q) = fun (x : V) H1 => ∃ a dx fs, x = .ref a ∧ H1 a = some (.ins C dx fs) ∧ fs.lookup m = none ∧ t σ H1 fun vs H2 => sp (x :: (vs ++ [])) H2 Q E := by
    funext x H1
    simp only [List.append_nil]
    rfl
  show ta σ H fun x H1 => ∃ a dx fs, x = .ref a ∧ H1 a = some (.ins C dx fs) ∧ fs.lookup m = none ∧ t σ H1 fun vs H2 => sp (x :: (vs ++ [])) H2 Q E
  rw [← e]
  exact h
theorem a_meth {C a dx : Addr} {fs : List (Str × V)} {m : Str} {sp : Sp} {E : XK} {t : TA} {σ : L2.St} {H : Hp} {Q : VK} (e : H a = some (.ins C dx fs)) (l : fs.lookup m = none) (k : t σ H fun vs H2 => sp (.ref a :: vs) H2 Q E) : CallM C m sp E t σ (.ref a) H Q := ⟨a, dx, fs, rfl, e, l, k⟩
/-- .. by a wish with the slots (within a try) -/
def tMethA (C : Addr) (m : Str) (sp : Sp) (E : L2.St → XK) (ta : TE) (t : TA) : TE := fun σ H Q => ta σ H fun x H1 => CallM C m sp (E σ) t σ x H1 Q
theorem pe_methA {X : Cx} {CX : CXT} {k : Nat} {C f : Addr} {fd : FuncData} {ps : List Str} {sp : Sp} {E : L2.St → XK} {m : Str} {o e : Expr} {es : List Expr} {apos pos : Pos} {ta : TE} {t : TA} {pl : Sem Bool} (he : PE X o ta) (c : Cls X.K C) (hm : Meth X.K C m f) (F : FnOk X.prog X.w X.K X.mg X.base CX k f fd ps sp) (hr : Room k X.A) (hb : Binds X.K fd ps [])
    (hx : ∀ σ, PassesAt CX X σ (E σ)) (ha : PA X (e :: es) t) (hst : starEach (e :: es) X.env = (false, eval e X.env) :: starEach es X.env := by rfl) (hpl : (backTo pos (starEach es X.env)).any (·.1) = false := by rfl)
    (ht : eval (.Call (.Attribute o m apos) (e :: es) [] pos) X.env = (do
      let u ← eval o X.env
      standAt apos.atName
      let (f, first) ← holding [u] (getMethod u m pl)
      callWith pos f first (backTo pos (starEach (e :: es) X.env)) (backToKw pos (keywordEach [] X.env))) := by rfl) :
    PE X (.Call (.Attribute o m apos) (e :: es) [] pos) (tMethA C m sp E ta t) := by
  refine ⟨fun pins s σ H Q I h => ?_⟩
  refine PySem.W.methodCall_KW (pl := pl) (thn (he.run pins s σ H _ I h) fun u s1 ⟨x, H1, I1, rx, a, dx, fs, ex, ea, l, q⟩ => ?_) ht
  subst ex
  obtain rfl : u = Value.ref a := rx
  refine getmeth_ok I1 ea c hm l ?_
  refine PySem.W.callWith_K (first := [.ref a]) (h₀ := X.base) I.ok.mod.kin hm.kp (thn (ha.run pos pins s1 σ H1 _ I1 q) fun us s2 ⟨vs, H2, I2, r, q2⟩ => ⟨I2.kIn, ?_⟩) hst hpl
  exact run_fnS (us := .ref a :: us) (vs := .ref a :: vs) F hr hb (hx σ) I2 (.cons rfl r) q2
theorem w_methA {C : Addr} {m : Str} {sp : Sp} {E : L2.St → XK} {ta : TE} {t : TA} {σ : L2.St} {H : Hp} {Q : VK} (h : ta σ H fun x H1 => CallM C m sp (E σ) t σ x H1 Q) : tMethA C m sp E ta t σ H Q := h
def AugF (K : PySem.W.Frag) (tv : TE) (rd : V → V → Hp → VK → Prop) (f : Str) (D : Ends) (σ : L2.St) (x : V) (H : Hp) : Prop := ∃ a C dx fs v, x = .ref a ∧ H a = some (.ins C dx fs) ∧ Cls K C ∧ NoAttr K C f ∧ fs.lookup f = some v ∧
  tv σ H fun y H2 => rd v y H2 fun z H3 => ∃ dx' fs', H3 a = some (.ins C dx' fs') ∧ fs'.length < 1000 ∧ D.nx σ (upd H3 a (.ins C dx' (putF f z fs')))
theorem w_aug {K : PySem.W.Frag} {ta tv : TE} {rd : V → V → Hp → VK → Prop} {f : Str} {D : Ends} {σ : L2.St} {H : Hp} (h : ta σ H fun x H1 => AugF K tv rd f D σ x H1) : sFldAug K ta tv rd f D σ H := h
theorem a_aug1 {K : PySem.W.Frag} {a C dx : Addr} {fs : List (Str × V)} {f : Str} {D : Ends} {σ : L2.St} {H : Hp} {i : Int} (c : Cls K C) (n : PySem.W.findIn K (.ref C) f = some none) (e : H a = some (.ins C dx fs)) (l : fs.lookup f = some (.int i)) (hl : fs.length < 1000)
    (k : D.nx σ (upd H a (.ins C dx (putF f (.int (i + 1)) fs)))) : AugF K (tC (.int 1)) rAdd f D σ (.ref a) H := ⟨a, C, dx, fs, _, rfl, e, c, n, l, ⟨i, 1, rfl, rfl, dx, fs, e, hl, k⟩⟩
def qDictD : List V → Hp → VK → Prop := fun xs H Q => ∃ (a : Addr) (kvs : List (Key × V)), xs = [.ref a] ∧ Rd H a (.dK kvs) ∧ ∀ p, H p = none → Q (.ref p) (upd H p (.dK kvs))
theorem dctDK {X : Cx} : CallR X (.type "dict") qDictD := call_dictD
theorem a_dictD {H : Hp} {Q : VK} {a : Addr} {kvs : Kv} (e : H a = some (.dK kvs)) (k : ∀ p H1, H p = none → Ex H H1 → H1 p = some (.dK kvs) → Q (.ref p) H1) : qDictD [.ref a] H Q := ⟨a, kvs, rfl, .inl e, fun p n => k p _ n (Ex.new n) upd_same⟩
theorem own_exm {K : PySem.W.Frag} {C D : Addr} {b : Bool} (q1 : PySem.W.subIn K (.ref D) (.type "BaseException") = some true) (q2 : PySem.W.isClsIn K D = true) (q3 : PySem.W.typeIn K (.ref D) = some (.type "type")) (q4 : PySem.W.subIn K (.ref C) (.ref D) = some b) : PySem.W.exmOne K (.ref C) (.ref D) = some b := by
  have q5 : (PySem.W.clsIn K D).isSome = true := q2
  unfold PySem.W.exmOne
  rw [if_pos (by rw [q1]; rfl)]
  show (if ((PySem.W.clsIn K D).isSome && PySem.W.typeIn K (.ref D) == some (.type "type")) = true then PySem.W.subIn K (.ref C) (.ref D) else none) = some b
  rw [if_pos (by rw [q5, q3]; rfl)]
  exact q4
/-- the promises of a state's methods -/
def pSi (K : PySem.W.Frag) (C : Addr) : Sp := fun vs H Q _ => ∃ a dx, vs = [.ref a] ∧ H a = some (.ins C dx []) ∧ ∀ md br sc H1, Kp [a] H H1 → H md = none → H br = none → H sc = none → H1 a = some (.ins C dx (stF md br 0 sc)) → H1 md = some (.lst []) → H1 br = some (.lst []) → H1 sc = some (.dK []) → md ≠ br → Q .non H1
def pTwin (K : PySem.W.Frag) (C : Addr) : Sp := fun vs H Q _ => ∃ z md br sc s c N, vs = [.ref z] ∧ SA K C H z md br sc s ∧ s.th.length ≤ 90000 ∧ s.br.length ≤ 90000 ∧ ScD H sc c N ∧ ∀ z' md' br' sc' H1, H z' = none → H md' = none → H br' = none → H sc' = none → Ex H H1 → SA K C H1 z' md' br' sc' s → ScD H1 sc' c N → Q (.ref z') H1
def pBegin (K : PySem.W.Frag) (C CE : Addr) : Sp := fun vs H Q E => ∃ z md br sc s, vs = [.ref z] ∧ SA K C H z md br sc s ∧ s.n ≤ 90000 ∧
  (s.n < 1000 → ∀ H1, Kp [z] H H1 → SA K C H1 z md br sc ⟨s.th, s.br, s.n + 1⟩ → Q .non H1) ∧
  (1000 ≤ s.n → ∀ d H1, Kp [z] H H1 → SA K C H1 z md br sc ⟨s.th, s.br, s.n + 1⟩ → H1 d = some (.xd [("reason", .str "too long")]) → E (.ref CE) (some d) H1)
def pMake (K : PySem.W.Frag) (C : Addr) : Sp := fun vs H Q _ => ∃ z md br sc s x T v vl k, vs = [.ref z, .str x, k, v] ∧ SA K C H z md br sc s ∧ s.th.length ≤ 90000 ∧ Dp K (Im H) k (ru T) ∧ Dp K (Im H) v (vlD vl) ∧
  ∀ H1, Kp [md] H H1 → SA K C H1 z md br sc ⟨s.th ++ [⟨x, T, vl⟩], s.br, s.n⟩ → Q (.int (s.th.length : Nat)) H1
def pRead (K : PySem.W.Frag) (C : Addr) : Sp := fun vs H Q _ => ∃ z md br sc s n t, vs = [.ref z, .int (n : Nat)] ∧ SA K C H z md br sc s ∧ s.br.length ≤ 90000 ∧ s.th[n]? = some t ∧ 1 ≤ t.T.length ∧
  ∀ v H1, Kp [br] H H1 → SA K C H1 z md br sc ⟨s.th, s.br ++ rdB t n, s.n⟩ → Dp K (Im H1) v (vlD t.v) → Q v H1
def pWrite (K : PySem.W.Frag) (C : Addr) : Sp := fun vs H Q _ => ∃ z md br sc s n t v vl, vs = [.ref z, .int (n : Nat), v] ∧ SA K C H z md br sc s ∧ s.br.length ≤ 90000 ∧ s.th[n]? = some t ∧ 1 ≤ t.T.length ∧ Dp K (Im H) v (vlD vl) ∧
  ∀ H1, Kp [md, br] H H1 → SA K C H1 z md br sc ⟨s.th.set n ⟨t.x, t.T, vl⟩, s.br ++ wrB t n, s.n⟩ → Q .non H1
/-! ## changes, told by what they keep -/
section
variable {K : PySem.W.Frag} {H : Hp} {Q : VK}
theorem a_putK {a C dx : Addr} {fs : List (Str × V)} {f : Str} {y : V} {N : Hp → Prop} (c : Cls K C) (n : PySem.W.findIn K (.ref C) f = some none) (e : H a = some (.ins C dx fs)) (hl : fs.length < 1000) (k : ∀ H1, Kp [a] H H1 → H1 a = some (.ins C dx (putF f y fs)) → N H1) : SetF K f (.ref a) y H N :=
  a_put c n e hl (k _ ((Kp.refl _ _).upd e rfl (by simp)) upd_same)
theorem a_appK {p : Addr} {xs : List V} {v : V} (h : H p = some (.lst xs)) (hz : xs.length < 100000) (k : ∀ H1, Kp [p] H H1 → H1 p = some (.lst (xs ++ [v])) → Q .non H1) : rAppend (.ref p) [v] H Q := a_app h hz (k _ ((Kp.refl _ _).upd h rfl (by simp)) upd_same)
theorem a_setLK {p : Addr} {xs : List V} {j : Nat} {v : V} {N : Hp → Prop} (h : H p = some (.lst xs)) (hj : j < xs.length) (k : ∀ H1, Kp [p] H H1 → H1 p = some (.lst (xs.set j v)) → N H1) : rSetL (.ref p) (.int j) v H N := a_setL h hj (k _ ((Kp.refl _ _).upd h rfl (by simp)) upd_same)
theorem a_aug1K {a C dx : Addr} {fs : List (Str × V)} {f : Str} {D : Ends} {σ : L2.St} {i : Int} (c : Cls K C) (n : PySem.W.findIn K (.ref C) f = some none) (e : H a = some (.ins C dx fs)) (l : fs.lookup f = some (.int i)) (hl : fs.length < 1000)
    (k : ∀ H1, Kp [a] H H1 → H1 a = some (.ins C dx (putF f (.int (i + 1)) fs)) → D.nx σ H1) : AugF K (tC (.int 1)) rAdd f D σ (.ref a) H := a_aug1 c n e l hl (k _ ((Kp.refl _ _).upd e rfl (by simp)) upd_same)
theorem dpa_set {G : Hp} : ∀ {xs : List V} {ds : List PyData} {v : V} {d : PyData} (j : Nat), DpAll K G xs ds → Dp K G v d → DpAll K G (xs.set j v) (ds.set j d)
  | _, _, _, _, _, .nil, _ => .nil
  | _, _, _, _, 0, .cons _ t, k => .cons k t
  | _, _, _, _, j + 1, .cons h t, k => .cons h (dpa_set j t k)
end
end Ver

set_option Elab.async false
set_option linter.all false
set_option maxRecDepth 100000
set_option maxHeartbeats 4000000
namespace Ver
open PySem PySem.Spec PyProof.Rows L2 Evl
/-! ## sizes of a run -/
theorem rdB_len (t : Thg) (n : Nat) : (rdB t n).length ≤ 1 := by unfold rdB; split <;> simp
theorem wrB_len (t : Thg) (n : Nat) : (wrB t n).length ≤ 1 := by unfold wrB; split <;> simp
theorem fol_len (ths : List Thg) : ∀ k n, (fol ths k n).1.length ≤ k
  | 0, n => Nat.le_refl _
  | k + 1, n => by
    unfold fol
    cases e : ths[n]? with
    | none => exact Nat.zero_le _
    | some t =>
      have h1 := rdB_len t n
      dsimp only
      cases t.v with
      | num i => exact Nat.le_trans h1 (by omega)
      | nul => exact Nat.le_trans h1 (by omega)
      | th m =>
        have := fol_len ths k m
        simp only [List.length_append]
        omega
theorem folX_len (ths : List Thg) (sc : Sc) (x : Str) (k : Nat) : (folX ths sc x k).1.length ≤ k := by
  unfold folX
  cases sc x with
  | none => exact Nat.zero_le _
  | some n => exact fol_len _ _ _
theorem rdV_len (ths : List Thg) (p : Brs × Option Nat) : (rdV ths p).1.length ≤ p.1.length + 1 := by
  obtain ⟨b, o⟩ := p
  cases o with
  | none => exact Nat.le_succ _
  | some m =>
    cases h : ths[m]? with
    | none => simp [rdV, h]
    | some t =>
      have := rdB_len t m
      simp [rdV, h]
      omega
theorem gv_len {ths : List Thg} {sc : Sc} {s : Src} (o : sO s) : (gv ths sc s).1.length ≤ 6 := by
  cases s with
  | num n => exact Nat.zero_le _
  | null => exact Nat.zero_le _
  | adr x k =>
    have := folX_len ths sc x k
    have := o.2
    show (folX ths sc x k).1.length ≤ 6
    omega
  | val x k =>
    have := folX_len ths sc x k
    have := rdV_len ths (folX ths sc x k)
    have := o.2
    show (rdV ths (folX ths sc x k)).1.length ≤ 6
    omega
theorem gvs_len {ths : List Thg} {sc : Sc} : ∀ {ss : List Src}, (∀ s ∈ ss, sO s) → (gvs ths sc ss).1.length ≤ 6 * ss.length
  | [], _ => Nat.le_refl _
  | s :: ss, h => by
    have h1 := gv_len (ths := ths) (sc := sc) (h s (List.mem_cons_self ..))
    have h2 := gvs_len (ths := ths) (sc := sc) fun t ht => h t (List.mem_cons_of_mem s ht)
    unfold gvs
    cases q : gv ths sc s with
    | mk b o =>
    rw [q] at h1
    cases o with
    | none =>
      show b.length ≤ _
      have h1 : b.length ≤ 6 := h1
      rw [List.length_cons]
      omega
    | some v =>
      show (b ++ _).length ≤ _
      have h1 : b.length ≤ 6 := h1
      rw [List.length_append, List.length_cons]
      omega
theorem bindP_len : ∀ (ps : List (Str × List R)) (vs : List Vl) (ths : List Thg) (sc : Sc), (bindP ths sc ps vs).1.length ≤ ths.length + ps.length
  | [], _, _, _ => Nat.le_refl _
  | _ :: _, [], _, _ => Nat.le_add_right _ _
  | q :: ps, v :: vs, ths, sc => by
    have := bindP_len ps vs (ths ++ [⟨q.1, q.2, v⟩]) (sc.put q.1 ths.length)
    rw [List.length_append] at this
    show (bindP (ths ++ [⟨q.1, q.2, v⟩]) (sc.put q.1 ths.length) ps vs).1.length ≤ _
    rw [List.length_cons]
    simp at this
    omega
structure SB (s : RS) : Prop where
  t : s.th.length ≤ 4 * s.n
  b : s.br.length ≤ 24 * s.n
  n : s.n ≤ 1000
structure SC (s : RS) : Prop where
  t : s.th.length + 4 ≤ 4 * s.n
  b : s.br.length ≤ 24 * s.n
  n : s.n ≤ 1000
abbrev KeepsB (cl : CL) : Prop := ∀ f vs s, SC s → (cl f vs s).1 ≠ .long → SB (cl f vs s).2
theorem ex1_sb {cl : CL} (hcl : KeepsB cl) {sc : Sc} {s : RS} {st : Stm} (o : stO st) (h : SB s) (nl : (ex1 true cl sc s st).1 ≠ .long) : SB (ex1 true cl sc s st).2.1 := by
  obtain ⟨h1, h2, h3⟩ := h
  unfold ex1 at nl ⊢
  by_cases z : true = true ∧ 1000 ≤ s.n
  · rw [if_pos z] at nl
    exact absurd rfl nl
  rw [if_neg z] at nl ⊢
  have hn : s.n < 1000 := by
    have : ¬ 1000 ≤ s.n := fun q => z ⟨rfl, q⟩
    omega
  cases st with
  | lt x T src =>
    have g := gv_len (ths := s.th) (sc := sc) o.2.2
    dsimp only at nl ⊢
    cases q : gv s.th sc src with
    | mk b w =>
    rw [q] at g
    have g : b.length ≤ 6 := g
    cases w with
    | none => exact ⟨by simp only; omega, by simp only [List.length_append]; omega, by simp only; omega⟩
    | some v => exact ⟨by simp only [List.length_append, List.length_singleton]; omega, by simp only [List.length_append]; omega, by simp only; omega⟩
  | put x k src =>
    have g1 := folX_len s.th sc x k
    have g2 := gv_len (ths := s.th) (sc := sc) o.2.2
    have k5 := o.2.1
    dsimp only at nl ⊢
    cases q : folX s.th sc x k with
    | mk b w =>
    rw [q] at g1
    have g1 : b.length ≤ k := g1
    cases w with
    | none => exact ⟨by simp only; omega, by simp only [List.length_append]; omega, by simp only; omega⟩
    | some m =>
      cases q2 : gv s.th sc src with
      | mk b2 w =>
      rw [q2] at g2
      have g2 : b2.length ≤ 6 := g2
      cases w with
      | none => exact ⟨by simp only; omega, by simp only [List.length_append]; omega, by simp only; omega⟩
      | some v =>
        dsimp only
        unfold putT
        cases q3 : s.th[m]? with
        | none => exact ⟨by simp only; omega, by simp only [List.length_append]; omega, by simp only; omega⟩
        | some t =>
          have := wrB_len t m
          exact ⟨by simp only [List.length_set]; omega, by simp only [List.length_append]; omega, by simp only; omega⟩
  | call f ss =>
    have g := gvs_len (ths := s.th) (sc := sc) o.2.2
    have l4 := o.2.1
    dsimp only at nl ⊢
    cases q : gvs s.th sc ss with
    | mk b w =>
    rw [q] at g nl
    have g : b.length ≤ 6 * ss.length := g
    cases w with
    | none => exact ⟨by simp only; omega, by simp only [List.length_append]; omega, by simp only; omega⟩
    | some vs => exact hcl f vs _ ⟨by simp only; omega, by simp only [List.length_append]; omega, by simp only; omega⟩ nl
theorem exs_sb {cl : CL} (hcl : KeepsB cl) : ∀ {b : List Stm} {sc : Sc} {s : RS}, (∀ st ∈ b, stO st) → SB s → (exs true cl sc s b).1 ≠ .long → SB (exs true cl sc s b).2.1
  | [], _, _, _, h, _ => h
  | st :: b, sc, s, o, h, nl => by
    have h1 := ex1_sb hcl (sc := sc) (o st (List.mem_cons_self ..)) h
    unfold exs at nl ⊢
    cases q : ex1 true cl sc s st with
    | mk w p =>
    obtain ⟨s', sc'⟩ := p
    rw [q] at h1 nl
    cases w with
    | go => exact exs_sb hcl (fun t ht => o t (List.mem_cons_of_mem _ ht)) (h1 (by simp)) nl
    | stop => exact h1 (by simp)
    | long => exact absurd rfl nl
theorem callF_sb : ∀ {r : List TF}, (∀ g ∈ r, FOk g) → KeepsB (callF true r)
  | [], _ => fun f vs s h _ => ⟨by have h1 := h.t; show s.th.length ≤ 4 * s.n; omega, h.b, h.n⟩
  | g :: r, ho => fun f vs s h nl => by
    have gk := ho g (List.mem_cons_self ..)
    unfold callF at nl ⊢
    by_cases c : g.n = f
    · rw [if_pos c] at nl ⊢
      have l := bindP_len g.p vs s.th sc0
      have p4 := gk.p4
      have h1 := h.t
      exact exs_sb (callF_sb fun q hq => ho q (List.mem_cons_of_mem _ hq)) gk.bo ⟨by simp only; omega, h.b, h.n⟩ nl
    · rw [if_neg c] at nl ⊢
      exact callF_sb (fun q hq => ho q (List.mem_cons_of_mem _ hq)) f vs s h nl
/-! ## without the limit all goes on alike, as long as it is not reached -/
abbrev Alike (a b : CL) : Prop := ∀ f vs s, (a f vs s).1 ≠ .long → b f vs s = a f vs s
theorem ex1_lim {a b : CL} (h : Alike a b) {sc : Sc} {s : RS} {st : Stm} (nl : (ex1 true a sc s st).1 ≠ .long) : ex1 false b sc s st = ex1 true a sc s st := by
  unfold ex1 at nl ⊢
  by_cases z : true = true ∧ 1000 ≤ s.n
  · rw [if_pos z] at nl
    exact absurd rfl nl
  rw [if_neg z] at nl ⊢
  rw [if_neg (by simp)]
  cases st with
  | lt x T src => rfl
  | put x k src => rfl
  | call f ss =>
    dsimp only at nl ⊢
    cases q : gvs s.th sc ss with
    | mk bb w =>
    rw [q] at nl
    cases w with
    | none => rfl
    | some vs =>
      dsimp only at nl ⊢
      rw [h f vs _ nl]
theorem exs_lim {a b : CL} (h : Alike a b) : ∀ {l : List Stm} {sc : Sc} {s : RS}, (exs true a sc s l).1 ≠ .long → exs false b sc s l = exs true a sc s l
  | [], _, _, _ => rfl
  | st :: l, sc, s, nl => by
    unfold exs at nl ⊢
    have h1 := ex1_lim h (sc := sc) (s := s) (st := st)
    cases q : ex1 true a sc s st with
    | mk w p =>
    obtain ⟨s', sc'⟩ := p
    rw [q] at nl h1
    cases w with
    | go =>
      rw [h1 (by simp)]
      exact exs_lim h nl
    | stop => rw [h1 (by simp)]
    | long => exact absurd rfl nl
theorem callF_lim : ∀ r : List TF, Alike (callF true r) (callF false r)
  | [] => fun _ _ _ _ => rfl
  | g :: r => fun f vs s nl => by
    unfold callF at nl ⊢
    by_cases c : g.n = f
    · rw [if_pos c] at nl ⊢
      rw [if_pos c]
      have := exs_lim (callF_lim r) nl
      rw [this]
    · rw [if_neg c] at nl ⊢
      rw [if_neg c]
      exact callF_lim r f vs s nl
theorem runP_lim {fs : List TF} {ss : List Stm} (nl : (runP true fs ss).1 ≠ .long) : runP false fs ss = runP true fs ss := exs_lim (callF_lim _) nl
/-! ## a call, its sources ahead -/
def exC (cl : CL) (c : Sc) (s : RS) (f : Str) (ss : List Src) : Out × RS := match gvs s.th c ss with
  | (b, none) => (.stop, ⟨s.th, s.br ++ b, s.n⟩)
  | (b, some vs) => cl f vs ⟨s.th, s.br ++ b, s.n⟩
theorem ex1_call {lim : Bool} {cl : CL} {c : Sc} {s : RS} {f : Str} {ss : List Src} (h : ¬ (lim = true ∧ 1000 ≤ s.n)) : ex1 lim cl c s (.call f ss) = ((exC cl c ⟨s.th, s.br, s.n + 1⟩ f ss).1, (exC cl c ⟨s.th, s.br, s.n + 1⟩ f ss).2, c) := by
  unfold ex1 exC
  rw [if_neg h]
  dsimp only
  cases gvs s.th c ss with
  | mk b w => cases w <;> rfl
/-! ## no breach -/
def VSd (ths : List Thg) (S : List R) : Vl → Prop
  | .th m => ∃ t : Thg, ths[m]? = some t ∧ cv t.T S = true
  | _ => True
def ThSd (ths : List Thg) : Prop := ∀ t ∈ ths, VSd ths (t.T.drop 1) t.v
theorem VSd.gr {a b : List Thg} {S : List R} {v : Vl} (h : VSd a S v) (g : Gr a b) : VSd b S v := by
  cases v with
  | num n => trivial
  | nul => trivial
  | th m =>
    obtain ⟨t, h1, h2⟩ := h
    obtain ⟨t', e, q⟩ := g m t h1
    exact ⟨t', e, by rw [q]; exact h2⟩
theorem VSd.cv {ths : List Thg} {S U : List R} {v : Vl} (h : VSd ths S v) (c : cv S U = true) : VSd ths U v := by
  cases v with
  | num n => trivial
  | nul => trivial
  | th m =>
    obtain ⟨t, h1, h2⟩ := h
    exact ⟨t, h1, cv_trans h2 c⟩
theorem cv_len {a b : List R} (h : cv a b = true) : a.length = b.length := by
  by_cases c : a.length = b.length
  · exact c
  · rw [cv_ne c] at h
    cases h
/-- going on by r -/
theorem cv_r {a b : R} {as bs : List R} (h : cv (a :: as) (b :: bs) = true) (r : b.hr = true) : a.hr = true ∧ cv as bs = true := by
  have l : as.length = bs.length := by have := cv_len h; simpa using this
  rw [cv_cons' l] at h
  revert h r
  generalize cv as bs = u1
  generalize cv bs as = u2
  cases a <;> cases b <;> cases u1 <;> cases u2 <;> decide
theorem cv_w {a b : R} {as bs : List R} (h : cv (a :: as) (b :: bs) = true) (r : b.hw = true) : a.hw = true ∧ cv bs as = true := by
  have l : as.length = bs.length := by have := cv_len h; simpa using this
  rw [cv_cons' l] at h
  revert h r
  generalize cv as bs = u1
  generalize cv bs as = u2
  cases a <;> cases b <;> cases u1 <;> cases u2 <;> decide
/-- a thing that is seen with W, W reading on for k stars: no breach, and what one comes to is seen with the rest -/
theorem fol_sd {ths : List Thg} (h : ThSd ths) : ∀ (k n : Nat) (t : Thg) (W : List R), ths[n]? = some t → cv t.T W = true → k < W.length → (W.take k).all R.hr = true →
    (fol ths k n).1 = [] ∧ ∀ m, (fol ths k n).2 = some m → ∃ u : Thg, ths[m]? = some u ∧ cv u.T (W.drop k) = true
  | 0, n, t, W, e, c, l, _ => ⟨rfl, fun m q => by cases q; exact ⟨t, e, c⟩⟩
  | k + 1, n, t, [], e, c, l, _ => absurd l (by simp)
  | k + 1, n, t, w :: W, e, c, l, a => by
    have a' : (w.hr && (W.take k).all R.hr) = true := a
    rw [Bool.and_eq_true] at a'
    have lt := cv_len c
    unfold fol
    rw [e]
    dsimp only
    cases ht : t.T with
    | nil => rw [ht] at lt; simp at lt
    | cons b bs =>
      rw [ht] at c
      obtain ⟨c1, c2⟩ := cv_r c a'.1
      have r0 : rdB t n = [] := by
        unfold rdB
        rw [ht]
        exact if_pos c1
      have v := h t (List.mem_of_getElem? e)
      rw [ht] at v
      cases z : t.v with
      | num i => simp only [r0]; exact ⟨trivial, fun m q => by cases q⟩
      | nul => simp only [r0]; exact ⟨trivial, fun m q => by cases q⟩
      | th j =>
        rw [z] at v
        obtain ⟨u, e2, c3⟩ := v
        have c4 : cv u.T W = true := cv_trans c3 c2
        obtain ⟨i1, i2⟩ := fol_sd h k j u W e2 c4 (by simpa using l) a'.2
        simp only [r0, i1]
        exact ⟨rfl, i2⟩
/-- a source for the value type G: no breach, and its value is sound -/
def Safe (ex : List (List R × List R)) : Prop := ∀ a b, exB ex a b = true → cv a b = true
theorem folX_sd {ths : List Thg} (h : ThSd ths) {sc : Sc} {e : Env} (c : ScSh ths sc e) {x : Str} {k : Nat} (j : jPlace e x k = none) : (folX ths sc x k).1 = [] ∧ ∀ m, (folX ths sc x k).2 = some m → ∃ u : Thg, ths[m]? = some u ∧ cv u.T (jSeen e x k) = true := by
  obtain ⟨T, h1, h2, h3⟩ := jPlace_none j
  obtain ⟨n, t, q1, q2, q3⟩ := c x T h1
  have a : (T.take k).all R.hr = true := by
    unfold jPlace at j
    rw [h1] at j
    by_cases z : T.length ≤ k
    · simp only [if_pos z] at j; cases j
    · simp only [if_neg z] at j
      by_cases y : (T.take k).all R.hr = true
      · exact y
      · rw [if_neg y] at j; cases j
  unfold folX
  rw [q1, h3]
  exact fol_sd h k n t T q2 (by rw [q3]; exact cv_refl T) h2 a
theorem gv_sd {ths : List Thg} (h : ThSd ths) {sc : Sc} {e : Env} (c : ScSh ths sc e) {ex : List (List R × List R)} (sf : Safe ex) {G : List R} {s : Src} (j : jSrc e ex G s = none) : (gv ths sc s).1 = [] ∧ ∀ v, (gv ths sc s).2 = some v → VSd ths G v := by
  have conv : ∀ {W : List R}, jConv ex W G = none → cv W G = true := fun {W} q => by
    unfold jConv at q
    split at q
    · cases q
    · split at q
      · rename_i z
        rw [Bool.or_eq_true] at z
        exact z.elim id (sf _ _)
      · cases q
  cases s with
  | num n => exact ⟨rfl, fun v q => by cases q; trivial⟩
  | null => exact ⟨rfl, fun v q => by cases q; trivial⟩
  | adr x k =>
    have j' : (match jPlace e x k with | some f => some f | none => jConv ex (jSeen e x k) G) = none := j
    cases z : jPlace e x k with
    | some f => rw [z] at j'; cases j'
    | none =>
      rw [z] at j'
      obtain ⟨i1, i2⟩ := folX_sd h c z
      refine ⟨i1, fun v q => ?_⟩
      have q' : (folX ths sc x k).2.map Vl.th = some v := q
      cases w : (folX ths sc x k).2 with
      | none => rw [w] at q'; cases q'
      | some m =>
        rw [w] at q'
        cases q'
        obtain ⟨u, e1, e2⟩ := i2 m w
        exact ⟨u, e1, cv_trans e2 (conv j')⟩
  | val x k =>
    have j' : (match jPlace e x k with | some f => some f | none => if (hdR (jSeen e x k)).hr then jConv ex ((jSeen e x k).drop 1) G else some "may not read") = none := j
    cases z : jPlace e x k with
    | some f => rw [z] at j'; cases j'
    | none =>
      rw [z] at j'
      dsimp only at j'
      by_cases y : (hdR (jSeen e x k)).hr = true
      · rw [if_pos y] at j'
        obtain ⟨i1, i2⟩ := folX_sd h c z
        obtain ⟨r, W, hs, _⟩ := seen_cons z
        have g1 : (gv ths sc (.val x k)) = rdV ths (folX ths sc x k) := rfl
        rw [g1]
        cases w : folX ths sc x k with
        | mk b o =>
        rw [w] at i1 i2
        have i1 : b = [] := i1
        subst i1
        cases o with
        | none => exact ⟨rfl, fun v q => by cases q⟩
        | some m =>
          obtain ⟨u, e1, e2⟩ := i2 m rfl
          rw [hs] at e2 y j'
          have lt := cv_len e2
          simp only [rdV, e1]
          cases hu : u.T with
          | nil => rw [hu] at lt; simp at lt
          | cons b bs =>
            rw [hu] at e2
            obtain ⟨c1, c2⟩ := cv_r e2 y
            have r0 : rdB u m = [] := by
              unfold rdB
              rw [hu]
              exact if_pos c1
            rw [r0]
            refine ⟨rfl, fun v q => ?_⟩
            cases q
            have v := h u (List.mem_of_getElem? e1)
            rw [hu] at v
            exact (VSd.cv v c2).cv (conv j')
      · rw [if_neg y] at j'
        cases j'
def VSds (ths : List Thg) : List (Str × List R) → List Vl → Prop
  | q :: ps, v :: vs => VSd ths (q.2.drop 1) v ∧ VSds ths ps vs
  | _, _ => True
theorem gvs_sd {ths : List Thg} (h : ThSd ths) {sc : Sc} {e : Env} (c : ScSh ths sc e) {ex : List (List R × List R)} (sf : Safe ex) : ∀ {ps : List (Str × List R)} {ss : List Src}, ps.length = ss.length → jCall e ex ps ss = none → (gvs ths sc ss).1 = [] ∧ ∀ vs, (gvs ths sc ss).2 = some vs → VSds ths ps vs
  | [], [], _, _ => ⟨rfl, fun vs q => by cases q; trivial⟩
  | [], _ :: _, l, _ => absurd l (by simp)
  | _ :: _, [], l, _ => absurd l (by simp)
  | p :: ps, s :: ss, l, j => by
    have j' : (match jSrc e ex (p.2.drop 1) s with | some f => some f | none => jCall e ex ps ss) = none := j
    cases z : jSrc e ex (p.2.drop 1) s with
    | some f => rw [z] at j'; cases j'
    | none =>
      rw [z] at j'
      obtain ⟨g1, g2⟩ := gv_sd h c sf z
      obtain ⟨i1, i2⟩ := gvs_sd h c sf (by simpa using l) j'
      unfold gvs
      cases w : gv ths sc s with
      | mk b o =>
      rw [w] at g1 g2
      have g1 : b = [] := g1
      subst g1
      cases o with
      | none => exact ⟨rfl, fun vs q => by cases q⟩
      | some v =>
        dsimp only
        rw [i1]
        refine ⟨rfl, fun vs q => ?_⟩
        cases y : (gvs ths sc ss).2 with
        | none => rw [y] at q; cases q
        | some us =>
          rw [y] at q
          cases q
          exact ⟨g2 v rfl, i2 us y⟩
theorem VSds.gr {a b : List Thg} (g : Gr a b) : ∀ {ps : List (Str × List R)} {vs : List Vl}, VSds a ps vs → VSds b ps vs
  | [], _, _ => trivial
  | _ :: _, [], _ => trivial
  | _ :: _, _ :: _, k => ⟨k.1.gr g, VSds.gr g k.2⟩
theorem ThSd.add {ths : List Thg} (h : ThSd ths) {x : Str} {T : List R} {v : Vl} (k : VSd ths (T.drop 1) v) : ThSd (ths ++ [⟨x, T, v⟩]) := fun t ht => by
  rcases List.mem_append.mp ht with ht | ht
  · exact (h t ht).gr (Gr.app _ _)
  · cases List.mem_singleton.mp ht
    exact k.gr (Gr.app _ _)
theorem ThSd.set {ths : List Thg} (h : ThSd ths) {m : Nat} {t : Thg} (e : ths[m]? = some t) {v : Vl} (k : VSd ths (t.T.drop 1) v) : ThSd (ths.set m ⟨t.x, t.T, v⟩) := fun u hu => by
  have g := Gr.set ths m e v
  obtain ⟨i, hi⟩ := List.getElem?_of_mem hu
  by_cases c : m = i
  · subst c
    rw [List.getElem?_set_self (at_lt e)] at hi
    cases hi
    exact k.gr g
  · rw [List.getElem?_set_ne c] at hi
    exact (h u (List.mem_of_getElem? hi)).gr g
theorem bind_sd : ∀ {ps : List (Str × List R)} {vs : List Vl} {ths : List Thg} {sc : Sc}, ThSd ths → VSds ths ps vs → ThSd (bindP ths sc ps vs).1
  | [], _, _, _, h, _ => h
  | _ :: _, [], _, _, h, _ => h
  | q :: ps, v :: vs, ths, sc, h, k => bind_sd (ps := ps) (vs := vs) (h.add k.1) (VSds.gr (Gr.app _ _) k.2)
/-- shape from judging -/
theorem conv_len {ex : List (List R × List R)} {a b : List R} (j : jConv ex a b = none) : a.length = b.length := by
  unfold jConv at j
  by_cases c : a.length = b.length
  · exact c
  · rw [if_pos c] at j; cases j
theorem src_sh {e : Env} {ex : List (List R × List R)} {G : List R} {s : Src} (j : jSrc e ex G s = none) : shSrc e G.length s := by
  cases s with
  | num n =>
    have j' : (if G = [] then none else some ("other depth" : Str)) = none := j
    by_cases c : G = []
    · rw [c]; rfl
    · rw [if_neg c] at j'; cases j'
  | null =>
    have j' : (if G = [] then some ("other depth" : Str) else none) = none := j
    by_cases c : G = []
    · rw [if_pos c] at j'; cases j'
    · exact fun z => c (List.eq_nil_of_length_eq_zero z)
  | adr x k =>
    have j' : (match jPlace e x k with | some f => some f | none => jConv ex (jSeen e x k) G) = none := j
    cases z : jPlace e x k with
    | some f => rw [z] at j'; cases j'
    | none =>
      rw [z] at j'
      obtain ⟨T, h1, h2, h3⟩ := jPlace_none z
      have := conv_len j'
      rw [h3, List.length_drop] at this
      exact ⟨T, h1, h2, this⟩
  | val x k =>
    have j' : (match jPlace e x k with | some f => some f | none => if (hdR (jSeen e x k)).hr then jConv ex ((jSeen e x k).drop 1) G else some "may not read") = none := j
    cases z : jPlace e x k with
    | some f => rw [z] at j'; cases j'
    | none =>
      rw [z] at j'
      dsimp only at j'
      obtain ⟨T, h1, h2, h3⟩ := jPlace_none z
      split at j'
      · have := conv_len j'
        rw [h3, List.length_drop, List.length_drop] at this
        exact ⟨T, h1, h2, by omega⟩
      · cases j'
theorem srcs_sh {e : Env} {ex : List (List R × List R)} : ∀ {ps : List (Str × List R)} {ss : List Src}, ps.length = ss.length → jCall e ex ps ss = none → shSrcs e ps ss
  | [], [], _, _ => trivial
  | [], _ :: _, l, _ => absurd l (by simp)
  | _ :: _, [], l, _ => absurd l (by simp)
  | p :: ps, s :: ss, l, j => by
    have j' : (match jSrc e ex (p.2.drop 1) s with | some f => some f | none => jCall e ex ps ss) = none := j
    cases z : jSrc e ex (p.2.drop 1) s with
    | some f => rw [z] at j'; cases j'
    | none =>
      rw [z] at j'
      have := src_sh z
      rw [List.length_drop] at this
      exact ⟨this, srcs_sh (by simpa using l) j'⟩
theorem stm_sh {fs r : List TF} (nd : (fs.map TF.n).Nodup) (sub : ∀ g ∈ r, g ∈ fs) {e : Env} {ex : List (List R × List R)} {st : Stm} (o : stO st) (k : cf r st) (j : jStm fs e ex st = none) : shStm r e st := by
  cases st with
  | lt x T s =>
    have := src_sh (show jSrc e ex (T.drop 1) s = none from j)
    rw [List.length_drop] at this
    exact ⟨o.2.1.1, this⟩
  | put x i s =>
    have j' : (match jPlace e x i with | some f => some f | none => if (hdR (jSeen e x i)).hw then jSrc e ex ((jSeen e x i).drop 1) s else some ("may not write" : Str)) = none := j
    cases z : jPlace e x i with
    | some f => rw [z] at j'; cases j'
    | none =>
      rw [z] at j'
      dsimp only at j'
      obtain ⟨T, h1, h2, h3⟩ := jPlace_none z
      split at j'
      · have := src_sh j'
        rw [h3, List.length_drop, List.length_drop] at this
        exact ⟨T, h1, h2, this⟩
      · cases j'
  | call f ss =>
    obtain ⟨g, hg, rfl, l⟩ := k
    have j' : jCall e ex (prm fs g.n) ss = none := j
    rw [prm_eq nd (sub g hg)] at j'
    exact ⟨g, hg, rfl, srcs_sh l.symm j'⟩
/-- one statement that is let by -/
theorem ex1_sd {lim : Bool} {cl : CL} {fs r : List TF} (nd : (fs.map TF.n).Nodup) (sub : ∀ g ∈ r, g ∈ fs) {ex : List (List R × List R)} (sf : Safe ex)
    (hcl : ∀ g ∈ r, ∀ vs s, ThSd s.th → ThSh s.th → VShs s.th g.p vs → VSds s.th g.p vs → ThSd (cl g.n vs s).2.th ∧ (cl g.n vs s).2.br = s.br) {sc : Sc} {s : RS} {st : Stm} {e : Env} (h : ThSd s.th) (th : ThSh s.th) (c : ScSh s.th sc e) (k : cf r st) (j : jStm fs e ex st = none) :
    ThSd (ex1 lim cl sc s st).2.1.th ∧ (ex1 lim cl sc s st).2.1.br = s.br := by
  unfold ex1
  by_cases z : lim = true ∧ 1000 ≤ s.n
  · rw [if_pos z]
    exact ⟨h, rfl⟩
  rw [if_neg z]
  cases st with
  | lt x T src =>
    obtain ⟨g1, g2⟩ := gv_sd h c sf (show jSrc e ex (T.drop 1) src = none from j)
    dsimp only
    cases q : gv s.th sc src with
    | mk b o =>
    rw [q] at g1 g2
    have g1 : b = [] := g1
    subst g1
    cases o with
    | none => exact ⟨h, by simp⟩
    | some v => exact ⟨h.add (g2 v rfl), by simp⟩
  | put x i src =>
    have j' : (match jPlace e x i with | some f => some f | none => if (hdR (jSeen e x i)).hw then jSrc e ex ((jSeen e x i).drop 1) src else some ("may not write" : Str)) = none := j
    cases z : jPlace e x i with
    | some f => rw [z] at j'; cases j'
    | none =>
      rw [z] at j'
      dsimp only at j'
      by_cases y : (hdR (jSeen e x i)).hw = true
      · rw [if_pos y] at j'
        obtain ⟨g1, g2⟩ := gv_sd h c sf j'
        obtain ⟨i1, i2⟩ := folX_sd h c z
        obtain ⟨r0, W, hs, _⟩ := seen_cons z
        dsimp only
        cases q : folX s.th sc x i with
        | mk b o =>
        rw [q] at i1 i2
        have i1 : b = [] := i1
        subst i1
        cases o with
        | none => exact ⟨h, by simp⟩
        | some m =>
          obtain ⟨u, e1, e2⟩ := i2 m rfl
          dsimp only
          cases q2 : gv s.th sc src with
          | mk b2 o =>
          rw [q2] at g1 g2
          have g1 : b2 = [] := g1
          subst g1
          cases o with
          | none => exact ⟨h, by simp⟩
          | some v =>
            dsimp only
            unfold putT
            rw [e1]
            rw [hs] at e2 y g2
            have lt := cv_len e2
            cases hu : u.T with
            | nil => rw [hu] at lt; simp at lt
            | cons b bs =>
              rw [hu] at e2
              obtain ⟨c1, c2⟩ := cv_w e2 y
              have w0 : wrB u m = [] := by
                unfold wrB
                rw [hu]
                exact if_pos c1
              dsimp only
              rw [w0]
              refine ⟨h.set e1 ?_, by simp⟩
              rw [hu]
              exact (g2 v rfl).cv c2
      · rw [if_neg y] at j'
        cases j'
  | call f ss =>
    obtain ⟨g, hg, rfl, l⟩ := k
    have j' : jCall e ex (prm fs g.n) ss = none := j
    rw [prm_eq nd (sub g hg)] at j'
    obtain ⟨g1, g2⟩ := gvs_sd h c sf l.symm j'
    have g3 := gvs_sh th c (srcs_sh l.symm j')
    dsimp only
    cases q : gvs s.th sc ss with
    | mk b o =>
    rw [q] at g1 g2 g3
    have g1 : b = [] := g1
    subst g1
    cases o with
    | none => exact ⟨h, by simp⟩
    | some vs =>
      obtain ⟨h1, h2⟩ := hcl g hg vs ⟨s.th, s.br ++ [], s.n + 1⟩ h th (g3 vs rfl) (g2 vs rfl)
      exact ⟨h1, h2.trans (List.append_nil _)⟩
/-- a block that is let by -/
def jGood (fs r : List TF) (ex : List (List R × List R)) : Env → List Stm → Prop
  | _, [] => True
  | e, s :: ss => stO s ∧ cf r s ∧ jStm fs e ex s = none ∧ jGood fs r ex (envS e s) ss
theorem good_sh {fs r : List TF} (nd : (fs.map TF.n).Nodup) (sub : ∀ g ∈ r, g ∈ fs) {ex : List (List R × List R)} : ∀ {b : List Stm} {e : Env}, jGood fs r ex e b → shBlk r e b
  | [], _, _ => trivial
  | _ :: _, _, h => ⟨stm_sh nd sub h.1 h.2.1 h.2.2.1, good_sh nd sub h.2.2.2⟩
theorem exs_sd {lim : Bool} {cl : CL} {fs r : List TF} (nd : (fs.map TF.n).Nodup) (sub : ∀ g ∈ r, g ∈ fs) {ex : List (List R × List R)} (sf : Safe ex)
    (hcl : ∀ g ∈ r, ∀ vs s, ThSd s.th → ThSh s.th → VShs s.th g.p vs → VSds s.th g.p vs → ThSd (cl g.n vs s).2.th ∧ (cl g.n vs s).2.br = s.br)
    (hsh : ∀ g ∈ r, ∀ vs s, ThSh s.th → VShs s.th g.p vs → ThSh (cl g.n vs s).2.th ∧ Gr s.th (cl g.n vs s).2.th) : ∀ {b : List Stm} {sc : Sc} {s : RS} {e : Env}, ThSd s.th → ThSh s.th → ScSh s.th sc e → jGood fs r ex e b →
    ThSd (exs lim cl sc s b).2.1.th ∧ (exs lim cl sc s b).2.1.br = s.br
  | [], _, _, _, h, _, _, _ => ⟨h, rfl⟩
  | st :: b, sc, s, e, h, th, c, k => by
    obtain ⟨h1, h2⟩ := ex1_sd (lim := lim) nd sub sf hcl h th c k.2.1 k.2.2.1
    obtain ⟨i1, i2, i3⟩ := ex1_sh (lim := lim) hsh th c (stm_sh nd sub k.1 k.2.1 k.2.2.1)
    unfold exs
    cases q : ex1 lim cl sc s st with
    | mk o p =>
    obtain ⟨s', sc'⟩ := p
    rw [q] at h1 h2 i1 i2 i3
    cases o with
    | go =>
      obtain ⟨j1, j2⟩ := exs_sd nd sub sf hcl hsh (lim := lim) (b := b) h1 i1 (i3 rfl) k.2.2.2
      exact ⟨j1, j2.trans h2⟩
    | stop => exact ⟨h1, h2⟩
    | long => exact ⟨h1, h2⟩
/-- functions that are let by, the last one first -/
def FnGood (fs : List TF) (ex : List (List R × List R)) : List TF → Prop
  | [] => True
  | g :: r => (∀ q ∈ g.p, 1 ≤ q.2.length) ∧ jGood fs r ex (envP e0 g.p) g.b ∧ g.n ∉ r.map TF.n ∧ FnGood fs ex r
theorem FnGood.sh {fs : List TF} (nd : (fs.map TF.n).Nodup) {ex : List (List R × List R)} : ∀ {r : List TF}, (∀ g ∈ r, g ∈ fs) → FnGood fs ex r → FnSh r
  | [], _, _ => trivial
  | _ :: _, sub, h => ⟨h.1, good_sh nd (fun q hq => sub q (List.mem_cons_of_mem _ hq)) h.2.1, h.2.2.1, FnGood.sh nd (fun q hq => sub q (List.mem_cons_of_mem _ hq)) h.2.2.2⟩
theorem call_sd {lim : Bool} {fs : List TF} (nd : (fs.map TF.n).Nodup) {ex : List (List R × List R)} (sf : Safe ex) : ∀ {r : List TF}, (∀ g ∈ r, g ∈ fs) → FnGood fs ex r → ∀ g ∈ r, ∀ vs s, ThSd s.th → ThSh s.th → VShs s.th g.p vs → VSds s.th g.p vs → ThSd (callF lim r g.n vs s).2.th ∧ (callF lim r g.n vs s).2.br = s.br
  | g :: r, sub, k, f, hf, vs, s, h, th, v, v2 => by
    have sub' : ∀ q ∈ r, q ∈ fs := fun q hq => sub q (List.mem_cons_of_mem _ hq)
    obtain ⟨k1, k2, k3, k4⟩ := k
    unfold callF
    rcases List.mem_cons.mp hf with rfl | hf
    · rw [if_pos rfl]
      obtain ⟨h1, h2, h3⟩ := bind_sh th (ScSh.nil _ sc0) k1 v
      exact exs_sd nd sub' sf (call_sd nd sf sub' k4) (call_sh (k4.sh nd sub')) (s := ⟨(bindP s.th sc0 f.p vs).1, s.br, s.n⟩) (bind_sd h v2) h1 h2 k2
    · rw [if_neg fun z => k3 (by rw [z]; exact List.mem_map_of_mem hf)]
      exact call_sd nd sf sub' k4 f hf vs s h th v v2
theorem run_sd {lim : Bool} {fs : List TF} {ss : List Stm} (nd : (fs.map TF.n).Nodup) {ex : List (List R × List R)} (sf : Safe ex) (k : FnGood fs ex fs.reverse) (g : jGood fs fs.reverse ex e0 ss) : (runP lim fs ss).2.1.br = [] := by
  have sub : ∀ g ∈ fs.reverse, g ∈ fs := fun g hg => List.mem_reverse.mp hg
  exact (exs_sd nd sub sf (call_sd nd sf sub k) (call_sh (k.sh nd sub)) (s := s0) (fun t ht => by cases ht) (fun t ht => by cases ht) (ScSh.nil _ _) g).2
/-- from no faults -/
theorem blk_good {fs r : List TF} {ex : List (List R × List R)} : ∀ {b : List Stm} {e : Env} {k : Nat}, jBlk fs ex e k b = [] → (∀ s ∈ b, stO s) → (∀ s ∈ b, cf r s) → jGood fs r ex e b
  | [], _, _, _, _, _ => trivial
  | s :: b, e, k, h, o, c => by
    rw [jBlk_at'] at h
    obtain ⟨h1, h2⟩ := List.append_eq_nil_iff.mp h
    refine ⟨o s (List.mem_cons_self ..), c s (List.mem_cons_self ..), ?_, blk_good h2 (fun t ht => o t (List.mem_cons_of_mem _ ht)) fun t ht => c t (List.mem_cons_of_mem _ ht)⟩
    cases z : jStm fs e ex s with
    | none => rfl
    | some f => rw [z] at h1; cases h1
theorem fns_good {fs : List TF} {ex : List (List R × List R)} : ∀ (r d : List TF) (ss : List Stm), Fit d r ss → FnGood fs ex d.reverse → (∀ f ∈ r, FOk f) → ((d ++ r).map TF.n).Nodup → (∀ f ∈ r, jFn fs ex f = []) → FnGood fs ex (d ++ r).reverse ∧ ∀ s ∈ ss, cf (d ++ r).reverse s
  | [], d, ss, h, g, _, _, _ => by
    rw [List.append_nil]
    exact ⟨g, fun s hs => cf_mono (h s hs) fun f hf => List.mem_reverse.mpr hf⟩
  | f :: r, d, ss, h, g, o, nd, j => by
    have fo := o f (List.mem_cons_self ..)
    have jf := j f (List.mem_cons_self ..)
    have jb : jBlk fs ex (envP e0 f.p) 0 f.b = [] := by
      unfold jFn at jf
      exact List.map_eq_nil_iff.mp jf
    have e : d ++ f :: r = (d ++ [f]) ++ r := by simp
    rw [e]
    refine fns_good r (d ++ [f]) ss h.2 ?_ (fun q hq => o q (List.mem_cons_of_mem _ hq)) (by rw [← e]; exact nd) fun q hq => j q (List.mem_cons_of_mem _ hq)
    rw [List.reverse_append]
    refine ⟨fun q hq => (fo.po q hq).2.1, blk_good jb fo.bo fun s hs => cf_mono (h.1 s hs) fun q hq => List.mem_reverse.mpr hq, fun z => ?_, g⟩
    rw [List.map_append, List.map_cons, List.nodup_append] at nd
    obtain ⟨q, hq, eq⟩ := List.mem_map.mp z
    exact nd.2.2 _ (List.mem_map_of_mem (List.mem_reverse.mp hq)) _ (List.mem_cons_self ..) eq
/-- a program that is let by: its functions, its statements -/
theorem prog_good {fs : List TF} {ss : List Stm} {ex : List (List R × List R)} (ok : POk fs ss) (j : jAll fs ss ex = []) : FnGood fs ex fs.reverse ∧ jGood fs fs.reverse ex e0 ss := by
  obtain ⟨h1, h2⟩ := List.append_eq_nil_iff.mp j
  have nd := (List.nodup_append.mp ok.nd).1
  obtain ⟨g1, g2⟩ := fns_good (fs := fs) (ex := ex) fs [] ss ok.ft trivial ok.fo (by simpa using nd) fun f hf => by
    rw [List.flatMap_eq_nil_iff] at h1
    exact h1 f hf
  rw [List.nil_append] at g1 g2
  exact ⟨g1, blk_good (List.map_eq_nil_iff.mp h2) ok.so g2⟩
end Ver

set_option Elab.async false
set_option linter.all false
set_option maxRecDepth 100000
set_option maxHeartbeats 4000000
namespace Ver
open PySem PySem.Spec PyProof.Rows L2 Evl
/-! ## what goes on while a program runs -/
theorem callF_at {lim : Bool} : ∀ {r : List TF}, FnSh r → ∀ g ∈ r, ∃ r2, r2.length < r.length ∧ (∀ f ∈ r2, f ∈ r) ∧ FnSh r2 ∧ shBlk r2 (envP e0 g.p) g.b ∧ (∀ q ∈ g.p, 1 ≤ q.2.length) ∧
    ∀ vs s, callF lim r g.n vs s = ((exs lim (callF lim r2) (bindP s.th sc0 g.p vs).2 ⟨(bindP s.th sc0 g.p vs).1, s.br, s.n⟩ g.b).1, (exs lim (callF lim r2) (bindP s.th sc0 g.p vs).2 ⟨(bindP s.th sc0 g.p vs).1, s.br, s.n⟩ g.b).2.1)
  | f :: r, k, g, hg => by
    obtain ⟨k1, k2, k3, k4⟩ := k
    rcases List.mem_cons.mp hg with rfl | hg
    · refine ⟨r, by simp, fun q hq => List.mem_cons_of_mem _ hq, k4, k2, k1, fun vs s => ?_⟩
      simp only [callF, if_true]
    · obtain ⟨r2, h1, h2, h3, h4, h5, h6⟩ := callF_at (lim := lim) k4 g hg
      refine ⟨r2, by simp; omega, fun q hq => List.mem_cons_of_mem _ (h2 q hq), h3, h4, h5, fun vs s => ?_⟩
      have ne : f.n ≠ g.n := fun z => k3 (by rw [z]; exact List.mem_map_of_mem hg)
      rw [← h6 vs s]
      simp only [callF, if_neg ne]
structure SC0 (s : RS) : Prop where
  t : s.th.length + 4 ≤ 4 * s.n
  b : s.br.length + 24 ≤ 24 * s.n
  n : s.n ≤ 1000
section
variable {K : PySem.W.Frag}
abbrev MX (z md br sd : Addr) : List Addr := [z, md, br, sd]
structure XC (K : PySem.W.Frag) (CS CF : Addr) (H : Hp) (z md br sc sd pd : Addr) (fs r : List TF) (c : Sc) (N : Nat) (e : Env) (s : RS) : Prop where
  sa : SA K CS H z md br sc s
  dd : ScD H sd c N
  fn : FnD K CF (dl (MX z md br sd) H) pd fs
  sub : ∀ g ∈ r, g ∈ fs
  sh : FnSh r
  fo : ∀ g ∈ r, FOk g
  th : ThSh s.th
  ss : ScSh s.th c e
  nN : N ≤ 70000
def RunQ (K : PySem.W.Frag) (CS CN CE : Addr) (M : List Addr) (H : Hp) (z md br sc sd : Addr) (N : Nat) (q : Out × RS × Sc) (Q : VK) (E : XK) : Prop :=
  (q.1 = .go → ∀ H1, Kp M H H1 → SA K CS H1 z md br sc q.2.1 → ScD H1 sd q.2.2 N → Q .non H1) ∧
  (q.1 = .stop → ∀ H1, Kp M H H1 → SA K CS H1 z md br sc q.2.1 → E (.ref CN) none H1) ∧
  (q.1 = .long → ∀ d H1, Kp M H H1 → H1 d = some (.xd [("reason", .str "too long")]) → E (.ref CE) (some d) H1)
def pEx (K : PySem.W.Frag) (CS CF CN CE : Addr) (d : Nat) : Sp := fun vs H Q E => ∃ z md br sc sd pd v fs r c N e s st, vs = [.ref z, .ref pd, .ref sd, v] ∧ XC K CS CF H z md br sc sd pd fs r c N e s ∧ SB s ∧ r.length ≤ d ∧ Dp K (dl (MX z md br sd) H) v (stD st) ∧ stO st ∧ shStm r e st ∧
  RunQ K CS CN CE (MX z md br sd) H z md br sc sd (N + 1) (ex1 true (callF true r) c s st) Q E
def pAll (K : PySem.W.Frag) (CS CF CN CE : Addr) (d : Nat) : Sp := fun vs H Q E => ∃ z md br sc sd pd lb xs fs r c N e s b, vs = [.ref z, .ref pd, .ref sd, .ref lb] ∧ XC K CS CF H z md br sc sd pd fs r c N e s ∧ SB s ∧ r.length ≤ d ∧ SqL K (dl (MX z md br sd) H) lb xs ∧ DpAll K (dl (MX z md br sd) H) xs (b.map stD) ∧ (∀ st ∈ b, stO st) ∧ shBlk r e b ∧ N + b.length ≤ 60000 ∧
  RunQ K CS CN CE (MX z md br sd) H z md br sc sd (N + b.length) (exs true (callF true r) c s b) Q E
def pCl (K : PySem.W.Frag) (CS CF CN CE : Addr) (d : Nat) : Sp := fun vs H Q E => ∃ z md br sc sd pd v fs r c N e s f ss, vs = [.ref z, .ref pd, .ref sd, v] ∧ XC K CS CF H z md br sc sd pd fs r c N e s ∧ SC0 s ∧ r.length ≤ d ∧ Dp K (dl (MX z md br sd) H) v (stD (.call f ss)) ∧ stO (.call f ss) ∧ shStm r e (.call f ss) ∧
  ((exC (callF true r) c s f ss).1 = .go → ∀ H1, Kp [z, md, br] H H1 → SA K CS H1 z md br sc (exC (callF true r) c s f ss).2 → Q .non H1) ∧
  ((exC (callF true r) c s f ss).1 = .stop → ∀ H1, Kp [z, md, br] H H1 → SA K CS H1 z md br sc (exC (callF true r) c s f ss).2 → E (.ref CN) none H1) ∧
  ((exC (callF true r) c s f ss).1 = .long → ∀ d H1, Kp [z, md, br] H H1 → H1 d = some (.xd [("reason", .str "too long")]) → E (.ref CE) (some d) H1)
theorem XC.ne {CS CF : Addr} {H : Hp} {z md br sc sd pd : Addr} {fs r : List TF} {c : Sc} {N : Nat} {e : Env} {s : RS} (x : XC K CS CF H z md br sc sd pd fs r c N e s) : sd ≠ z ∧ sd ≠ md ∧ sd ≠ br := x.dd.ne x.sa
theorem w_lcX {wi : TI} {g : TG} {tt : TT} {te : XK → TE} {W : WX} {vs : List Nat} {σ : L2.St} {H : Hp} {Q : VK} (h : tLc wi g tt (te fun c d H' => W c d σ H') vs σ H Q) : tLcX wi g tt te W vs σ H Q := h
/-- what stands without the changing places stands still -/
theorem dl_kp {M : List Addr} {H H1 : Hp} (k : Kp M H H1) : Ex (dl M H) (dl M H1) := dl_ks k.k
theorem dl_to {z md br sd sx : Addr} {H H1 : Hp} (k : Kp (MX z md br sd) H H1) (n : H sx = none) : Ex (dl (MX z md br sd) H) (dl (MX z md br sx) H1) := fun a o h => by
  by_cases m : a ∈ MX z md br sd
  · rw [dl_in m] at h
    cases h
  · rw [dl_nin m] at h
    rw [dl_nin]
    · exact k.at m h
    · intro m2
      simp only [List.mem_cons, List.not_mem_nil, or_false] at m m2
      rcases m2 with q | q | q | q
      · exact m (.inl q)
      · exact m (.inr (.inl q))
      · exact m (.inr (.inr (.inl q)))
      · rw [q, n] at h
        cases h
theorem gvs_snoc {ths : List Thg} {sc : Sc} {s : Src} {ss : List Src} {b : Brs} {v : Vl} (h : gv ths sc s = (b, some v)) : gvs ths sc (s :: ss) = (b ++ (gvs ths sc ss).1, (gvs ths sc ss).2.map (v :: ·)) := by
  simp only [gvs, h]
theorem gvs_none {ths : List Thg} {sc : Sc} {s : Src} {ss : List Src} {b : Brs} (h : gv ths sc s = (b, none)) : gvs ths sc (s :: ss) = (b, none) := by
  simp only [gvs, h]
end
end Ver

set_option Elab.async false
set_option linter.all false
set_option maxRecDepth 100000
set_option maxHeartbeats 4000000
namespace Ver
open PySem PySem.Spec PyProof.Rows L2 Evl
section
variable {K : PySem.W.Frag}
/-! ## machines as objects -/
theorem dpa_unsnoc {H : Hp} : ∀ {xs : List V} {ds : List PyData} {d : PyData}, DpAll K H xs (ds ++ [d]) → ∃ ys v, xs = ys ++ [v] ∧ DpAll K H ys ds ∧ Dp K H v d
  | _, [], _, .cons h .nil => ⟨[], _, rfl, .nil, h⟩
  | _, _ :: _, _, .cons h t => by
    obtain ⟨ys, v, rfl, h1, h2⟩ := dpa_unsnoc t
    exact ⟨_ :: ys, v, rfl, .cons h h1, h2⟩
def mcF (xa fa bn sa ta : Addr) : List (Str × V) := putF "_states" (.ref ta) (putF "_statements" (.ref sa) (putF "_by_name" (.ref bn) (putF "_functions" (.ref fa) (putF "_extra" (.ref xa) []))))
theorem mc_states (xa fa bn sa ta : Addr) : (mcF xa fa bn sa ta).lookup ("_states" : Str) = some (.ref ta) := by
  unfold mcF
  rw [lookup_putF, if_pos rfl]
theorem mc_statements (xa fa bn sa ta : Addr) : (mcF xa fa bn sa ta).lookup ("_statements" : Str) = some (.ref sa) := by
  unfold mcF
  rw [lookup_putF, if_neg (by decide +kernel), lookup_putF, if_pos rfl]
theorem mc_by_name (xa fa bn sa ta : Addr) : (mcF xa fa bn sa ta).lookup ("_by_name" : Str) = some (.ref bn) := by
  unfold mcF
  rw [lookup_putF, if_neg (by decide +kernel), lookup_putF, if_neg (by decide +kernel), lookup_putF, if_pos rfl]
theorem mc_functions (xa fa bn sa ta : Addr) : (mcF xa fa bn sa ta).lookup ("_functions" : Str) = some (.ref fa) := by
  unfold mcF
  rw [lookup_putF, if_neg (by decide +kernel), lookup_putF, if_neg (by decide +kernel), lookup_putF, if_neg (by decide +kernel), lookup_putF, if_pos rfl]
theorem mc_extra (xa fa bn sa ta : Addr) : (mcF xa fa bn sa ta).lookup ("_extra" : Str) = some (.ref xa) := by
  unfold mcF
  rw [lookup_putF, if_neg (by decide +kernel), lookup_putF, if_neg (by decide +kernel), lookup_putF, if_neg (by decide +kernel), lookup_putF, if_neg (by decide +kernel), lookup_putF, if_pos rfl]
theorem mc_none {m : Str} (xa fa bn sa ta : Addr) (h : ((m ≠ "_states" ∧ m ≠ "_statements") ∧ m ≠ "_by_name") ∧ m ≠ "_functions" ∧ m ≠ "_extra") : (mcF xa fa bn sa ta).lookup m = none := by
  unfold mcF
  rw [lookup_putF, if_neg (fun z => h.1.1.1 z), lookup_putF, if_neg (fun z => h.1.1.2 z), lookup_putF, if_neg (fun z => h.1.2 z), lookup_putF, if_neg (fun z => h.2.1 z), lookup_putF, if_neg (fun z => h.2.2 z)]
  rfl
inductive StAll (K : PySem.W.Frag) (CS : Addr) (H : Hp) : Nat → List V → List (RS × Sc) → Prop
  | nil {n : Nat} : StAll K CS H n [] []
  | cons {n : Nat} {z md br sc : Addr} {s : RS} {c : Sc} {zs : List V} {ss : List (RS × Sc)} : SA K CS H z md br sc s → ScD H sc c n → StAll K CS H (n + 1) zs ss → StAll K CS H n (.ref z :: zs) ((s, c) :: ss)
theorem StAll.up {CS : Addr} {H H1 : Hp} (e : Ex H H1) : ∀ {n : Nat} {zs : List V} {ss : List (RS × Sc)}, StAll K CS H n zs ss → StAll K CS H1 n zs ss
  | _, _, _, .nil => .nil
  | _, _, _, .cons a b t => .cons (a.ex e) (b.ex e) (t.up e)
theorem StAll.len {CS : Addr} {H : Hp} : ∀ {n : Nat} {zs : List V} {ss : List (RS × Sc)}, StAll K CS H n zs ss → zs.length = ss.length
  | _, _, _, .nil => rfl
  | _, _, _, .cons _ _ t => congrArg (· + 1) t.len
theorem StAll.snoc {CS : Addr} {H : Hp} {z md br sc : Addr} {s : RS} {c : Sc} (a : SA K CS H z md br sc s) : ∀ {n : Nat} {zs : List V} {ss : List (RS × Sc)}, ScD H sc c (n + ss.length) → StAll K CS H n zs ss → StAll K CS H n (zs ++ [.ref z]) (ss ++ [(s, c)])
  | _, _, _, b, .nil => .cons a b .nil
  | n, _, _ :: ss, b, .cons x y t => .cons x y (StAll.snoc a (b.mono (by simp; omega)) t)
theorem StAll.last {CS : Addr} {H : Hp} : ∀ {n : Nat} {zs : List V} {ss : List (RS × Sc)} {s : RS} {c : Sc}, StAll K CS H n zs (ss ++ [(s, c)]) → ∃ ys z md br sc, zs = ys ++ [.ref z] ∧ StAll K CS H n ys ss ∧ SA K CS H z md br sc s ∧ ScD H sc c (n + ss.length)
  | _, _, [], _, _, .cons a b .nil => ⟨[], _, _, _, _, rfl, .nil, a, b⟩
  | n, _, _ :: ss, _, _, .cons a b t => by
    obtain ⟨ys, z, md, br, sc, rfl, h1, h2, h3⟩ := StAll.last t
    exact ⟨_ :: ys, z, md, br, sc, rfl, .cons a b h1, h2, h3.mono (by simp; omega)⟩
structure MA (K : PySem.W.Frag) (CM CS CF : Addr) (H : Hp) (m xa fa bn sa ta : Addr) (fs : List TF) (ex : List (List R × List R)) (ps : List Stm) (sts : List (RS × Sc)) : Prop where
  o : ∃ dx, H m = some (.ins CM dx (mcF xa fa bn sa ta))
  x : XL K (dl [sa, ta] H) xa ex
  f : ∃ ws, (dl [sa, ta] H) fa = some (.lst ws) ∧ FnAll K CF (dl [sa, ta] H) ws (fs.map TF.fd)
  b : FnD K CF (dl [sa, ta] H) bn fs
  s : ∃ xs, H sa = some (.lst xs) ∧ DpAll K (dl [sa, ta] H) xs (ps.map stD)
  t : ∃ zs, H ta = some (.lst zs) ∧ StAll K CS (dl [sa, ta] H) 0 zs sts
  d : sa ≠ ta
theorem MA.ex {CM CS CF : Addr} {H H1 : Hp} {m xa fa bn sa ta : Addr} {fs : List TF} {ex : List (List R × List R)} {ps : List Stm} {sts : List (RS × Sc)} (h : MA K CM CS CF H m xa fa bn sa ta fs ex ps sts) (e : Ex H H1) : MA K CM CS CF H1 m xa fa bn sa ta fs ex ps sts where
  o := by
    obtain ⟨dx, g⟩ := h.o
    exact ⟨dx, e _ _ g⟩
  x := h.x.up (dl_ex e)
  f := by
    obtain ⟨ws, g1, g2⟩ := h.f
    exact ⟨ws, dl_ex e _ _ g1, g2.up (dl_ex e)⟩
  b := h.b.up (dl_ex e)
  s := by
    obtain ⟨xs, g1, g2⟩ := h.s
    exact ⟨xs, e _ _ g1, dpa_ex (dl_ex e) g2⟩
  t := by
    obtain ⟨zs, g1, g2⟩ := h.t
    exact ⟨zs, e _ _ g1, g2.up (dl_ex e)⟩
  d := h.d
/-- a sketch: there are types, and all are numbers -/
def skD (fs : List FD) (ss : List PyData) : Bool := decide (0 < (kindsD fs ss).length) && (kindsD fs ss).all fun d => numD d 5
theorem skD_typed (fs : List TF) (ss : List Stm) : skD (fs.map TF.fd) (ss.map stD) = false := by
  unfold skD
  rw [kindsD_eq]
  cases decl fs ss with
  | nil => rfl
  | cons q qs => simp [numD, ru]
theorem sm_sts {ss : List Stm} (h : ∀ s ∈ ss, stO s) : smAll (ss.map stD) = true := sm_map fun s hs => sm_stD (h s hs)
theorem im_dl {S : List Addr} {H : Hp} (h : ∀ a ∈ S, ∀ o, H a = some o → isT o = false) : Ex (Im H) (Im (dl S H)) := fun a o e => by
  obtain ⟨e1, e2⟩ := im_of e
  refine im_at (dl_at (fun m => ?_) e1) e2
  rw [h a m o e1] at e2
  cases e2
theorem SA.dl {CS : Addr} {S : List Addr} {H : Hp} {z md br sc : Addr} {s : RS} (a : SA K CS H z md br sc s) (h : ∀ a ∈ S, ∀ o, H a = some o → isT o = false) (n : z ∉ S ∧ md ∉ S ∧ br ∉ S) : SA K CS (Ver.dl S H) z md br sc s where
  o := by
    obtain ⟨dx, e⟩ := a.o
    exact ⟨dx, dl_at n.1 e⟩
  m := by
    obtain ⟨xs, e, d⟩ := a.m
    exact ⟨xs, dl_at n.2.1 e, dpa_ex (im_dl h) d⟩
  b := by
    obtain ⟨xs, e, d⟩ := a.b
    exact ⟨xs, dl_at n.2.2 e, dpa_ex (im_dl h) d⟩
  d := a.d
end
end Ver

set_option Elab.async false
set_option linter.all false
set_option maxRecDepth 100000
set_option maxHeartbeats 4000000
namespace Ver
open PySem PySem.Spec PyProof.Rows L2 Evl
section
variable {K : PySem.W.Frag} {σ : L2.St} {H : Hp} {te ta tb : TE} {t : TA} {d : PyData} {ds es : List PyData} {i : Nat}
/-! ## expressions that come out as data (apart from the places S) -/
variable {S : List Addr}
def EvD (K : PySem.W.Frag) (S : List Addr) (σ : L2.St) (H : Hp) (te : TE) (d : PyData) : Prop := ∀ H0, Ex H H0 → ∀ Q : VK, (∀ v H1, Ex H0 H1 → Dp K (dl S H1) v d → Q v H1) → te σ H0 Q
def EvL (K : PySem.W.Frag) (S : List Addr) (σ : L2.St) (H : Hp) (te : TE) (ds : List PyData) : Prop := ∀ H0, Ex H H0 → ∀ Q : VK, (∀ p vs H1, Ex H0 H1 → p ∉ S → H1 p = some (.lst vs) → DpAll K (dl S H1) vs ds → Q (.ref p) H1) → te σ H0 Q
def EvA (K : PySem.W.Frag) (S : List Addr) (σ : L2.St) (H : Hp) (t : TA) (ds : List PyData) : Prop := ∀ H0, Ex H H0 → ∀ Q : List V → Hp → Prop, (∀ vs H1, Ex H0 H1 → DpAll K (dl S H1) vs ds → Q vs H1) → t σ H0 Q
theorem ev_var {v : V} (e : σ[i]? = some (some v)) (h : Dp K (dl S H) v d) : EvD K S σ H (tVar i) d := fun H0 e0 Q k => ⟨v, e, k v H0 (Ex.refl _) (dp_ex (dl_ex e0) h)⟩
theorem ev_str {x : Str} : EvD K S σ H (tC (.str x)) (.str x) := fun H0 _ Q k => k _ H0 (Ex.refl _) (.str x)
theorem ev_int {x : Int} : EvD K S σ H (tC (.int x)) (.int x) := fun H0 _ Q k => k _ H0 (Ex.refl _) (.int x)
theorem ev_bl {x : Bool} : EvD K S σ H (tC (.bl x)) (.bool x) := fun H0 _ Q k => k _ H0 (Ex.refl _) (.bl x)
theorem ev_non : EvD K S σ H (tC .non) .none := fun H0 _ Q k => k _ H0 (Ex.refl _) .non
theorem ev_nil : EvA K S σ H tNil [] := fun H0 _ Q k => k [] H0 (Ex.refl _) .nil
theorem ev_cons (h : EvD K S σ H te d) (g : EvA K S σ H t ds) : EvA K S σ H (tCons te t) (d :: ds) := fun H0 e0 Q k =>
  h H0 e0 _ fun v H1 e1 dv => g H1 (e0.trans e1) _ fun vs H2 e2 dvs => k (v :: vs) H2 (e1.trans e2) (.cons (dp_ex (dl_ex e2) dv) dvs)
theorem ev_lst (al : Al S H) (h : EvA K S σ H t ds) (z : ds.length ≤ 100000) : EvL K S σ H (tLst t) ds := fun H0 e0 Q k =>
  h H0 e0 _ fun vs H1 e1 dvs => new_lst (by rw [dpa_len dvs]; exact z) fun p H2 n e2 f => k p vs H2 (e1.trans e2) ((al.ex (e0.trans e1)).nin n) f (dpa_ex (dl_ex e2) dvs)
theorem ev_ll (h : EvL K S σ H te ds) : EvD K S σ H te (.list ds) := fun H0 e0 Q k => h H0 e0 _ fun p vs H1 e1 np f dvs => k _ H1 e1 (.lst (SqL.of (dl_at np f)) dvs)
theorem ev_tup (al : Al S H) (h : EvA K S σ H t ds) (z : ds.length ≤ 100000) : EvD K S σ H (tTup t) (.tuple ds) := fun H0 e0 Q k =>
  h H0 e0 _ fun vs H1 e1 dvs => new_tup (by rw [dpa_len dvs]; exact z) fun p H2 n e2 f => k _ H2 (e1.trans e2) (.tup (SqT.of (dl_at ((al.ex (e0.trans e1)).nin n) f)) (dpa_ex (dl_ex e2) dvs))
theorem ev_lvar {p : Addr} {vs : List V} (e : σ[i]? = some (some (.ref p))) (np : p ∉ S) (f : H p = some (.lst vs)) (h : DpAll K (dl S H) vs ds) : EvL K S σ H (tVar i) ds := fun H0 e0 Q k => ⟨.ref p, e, k p vs H0 (Ex.refl _) np (e0 _ _ f) (dpa_ex (dl_ex e0) h)⟩
theorem ev_cat (al : Al S H) (h : EvL K S σ H ta ds) (g : EvL K S σ H tb es) (z : ds.length + es.length ≤ 100000) : EvL K S σ H (tOp rCat ta tb) (ds ++ es) := fun H0 e0 Q k =>
  h H0 e0 _ fun p vs H1 e1 _ f1 d1 => g H1 (e0.trans e1) _ fun q ws H2 e2 _ f2 d2 => a_cat (e2 _ _ f1) f2 (by rw [dpa_len d1, dpa_len d2]; exact z) fun l H3 n e3 f3 =>
    k l _ H3 ((e1.trans e2).trans e3) ((al.ex ((e0.trans e1).trans e2)).nin n) f3 (dpa_app (dpa_ex (dl_ex (e2.trans e3)) d1) (dpa_ex (dl_ex e3) d2))
theorem dpa_rep {G : Hp} {vs : List V} (h : DpAll K G vs ds) : ∀ n : Nat, DpAll K G (List.replicate n vs).flatten (List.replicate n ds).flatten
  | 0 => .nil
  | n + 1 => by
    rw [List.replicate_succ, List.replicate_succ, List.flatten_cons, List.flatten_cons]
    exact dpa_app h (dpa_rep h n)
/-- [a] * n -/
theorem ev_rep {n : Nat} (al : Al S H) (h : EvL K S σ H ta [d]) (e : σ[i]? = some (some (.int n))) (z : n ≤ 1000) : EvL K S σ H (tOp rRep ta (tVar i)) (List.replicate n d) := fun H0 e0 Q k =>
  h H0 e0 _ fun p vs H1 e1 _ f1 d1 => ⟨.int n, e, p, n, vs, rfl, rfl, f1, by omega, by omega, by
    rw [dpa_len d1, Int.toNat_natCast]
    exact sz_of (by simp; omega), fun q nq => by
    rw [Int.toNat_natCast]
    have x := dpa_rep d1 n
    have y : (List.replicate n [d]).flatten = List.replicate n d := by
      rw [List.flatten_replicate_singleton]
    rw [y] at x
    exact k q _ _ (e1.trans (Ex.new nq)) ((al.ex (e0.trans e1)).nin nq) upd_same (dpa_ex (dl_ex (Ex.new nq)) x)⟩
/-- a value that needs no heap -/
theorem ev_b {b : Bool} (h : ∀ (H0 : Hp) (Q : VK), Q (.bl b) H0 → te σ H0 Q) : EvD K S σ H te (.bool b) := fun H0 _ Q k => h H0 Q (k _ H0 (Ex.refl _) (.bl b))
theorem ev_i {b : Int} (h : ∀ (H0 : Hp) (Q : VK), Q (.int b) H0 → te σ H0 Q) : EvD K S σ H te (.int b) := fun H0 _ Q k => h H0 Q (k _ H0 (Ex.refl _) (.int b))
/-- many < m -/
theorem ev_lt {a m : Int} (e : σ[i]? = some (some (.int a))) : EvD K S σ H (tOp (rI0 fun i j => .bl (decide (i < j))) (tVar i) (tC (.int m))) (.bool (decide (a < m))) := ev_b fun H0 Q q => ⟨.int a, e, a, m, rfl, rfl, q⟩
theorem ev_call {sp : Sp} {E : XK} (h : EvA K S σ H t ds) (al : Al S H) (c : ∀ (H0 : Hp) (vs : List V) (Q : VK), Al S H0 → DpAll K (dl S H0) vs ds → (∀ v H1, Ex H0 H1 → Dp K (dl S H1) v d → Q v H1) → sp vs H0 Q E) : EvD K S σ H (tCall sp [] E t) d := fun H0 e0 Q k =>
  w_callN (h H0 e0 _ fun vs H1 e1 dvs => c H1 vs Q (al.ex (e0.trans e1)) dvs fun v H2 e2 dv => k v H2 (e1.trans e2) dv)
theorem run_l (h : EvL K S σ H te ds) {Q : VK} (k : ∀ p vs H1, Ex H H1 → p ∉ S → H1 p = some (.lst vs) → DpAll K (dl S H1) vs ds → Q (.ref p) H1) : te σ H Q := h H (Ex.refl _) Q k
theorem run_d (h : EvD K S σ H te d) {Q : VK} (k : ∀ v H1, Ex H H1 → Dp K (dl S H1) v d → Q v H1) : te σ H Q := h H (Ex.refl _) Q k
theorem ex_one {H1 H2 : Hp} {l : Addr} (n : H1 l = none) (e : Ex H1 H2) : Ex H1 (dl [l] H2) := fun b o z => by
  rw [dl_nin (by simpa using ne_of_none z n)]
  exact e b o z
/-- out = out + X -/
theorem run_cat {po : Addr} {vs : List V} {Q : VK} (e : σ[i]? = some (some (.ref po))) (f : H po = some (.lst vs)) (D : DpAll K (dl [po] H) vs ds) (g : EvL K [po] σ H tb es) (z : ds.length + es.length ≤ 100000)
    (k : ∀ l ws H1, Ex H H1 → Ex (dl [po] H) (dl [l] H1) → H l = none → H1 l = some (.lst ws) → DpAll K (dl [l] H1) ws (ds ++ es) → Q (.ref l) H1) : tOp rCat (tVar i) tb σ H Q :=
  ⟨.ref po, e, g H (Ex.refl _) _ fun q ws H2 e2 _ f2 d2 => a_cat (e2 _ _ f) f2 (by rw [dpa_len D, dpa_len d2]; exact z) fun l H3 n e3 f3 => by
    have E := (dl_le [po] H2).trans (ex_one n e3)
    refine k l _ H3 (e2.trans e3) ((dl_ex e2).trans E) ?_ f3 (dpa_app (dpa_ex ((dl_ex e2).trans E) D) (dpa_ex E d2))
    cases y : H l with
    | none => rfl
    | some o => rw [e2 _ _ y] at n; cases n⟩
/-- the argument of out.append(..) -/
theorem run_app {po : Addr} {vs : List V} {Q : VK} (f : H po = some (.lst vs)) (D : DpAll K (dl [po] H) vs ds) (g : EvD K [po] σ H te d) (z : ds.length < 100000)
    (k : ∀ ws H1, Ks [po] H H1 → H1 po = some (.lst ws) → DpAll K (dl [po] H1) ws (ds ++ [d]) → Q .non H1) : tCons te tNil σ H fun xs Hb => rAppend (.ref po) xs Hb Q :=
  g H (Ex.refl _) _ fun v H1 e1 dv => a_app (e1 _ _ f) (by rw [dpa_len D]; exact z) (k (vs ++ [v]) _ ((Ks.of e1).upd (by simp)) upd_same (by
    rw [dl_upd (by simp)]
    exact dpa_snoc (dpa_ex (dl_ex e1) D) dv))
/-- an inner list of a heap, apart from out -/
def LsAt (K : PySem.W.Frag) (po : Addr) (H : Hp) (p : Addr) (ds : List PyData) : Prop := p ≠ po ∧ ∃ vs, H p = some (.lst vs) ∧ DpAll K (dl [po] H) vs ds
theorem LsAt.dp {po p : Addr} (h : LsAt K po H p ds) : Dp K (dl [po] H) (.ref p) (.list ds) := by
  obtain ⟨n, vs, f, D⟩ := h
  exact .lst (SqL.of (dl_at (by simpa using n) f)) D
/-- [f(k) for k in range(n)], the items by their data -/
theorem run_comp {po : Addr} {vo : List V} {Q : VK} {n : Nat} {f : Nat → PyData} (fo : H po = some (.lst vo)) (hn : n ≤ 1000) (hw : ∀ v, wipe ((wipe σ [i]).set i (some v)) [i] = wipe σ [i])
    (ev : ∀ l h k, k < n → Ex H h → Al [l, po] h → EvD K [l, po] ((wipe σ [i]).set i (some (.int (0 + (k : Int))))) h te (f k))
    (hd : ∀ l ws h, H l = none → Ex H h → h l = some (.lst ws) → LsAt K po h l ((List.range n).map f) → Q (.ref l) h) : CompG (Itr 0 n) (gName i) tYes te [i] σ H Q := by
  refine cp_range (fun l k h => Ex H h ∧ Al [l, po] h ∧ ∃ ws, h l = some (.lst ws) ∧ DpAll K (dl [l, po] h) ws ((List.range k).map f)) (fun l n => ?_) ?_ ?_
  · have e := Ex.new (o := .lst []) n
    exact ⟨e, (Al.nil.cons (e _ _ fo)).cons upd_same, [], upd_same, .nil⟩
  · rintro l k h nl hk ⟨e, al, ws, fl, D⟩
    have wl := dpa_len D
    rw [List.length_map, List.length_range] at wl
    refine ⟨hw _, ?_⟩
    refine ev l h k hk e al h (Ex.refl _) _ fun v H1 e1 dv => ⟨ws, e1 _ _ fl, sz_lt (by omega), (e.trans e1).mut nl, (al.ex e1).upd, ws ++ [v], upd_same, ?_⟩
    rw [dl_upd (by simp), List.range_succ, List.map_append]
    exact dpa_snoc (dpa_ex (dl_ex e1) D) dv
  · rintro l h nl ⟨e, al, ws, fl, D⟩
    exact hd l ws h nl e fl ⟨(fun z => by rw [z, fo] at nl; cases nl), ws, fl, dpa_ex (dl_sub fun a c => List.mem_cons_of_mem _ c) D⟩
/-- 'a' + 'z..'[k] -/
theorem ev_sx {a z : Str} {c : Nat} {k : Int} (e : σ[i]? = some (some (.int k))) (hz : z.length ≤ 1000) (ha : a.length ≤ 1000) (h : atI z.cps.toList k = some c) :
    EvD K S σ H (tOp (fun x y H Q => ∃ i j, x = V.str i ∧ y = V.str j ∧ i.length + j.length ≤ sizeLine ∧ Q (V.str (i ++ j)) H) (tC (.str a)) (tOp rIxS (tC (.str z)) (tVar i))) (.str (a ++ ⟨#[c]⟩)) := fun H0 e0 Q q =>
  ⟨.int k, e, z, k, c, rfl, rfl, sz_of (by omega), h, a, ⟨#[c]⟩, rfl, rfl, sz_of (by show a.length + 1 ≤ 100000; omega), q _ H0 (Ex.refl _) (.str _)⟩
theorem LsAt.up {po pq p : Addr} {H' : Hp} (h : LsAt K po H p ds) (e : Ex (dl [po] H) (dl [pq] H')) : LsAt K pq H' p ds := by
  obtain ⟨n, vs, f, D⟩ := h
  have g := e _ _ (dl_at (by simpa using n) f)
  by_cases z : p ∈ [pq]
  · rw [dl_in z] at g
    cases g
  · rw [dl_nin z] at g
    exact ⟨fun y => z (by rw [y]; simp), vs, g, dpa_ex e D⟩
/-! ### data that the box of draws is no part of -/
def bxL : List PyData → Bool
  | [_, .int _] => true
  | _ => false
mutual
def nbD : PyData → Bool
  | .list ds => !bxL ds && nbA ds
  | .tuple ds => nbA ds
  | _ => true
def nbA : List PyData → Bool
  | [] => true
  | d :: ds => nbD d && nbA ds
end
def snD (d : PyData) : Bool := smD d && nbD d
theorem sl_nb {H H' : Hp} {a b r : Addr} {xs : List V} (hb : Bx H b r) (k : Ks [b] H H') (f : SqL K H a xs) (D : DpAll K H xs ds) (nb : bxL ds = false) : SqL K H' a xs := by
  obtain ⟨n, ns, f1, _⟩ := hb
  rcases f with (f | ⟨o, f⟩) | f
  · by_cases z : a = b
    · subst z
      rw [f1] at f
      cases f
      match ds, D with
      | [_, _], .cons _ (.cons h2 .nil) =>
        cases h2
        cases nb
    · exact .inl (.inl (k _ _ (by simpa using z) f))
  · have z : a ≠ b := fun z => by
      rw [z, f1] at f
      cases f
    exact .inl (.inr ⟨o, k _ _ (by simpa using z) f⟩)
  · exact .inr f
theorem st_nb {H H' : Hp} {a b r : Addr} {xs : List V} (hb : Bx H b r) (k : Ks [b] H H') (f : SqT K H a xs) : SqT K H' a xs := by
  obtain ⟨n, ns, f1, _⟩ := hb
  rcases f with (f | ⟨o, f⟩) | f
  · have z : a ≠ b := fun z => by
      rw [z, f1] at f
      cases f
    exact .inl (.inl (k _ _ (by simpa using z) f))
  · have z : a ≠ b := fun z => by
      rw [z, f1] at f
      cases f
    exact .inl (.inr ⟨o, k _ _ (by simpa using z) f⟩)
  · exact .inr f
mutual
theorem dp_nb {H H' : Hp} {b r : Addr} (hb : Bx H b r) (k : Ks [b] H H') : ∀ {v : V} {d : PyData}, Dp K H v d → nbD d = true → Dp K H' v d
  | _, _, .non, _ => .non
  | _, _, .bl x, _ => .bl x
  | _, _, .int i, _ => .int i
  | _, _, .str x, _ => .str x
  | _, _, .lst h t, n => by
    have n' := (Bool.and_eq_true _ _ ▸ n : _ ∧ _)
    exact .lst (sl_nb hb k h t (by simpa using n'.1)) (dpa_nb hb k t n'.2)
  | _, _, .tup h t, n => .tup (st_nb hb k h) (dpa_nb hb k t n)
theorem dpa_nb {H H' : Hp} {b r : Addr} (hb : Bx H b r) (k : Ks [b] H H') : ∀ {xs : List V} {ds : List PyData}, DpAll K H xs ds → nbA ds = true → DpAll K H' xs ds
  | _, _, .nil, _ => .nil
  | _, _, .cons h t, n => by
    have n' := (Bool.and_eq_true _ _ ▸ n : _ ∧ _)
    exact .cons (dp_nb hb k h n'.1) (dpa_nb hb k t n'.2)
end
/-- one case of the law: functions, statements, what is due -/
def Case (d : PyData) : Prop := ∃ fs ss b, d = .list [.list (fs.map fdat), .list ss, .bool b] ∧ snD d = true ∧ progD fs ss = b
theorem case_of {fs : List FD} {ss : List PyData} {b : Bool} (s : snD (.list [.list (fs.map fdat), .list ss, .bool b]) = true) (p : progD fs ss = b) : Case (.list [.list (fs.map fdat), .list ss, .bool b]) := ⟨fs, ss, b, rfl, s, p⟩
end
theorem case_nb : ∀ {ds : List PyData}, (∀ d ∈ ds, Case d) → nbA ds = true
  | [], _ => rfl
  | d :: ds, h => by
    obtain ⟨fs, ss, b, _, s, _⟩ := h d (List.mem_cons_self ..)
    have s' := (Bool.and_eq_true _ _ ▸ s : smD d = true ∧ nbD d = true)
    show (nbD d && nbA ds) = true
    rw [s'.2, case_nb fun x hx => h x (List.mem_cons_of_mem _ hx)]
    rfl
/-- what _law_let makes -/
def letD (x T : PyData) : PyData := .tuple [.str "let", x, T, if (PyData.eqv T (.tuple [.str "rw"]) || PyData.eqv T (.int 0)) = true then .tuple [.str "number", .int 0] else .tuple [.str "null"]]
def pLet (K : PySem.W.Frag) : Sp := fun vs H Q _ => ∃ S x v T, vs = [.str x, v] ∧ Al S H ∧ Dp K (dl S H) v T ∧ SeqAt.shaped T = true ∧ ∀ u H1, Ex H H1 → Dp K (dl S H1) u (letD (.str x) T) → Q u H1
theorem ev_let {K : PySem.W.Frag} {S : List Addr} {σ : L2.St} {H : Hp} {t : TA} {x : Str} {T : PyData} {E : XK} (al : Al S H) (h : EvA K S σ H t [.str x, T]) (s : SeqAt.shaped T = true) : EvD K S σ H (tCall (pLet K) [] E t) (letD (.str x) T) := ev_call h al fun H0 vs Q al2 dvs k => by
  match vs, dvs with
  | [_, _], .cons h1 (.cons h2 .nil) =>
    cases dp_str h1
    exact ⟨S, x, _, T, rfl, al2, h2, s, k⟩
end Ver

set_option Elab.async false
set_option linter.all false
set_option maxRecDepth 100000
set_option maxHeartbeats 4000000
namespace Ver
open PySem PySem.Spec PyProof.Rows L2 Evl
/-! ## what costs c statements and makes m things -/
def Aft (s s' : RS) (c m : Nat) : Prop := s'.n = s.n + c ∧ s'.br = s.br ∧ s'.th.length = s.th.length + m
theorem Aft.trans {a b d : RS} {c m c' m' : Nat} (h : Aft a b c m) (k : Aft b d c' m') : Aft a d (c + c') (m + m') := by
  obtain ⟨h1, h2, h3⟩ := h
  obtain ⟨k1, k2, k3⟩ := k
  exact ⟨by omega, k2.trans h2, by omega⟩
def CstS (cl : CL) (st : Stm) (c m : Nat) : Prop := ∀ sc (s : RS), s.n ≤ 1000 →
  (s.n + c ≤ 1000 → ∃ s' sc', ex1 true cl sc s st = (.go, s', sc') ∧ Aft s s' c m) ∧ (1000 < s.n + c → (ex1 true cl sc s st).1 = .long)
def CstL (cl : CL) (b : List Stm) (c m : Nat) : Prop := ∀ sc (s : RS), s.n ≤ 1000 →
  (s.n + c ≤ 1000 → ∃ s' sc', exs true cl sc s b = (.go, s', sc') ∧ Aft s s' c m) ∧ (1000 < s.n + c → (exs true cl sc s b).1 = .long)
def CstF (F : RS → Out × RS) (c m : Nat) : Prop := ∀ s : RS, s.n ≤ 1000 →
  (s.n + c ≤ 1000 → (F s).1 = .go ∧ Aft s (F s).2 c m) ∧ (1000 < s.n + c → (F s).1 = .long)
theorem cstL_nil (cl : CL) : CstL cl [] 0 0 := fun sc s h => ⟨fun _ => ⟨s, sc, rfl, rfl, rfl, rfl⟩, fun z => absurd z (by omega)⟩
theorem cstL_cons {cl : CL} {st : Stm} {b : List Stm} {c m c' m' : Nat} (h : CstS cl st c m) (k : CstL cl b c' m') : CstL cl (st :: b) (c + c') (m + m') := fun sc s hn => by
  obtain ⟨h1, h2⟩ := h sc s hn
  refine ⟨fun z => ?_, fun z => ?_⟩
  · obtain ⟨s1, sc1, e1, a1⟩ := h1 (by omega)
    obtain ⟨s2, sc2, e2, a2⟩ := (k sc1 s1 (by have := a1.1; omega)).1 (by have := a1.1; omega)
    refine ⟨s2, sc2, ?_, a1.trans a2⟩
    unfold exs
    rw [e1]
    exact e2
  · by_cases y : s.n + c ≤ 1000
    · obtain ⟨s1, sc1, e1, a1⟩ := h1 y
      have := (k sc1 s1 (by have := a1.1; omega)).2 (by have := a1.1; omega)
      unfold exs
      rw [e1]
      exact this
    · have e := h2 (by omega)
      unfold exs
      generalize ex1 true cl sc s st = r at e
      obtain ⟨o, s1, sc1⟩ := r
      cases e
      rfl
theorem cstL_rep {cl : CL} {st : Stm} {c m : Nat} (h : CstS cl st c m) : ∀ k : Nat, CstL cl (List.replicate k st) (k * c) (k * m)
  | 0 => by rw [Nat.zero_mul, Nat.zero_mul]; exact cstL_nil cl
  | k + 1 => by
    have := cstL_cons h (cstL_rep h k)
    rw [List.replicate_succ, Nat.succ_mul, Nat.succ_mul, Nat.add_comm (k * c), Nat.add_comm (k * m)]
    exact this
theorem exs_go {lim : Bool} {cl : CL} {sc sc' : Sc} {s s' : RS} {st : Stm} {r : List Stm} (e : ex1 lim cl sc s st = (.go, s', sc')) : exs lim cl sc s (st :: r) = exs lim cl sc' s' r := by
  show (match ex1 lim cl sc s st with
    | (.go, s', sc') => exs lim cl sc' s' r
    | (.stop, s', sc') => (.stop, s', sc')
    | (.long, s', sc') => (.long, s', sc')) = _
  rw [e]
theorem exs_no {lim : Bool} {cl : CL} {sc : Sc} {s : RS} {st : Stm} {r : List Stm} (e : (ex1 lim cl sc s st).1 ≠ .go) : exs lim cl sc s (st :: r) = ex1 lim cl sc s st := by
  show (match ex1 lim cl sc s st with
    | (.go, s', sc') => exs lim cl sc' s' r
    | (.stop, s', sc') => (.stop, s', sc')
    | (.long, s', sc') => (.long, s', sc')) = _
  generalize ex1 lim cl sc s st = q at e
  obtain ⟨o, s1, sc1⟩ := q
  cases o with
  | go => exact absurd rfl e
  | stop => rfl
  | long => rfl
theorem exs_app {lim : Bool} {cl : CL} : ∀ {a b : List Stm} {sc sc' : Sc} {s s' : RS}, exs lim cl sc s a = (.go, s', sc') → exs lim cl sc s (a ++ b) = exs lim cl sc' s' b
  | [], b, sc, sc', s, s', e => by cases e; rfl
  | st :: r, b, sc, sc', s, s', e => by
    by_cases y : (ex1 lim cl sc s st).1 = .go
    · obtain ⟨s1, sc1, e1⟩ : ∃ s1 sc1, ex1 lim cl sc s st = (.go, s1, sc1) := ⟨_, _, by rw [← y]⟩
      rw [exs_go e1] at e
      rw [List.cons_append, exs_go e1]
      exact exs_app e
    · rw [exs_no y] at e
      rw [e] at y
      exact absurd rfl y
theorem exs_app_no {lim : Bool} {cl : CL} : ∀ {a b : List Stm} {sc : Sc} {s : RS}, (exs lim cl sc s a).1 ≠ .go → exs lim cl sc s (a ++ b) = exs lim cl sc s a
  | [], b, sc, s, e => absurd rfl e
  | st :: r, b, sc, s, e => by
    by_cases y : (ex1 lim cl sc s st).1 = .go
    · obtain ⟨s1, sc1, e1⟩ : ∃ s1 sc1, ex1 lim cl sc s st = (.go, s1, sc1) := ⟨_, _, by rw [← y]⟩
      rw [exs_go e1] at e
      rw [List.cons_append, exs_go e1, exs_go e1]
      exact exs_app_no e
    · rw [List.cons_append, exs_no y, exs_no y]
theorem cstL_app {cl : CL} {a b : List Stm} {c m c' m' : Nat} : CstL cl a c m → CstL cl b c' m' → CstL cl (a ++ b) (c + c') (m + m') := fun h k sc s hn => by
  obtain ⟨h1, h2⟩ := h sc s hn
  refine ⟨fun z => ?_, fun z => ?_⟩
  · obtain ⟨s1, sc1, e1, a1⟩ := h1 (by omega)
    obtain ⟨s2, sc2, e2, a2⟩ := (k sc1 s1 (by have := a1.1; omega)).1 (by have := a1.1; omega)
    exact ⟨s2, sc2, (exs_app e1).trans e2, a1.trans a2⟩
  · by_cases y : s.n + c ≤ 1000
    · obtain ⟨s1, sc1, e1, a1⟩ := h1 y
      rw [exs_app e1]
      exact (k sc1 s1 (by have := a1.1; omega)).2 (by have := a1.1; omega)
    · have e := h2 (by omega)
      rw [exs_app_no (by rw [e]; decide), e]
theorem cstS_let (cl : CL) (x : Str) (T : List R) (k : Int) : CstS cl (.lt x T (.num k)) 1 1 := fun sc s hn => by
  unfold ex1
  refine ⟨fun z => ?_, fun z => ?_⟩
  · rw [if_neg (by omega)]
    exact ⟨_, _, rfl, rfl, List.append_nil _, by simp⟩
  · rw [if_pos ⟨rfl, by omega⟩]
theorem gvs_nums (ths : List Thg) (sc : Sc) : ∀ ns : List Int, gvs ths sc (ns.map Src.num) = ([], some (ns.map Vl.num))
  | [] => rfl
  | n :: r => by
    rw [List.map_cons]
    unfold gvs
    rw [gvs_nums ths sc r]
    rfl
theorem cstS_call {cl : CL} {f : Str} {ns : List Int} {c m : Nat} (h : CstF (cl f (ns.map Vl.num)) c m) : CstS cl (.call f (ns.map Src.num)) (1 + c) m := fun sc s hn => by
  have e : ∀ y : ¬ (true = true ∧ 1000 ≤ s.n), ex1 true cl sc s (.call f (ns.map Src.num)) = ((cl f (ns.map Vl.num) ⟨s.th, s.br, s.n + 1⟩).1, (cl f (ns.map Vl.num) ⟨s.th, s.br, s.n + 1⟩).2, sc) := fun y => by
    unfold ex1
    rw [if_neg y]
    show (match gvs s.th sc (ns.map Src.num) with
      | (b, none) => (Out.stop, (⟨s.th, s.br ++ b, s.n + 1⟩ : RS), sc)
      | (b, some vs) => ((cl f vs ⟨s.th, s.br ++ b, s.n + 1⟩).1, (cl f vs ⟨s.th, s.br ++ b, s.n + 1⟩).2, sc)) = _
    rw [gvs_nums]
    show ((cl f (ns.map Vl.num) ⟨s.th, s.br ++ [], s.n + 1⟩).1, (cl f (ns.map Vl.num) ⟨s.th, s.br ++ [], s.n + 1⟩).2, sc) = _
    rw [List.append_nil]
  refine ⟨fun z => ?_, fun z => ?_⟩
  · have g := (h ⟨s.th, s.br, s.n + 1⟩ (by show s.n + 1 ≤ 1000; omega)).1 (by show s.n + 1 + c ≤ 1000; omega)
    rw [e (by omega)]
    generalize cl f (ns.map Vl.num) ⟨s.th, s.br, s.n + 1⟩ = r at g
    obtain ⟨o, s1⟩ := r
    obtain ⟨g1, g2, g3, g4⟩ := g
    have g1 : o = .go := g1
    subst g1
    have g2 : s1.n = s.n + 1 + c := g2
    exact ⟨s1, sc, rfl, by omega, g3, g4⟩
  · by_cases y : s.n = 1000
    · unfold ex1
      rw [if_pos ⟨rfl, by omega⟩]
    · have g := (h ⟨s.th, s.br, s.n + 1⟩ (by show s.n + 1 ≤ 1000; omega)).2 (by show 1000 < s.n + 1 + c; omega)
      rw [e (by omega)]
      exact g
theorem callF_ne {lim : Bool} {g : TF} {r : List TF} {f : Str} (h : g.n ≠ f) : callF lim (g :: r) f = callF lim r f := by
  funext vs s
  show (if g.n = f then _ else callF lim r f vs s) = _
  rw [if_neg h]
theorem bindP_lenE : ∀ (ps : List (Str × List R)) (vs : List Vl) (ths : List Thg) (sc : Sc), ps.length = vs.length → (bindP ths sc ps vs).1.length = ths.length + ps.length
  | [], [], ths, sc, _ => rfl
  | q :: ps, v :: vs, ths, sc, h => by
    unfold bindP
    rw [bindP_lenE ps vs _ _ (by simpa using h), List.length_append]
    simp
    omega
theorem callF_eq {g : TF} {r : List TF} {vs : List Vl} {c m : Nat} (h : CstL (callF true r) g.b c m) (l : g.p.length = vs.length) : CstF (callF true (g :: r) g.n vs) c (g.p.length + m) := fun s hn => by
  have e : callF true (g :: r) g.n vs s = ((exs true (callF true r) (bindP s.th sc0 g.p vs).2 ⟨(bindP s.th sc0 g.p vs).1, s.br, s.n⟩ g.b).1, (exs true (callF true r) (bindP s.th sc0 g.p vs).2 ⟨(bindP s.th sc0 g.p vs).1, s.br, s.n⟩ g.b).2.1) := by
    show (if g.n = g.n then _ else _) = _
    rw [if_pos rfl]
  have bl := bindP_lenE g.p vs s.th sc0 l
  obtain ⟨h1, h2⟩ := h (bindP s.th sc0 g.p vs).2 ⟨(bindP s.th sc0 g.p vs).1, s.br, s.n⟩ hn
  rw [e]
  refine ⟨fun z => ?_, fun z => h2 z⟩
  obtain ⟨s', sc', e1, a1, a2, a3⟩ := h1 z
  rw [e1]
  exact ⟨rfl, a1, a2, by
    show s'.th.length = _
    rw [a3]
    show (bindP s.th sc0 g.p vs).1.length + m = _
    rw [bl]
    omega⟩
/-- what a whole run of it gives -/
theorem runP_cst {fs : List TF} {ss : List Stm} {c m : Nat} (h : CstL (callF true fs.reverse) ss c m) : (c ≤ 1000 → (runP true fs ss).1 = .go ∧ (runP true fs ss).2.1.br = [] ∧ (runP true fs ss).2.1.th.length = m) ∧ (1000 < c → (runP true fs ss).1 = .long) := by
  obtain ⟨h1, h2⟩ := h sc0 s0 (Nat.zero_le _)
  refine ⟨fun z => ?_, fun z => h2 (by show 1000 < 0 + c; omega)⟩
  obtain ⟨s', sc', e, a1, a2, a3⟩ := h1 (by show 0 + c ≤ 1000; omega)
  unfold runP
  rw [e]
  exact ⟨rfl, a2, by
    show s'.th.length = m
    rw [a3]
    exact Nat.zero_add _⟩
theorem jBlk_nil {fs : List TF} {ex : List (List R × List R)} : ∀ {b : List Stm} {e : Env} {k : Nat}, (∀ s ∈ b, ∀ e, jStm fs e ex s = none) → jBlk fs ex e k b = []
  | [], e, k, h => rfl
  | s :: r, e, k, h => by
    unfold jBlk
    rw [h s (List.mem_cons_self ..) e, jBlk_nil fun s hs => h s (List.mem_cons_of_mem _ hs)]
    rfl
theorem jAll_nil {fs : List TF} {ss : List Stm} {ex : List (List R × List R)} (h : ∀ f ∈ fs, ∀ s ∈ f.b, ∀ e, jStm fs e ex s = none) (k : ∀ s ∈ ss, ∀ e, jStm fs e ex s = none) : jAll fs ss ex = [] := by
  unfold jAll
  rw [jBlk_nil k, List.map_nil, List.append_nil, List.flatMap_eq_nil_iff]
  intro f hf
  unfold jFn
  rw [jBlk_nil (h f hf)]
  rfl
/-! ## the programs of the law -/
def lD (al : Nat → Str) (v : Nat → Int) (k : Nat) : List Stm := (List.range k).map fun i => Stm.lt (al i) [.rw] (.num (v i))
theorem cst_lD (cl : CL) (al : Nat → Str) (v : Nat → Int) : ∀ k, CstL cl (lD al v k) k k
  | 0 => cstL_nil cl
  | k + 1 => by
    unfold lD
    rw [List.range_succ, List.map_append]
    exact cstL_app (cst_lD cl al v k) (cstL_cons (cstS_let cl _ _ _) (cstL_nil cl))
/-! ## lists from comprehensions of literals -/
def LcP (K : PySem.W.Frag) (H : Hp) (f : Nat → PyData) (p : Addr) (k : Nat) (h : Hp) : Prop := Ex H h ∧ ∃ acc, h p = some (.lst acc) ∧ DpAll K (dl [p] h) acc ((List.range k).map f) ∧ acc.length = k
theorem LcP.nil {K : PySem.W.Frag} {H : Hp} {f : Nat → PyData} {p : Addr} (n : H p = none) : LcP K H f p 0 (upd H p (.lst [])) := ⟨Ex.new n, [], upd_same, .nil, rfl⟩
theorem LcP.step {K : PySem.W.Frag} {H h h4 : Hp} {f : Nat → PyData} {p : Addr} {k : Nat} {a : V} (I : LcP K H f p k h) (n : H p = none) (l : k < 100000) (e : Ex h h4) (d : Dp K (dl [p] h4) a (f k)) : ∃ acc, h4 p = some (.lst acc) ∧ acc.length < sizeLine ∧ LcP K H f p (k + 1) (upd h4 p (.lst (acc ++ [a]))) := by
  obtain ⟨e0, acc, fp, D, la⟩ := I
  refine ⟨acc, e _ _ fp, sz_lt (by omega), (e0.trans e).mut n, acc ++ [a], upd_same, ?_, by rw [List.length_append, la]; rfl⟩
  rw [dl_upd (List.mem_cons_self ..), List.range_succ, List.map_append]
  exact dpa_snoc (dpa_ex (dl_ex e) D) d
theorem LcP.al {K : PySem.W.Frag} {H h : Hp} {f : Nat → PyData} {p : Addr} {k : Nat} (I : LcP K H f p k h) : Al [p] h := Al.nil.cons I.2.choose_spec.1
theorem LcP.fin {K : PySem.W.Frag} {H h : Hp} {f : Nat → PyData} {p : Addr} {k : Nat} (I : LcP K H f p k h) : Ex H h ∧ ∃ acc, h p = some (.lst acc) ∧ DpAll K h acc ((List.range k).map f) ∧ acc.length = k := by
  obtain ⟨e0, acc, fp, D, la⟩ := I
  exact ⟨e0, acc, fp, dpa_ex (dl_le _ _) D, la⟩
/-! ## the two programs of the law -/
def al4 (i : Nat) : Str := "x" ++ ⟨#[("abcd" : Str).cps.toList.getD i 0]⟩
def al9 (i : Nat) : Str := "x" ++ ⟨#[("abcdefghi" : Str).cps.toList.getD i 0]⟩
def fF (l : Nat) : TF := ⟨"f", [("p", [.r])], lD al4 (fun i => (i : Int)) l⟩
def fG (m : Nat) : TF := ⟨"g", [], List.replicate m (.call "f" [.num 7])⟩
def fH (m : Nat) : TF := ⟨"h", [], List.replicate m (.call "g" [])⟩
def f9 : TF := ⟨"f", [], lD al9 (fun _ => 0) 9⟩
def g9 : TF := ⟨"g", [], List.replicate 9 (.call "f" [])⟩
theorem rep_all {P : Stm → Prop} {n : Nat} {s : Stm} (h : P s) : ∀ t ∈ List.replicate n s, P t := fun t ht => by
  rw [(List.mem_replicate.mp ht).2]
  exact h
theorem lD_all {P : Stm → Prop} {al : Nat → Str} {v : Nat → Int} {k : Nat} (h : ∀ i, i < k → P (.lt (al i) [.rw] (.num (v i)))) : ∀ t ∈ lD al v k, P t := fun t ht => by
  obtain ⟨i, hi, rfl⟩ := List.mem_map.mp ht
  exact h i (List.mem_range.mp hi)
theorem nm4 : ∀ i, i < 4 → nmO (al4 i) := by
  intro i hi
  have : ∀ i : Fin 4, nameD (.str (al4 i.1)) = true := by decide +kernel
  exact this ⟨i, hi⟩
theorem nm9 : ∀ i, i < 9 → nmO (al9 i) := by
  intro i hi
  have : ∀ i : Fin 9, nameD (.str (al9 i.1)) = true := by decide +kernel
  exact this ⟨i, hi⟩
theorem ty_rw : tyO [.rw] := ⟨by decide, by decide⟩
theorem lets_rep {n : Nat} {f : Str} {ss : List Src} : lets (List.replicate n (.call f ss)) = [] := by
  unfold lets
  rw [List.filterMap_eq_nil_iff]
  exact fun s hs => by
    rw [(List.mem_replicate.mp hs).2]
    rfl
theorem lets_lD {al : Nat → Str} {v : Nat → Int} {k : Nat} : lets (lD al v k) = (List.range k).map fun i => (al i, [R.rw]) := by
  unfold lets lD
  rw [List.filterMap_map]
  induction (List.range k) with
  | nil => rfl
  | cons x r ih => rw [List.filterMap_cons, List.map_cons, ih]; rfl
theorem stO_call {f : Str} {ns : List Int} (h : nmO f) (l : ns.length ≤ 4) (k : ∀ n ∈ ns, 0 ≤ n ∧ n ≤ 1000) : stO (.call f (ns.map Src.num)) := ⟨h, by rw [List.length_map]; exact l, fun s hs => by
  obtain ⟨n, hn, rfl⟩ := List.mem_map.mp hs
  exact k n hn⟩
theorem nm_f : nmO "f" := by show nameD (.str "f") = true; decide +kernel
theorem nm_g : nmO "g" := by show nameD (.str "g") = true; decide +kernel
theorem nm_h : nmO "h" := by show nameD (.str "h") = true; decide +kernel
theorem nm_p : nmO "p" := by show nameD (.str "p") = true; decide +kernel
theorem ok_lr {l a b c : Nat} (hl : l ≤ 4) (ha : a ≤ 12) (hb : b ≤ 12) (hc : c ≤ 40) : POk [fF l, fG a, fH b] (List.replicate c (.call "h" [])) where
  f4 := by simp
  fo := fun f hf => by
    rcases List.mem_cons.mp hf with rfl | hf
    · exact ⟨nm_f, by show 1 ≤ 4; omega, fun q hq => by rw [List.mem_singleton.mp hq]; exact ⟨nm_p, by decide, by decide⟩, by show (lD _ _ l).length ≤ 12; unfold lD; simp; omega, lD_all fun i hi => ⟨nm4 i (by omega), ty_rw, by show (0 : Int) ≤ (i : Int) ∧ (i : Int) ≤ 1000; omega⟩⟩
    rcases List.mem_cons.mp hf with rfl | hf
    · exact ⟨nm_g, by show 0 ≤ 4; omega, (fun q hq => by cases hq), by show (List.replicate a _).length ≤ 12; rw [List.length_replicate]; exact ha, rep_all (stO_call (ns := [7]) nm_f (by decide) (by decide))⟩
    · rw [List.mem_singleton.mp hf]
      exact ⟨nm_h, by show 0 ≤ 4; omega, (fun q hq => by cases hq), by show (List.replicate b _).length ≤ 12; rw [List.length_replicate]; exact hb, rep_all (stO_call (ns := []) nm_g (by decide) (by decide))⟩
  s40 := by rw [List.length_replicate]; exact hc
  so := rep_all (stO_call (ns := []) nm_h (by decide) (by decide))
  nd := by
    unfold decl declF
    rw [lets_rep]
    show ((["f", "g", "h"] : List Str) ++ ([(("p" : Str), [R.r])] ++ lets (lD al4 _ l) ++ ([] ++ lets (List.replicate a _) ++ ([] ++ lets (List.replicate b _) ++ [])) ++ []).map Prod.fst).Nodup
    rw [lets_rep, lets_rep, lets_lD]
    rcases l with _ | _ | _ | _ | _ | l
    · decide +kernel
    · decide +kernel
    · decide +kernel
    · decide +kernel
    · decide +kernel
    · omega
  ft := ⟨lD_all fun i hi => trivial, rep_all ⟨fF l, List.mem_cons_self .., rfl, rfl⟩, rep_all ⟨fG a, List.mem_cons_of_mem _ (List.mem_cons_self ..), rfl, rfl⟩, rep_all ⟨fH b, List.mem_cons_of_mem _ (List.mem_cons_of_mem _ (List.mem_cons_self ..)), rfl, rfl⟩⟩
theorem let_lr {l a b c : Nat} : jAll [fF l, fG a, fH b] (List.replicate c (.call "h" [])) [] = [] := by
  refine jAll_nil (fun f hf => ?_) (rep_all fun e => rfl)
  rcases List.mem_cons.mp hf with rfl | hf
  · exact lD_all fun i hi e => rfl
  rcases List.mem_cons.mp hf with rfl | hf
  · exact rep_all fun e => rfl
  · rw [List.mem_singleton.mp hf]
    exact rep_all fun e => rfl
theorem run_lr {l a b c : Nat} : (c * (1 + b * (1 + a * (1 + l))) ≤ 1000 → (runP true [fF l, fG a, fH b] (List.replicate c (.call "h" []))).1 = .go ∧ (runP true [fF l, fG a, fH b] (List.replicate c (.call "h" []))).2.1.br = [] ∧ (runP true [fF l, fG a, fH b] (List.replicate c (.call "h" []))).2.1.th.length = c * (0 + b * (0 + a * (1 + l)))) ∧
    (1000 < c * (1 + b * (1 + a * (1 + l))) → (runP true [fF l, fG a, fH b] (List.replicate c (.call "h" []))).1 = .long) := by
  have c1 : CstF (callF true [fF l] "f" ([7].map Vl.num)) l (1 + l) := callF_eq (g := fF l) (cst_lD _ _ _ l) rfl
  have c2 : CstF (callF true [fG a, fF l] "g" (([] : List Int).map Vl.num)) (a * (1 + l)) (0 + a * (1 + l)) := callF_eq (g := fG a) (cstL_rep (cstS_call (ns := [7]) c1) a) rfl
  have c3 : CstF (callF true [fH b, fG a, fF l] "h" (([] : List Int).map Vl.num)) (b * (1 + a * (1 + l))) (0 + b * (0 + a * (1 + l))) := callF_eq (g := fH b) (cstL_rep (cstS_call (ns := []) c2) b) rfl
  exact runP_cst (fs := [fF l, fG a, fH b]) (cstL_rep (cstS_call (ns := []) c3) c)
theorem ok_99 {n : Nat} (hn : n ≤ 18) : POk [f9, g9] (List.replicate 10 (.call "g" []) ++ List.replicate n (.call "f" [])) where
  f4 := by simp
  fo := fun f hf => by
    rcases List.mem_cons.mp hf with rfl | hf
    · exact ⟨nm_f, by show 0 ≤ 4; omega, (fun q hq => by cases hq), by show (lD _ _ 9).length ≤ 12; unfold lD; simp, lD_all fun i hi => ⟨nm9 i (by omega), ty_rw, by show (0 : Int) ≤ 0 ∧ (0 : Int) ≤ 1000; omega⟩⟩
    · rw [List.mem_singleton.mp hf]
      exact ⟨nm_g, by show 0 ≤ 4; omega, (fun q hq => by cases hq), by show (List.replicate 9 _).length ≤ 12; rw [List.length_replicate]; decide, rep_all (stO_call (ns := []) nm_f (by decide) (by decide))⟩
  s40 := by rw [List.length_append, List.length_replicate, List.length_replicate]; omega
  so := fun s hs => by
    rcases List.mem_append.mp hs with hs | hs
    · exact rep_all (stO_call (ns := []) nm_g (by decide) (by decide)) s hs
    · exact rep_all (stO_call (ns := []) nm_f (by decide) (by decide)) s hs
  nd := by
    unfold decl declF
    rw [show lets (List.replicate 10 (Stm.call "g" []) ++ List.replicate n (Stm.call "f" [])) = [] by
      have e : ∀ a b : List Stm, lets (a ++ b) = lets a ++ lets b := fun a b => List.filterMap_append
      rw [e, lets_rep, lets_rep]; rfl]
    show ((["f", "g"] : List Str) ++ (([] : List (Str × List R)) ++ lets (lD al9 (fun _ => 0) 9) ++ ([] ++ lets (List.replicate 9 (Stm.call "f" [])) ++ []) ++ []).map Prod.fst).Nodup
    rw [lets_rep, lets_lD]
    decide +kernel
  ft := ⟨lD_all fun i hi => trivial, rep_all ⟨f9, List.mem_cons_self .., rfl, rfl⟩, fun s hs => by
    rcases List.mem_append.mp hs with hs | hs
    · exact rep_all (P := cf [f9, g9]) (s := .call "g" []) ⟨g9, List.mem_cons_of_mem _ (List.mem_cons_self ..), rfl, rfl⟩ s hs
    · exact rep_all (P := cf [f9, g9]) (s := .call "f" []) ⟨f9, List.mem_cons_self .., rfl, rfl⟩ s hs⟩
theorem let_99 {n : Nat} : jAll [f9, g9] (List.replicate 10 (.call "g" []) ++ List.replicate n (.call "f" [])) [] = [] := by
  refine jAll_nil (fun f hf => ?_) fun s hs => ?_
  · rcases List.mem_cons.mp hf with rfl | hf
    · exact lD_all fun i hi e => rfl
    · rw [List.mem_singleton.mp hf]
      exact rep_all fun e => rfl
  · rcases List.mem_append.mp hs with hs | hs
    · exact rep_all (P := fun s => ∀ e, jStm [f9, g9] e [] s = none) (fun e => rfl) s hs
    · exact rep_all (P := fun s => ∀ e, jStm [f9, g9] e [] s = none) (fun e => rfl) s hs
theorem run_99 {n : Nat} : (910 + n * 10 ≤ 1000 → (runP true [f9, g9] (List.replicate 10 (.call "g" []) ++ List.replicate n (.call "f" []))).1 = .go ∧ (runP true [f9, g9] (List.replicate 10 (.call "g" []) ++ List.replicate n (.call "f" []))).2.1.br = [] ∧ (runP true [f9, g9] (List.replicate 10 (.call "g" []) ++ List.replicate n (.call "f" []))).2.1.th.length = 810 + n * 9) ∧
    (1000 < 910 + n * 10 → (runP true [f9, g9] (List.replicate 10 (.call "g" []) ++ List.replicate n (.call "f" []))).1 = .long) := by
  have c1 : CstF (callF true [f9] "f" (([] : List Int).map Vl.num)) 9 (0 + 9) := callF_eq (g := f9) (show CstL (callF true []) f9.b 9 9 from cst_lD _ al9 (fun _ => 0) 9) rfl
  have c2 : CstF (callF true [g9, f9] "g" (([] : List Int).map Vl.num)) (9 * (1 + 9)) (0 + 9 * (0 + 9)) := callF_eq (g := g9) (cstL_rep (cstS_call (ns := []) c1) 9) rfl
  have c3 : CstF (callF true [g9, f9] "f" (([] : List Int).map Vl.num)) 9 (0 + 9) := by rw [callF_ne (show g9.n ≠ "f" by decide)]; exact c1
  exact runP_cst (fs := [f9, g9]) (cstL_app (cstL_rep (cstS_call (ns := []) c2) 10) (cstL_rep (cstS_call (ns := []) c3) n))
/-! ## a function and a program made -/
theorem mk_fn {K : PySem.W.Frag} {C : Addr} {S : List Addr} {H : Hp} {Q : VK} {E : XK} {g : TF} {r1 r2 : Addr} {z1 z2 : List V} (ok : FOk g) (al : Al S H) (n1 : r1 ∉ S) (f1 : H r1 = some (.lst z1)) (j1 : DpAll K (dl S H) z1 (g.p.map pD))
    (n2 : r2 ∉ S) (f2 : H r2 = some (.lst z2)) (j2 : DpAll K (dl S H) z2 (g.b.map stD)) (k : ∀ y H', H y = none → Ex H H' → FnAt K C (dl S H') y g.fd → Q (.ref y) H') : NewI C (pFi K C) E [.str g.n, .ref r1, .ref r2] H Q := by
  refine a_new fun y dy H3 n3 n4 n5 e3 f3 f4 => ?_
  have ny := al.nin n3
  have nd := al.nin n4
  have M : Ex (dl S H) (dl (y :: dy :: S) H3) := fun b o z => by
    by_cases hb : b ∈ S
    · rw [dl_in hb] at z
      cases z
    · rw [dl_nin hb] at z
      rw [dl_nin (by
        intro c
        rcases List.mem_cons.mp c with c | c
        · rw [c, n3] at z; cases z
        rcases List.mem_cons.mp c with c | c
        · rw [c, n4] at z; cases z
        · exact hb c)]
      exact e3 b o z
  have D1 : Dl K (dl (y :: dy :: S) H3) r1 (g.p.map pD) := ⟨⟨z1, SqL.of (M _ _ (dl_at n1 f1)), dpa_ex M j1⟩, sm_map fun q hq => sm_pD (ok.po q hq).1 (ok.po q hq).2, by rw [List.length_map]; have := ok.p4; omega⟩
  have D2 : Dl K (dl (y :: dy :: S) H3) r2 (g.b.map stD) := ⟨⟨z2, SqL.of (M _ _ (dl_at n2 f2)), dpa_ex M j2⟩, sm_sts ok.bo, by rw [List.length_map]; have := ok.b12; omega⟩
  have sn : Ds K (dl (y :: dy :: S) H3) (.str g.n) (.str g.n) := ⟨.str _, sm_nm ok.n⟩
  refine ⟨y :: dy :: S, y, dy, .str g.n, r1, r2, g.fd, rfl, ((al.ex e3).cons f4).cons f3, List.mem_cons_self .., f3, sn, D1, D2, fun s1 s2 w1 w2 H4 k4 m1 m2 nq c0 c1 c2 B1 B2 => ⟨rfl, ?_⟩⟩
  have E24 : Ex H H4 := fun b o z => k4 b o (fun c => by rw [List.mem_singleton] at c; rw [c, n3] at z; cases z) (e3 b o z)
  have O : Ex (dl (y :: dy :: S) H4) (dl S H4) := dl_sub fun b c => List.mem_cons_of_mem _ (List.mem_cons_of_mem _ c)
  have al3 : Al S H3 := al.ex e3
  exact k y H4 n3 E24 ⟨dy, .str g.n, s1, s2, dl_at ny c0, ⟨.str _, sm_nm ok.n⟩, ⟨⟨w1, dl_at (al3.nin m1) c1, dpa_ex O B1⟩, D1.sm, D1.le⟩, ⟨⟨w2, dl_at (al3.nin m2) c2, dpa_ex O B2⟩, D2.sm, D2.le⟩⟩
theorem ex_twoN {H H1 : Hp} {x y : Addr} (n : H x = none) (m : H y = none) (e : Ex H H1) : Ex H (dl [x, y] H1) := fun b o z => by
  rw [dl_nin (by
    intro c
    rcases List.mem_cons.mp c with c | c
    · rw [c, n] at z; cases z
    · rw [List.mem_singleton.mp c, m] at z; cases z)]
  exact e b o z
theorem mk_pg {K : PySem.W.Frag} {CP CF CE : Addr} {H : Hp} {Q : VK} {E : XK} {fs : List TF} {ss : List Stm} {pf ps : Addr} {xs ys : List V} (ok : POk fs ss) (f1 : H pf = some (.lst xs)) (F : FnAll K CF H xs (fs.map TF.fd)) (f2 : H ps = some (.lst ys)) (D : DpAll K H ys (ss.map stD))
    (k : ∀ z H', H z = none → Ex H H' → PgAt K CP CF H' z fs ss → Q (.ref z) H') : NewI CP (pPi K CP CF CE) E [.ref pf, .ref ps] H Q := by
  refine a_new fun x dx H2 n2 n3 n4 e2 f2' f3 => ?_
  have N := ex_twoN n2 n3 e2
  have pok := prog_ok ok
  refine ⟨[x, dx], x, dx, pf, ps, xs, fs.map TF.fd, ss.map stD, rfl, (Al.nil.cons f3).cons f2', List.mem_cons_self .., f2', SqL.of (N _ _ f1), F.up N, by rw [List.length_map]; have := ok.f4; omega, ⟨⟨ys, SqL.of (N _ _ f2), dpa_ex N D⟩, sm_sts ok.so, by rw [List.length_map]; have := ok.s40; omega⟩, fun c q1 q2 w1 w2 H3 k3 m1 m2 c0 c1 A1 _ c2 B2 => ⟨rfl, ?_⟩, fun c => by rw [pok] at c; cases c⟩
  have E3 : Ex H H3 := fun b o z => k3 b o (fun y => ne_of_none z n2 (by simpa using y)) (e2 b o z)
  have O := dl_le [x, dx] H3
  exact k x H3 n2 E3 ⟨dx, q1, q2, w1, w2, c0, c1, A1.up O, c2, dpa_ex O B2⟩
/-- a list of functions that grows -/
def FL (K : PySem.W.Frag) (C : Addr) (H : Hp) (c : Addr) (gs : List TF) : Prop := ∃ xs, H c = some (.lst xs) ∧ FnAll K C (dl [c] H) xs (gs.map TF.fd)
theorem FL.ex {K : PySem.W.Frag} {C : Addr} {H H1 : Hp} {c : Addr} {gs : List TF} (h : FL K C H c gs) (e : Ex H H1) : FL K C H1 c gs := by
  obtain ⟨xs, f, F⟩ := h
  exact ⟨xs, e _ _ f, F.up (dl_ex e)⟩
theorem FL.app {K : PySem.W.Frag} {C : Addr} {H : Hp} {Q : VK} {c : Addr} {gs : List TF} {y : Addr} {g : TF} (h : FL K C H c gs) (l : gs.length ≤ 4) (F : FnAt K C (dl [c] H) y g.fd) (k : ∀ H1, (∀ b o, b ≠ c → H b = some o → H1 b = some o) → FL K C H1 c (gs ++ [g]) → Q .non H1) : rAppend (.ref c) [.ref y] H Q := by
  obtain ⟨xs, f, G⟩ := h
  have xl := G.len
  rw [List.length_map] at xl
  refine a_app f (by omega) (k _ (fun b o nb e => by rw [upd_ne nb]; exact e) ⟨xs ++ [.ref y], upd_same, ?_⟩)
  rw [dl_upd (by simp), List.map_append]
  exact FnAll.snoc F G
end Ver

set_option Elab.async false
set_option linter.all false
set_option maxRecDepth 100000
set_option maxHeartbeats 4000000
namespace Ver
open PySem PySem.Spec PyProof.Rows L2 Evl
/-! ## breaking programs, as they are written -/
abbrev PR := List R × List R
def bh (t : Bool) (p : PR) : PR := if t then (p.1.drop 1, p.2.drop 1) else (p.2.drop 1, p.1.drop 1)
def topP (p0 : PR) : List (Bool × PR) → PR
  | [] => p0
  | (_, p) :: _ => p
/-- a path, the last step first -/
def VP (p0 : PR) : List (Bool × PR) → Prop
  | [] => p0.1.length = p0.2.length
  | (t, p) :: r => VP p0 r ∧ p = bh t (topP p0 r) ∧ (hdR (topP p0 r).2).has t = true
def nmL : List Str := ["toa", "cella", "lenta", "tob", "cellb", "lentb", "toc", "cellc", "lentc", "tod", "celld", "lentd", "toe", "celle", "lente", "from", "kept", "broken"].map Str.ofString
def nmn (i : Nat) : Str := (nmL[i]?).getD ""
theorem nmn_ne {i j : Nat} (hi : i < 18) (hj : j < 18) (h : i ≠ j) : nmn i ≠ nmn j := by
  have : ∀ a b : Fin 18, a ≠ b → nmn a.1 ≠ nmn b.1 := by decide +kernel
  exact this ⟨i, hi⟩ ⟨j, hj⟩ (fun z => h (by simpa using z))
theorem nmn_ok {i : Nat} (hi : i < 18) : nmO (nmn i) := by
  have : ∀ a : Fin 18, nameD (.str (nmn a.1)) = true := by decide +kernel
  exact this ⟨i, hi⟩
def fsrc (T : List R) : Src := if T = [] then .num 0 else .null
def cvt (p0 : PR) : List (Bool × PR) → Nat → List Stm × Nat
  | [], q => ([.lt (nmn 0) (.rw :: p0.2) (.val (nmn q) 0)], 0)
  | (t, p) :: r, q =>
    if t then
      ([.lt (nmn (3 * r.length + 4)) (.rw :: p.1) (.val (nmn q) 0), .lt (nmn (3 * r.length + 5)) (.rw :: (topP p0 r).1) (.adr (nmn (3 * r.length + 4)) 0)] ++ (cvt p0 r (3 * r.length + 5)).1 ++
        [.lt (nmn (3 * r.length + 3)) (.rw :: p.2) (.val (nmn (cvt p0 r (3 * r.length + 5)).2) 1)], 3 * r.length + 3)
    else
      ([.lt (nmn (3 * r.length + 4)) (.rw :: p.2) (fsrc p.2), .lt (nmn (3 * r.length + 5)) (.rw :: (topP p0 r).1) (.adr (nmn (3 * r.length + 4)) 0)] ++ (cvt p0 r (3 * r.length + 5)).1 ++
        [.put (nmn (cvt p0 r (3 * r.length + 5)).2) 1 (.val (nmn q) 0)], 3 * r.length + 4)
theorem cvt_len (p0 : PR) : ∀ (r : List (Bool × PR)) (q : Nat), (cvt p0 r q).1.length = 3 * r.length + 1
  | [], q => rfl
  | (t, p) :: r, q => by
    have ih := cvt_len p0 r (3 * r.length + 5)
    cases t with
    | true =>
      show ([_, _] ++ (cvt p0 r (3 * r.length + 5)).1 ++ [_]).length = _
      simp only [List.length_append, List.length_cons, List.length_nil, ih]
      omega
    | false =>
      show ([_, _] ++ (cvt p0 r (3 * r.length + 5)).1 ++ [_]).length = _
      simp only [List.length_append, List.length_cons, List.length_nil, ih]
      omega
theorem cvt_res (p0 : PR) : ∀ (r : List (Bool × PR)) (q : Nat), (cvt p0 r q).2 < 3 * r.length + 3
  | [], q => by show 0 < 3; omega
  | (t, p) :: r, q => by
    cases t with
    | true => show 3 * r.length + 3 < 3 * (r.length + 1) + 3; omega
    | false => show 3 * r.length + 4 < 3 * (r.length + 1) + 3; omega
/-! ### lengths along a path -/
theorem vp_len {p0 : PR} : ∀ {r : List (Bool × PR)}, VP p0 r → (topP p0 r).1.length = (topP p0 r).2.length ∧ (topP p0 r).1.length + r.length = p0.1.length
  | [], h => ⟨h, rfl⟩
  | (t, p) :: r, h => by
    obtain ⟨h1, h2, h3⟩ := h
    obtain ⟨i1, i2⟩ := vp_len h1
    have ne : 1 ≤ (topP p0 r).2.length := by
      cases e : (topP p0 r).2 with
      | nil => rw [e] at h3; cases t <;> cases h3
      | cons x xs => simp
    have e : topP p0 ((t, p) :: r) = bh t (topP p0 r) := h2
    rw [e]
    cases t with
    | true =>
      show ((topP p0 r).1.drop 1).length = ((topP p0 r).2.drop 1).length ∧ ((topP p0 r).1.drop 1).length + (r.length + 1) = _
      rw [List.length_drop, List.length_drop]
      omega
    | false =>
      show ((topP p0 r).2.drop 1).length = ((topP p0 r).1.drop 1).length ∧ ((topP p0 r).2.drop 1).length + (r.length + 1) = _
      rw [List.length_drop, List.length_drop]
      omega
/-! ### judged -/
def envB (e : Env) (b : List Stm) : Env := b.foldl envS e
theorem jBlk_app (fs : List TF) (ex : List (List R × List R)) : ∀ (a b : List Stm) (e : Env) (k : Nat), jBlk fs ex e k (a ++ b) = jBlk fs ex e k a ++ jBlk fs ex (envB e a) (k + a.length) b
  | [], b, e, k => rfl
  | s :: a, b, e, k => by
    rw [List.cons_append, jBlk_at', jBlk_at', jBlk_app fs ex a b, List.append_assoc]
    show _ ++ (_ ++ jBlk fs ex (envB (envS e s) a) _ b) = _ ++ (_ ++ jBlk fs ex (envB (envS e s) a) _ b)
    rw [List.length_cons, Nat.add_assoc, Nat.add_comm 1]
theorem jBlk_one {fs : List TF} {ex : List (List R × List R)} {s : Stm} {e : Env} {k : Nat} (h : jStm fs e ex s = none) : jBlk fs ex e k [s] = [] := by
  rw [jBlk_at', h]
  rfl
theorem jBlk_cons {fs : List TF} {ex : List (List R × List R)} {s : Stm} {b : List Stm} {e : Env} {k : Nat} (h : jStm fs e ex s = none) (g : jBlk fs ex (envS e s) (k + 1) b = []) : jBlk fs ex e k (s :: b) = [] := by
  rw [jBlk_at', h, g]
  rfl
theorem put_same (e : Env) (x : Str) (T : List R) : (e.put x T) x = some T := if_pos rfl
theorem put_else (e : Env) {x y : Str} (T : List R) (h : y ≠ x) : (e.put x T) y = e y := if_neg h
theorem j_val0 {e : Env} {ex : List (List R × List R)} {x : Str} {T goal : List R} (h : e x = some (.rw :: T)) (c : T.length = goal.length) (k : (cv T goal || exB ex T goal) = true) : jSrc e ex goal (.val x 0) = none := by
  show (match jPlace e x 0 with
    | some f => some f
    | none => if (hdR (jSeen e x 0)).hr then jConv ex ((jSeen e x 0).drop 1) goal else some "may not read") = none
  have p : jPlace e x 0 = none := by
    unfold jPlace
    rw [h]
    rfl
  have s : jSeen e x 0 = .rw :: T := by
    unfold jSeen
    rw [h]
    rfl
  rw [p, s]
  show jConv ex T goal = none
  unfold jConv
  rw [if_neg (by omega), if_pos k]
theorem j_val1 {e : Env} {ex : List (List R × List R)} {x : Str} {T goal : List R} (h : e x = some (.rw :: T)) (hd : (hdR T).hr = true) (c : T.drop 1 = goal) : jSrc e ex goal (.val x 1) = none := by
  show (match jPlace e x 1 with
    | some f => some f
    | none => if (hdR (jSeen e x 1)).hr then jConv ex ((jSeen e x 1).drop 1) goal else some "may not read") = none
  have ne : 1 ≤ T.length := by
    cases T with
    | nil => cases hd
    | cons a b => simp
  have p : jPlace e x 1 = none := by
    unfold jPlace
    rw [h]
    show (if (R.rw :: T).length ≤ 1 then _ else if ((R.rw :: T).take 1).all R.hr then none else _) = none
    rw [if_neg (by rw [List.length_cons]; omega), if_pos (by rfl)]
  have s : jSeen e x 1 = T := by
    unfold jSeen
    rw [h]
    rfl
  rw [p, s]
  show (if (hdR T).hr = true then jConv ex (T.drop 1) goal else _) = none
  rw [if_pos hd, c]
  unfold jConv
  rw [if_neg (by simp), cv_refl]
  rfl
theorem j_put1 {fs : List TF} {e : Env} {ex : List (List R × List R)} {x : Str} {T : List R} {s : Src} (h : e x = some (.rw :: T)) (hd : (hdR T).hw = true) (k : jSrc e ex (T.drop 1) s = none) : jStm fs e ex (.put x 1 s) = none := by
  show (match jPlace e x 1 with
    | some f => some f
    | none => if (hdR (jSeen e x 1)).hw then jSrc e ex ((jSeen e x 1).drop 1) s else some "may not write") = none
  have ne : 1 ≤ T.length := by
    cases T with
    | nil => cases hd
    | cons a b => simp
  have p : jPlace e x 1 = none := by
    unfold jPlace
    rw [h]
    show (if (R.rw :: T).length ≤ 1 then _ else if ((R.rw :: T).take 1).all R.hr then none else _) = none
    rw [if_neg (by rw [List.length_cons]; omega), if_pos (by rfl)]
  have s' : jSeen e x 1 = T := by
    unfold jSeen
    rw [h]
    rfl
  rw [p, s']
  show (if (hdR T).hw = true then jSrc e ex (T.drop 1) s else _) = none
  rw [if_pos hd, k]
theorem j_adr0 {e : Env} {ex : List (List R × List R)} {x : Str} {T goal : List R} (h : e x = some T) (ne : 1 ≤ T.length) (c : cv T goal = true) : jSrc e ex goal (.adr x 0) = none := by
  show (match jPlace e x 0 with
    | some f => some f
    | none => jConv ex (jSeen e x 0) goal) = none
  have p : jPlace e x 0 = none := by
    unfold jPlace
    rw [h]
    show (if T.length ≤ 0 then _ else if (T.take 0).all R.hr then none else _) = none
    rw [if_neg (by omega), if_pos (by rfl)]
  have s : jSeen e x 0 = T := by
    unfold jSeen
    rw [h]
    rfl
  rw [p, s]
  show jConv ex T goal = none
  unfold jConv
  have l := cv_len c
  rw [if_neg (by omega), c]
  rfl
theorem j_fsrc {e : Env} {ex : List (List R × List R)} (T : List R) : jSrc e ex T (fsrc T) = none := by
  unfold fsrc
  by_cases h : T = []
  · rw [if_pos h]
    show (if T = [] then none else _) = none
    rw [if_pos h]
  · rw [if_neg h]
    show (if T = [] then _ else none) = none
    rw [if_neg h]
theorem cv_rw {a : R} {as : List R} : cv (.rw :: as) (a :: as) = true := by
  rw [cv_cons rfl, cv_refl]
  cases a <;> rfl
theorem cv_rw' {S T : List R} (ne : 1 ≤ T.length) (h : T.drop 1 = S) : cv (.rw :: S) T = true := by
  cases T with
  | nil => simp at ne
  | cons a as =>
    rw [← h]
    exact cv_rw
/-- let by, with the first pair as the extra one -/
theorem cvt_j {fs : List TF} {p0 : PR} {ex : List PR} (hx : exB ex p0.1 p0.2 = true) : ∀ {r : List (Bool × PR)} {e : Env} {i q : Nat}, VP p0 r → r.length ≤ 4 → 3 * r.length + 3 ≤ q → q < 16 → e (nmn q) = some (.rw :: (topP p0 r).1) →
    jBlk fs ex e i (cvt p0 r q).1 = [] ∧ envB e (cvt p0 r q).1 (nmn (cvt p0 r q).2) = some (.rw :: (topP p0 r).2) ∧ ∀ y, (∀ j, j < 3 * r.length + 3 → y ≠ nmn j) → envB e (cvt p0 r q).1 y = e y
  | [], e, i, q, v, _, _, _, h => by
    refine ⟨jBlk_one (j_val0 h v (by rw [show (topP p0 []).1 = p0.1 from rfl]; show (_ || exB ex p0.1 p0.2) = true; rw [hx, Bool.or_true])), (show (e.put (nmn 0) (.rw :: p0.2)) (nmn 0) = _ from put_same _ _ _), fun y hy => (show (e.put (nmn 0) (.rw :: p0.2)) y = _ from put_else _ _ (hy 0 (by show 0 < 3 * 0 + 3; omega)))⟩
  | (t, p) :: r, e, i, q, v, hr, lo, hi, h => by
    have hl := vp_len v
    obtain ⟨v1, v2, v3⟩ := v
    have hl1 := vp_len v1
    have hr' : r.length + 1 ≤ 4 := hr
    have lo' : 3 * (r.length + 1) + 3 ≤ q := lo
    have ne2 : 1 ≤ (topP p0 r).2.length := by
      cases z : (topP p0 r).2 with
      | nil => rw [z] at v3; cases t <;> cases v3
      | cons x xs => simp
    have ne1 : 1 ≤ (topP p0 r).1.length := by omega
    have nn : ∀ {a b : Nat}, a < 18 → b < 18 → a ≠ b → nmn a ≠ nmn b := fun a b c => nmn_ne a b c
    have h : e (nmn q) = some (.rw :: p.1) := h
    cases t with
    | true =>
      have p1 : (topP p0 r).1.drop 1 = p.1 := by rw [v2]; rfl
      have p2 : (topP p0 r).2.drop 1 = p.2 := by rw [v2]; rfl
      obtain ⟨j1, j2, j3⟩ := cvt_j (fs := fs) hx (r := r) (e := (e.put (nmn (3 * r.length + 4)) (.rw :: p.1)).put (nmn (3 * r.length + 5)) (.rw :: (topP p0 r).1)) (i := i + 1 + 1) (q := 3 * r.length + 5) v1 (by omega) (by omega) (by omega) (put_same _ _ _)
      have rs := cvt_res p0 r (3 * r.length + 5)
      have eq : ∀ y, envB e (cvt p0 ((true, p) :: r) q).1 y = (envB ((e.put (nmn (3 * r.length + 4)) (.rw :: p.1)).put (nmn (3 * r.length + 5)) (.rw :: (topP p0 r).1)) (cvt p0 r (3 * r.length + 5)).1).put (nmn (3 * r.length + 3)) (.rw :: p.2) y := fun y => by
        show ((envB e (_ :: _ :: ((cvt p0 r (3 * r.length + 5)).1 ++ [_])))) y = _
        unfold envB
        rw [List.foldl_cons, List.foldl_cons, List.foldl_append]
        rfl
      refine ⟨?_, (eq _).trans (put_same _ _ _), fun y hy => ?_⟩
      · show jBlk fs ex e i (_ :: _ :: ((cvt p0 r (3 * r.length + 5)).1 ++ [_])) = []
        refine jBlk_cons (j_val0 h (by show p.1.length = p.1.length; rfl) (by show (cv p.1 p.1 || _) = true; rw [cv_refl]; rfl)) ?_
        refine jBlk_cons (j_adr0 (put_same _ _ _) (by simp) (cv_rw' ne1 p1)) ?_
        rw [jBlk_app]
        refine (congrArg (· ++ _) j1).trans ?_
        refine jBlk_one (j_val1 (T := (topP p0 r).2) j2 (by simpa [R.has] using v3) p2)
      · rw [eq y, put_else _ _ (hy _ (by show _ < 3 * (r.length + 1) + 3; omega)), j3 y (fun j hj => hy j (by show j < 3 * (r.length + 1) + 3; omega)), put_else _ _ (hy _ (by show _ < 3 * (r.length + 1) + 3; omega)), put_else _ _ (hy _ (by show _ < 3 * (r.length + 1) + 3; omega))]
    | false =>
      have p1 : (topP p0 r).2.drop 1 = p.1 := by rw [v2]; rfl
      have p2 : (topP p0 r).1.drop 1 = p.2 := by rw [v2]; rfl
      obtain ⟨j1, j2, j3⟩ := cvt_j (fs := fs) hx (r := r) (e := (e.put (nmn (3 * r.length + 4)) (.rw :: p.2)).put (nmn (3 * r.length + 5)) (.rw :: (topP p0 r).1)) (i := i + 1 + 1) (q := 3 * r.length + 5) v1 (by omega) (by omega) (by omega) (put_same _ _ _)
      have rs := cvt_res p0 r (3 * r.length + 5)
      have eq : ∀ y, envB e (cvt p0 ((false, p) :: r) q).1 y = envB ((e.put (nmn (3 * r.length + 4)) (.rw :: p.2)).put (nmn (3 * r.length + 5)) (.rw :: (topP p0 r).1)) (cvt p0 r (3 * r.length + 5)).1 y := fun y => by
        show ((envB e (_ :: _ :: ((cvt p0 r (3 * r.length + 5)).1 ++ [_])))) y = _
        unfold envB
        rw [List.foldl_cons, List.foldl_cons, List.foldl_append]
        rfl
      have cl : envB ((e.put (nmn (3 * r.length + 4)) (.rw :: p.2)).put (nmn (3 * r.length + 5)) (.rw :: (topP p0 r).1)) (cvt p0 r (3 * r.length + 5)).1 (nmn (3 * r.length + 4)) = some (.rw :: p.2) := by
        rw [j3 _ (fun j hj => nn (by omega) (by omega) (by omega)), put_else _ _ (nn (by omega) (by omega) (by omega)), put_same]
      refine ⟨?_, (eq _).trans cl, fun y hy => ?_⟩
      · show jBlk fs ex e i (_ :: _ :: ((cvt p0 r (3 * r.length + 5)).1 ++ [_])) = []
        refine jBlk_cons (j_fsrc p.2) ?_
        refine jBlk_cons (j_adr0 (put_same _ _ _) (by simp) (cv_rw' ne1 p2)) ?_
        rw [jBlk_app]
        refine (congrArg (· ++ _) j1).trans ?_
        refine jBlk_one (j_put1 (T := (topP p0 r).2) j2 (by simpa [R.has] using v3) ?_)
        rw [p1]
        refine j_val0 (T := p.1) ?_ rfl (by rw [cv_refl]; rfl)
        refine (j3 (nmn q) (fun j hj => nn (by omega) (by omega) (by omega))).trans ?_
        rw [put_else _ _ (nn (by omega) (by omega) (by omega)), put_else _ _ (nn (by omega) (by omega) (by omega))]
        exact h
      · rw [eq y, j3 y (fun j hj => hy j (by show j < 3 * (r.length + 1) + 3; omega)), put_else _ _ (hy _ (by show _ < 3 * (r.length + 1) + 3; omega)), put_else _ _ (hy _ (by show _ < 3 * (r.length + 1) + 3; omega))]
/-! ### run -/
theorem ex_let {cl : CL} {sc : Sc} {s : RS} {x : Str} {T : List R} {src : Src} {v : Vl} (l : s.n < 1000) (h : gv s.th sc src = ([], some v)) : ex1 true cl sc s (.lt x T src) = (.go, ⟨s.th ++ [⟨x, T, v⟩], s.br, s.n + 1⟩, sc.put x s.th.length) := by
  unfold ex1
  rw [if_neg (by omega)]
  show (match gv s.th sc src with
    | (b, none) => (Out.stop, (⟨s.th, s.br ++ b, s.n + 1⟩ : RS), sc)
    | (b, some v) => (Out.go, (⟨s.th ++ [(⟨x, T, v⟩ : Thg)], s.br ++ b, s.n + 1⟩ : RS), sc.put x s.th.length)) = _
  rw [h]
  simp
theorem gv_val0 {ths : List Thg} {sc : Sc} {x y : Str} {T : List R} {i : Nat} {v : Vl} (h : sc x = some i) (k : ths[i]? = some ⟨y, .rw :: T, v⟩) : gv ths sc (.val x 0) = ([], some v) := by
  show rdV ths (folX ths sc x 0) = _
  unfold folX
  rw [h]
  show rdV ths (([], some i) : Brs × Option Nat) = _
  show (match ths[i]? with
    | none => (([] : Brs), none)
    | some t => ([] ++ rdB t i, some t.v)) = _
  rw [k]
  rfl
theorem gv_adr0 {ths : List Thg} {sc : Sc} {x : Str} {i : Nat} (h : sc x = some i) : gv ths sc (.adr x 0) = ([], some (.th i)) := by
  show ((folX ths sc x 0).1, (folX ths sc x 0).2.map Vl.th) = _
  unfold folX
  rw [h]
  rfl
theorem fol_1 {ths : List Thg} {sc : Sc} {x y : Str} {T : List R} {i c : Nat} (h : sc x = some i) (k : ths[i]? = some ⟨y, .rw :: T, .th c⟩) : folX ths sc x 1 = ([], some c) := by
  unfold folX
  rw [h]
  show fol ths 1 i = _
  unfold fol
  rw [k]
  show (rdB _ i ++ (fol ths 0 c).1, (fol ths 0 c).2) = _
  rfl
theorem gv_val1 {ths : List Thg} {sc : Sc} {x y z : Str} {T U : List R} {i c : Nat} {v : Vl} (h : sc x = some i) (k : ths[i]? = some ⟨y, .rw :: T, .th c⟩) (g : ths[c]? = some ⟨z, .rw :: U, v⟩) : gv ths sc (.val x 1) = ([], some v) := by
  show rdV ths (folX ths sc x 1) = _
  rw [fol_1 h k]
  show (match ths[c]? with
    | none => (([] : Brs), none)
    | some t => ([] ++ rdB t c, some t.v)) = _
  rw [g]
  rfl
theorem sc_same (sc : Sc) (x : Str) (n : Nat) : (sc.put x n) x = some n := if_pos rfl
theorem sc_else (sc : Sc) {x y : Str} (n : Nat) (h : y ≠ x) : (sc.put x n) y = sc y := if_neg h
theorem app_old {ths : List Thg} {t : Thg} {m : Nat} {u : Thg} (h : ths[m]? = some u) : (ths ++ [t])[m]? = some u := by rw [List.getElem?_append_left (at_lt h)]; exact h
theorem app_new (ths : List Thg) (t : Thg) : (ths ++ [t])[ths.length]? = some t := by simp
theorem exs_nil (lim : Bool) (cl : CL) (sc : Sc) (s : RS) : exs lim cl sc s [] = (.go, s, sc) := rfl
theorem gv_fsrc (ths : List Thg) (sc : Sc) (T : List R) : ∃ v, gv ths sc (fsrc T) = ([], some v) := by
  unfold fsrc
  by_cases h : T = []
  · rw [if_pos h]
    exact ⟨_, rfl⟩
  · rw [if_neg h]
    exact ⟨_, rfl⟩
/-- it runs, and hands on the address that it is given -/
theorem cvt_r {p0 : PR} {cl : CL} : ∀ {r : List (Bool × PR)} {sc : Sc} {s : RS} {q i a : Nat} {x : Str}, r.length ≤ 4 → 3 * r.length + 3 ≤ q → q < 16 → sc (nmn q) = some i → s.th[i]? = some ⟨x, .rw :: (topP p0 r).1, .th a⟩ → s.n + (3 * r.length + 1) ≤ 1000 →
    ∃ s' sc' j x', exs true cl sc s (cvt p0 r q).1 = (.go, s', sc') ∧ sc' (nmn (cvt p0 r q).2) = some j ∧ s'.th[j]? = some ⟨x', .rw :: (topP p0 r).2, .th a⟩ ∧ s'.br = s.br ∧ s'.n = s.n + (3 * r.length + 1) ∧
      (∀ (m : Nat) (t : Thg), s.th[m]? = some t → s'.th[m]? = some t) ∧ ∀ y, (∀ j, j < 3 * r.length + 3 → y ≠ nmn j) → sc' y = sc y
  | [], sc, s, q, i, a, x, _, _, _, h, k, l => by
    have l : s.n + 1 ≤ 1000 := by simpa using l
    have e := ex_let (cl := cl) (sc := sc) (s := s) (x := nmn 0) (T := .rw :: p0.2) (by omega) (gv_val0 h k)
    refine ⟨_, _, s.th.length, nmn 0, exs_go e, sc_same _ _ _, app_new _ _, rfl, rfl, fun m t z => app_old z, fun y hy => sc_else _ _ (hy 0 (by show 0 < 3 * 0 + 3; omega))⟩
  | (t, p) :: r, sc, s, q, i, a, x, hr, lo, hi, h, k, l => by
    have hr' : r.length + 1 ≤ 4 := hr
    have lo' : 3 * (r.length + 1) + 3 ≤ q := lo
    have l' : s.n + (3 * (r.length + 1) + 1) ≤ 1000 := l
    have nn : ∀ {a b : Nat}, a < 18 → b < 18 → a ≠ b → nmn a ≠ nmn b := fun a b c => nmn_ne a b c
    have k : s.th[i]? = some ⟨x, .rw :: p.1, .th a⟩ := k
    have rs := cvt_res p0 r (3 * r.length + 5)
    -- the cell and what lends it
    have step : ∀ (T : List R) (v : Vl) (src : Src), gv s.th sc src = ([], some v) → ∃ s1 sc1, exs true cl sc s [.lt (nmn (3 * r.length + 4)) (.rw :: T) src, .lt (nmn (3 * r.length + 5)) (.rw :: (topP p0 r).1) (.adr (nmn (3 * r.length + 4)) 0)] = (.go, s1, sc1) ∧
        s1 = ⟨s.th ++ [⟨nmn (3 * r.length + 4), .rw :: T, v⟩] ++ [⟨nmn (3 * r.length + 5), .rw :: (topP p0 r).1, .th s.th.length⟩], s.br, s.n + 1 + 1⟩ ∧ sc1 = (sc.put (nmn (3 * r.length + 4)) s.th.length).put (nmn (3 * r.length + 5)) (s.th.length + 1) := fun T v src g => by
      have e1 := ex_let (cl := cl) (sc := sc) (s := s) (x := nmn (3 * r.length + 4)) (T := .rw :: T) (by omega) g
      have e2 := ex_let (cl := cl) (sc := sc.put (nmn (3 * r.length + 4)) s.th.length) (s := ⟨s.th ++ [⟨nmn (3 * r.length + 4), .rw :: T, v⟩], s.br, s.n + 1⟩) (x := nmn (3 * r.length + 5)) (T := .rw :: (topP p0 r).1) (src := .adr (nmn (3 * r.length + 4)) 0) (by show s.n + 1 < 1000; omega) (gv_adr0 (sc_same _ _ _))
      refine ⟨_, _, (exs_go e1).trans (exs_go e2), rfl, ?_⟩
      show (_ : Sc).put _ (s.th ++ [_]).length = _
      rw [List.length_append]
      rfl
    cases t with
    | true =>
      obtain ⟨s1, sc1, E1, rfl, rfl⟩ := step p.1 (.th a) _ (gv_val0 h k)
      obtain ⟨s2, sc2, j, x2, E2, f2, g2, b2, n2, o2, u2⟩ := cvt_r (p0 := p0) (cl := cl) (r := r) (sc := (sc.put (nmn (3 * r.length + 4)) s.th.length).put (nmn (3 * r.length + 5)) (s.th.length + 1)) (s := ⟨s.th ++ [⟨nmn (3 * r.length + 4), .rw :: p.1, .th a⟩] ++ [⟨nmn (3 * r.length + 5), .rw :: (topP p0 r).1, .th s.th.length⟩], s.br, s.n + 1 + 1⟩) (q := 3 * r.length + 5) (i := s.th.length + 1) (a := s.th.length) (by omega) (by omega) (by omega) (sc_same _ _ _)
        (by show (s.th ++ [_] ++ [_])[s.th.length + 1]? = _; rw [show s.th.length + 1 = (s.th ++ [(⟨nmn (3 * r.length + 4), .rw :: p.1, .th a⟩ : Thg)]).length by simp]; exact app_new _ _) (by show s.n + 1 + 1 + _ ≤ 1000; omega)
      have n2' : s2.n = s.n + 1 + 1 + (3 * r.length + 1) := n2
      have cell := o2 s.th.length _ (app_old (app_new s.th _))
      have e3 := ex_let (cl := cl) (sc := sc2) (s := s2) (x := nmn (3 * r.length + 3)) (T := .rw :: p.2) (src := .val (nmn (cvt p0 r (3 * r.length + 5)).2) 1) (by omega) (gv_val1 f2 g2 cell)
      refine ⟨⟨s2.th ++ [⟨nmn (3 * r.length + 3), .rw :: p.2, .th a⟩], s2.br, s2.n + 1⟩, sc2.put (nmn (3 * r.length + 3)) s2.th.length, s2.th.length, nmn (3 * r.length + 3), ?_, sc_same _ _ _, app_new _ _, b2, ?_, fun m t z => app_old (o2 m t (app_old (app_old z))), fun y hy => ?_⟩
      · show exs true cl sc s ([_, _] ++ (cvt p0 r (3 * r.length + 5)).1 ++ [_]) = _
        rw [List.append_assoc, exs_app E1, exs_app E2]
        exact exs_go e3
      · show s2.n + 1 = s.n + (3 * (r.length + 1) + 1)
        omega
      · rw [sc_else _ _ (hy _ (by show _ < 3 * (r.length + 1) + 3; omega)), u2 y (fun j hj => hy j (by show j < 3 * (r.length + 1) + 3; omega)), sc_else _ _ (hy _ (by show _ < 3 * (r.length + 1) + 3; omega)), sc_else _ _ (hy _ (by show _ < 3 * (r.length + 1) + 3; omega))]
    | false =>
      obtain ⟨v0, g0⟩ := gv_fsrc s.th sc p.2
      obtain ⟨s1, sc1, E1, rfl, rfl⟩ := step p.2 v0 _ g0
      obtain ⟨s2, sc2, j, x2, E2, f2, g2, b2, n2, o2, u2⟩ := cvt_r (p0 := p0) (cl := cl) (r := r) (sc := (sc.put (nmn (3 * r.length + 4)) s.th.length).put (nmn (3 * r.length + 5)) (s.th.length + 1)) (s := ⟨s.th ++ [⟨nmn (3 * r.length + 4), .rw :: p.2, v0⟩] ++ [⟨nmn (3 * r.length + 5), .rw :: (topP p0 r).1, .th s.th.length⟩], s.br, s.n + 1 + 1⟩) (q := 3 * r.length + 5) (i := s.th.length + 1) (a := s.th.length) (by omega) (by omega) (by omega) (sc_same _ _ _)
        (by show (s.th ++ [_] ++ [_])[s.th.length + 1]? = _; rw [show s.th.length + 1 = (s.th ++ [(⟨nmn (3 * r.length + 4), .rw :: p.2, v0⟩ : Thg)]).length by simp]; exact app_new _ _) (by show s.n + 1 + 1 + _ ≤ 1000; omega)
      have n2' : s2.n = s.n + 1 + 1 + (3 * r.length + 1) := n2
      have cell := o2 s.th.length _ (app_old (app_new s.th _))
      have old := o2 i _ (app_old (app_old k))
      have nmq : sc2 (nmn q) = some i := by
        rw [u2 _ (fun j hj => nn (by omega) (by omega) (by omega)), sc_else _ _ (nn (by omega) (by omega) (by omega)), sc_else _ _ (nn (by omega) (by omega) (by omega))]
        exact h
      have nmc : sc2 (nmn (3 * r.length + 4)) = some s.th.length := by
        rw [u2 _ (fun j hj => nn (by omega) (by omega) (by omega)), sc_else _ _ (nn (by omega) (by omega) (by omega)), sc_same]
      have e3 : ex1 true cl sc2 s2 (.put (nmn (cvt p0 r (3 * r.length + 5)).2) 1 (.val (nmn q) 0)) = (.go, ⟨s2.th.set s.th.length ⟨nmn (3 * r.length + 4), .rw :: p.2, .th a⟩, s2.br, s2.n + 1⟩, sc2) := by
        unfold ex1
        rw [if_neg (by omega)]
        show (match folX s2.th sc2 (nmn (cvt p0 r (3 * r.length + 5)).2) 1 with
          | (b, none) => (Out.stop, (⟨s2.th, s2.br ++ b, s2.n + 1⟩ : RS), sc2)
          | (b, some m) => match gv s2.th sc2 (.val (nmn q) 0) with
            | (b2, none) => (Out.stop, (⟨s2.th, s2.br ++ b ++ b2, s2.n + 1⟩ : RS), sc2)
            | (b2, some v) => putT s2 sc2 b b2 m v) = _
        rw [fol_1 f2 g2, gv_val0 nmq old]
        show putT s2 sc2 [] [] s.th.length (.th a) = _
        unfold putT
        rw [cell]
        show (Out.go, (⟨_, s2.br ++ [] ++ [] ++ [], _⟩ : RS), sc2) = _
        simp
      refine ⟨⟨s2.th.set s.th.length ⟨nmn (3 * r.length + 4), .rw :: p.2, .th a⟩, s2.br, s2.n + 1⟩, sc2, s.th.length, nmn (3 * r.length + 4), ?_, nmc, List.getElem?_set_self (at_lt cell), b2, ?_, fun m t z => ?_, fun y hy => ?_⟩
      · show exs true cl sc s ([_, _] ++ (cvt p0 r (3 * r.length + 5)).1 ++ [_]) = _
        rw [List.append_assoc, exs_app E1, exs_app E2]
        exact exs_go e3
      · show s2.n + 1 = s.n + (3 * (r.length + 1) + 1)
        omega
      · show (s2.th.set _ _)[m]? = _
        rw [List.getElem?_set_ne (by have := at_lt z; omega)]
        exact o2 m t (app_old (app_old z))
      · rw [u2 y (fun j hj => hy j (by show j < 3 * (r.length + 1) + 3; omega)), sc_else _ _ (hy _ (by show _ < 3 * (r.length + 1) + 3; omega)), sc_else _ _ (hy _ (by show _ < 3 * (r.length + 1) + 3; omega))]
/-! ### the path of a bar -/
def rp (p0 : PR) : List (Bool × PR) → List Bool → List (Bool × PR)
  | acc, [] => acc
  | acc, t :: ls => rp p0 ((t, bh t (topP p0 acc)) :: acc) ls
theorem rp_ok {p0 : PR} {c : Bool} : ∀ {ls : List Bool} {acc : List (Bool × PR)}, VP p0 acc → ib (topP p0 acc).1 (topP p0 acc).2 ls c = true →
    VP p0 (rp p0 acc ls) ∧ (rp p0 acc ls).length = acc.length + ls.length ∧ (hdR (topP p0 (rp p0 acc ls)).2).has c = true ∧ (hdR (topP p0 (rp p0 acc ls)).1).has c = false
  | [], acc, v, h => by
    refine ⟨v, rfl, ?_⟩
    show (hdR (topP p0 acc).2).has c = true ∧ (hdR (topP p0 acc).1).has c = false
    cases e1 : (topP p0 acc).1 with
    | nil => rw [e1] at h; cases e2 : (topP p0 acc).2 <;> rw [e2] at h <;> cases h
    | cons x xs =>
      cases e2 : (topP p0 acc).2 with
      | nil => rw [e1, e2] at h; cases h
      | cons y ys =>
        rw [e1, e2] at h
        have h : (y.has c && !x.has c) = true := h
        rw [Bool.and_eq_true] at h
        exact ⟨h.1, by show x.has c = false; simpa using h.2⟩
  | t :: ls, acc, v, h => by
    have key : (hdR (topP p0 acc).2).has t = true ∧ ib (bh t (topP p0 acc)).1 (bh t (topP p0 acc)).2 ls c = true := by
      cases e1 : (topP p0 acc).1 with
      | nil => rw [e1] at h; cases e2 : (topP p0 acc).2 <;> rw [e2] at h <;> cases h
      | cons x xs =>
        cases e2 : (topP p0 acc).2 with
        | nil => rw [e1, e2] at h; cases h
        | cons y ys =>
          rw [e1, e2] at h
          have h : (y.has t && ib (if t then xs else ys) (if t then ys else xs) ls c) = true := h
          rw [Bool.and_eq_true] at h
          refine ⟨h.1, ?_⟩
          have g := h.2
          unfold bh
          cases t
          · rw [if_neg (by simp), e1, e2]
            exact g
          · rw [if_pos rfl, e1, e2]
            exact g
    have ih := rp_ok (p0 := p0) (c := c) (ls := ls) (acc := (t, bh t (topP p0 acc)) :: acc) ⟨v, rfl, key.1⟩ key.2
    obtain ⟨i1, i2, i3⟩ := ih
    refine ⟨i1, ?_, i3⟩
    show (rp p0 ((t, bh t (topP p0 acc)) :: acc) ls).length = _
    rw [i2]
    simp only [List.length_cons]
    omega
/-! ### the whole program -/
def bEnd (c : Bool) (sn : List R) (j : Nat) : Stm := if c then .lt (nmn 17) (.rw :: sn.drop 1) (.val (nmn j) 1) else .put (nmn j) 1 (fsrc (sn.drop 1))
def bprog (p0 : PR) (r : List (Bool × PR)) (c : Bool) : List Stm := [.lt (nmn 16) (topP p0 r).1 (fsrc ((topP p0 r).1.drop 1)), .lt (nmn 15) (.rw :: (topP p0 r).1) (.adr (nmn 16) 0)] ++ (cvt p0 r 15).1 ++ [bEnd c (topP p0 r).2 (cvt p0 r 15).2]
theorem bprog_len (p0 : PR) (r : List (Bool × PR)) (c : Bool) : (bprog p0 r c).length = 3 * r.length + 4 := by
  unfold bprog
  simp only [List.length_append, List.length_cons, List.length_nil, cvt_len]
  omega
theorem has_ne {T : List R} {c : Bool} (h : (hdR T).has c = true) : 1 ≤ T.length := by
  cases T with
  | nil => cases c <;> cases h
  | cons x xs => simp
theorem b_let {p0 : PR} {ex : List PR} {r : List (Bool × PR)} {c : Bool} (hx : exB ex p0.1 p0.2 = true) (v : VP p0 r) (l : r.length ≤ 4) (h : (hdR (topP p0 r).2).has c = true) : jAll [] (bprog p0 r c) ex = [] := by
  have hl := vp_len v
  have ne := has_ne h
  have nn : ∀ {a b : Nat}, a < 18 → b < 18 → a ≠ b → nmn a ≠ nmn b := fun a b c => nmn_ne a b c
  obtain ⟨j1, j2, j3⟩ := cvt_j (fs := []) hx (r := r) (e := (e0.put (nmn 16) (topP p0 r).1).put (nmn 15) (.rw :: (topP p0 r).1)) (i := 0 + 1 + 1) (q := 15) v l (by omega) (by omega) (put_same _ _ _)
  have all : jBlk [] ex e0 0 (bprog p0 r c) = [] := by
    show jBlk [] ex e0 0 (_ :: _ :: ((cvt p0 r 15).1 ++ [_])) = []
    refine jBlk_cons (show jSrc e0 ex ((topP p0 r).1.drop 1) (fsrc ((topP p0 r).1.drop 1)) = none from j_fsrc _) ?_
    refine jBlk_cons (j_adr0 (put_same _ _ _) (by omega) (cv_refl _)) ?_
    rw [jBlk_app]
    refine (congrArg (· ++ _) j1).trans ?_
    refine jBlk_one ?_
    unfold bEnd
    cases c with
    | true =>
      rw [if_pos rfl]
      exact j_val1 (T := (topP p0 r).2) j2 (by simpa [R.has] using h) rfl
    | false =>
      rw [if_neg (by simp)]
      exact j_put1 (T := (topP p0 r).2) j2 (by simpa [R.has] using h) (j_fsrc _)
  unfold jAll
  rw [all]
  rfl
theorem b_run {p0 : PR} {r : List (Bool × PR)} {c : Bool} (v : VP p0 r) (l : r.length ≤ 4) (h : (hdR (topP p0 r).2).has c = true) (no : (hdR (topP p0 r).1).has c = false) : (runP true [] (bprog p0 r c)).1 = .go ∧ (runP true [] (bprog p0 r c)).2.1.br ≠ [] := by
  have hl := vp_len v
  have ne := has_ne h
  obtain ⟨v0, g0⟩ := gv_fsrc [] sc0 ((topP p0 r).1.drop 1)
  have e1 := ex_let (cl := callF true []) (sc := sc0) (s := s0) (x := nmn 16) (T := (topP p0 r).1) (by decide) g0
  have e2 := ex_let (cl := callF true []) (sc := sc0.put (nmn 16) 0) (s := ⟨[⟨nmn 16, (topP p0 r).1, v0⟩], [], 1⟩) (x := nmn 15) (T := .rw :: (topP p0 r).1) (src := .adr (nmn 16) 0) (v := .th 0) (by show 1 < 1000; omega) (gv_adr0 (sc_same _ _ _))
  obtain ⟨s2, sc2, j, x2, E2, f2, g2, b2, n2, o2, u2⟩ := cvt_r (p0 := p0) (cl := callF true []) (r := r) (sc := (sc0.put (nmn 16) 0).put (nmn 15) 1) (s := ⟨[⟨nmn 16, (topP p0 r).1, v0⟩, ⟨nmn 15, .rw :: (topP p0 r).1, .th 0⟩], [], 2⟩) (q := 15) (i := 1) (a := 0) (x := nmn 15) l (by omega) (by omega) (sc_same _ _ _) rfl (by show 2 + _ ≤ 1000; omega)
  have kept := o2 0 _ rfl
  have n2' : s2.n = 2 + (3 * r.length + 1) := n2
  have b2' : s2.br = [] := b2
  have E : ∀ st : Stm, runP true [] ([.lt (nmn 16) (topP p0 r).1 (fsrc ((topP p0 r).1.drop 1)), .lt (nmn 15) (.rw :: (topP p0 r).1) (.adr (nmn 16) 0)] ++ (cvt p0 r 15).1 ++ [st]) = exs true (callF true []) sc2 s2 [st] := fun st => by
    show exs true (callF true []) sc0 s0 (_ :: _ :: ((cvt p0 r 15).1 ++ [st])) = _
    rw [exs_go e1]
    refine (exs_go e2).trans ?_
    exact exs_app E2
  unfold bprog
  rw [E]
  unfold bEnd
  cases c with
  | true =>
    rw [if_pos rfl]
    have rd : (hdR (topP p0 r).1).hr = false := no
    have gvv : gv s2.th sc2 (.val (nmn (cvt p0 r 15).2) 1) = ([(true, 0)], some v0) := by
      show rdV s2.th (folX s2.th sc2 (nmn (cvt p0 r 15).2) 1) = _
      rw [fol_1 f2 g2]
      show (match s2.th[0]? with
        | none => (([] : Brs), none)
        | some t => ([] ++ rdB t 0, some t.v)) = _
      rw [kept]
      show (([] : Brs) ++ (if (hdR (topP p0 r).1).hr = true then [] else [(true, 0)]), some v0) = _
      rw [if_neg (by rw [rd]; decide)]
      rfl
    have e3 : ex1 true (callF true []) sc2 s2 (.lt (nmn 17) (.rw :: (topP p0 r).2.drop 1) (.val (nmn (cvt p0 r 15).2) 1)) = (.go, ⟨s2.th ++ [⟨nmn 17, .rw :: (topP p0 r).2.drop 1, v0⟩], s2.br ++ [(true, 0)], s2.n + 1⟩, sc2.put (nmn 17) s2.th.length) := by
      unfold ex1
      rw [if_neg (by omega)]
      show (match gv s2.th sc2 (.val (nmn (cvt p0 r 15).2) 1) with
        | (b, none) => (Out.stop, (⟨s2.th, s2.br ++ b, s2.n + 1⟩ : RS), sc2)
        | (b, some v) => (Out.go, (⟨s2.th ++ [(⟨nmn 17, .rw :: (topP p0 r).2.drop 1, v⟩ : Thg)], s2.br ++ b, s2.n + 1⟩ : RS), sc2.put (nmn 17) s2.th.length)) = _
      rw [gvv]
    rw [exs_go e3]
    exact ⟨rfl, by show s2.br ++ [(true, 0)] ≠ []; simp⟩
  | false =>
    rw [if_neg (by simp)]
    have wr : (hdR (topP p0 r).1).hw = false := no
    obtain ⟨v1, g1⟩ := gv_fsrc s2.th sc2 ((topP p0 r).2.drop 1)
    have e3 : ex1 true (callF true []) sc2 s2 (.put (nmn (cvt p0 r 15).2) 1 (fsrc ((topP p0 r).2.drop 1))) = (.go, ⟨s2.th.set 0 ⟨nmn 16, (topP p0 r).1, v1⟩, s2.br ++ [] ++ [] ++ [(false, 0)], s2.n + 1⟩, sc2) := by
      unfold ex1
      rw [if_neg (by omega)]
      show (match folX s2.th sc2 (nmn (cvt p0 r 15).2) 1 with
        | (b, none) => (Out.stop, (⟨s2.th, s2.br ++ b, s2.n + 1⟩ : RS), sc2)
        | (b, some m) => match gv s2.th sc2 (fsrc ((topP p0 r).2.drop 1)) with
          | (b2, none) => (Out.stop, (⟨s2.th, s2.br ++ b ++ b2, s2.n + 1⟩ : RS), sc2)
          | (b2, some v) => putT s2 sc2 b b2 m v) = _
      rw [fol_1 f2 g2, g1]
      show putT s2 sc2 [] [] 0 v1 = _
      unfold putT
      rw [kept]
      show (Out.go, (⟨_, s2.br ++ [] ++ [] ++ (if (hdR (topP p0 r).1).hw = true then [] else [(false, 0)]), _⟩ : RS), sc2) = _
      rw [if_neg (by rw [wr]; decide)]
    rw [exs_go e3]
    exact ⟨rfl, by show s2.br ++ [] ++ [] ++ [(false, 0)] ≠ []; simp⟩
/-! ### it is a program -/
theorem sO_fsrc (T : List R) : sO (fsrc T) := by
  unfold fsrc
  by_cases h : T = []
  · rw [if_pos h]
    exact ⟨by decide, by decide⟩
  · rw [if_neg h]
    trivial
theorem ty_cons {T : List R} (h : T.length ≤ 5) : tyO (.rw :: T) := ⟨by simp, by simp; omega⟩
theorem cvt_so {p0 : PR} (l5 : p0.1.length ≤ 5) : ∀ {r : List (Bool × PR)} {q : Nat}, VP p0 r → r.length ≤ 4 → q < 16 → ∀ s ∈ (cvt p0 r q).1, stO s
  | [], q, v, _, hq, s, hs => by
    rw [List.mem_singleton.mp hs]
    have v : p0.1.length = p0.2.length := v
    exact ⟨nmn_ok (by omega), ty_cons (by omega), nmn_ok (by omega), by omega⟩
  | (t, p) :: r, q, v, hr, hq, s, hs => by
    have hl := vp_len v
    obtain ⟨v1, v2, v3⟩ := v
    have hl1 := vp_len v1
    have hr' : r.length + 1 ≤ 4 := hr
    have lp : p.1.length = p.2.length ∧ p.1.length + (r.length + 1) = p0.1.length := hl
    have rs := cvt_res p0 r (3 * r.length + 5)
    have ih := cvt_so l5 (r := r) (q := 3 * r.length + 5) v1 (by omega) (by omega)
    cases t with
    | true =>
      have hs : s ∈ _ :: _ :: ((cvt p0 r (3 * r.length + 5)).1 ++ [_]) := hs
      rcases List.mem_cons.mp hs with rfl | hs
      · exact ⟨nmn_ok (by omega), ty_cons (by omega), nmn_ok (by omega), by omega⟩
      rcases List.mem_cons.mp hs with rfl | hs
      · exact ⟨nmn_ok (by omega), ty_cons (by omega), nmn_ok (by omega), by omega⟩
      rcases List.mem_append.mp hs with hs | hs
      · exact ih s hs
      · rw [List.mem_singleton.mp hs]
        exact ⟨nmn_ok (by omega), ty_cons (by omega), nmn_ok (by omega), by omega⟩
    | false =>
      have hs : s ∈ _ :: _ :: ((cvt p0 r (3 * r.length + 5)).1 ++ [_]) := hs
      rcases List.mem_cons.mp hs with rfl | hs
      · exact ⟨nmn_ok (by omega), ty_cons (by omega), sO_fsrc _⟩
      rcases List.mem_cons.mp hs with rfl | hs
      · exact ⟨nmn_ok (by omega), ty_cons (by omega), nmn_ok (by omega), by omega⟩
      rcases List.mem_append.mp hs with hs | hs
      · exact ih s hs
      · rw [List.mem_singleton.mp hs]
        exact ⟨nmn_ok (by omega), by omega, nmn_ok (by omega), by omega⟩
theorem cvt_nm {p0 : PR} : ∀ {r : List (Bool × PR)} {q : Nat}, ∃ is : List Nat, (lets (cvt p0 r q).1).map Prod.fst = is.map nmn ∧ is.Nodup ∧ ∀ i ∈ is, i < 3 * r.length + 3
  | [], q => ⟨[0], rfl, by simp, by simp⟩
  | (t, p) :: r, q => by
    obtain ⟨is, h1, h2, h3⟩ := cvt_nm (p0 := p0) (r := r) (q := 3 * r.length + 5)
    cases t with
    | true =>
      refine ⟨(3 * r.length + 4) :: (3 * r.length + 5) :: (is ++ [3 * r.length + 3]), ?_, ?_, ?_⟩
      · show (lets (_ :: _ :: ((cvt p0 r (3 * r.length + 5)).1 ++ [_]))).map Prod.fst = _
        show nmn _ :: nmn _ :: (lets ((cvt p0 r (3 * r.length + 5)).1 ++ [_])).map Prod.fst = _
        rw [lets_app, List.map_append, h1, List.map_cons, List.map_cons, List.map_append]
        rfl
      · refine List.nodup_cons.mpr ⟨?_, List.nodup_cons.mpr ⟨?_, ?_⟩⟩
        · intro m
          rcases List.mem_cons.mp m with m | m
          · omega
          rcases List.mem_append.mp m with m | m
          · have := h3 _ m; omega
          · rw [List.mem_singleton] at m; omega
        · intro m
          rcases List.mem_append.mp m with m | m
          · have := h3 _ m; omega
          · rw [List.mem_singleton] at m; omega
        · rw [List.nodup_append]
          refine ⟨h2, by simp, fun a ha b hb z => ?_⟩
          rw [List.mem_singleton] at hb
          have := h3 _ ha
          omega
      · intro i hi
        show i < 3 * (r.length + 1) + 3
        rcases List.mem_cons.mp hi with rfl | hi
        · omega
        rcases List.mem_cons.mp hi with rfl | hi
        · omega
        rcases List.mem_append.mp hi with hi | hi
        · have := h3 _ hi; omega
        · rw [List.mem_singleton] at hi; omega
    | false =>
      refine ⟨(3 * r.length + 4) :: (3 * r.length + 5) :: is, ?_, ?_, ?_⟩
      · show (lets (_ :: _ :: ((cvt p0 r (3 * r.length + 5)).1 ++ [_]))).map Prod.fst = _
        show nmn _ :: nmn _ :: (lets ((cvt p0 r (3 * r.length + 5)).1 ++ [_])).map Prod.fst = _
        rw [lets_app, List.map_append, h1, List.map_cons, List.map_cons]
        show _ :: _ :: (_ ++ []) = _
        rw [List.append_nil]
      · refine List.nodup_cons.mpr ⟨?_, List.nodup_cons.mpr ⟨?_, h2⟩⟩
        · intro m
          rcases List.mem_cons.mp m with m | m
          · omega
          · have := h3 _ m; omega
        · intro m
          have := h3 _ m; omega
      · intro i hi
        show i < 3 * (r.length + 1) + 3
        rcases List.mem_cons.mp hi with rfl | hi
        · omega
        rcases List.mem_cons.mp hi with rfl | hi
        · omega
        · have := h3 _ hi; omega
theorem nd_nmn {is : List Nat} (h : is.Nodup) (k : ∀ i ∈ is, i < 18) : (is.map nmn).Nodup := by
  unfold List.Nodup
  rw [List.pairwise_map]
  exact h.imp_of_mem fun ha hb z => nmn_ne (k _ ha) (k _ hb) z
theorem b_ok {p0 : PR} {r : List (Bool × PR)} {c : Bool} (l5 : p0.1.length ≤ 5) (v : VP p0 r) (l : r.length ≤ 4) (h : (hdR (topP p0 r).2).has c = true) : POk [] (bprog p0 r c) where
  f4 := by simp
  fo := fun f hf => by cases hf
  s40 := by rw [bprog_len]; omega
  so := fun s hs => by
    have hl := vp_len v
    have ne := has_ne h
    have rs := cvt_res p0 r 15
    have hs : s ∈ _ :: _ :: ((cvt p0 r 15).1 ++ [_]) := hs
    rcases List.mem_cons.mp hs with rfl | hs
    · exact ⟨nmn_ok (by omega), ⟨by omega, by omega⟩, sO_fsrc _⟩
    rcases List.mem_cons.mp hs with rfl | hs
    · exact ⟨nmn_ok (by omega), ty_cons (by omega), nmn_ok (by omega), by omega⟩
    rcases List.mem_append.mp hs with hs | hs
    · exact cvt_so l5 v l (by omega) s hs
    · rw [List.mem_singleton.mp hs]
      unfold bEnd
      cases c with
      | true =>
        rw [if_pos rfl]
        exact ⟨nmn_ok (by omega), ty_cons (by rw [List.length_drop]; omega), nmn_ok (by omega), by omega⟩
      | false =>
        rw [if_neg (by simp)]
        exact ⟨nmn_ok (by omega), by omega, sO_fsrc _⟩
  nd := by
    obtain ⟨is, h1, h2, h3⟩ := cvt_nm (p0 := p0) (r := r) (q := 15)
    have key : ∃ js : List Nat, (lets (bprog p0 r c)).map Prod.fst = js.map nmn ∧ js.Nodup ∧ ∀ i ∈ js, i < 18 := by
      have base : (16 :: 15 :: is).Nodup := by
        refine List.nodup_cons.mpr ⟨?_, List.nodup_cons.mpr ⟨?_, h2⟩⟩
        · intro m
          rcases List.mem_cons.mp m with m | m
          · omega
          · have := h3 _ m; omega
        · intro m
          have := h3 _ m; omega
      have bd : ∀ i ∈ (16 :: 15 :: is), i < 17 := fun i hi => by
        rcases List.mem_cons.mp hi with rfl | hi
        · omega
        rcases List.mem_cons.mp hi with rfl | hi
        · omega
        · have := h3 _ hi; omega
      have e : ∀ st : Stm, (lets ([Stm.lt (nmn 16) (topP p0 r).1 (fsrc ((topP p0 r).1.drop 1)), .lt (nmn 15) (.rw :: (topP p0 r).1) (.adr (nmn 16) 0)] ++ (cvt p0 r 15).1 ++ [st])).map Prod.fst = (16 :: 15 :: is).map nmn ++ (lets [st]).map Prod.fst := fun st => by
        rw [lets_app, lets_app, List.map_append, List.map_append, h1]
        rfl
      unfold bprog bEnd
      cases c with
      | true =>
        refine ⟨(16 :: 15 :: is) ++ [17], ?_, ?_, ?_⟩
        · rw [e, if_pos rfl, List.map_append]
          rfl
        · rw [List.nodup_append]
          refine ⟨base, by simp, fun a ha b hb z => ?_⟩
          rw [List.mem_singleton] at hb
          have := bd _ ha
          omega
        · intro i hi
          rcases List.mem_append.mp hi with hi | hi
          · have := bd _ hi; omega
          · rw [List.mem_singleton] at hi; omega
      | false =>
        refine ⟨16 :: 15 :: is, ?_, base, fun i hi => by have := bd _ hi; omega⟩
        rw [e, if_neg (by simp)]
        show _ ++ [] = _
        rw [List.append_nil]
    obtain ⟨js, e, n, b⟩ := key
    show (([] : List Str) ++ ((declF [] ++ lets (bprog p0 r c)).map Prod.fst)).Nodup
    show ((lets (bprog p0 r c)).map Prod.fst).Nodup
    rw [e]
    exact nd_nmn n b
  ft := fun s hs => by
    have all : ∀ {r : List (Bool × PR)} {q : Nat}, ∀ s ∈ (cvt p0 r q).1, cf [] s := by
      intro r
      induction r with
      | nil =>
        intro q s hs
        rw [List.mem_singleton.mp hs]
        trivial
      | cons tp r ih =>
        obtain ⟨t, p⟩ := tp
        intro q s hs
        cases t with
        | true =>
          have hs : s ∈ _ :: _ :: ((cvt p0 r (3 * r.length + 5)).1 ++ [_]) := hs
          rcases List.mem_cons.mp hs with rfl | hs
          · trivial
          rcases List.mem_cons.mp hs with rfl | hs
          · trivial
          rcases List.mem_append.mp hs with hs | hs
          · exact ih s hs
          · rw [List.mem_singleton.mp hs]; trivial
        | false =>
          have hs : s ∈ _ :: _ :: ((cvt p0 r (3 * r.length + 5)).1 ++ [_]) := hs
          rcases List.mem_cons.mp hs with rfl | hs
          · trivial
          rcases List.mem_cons.mp hs with rfl | hs
          · trivial
          rcases List.mem_append.mp hs with hs | hs
          · exact ih s hs
          · rw [List.mem_singleton.mp hs]; trivial
    have hs : s ∈ _ :: _ :: ((cvt p0 r 15).1 ++ [_]) := hs
    rcases List.mem_cons.mp hs with rfl | hs
    · trivial
    rcases List.mem_cons.mp hs with rfl | hs
    · trivial
    rcases List.mem_append.mp hs with hs | hs
    · exact all s hs
    · rw [List.mem_singleton.mp hs]
      unfold bEnd
      cases c <;> trivial
/-! ### with an extra conversion that holds anyway nothing breaks -/
theorem eqv_xD (p q : PR) : PyData.eqv (xD p) (xD q) = (decide (p.1 = q.1) && decide (p.2 = q.2)) := by
  unfold xD
  simp only [PyData.eqv, PyData.eqvAll, eqv_ru, Bool.and_true]
theorem exB1 (a b c d : List R) : exB [(a, b)] c d = (decide (a = c) && decide (b = d)) := by
  show (PyData.eqv (xD (a, b)) (xD (c, d)) || false) = _
  rw [eqv_xD, Bool.or_false]
theorem exB_own (a b : List R) : exB [(a, b)] a b = true := by
  rw [exB1]
  simp
theorem safe1 {a b : List R} (h : cv a b = true) : Safe [(a, b)] := fun c d e => by
  rw [exB1, Bool.and_eq_true] at e
  rw [← of_decide_eq_true e.1, ← of_decide_eq_true e.2]
  exact h
theorem b_safe {lim : Bool} {fs : List TF} {ss : List Stm} {ex : List PR} (ok : POk fs ss) (je : jAll fs ss ex = []) (sf : Safe ex) : (runP lim fs ss).2.1.br = [] := by
  obtain ⟨g, j⟩ := prog_good ok je
  exact run_sd (List.nodup_append.mp ok.nd).1 sf g j
/-! ### without it the program is not let by -/
theorem cvt_no {fs : List TF} {p0 : PR} {ex : List PR} (hx : exB ex p0.1 p0.2 = false) (no : cv p0.1 p0.2 = false) : ∀ {r : List (Bool × PR)} {e : Env} {i q : Nat}, VP p0 r → e (nmn q) = some (.rw :: (topP p0 r).1) → jBlk fs ex e i (cvt p0 r q).1 ≠ []
  | [], e, i, q, v, h => by
    show jBlk fs ex e i [.lt (nmn 0) (.rw :: p0.2) (.val (nmn q) 0)] ≠ []
    rw [jBlk_at']
    have f : jStm fs e ex (.lt (nmn 0) (.rw :: p0.2) (.val (nmn q) 0)) = some "no conversion" := by
      show jSrc e ex p0.2 (.val (nmn q) 0) = _
      show (match jPlace e (nmn q) 0 with
        | some f => some f
        | none => if (hdR (jSeen e (nmn q) 0)).hr then jConv ex ((jSeen e (nmn q) 0).drop 1) p0.2 else some "may not read") = _
      have p : jPlace e (nmn q) 0 = none := by
        unfold jPlace
        rw [h]
        rfl
      have s : jSeen e (nmn q) 0 = .rw :: p0.1 := by
        unfold jSeen
        rw [h]
        rfl
      rw [p, s]
      show jConv ex p0.1 p0.2 = _
      unfold jConv
      have v : p0.1.length = p0.2.length := v
      rw [if_neg (by omega), no, hx]
      rfl
    rw [f]
    simp [o1]
  | (t, p) :: r, e, i, q, v, h => by
    have ih : ∀ e2 i2, e2 (nmn (3 * r.length + 5)) = some (.rw :: (topP p0 r).1) → jBlk fs ex e2 i2 (cvt p0 r (3 * r.length + 5)).1 ≠ [] := fun e2 i2 g => cvt_no hx no v.1 g
    cases t with
    | true =>
      show jBlk fs ex e i (_ :: _ :: ((cvt p0 r (3 * r.length + 5)).1 ++ [_])) ≠ []
      rw [jBlk_at', jBlk_at', jBlk_app]
      intro z
      exact ih _ _ (put_same _ _ _) (List.append_eq_nil_iff.mp (List.append_eq_nil_iff.mp (List.append_eq_nil_iff.mp z).2).2).1
    | false =>
      show jBlk fs ex e i (_ :: _ :: ((cvt p0 r (3 * r.length + 5)).1 ++ [_])) ≠ []
      rw [jBlk_at', jBlk_at', jBlk_app]
      intro z
      exact ih _ _ (put_same _ _ _) (List.append_eq_nil_iff.mp (List.append_eq_nil_iff.mp (List.append_eq_nil_iff.mp z).2).2).1
theorem b_not {p0 : PR} {ex : List PR} {r : List (Bool × PR)} {c : Bool} (hx : exB ex p0.1 p0.2 = false) (no : cv p0.1 p0.2 = false) (v : VP p0 r) : jAll [] (bprog p0 r c) ex ≠ [] := by
  intro z
  have z2 := (List.append_eq_nil_iff.mp z).2
  rw [List.map_eq_nil_iff] at z2
  have z3 : jBlk [] ex e0 0 (_ :: _ :: ((cvt p0 r 15).1 ++ [_])) = [] := z2
  rw [jBlk_at', jBlk_at', jBlk_app] at z3
  exact cvt_no hx no v (put_same _ _ _) (List.append_eq_nil_iff.mp (List.append_eq_nil_iff.mp (List.append_eq_nil_iff.mp z3).2).2).1
end Ver

set_option Elab.async false
set_option linter.all false
set_option maxRecDepth 100000
set_option maxHeartbeats 4000000
namespace Ver
open PySem PySem.Spec PyProof.Rows L2 Evl
/-! ## a state as lists that change: the law's own run -/
section
variable {K : PySem.W.Frag}
structure LU (K : PySem.W.Frag) (G H : Hp) (s t b : Addr) (us : List Addr) (r : RS) : Prop where
  ex : Ex G H
  o : H s = some (.lst [.ref t, .ref b, .int (r.n : Int)])
  ls : H t = some (.lst (us.map V.ref))
  nd : us.Nodup
  len : us.length = r.th.length
  th : ∀ (i : Nat) (u : Addr) (q : Thg), us[i]? = some u → r.th[i]? = some q → ∃ p v, H u = some (.lst [.ref p, v, .str q.x]) ∧ Dp K (Im H) (.ref p) (ru q.T) ∧ Dp K (Im H) v (vlD q.v)
  br : ∃ xs, H b = some (.lst xs) ∧ DpAll K (Im H) xs (r.br.map brD)
  d : s ≠ t ∧ s ≠ b ∧ t ≠ b
  uf : ∀ u ∈ us, u ≠ s ∧ u ≠ t ∧ u ≠ b
  n : G s = none ∧ G t = none ∧ G b = none ∧ ∀ u ∈ us, G u = none
def LS (K : PySem.W.Frag) (G H : Hp) (s t b : Addr) (r : RS) : Prop := ∃ us, LU K G H s t b us r
abbrev MS (s t b : Addr) (us : List Addr) : List Addr := s :: t :: b :: us
variable {G H H1 : Hp} {s t b : Addr} {us : List Addr} {r : RS}
theorem LU.at (h : LU K G H s t b us r) {i : Nat} {q : Thg} (e : r.th[i]? = some q) : ∃ u p v, us[i]? = some u ∧ H u = some (.lst [.ref p, v, .str q.x]) ∧ SqT K H p (tv q.T) ∧ Dp K (Im H) (.ref p) (ru q.T) ∧ Dp K (Im H) v (vlD q.v) := by
  have hi : i < us.length := by rw [h.len]; exact at_lt e
  obtain ⟨p, v, h1, h2, h3⟩ := h.th i us[i] q (List.getElem?_eq_getElem hi) e
  obtain ⟨a, ea, ha⟩ := dp_ruT h2
  cases ea
  exact ⟨us[i], p, v, List.getElem?_eq_getElem hi, h1, ex_st ha (im_le _), h2, h3⟩
theorem us_at {i : Nat} {u : Addr} (e : us[i]? = some u) : (us.map V.ref)[i]? = some (.ref u) := by rw [List.getElem?_map, e]; rfl
/-- all of it stands somewhere -/
theorem LU.nin (h : LU K G H s t b us r) {a : Addr} (n : H a = none) : a ∉ MS s t b us := by
  intro m
  simp only [MS, List.mem_cons] at m
  rcases m with rfl | rfl | rfl | m
  · rw [h.o] at n; cases n
  · rw [h.ls] at n; cases n
  · obtain ⟨xs, e, _⟩ := h.br
    rw [e] at n; cases n
  · obtain ⟨i, hi, rfl⟩ := List.mem_iff_getElem.mp m
    have hq : i < r.th.length := by rw [← h.len]; exact hi
    obtain ⟨p, v, h1, _⟩ := h.th i us[i] r.th[i] (List.getElem?_eq_getElem hi) (List.getElem?_eq_getElem hq)
    rw [h1] at n; cases n
theorem LU.lst (h : LU K G H s t b us r) {a : Addr} (m : a ∈ MS s t b us) : ∃ xs, H a = some (.lst xs) := by
  simp only [MS, List.mem_cons] at m
  rcases m with rfl | rfl | rfl | m
  · exact ⟨_, h.o⟩
  · exact ⟨_, h.ls⟩
  · obtain ⟨xs, e, _⟩ := h.br
    exact ⟨_, e⟩
  · obtain ⟨i, hi, rfl⟩ := List.mem_iff_getElem.mp m
    have hq : i < r.th.length := by rw [← h.len]; exact hi
    obtain ⟨p, v, h1, _⟩ := h.th i us[i] r.th[i] (List.getElem?_eq_getElem hi) (List.getElem?_eq_getElem hq)
    exact ⟨_, h1⟩
theorem LU.ng (h : LU K G H s t b us r) {a : Addr} (m : a ∈ MS s t b us) : G a = none := by
  simp only [MS, List.mem_cons] at m
  rcases m with rfl | rfl | rfl | m
  · exact h.n.1
  · exact h.n.2.1
  · exact h.n.2.2.1
  · exact h.n.2.2.2 a m
theorem LU.dct (h : LU K G H s t b us r) {a : Addr} {kvs : Kv} (e : H a = some (.dK kvs)) : a ∉ MS s t b us := fun m => by
  obtain ⟨xs, q⟩ := h.lst m
  rw [q] at e
  cases e
/-- what other places change does nothing to it -/
theorem LU.kp {M : List Addr} (h : LU K G H s t b us r) (k : Kp M H H1) (n : ∀ a ∈ M, G a = none ∧ a ∉ MS s t b us) : LU K G H1 s t b us r where
  ex := fun a o q => k.at (fun m => by rw [(n a m).1] at q; cases q) (h.ex _ _ q)
  o := k.at (fun m => (n _ m).2 (by simp [MS])) h.o
  ls := k.at (fun m => (n _ m).2 (by simp [MS])) h.ls
  nd := h.nd
  len := h.len
  th := fun i u q e1 e2 => by
    obtain ⟨p, v, h1, h2, h3⟩ := h.th i u q e1 e2
    exact ⟨p, v, k.at (fun m => (n _ m).2 (by have := List.mem_of_getElem? e1; simp [MS, this])) h1, dp_ex k.i h2, dp_ex k.i h3⟩
  br := by
    obtain ⟨xs, e, d⟩ := h.br
    exact ⟨xs, k.at (fun m => (n _ m).2 (by simp [MS])) e, dpa_ex k.i d⟩
  d := h.d
  uf := h.uf
  n := h.n
theorem LU.exx (h : LU K G H s t b us r) (e : Ex H H1) : LU K G H1 s t b us r := h.kp (M := []) (Kp.of e) (fun _ m => by cases m)
/-- seen from a smaller heap, from a greater one -/
theorem LU.sub {G' : Hp} (h : LU K G' H s t b us r) (e : Ex G G') : LU K G H s t b us r := { h with
  ex := e.trans h.ex
  n := ⟨ex_none e h.n.1, ex_none e h.n.2.1, ex_none e h.n.2.2.1, fun u m => ex_none e (h.n.2.2.2 u m)⟩ }
theorem LU.big (h : LU K G H s t b us r) (M : List Addr) (m : ∀ a ∈ MS s t b us, a ∈ M) : LU K (dl M H) H s t b us r := { h with
  ex := dl_le _ _
  n := ⟨dl_in (m _ (by simp [MS])), dl_in (m _ (by simp [MS])), dl_in (m _ (by simp [MS])), fun u k => dl_in (m _ (by simp [MS, k]))⟩ }
theorem LU.gb (h : LU K G H s t b us r) {M : List Addr} (m : ∀ a ∈ M, a ∈ MS s t b us ∨ G a = none) : Ex G (dl M H) := fun a o q => by
  rw [dl_nin]
  · exact h.ex _ _ q
  · intro k
    rcases m a k with z | z
    · rw [h.ng z] at q; cases q
    · rw [z] at q; cases q
/-- a breach more -/
theorem LU.appB (h : LU K G H s t b us r) {v : V} {q : Bool × Nat} {Q : VK} (hp : Dp K (Im H) v (brD q)) (hz : r.br.length < 100000) (k : ∀ H1, Kp [b] H H1 → LU K G H1 s t b us ⟨r.th, r.br ++ [q], r.n⟩ → Q .non H1) : rAppend (.ref b) [v] H Q := by
  obtain ⟨xs, e, d⟩ := h.br
  have lx : xs.length = r.br.length := by rw [dpa_len d, List.length_map]
  refine a_appK e (by omega) fun H1 k1 f1 => k H1 k1 ?_
  have ne : ∀ a, a ≠ b → a ∉ [b] := fun a z => by simpa using z
  exact {
    ex := fun a o z => k1.at (ne a fun y => by rw [y, h.n.2.2.1] at z; cases z) (h.ex _ _ z)
    o := k1.at (ne _ h.d.2.1) h.o
    ls := k1.at (ne _ h.d.2.2) h.ls
    nd := h.nd
    len := h.len
    th := fun i u z e1 e2 => by
      obtain ⟨p, w, h1, h2, h3⟩ := h.th i u z e1 e2
      exact ⟨p, w, k1.at (ne _ (h.uf u (List.mem_of_getElem? e1)).2.2) h1, dp_ex k1.i h2, dp_ex k1.i h3⟩
    br := ⟨_, f1, by
      rw [List.map_append]
      exact dpa_snoc (dpa_ex k1.i d) (dp_ex k1.i hp)⟩
    d := h.d
    uf := h.uf
    n := h.n }
/-- another value in a thing -/
theorem LU.setV (h : LU K G H s t b us r) {i : Nat} {u : Addr} {q : Thg} (eu : us[i]? = some u) (eq : r.th[i]? = some q) {v : V} {w : Vl} {N : Hp → Prop} (hv : Dp K (Im H) v (vlD w)) (k : ∀ H1, Kp [u] H H1 → LU K G H1 s t b us ⟨r.th.set i ⟨q.x, q.T, w⟩, r.br, r.n⟩ → N H1) : rSetL (.ref u) (.int 1) v H N := by
  obtain ⟨p, v0, h1, h2, h3⟩ := h.th i u q eu eq
  have hm := List.mem_of_getElem? eu
  obtain ⟨n1, n2, n3⟩ := h.uf u hm
  refine a_setLK (j := 1) h1 (by simp) fun H1 k1 f1 => k H1 k1 ?_
  have ne : ∀ a, a ≠ u → a ∉ [u] := fun a z => by simpa using z
  exact {
    ex := fun a o z => k1.at (ne a fun y => by rw [y, h.n.2.2.2 u hm] at z; cases z) (h.ex _ _ z)
    o := k1.at (ne _ n1.symm) h.o
    ls := k1.at (ne _ n2.symm) h.ls
    nd := h.nd
    len := by rw [List.length_set]; exact h.len
    th := fun j u' z e1 e2 => by
      by_cases c : i = j
      · subst c
        rw [eu] at e1
        cases e1
        rw [List.getElem?_set_self (at_lt eq)] at e2
        cases e2
        exact ⟨p, v, f1, dp_ex k1.i h2, dp_ex k1.i hv⟩
      · rw [List.getElem?_set_ne c] at e2
        obtain ⟨p', w', g1, g2, g3⟩ := h.th j u' z e1 e2
        refine ⟨p', w', k1.at (ne _ fun y => c ?_) g1, dp_ex k1.i g2, dp_ex k1.i g3⟩
        subst y
        have hi := at_lt eu
        have hj := at_lt e1
        rw [List.getElem?_eq_getElem hi] at eu
        rw [List.getElem?_eq_getElem hj] at e1
        have ee : us[i] = us[j] := by rw [Option.some.inj eu, Option.some.inj e1]
        rcases Nat.lt_trichotomy i j with lt | y | lt
        · exact absurd ee (List.pairwise_iff_getElem.mp h.nd i j hi hj lt)
        · exact y
        · exact absurd ee.symm (List.pairwise_iff_getElem.mp h.nd j i hj hi lt)
    br := by
      obtain ⟨xs, e, d⟩ := h.br
      exact ⟨xs, k1.at (ne _ n3.symm) e, dpa_ex k1.i d⟩
    d := h.d
    uf := h.uf
    n := h.n }
/-- one statement more -/
theorem LU.cnt (h : LU K G H s t b us r) {N : Hp → Prop} {i : Int} (ei : i = (r.n : Int) + 1) (k : ∀ H1, Kp [s] H H1 → LU K G H1 s t b us ⟨r.th, r.br, r.n + 1⟩ → N H1) : rSetL (.ref s) (.int 2) (.int i) H N := by
  refine a_setLK (j := 2) h.o (by simp) fun H1 k1 f1 => k H1 k1 ?_
  have ne : ∀ a, a ≠ s → a ∉ [s] := fun a z => by simpa using z
  exact {
    ex := fun a o z => k1.at (ne a fun y => by rw [y, h.n.1] at z; cases z) (h.ex _ _ z)
    o := by
      rw [f1, ei]
      rfl
    ls := k1.at (ne _ h.d.1.symm) h.ls
    nd := h.nd
    len := h.len
    th := fun i u z e1 e2 => by
      obtain ⟨p, w, h1, h2, h3⟩ := h.th i u z e1 e2
      exact ⟨p, w, k1.at (ne _ (h.uf u (List.mem_of_getElem? e1)).1) h1, dp_ex k1.i h2, dp_ex k1.i h3⟩
    br := by
      obtain ⟨xs, e, d⟩ := h.br
      exact ⟨xs, k1.at (ne _ h.d.2.1.symm) e, dpa_ex k1.i d⟩
    d := h.d
    uf := h.uf
    n := h.n }
/-- a thing more -/
theorem LU.appT (h : LU K G H s t b us r) {u p : Addr} {v : V} {q : Thg} {Q : VK} (hu : H u = some (.lst [.ref p, v, .str q.x])) (nu : u ∉ MS s t b us) (gu : G u = none) (hT : Dp K (Im H) (.ref p) (ru q.T)) (hv : Dp K (Im H) v (vlD q.v)) (hz : r.th.length < 100000)
    (k : ∀ H1, Kp [t] H H1 → LU K G H1 s t b (us ++ [u]) ⟨r.th ++ [q], r.br, r.n⟩ → Q .non H1) : rAppend (.ref t) [.ref u] H Q := by
  simp only [MS, List.mem_cons, not_or] at nu
  obtain ⟨m1, m2, m3, m4⟩ := nu
  refine a_appK h.ls (by rw [List.length_map, h.len]; exact hz) fun H1 k1 f1 => k H1 k1 ?_
  have ne : ∀ a, a ≠ t → a ∉ [t] := fun a z => by simpa using z
  exact {
    ex := fun a o z => k1.at (ne a fun y => by rw [y, h.n.2.1] at z; cases z) (h.ex _ _ z)
    o := k1.at (ne _ h.d.1) h.o
    ls := by
      rw [f1, List.map_append]
      rfl
    nd := by
      rw [List.nodup_append]
      refine ⟨h.nd, by simp, fun a ha b hb z => ?_⟩
      rw [List.mem_singleton] at hb
      exact m4 (by rw [← hb, ← z]; exact ha)
    len := by simp [h.len]
    th := fun i u' z e1 e2 => by
      by_cases c : i < us.length
      · rw [List.getElem?_append_left c] at e1
        rw [List.getElem?_append_left (by rw [← h.len]; exact c)] at e2
        obtain ⟨p', w', g1, g2, g3⟩ := h.th i u' z e1 e2
        exact ⟨p', w', k1.at (ne _ (h.uf u' (List.mem_of_getElem? e1)).2.1) g1, dp_ex k1.i g2, dp_ex k1.i g3⟩
      · rw [List.getElem?_append_right (by omega)] at e1
        rw [List.getElem?_append_right (by have := h.len; omega)] at e2
        have : i - us.length = 0 := by
          have := at_lt e1
          simp at this
          omega
        rw [this] at e1
        rw [← h.len, this] at e2
        cases e1
        cases e2
        exact ⟨p, v, k1.at (ne _ m2) hu, dp_ex k1.i hT, dp_ex k1.i hv⟩
    br := by
      obtain ⟨xs, e, d⟩ := h.br
      exact ⟨xs, k1.at (ne _ h.d.2.2.symm) e, dpa_ex k1.i d⟩
    d := h.d
    uf := fun a ha => by
      rcases List.mem_append.mp ha with ha | ha
      · exact h.uf a ha
      · rw [List.mem_singleton.mp ha]
        exact ⟨m1, m2, m3⟩
    n := ⟨h.n.1, h.n.2.1, h.n.2.2.1, fun a ha => by
      rcases List.mem_append.mp ha with ha | ha
      · exact h.n.2.2.2 a ha
      · rw [List.mem_singleton.mp ha]
        exact gu⟩ }
/-! ## the promises of the law's walk -/
def pLk (K : PySem.W.Frag) : Sp := fun vs H Q _ => ∃ G s t b r sd c N p0 x k n q0, vs = [.ref s, .ref sd, p0] ∧ LS K G H s t b r ∧ ScD G sd c N ∧ Dp K G p0 (plD x k) ∧ ThSh r.th ∧ c x = some n ∧ r.th[n]? = some q0 ∧ k < q0.T.length ∧ k ≤ 5 ∧ r.br.length ≤ 80000 ∧
  (∀ m H1, (fol r.th k n).2 = some m → Ex (Im H) (Im H1) → LS K G H1 s t b ⟨r.th, r.br ++ (fol r.th k n).1, r.n⟩ → Q (.int (m : Nat)) H1) ∧
  (∀ H1, (fol r.th k n).2 = none → Ex (Im H) (Im H1) → LS K G H1 s t b ⟨r.th, r.br ++ (fol r.th k n).1, r.n⟩ → Q .non H1)
def pGv (K : PySem.W.Frag) : Sp := fun vs H Q _ => ∃ G s t b r sd c N v e l src, vs = [.ref s, .ref sd, v] ∧ LS K G H s t b r ∧ ScD G sd c N ∧ Dp K G v (sD src) ∧ ThSh r.th ∧ ScSh r.th c e ∧ shSrc e l src ∧ sO src ∧ r.br.length ≤ 70000 ∧
  (∀ v' lt u us H1, (gv r.th c src).2 = some v' → Ex (Im H) (Im H1) → LU K G H1 s t b us ⟨r.th, r.br ++ (gv r.th c src).1, r.n⟩ → lt ∉ MS s t b us → H1 lt = some (.lst [u]) → Dp K (Im H1) u (vlD v') → Q (.ref lt) H1) ∧
  (∀ H1, (gv r.th c src).2 = none → Ex (Im H) (Im H1) → LS K G H1 s t b ⟨r.th, r.br ++ (gv r.th c src).1, r.n⟩ → Q .non H1)
def pNw (K : PySem.W.Frag) : Sp := fun vs H Q _ => ∃ G s t b r sd c N x p U v w, vs = [.ref s, .ref sd, .str x, .ref p, v] ∧ LS K G H s t b r ∧ ScD H sd c N ∧ G sd = none ∧ N ≤ 80000 ∧ Dp K (Im H) (.ref p) (ru U) ∧ Dp K (Im H) v (vlD w) ∧ r.th.length ≤ 90000 ∧
  ∀ H1, Ex (Im H) (Im H1) → LS K G H1 s t b ⟨r.th ++ [⟨x, U, w⟩], r.br, r.n⟩ → ScD H1 sd (c.put x r.th.length) (N + 1) → Q .non H1
def pPt (K : PySem.W.Frag) : Sp := fun vs H Q _ => ∃ G s t b r sd c N v x k src rr e, vs = [.ref s, .ref sd, v] ∧ LS K G H s t b ⟨r.th, r.br, r.n + 1⟩ ∧ ScD G sd c N ∧ Dp K G v (stD (.put x k src)) ∧ stO (.put x k src) ∧ shStm rr e (.put x k src) ∧ ThSh r.th ∧ ScSh r.th c e ∧ r.br.length ≤ 60000 ∧
  ∀ cl, ((ex1 false cl c r (.put x k src)).1 = .go → ∀ H1, Ex (Im H) (Im H1) → LS K G H1 s t b (ex1 false cl c r (.put x k src)).2.1 → Q (.bl true) H1) ∧
  ((ex1 false cl c r (.put x k src)).1 = .stop → ∀ H1, Ex (Im H) (Im H1) → LS K G H1 s t b (ex1 false cl c r (.put x k src)).2.1 → Q (.bl false) H1)
/-- what goes on while the law's walk goes -/
structure XW (K : PySem.W.Frag) (G H : Hp) (s t b sd pf : Addr) (fs rr : List TF) (c : Sc) (N : Nat) (e : Env) (r : RS) : Prop where
  sa : LS K G H s t b r
  dd : ScD H sd c N
  gd : G sd = none
  fn : ∃ xs, SqL K G pf xs ∧ DpAll K G xs (fs.map tfD)
  f4 : fs.length ≤ 4
  nf : (fs.map TF.n).Nodup
  sub : ∀ g ∈ rr, g ∈ fs
  sh : FnSh rr
  fo : ∀ g ∈ rr, FOk g
  th : ThSh r.th
  ss : ScSh r.th c e
  nN : N ≤ 70000
def pWx (K : PySem.W.Frag) (d : Nat) : Sp := fun vs H Q _ => ∃ G s t b sd pf v fs rr c N e r st, vs = [.ref s, .ref sd, .ref pf, v] ∧ XW K G H s t b sd pf fs rr c N e r ∧ SB r ∧ rr.length < d ∧ Dp K G v (stD st) ∧ stO st ∧ shStm rr e st ∧ (ex1 true (callF true rr) c r st).1 ≠ .long ∧
  ((ex1 true (callF true rr) c r st).1 = .go → ∀ H1, Ex (Im H) (Im H1) → LS K G H1 s t b (ex1 true (callF true rr) c r st).2.1 → ScD H1 sd (ex1 true (callF true rr) c r st).2.2 (N + 1) → Q (.bl true) H1) ∧
  ((ex1 true (callF true rr) c r st).1 = .stop → ∀ H1, Ex (Im H) (Im H1) → LS K G H1 s t b (ex1 true (callF true rr) c r st).2.1 → Q (.bl false) H1)
end
end Ver

set_option Elab.async false
set_option linter.all false
set_option maxRecDepth 100000
set_option maxHeartbeats 4000000
namespace Ver
open PySem PySem.Spec PyProof.Rows L2 Evl
/-! ### the text by its places -/
def topS (i : Nat) : Stmt := PySem.Challenge.pw_rightskept_k30_breaking_programs.main.body.getD i (.Pass ⟨0, 0, 0, 0⟩)
abbrev s__wall : Stmt := topS 0
abbrev n__wall : List Str := ["k"]
abbrev p__wall : List Str := ["k"]
theorem sc__wall : FnScope n__wall p__wall (defScope s__wall) := ⟨rfl, rfl, rfl, by decide +kernel, rfl, by decide +kernel, by decide +kernel⟩
abbrev s_RightsError_init : Stmt := inClass (topS 2) 0
abbrev n_RightsError_init : List Str := ["self", "reason"]
abbrev p_RightsError_init : List Str := ["self", "reason"]
theorem sc_RightsError_init : FnScope n_RightsError_init p_RightsError_init (defScope s_RightsError_init) := ⟨rfl, rfl, rfl, by decide +kernel, rfl, by decide +kernel, by decide +kernel⟩
abbrev s_is_right : Stmt := topS 7
abbrev n_is_right : List Str := ["thing"]
abbrev p_is_right : List Str := ["thing"]
theorem sc_is_right : FnScope n_is_right p_is_right (defScope s_is_right) := ⟨rfl, rfl, rfl, by decide +kernel, rfl, by decide +kernel, by decide +kernel⟩
abbrev s_is_type : Stmt := topS 8
abbrev n_is_type : List Str := ["thing"]
abbrev p_is_type : List Str := ["thing"]
theorem sc_is_type : FnScope n_is_type p_is_type (defScope s_is_type) := ⟨rfl, rfl, rfl, by decide +kernel, rfl, by decide +kernel, by decide +kernel⟩
abbrev s_is_value_type : Stmt := topS 9
abbrev n_is_value_type : List Str := ["thing", "part"]
abbrev p_is_value_type : List Str := ["thing"]
theorem sc_is_value_type : FnScope n_is_value_type p_is_value_type (defScope s_is_value_type) := ⟨rfl, rfl, rfl, by decide +kernel, rfl, by decide +kernel, by decide +kernel⟩
abbrev s_has_letter : Stmt := topS 10
abbrev n_has_letter : List Str := ["right", "letter"]
abbrev p_has_letter : List Str := ["right", "letter"]
theorem sc_has_letter : FnScope n_has_letter p_has_letter (defScope s_has_letter) := ⟨rfl, rfl, rfl, by decide +kernel, rfl, by decide +kernel, by decide +kernel⟩
abbrev s_within : Stmt := topS 11
abbrev n_within : List Str := ["one", "two", "letter"]
abbrev p_within : List Str := ["one", "two"]
theorem sc_within : FnScope n_within p_within (defScope s_within) := ⟨rfl, rfl, rfl, by decide +kernel, rfl, by decide +kernel, by decide +kernel⟩
abbrev s_behind : Stmt := topS 12
abbrev n_behind : List Str := ["one", "two", "letter"]
abbrev p_behind : List Str := ["one", "two", "letter"]
theorem sc_behind : FnScope n_behind p_behind (defScope s_behind) := ⟨rfl, rfl, rfl, by decide +kernel, rfl, by decide +kernel, by decide +kernel⟩
abbrev s_converts : Stmt := topS 13
abbrev n_converts : List Str := ["one", "two", "letter", "source", "goal"]
abbrev p_converts : List Str := ["one", "two"]
theorem sc_converts : FnScope n_converts p_converts (defScope s_converts) := ⟨rfl, rfl, rfl, by decide +kernel, rfl, by decide +kernel, by decide +kernel⟩
abbrev s_bar : Stmt := topS 14
abbrev n_bar : List Str := ["one", "two", "letter", "source", "goal", "found"]
abbrev p_bar : List Str := ["one", "two"]
theorem sc_bar : FnScope n_bar p_bar (defScope s_bar) := ⟨rfl, rfl, rfl, by decide +kernel, rfl, by decide +kernel, by decide +kernel⟩
abbrev s_is_number : Stmt := topS 21
abbrev n_is_number : List Str := ["thing", "most"]
abbrev p_is_number : List Str := ["thing", "most"]
theorem sc_is_number : FnScope n_is_number p_is_number (defScope s_is_number) := ⟨rfl, rfl, rfl, by decide +kernel, rfl, by decide +kernel, by decide +kernel⟩
abbrev s_is_name : Stmt := topS 22
abbrev n_is_name : List Str := ["thing", "sign"]
abbrev p_is_name : List Str := ["thing"]
theorem sc_is_name : FnScope n_is_name p_is_name (defScope s_is_name) := ⟨rfl, rfl, rfl, by decide +kernel, rfl, by decide +kernel, by decide +kernel⟩
abbrev s_is_depth : Stmt := topS 23
abbrev n_is_depth : List Str := ["thing"]
abbrev p_is_depth : List Str := ["thing"]
theorem sc_is_depth : FnScope n_is_depth p_is_depth (defScope s_is_depth) := ⟨rfl, rfl, rfl, by decide +kernel, rfl, by decide +kernel, by decide +kernel⟩
abbrev s_is_place : Stmt := topS 24
abbrev n_is_place : List Str := ["thing"]
abbrev p_is_place : List Str := ["thing"]
theorem sc_is_place : FnScope n_is_place p_is_place (defScope s_is_place) := ⟨rfl, rfl, rfl, by decide +kernel, rfl, by decide +kernel, by decide +kernel⟩
abbrev s_first_word : Stmt := topS 25
abbrev n_first_word : List Str := ["thing", "word"]
abbrev p_first_word : List Str := ["thing"]
theorem sc_first_word : FnScope n_first_word p_first_word (defScope s_first_word) := ⟨rfl, rfl, rfl, by decide +kernel, rfl, by decide +kernel, by decide +kernel⟩
abbrev s_is_source : Stmt := topS 26
abbrev n_is_source : List Str := ["thing", "word"]
abbrev p_is_source : List Str := ["thing"]
theorem sc_is_source : FnScope n_is_source p_is_source (defScope s_is_source) := ⟨rfl, rfl, rfl, by decide +kernel, rfl, by decide +kernel, by decide +kernel⟩
abbrev s_is_source_list : Stmt := topS 27
abbrev n_is_source_list : List Str := ["thing", "part"]
abbrev p_is_source_list : List Str := ["thing"]
theorem sc_is_source_list : FnScope n_is_source_list p_is_source_list (defScope s_is_source_list) := ⟨rfl, rfl, rfl, by decide +kernel, rfl, by decide +kernel, by decide +kernel⟩
abbrev s_is_declared : Stmt := topS 28
abbrev n_is_declared : List Str := ["thing"]
abbrev p_is_declared : List Str := ["thing"]
theorem sc_is_declared : FnScope n_is_declared p_is_declared (defScope s_is_declared) := ⟨rfl, rfl, rfl, by decide +kernel, rfl, by decide +kernel, by decide +kernel⟩
abbrev s_is_statement : Stmt := topS 29
abbrev n_is_statement : List Str := ["thing", "word"]
abbrev p_is_statement : List Str := ["thing"]
theorem sc_is_statement : FnScope n_is_statement p_is_statement (defScope s_is_statement) := ⟨rfl, rfl, rfl, by decide +kernel, rfl, by decide +kernel, by decide +kernel⟩
abbrev s_Function_init : Stmt := inClass (topS 35) 0
abbrev n_Function_init : List Str := ["self", "name", "params", "body"]
abbrev p_Function_init : List Str := ["self", "name", "params", "body"]
theorem sc_Function_init : FnScope n_Function_init p_Function_init (defScope s_Function_init) := ⟨rfl, rfl, rfl, by decide +kernel, rfl, by decide +kernel, by decide +kernel⟩
abbrev s_Program_init : Stmt := inClass (topS 36) 0
abbrev n_Program_init : List Str := ["self", "functions", "statements"]
abbrev p_Program_init : List Str := ["self", "functions", "statements"]
theorem sc_Program_init : FnScope n_Program_init p_Program_init (defScope s_Program_init) := ⟨rfl, rfl, rfl, by decide +kernel, rfl, by decide +kernel, by decide +kernel⟩
abbrev s_copied : Stmt := topS 37
abbrev n_copied : List Str := ["thing"]
abbrev p_copied : List Str := ["thing"]
theorem sc_copied : FnScope n_copied p_copied (defScope s_copied) := ⟨rfl, rfl, rfl, by decide +kernel, rfl, by decide +kernel, by decide +kernel⟩
abbrev s_copied_statement : Stmt := topS 38
abbrev n_copied_statement : List Str := ["statement", "part"]
abbrev p_copied_statement : List Str := ["statement"]
theorem sc_copied_statement : FnScope n_copied_statement p_copied_statement (defScope s_copied_statement) := ⟨rfl, rfl, rfl, by decide +kernel, rfl, by decide +kernel, by decide +kernel⟩
abbrev s_copied_statements : Stmt := topS 39
abbrev n_copied_statements : List Str := ["statements", "statement"]
abbrev p_copied_statements : List Str := ["statements"]
theorem sc_copied_statements : FnScope n_copied_statements p_copied_statements (defScope s_copied_statements) := ⟨rfl, rfl, rfl, by decide +kernel, rfl, by decide +kernel, by decide +kernel⟩
abbrev s_copied_function : Stmt := topS 40
abbrev n_copied_function : List Str := ["function"]
abbrev p_copied_function : List Str := ["function"]
theorem sc_copied_function : FnScope n_copied_function p_copied_function (defScope s_copied_function) := ⟨rfl, rfl, rfl, by decide +kernel, rfl, by decide +kernel, by decide +kernel⟩
abbrev s_copied_functions : Stmt := topS 41
abbrev n_copied_functions : List Str := ["functions", "function"]
abbrev p_copied_functions : List Str := ["functions"]
theorem sc_copied_functions : FnScope n_copied_functions p_copied_functions (defScope s_copied_functions) := ⟨rfl, rfl, rfl, by decide +kernel, rfl, by decide +kernel, by decide +kernel⟩
abbrev s_is_program : Stmt := topS 42
abbrev n_is_program : List Str := ["functions", "statements", "function"]
abbrev p_is_program : List Str := ["functions", "statements"]
theorem sc_is_program : FnScope n_is_program p_is_program (defScope s_is_program) := ⟨rfl, rfl, rfl, by decide +kernel, rfl, by decide +kernel, by decide +kernel⟩
abbrev s_is_function : Stmt := topS 43
abbrev n_is_function : List Str := ["thing", "param"]
abbrev p_is_function : List Str := ["thing"]
theorem sc_is_function : FnScope n_is_function p_is_function (defScope s_is_function) := ⟨rfl, rfl, rfl, by decide +kernel, rfl, by decide +kernel, by decide +kernel⟩
abbrev s_are_statements : Stmt := topS 44
abbrev n_are_statements : List Str := ["thing", "most", "part"]
abbrev p_are_statements : List Str := ["thing", "most"]
theorem sc_are_statements : FnScope n_are_statements p_are_statements (defScope s_are_statements) := ⟨rfl, rfl, rfl, by decide +kernel, rfl, by decide +kernel, by decide +kernel⟩
abbrev s_declared : Stmt := topS 45
abbrev n_declared : List Str := ["functions", "statements", "pairs", "function"]
abbrev p_declared : List Str := ["functions", "statements"]
theorem sc_declared : FnScope n_declared p_declared (defScope s_declared) := ⟨rfl, rfl, rfl, by decide +kernel, rfl, by decide +kernel, by decide +kernel⟩
abbrev s_declared_by_lets : Stmt := topS 46
abbrev n_declared_by_lets : List Str := ["statements", "statement"]
abbrev p_declared_by_lets : List Str := ["statements"]
theorem sc_declared_by_lets : FnScope n_declared_by_lets p_declared_by_lets (defScope s_declared_by_lets) := ⟨rfl, rfl, rfl, by decide +kernel, rfl, by decide +kernel, by decide +kernel⟩
abbrev s_all_names : Stmt := topS 47
abbrev n_all_names : List Str := ["functions", "statements", "names", "function", "name", "_"]
abbrev p_all_names : List Str := ["functions", "statements"]
theorem sc_all_names : FnScope n_all_names p_all_names (defScope s_all_names) := ⟨rfl, rfl, rfl, by decide +kernel, rfl, by decide +kernel, by decide +kernel⟩
abbrev s_all_kinds : Stmt := topS 48
abbrev n_all_kinds : List Str := ["functions", "statements", "_", "kind"]
abbrev p_all_kinds : List Str := ["functions", "statements"]
theorem sc_all_kinds : FnScope n_all_kinds p_all_kinds (defScope s_all_kinds) := ⟨rfl, rfl, rfl, by decide +kernel, rfl, by decide +kernel, by decide +kernel⟩
abbrev s_are_different : Stmt := topS 49
abbrev n_are_different : List Str := ["names"]
abbrev p_are_different : List Str := ["names"]
theorem sc_are_different : FnScope n_are_different p_are_different (defScope s_are_different) := ⟨rfl, rfl, rfl, by decide +kernel, rfl, by decide +kernel, by decide +kernel⟩
abbrev s_are_of_one_kind : Stmt := topS 50
abbrev n_are_of_one_kind : List Str := ["kinds", "kind"]
abbrev p_are_of_one_kind : List Str := ["kinds"]
theorem sc_are_of_one_kind : FnScope n_are_of_one_kind p_are_of_one_kind (defScope s_are_of_one_kind) := ⟨rfl, rfl, rfl, by decide +kernel, rfl, by decide +kernel, by decide +kernel⟩
abbrev s_all_calls_fit : Stmt := topS 51
abbrev n_all_calls_fit : List Str := ["functions", "statements", "many", "function"]
abbrev p_all_calls_fit : List Str := ["functions", "statements"]
theorem sc_all_calls_fit : FnScope n_all_calls_fit p_all_calls_fit (defScope s_all_calls_fit) := ⟨rfl, rfl, rfl, by decide +kernel, rfl, by decide +kernel, by decide +kernel⟩
abbrev s_calls_fit : Stmt := topS 52
abbrev n_calls_fit : List Str := ["statements", "many", "statement"]
abbrev p_calls_fit : List Str := ["statements", "many"]
theorem sc_calls_fit : FnScope n_calls_fit p_calls_fit (defScope s_calls_fit) := ⟨rfl, rfl, rfl, by decide +kernel, rfl, by decide +kernel, by decide +kernel⟩
abbrev s_by_name : Stmt := topS 53
abbrev n_by_name : List Str := ["functions", "function"]
abbrev p_by_name : List Str := ["functions"]
theorem sc_by_name : FnScope n_by_name p_by_name (defScope s_by_name) := ⟨rfl, rfl, rfl, by decide +kernel, rfl, by decide +kernel, by decide +kernel⟩
abbrev s_place_fault : Stmt := topS 55
abbrev n_place_fault : List Str := ["known", "place", "name", "stars", "kind", "right"]
abbrev p_place_fault : List Str := ["known", "place"]
theorem sc_place_fault : FnScope n_place_fault p_place_fault (defScope s_place_fault) := ⟨rfl, rfl, rfl, by decide +kernel, rfl, by decide +kernel, by decide +kernel⟩
abbrev s_seen : Stmt := topS 56
abbrev n_seen : List Str := ["known", "place", "name", "stars"]
abbrev p_seen : List Str := ["known", "place"]
theorem sc_seen : FnScope n_seen p_seen (defScope s_seen) := ⟨rfl, rfl, rfl, by decide +kernel, rfl, by decide +kernel, by decide +kernel⟩
abbrev s_conversion_fault : Stmt := topS 57
abbrev n_conversion_fault : List Str := ["one", "two", "extra"]
abbrev p_conversion_fault : List Str := ["one", "two", "extra"]
theorem sc_conversion_fault : FnScope n_conversion_fault p_conversion_fault (defScope s_conversion_fault) := ⟨rfl, rfl, rfl, by decide +kernel, rfl, by decide +kernel, by decide +kernel⟩
abbrev s_source_fault : Stmt := topS 58
abbrev n_source_fault : List Str := ["known", "source", "goal", "extra", "word", "place", "fault", "kind"]
abbrev p_source_fault : List Str := ["known", "source", "goal", "extra"]
theorem sc_source_fault : FnScope n_source_fault p_source_fault (defScope s_source_fault) := ⟨rfl, rfl, rfl, by decide +kernel, rfl, by decide +kernel, by decide +kernel⟩
abbrev s_put_fault : Stmt := topS 59
abbrev n_put_fault : List Str := ["known", "place", "source", "extra", "fault", "kind"]
abbrev p_put_fault : List Str := ["known", "place", "source", "extra"]
theorem sc_put_fault : FnScope n_put_fault p_put_fault (defScope s_put_fault) := ⟨rfl, rfl, rfl, by decide +kernel, rfl, by decide +kernel, by decide +kernel⟩
abbrev s_call_fault : Stmt := topS 60
abbrev n_call_fault : List Str := ["known", "params", "sources", "extra", "_", "kind", "source", "fault"]
abbrev p_call_fault : List Str := ["known", "params", "sources", "extra"]
theorem sc_call_fault : FnScope n_call_fault p_call_fault (defScope s_call_fault) := ⟨rfl, rfl, rfl, by decide +kernel, rfl, by decide +kernel, by decide +kernel⟩
abbrev s_statement_fault : Stmt := topS 61
abbrev n_statement_fault : List Str := ["functions", "known", "statement", "extra", "word"]
abbrev p_statement_fault : List Str := ["functions", "known", "statement", "extra"]
theorem sc_statement_fault : FnScope n_statement_fault p_statement_fault (defScope s_statement_fault) := ⟨rfl, rfl, rfl, by decide +kernel, rfl, by decide +kernel, by decide +kernel⟩
abbrev s_block_faults : Stmt := topS 62
abbrev n_block_faults : List Str := ["functions", "params", "statements", "extra", "known", "found", "at", "statement", "fault"]
abbrev p_block_faults : List Str := ["functions", "params", "statements", "extra"]
theorem sc_block_faults : FnScope n_block_faults p_block_faults (defScope s_block_faults) := ⟨rfl, rfl, rfl, by decide +kernel, rfl, by decide +kernel, by decide +kernel⟩
abbrev s_faults : Stmt := topS 63
abbrev n_faults : List Str := ["program", "extra", "functions", "found", "function", "at", "fault"]
abbrev p_faults : List Str := ["program", "extra"]
theorem sc_faults : FnScope n_faults p_faults (defScope s_faults) := ⟨rfl, rfl, rfl, by decide +kernel, rfl, by decide +kernel, by decide +kernel⟩
abbrev s_is_let_by : Stmt := topS 64
abbrev n_is_let_by : List Str := ["program", "extra"]
abbrev p_is_let_by : List Str := ["program", "extra"]
theorem sc_is_let_by : FnScope n_is_let_by p_is_let_by (defScope s_is_let_by) := ⟨rfl, rfl, rfl, by decide +kernel, rfl, by decide +kernel, by decide +kernel⟩
abbrev s_State_init : Stmt := inClass (topS 67) 0
abbrev n_State_init : List Str := ["self"]
abbrev p_State_init : List Str := ["self"]
theorem sc_State_init : FnScope n_State_init p_State_init (defScope s_State_init) := ⟨rfl, rfl, rfl, by decide +kernel, rfl, by decide +kernel, by decide +kernel⟩
abbrev s_State_twin : Stmt := inClass (topS 67) 1
abbrev n_State_twin : List Str := ["self"]
abbrev p_State_twin : List Str := ["self"]
theorem sc_State_twin : FnScope n_State_twin p_State_twin (defScope s_State_twin) := ⟨rfl, rfl, rfl, by decide +kernel, rfl, by decide +kernel, by decide +kernel⟩
abbrev s_State_begin : Stmt := inClass (topS 67) 2
abbrev n_State_begin : List Str := ["self"]
abbrev p_State_begin : List Str := ["self"]
theorem sc_State_begin : FnScope n_State_begin p_State_begin (defScope s_State_begin) := ⟨rfl, rfl, rfl, by decide +kernel, rfl, by decide +kernel, by decide +kernel⟩
abbrev s_State_make : Stmt := inClass (topS 67) 3
abbrev n_State_make : List Str := ["self", "name", "kind", "value"]
abbrev p_State_make : List Str := ["self", "name", "kind", "value"]
theorem sc_State_make : FnScope n_State_make p_State_make (defScope s_State_make) := ⟨rfl, rfl, rfl, by decide +kernel, rfl, by decide +kernel, by decide +kernel⟩
abbrev s_State_read : Stmt := inClass (topS 67) 4
abbrev n_State_read : List Str := ["self", "number", "_", "kind", "value"]
abbrev p_State_read : List Str := ["self", "number"]
theorem sc_State_read : FnScope n_State_read p_State_read (defScope s_State_read) := ⟨rfl, rfl, rfl, by decide +kernel, rfl, by decide +kernel, by decide +kernel⟩
abbrev s_State_write : Stmt := inClass (topS 67) 5
abbrev n_State_write : List Str := ["self", "number", "value", "name", "kind", "_"]
abbrev p_State_write : List Str := ["self", "number", "value"]
theorem sc_State_write : FnScope n_State_write p_State_write (defScope s_State_write) := ⟨rfl, rfl, rfl, by decide +kernel, rfl, by decide +kernel, by decide +kernel⟩
abbrev s_thing_at : Stmt := topS 70
abbrev n_thing_at : List Str := ["state", "scope", "place", "name", "stars", "number", "_", "value"]
abbrev p_thing_at : List Str := ["state", "scope", "place"]
theorem sc_thing_at : FnScope n_thing_at p_thing_at (defScope s_thing_at) := ⟨rfl, rfl, rfl, by decide +kernel, rfl, by decide +kernel, by decide +kernel⟩
abbrev s_looked_up : Stmt := topS 71
abbrev n_looked_up : List Str := ["state", "scope", "source", "word", "number"]
abbrev p_looked_up : List Str := ["state", "scope", "source"]
theorem sc_looked_up : FnScope n_looked_up p_looked_up (defScope s_looked_up) := ⟨rfl, rfl, rfl, by decide +kernel, rfl, by decide +kernel, by decide +kernel⟩
abbrev s_call : Stmt := topS 72
abbrev n_call : List Str := ["state", "functions", "scope", "statement", "_", "name", "sources", "function", "values", "inner", "param", "kind", "value", "source"]
abbrev p_call : List Str := ["state", "functions", "scope", "statement"]
theorem sc_call : FnScope n_call p_call (defScope s_call) := ⟨rfl, rfl, rfl, by decide +kernel, rfl, by decide +kernel, by decide +kernel⟩
abbrev s_execute : Stmt := topS 73
abbrev n_execute : List Str := ["state", "functions", "scope", "statement", "word", "_", "name", "kind", "source", "value", "place", "number"]
abbrev p_execute : List Str := ["state", "functions", "scope", "statement"]
theorem sc_execute : FnScope n_execute p_execute (defScope s_execute) := ⟨rfl, rfl, rfl, by decide +kernel, rfl, by decide +kernel, by decide +kernel⟩
abbrev s_execute_all : Stmt := topS 74
abbrev n_execute_all : List Str := ["state", "functions", "scope", "statements", "statement"]
abbrev p_execute_all : List Str := ["state", "functions", "scope", "statements"]
theorem sc_execute_all : FnScope n_execute_all p_execute_all (defScope s_execute_all) := ⟨rfl, rfl, rfl, by decide +kernel, rfl, by decide +kernel, by decide +kernel⟩
abbrev s_run : Stmt := topS 75
abbrev n_run : List Str := ["program", "extra", "state", "ended"]
abbrev p_run : List Str := ["program", "extra"]
theorem sc_run : FnScope n_run p_run (defScope s_run) := ⟨rfl, rfl, rfl, by decide +kernel, rfl, by decide +kernel, by decide +kernel⟩
abbrev s_breaking : Stmt := topS 77
abbrev n_breaking : List Str := ["one", "two", "found", "letters", "letter", "pairs", "kept", "seen", "statements", "added", "name"]
abbrev p_breaking : List Str := ["one", "two"]
theorem sc_breaking : FnScope n_breaking p_breaking (defScope s_breaking) := ⟨rfl, rfl, rfl, by decide +kernel, rfl, by decide +kernel, by decide +kernel⟩
abbrev s_is_breaking : Stmt := topS 78
abbrev n_is_breaking : List Str := ["one", "two", "program", "breaches"]
abbrev p_is_breaking : List Str := ["one", "two", "program"]
theorem sc_is_breaking : FnScope n_is_breaking p_is_breaking (defScope s_is_breaking) := ⟨rfl, rfl, rfl, by decide +kernel, rfl, by decide +kernel, by decide +kernel⟩
abbrev s_pairs_along : Stmt := topS 79
abbrev n_pairs_along : List Str := ["one", "two", "letters", "pairs", "letter", "source", "goal"]
abbrev p_pairs_along : List Str := ["one", "two", "letters"]
theorem sc_pairs_along : FnScope n_pairs_along p_pairs_along (defScope s_pairs_along) := ⟨rfl, rfl, rfl, by decide +kernel, rfl, by decide +kernel, by decide +kernel⟩
abbrev s_first_source : Stmt := topS 80
abbrev n_first_source : List Str := ["held"]
abbrev p_first_source : List Str := ["held"]
theorem sc_first_source : FnScope n_first_source p_first_source (defScope s_first_source) := ⟨rfl, rfl, rfl, by decide +kernel, rfl, by decide +kernel, by decide +kernel⟩
abbrev s_holding : Stmt := topS 81
abbrev n_holding : List Str := ["name", "held", "source"]
abbrev p_holding : List Str := ["name", "held", "source"]
theorem sc_holding : FnScope n_holding p_holding (defScope s_holding) := ⟨rfl, rfl, rfl, by decide +kernel, rfl, by decide +kernel, by decide +kernel⟩
abbrev s_breach : Stmt := topS 82
abbrev n_breach : List Str := ["letter", "seen", "name"]
abbrev p_breach : List Str := ["letter", "seen", "name"]
theorem sc_breach : FnScope n_breach p_breach (defScope s_breach) := ⟨rfl, rfl, rfl, by decide +kernel, rfl, by decide +kernel, by decide +kernel⟩
abbrev s_converting : Stmt := topS 83
abbrev n_converting : List Str := ["pairs", "letters", "name", "sign", "source", "goal", "cell", "lent", "_", "shown", "added", "other", "made"]
abbrev p_converting : List Str := ["pairs", "letters", "name"]
theorem sc_converting : FnScope n_converting p_converting (defScope s_converting) := ⟨rfl, rfl, rfl, by decide +kernel, rfl, by decide +kernel, by decide +kernel⟩
abbrev s__law_cell : Stmt := topS 85
abbrev n__law_cell : List Str := ["script", "k"]
abbrev p__law_cell : List Str := ["script", "k"]
theorem sc__law_cell : FnScope n__law_cell p__law_cell (defScope s__law_cell) := ⟨rfl, rfl, rfl, by decide +kernel, rfl, by decide +kernel, by decide +kernel⟩
abbrev s__law_row : Stmt := topS 86
abbrev n__law_row : List Str := ["script", "first", "last", "row", "k", "cell", "turn"]
abbrev p__law_row : List Str := ["script", "first", "last"]
theorem sc__law_row : FnScope n__law_row p__law_row (defScope s__law_row) := ⟨rfl, rfl, rfl, by decide +kernel, rfl, by decide +kernel, by decide +kernel⟩
abbrev s__law_draw : Stmt := topS 87
abbrev n__law_draw : List Str := ["box", "many", "at"]
abbrev p__law_draw : List Str := ["box", "many"]
theorem sc__law_draw : FnScope n__law_draw p__law_draw (defScope s__law_draw) := ⟨rfl, rfl, rfl, by decide +kernel, rfl, by decide +kernel, by decide +kernel⟩
abbrev s__law_right : Stmt := topS 88
abbrev n__law_right : List Str := ["box"]
abbrev p__law_right : List Str := ["box"]
theorem sc__law_right : FnScope n__law_right p__law_right (defScope s__law_right) := ⟨rfl, rfl, rfl, by decide +kernel, rfl, by decide +kernel, by decide +kernel⟩
abbrev s__law_rights : Stmt := topS 89
abbrev n__law_rights : List Str := ["box", "many", "k"]
abbrev p__law_rights : List Str := ["box", "many"]
theorem sc__law_rights : FnScope n__law_rights p__law_rights (defScope s__law_rights) := ⟨rfl, rfl, rfl, by decide +kernel, rfl, by decide +kernel, by decide +kernel⟩
abbrev s__law_within : Stmt := topS 90
abbrev n__law_within : List Str := ["one", "two", "letter"]
abbrev p__law_within : List Str := ["one", "two"]
theorem sc__law_within : FnScope n__law_within p__law_within (defScope s__law_within) := ⟨rfl, rfl, rfl, by decide +kernel, rfl, by decide +kernel, by decide +kernel⟩
abbrev s__law_converts : Stmt := topS 91
abbrev n__law_converts : List Str := ["one", "two"]
abbrev p__law_converts : List Str := ["one", "two"]
theorem sc__law_converts : FnScope n__law_converts p__law_converts (defScope s__law_converts) := ⟨rfl, rfl, rfl, by decide +kernel, rfl, by decide +kernel, by decide +kernel⟩
abbrev s__law_reached : Stmt := topS 92
abbrev n__law_reached : List Str := ["types", "place", "x", "right"]
abbrev p__law_reached : List Str := ["types", "place"]
theorem sc__law_reached : FnScope n__law_reached p__law_reached (defScope s__law_reached) := ⟨rfl, rfl, rfl, by decide +kernel, rfl, by decide +kernel, by decide +kernel⟩
abbrev s__law_source_fault : Stmt := topS 93
abbrev n__law_source_fault : List Str := ["types", "source", "value", "extra", "fault", "seen_v"]
abbrev p__law_source_fault : List Str := ["types", "source", "value", "extra"]
theorem sc__law_source_fault : FnScope n__law_source_fault p__law_source_fault (defScope s__law_source_fault) := ⟨rfl, rfl, rfl, by decide +kernel, rfl, by decide +kernel, by decide +kernel⟩
abbrev s__law_fault : Stmt := topS 94
abbrev n__law_fault : List Str := ["types", "functions", "st", "extra", "fault", "seen_v", "params", "k", "f"]
abbrev p__law_fault : List Str := ["types", "functions", "st", "extra"]
theorem sc__law_fault : FnScope n__law_fault p__law_fault (defScope s__law_fault) := ⟨rfl, rfl, rfl, by decide +kernel, rfl, by decide +kernel, by decide +kernel⟩
abbrev s__law_block_faults : Stmt := topS 95
abbrev n__law_block_faults : List Str := ["f", "types", "functions", "block", "extra", "out", "k", "fault"]
abbrev p__law_block_faults : List Str := ["f", "types", "functions", "block", "extra"]
theorem sc__law_block_faults : FnScope n__law_block_faults p__law_block_faults (defScope s__law_block_faults) := ⟨rfl, rfl, rfl, by decide +kernel, rfl, by decide +kernel, by decide +kernel⟩
abbrev s__law_faults : Stmt := topS 96
abbrev n__law_faults : List Str := ["p", "extra", "out", "f"]
abbrev p__law_faults : List Str := ["p", "extra"]
theorem sc__law_faults : FnScope n__law_faults p__law_faults (defScope s__law_faults) := ⟨rfl, rfl, rfl, by decide +kernel, rfl, by decide +kernel, by decide +kernel⟩
abbrev s__law_look : Stmt := topS 97
abbrev n__law_look : List Str := ["state", "env", "place", "n", "turn"]
abbrev p__law_look : List Str := ["state", "env", "place"]
theorem sc__law_look : FnScope n__law_look p__law_look (defScope s__law_look) := ⟨rfl, rfl, rfl, by decide +kernel, rfl, by decide +kernel, by decide +kernel⟩
abbrev s__law_give : Stmt := topS 98
abbrev n__law_give : List Str := ["state", "env", "source", "n"]
abbrev p__law_give : List Str := ["state", "env", "source"]
theorem sc__law_give : FnScope n__law_give p__law_give (defScope s__law_give) := ⟨rfl, rfl, rfl, by decide +kernel, rfl, by decide +kernel, by decide +kernel⟩
abbrev s__law_new : Stmt := topS 99
abbrev n__law_new : List Str := ["state", "env", "x", "T", "value"]
abbrev p__law_new : List Str := ["state", "env", "x", "T", "value"]
theorem sc__law_new : FnScope n__law_new p__law_new (defScope s__law_new) := ⟨rfl, rfl, rfl, by decide +kernel, rfl, by decide +kernel, by decide +kernel⟩
abbrev s__law_put : Stmt := topS 100
abbrev n__law_put : List Str := ["state", "env", "st", "n", "told"]
abbrev p__law_put : List Str := ["state", "env", "st"]
theorem sc__law_put : FnScope n__law_put p__law_put (defScope s__law_put) := ⟨rfl, rfl, rfl, by decide +kernel, rfl, by decide +kernel, by decide +kernel⟩
abbrev s__law_execute : Stmt := topS 101
abbrev n__law_execute : List Str := ["state", "env", "functions", "st", "told", "values", "source", "f", "inner", "k", "other", "g"]
abbrev p__law_execute : List Str := ["state", "env", "functions", "st"]
theorem sc__law_execute : FnScope n__law_execute p__law_execute (defScope s__law_execute) := ⟨rfl, rfl, rfl, by decide +kernel, rfl, by decide +kernel, by decide +kernel⟩
abbrev s__law_run : Stmt := topS 102
abbrev n__law_run : List Str := ["p", "state", "env", "st"]
abbrev p__law_run : List Str := ["p"]
theorem sc__law_run : FnScope n__law_run p__law_run (defScope s__law_run) := ⟨rfl, rfl, rfl, by decide +kernel, rfl, by decide +kernel, by decide +kernel⟩
abbrev s__law_plain_program : Stmt := topS 103
abbrev n__law_plain_program : List Str := ["p", "f"]
abbrev p__law_plain_program : List Str := ["p"]
theorem sc__law_plain_program : FnScope n__law_plain_program p__law_plain_program (defScope s__law_plain_program) := ⟨rfl, rfl, rfl, by decide +kernel, rfl, by decide +kernel, by decide +kernel⟩
abbrev s__law_pair : Stmt := topS 104
abbrev n__law_pair : List Str := ["box", "most", "many", "one", "two", "k"]
abbrev p__law_pair : List Str := ["box", "most"]
theorem sc__law_pair : FnScope n__law_pair p__law_pair (defScope s__law_pair) := ⟨rfl, rfl, rfl, by decide +kernel, rfl, by decide +kernel, by decide +kernel⟩
abbrev s__law_breaks : Stmt := topS 105
abbrev n__law_breaks : List Str := ["one", "two", "told", "p", "ended", "state"]
abbrev p__law_breaks : List Str := ["one", "two", "told"]
theorem sc__law_breaks : FnScope n__law_breaks p__law_breaks (defScope s__law_breaks) := ⟨rfl, rfl, rfl, by decide +kernel, rfl, by decide +kernel, by decide +kernel⟩
abbrev s_law : Stmt := topS 106
abbrev n_law : List Str := ["script", "box", "turn", "one", "two", "told"]
abbrev p_law : List Str := ["script"]
theorem sc_law : FnScope n_law p_law (defScope s_law) := ⟨rfl, rfl, rfl, by decide +kernel, rfl, by decide +kernel, by decide +kernel⟩
/-- where each def stands, what names mean -/
structure Df (K : PySem.W.Frag) (mg : Str → Option Value) (x : Str) (st : Stmt) (ps : List Str) (a : Addr) (fd : FuncData) : Prop where
  F : Fun K x x st a fd
  b : Binds K fd ps []
  m : mg x = some (.ref a)
structure Dm (K : PySem.W.Frag) (x q : Str) (st : Stmt) (ps : List Str) (a : Addr) (fd : FuncData) : Prop where
  F : Fun K x q st a fd
  b : Binds K fd ps []
structure Ist (K : PySem.W.Frag) (C : Addr) : Prop where
  ha : PySem.W.findIn K (.ref C) "__class__" = some (some (.builtin "object.__class__"))
  hn : PySem.W.specialIn K (.builtin "object.__class__") "__get__" = some (some (.builtin "getset_descriptor.__get__"))
  ht : PySem.W.takesIn K (.builtin "object.__class__") = some true
  hm : PySem.W.mroIn K C (.type "object") = some true
structure Tx (K : PySem.W.Frag) (mg : Str → Option Value) where
  a__wall : Addr
  e__wall : FuncData
  d__wall : Df K mg "_wall" s__wall p__wall a__wall e__wall
  a_RightsError_init : Addr
  e_RightsError_init : FuncData
  d_RightsError_init : Dm K "__init__" "RightsError.__init__" s_RightsError_init p_RightsError_init a_RightsError_init e_RightsError_init
  a_is_right : Addr
  e_is_right : FuncData
  d_is_right : Df K mg "is_right" s_is_right p_is_right a_is_right e_is_right
  a_is_type : Addr
  e_is_type : FuncData
  d_is_type : Df K mg "is_type" s_is_type p_is_type a_is_type e_is_type
  a_is_value_type : Addr
  e_is_value_type : FuncData
  d_is_value_type : Df K mg "is_value_type" s_is_value_type p_is_value_type a_is_value_type e_is_value_type
  a_has_letter : Addr
  e_has_letter : FuncData
  d_has_letter : Df K mg "has_letter" s_has_letter p_has_letter a_has_letter e_has_letter
  a_within : Addr
  e_within : FuncData
  d_within : Df K mg "within" s_within p_within a_within e_within
  a_behind : Addr
  e_behind : FuncData
  d_behind : Df K mg "behind" s_behind p_behind a_behind e_behind
  a_converts : Addr
  e_converts : FuncData
  d_converts : Df K mg "converts" s_converts p_converts a_converts e_converts
  a_bar : Addr
  e_bar : FuncData
  d_bar : Df K mg "bar" s_bar p_bar a_bar e_bar
  a_is_number : Addr
  e_is_number : FuncData
  d_is_number : Df K mg "is_number" s_is_number p_is_number a_is_number e_is_number
  a_is_name : Addr
  e_is_name : FuncData
  d_is_name : Df K mg "is_name" s_is_name p_is_name a_is_name e_is_name
  a_is_depth : Addr
  e_is_depth : FuncData
  d_is_depth : Df K mg "is_depth" s_is_depth p_is_depth a_is_depth e_is_depth
  a_is_place : Addr
  e_is_place : FuncData
  d_is_place : Df K mg "is_place" s_is_place p_is_place a_is_place e_is_place
  a_first_word : Addr
  e_first_word : FuncData
  d_first_word : Df K mg "first_word" s_first_word p_first_word a_first_word e_first_word
  a_is_source : Addr
  e_is_source : FuncData
  d_is_source : Df K mg "is_source" s_is_source p_is_source a_is_source e_is_source
  a_is_source_list : Addr
  e_is_source_list : FuncData
  d_is_source_list : Df K mg "is_source_list" s_is_source_list p_is_source_list a_is_source_list e_is_source_list
  a_is_declared : Addr
  e_is_declared : FuncData
  d_is_declared : Df K mg "is_declared" s_is_declared p_is_declared a_is_declared e_is_declared
  a_is_statement : Addr
  e_is_statement : FuncData
  d_is_statement : Df K mg "is_statement" s_is_statement p_is_statement a_is_statement e_is_statement
  a_Function_init : Addr
  e_Function_init : FuncData
  d_Function_init : Dm K "__init__" "Function.__init__" s_Function_init p_Function_init a_Function_init e_Function_init
  a_Program_init : Addr
  e_Program_init : FuncData
  d_Program_init : Dm K "__init__" "Program.__init__" s_Program_init p_Program_init a_Program_init e_Program_init
  a_copied : Addr
  e_copied : FuncData
  d_copied : Df K mg "copied" s_copied p_copied a_copied e_copied
  a_copied_statement : Addr
  e_copied_statement : FuncData
  d_copied_statement : Df K mg "copied_statement" s_copied_statement p_copied_statement a_copied_statement e_copied_statement
  a_copied_statements : Addr
  e_copied_statements : FuncData
  d_copied_statements : Df K mg "copied_statements" s_copied_statements p_copied_statements a_copied_statements e_copied_statements
  a_copied_function : Addr
  e_copied_function : FuncData
  d_copied_function : Df K mg "copied_function" s_copied_function p_copied_function a_copied_function e_copied_function
  a_copied_functions : Addr
  e_copied_functions : FuncData
  d_copied_functions : Df K mg "copied_functions" s_copied_functions p_copied_functions a_copied_functions e_copied_functions
  a_is_program : Addr
  e_is_program : FuncData
  d_is_program : Df K mg "is_program" s_is_program p_is_program a_is_program e_is_program
  a_is_function : Addr
  e_is_function : FuncData
  d_is_function : Df K mg "is_function" s_is_function p_is_function a_is_function e_is_function
  a_are_statements : Addr
  e_are_statements : FuncData
  d_are_statements : Df K mg "are_statements" s_are_statements p_are_statements a_are_statements e_are_statements
  a_declared : Addr
  e_declared : FuncData
  d_declared : Df K mg "declared" s_declared p_declared a_declared e_declared
  a_declared_by_lets : Addr
  e_declared_by_lets : FuncData
  d_declared_by_lets : Df K mg "declared_by_lets" s_declared_by_lets p_declared_by_lets a_declared_by_lets e_declared_by_lets
  a_all_names : Addr
  e_all_names : FuncData
  d_all_names : Df K mg "all_names" s_all_names p_all_names a_all_names e_all_names
  a_all_kinds : Addr
  e_all_kinds : FuncData
  d_all_kinds : Df K mg "all_kinds" s_all_kinds p_all_kinds a_all_kinds e_all_kinds
  a_are_different : Addr
  e_are_different : FuncData
  d_are_different : Df K mg "are_different" s_are_different p_are_different a_are_different e_are_different
  a_are_of_one_kind : Addr
  e_are_of_one_kind : FuncData
  d_are_of_one_kind : Df K mg "are_of_one_kind" s_are_of_one_kind p_are_of_one_kind a_are_of_one_kind e_are_of_one_kind
  a_all_calls_fit : Addr
  e_all_calls_fit : FuncData
  d_all_calls_fit : Df K mg "all_calls_fit" s_all_calls_fit p_all_calls_fit a_all_calls_fit e_all_calls_fit
  a_calls_fit : Addr
  e_calls_fit : FuncData
  d_calls_fit : Df K mg "calls_fit" s_calls_fit p_calls_fit a_calls_fit e_calls_fit
  a_by_name : Addr
  e_by_name : FuncData
  d_by_name : Df K mg "by_name" s_by_name p_by_name a_by_name e_by_name
  a_place_fault : Addr
  e_place_fault : FuncData
  d_place_fault : Df K mg "place_fault" s_place_fault p_place_fault a_place_fault e_place_fault
  a_seen : Addr
  e_seen : FuncData
  d_seen : Df K mg "seen" s_seen p_seen a_seen e_seen
  a_conversion_fault : Addr
  e_conversion_fault : FuncData
  d_conversion_fault : Df K mg "conversion_fault" s_conversion_fault p_conversion_fault a_conversion_fault e_conversion_fault
  a_source_fault : Addr
  e_source_fault : FuncData
  d_source_fault : Df K mg "source_fault" s_source_fault p_source_fault a_source_fault e_source_fault
  a_put_fault : Addr
  e_put_fault : FuncData
  d_put_fault : Df K mg "put_fault" s_put_fault p_put_fault a_put_fault e_put_fault
  a_call_fault : Addr
  e_call_fault : FuncData
  d_call_fault : Df K mg "call_fault" s_call_fault p_call_fault a_call_fault e_call_fault
  a_statement_fault : Addr
  e_statement_fault : FuncData
  d_statement_fault : Df K mg "statement_fault" s_statement_fault p_statement_fault a_statement_fault e_statement_fault
  a_block_faults : Addr
  e_block_faults : FuncData
  d_block_faults : Df K mg "block_faults" s_block_faults p_block_faults a_block_faults e_block_faults
  a_faults : Addr
  e_faults : FuncData
  d_faults : Df K mg "faults" s_faults p_faults a_faults e_faults
  a_is_let_by : Addr
  e_is_let_by : FuncData
  d_is_let_by : Df K mg "is_let_by" s_is_let_by p_is_let_by a_is_let_by e_is_let_by
  a_State_init : Addr
  e_State_init : FuncData
  d_State_init : Dm K "__init__" "State.__init__" s_State_init p_State_init a_State_init e_State_init
  a_State_twin : Addr
  e_State_twin : FuncData
  d_State_twin : Dm K "twin" "State.twin" s_State_twin p_State_twin a_State_twin e_State_twin
  a_State_begin : Addr
  e_State_begin : FuncData
  d_State_begin : Dm K "begin" "State.begin" s_State_begin p_State_begin a_State_begin e_State_begin
  a_State_make : Addr
  e_State_make : FuncData
  d_State_make : Dm K "make" "State.make" s_State_make p_State_make a_State_make e_State_make
  a_State_read : Addr
  e_State_read : FuncData
  d_State_read : Dm K "read" "State.read" s_State_read p_State_read a_State_read e_State_read
  a_State_write : Addr
  e_State_write : FuncData
  d_State_write : Dm K "write" "State.write" s_State_write p_State_write a_State_write e_State_write
  a_thing_at : Addr
  e_thing_at : FuncData
  d_thing_at : Df K mg "thing_at" s_thing_at p_thing_at a_thing_at e_thing_at
  a_looked_up : Addr
  e_looked_up : FuncData
  d_looked_up : Df K mg "looked_up" s_looked_up p_looked_up a_looked_up e_looked_up
  a_call : Addr
  e_call : FuncData
  d_call : Df K mg "call" s_call p_call a_call e_call
  a_execute : Addr
  e_execute : FuncData
  d_execute : Df K mg "execute" s_execute p_execute a_execute e_execute
  a_execute_all : Addr
  e_execute_all : FuncData
  d_execute_all : Df K mg "execute_all" s_execute_all p_execute_all a_execute_all e_execute_all
  a_run : Addr
  e_run : FuncData
  d_run : Df K mg "run" s_run p_run a_run e_run
  a_breaking : Addr
  e_breaking : FuncData
  d_breaking : Df K mg "breaking" s_breaking p_breaking a_breaking e_breaking
  a_is_breaking : Addr
  e_is_breaking : FuncData
  d_is_breaking : Df K mg "is_breaking" s_is_breaking p_is_breaking a_is_breaking e_is_breaking
  a_pairs_along : Addr
  e_pairs_along : FuncData
  d_pairs_along : Df K mg "pairs_along" s_pairs_along p_pairs_along a_pairs_along e_pairs_along
  a_first_source : Addr
  e_first_source : FuncData
  d_first_source : Df K mg "first_source" s_first_source p_first_source a_first_source e_first_source
  a_holding : Addr
  e_holding : FuncData
  d_holding : Df K mg "holding" s_holding p_holding a_holding e_holding
  a_breach : Addr
  e_breach : FuncData
  d_breach : Df K mg "breach" s_breach p_breach a_breach e_breach
  a_converting : Addr
  e_converting : FuncData
  d_converting : Df K mg "converting" s_converting p_converting a_converting e_converting
  a__law_cell : Addr
  e__law_cell : FuncData
  d__law_cell : Df K mg "_law_cell" s__law_cell p__law_cell a__law_cell e__law_cell
  a__law_row : Addr
  e__law_row : FuncData
  d__law_row : Df K mg "_law_row" s__law_row p__law_row a__law_row e__law_row
  a__law_draw : Addr
  e__law_draw : FuncData
  d__law_draw : Df K mg "_law_draw" s__law_draw p__law_draw a__law_draw e__law_draw
  a__law_right : Addr
  e__law_right : FuncData
  d__law_right : Df K mg "_law_right" s__law_right p__law_right a__law_right e__law_right
  a__law_rights : Addr
  e__law_rights : FuncData
  d__law_rights : Df K mg "_law_rights" s__law_rights p__law_rights a__law_rights e__law_rights
  a__law_within : Addr
  e__law_within : FuncData
  d__law_within : Df K mg "_law_within" s__law_within p__law_within a__law_within e__law_within
  a__law_converts : Addr
  e__law_converts : FuncData
  d__law_converts : Df K mg "_law_converts" s__law_converts p__law_converts a__law_converts e__law_converts
  a__law_reached : Addr
  e__law_reached : FuncData
  d__law_reached : Df K mg "_law_reached" s__law_reached p__law_reached a__law_reached e__law_reached
  a__law_source_fault : Addr
  e__law_source_fault : FuncData
  d__law_source_fault : Df K mg "_law_source_fault" s__law_source_fault p__law_source_fault a__law_source_fault e__law_source_fault
  a__law_fault : Addr
  e__law_fault : FuncData
  d__law_fault : Df K mg "_law_fault" s__law_fault p__law_fault a__law_fault e__law_fault
  a__law_block_faults : Addr
  e__law_block_faults : FuncData
  d__law_block_faults : Df K mg "_law_block_faults" s__law_block_faults p__law_block_faults a__law_block_faults e__law_block_faults
  a__law_faults : Addr
  e__law_faults : FuncData
  d__law_faults : Df K mg "_law_faults" s__law_faults p__law_faults a__law_faults e__law_faults
  a__law_look : Addr
  e__law_look : FuncData
  d__law_look : Df K mg "_law_look" s__law_look p__law_look a__law_look e__law_look
  a__law_give : Addr
  e__law_give : FuncData
  d__law_give : Df K mg "_law_give" s__law_give p__law_give a__law_give e__law_give
  a__law_new : Addr
  e__law_new : FuncData
  d__law_new : Df K mg "_law_new" s__law_new p__law_new a__law_new e__law_new
  a__law_put : Addr
  e__law_put : FuncData
  d__law_put : Df K mg "_law_put" s__law_put p__law_put a__law_put e__law_put
  a__law_execute : Addr
  e__law_execute : FuncData
  d__law_execute : Df K mg "_law_execute" s__law_execute p__law_execute a__law_execute e__law_execute
  a__law_run : Addr
  e__law_run : FuncData
  d__law_run : Df K mg "_law_run" s__law_run p__law_run a__law_run e__law_run
  a__law_plain_program : Addr
  e__law_plain_program : FuncData
  d__law_plain_program : Df K mg "_law_plain_program" s__law_plain_program p__law_plain_program a__law_plain_program e__law_plain_program
  a__law_pair : Addr
  e__law_pair : FuncData
  d__law_pair : Df K mg "_law_pair" s__law_pair p__law_pair a__law_pair e__law_pair
  a__law_breaks : Addr
  e__law_breaks : FuncData
  d__law_breaks : Df K mg "_law_breaks" s__law_breaks p__law_breaks a__law_breaks e__law_breaks
  C_RightsError : Addr
  g_RightsError : mg "RightsError" = some (.ref C_RightsError)
  n_RightsError_reason : PySem.W.findIn K (.ref C_RightsError) "reason" = some none
  o_RightsError : OexC K C_RightsError
  x_RightsError : XfC K C_RightsError
  i_RightsError : PySem.W.findIn K (.ref C_RightsError) "__init__" = some (some (.ref a_RightsError_init))
  t_RightsError : PySem.W.typeIn K (.ref a_RightsError_init) = some (.type "function")
  s_RightsError : PySem.W.exmOne K (.ref C_RightsError) (.ref C_RightsError) = some true
  C_Function : Addr
  g_Function : mg "Function" = some (.ref C_Function)
  n_Function_name : PySem.W.findIn K (.ref C_Function) "name" = some none
  n_Function_params : PySem.W.findIn K (.ref C_Function) "params" = some none
  n_Function_body : PySem.W.findIn K (.ref C_Function) "body" = some none
  c_Function : Cls K C_Function
  k_Function : Mk K C_Function a_Function_init
  i_Function : Ist K C_Function
  C_Program : Addr
  g_Program : mg "Program" = some (.ref C_Program)
  n_Program_functions : PySem.W.findIn K (.ref C_Program) "functions" = some none
  n_Program_statements : PySem.W.findIn K (.ref C_Program) "statements" = some none
  c_Program : Cls K C_Program
  k_Program : Mk K C_Program a_Program_init
  i_Program : Ist K C_Program
  C_State : Addr
  g_State : mg "State" = some (.ref C_State)
  n_State_made : PySem.W.findIn K (.ref C_State) "made" = some none
  n_State_broken : PySem.W.findIn K (.ref C_State) "broken" = some none
  n_State_executed : PySem.W.findIn K (.ref C_State) "executed" = some none
  n_State_scope : PySem.W.findIn K (.ref C_State) "scope" = some none
  c_State : Cls K C_State
  k_State : Mk K C_State a_State_init
  i_State : Ist K C_State
  h_State_twin : Meth K C_State "twin" a_State_twin
  h_State_begin : Meth K C_State "begin" a_State_begin
  h_State_make : Meth K C_State "make" a_State_make
  h_State_read : Meth K C_State "read" a_State_read
  h_State_write : Meth K C_State "write" a_State_write
  C_NullFollowed : Addr
  g_NullFollowed : mg "NullFollowed" = some (.ref C_NullFollowed)
  q_NullFollowed : PySem.W.excIn K C_NullFollowed [.type "Exception", .type "BaseException", .type "object"] "Exception.__new__" = true
  kp_NullFollowed : PySem.W.keepIn K (.ref C_NullFollowed) = true
  b_NullFollowed : PySem.W.subIn K (.ref C_NullFollowed) (.type "BaseException") = some true
  y_NullFollowed : PySem.W.typeIn K (.ref C_NullFollowed) = some (.type "type")
  s_NullFollowed : PySem.W.exmOne K (.ref C_NullFollowed) (.ref C_NullFollowed) = some true
  u_RightsError_NullFollowed : PySem.W.exmOne K (.ref C_RightsError) (.ref C_NullFollowed) = some false
  vV : PySem.W.findCls K (.type "ValueError") (.type "type") "__init__" = some (.val (.builtin "ValueError.__init__"))
  a_RIGHTS : Addr
  m_RIGHTS : mg "RIGHTS" = some (.ref a_RIGHTS)
  t_RIGHTS : ∀ H, SqT K H a_RIGHTS [.str "rw", .str "r", .str "w", .str "-"]
  a_LETTERS : Addr
  m_LETTERS : mg "LETTERS" = some (.ref a_LETTERS)
  t_LETTERS : ∀ H, SqT K H a_LETTERS [.str "r", .str "w"]
  k_MOST_RIGHTS : Tok
  m_MOST_RIGHTS : mg "MOST_RIGHTS" = some (.int 6 k_MOST_RIGHTS)
  k_SIGNS : Tok
  m_SIGNS : mg "SIGNS" = some (.str "abcdefghijklmnopqrstuvwxyz" k_SIGNS)
  k_MOST_SIGNS : Tok
  m_MOST_SIGNS : mg "MOST_SIGNS" = some (.int 8 k_MOST_SIGNS)
  k_MOST_STARS : Tok
  m_MOST_STARS : mg "MOST_STARS" = some (.int 5 k_MOST_STARS)
  k_MOST_DEPTH : Tok
  m_MOST_DEPTH : mg "MOST_DEPTH" = some (.int 5 k_MOST_DEPTH)
  k_MOST_NUMBER : Tok
  m_MOST_NUMBER : mg "MOST_NUMBER" = some (.int 1000 k_MOST_NUMBER)
  k_MOST_FUNCTIONS : Tok
  m_MOST_FUNCTIONS : mg "MOST_FUNCTIONS" = some (.int 4 k_MOST_FUNCTIONS)
  k_MOST_PARAMS : Tok
  m_MOST_PARAMS : mg "MOST_PARAMS" = some (.int 4 k_MOST_PARAMS)
  k_MOST_IN_BODY : Tok
  m_MOST_IN_BODY : mg "MOST_IN_BODY" = some (.int 12 k_MOST_IN_BODY)
  k_MOST_STATEMENTS : Tok
  m_MOST_STATEMENTS : mg "MOST_STATEMENTS" = some (.int 40 k_MOST_STATEMENTS)
  k_MOST_EXECUTED : Tok
  m_MOST_EXECUTED : mg "MOST_EXECUTED" = some (.int 1000 k_MOST_EXECUTED)
  b_ValueError : mg "ValueError" = none
  b_str : mg "str" = none
  b_type : mg "type" = none
  b_len : mg "len" = none
  b_all : mg "all" = none
  b_tuple : mg "tuple" = none
  b_int : mg "int" = none
  b_list : mg "list" = none
  b_isinstance : mg "isinstance" = none
  b_set : mg "set" = none
  b_zip : mg "zip" = none
  b_dict : mg "dict" = none
  b_enumerate : mg "enumerate" = none
  b_range : mg "range" = none
  b_abs : mg "abs" = none
local macro_rules | `(tactic| walk_at "s") => `(tactic| with_reducible first
  | (refine w_var (v := ?vv) ?hh ?_; (case hh => with_unfolding_all exact rfl))
  | refine w_cons ?_
  | refine w_c ?_
  | refine w_nil ?_
  | refine w_op ?_
  | refine w_seq ?_
  | refine w_name ?_
  | refine w_ret ?_
  | refine w_test ?_
  | refine w_callN ?_
  | walk_at "s1")
local macro_rules | `(tactic| walk_at "s1") => `(tactic| with_reducible first
  | refine w_if ?_
  | refine w_CB ?_
  | refine w_asg ?_
  | refine w_next ?_
  | refine w_getF ?_
  | refine w_eqS ?_
  | refine w_gcons ?_
  | refine w_I0 ?_
  | refine w_tup ?_
  | refine iteT ?_
  | refine w_lst ?_
  | refine w_drop ?_
  | walk_at "s2")
local macro_rules | `(tactic| walk_at "s2") => `(tactic| with_reducible first
  | refine w_brk ?_
  | refine w_cont ?_
  | refine w_un ?_
  | refine w_neg ?_
  | refine w_eqI ?_
  | refine w_neI ?_
  | refine w_neS ?_
  | refine w_eqB ?_
  | refine w_neB ?_
  | refine w_B ?_
  | refine w_and ?_
  | refine w_or ?_
  | refine w_not ?_
  | refine w_andV ?_
  | refine w_orV ?_
  | refine w_notV ?_
  | refine w_ifE ?_
  | refine w_yes ?_
  | refine w_BM ?_
  | refine w_BMT ?_
  | refine w_BM0 ?_
  | refine w_noPart ?_
  | refine w_part ?_
  | refine w_sl ?_
  | refine w_subG ?_
  | refine w_gnil ?_
  | refine w_for ?_
  | refine w_lc ?_
  | refine w_iR1 ?_
  | refine w_iR2 ?_
  | refine w_iL ?_
  | refine w_iT ?_
  | refine w_iS ?_
  | (show ∃ k, V.bl _ = V.bl k ∧ _; refine ⟨_, rfl, ?_⟩)
  | (show ∃ k, V.int _ = V.int k ∧ _; refine ⟨_, rfl, ?_⟩)
  | refine iteF ?_
  | refine iteNT ?_
  | refine iteNF ?_
  | refine r_S ?_
  | refine c_S ?_
  | refine a_abs ?_
  | refine a_intI ?_
  | refine a_intB ?_
  | refine w_par ?_
  | refine w_dK ?_
  | refine w_chain ?_
  | (show ∃ v w, [_, _] = [v, w] ∧ _; refine ⟨_, _, rfl, ?_⟩)
  | refine w_setF ?_
  | refine w_newI ?_
  | refine w_callS ?_
  | refine w_getD1 ?_
  | refine w_putD ?_
  | refine w_veI ?_
  | refine w_ostI ?_
  | refine w_mkO ?_
  | refine w_newS ?_
  | refine w_xf ?_
  | refine w_dget ?_
  | refine w_din ?_
  | refine w_dnin ?_
  | refine w_iEn ?_
  | refine w_iZp ?_
  | refine w_dc ?_
  | refine w_meth ?_
  | refine w_methA ?_
  | refine w_aug ?_
  | refine w_lcX ?_
  | refine a_isNn ?_
  | refine a_isNr ?_
  | refine a_notNn ?_
  | refine a_notNr ?_
  | refine a_isTy ?_
  | refine a_notTy ?_
  | refine a_isBl ?_
  | refine a_notBl ?_)
local macro_rules | `(tactic| walk_at "r") => `(tactic| repeat walk_at "s")
local macro_rules | `(tactic| walk_at "tr") => `(tactic| first
  | assumption
  | (refine ex_at (H := ?H0) ?h1 ?h2; (case h2 => assumption); (case h1 => walk_at "tr"))
  | (refine ks_at (H := ?H0) (S := ?S0) ?h1 ?h2 ?h3; (case h2 => assumption); (case h3 => walk_at "nin"); (case h1 => walk_at "tr")))
local macro_rules | `(tactic| walk_at "nin") => `(tactic| first
  | exact nin_nil | (refine nin_cons ?h1 ?h2; (case h1 => walk_at "ne"); (case h2 => walk_at "nin")))
local macro_rules | `(tactic| walk_at "ne") => `(tactic| first
  | assumption | exact Ne.symm (by assumption)
  | (refine bx_nb (H := ?H0) (r := ?r0) ?h1 ?h2; (case h2 => assumption); (case h1 => walk_at "bx"))
  | (refine bx_nr (H := ?H0) (b := ?b0) ?h1 ?h2; (case h2 => assumption); (case h1 => walk_at "bx"))
  | (refine Ne.symm (bx_nb (H := ?H0) (r := ?r0) ?h1 ?h2); (case h2 => assumption); (case h1 => walk_at "bx"))
  | (refine ne_old (H := ?H0) (o := ?o0) ?h1 ?h2; (case h2 => assumption); (case h1 => walk_at "tr"))
  | (refine Ne.symm (ne_old (H := ?H0) (o := ?o0) ?h1 ?h2); (case h2 => assumption); (case h1 => walk_at "tr"))
  | exact (Tu.ne (by assumption) (by assumption)).1 | exact (Tu.ne (by assumption) (by assumption)).2
  | (refine bx_rb (H := ?H0) ?h1; (case h1 => walk_at "bx")))
local macro_rules | `(tactic| walk_at "tu") => `(tactic| first
  | assumption
  | (refine Tu.ex (H := ?H0) ?h1 ?h2; (case h2 => assumption); (case h1 => walk_at "tu"))
  | (refine Tu.ks (H := ?H0) (S := ?S0) ?h1 ?h2 ?h3; (case h2 => assumption); (case h3 => walk_at "nin"); (case h1 => walk_at "tu")))
local macro_rules | `(tactic| walk_at "bx") => `(tactic| first
  | assumption
  | (refine bx_ex (H := ?H0) ?h1 ?h2; (case h2 => assumption); (case h1 => walk_at "bx"))
  | (refine bx_ks (H := ?H0) (S := ?S0) ?h1 ?h2 ?h3 ?h4; (case h2 => assumption); (case h3 => walk_at "nin"); (case h4 => walk_at "nin"); (case h1 => walk_at "bx")))
local macro_rules | `(tactic| walk_at "sl") => `(tactic| first
  | assumption | (refine SqL.of ?h1; (case h1 => walk_at "tr"))
  | (refine ex_sl (H := ?H0) ?h1 ?h2; (case h2 => assumption); (case h1 => walk_at "sl"))
  | (refine ks_sl (H := ?H0) (S := ?S0) ?h1 ?h2 ?h3; (case h2 => assumption); (case h3 => walk_at "nin"); (case h1 => walk_at "sl")))
local macro_rules | `(tactic| walk_at "st") => `(tactic| first
  | assumption | (refine Tu.st ?h1; (case h1 => walk_at "tu")) | (refine SqT.of ?h1; (case h1 => walk_at "tr"))
  | (refine ex_st (H := ?H0) ?h1 ?h2; (case h2 => assumption); (case h1 => walk_at "st"))
  | (refine ks_st (H := ?H0) (S := ?S0) ?h1 ?h2 ?h3; (case h2 => assumption); (case h3 => walk_at "nin"); (case h1 => walk_at "st")))
local macro_rules | `(tactic| walk_at "ex") => `(tactic| first
  | exact Ex.refl _ | assumption | (refine Ex.trans (H1 := ?H0) ?h1 ?h2; (case h2 => assumption); (case h1 => walk_at "ex")))
local macro_rules | `(tactic| walk_at "ks") => `(tactic| first
  | exact Ks.refl _ _ | assumption | (refine Ks.of ?h1; (case h1 => assumption)) | (refine Ks.trans (H1 := ?H0) ?h1 ?h2; (case h2 => first | assumption | (refine Ks.of ?h3; (case h3 => assumption))); (case h1 => walk_at "ks")))
local macro_rules | `(tactic| walk_at "dp") => `(tactic| first
  | exact Dp.str _ | exact Dp.int _ | exact Dp.bl _ | exact Dp.non | assumption | exact LsAt.dp (by assumption)
  | (refine dp_ex (H := ?H0) ?h1 ?h2; (case h1 => assumption); (case h2 => walk_at "dp")))
local macro_rules | `(tactic| walk_at "ev") => `(tactic| with_reducible first
  | exact ev_nil | refine ev_cons ?_ ?_ | exact ev_m1 | exact ev_str | exact ev_int | exact ev_bl | exact ev_non
  | (refine ev_tup ?hal ?_ ?hle; (case hal => assumption); (case hle => with_unfolding_all exact Nat.le_of_ble_eq_true rfl))
  | (refine ev_ll (ev_lst ?hal ?_ ?hle); (case hal => assumption); (case hle => with_unfolding_all exact Nat.le_of_ble_eq_true rfl))
  | (refine ev_ll (ev_rep (n := ?nn) ?hal ?_ ?he ?hz); (case he => with_unfolding_all exact rfl); (case hal => assumption); (case hz => with_unfolding_all omega))
  | (refine ev_lst ?hal ?_ ?hle; (case hal => assumption); (case hle => with_unfolding_all exact Nat.le_of_ble_eq_true rfl))
  | (refine ev_lt ?he; (case he => with_unfolding_all exact rfl))
  | (refine ev_let ?hal ?_ ?hs; (case hal => assumption); (case hs => with_unfolding_all first | decide +kernel | rfl))
  | (refine ev_var (v := ?vv) ?he ?hd; (case he => with_unfolding_all exact rfl); (case hd => with_unfolding_all walk_at "dp")))
section
variable {P : Program} {w : World} {K : PySem.W.Frag} {mg : Str → Option Value} {base : Heap}
/-! ### the program: names, places, sources, statements -/
theorem ok_is_number (T : Tx K mg) : FnOk P w K mg base CX0 1 T.a_is_number T.e_is_number p_is_number (pNum K) := by
  refine T.d_is_number.F.ok sc_is_number (fun vs H Q E h => ?_) (fun cdv A outer s H vs Q E hr h => ?_)
  · obtain ⟨v, d, m, rfl, _⟩ := h
    rfl
  obtain ⟨v, d, m, rfl, hd, q⟩ := h
  refine ⟨_, (pss_one (ps_ret (pe_and (pe_cmpR k_isTy (pe_callTy (typK K) (by rfl) T.b_type (by decide +kernel) (pa_cons (pv 0) pa_nil)) (pe_bltn (v := .ty "int") (by rfl) T.b_int (by decide +kernel) rfl) (nomark _)) (pe_one (pe_chain op_le op_le pe_int (pv 0) (pv 1)))))), ?_⟩
  walk_at "r"
  refine ⟨v, _, rfl, dp_tag hd.1, ?_⟩
  walk_at "r"
  refine ite2 (fun c => ?_) (fun c => ?_)
  · obtain ⟨i, rfl, rfl⟩ := ds_int hd (of_decide_eq_true c)
    walk_at "r"
    refine ite2 (fun c1 => ?_) (fun c1 => ?_)
    · have g := q H (Ex.refl _)
      have e : numD (.int i) m = decide (i ≤ m) := by
        show (decide (0 ≤ i) && decide (i ≤ m)) = _
        rw [c1]
        rfl
      rw [e] at g
      walk_at "r"
      exact g
    · have g := q H (Ex.refl _)
      have e : numD (.int i) m = false := by
        show (decide (0 ≤ i) && decide (i ≤ m)) = _
        rw [Bool.eq_false_iff.mpr c1]
        rfl
      rw [e] at g
      exact g
  · have g := q H (Ex.refl _)
    have e : numD d m = false := by
      cases d <;> first | rfl | exact absurd rfl (not_tag c)
    rw [e] at g
    exact g
theorem ok_is_depth (T : Tx K mg) : FnOk P w K mg base CX0 2 T.a_is_depth T.e_is_depth p_is_depth (pF1 K fun d => numD d 5) := by
  refine T.d_is_depth.F.ok sc_is_depth (fun vs H Q E h => ?_) (fun cdv A outer s H vs Q E hr h => ?_)
  · obtain ⟨v, d, rfl, _⟩ := h
    rfl
  obtain ⟨v, d, rfl, hd, q⟩ := h
  refine ⟨_, (pss_one (ps_ret (pe_call (ok_is_number T) (hr.mono (by omega)) (by rfl) T.d_is_number.m T.d_is_number.F.kp T.d_is_number.b .nil pass0 (pa_cons (pv 0) (pa_cons (pe_glob (v := .int 5) (by rfl) T.m_MOST_DEPTH ⟨_, rfl⟩) pa_nil))))), ?_⟩
  walk_at "r"
  exact ⟨v, d, 5, rfl, hd, q⟩
theorem ok_is_right (T : Tx K mg) : FnOk P w K mg base CX0 1 T.a_is_right T.e_is_right p_is_right (pF1 K irD) := by
  refine T.d_is_right.F.ok sc_is_right (fun vs H Q E h => ?_) (fun cdv A outer s H vs Q E hr h => ?_)
  · obtain ⟨v, d, rfl, _⟩ := h
    rfl
  obtain ⟨v, d, rfl, hd, q⟩ := h
  refine ⟨_, (pss_one (ps_ret (pe_and (pe_cmpR k_isTy (pe_callTy (typK K) (by rfl) T.b_type (by decide +kernel) (pa_cons (pv 0) pa_nil)) (pe_bltn (v := .ty "str") (by rfl) T.b_str (by decide +kernel) rfl) (nomark _)) (pe_one (pe_cmpR (inK K) (pv 0) (pe_glob (v := .ref T.a_RIGHTS) (by rfl) T.m_RIGHTS rfl) (by rfl)))))), ?_⟩
  walk_at "r"
  refine ⟨v, _, rfl, dp_tag hd.1, ?_⟩
  walk_at "r"
  have g := q H (Ex.refl _)
  refine ite2 (fun c => ?_) (fun c => ?_)
  · obtain ⟨x, rfl, rfl, _⟩ := ds_str hd (of_decide_eq_true c)
    walk_at "r"
    exact a_inT (T.t_RIGHTS _) rfl rfl g
  · rw [irD_tag (not_tag c)] at g
    exact g
theorem ok_is_value_type (T : Tx K mg) : FnOk P w K mg base CX0 2 T.a_is_value_type T.e_is_value_type p_is_value_type (pF1 K vtyD) := by
  refine T.d_is_value_type.F.ok sc_is_value_type (fun vs H Q E h => ?_) (fun cdv A outer s H vs Q E hr h => ?_)
  · obtain ⟨v, d, rfl, _⟩ := h
    rfl
  obtain ⟨v, d, rfl, hd, q⟩ := h
  refine ⟨_, (pss_cons (ps_if (PW.pt (pw_or (pt_cmpR k_notTy (pe_callTy (typK K) (by rfl) T.b_type (by decide +kernel) (pa_cons (pv 0) pa_nil)) (pe_bltn (v := .ty "tuple") (by rfl) T.b_tuple (by decide +kernel) rfl) (nomark _)) (pw_or1 (pt_cmpR op_gt (pe_callB (lenK K) (by rfl) T.b_len PySem.boot_len (pa_cons (pv 0) pa_nil)) (pe_glob (v := .int 6) (by rfl) T.m_MOST_RIGHTS ⟨_, rfl⟩) (nomark _))))) (pss_one (ps_ret pe_bl)) pss_nil)
    (pss_one (ps_ret (pe_callB (allK K) (by rfl) T.b_all (by decide +kernel) (pa_cons (pe_lc (own := [("part", 1)]) (g := gName 1) rfl sc_is_value_type.nd  (ptK K (pv 0)) (blkOk_by (own := [("part", 1)]) (N := n_is_value_type) (sc := defScope s_is_value_type) (by decide +kernel)) (fun _ _ _ _ _ => (pg_name (i := 1) sc_is_value_type.nd rfl (Or.inl rfl))) (fun _ _ _ _ _ => pts_nil) (fun _ _ _ _ _ => (pe_call (ok_is_right T) (hr.mono (by omega)) (by rfl) T.d_is_right.m T.d_is_right.F.kp T.d_is_right.b .nil pass0 (pa_cons (pv 1) pa_nil)))) pa_nil))))), ?_⟩
  walk_at "r"
  refine ⟨v, _, rfl, dp_tag hd.1, ?_⟩
  walk_at "r"
  have g := q H (Ex.refl _)
  refine ite2 (fun c => ?_) (fun c => ?_)
  · rw [vtyD_tag (fun z => by rw [z] at c; exact absurd c (by decide))] at g
    walk_at "r"
    exact g
  · obtain ⟨p, xs, ds, rfl, rfl, hT, hD, hs, hl⟩ := ds_tup hd (Decidable.byContradiction fun z => c (by rw [decide_eq_false z]; rfl))
    change Q (.bl (vtD ds)) H at g
    walk_at "r"
    refine a_lenT hT ?_
    walk_at "r"
    refine ite2 (fun c => ?_) (fun c => ?_)
    · have := of_decide_eq_true c
      rw [vt_nil ds (by omega)] at g
      walk_at "r"
      exact g
    · have h6 : ds.length ≤ 6 := by
        have := of_decide_eq_false (nf c)
        omega
      walk_at "r"
      refine c_T hT ?_
      refine cp_tup (xs := xs) (fun l k h => Ex H h ∧ h l = some (.lst (((ds.take k).map irD).map V.bl))) (fun l n => ⟨Ex.new n, upd_same⟩) (fun l k h _ _ g => ex_st hT g.1) ?_ ?_
      · rintro l k x h nl hx ⟨e, f⟩
        obtain ⟨d, hd', dx⟩ := ds_at hD hs hx
        have hk := at_lt hx
        walk_at "r"
        refine ⟨rfl, ?_⟩
        walk_at "r"
        refine ⟨x, d, rfl, ds_ex dx e, fun H1 e1 => ?_⟩
        refine ⟨_, e1 _ _ f, sz_lt (by rw [bools_len]; omega), (e.trans e1).mut nl, ?_⟩
        rw [upd_same, bools_snoc irD hd']
      · rintro l h nl ⟨e, f⟩
        walk_at "r"
        rw [hl, List.take_length] at f
        refine ⟨l, _, rfl, SqL.of f, ?_⟩
        rw [bools_all, ← vt_all ds h6]
        exact q _ e
theorem ok_is_type (T : Tx K mg) : FnOk P w K mg base CX0 3 T.a_is_type T.e_is_type p_is_type (pF1 K typD) := by
  refine T.d_is_type.F.ok sc_is_type (fun vs H Q E h => ?_) (fun cdv A outer s H vs Q E hr h => ?_)
  · obtain ⟨v, d, rfl, _⟩ := h
    rfl
  obtain ⟨v, d, rfl, hd, q⟩ := h
  refine ⟨_, (pss_one (ps_ret (pe_and (pe_call (ok_is_value_type T) (hr.mono (by omega)) (by rfl) T.d_is_value_type.m T.d_is_value_type.F.kp T.d_is_value_type.b .nil pass0 (pa_cons (pv 0) pa_nil)) (pe_one (pe_cmpR op_gt (pe_callB (lenK K) (by rfl) T.b_len PySem.boot_len (pa_cons (pv 0) pa_nil)) pe_int (nomark _)))))), ?_⟩
  walk_at "r"
  refine ⟨v, d, rfl, hd, fun H1 e1 => ?_⟩
  have g := q H1 e1
  rw [typD_eq] at g
  walk_at "r"
  refine ite2 (fun c => ?_) (fun c => ?_)
  · obtain ⟨p, xs, ds, rfl, rfl, hT, hD, hs, hl⟩ := ds_tup hd (Decidable.byContradiction fun z => by rw [vtyD_tag z] at c; cases c)
    walk_at "r"
    refine a_lenT (ex_st hT e1) ?_
    walk_at "r"
    rw [c, Bool.true_and] at g
    have e2 : decide (0 < lenD (.tuple ds)) = decide ((0 : Int) < (xs.length : Int)) := by
      rw [hl]
      show decide (0 < ds.length) = _
      by_cases z : 0 < ds.length
      · rw [decide_eq_true z, decide_eq_true (by omega)]
      · rw [decide_eq_false z, decide_eq_false (by omega)]
    rw [e2] at g
    exact g
  · rw [nf c] at g
    exact g
theorem ok_is_name (T : Tx K mg) : FnOk P w K mg base CX0 1 T.a_is_name T.e_is_name p_is_name (pF1 K nameD) := by
  refine T.d_is_name.F.ok sc_is_name (fun vs H Q E h => ?_) (fun cdv A outer s H vs Q E hr h => ?_)
  · obtain ⟨v, d, rfl, _⟩ := h
    rfl
  obtain ⟨v, d, rfl, hd, q⟩ := h
  refine ⟨_, (pss_cons (ps_if (PW.pt (pw_or (pt_cmpR k_notTy (pe_callTy (typK K) (by rfl) T.b_type (by decide +kernel) (pa_cons (pv 0) pa_nil)) (pe_bltn (v := .ty "str") (by rfl) T.b_str (by decide +kernel) rfl) (nomark _)) (pw_or (pt_cmpR op_eq (pv 0) pe_str (nomark _)) (pw_or1 (pt_not (pt_chain op_le op_le pe_int (pe_callB k_lenS (by rfl) T.b_len PySem.boot_len (pa_cons (pv 0) pa_nil)) (pe_glob (v := .int 8) (by rfl) T.m_MOST_SIGNS ⟨_, rfl⟩))))))) (pss_one (ps_ret pe_bl)) pss_nil)
    (pss_one (ps_ret (pe_callB (allK K) (by rfl) T.b_all (by decide +kernel) (pa_cons (pe_lc (own := [("sign", 1)]) (g := gName 1) rfl sc_is_name.nd  (pi_str (pv 0)) (blkOk_by (own := [("sign", 1)]) (N := n_is_name) (sc := defScope s_is_name) (by decide +kernel)) (fun _ _ _ _ _ => (pg_name (i := 1) sc_is_name.nd rfl (Or.inl rfl))) (fun _ _ _ _ _ => pts_nil) (fun _ _ _ _ _ => (pe_cmpR k_inS (pv 1) (pe_glob (v := .str "abcdefghijklmnopqrstuvwxyz") (by rfl) T.m_SIGNS ⟨_, rfl⟩) (by rfl)))) pa_nil))))), ?_⟩
  walk_at "r"
  refine ⟨v, _, rfl, dp_tag hd.1, ?_⟩
  walk_at "r"
  have g := q H (Ex.refl _)
  refine ite2 (fun c => ?_) (fun c => ?_)
  · rw [nameD_tag (fun z => by rw [z] at c; exact absurd c (by decide))] at g
    walk_at "r"
    exact g
  · obtain ⟨x, rfl, rfl, hl⟩ := ds_str hd (Decidable.byContradiction fun z => c (by rw [decide_eq_false z]; rfl))
    change Q (.bl (!decide (x = "null") && (decide (1 ≤ x.length) && decide (x.length ≤ 8)) && x.cps.toList.all sgOk)) H at g
    walk_at "r"
    refine ite2 (fun c1 => ?_) (fun c1 => ?_)
    · walk_at "r"
      rw [c1] at g
      exact g
    · rw [nf c1] at g
      walk_at "r"
      refine a_lenS hl ?_
      walk_at "r"
      refine ite2 (fun c2 => ?_) (fun c2 => ?_)
      · walk_at "r"
        have c2' := of_decide_eq_true c2
        rw [decide_eq_true (show 1 ≤ x.length by omega)] at g
        refine ite2 (fun c3 => ?_) (fun c3 => ?_)
        · have c3' : ¬ x.length ≤ 8 := fun z => by
            rw [decide_eq_true (show (x.length : Int) ≤ 8 by omega)] at c3
            cases c3
          rw [decide_eq_false c3'] at g
          walk_at "r"
          exact g
        · have c3' : x.length ≤ 8 := Decidable.byContradiction fun z => c3 (by
            rw [decide_eq_false (show ¬ (x.length : Int) ≤ 8 by omega)]
            rfl)
          rw [decide_eq_true c3'] at g
          change Q (.bl (x.cps.toList.all sgOk)) H at g
          walk_at "r"
          refine cp_chars (z := x) (fun l k h => Ex H h ∧ h l = some (.lst (((x.cps.toList.take k).map sgOk).map V.bl))) (fun l n => ⟨Ex.new n, upd_same⟩) ?_ ?_
          · rintro l k ch h nl hx ⟨e, f⟩
            have hk : k < x.length := (Array.getElem?_eq_some_iff.mp hx).1
            walk_at "r"
            refine ⟨rfl, ?_⟩
            walk_at "r"
            refine a_inS (b := sgOk ch) rfl ?_
            refine ⟨_, f, sz_lt (by rw [List.length_map, List.length_map, List.length_take]; omega), e.mut nl, ?_⟩
            rw [upd_same, chars_snoc hx]
          · rintro l h nl ⟨e, f⟩
            walk_at "r"
            have e3 : x.cps.toList.take x.cps.size = x.cps.toList := List.take_of_length_le (by simp)
            rw [e3] at f
            refine ⟨l, _, rfl, SqL.of f, ?_⟩
            have e4 : (x.cps.toList.map sgOk).all id = x.cps.toList.all sgOk := by
              rw [List.all_map]
              rfl
            rw [e4]
            have g2 := q h e
            change Q (.bl (!decide (x = "null") && (decide (1 ≤ x.length) && decide (x.length ≤ 8)) && x.cps.toList.all sgOk)) h at g2
            rw [nf c1, decide_eq_true (show 1 ≤ x.length by omega), decide_eq_true c3'] at g2
            exact g2
      · rw [decide_eq_false (fun z : 1 ≤ x.length => c2 (decide_eq_true (by omega)))] at g
        walk_at "r"
        exact g
theorem ok_is_place (T : Tx K mg) : FnOk P w K mg base CX0 2 T.a_is_place T.e_is_place p_is_place (pF1 K placeD) := by
  refine T.d_is_place.F.ok sc_is_place (fun vs H Q E h => ?_) (fun cdv A outer s H vs Q E hr h => ?_)
  · obtain ⟨v, d, rfl, _⟩ := h
    rfl
  obtain ⟨v, d, rfl, hd, q⟩ := h
  refine ⟨_, (pss_cons (ps_if (PW.pt (pw_or (pt_cmpR k_notTy (pe_callTy (typK K) (by rfl) T.b_type (by decide +kernel) (pa_cons (pv 0) pa_nil)) (pe_bltn (v := .ty "tuple") (by rfl) T.b_tuple (by decide +kernel) rfl) (nomark _)) (pw_or1 (pt_cmpR op_ne (pe_callB (lenK K) (by rfl) T.b_len PySem.boot_len (pa_cons (pv 0) pa_nil)) pe_int (nomark _))))) (pss_one (ps_ret pe_bl)) pss_nil)
    (pss_one (ps_ret (pe_and (pe_call (ok_is_name T) (hr.mono (by omega)) (by rfl) T.d_is_name.m T.d_is_name.F.kp T.d_is_name.b .nil pass0 (pa_cons (pe_ix (ixT K) (pv 0) pe_int (fun _ _ => rfl)) pa_nil)) (pe_one (pe_call (ok_is_number T) (hr.mono (by omega)) (by rfl) T.d_is_number.m T.d_is_number.F.kp T.d_is_number.b .nil pass0 (pa_cons (pe_ix (ixT K) (pv 0) pe_int (fun _ _ => rfl)) (pa_cons (pe_glob (v := .int 5) (by rfl) T.m_MOST_STARS ⟨_, rfl⟩) pa_nil)))))))), ?_⟩
  walk_at "r"
  refine ⟨v, _, rfl, dp_tag hd.1, ?_⟩
  walk_at "r"
  have g := q H (Ex.refl _)
  refine ite2 (fun c => ?_) (fun c => ?_)
  · rw [placeD_tag (fun z => by rw [z] at c; exact absurd c (by decide))] at g
    walk_at "r"
    exact g
  · obtain ⟨p, xs, ds, rfl, rfl, hT, hD, hs, hl⟩ := ds_tup hd (Decidable.byContradiction fun z => c (by rw [decide_eq_false z]; rfl))
    have e0 : placeD (.tuple ds) = (decide (ds.length = 2) && (nameD (nthD (.tuple ds) 0) && numD (nthD (.tuple ds) 1) 5)) := rfl
    walk_at "r"
    refine a_lenT hT ?_
    walk_at "r"
    refine ite2 (fun c => ?_) (fun c => ?_)
    · have c' : ¬ ds.length = 2 := fun z => by
        rw [hl, decide_eq_true (show (ds.length : Int) = 2 by omega)] at c
        cases c
      rw [e0, decide_eq_false c'] at g
      walk_at "r"
      exact g
    · have c' : ds.length = 2 := Decidable.byContradiction fun z => c (by
        rw [hl, decide_eq_false (show ¬ (ds.length : Int) = 2 by omega)]
        rfl)
      rw [decide_eq_true c', Bool.true_and] at e0
      walk_at "r"
      refine a_nthS (i := 0) hT hD hs (by omega) fun v0 d0 => ?_
      walk_at "r"
      refine ⟨v0, _, rfl, d0, fun H1 e1 => ?_⟩
      have g1 := q H1 e1
      rw [e0] at g1
      walk_at "r"
      refine ite2 (fun k => ?_) (fun k => ?_)
      · walk_at "r"
        refine a_nthS (i := 1) (ex_st hT e1) (dpa_ex e1 hD) hs (by omega) fun v1 d1 => ?_
        walk_at "r"
        refine ⟨v1, _, 5, rfl, d1, fun H2 e2 => ?_⟩
        have g2 := q H2 (e1.trans e2)
        rw [e0, k] at g2
        exact g2
      · rw [nf k] at g1
        exact g1
def pFw (K : PySem.W.Frag) : Sp := fun vs H Q _ => ∃ v d, vs = [v] ∧ Ds K H v d ∧ RV1 (.str (fwD d)) H Q
theorem ok_first_word (T : Tx K mg) : FnOk P w K mg base CX0 1 T.a_first_word T.e_first_word p_first_word (pFw K) := by
  refine T.d_first_word.F.ok sc_first_word (fun vs H Q E h => ?_) (fun cdv A outer s H vs Q E hr h => ?_)
  · obtain ⟨v, d, rfl, _⟩ := h
    rfl
  obtain ⟨v, d, rfl, hd, q⟩ := h
  refine ⟨_, (pss_cons (ps_if (PW.pt (pw_or (pt_cmpR k_notTy (pe_callTy (typK K) (by rfl) T.b_type (by decide +kernel) (pa_cons (pv 0) pa_nil)) (pe_bltn (v := .ty "tuple") (by rfl) T.b_tuple (by decide +kernel) rfl) (nomark _)) (pw_or1 (pt_cmpR op_eq (pe_callB (lenK K) (by rfl) T.b_len PySem.boot_len (pa_cons (pv 0) pa_nil)) pe_int (nomark _))))) (pss_one (ps_ret pe_str)) pss_nil)
    (pss_cons (ps_set (i := 1) sc_first_word.nd rfl (.inl rfl) (pe_ix (ixT K) (pv 0) pe_int (fun _ _ => rfl)))
    (pss_cons (ps_if (pt_cmpR k_notTy (pe_callTy (typK K) (by rfl) T.b_type (by decide +kernel) (pa_cons (pv 1) pa_nil)) (pe_bltn (v := .ty "str") (by rfl) T.b_str (by decide +kernel) rfl) (nomark _)) (pss_one (ps_ret pe_str)) pss_nil)
    (pss_one (ps_ret (pv 1)))))), ?_⟩
  walk_at "r"
  refine ⟨v, _, rfl, dp_tag hd.1, ?_⟩
  walk_at "r"
  have g := q H (Ex.refl _)
  refine ite2 (fun c => ?_) (fun c => ?_)
  · rw [fw_no (.inl (fun z => by rw [z] at c; exact absurd c (by decide)))] at g
    walk_at "r"
    exact g
  · obtain ⟨p, xs, ds, rfl, rfl, hT, hD, hs, hl⟩ := ds_tup hd (Decidable.byContradiction fun z => c (by rw [decide_eq_false z]; rfl))
    walk_at "r"
    refine a_lenT hT ?_
    walk_at "r"
    refine ite2 (fun c => ?_) (fun c => ?_)
    · have c' := of_decide_eq_true c
      rw [fw_no (d := .tuple ds) (.inr (.inl (show ds.length = 0 by omega)))] at g
      walk_at "r"
      exact g
    · have c' : 0 < ds.length := by
        have := of_decide_eq_false (nf c)
        omega
      walk_at "r"
      refine a_nthS (i := 0) hT hD hs (by omega) fun v0 d0 => ?_
      walk_at "r"
      refine ⟨v0, _, rfl, dp_tag d0.1, ?_⟩
      walk_at "r"
      refine ite2 (fun c => ?_) (fun c => ?_)
      · rw [fw_no (.inr (.inr (fun z => by rw [z] at c; exact absurd c (by decide))))] at g
        walk_at "r"
        exact g
      · obtain ⟨x, rfl, ex, _⟩ := ds_str d0 (Decidable.byContradiction fun z => c (by rw [decide_eq_false z]; rfl))
        rw [fw_str c' ex] at g
        walk_at "r"
        exact g
theorem word_tup {H : Hp} {v : V} {d : PyData} (h : Ds K H v d) (n : fwD d ≠ "") : ∃ p xs ds, v = .ref p ∧ d = .tuple ds ∧ SqT K H p xs ∧ DpAll K H xs ds ∧ smAll ds = true ∧ xs.length = ds.length := by
  obtain ⟨ds, e, _⟩ := fw_ne n
  exact ds_tup h (by rw [e]; rfl)
theorem dec_len {xs : List V} {ds : List PyData} (h : xs.length = ds.length) (n : Nat) (m : Int) (e : m = (n : Int)) : decide ((xs.length : Int) = m) = decide (lenD (.tuple ds) = n) := by
  show _ = decide (ds.length = n)
  subst e
  rw [h]
  by_cases z : ds.length = n
  · rw [decide_eq_true z, decide_eq_true (by omega)]
  · rw [decide_eq_false z, decide_eq_false (by omega)]
theorem ok_is_source (T : Tx K mg) : FnOk P w K mg base CX0 3 T.a_is_source T.e_is_source p_is_source (pF1 K srcD) := by
  refine T.d_is_source.F.ok sc_is_source (fun vs H Q E h => ?_) (fun cdv A outer s H vs Q E hr h => ?_)
  · obtain ⟨v, d, rfl, _⟩ := h
    rfl
  obtain ⟨v, d, rfl, hd, q⟩ := h
  refine ⟨_, (pss_cons (ps_set (i := 1) sc_is_source.nd rfl (.inl rfl) (pe_call (ok_first_word T) (hr.mono (by omega)) (by rfl) T.d_first_word.m T.d_first_word.F.kp T.d_first_word.b .nil pass0 (pa_cons (pv 0) pa_nil)))
    (pss_cons (ps_if (pt_cmpR op_eq (pv 1) pe_str (nomark _)) (pss_one (ps_ret (pe_cmpR op_eq (pe_callB (lenK K) (by rfl) T.b_len PySem.boot_len (pa_cons (pv 0) pa_nil)) pe_int (nomark _)))) pss_nil)
    (pss_cons (ps_if (pt_cmpR op_eq (pv 1) pe_str (nomark _)) (pss_one (ps_ret (pe_and (pe_cmpR op_eq (pe_callB (lenK K) (by rfl) T.b_len PySem.boot_len (pa_cons (pv 0) pa_nil)) pe_int (nomark _)) (pe_one (pe_call (ok_is_number T) (hr.mono (by omega)) (by rfl) T.d_is_number.m T.d_is_number.F.kp T.d_is_number.b .nil pass0 (pa_cons (pe_ix (ixT K) (pv 0) pe_int (fun _ _ => rfl)) (pa_cons (pe_glob (v := .int 1000) (by rfl) T.m_MOST_NUMBER ⟨_, rfl⟩) pa_nil))))))) pss_nil)
    (pss_one (ps_ret (pe_and (pe_cmpR (inK K) (pv 1) (pe_tup (pa_cons pe_str (pa_cons pe_str pa_nil))) (by rfl)) (pe_and (pe_cmpR op_eq (pe_callB (lenK K) (by rfl) T.b_len PySem.boot_len (pa_cons (pv 0) pa_nil)) pe_int (nomark _)) (pe_one (pe_call (ok_is_place T) (hr.mono (by omega)) (by rfl) T.d_is_place.m T.d_is_place.F.kp T.d_is_place.b .nil pass0 (pa_cons (pe_ix (ixT K) (pv 0) pe_int (fun _ _ => rfl)) pa_nil)))))))))), ?_⟩
  walk_at "r"
  refine ⟨v, d, rfl, hd, fun H1 e1 => ?_⟩
  have g := q H1 e1
  unfold srcD at g
  walk_at "r"
  refine ite2 (fun c => ?_) (fun c => ?_)
  · have c' := of_decide_eq_true c
    obtain ⟨p, xs, ds, rfl, rfl, hT, hD, hs, hl⟩ := word_tup hd (by rw [c']; decide)
    rw [if_pos c'] at g
    walk_at "r"
    refine a_lenT (ex_st hT e1) ?_
    walk_at "r"
    rw [← dec_len hl 1 1 rfl] at g
    exact g
  have c' := of_decide_eq_false (nf c)
  rw [if_neg c'] at g
  walk_at "r"
  refine ite2 (fun c2 => ?_) (fun c2 => ?_)
  · have c2' := of_decide_eq_true c2
    obtain ⟨p, xs, ds, rfl, rfl, hT, hD, hs, hl⟩ := word_tup hd (by rw [c2']; decide)
    rw [if_pos c2', ← dec_len hl 2 2 rfl] at g
    walk_at "r"
    refine a_lenT (ex_st hT e1) ?_
    walk_at "r"
    refine ite2 (fun k => ?_) (fun k => ?_)
    · rw [k, Bool.true_and] at g
      have h2 : ds.length = 2 := by
        have := of_decide_eq_true k
        omega
      walk_at "r"
      refine a_nthS (i := 1) (ex_st hT e1) (dpa_ex e1 hD) hs (by omega) fun v1 d1 => ?_
      walk_at "r"
      refine ⟨v1, _, 1000, rfl, d1, fun H2 e2 => ?_⟩
      have g2 := q H2 (e1.trans e2)
      unfold srcD at g2
      rw [if_neg c', if_pos c2', ← dec_len hl 2 2 rfl, k, Bool.true_and] at g2
      exact g2
    · rw [nf k] at g
      exact g
  have c2' := of_decide_eq_false (nf c2)
  rw [if_neg c2'] at g
  walk_at "r"
  refine new_tup (by simp) fun t H2 n2 e2 f2 => ?_
  walk_at "r"
  refine a_inT (SqT.of f2) rfl rfl ?_
  have g2 := q H2 (e1.trans e2)
  unfold srcD at g2
  rw [if_neg c', if_neg c2'] at g2
  walk_at "r"
  refine ite2 (fun k => ?_) (fun k => ?_)
  · have n0 : fwD d ≠ "" := fun z => by
      rw [z] at k
      exact absurd k (by decide)
    obtain ⟨p, xs, ds, rfl, rfl, hT, hD, hs, hl⟩ := word_tup hd n0
    rw [k, Bool.true_and, ← dec_len hl 2 2 rfl] at g2
    walk_at "r"
    refine a_lenT (ex_st hT (e1.trans e2)) ?_
    walk_at "r"
    refine ite2 (fun k2 => ?_) (fun k2 => ?_)
    · have h2 : ds.length = 2 := by
        have := of_decide_eq_true k2
        omega
      walk_at "r"
      refine a_nthS (i := 1) (ex_st hT (e1.trans e2)) (dpa_ex (e1.trans e2) hD) hs (by omega) fun v1 d1 => ?_
      walk_at "r"
      refine ⟨v1, _, rfl, d1, fun H3 e3 => ?_⟩
      have g3 := q H3 ((e1.trans e2).trans e3)
      unfold srcD at g3
      rw [if_neg c', if_neg c2', k, Bool.true_and, ← dec_len hl 2 2 rfl, k2, Bool.true_and] at g3
      exact g3
    · rw [nf k2] at g2
      exact g2
  · rw [nf k] at g2
    exact g2
theorem ok_is_source_list (T : Tx K mg) : FnOk P w K mg base CX0 4 T.a_is_source_list T.e_is_source_list p_is_source_list (pF1 K srcsD) := by
  refine T.d_is_source_list.F.ok sc_is_source_list (fun vs H Q E h => ?_) (fun cdv A outer s H vs Q E hr h => ?_)
  · obtain ⟨v, d, rfl, _⟩ := h
    rfl
  obtain ⟨v, d, rfl, hd, q⟩ := h
  refine ⟨_, (pss_one (ps_ret (pe_and (pe_cmpR k_isTy (pe_callTy (typK K) (by rfl) T.b_type (by decide +kernel) (pa_cons (pv 0) pa_nil)) (pe_bltn (v := .ty "list") (by rfl) T.b_list (by decide +kernel) rfl) (nomark _)) (pe_one (pe_callB (allK K) (by rfl) T.b_all (by decide +kernel) (pa_cons (pe_lc (own := [("part", 1)]) (g := gName 1) rfl sc_is_source_list.nd  (plK K (pv 0)) (blkOk_by (own := [("part", 1)]) (N := n_is_source_list) (sc := defScope s_is_source_list) (by decide +kernel)) (fun _ _ _ _ _ => (pg_name (i := 1) sc_is_source_list.nd rfl (Or.inl rfl))) (fun _ _ _ _ _ => pts_nil) (fun _ _ _ _ _ => (pe_call (ok_is_source T) (hr.mono (by omega)) (by rfl) T.d_is_source.m T.d_is_source.F.kp T.d_is_source.b .nil pass0 (pa_cons (pv 1) pa_nil)))) pa_nil)))))), ?_⟩
  walk_at "r"
  refine ⟨v, _, rfl, dp_tag hd.1, ?_⟩
  walk_at "r"
  have g := q H (Ex.refl _)
  refine ite2 (fun c => ?_) (fun c => ?_)
  · obtain ⟨p, xs, ds, rfl, rfl, hL, hD, hs, hz, hl⟩ := ds_lst hd (of_decide_eq_true c)
    walk_at "r"
    refine c_L hL ?_
    refine cp_list (xs := xs) (fun l k h => Ex H h ∧ h l = some (.lst (((ds.take k).map srcD).map V.bl))) (fun l n => ⟨Ex.new n, upd_same⟩) (fun l k h _ _ g => ex_sl hL g.1) ?_ ?_
    · rintro l k x h nl hx ⟨e, f⟩
      obtain ⟨d, hd', dx⟩ := ds_at hD hs hx
      have hk := at_lt hx
      walk_at "r"
      refine ⟨rfl, ?_⟩
      walk_at "r"
      refine ⟨x, d, rfl, ds_ex dx e, fun H1 e1 => ?_⟩
      refine ⟨_, e1 _ _ f, sz_lt (by rw [bools_len]; omega), (e.trans e1).mut nl, ?_⟩
      rw [upd_same, bools_snoc srcD hd']
    · rintro l h nl ⟨e, f⟩
      walk_at "r"
      rw [hl, List.take_length] at f
      refine ⟨l, _, rfl, SqL.of f, ?_⟩
      rw [bools_all]
      exact q _ e
  · rw [srcsD_tag (not_tag c)] at g
    exact g
theorem ok_is_declared (T : Tx K mg) : FnOk P w K mg base CX0 4 T.a_is_declared T.e_is_declared p_is_declared (pF1 K declD) := by
  refine T.d_is_declared.F.ok sc_is_declared (fun vs H Q E h => ?_) (fun cdv A outer s H vs Q E hr h => ?_)
  · obtain ⟨v, d, rfl, _⟩ := h
    rfl
  obtain ⟨v, d, rfl, hd, q⟩ := h
  refine ⟨_, (pss_cons (ps_if (PW.pt (pw_or (pt_cmpR k_notTy (pe_callTy (typK K) (by rfl) T.b_type (by decide +kernel) (pa_cons (pv 0) pa_nil)) (pe_bltn (v := .ty "tuple") (by rfl) T.b_tuple (by decide +kernel) rfl) (nomark _)) (pw_or1 (pt_cmpR op_ne (pe_callB (lenK K) (by rfl) T.b_len PySem.boot_len (pa_cons (pv 0) pa_nil)) pe_int (nomark _))))) (pss_one (ps_ret pe_bl)) pss_nil)
    (pss_one (ps_ret (pe_and (pe_call (ok_is_name T) (hr.mono (by omega)) (by rfl) T.d_is_name.m T.d_is_name.F.kp T.d_is_name.b .nil pass0 (pa_cons (pe_ix (ixT K) (pv 0) pe_int (fun _ _ => rfl)) pa_nil)) (pe_one (pe_or (pe_call (ok_is_type T) (hr.mono (by omega)) (by rfl) T.d_is_type.m T.d_is_type.F.kp T.d_is_type.b .nil pass0 (pa_cons (pe_ix (ixT K) (pv 0) pe_int (fun _ _ => rfl)) pa_nil)) (pe_one (pe_call (ok_is_depth T) (hr.mono (by omega)) (by rfl) T.d_is_depth.m T.d_is_depth.F.kp T.d_is_depth.b .nil pass0 (pa_cons (pe_ix (ixT K) (pv 0) pe_int (fun _ _ => rfl)) pa_nil))))))))), ?_⟩
  walk_at "r"
  refine ⟨v, _, rfl, dp_tag hd.1, ?_⟩
  walk_at "r"
  have g := q H (Ex.refl _)
  refine ite2 (fun c => ?_) (fun c => ?_)
  · rw [declD_tag (fun z => by rw [z] at c; exact absurd c (by decide))] at g
    walk_at "r"
    exact g
  · obtain ⟨p, xs, ds, rfl, rfl, hT, hD, hs, hl⟩ := ds_tup hd (Decidable.byContradiction fun z => c (by rw [decide_eq_false z]; rfl))
    have e0 : declD (.tuple ds) = (decide (ds.length = 2) && (nameD (nthD (.tuple ds) 0) && (typD (nthD (.tuple ds) 1) || numD (nthD (.tuple ds) 1) 5))) := rfl
    walk_at "r"
    refine a_lenT hT ?_
    walk_at "r"
    refine ite2 (fun c => ?_) (fun c => ?_)
    · have c' : ¬ ds.length = 2 := fun z => by
        rw [hl, decide_eq_true (show (ds.length : Int) = 2 by omega)] at c
        cases c
      rw [e0, decide_eq_false c'] at g
      walk_at "r"
      exact g
    · have c' : ds.length = 2 := Decidable.byContradiction fun z => c (by
        rw [hl, decide_eq_false (show ¬ (ds.length : Int) = 2 by omega)]
        rfl)
      rw [decide_eq_true c', Bool.true_and] at e0
      walk_at "r"
      refine a_nthS (i := 0) hT hD hs (by omega) fun v0 d0 => ?_
      walk_at "r"
      refine ⟨v0, _, rfl, d0, fun H1 e1 => ?_⟩
      have g1 := q H1 e1
      rw [e0] at g1
      walk_at "r"
      refine ite2 (fun k => ?_) (fun k => ?_)
      · walk_at "r"
        refine a_nthS (i := 1) (ex_st hT e1) (dpa_ex e1 hD) hs (by omega) fun v1 d1 => ?_
        walk_at "r"
        refine ⟨v1, _, rfl, d1, fun H2 e2 => ?_⟩
        have g2 := q H2 (e1.trans e2)
        rw [e0, k] at g2
        walk_at "r"
        refine ite2 (fun k2 => ?_) (fun k2 => ?_)
        · rw [k2] at g2
          exact g2
        · rw [nf k2] at g2
          walk_at "r"
          refine a_nthS (i := 1) (ex_st hT (e1.trans e2)) (dpa_ex (e1.trans e2) hD) hs (by omega) fun v2 d2 => ?_
          walk_at "r"
          refine ⟨v2, _, rfl, d2, fun H3 e3 => ?_⟩
          have g3 := q H3 ((e1.trans e2).trans e3)
          rw [e0, k, nf k2] at g3
          exact g3
      · rw [nf k] at g1
        exact g1
theorem ok_is_statement (T : Tx K mg) : FnOk P w K mg base CX0 5 T.a_is_statement T.e_is_statement p_is_statement (pF1 K stmtD) := by
  refine T.d_is_statement.F.ok sc_is_statement (fun vs H Q E h => ?_) (fun cdv A outer s H vs Q E hr h => ?_)
  · obtain ⟨v, d, rfl, _⟩ := h
    rfl
  obtain ⟨v, d, rfl, hd, q⟩ := h
  refine ⟨_, (pss_cons (ps_set (i := 1) sc_is_statement.nd rfl (.inl rfl) (pe_call (ok_first_word T) (hr.mono (by omega)) (by rfl) T.d_first_word.m T.d_first_word.F.kp T.d_first_word.b .nil pass0 (pa_cons (pv 0) pa_nil)))
    (pss_cons (ps_if (pt_cmpR op_eq (pv 1) pe_str (nomark _)) (pss_one (ps_ret (pe_and (pe_cmpR op_eq (pe_callB (lenK K) (by rfl) T.b_len PySem.boot_len (pa_cons (pv 0) pa_nil)) pe_int (nomark _)) (pe_and (pe_call (ok_is_declared T) (hr.mono (by omega)) (by rfl) T.d_is_declared.m T.d_is_declared.F.kp T.d_is_declared.b .nil pass0 (pa_cons (pe_slice (slA K) (pv 0) (po_some pe_int) (po_some pe_int)) pa_nil)) (pe_one (pe_call (ok_is_source T) (hr.mono (by omega)) (by rfl) T.d_is_source.m T.d_is_source.F.kp T.d_is_source.b .nil pass0 (pa_cons (pe_ix (ixT K) (pv 0) pe_int (fun _ _ => rfl)) pa_nil))))))) pss_nil)
    (pss_cons (ps_if (pt_cmpR op_eq (pv 1) pe_str (nomark _)) (pss_one (ps_ret (pe_and (pe_cmpR op_eq (pe_callB (lenK K) (by rfl) T.b_len PySem.boot_len (pa_cons (pv 0) pa_nil)) pe_int (nomark _)) (pe_and (pe_call (ok_is_place T) (hr.mono (by omega)) (by rfl) T.d_is_place.m T.d_is_place.F.kp T.d_is_place.b .nil pass0 (pa_cons (pe_ix (ixT K) (pv 0) pe_int (fun _ _ => rfl)) pa_nil)) (pe_one (pe_call (ok_is_source T) (hr.mono (by omega)) (by rfl) T.d_is_source.m T.d_is_source.F.kp T.d_is_source.b .nil pass0 (pa_cons (pe_ix (ixT K) (pv 0) pe_int (fun _ _ => rfl)) pa_nil))))))) pss_nil)
    (pss_one (ps_ret (pe_and (pe_cmpR op_eq (pv 1) pe_str (nomark _)) (pe_and (pe_cmpR op_eq (pe_callB (lenK K) (by rfl) T.b_len PySem.boot_len (pa_cons (pv 0) pa_nil)) pe_int (nomark _)) (pe_and (pe_call (ok_is_name T) (hr.mono (by omega)) (by rfl) T.d_is_name.m T.d_is_name.F.kp T.d_is_name.b .nil pass0 (pa_cons (pe_ix (ixT K) (pv 0) pe_int (fun _ _ => rfl)) pa_nil)) (pe_one (pe_call (ok_is_source_list T) (hr.mono (by omega)) (by rfl) T.d_is_source_list.m T.d_is_source_list.F.kp T.d_is_source_list.b .nil pass0 (pa_cons (pe_ix (ixT K) (pv 0) pe_int (fun _ _ => rfl)) pa_nil))))))))))), ?_⟩
  walk_at "r"
  refine ⟨v, d, rfl, hd, fun H1 e1 => ?_⟩
  walk_at "r"
  have g := q H1 e1
  unfold stmtD at g
  refine ite2 (fun c => ?_) (fun c => ?_)
  · have c' := of_decide_eq_true c
    have es : stmtD d = (decide (lenD d = 4) && (declD (cut13 d) && srcD (nthD d 3))) := by
      unfold stmtD
      rw [if_pos c']
    rw [if_pos c'] at g
    obtain ⟨p, xs, ds, rfl, rfl, hT, hD, hs, hl⟩ := word_tup hd (by rw [c']; decide)
    walk_at "r"
    refine a_lenT (ex_st hT e1) ?_
    walk_at "r"
    rw [← dec_len hl 4 4 rfl] at g
    refine ite2 (fun k => ?_) (fun k => ?_)
    · rw [← dec_len hl 4 4 rfl, k, Bool.true_and] at es
      have h4 : ds.length = 4 := by
        have := of_decide_eq_true k
        omega
      walk_at "r"
      refine a_sl13 (ex_st hT e1) (by omega) fun t H2 _ e2 f2 => ?_
      walk_at "r"
      refine ⟨.ref t, cut13 (.tuple ds), rfl, ⟨.tup (SqT.of f2) (dpa_ex (e1.trans e2) (dpa_take 2 (dpa_drop 1 hD))), sm_tup (sm_take 2 (sm_drop 1 hs)) (by rw [List.length_take]; omega)⟩, fun H3 e3 => ?_⟩
      have e13 := (e1.trans e2).trans e3
      have g3 := q H3 e13
      rw [es] at g3
      walk_at "r"
      refine ite2 (fun k2 => ?_) (fun k2 => ?_)
      · walk_at "r"
        refine a_nthS (i := 3) (ex_st hT e13) (dpa_ex e13 hD) hs (by omega) fun v1 d1 => ?_
        walk_at "r"
        refine ⟨v1, _, rfl, d1, fun H4 e4 => ?_⟩
        have g4 := q H4 (e13.trans e4)
        rw [es, k2, Bool.true_and] at g4
        exact g4
      · rw [nf k2] at g3
        exact g3
    · rw [nf k] at g
      exact g
  have c' := of_decide_eq_false (nf c)
  rw [if_neg c'] at g
  walk_at "r"
  refine ite2 (fun c2 => ?_) (fun c2 => ?_)
  · have c2' := of_decide_eq_true c2
    have es : stmtD d = (decide (lenD d = 3) && (placeD (nthD d 1) && srcD (nthD d 2))) := by
      unfold stmtD
      rw [if_neg c', if_pos c2']
    rw [if_pos c2'] at g
    obtain ⟨p, xs, ds, rfl, rfl, hT, hD, hs, hl⟩ := word_tup hd (by rw [c2']; decide)
    walk_at "r"
    refine a_lenT (ex_st hT e1) ?_
    walk_at "r"
    rw [← dec_len hl 3 3 rfl] at g
    refine ite2 (fun k => ?_) (fun k => ?_)
    · rw [← dec_len hl 3 3 rfl, k, Bool.true_and] at es
      have h3 : ds.length = 3 := by
        have := of_decide_eq_true k
        omega
      walk_at "r"
      refine a_nthS (i := 1) (ex_st hT e1) (dpa_ex e1 hD) hs (by omega) fun v1 d1 => ?_
      walk_at "r"
      refine ⟨v1, _, rfl, d1, fun H2 e2 => ?_⟩
      have e12 := e1.trans e2
      have g2 := q H2 e12
      rw [es] at g2
      walk_at "r"
      refine ite2 (fun k2 => ?_) (fun k2 => ?_)
      · walk_at "r"
        refine a_nthS (i := 2) (ex_st hT e12) (dpa_ex e12 hD) hs (by omega) fun v2 d2 => ?_
        walk_at "r"
        refine ⟨v2, _, rfl, d2, fun H4 e4 => ?_⟩
        have g4 := q H4 (e12.trans e4)
        rw [es, k2, Bool.true_and] at g4
        exact g4
      · rw [nf k2] at g2
        exact g2
    · rw [nf k] at g
      exact g
  have c2' := of_decide_eq_false (nf c2)
  have es : stmtD d = (decide (fwD d = "call") && (decide (lenD d = 3) && (nameD (nthD d 1) && srcsD (nthD d 2)))) := by
    unfold stmtD
    rw [if_neg c', if_neg c2']
  rw [if_neg c2'] at g
  walk_at "r"
  refine ite2 (fun c3 => ?_) (fun c3 => ?_)
  · have c3' := of_decide_eq_true c3
    obtain ⟨p, xs, ds, rfl, rfl, hT, hD, hs, hl⟩ := word_tup hd (by rw [c3']; decide)
    rw [c3, Bool.true_and, ← dec_len hl 3 3 rfl] at es g
    walk_at "r"
    refine a_lenT (ex_st hT e1) ?_
    walk_at "r"
    refine ite2 (fun k => ?_) (fun k => ?_)
    · rw [k, Bool.true_and] at es
      have h3 : ds.length = 3 := by
        have := of_decide_eq_true k
        omega
      walk_at "r"
      refine a_nthS (i := 1) (ex_st hT e1) (dpa_ex e1 hD) hs (by omega) fun v1 d1 => ?_
      walk_at "r"
      refine ⟨v1, _, rfl, d1, fun H2 e2 => ?_⟩
      have e12 := e1.trans e2
      have g2 := q H2 e12
      rw [es] at g2
      walk_at "r"
      refine ite2 (fun k2 => ?_) (fun k2 => ?_)
      · walk_at "r"
        refine a_nthS (i := 2) (ex_st hT e12) (dpa_ex e12 hD) hs (by omega) fun v2 d2 => ?_
        walk_at "r"
        refine ⟨v2, _, rfl, d2, fun H4 e4 => ?_⟩
        have g4 := q H4 (e12.trans e4)
        rw [es, k2, Bool.true_and] at g4
        exact g4
      · rw [nf k2] at g2
        exact g2
    · rw [nf k] at g
      exact g
  · rw [nf c3] at g
    exact g

end
section
variable {P : Program} {w : World} {K : PySem.W.Frag} {mg : Str → Option Value} {base : Heap}
/-! ### the program: copies -/
theorem ok_copied (T : Tx K mg) : FnOk P w K mg base CX0 1 T.a_copied T.e_copied p_copied (pCop K) := by
  refine T.d_copied.F.ok sc_copied (fun vs H Q E h => ?_) (fun cdv A outer s H vs Q E hr h => ?_)
  · obtain ⟨S, v, d, rfl, _⟩ := h
    rfl
  obtain ⟨S, v, d, rfl, al, hd, q1, q2⟩ := h
  refine ⟨_, (pss_cons (ps_if (pt_cmpR k_isTy (pe_callTy (typK K) (by rfl) T.b_type (by decide +kernel) (pa_cons (pv 0) pa_nil)) (pe_bltn (v := .ty "list") (by rfl) T.b_list (by decide +kernel) rfl) (nomark _)) (pss_one (ps_ret (pe_callTy (lstK K) (by rfl) T.b_list (by decide +kernel) (pa_cons (pv 0) pa_nil)))) pss_nil)
    (pss_one (ps_ret (pv 0)))), ?_⟩
  walk_at "r"
  refine ⟨v, _, rfl, dp_tag (dp_ex (dl_le S H) hd.1), ?_⟩
  walk_at "r"
  refine ite2 (fun c => ?_) (fun c => ?_)
  · obtain ⟨p, xs, ds, rfl, rfl, hL, hD, hs, hz, hl⟩ := ds_lst hd (of_decide_eq_true c)
    walk_at "r"
    refine a_lstL (sl_dl hL) fun q H1 n1 e1 f1 => ?_
    exact q2 ds rfl q xs H1 n1 e1 f1 (dpa_ex (dl_ex e1) hD)
  · walk_at "r"
    exact q1 (not_tag c)
theorem ok_copied_statement (T : Tx K mg) : FnOk P w K mg base CX0 2 T.a_copied_statement T.e_copied_statement p_copied_statement (pCs K) := by
  refine T.d_copied_statement.F.ok sc_copied_statement (fun vs H Q E h => ?_) (fun cdv A outer s H vs Q E hr h => ?_)
  · obtain ⟨S, v, d, rfl, _⟩ := h
    rfl
  obtain ⟨S, v, d, rfl, al, hd, q⟩ := h
  refine ⟨_, (pss_cons (ps_if (pt_cmpR k_notTy (pe_callTy (typK K) (by rfl) T.b_type (by decide +kernel) (pa_cons (pv 0) pa_nil)) (pe_bltn (v := .ty "tuple") (by rfl) T.b_tuple (by decide +kernel) rfl) (nomark _)) (pss_one (ps_ret (pv 0))) pss_nil)
    (pss_one (ps_ret (pe_callTy (tupFK K) (by rfl) T.b_tuple (by decide +kernel) (pa_cons (pe_lc (own := [("part", 1)]) (g := gName 1) rfl sc_copied_statement.nd  (ptK K (pv 0)) (blkOk_by (own := [("part", 1)]) (N := n_copied_statement) (sc := defScope s_copied_statement) (by decide +kernel)) (fun _ _ _ _ _ => (pg_name (i := 1) sc_copied_statement.nd rfl (Or.inl rfl))) (fun _ _ _ _ _ => pts_nil) (fun _ _ _ _ _ => (pe_call (ok_copied T) (hr.mono (by omega)) (by rfl) T.d_copied.m T.d_copied.F.kp T.d_copied.b .nil pass0 (pa_cons (pv 1) pa_nil)))) pa_nil))))), ?_⟩
  walk_at "r"
  refine ⟨v, _, rfl, dp_tag (dp_ex (dl_le S H) hd.1), ?_⟩
  walk_at "r"
  refine ite2 (fun c => ?_) (fun c => ?_)
  · walk_at "r"
    exact q v H (Ex.refl _) hd.1
  · obtain ⟨p, xs, ds, rfl, rfl, hT, hD, hs, hz, hl⟩ := ds_tupz hd (Decidable.byContradiction fun z => c (by rw [decide_eq_false z]; rfl))
    walk_at "r"
    refine c_T (st_dl hT) ?_
    refine cp_tup (xs := xs) (fun l k h => Ex H h ∧ Al (l :: S) h ∧ ∃ ys, h l = some (.lst ys) ∧ DpAll K (dl (l :: S) h) ys (ds.take k))
      (fun l n => ⟨Ex.new n, (al.ex (Ex.new n)).cons upd_same, [], upd_same, .nil⟩) (fun l k h _ _ g => ex_st (st_dl hT) g.1) ?_ ?_
    · rintro l k x h nl hx ⟨e, al2, ys, f, fD⟩
      obtain ⟨d, hd', dx⟩ := ds_at hD hs hx
      have hk := at_lt hx
      have yl := dpa_len fD
      rw [take_len hd'] at yl
      walk_at "r"
      refine ⟨rfl, ?_⟩
      walk_at "r"
      have dx2 : Ds K (dl (l :: S) h) x d := ds_ex dx (dl_new nl e)
      refine ⟨l :: S, x, d, rfl, al2, dx2, fun _ => ?_, fun es ed q ys2 H1 n1 e1 f1 f2 => ?_⟩
      · refine ⟨ys, f, sz_lt (by omega), e.mut nl, ?_, ys ++ [x], upd_same, ?_⟩
        · exact Al.cons (fun a k => by
            by_cases z : a = l
            · rw [z, upd_same]; exact fun z => by cases z
            · rw [upd_ne z]; exact al2 a (List.mem_cons_of_mem _ k)) upd_same
        · rw [dl_upd (List.mem_cons_self ..), take_snoc hd']
          exact dpa_snoc fD dx2.1
      · refine ⟨ys, e1 _ _ f, sz_lt (by omega), (e.trans e1).mut nl, ?_, ys ++ [.ref q], upd_same, ?_⟩
        · exact Al.cons (fun a k => by
            by_cases z : a = l
            · rw [z, upd_same]; exact fun z => by cases z
            · rw [upd_ne z]; exact (al2.ex e1) a (List.mem_cons_of_mem _ k)) upd_same
        · rw [dl_upd (List.mem_cons_self ..), take_snoc hd']
          refine dpa_snoc (dpa_ex (dl_ex e1) fD) ?_
          rw [ed]
          exact .lst (SqL.of (dl_at (al2.nin n1) f1)) f2
    · rintro l h nl ⟨e, al2, ys, f, fD⟩
      rw [hl, List.take_length] at fD
      walk_at "r"
      refine a_tupFL (SqL.of f) fun t H1 n1 e1 f1 => ?_
      refine q _ H1 (e.trans e1) (.tup (Tu.st (tu_dl (fun k => al2.nin n1 (List.mem_cons_of_mem _ k)) f1)) (dpa_ex ((dl_sub (fun a k => List.mem_cons_of_mem _ k)).trans (dl_ex e1)) fD))
theorem ok_copied_statements (T : Tx K mg) : FnOk P w K mg base CX0 3 T.a_copied_statements T.e_copied_statements p_copied_statements (pCss K) := by
  refine T.d_copied_statements.F.ok sc_copied_statements (fun vs H Q E h => ?_) (fun cdv A outer s H vs Q E hr h => ?_)
  · obtain ⟨S, p, ds, rfl, _⟩ := h
    rfl
  obtain ⟨S, p, ds, rfl, al, ⟨⟨xs, hL, hD⟩, hs, hz⟩, q⟩ := h
  have hl := dpa_len hD
  refine ⟨_, (pss_cons (ps_if (pt_cmpR k_notTy (pe_callTy (typK K) (by rfl) T.b_type (by decide +kernel) (pa_cons (pv 0) pa_nil)) (pe_bltn (v := .ty "list") (by rfl) T.b_list (by decide +kernel) rfl) (nomark _)) (pss_one (ps_ret (pv 0))) pss_nil)
    (pss_one (ps_ret (pe_lc (own := [("statement", 1)]) (g := gName 1) rfl sc_copied_statements.nd  (plK K (pv 0)) (blkOk_by (own := [("statement", 1)]) (N := n_copied_statements) (sc := defScope s_copied_statements) (by decide +kernel)) (fun _ _ _ _ _ => (pg_name (i := 1) sc_copied_statements.nd rfl (Or.inl rfl))) (fun _ _ _ _ _ => pts_nil) (fun _ _ _ _ _ => (pe_call (ok_copied_statement T) (hr.mono (by omega)) (by rfl) T.d_copied_statement.m T.d_copied_statement.F.kp T.d_copied_statement.b .nil pass0 (pa_cons (pv 1) pa_nil))))))), ?_⟩
  walk_at "r"
  refine ⟨.ref p, _, rfl, .lst (sl_dl hL), ?_⟩
  walk_at "r"
  refine ite2 (fun c => absurd c (by decide)) (fun _ => ?_)
  walk_at "r"
  refine c_L (sl_dl hL) ?_
  refine cp_list (xs := xs) (fun l k h => Ex H h ∧ Al (l :: S) h ∧ ∃ ys, h l = some (.lst ys) ∧ DpAll K (dl (l :: S) h) ys (ds.take k))
    (fun l n => ⟨Ex.new n, (al.ex (Ex.new n)).cons upd_same, [], upd_same, .nil⟩) (fun l k h _ _ g => ex_sl (sl_dl hL) g.1) ?_ ?_
  · rintro l k x h nl hx ⟨e, al2, ys, f, fD⟩
    obtain ⟨d, hd', dx⟩ := ds_at hD hs hx
    have hk := at_lt hx
    have yl := dpa_len fD
    rw [take_len hd'] at yl
    walk_at "r"
    refine ⟨rfl, ?_⟩
    walk_at "r"
    refine ⟨l :: S, x, d, rfl, al2, ds_ex dx (dl_new nl e), fun v' H1 e1 f1 => ?_⟩
    refine ⟨ys, e1 _ _ f, sz_lt (by omega), (e.trans e1).mut nl, ?_, ys ++ [v'], upd_same, ?_⟩
    · exact Al.cons (fun a k => by
        by_cases z : a = l
        · rw [z, upd_same]; exact fun z => by cases z
        · rw [upd_ne z]; exact (al2.ex e1) a (List.mem_cons_of_mem _ k)) upd_same
    · rw [dl_upd (List.mem_cons_self ..), take_snoc hd']
      exact dpa_snoc (dpa_ex (dl_ex e1) fD) f1
  · rintro l h nl ⟨e, al2, ys, f, fD⟩
    rw [hl, List.take_length] at fD
    walk_at "r"
    exact q l ys h nl e f (dpa_ex (dl_sub (fun a k => List.mem_cons_of_mem _ k)) fD)
/-! ### the program: functions -/
theorem dl_lst {G : Hp} {p : Addr} {ds : List PyData} (h : Dl K G p ds) : Ds K G (.ref p) (.list ds) := by
  obtain ⟨xs, h1, h2⟩ := h.ex
  exact ⟨.lst h1 h2, sm_lst h.sm h.le⟩
theorem ok_Function_init (T : Tx K mg) : FnOk P w K mg base CX0 4 T.a_Function_init T.e_Function_init p_Function_init (pFi K T.C_Function) := by
  refine T.d_Function_init.F.ok sc_Function_init (fun vs H Q E h => ?_) (fun cdv A outer s H vs Q E hr h => ?_)
  · obtain ⟨S, a, dx, nv, pp, bp, f, rfl, _⟩ := h
    rfl
  obtain ⟨S, a, dx, nv, pp, bp, f, rfl, al, ha, fa, hn, hp, hb, q⟩ := h
  refine ⟨_, (pss_cons (ps_fld (pv 0) (pv 1) rfl)
    (pss_cons (ps_fld (pv 0) (pe_call (ok_copied T) (hr.mono (by omega)) (by rfl) T.d_copied.m T.d_copied.F.kp T.d_copied.b .nil pass0 (pa_cons (pv 2) pa_nil)) rfl)
    (pss_one (ps_fld (pv 0) (pe_call (ok_copied_statements T) (hr.mono (by omega)) (by rfl) T.d_copied_statements.m T.d_copied_statements.F.kp T.d_copied_statements.b .nil pass0 (pa_cons (pv 3) pa_nil)) rfl)))), ?_⟩
  walk_at "r"
  refine a_put T.c_Function T.n_Function_name fa (by decide) ?_
  have g1 : dl S (upd H a (.ins T.C_Function dx (putF "name" nv []))) = dl S H := dl_upd ha
  have al1 : Al S (upd H a (.ins T.C_Function dx (putF "name" nv []))) := al.upd
  have k1 : Ks [a] H (upd H a (.ins T.C_Function dx (putF "name" nv []))) := (Ks.refl _ _).upd (by simp)
  have f1 : (upd H a (.ins T.C_Function dx (putF "name" nv []))) a = some (.ins T.C_Function dx (putF "name" nv [])) := upd_same
  generalize upd H a (.ins T.C_Function dx (putF "name" nv [])) = H1 at g1 al1 k1 f1 ⊢
  rw [← g1] at hn hp hb
  walk_at "r"
  refine ⟨S, _, _, rfl, al1, dl_lst hp, fun z => absurd rfl z, fun ds ed q1 ys1 H2 n2 e2 f2 D2 => ?_⟩
  cases ed
  have na1 : q1 ≠ a := fun z => by rw [z, f1] at n2; cases n2
  walk_at "r"
  refine a_put T.c_Function T.n_Function_params (e2 _ _ f1) (put1_lt _ _) ?_
  have g3 : dl S (upd H2 a (.ins T.C_Function dx (putF "params" (.ref q1) (putF "name" nv [])))) = dl S H2 := dl_upd ha
  have al3 : Al S (upd H2 a (.ins T.C_Function dx (putF "params" (.ref q1) (putF "name" nv [])))) := (al1.ex e2).upd
  have k3 : Ks [a] H (upd H2 a (.ins T.C_Function dx (putF "params" (.ref q1) (putF "name" nv [])))) := (k1.trans (Ks.of e2)).upd (by simp)
  have f3 : (upd H2 a (.ins T.C_Function dx (putF "params" (.ref q1) (putF "name" nv [])))) a = some (.ins T.C_Function dx (putF "params" (.ref q1) (putF "name" nv []))) := upd_same
  have f3q : (upd H2 a (.ins T.C_Function dx (putF "params" (.ref q1) (putF "name" nv [])))) q1 = some (.lst ys1) := by rw [upd_ne na1]; exact f2
  generalize upd H2 a (.ins T.C_Function dx (putF "params" (.ref q1) (putF "name" nv []))) = H3 at g3 al3 k3 f3 f3q ⊢
  have e13 : Ex (dl S H1) (dl S H3) := by rw [g3]; exact dl_ex e2
  walk_at "r"
  refine ⟨S, _, _, rfl, al3, hb.up e13, fun q2 ys2 H4 n4 e4 f4 D4 => ?_⟩
  have na2 : q2 ≠ a := fun z => by rw [z, f3] at n4; cases n4
  have nq : q1 ≠ q2 := fun z => by rw [← z, f3q] at n4; cases n4
  walk_at "r"
  refine a_put T.c_Function T.n_Function_body (e4 _ _ f3) (put2_lt _ _ _ _) ?_
  walk_at "r"
  have e35 : Ex (dl S H2) (dl S (upd H4 a (.ins T.C_Function dx (fnF nv q1 q2)))) := by
    rw [dl_upd ha, ← g3]
    exact dl_ex e4
  refine q q1 q2 ys1 ys2 (upd H4 a (.ins T.C_Function dx (fnF nv q1 q2))) ((k3.trans (Ks.of e4)).upd (by simp)) (ks_none k1 n2 (by simpa using na1)) (ks_none k3 n4 (by simpa using na2)) nq upd_same (by rw [upd_ne na1]; exact e4 _ _ f3q) (by rw [upd_ne na2]; exact f4) (dpa_ex e35 D2) ?_
  rw [dl_upd ha]
  exact D4
theorem kit_self {C : Value} : PySem.W.kitOne K C C = some true := if_pos (beq_self_eq_true C)
theorem ok_copied_function (T : Tx K mg) : FnOk P w K mg base CX0 6 T.a_copied_function T.e_copied_function p_copied_function (pCf K T.C_Function) := by
  refine T.d_copied_function.F.ok sc_copied_function (fun vs H Q E h => ?_) (fun cdv A outer s H vs Q E hr h => ?_)
  · obtain ⟨S, a, f, rfl, _⟩ := h
    rfl
  obtain ⟨S, a, f, rfl, al, hf, q⟩ := h
  obtain ⟨dx, nv, p1, p2, fa, hn, hp, hb⟩ := hf.ex
  have fa' := dl_le S H _ _ fa
  have I := T.i_Function
  refine ⟨_, (pss_cons (ps_if (pt_not (pt_val (pe_callB (isiK K) (by rfl) T.b_isinstance (by decide +kernel) (pa_cons (pv 0) (pa_cons (pe_glob (v := .ref T.C_Function) (by rfl) T.g_Function rfl) pa_nil))))) (pss_one (ps_ret (pv 0))) pss_nil)
    (pss_one (ps_ret (pe_make T.k_Function (ok_Function_init T) (hr.mono (by omega)) (by rfl) T.g_Function T.d_Function_init.b .nil pass0 (pa_cons (by exact (fldK K (pv 0) rfl)) (pa_cons (by exact (fldK K (pv 0) rfl)) (pa_cons (by exact (fldK K (pv 0) rfl)) pa_nil))))))), ?_⟩
  walk_at "r"
  refine ⟨.ref a, .ref T.C_Function, .ref T.C_Function, .ref T.C_Function, true, rfl, .own _, .base (.ins fa' T.c_Function I.ha I.hn I.ht I.hm), kit_self, ?_⟩
  walk_at "r"
  refine a_get T.c_Function T.n_Function_name fa' (fn_name _ _ _) ?_
  walk_at "r"
  refine a_get T.c_Function T.n_Function_params fa' (fn_params _ _ _) ?_
  walk_at "r"
  refine a_get T.c_Function T.n_Function_body fa' (fn_body _ _ _) ?_
  walk_at "r"
  refine a_new fun x xd H1 n1 n2 n3 e1 f1 f2 => ?_
  have nx := al.nin n1
  have nd := al.nin n2
  have E1 : Ex (dl S H) (dl (x :: xd :: S) H1) := fun b o z => by
    by_cases h : b ∈ S
    · rw [dl_in h] at z
      cases z
    · rw [dl_nin h] at z
      rw [dl_nin (by
        intro k
        rcases List.mem_cons.mp k with k | k
        · rw [k, n1] at z; cases z
        rcases List.mem_cons.mp k with k | k
        · rw [k, n2] at z; cases z
        · exact h k)]
      exact e1 b o z
  refine ⟨x :: xd :: S, x, xd, nv, p1, p2, f, rfl, ((al.ex e1).cons f2).cons f1, List.mem_cons_self .., f1, ds_ex hn E1, hp.dl.up E1, hb.dl.up E1, fun q1 q2 ys1 ys2 H2 k2 m1 m2 nq g0 g1 g2 D1 D2 => ?_⟩
  have E2 : Ex (dl (x :: xd :: S) H2) (dl S H2) := dl_sub fun b k => List.mem_cons_of_mem _ (List.mem_cons_of_mem _ k)
  have E3 : Ex (dl (x :: xd :: S) H1) (dl (x :: xd :: S) H2) := dl_ks fun b o hb z => k2 b o (fun c => hb (by rw [List.mem_singleton] at c; rw [c]; exact List.mem_cons_self ..)) z
  have eH : Ex H H2 := fun b o z => k2 b o (fun c => by rw [List.mem_singleton] at c; rw [c, n1] at z; cases z) (e1 b o z)
  have al2 := al.ex e1
  refine ⟨rfl, q x H2 n1 eH ⟨xd, nv, q1, q2, dl_at nx g0, ds_ex hn (E1.trans (E3.trans E2)), ⟨⟨ys1, dl_at (al2.nin m1) g1, dpa_ex E2 D1⟩, hp.sm, hp.le⟩, ⟨⟨ys2, dl_at (al2.nin m2) g2, dpa_ex E2 D2⟩, hb.sm, hb.le⟩⟩ ⟨x, xd, nv, q1, q2, rfl, n1, g0, ex_none e1 m1, ex_none e1 m2⟩⟩
theorem ok_copied_functions (T : Tx K mg) : FnOk P w K mg base CX0 7 T.a_copied_functions T.e_copied_functions p_copied_functions (pCfs K T.C_Function) := by
  refine T.d_copied_functions.F.ok sc_copied_functions (fun vs H Q E h => ?_) (fun cdv A outer s H vs Q E hr h => ?_)
  · obtain ⟨S, p, xs, fs, rfl, _⟩ := h
    rfl
  obtain ⟨S, p, xs, fs, rfl, al, hL, hF, hz, q⟩ := h
  have hl := hF.len
  refine ⟨_, (pss_cons (ps_if (pt_cmpR k_notTy (pe_callTy (typK K) (by rfl) T.b_type (by decide +kernel) (pa_cons (pv 0) pa_nil)) (pe_bltn (v := .ty "list") (by rfl) T.b_list (by decide +kernel) rfl) (nomark _)) (pss_one (ps_ret (pv 0))) pss_nil)
    (pss_one (ps_ret (pe_lc (own := [("function", 1)]) (g := gName 1) rfl sc_copied_functions.nd  (plK K (pv 0)) (blkOk_by (own := [("function", 1)]) (N := n_copied_functions) (sc := defScope s_copied_functions) (by decide +kernel)) (fun _ _ _ _ _ => (pg_name (i := 1) sc_copied_functions.nd rfl (Or.inl rfl))) (fun _ _ _ _ _ => pts_nil) (fun _ _ _ _ _ => (pe_call (ok_copied_function T) (hr.mono (by omega)) (by rfl) T.d_copied_function.m T.d_copied_function.F.kp T.d_copied_function.b .nil pass0 (pa_cons (pv 1) pa_nil))))))), ?_⟩
  walk_at "r"
  refine ⟨.ref p, _, rfl, .lst (sl_dl hL), ?_⟩
  walk_at "r"
  refine ite2 (fun c => absurd c (by decide)) (fun _ => ?_)
  walk_at "r"
  refine c_L (sl_dl hL) ?_
  refine cp_list (xs := xs) (fun l k h => Ex H h ∧ Al (l :: S) h ∧ ∃ ys, h l = some (.lst ys) ∧ FnAll K T.C_Function (dl (l :: S) h) ys (fs.take k) ∧ ∀ v ∈ ys, NewF T.C_Function H h v)
    (fun l n => ⟨Ex.new n, (al.ex (Ex.new n)).cons upd_same, [], upd_same, .nil, fun v hv => by cases hv⟩) (fun l k h _ _ g => ex_sl (sl_dl hL) g.1) ?_ ?_
  · rintro l k x h nl hx ⟨e, al2, ys, f, fD, nw⟩
    obtain ⟨a, fd, rfl, hd', dx⟩ := hF.get hx
    have hk := at_lt hx
    have yl := fD.len
    rw [take_len hd'] at yl
    walk_at "r"
    refine ⟨rfl, ?_⟩
    walk_at "r"
    refine ⟨l :: S, a, fd, rfl, al2, dx.up (dl_new nl e), fun b H1 n1 e1 f1 nf => ?_⟩
    refine ⟨ys, e1 _ _ f, sz_lt (by omega), (e.trans e1).mut nl, (al2.ex e1).upd, ys ++ [.ref b], upd_same, ?_, fun v hv => ?_⟩
    · rw [dl_upd (List.mem_cons_self ..), take_snoc hd']
      exact FnAll.snoc f1 (fD.up (dl_ex e1))
    · rcases List.mem_append.mp hv with hv | hv
      · exact ((nw v hv).up e1).mut (e1 _ _ f)
      · rw [List.mem_singleton] at hv
        rw [hv]
        exact (nf.down e).mut (e1 _ _ f)
  · rintro l h nl ⟨e, al2, ys, f, fD, nw⟩
    rw [hl, List.take_length] at fD
    walk_at "r"
    exact q l ys h nl e f (fD.up (dl_sub (fun a k => List.mem_cons_of_mem _ k))) nw
theorem ok_are_statements (T : Tx K mg) : FnOk P w K mg base CX0 6 T.a_are_statements T.e_are_statements p_are_statements (pSts K) := by
  refine T.d_are_statements.F.ok sc_are_statements (fun vs H Q E h => ?_) (fun cdv A outer s H vs Q E hr h => ?_)
  · obtain ⟨p, ds, m, rfl, _⟩ := h
    rfl
  obtain ⟨p, ds, m, rfl, ⟨⟨xs, hL, hD⟩, hs, hz⟩, q⟩ := h
  have hl := dpa_len hD
  refine ⟨_, (pss_cons (ps_if (PW.pt (pw_or (pt_cmpR k_notTy (pe_callTy (typK K) (by rfl) T.b_type (by decide +kernel) (pa_cons (pv 0) pa_nil)) (pe_bltn (v := .ty "list") (by rfl) T.b_list (by decide +kernel) rfl) (nomark _)) (pw_or1 (pt_cmpR op_gt (pe_callB (lenK K) (by rfl) T.b_len PySem.boot_len (pa_cons (pv 0) pa_nil)) (pv 1) (nomark _))))) (pss_one (ps_ret pe_bl)) pss_nil)
    (pss_one (ps_ret (pe_callB (allK K) (by rfl) T.b_all (by decide +kernel) (pa_cons (pe_lc (own := [("part", 2)]) (g := gName 2) rfl sc_are_statements.nd  (plK K (pv 0)) (blkOk_by (own := [("part", 2)]) (N := n_are_statements) (sc := defScope s_are_statements) (by decide +kernel)) (fun _ _ _ _ _ => (pg_name (i := 2) sc_are_statements.nd rfl (Or.inl rfl))) (fun _ _ _ _ _ => pts_nil) (fun _ _ _ _ _ => (pe_call (ok_is_statement T) (hr.mono (by omega)) (by rfl) T.d_is_statement.m T.d_is_statement.F.kp T.d_is_statement.b .nil pass0 (pa_cons (pv 2) pa_nil)))) pa_nil))))), ?_⟩
  walk_at "r"
  refine ⟨.ref p, _, rfl, .lst hL, ?_⟩
  walk_at "r"
  refine ite2 (fun c => absurd c (by decide)) (fun _ => ?_)
  walk_at "r"
  refine a_lenL hL ?_
  walk_at "r"
  refine ite2 (fun c => ?_) (fun c => ?_)
  · have c' := of_decide_eq_true c
    have g := q H (Ex.refl _)
    unfold stsD at g
    rw [decide_eq_false (show ¬ ds.length ≤ m by omega)] at g
    walk_at "r"
    exact g
  have c' := of_decide_eq_false (nf c)
  walk_at "r"
  refine c_L hL ?_
  refine cp_list (xs := xs) (fun l k h => Ex H h ∧ h l = some (.lst (((ds.take k).map stmtD).map V.bl))) (fun l n => ⟨Ex.new n, upd_same⟩) (fun l k h _ _ g => ex_sl hL g.1) ?_ ?_
  · rintro l k x h nl hx ⟨e, f⟩
    obtain ⟨d, hd', dx⟩ := ds_at hD hs hx
    have hk := at_lt hx
    walk_at "r"
    refine ⟨rfl, ?_⟩
    walk_at "r"
    refine ⟨x, d, rfl, ds_ex dx e, fun H1 e1 => ?_⟩
    refine ⟨_, e1 _ _ f, sz_lt (by rw [bools_len]; omega), (e.trans e1).mut nl, ?_⟩
    rw [upd_same, bools_snoc stmtD hd']
  · rintro l h nl ⟨e, f⟩
    walk_at "r"
    rw [hl, List.take_length] at f
    refine ⟨l, _, rfl, SqL.of f, ?_⟩
    have g := q h e
    unfold stsD at g
    rw [decide_eq_true (show ds.length ≤ m by omega)] at g
    rw [bools_all]
    exact g
theorem ok_is_function (T : Tx K mg) : FnOk P w K mg base CX0 7 T.a_is_function T.e_is_function p_is_function (pIf K T.C_Function) := by
  refine T.d_is_function.F.ok sc_is_function (fun vs H Q E h => ?_) (fun cdv A outer s H vs Q E hr h => ?_)
  · obtain ⟨a, f, rfl, _⟩ := h
    rfl
  obtain ⟨a, f, rfl, hf, q⟩ := h
  obtain ⟨dx, nv, p1, p2, fa, hn, hp, hb⟩ := hf.ex
  obtain ⟨xs, hL, hD⟩ := hp.dl.ex
  have hl := dpa_len hD
  have I := T.i_Function
  have e0 : fnD f = (nameD f.n && (decide (f.p.length ≤ 4) && f.p.all declD) && stsD 12 f.b) := rfl
  refine ⟨_, (pss_cons (ps_if (PW.pt (pw_or (pt_not (pt_val (pe_callB (isiK K) (by rfl) T.b_isinstance (by decide +kernel) (pa_cons (pv 0) (pa_cons (pe_glob (v := .ref T.C_Function) (by rfl) T.g_Function rfl) pa_nil))))) (pw_or1 (pt_not (pt_val (pe_call (ok_is_name T) (hr.mono (by omega)) (by rfl) T.d_is_name.m T.d_is_name.F.kp T.d_is_name.b .nil pass0 (pa_cons (by exact (fldK K (pv 0) rfl)) pa_nil))))))) (pss_one (ps_ret pe_bl)) pss_nil)
    (pss_cons (ps_if (PW.pt (pw_or (pt_cmpR k_notTy (pe_callTy (typK K) (by rfl) T.b_type (by decide +kernel) (pa_cons (by exact (fldK K (pv 0) rfl)) pa_nil)) (pe_bltn (v := .ty "list") (by rfl) T.b_list (by decide +kernel) rfl) (nomark _)) (pw_or1 (pt_cmpR op_gt (pe_callB (lenK K) (by rfl) T.b_len PySem.boot_len (pa_cons (by exact (fldK K (pv 0) rfl)) pa_nil)) (pe_glob (v := .int 4) (by rfl) T.m_MOST_PARAMS ⟨_, rfl⟩) (nomark _))))) (pss_one (ps_ret pe_bl)) pss_nil)
    (pss_cons (ps_if (pt_not (pt_val (pe_callB (allK K) (by rfl) T.b_all (by decide +kernel) (pa_cons (pe_lc (own := [("param", 1)]) (g := gName 1) rfl sc_is_function.nd  (plK K (by exact (fldK K (pv 0) rfl))) (blkOk_by (own := [("param", 1)]) (N := n_is_function) (sc := defScope s_is_function) (by decide +kernel)) (fun _ _ _ _ _ => (pg_name (i := 1) sc_is_function.nd rfl (Or.inl rfl))) (fun _ _ _ _ _ => pts_nil) (fun _ _ _ _ _ => (pe_call (ok_is_declared T) (hr.mono (by omega)) (by rfl) T.d_is_declared.m T.d_is_declared.F.kp T.d_is_declared.b .nil pass0 (pa_cons (pv 1) pa_nil)))) pa_nil)))) (pss_one (ps_ret pe_bl)) pss_nil)
    (pss_one (ps_ret (pe_call (ok_are_statements T) (hr.mono (by omega)) (by rfl) T.d_are_statements.m T.d_are_statements.F.kp T.d_are_statements.b .nil pass0 (pa_cons (by exact (fldK K (pv 0) rfl)) (pa_cons (pe_glob (v := .int 12) (by rfl) T.m_MOST_IN_BODY ⟨_, rfl⟩) pa_nil)))))))), ?_⟩
  walk_at "r"
  refine ⟨.ref a, .ref T.C_Function, .ref T.C_Function, .ref T.C_Function, true, rfl, .own _, .base (.ins fa T.c_Function I.ha I.hn I.ht I.hm), kit_self, ?_⟩
  walk_at "r"
  refine a_get T.c_Function T.n_Function_name fa (fn_name _ _ _) ?_
  walk_at "r"
  refine ⟨nv, f.n, rfl, hn, fun H1 e1 => ?_⟩
  have g1 := q H1 e1
  rw [e0] at g1
  walk_at "r"
  refine ite2 (fun c => ?_) (fun c => ?_)
  · have c' : nameD f.n = false := by
      cases z : nameD f.n with
      | true => rw [z] at c; cases c
      | false => rfl
    rw [c'] at g1
    walk_at "r"
    exact g1
  have c1 : nameD f.n = true := by
    cases z : nameD f.n with
    | true => rfl
    | false => rw [z] at c; exact absurd rfl c
  rw [c1] at e0 g1
  walk_at "r"
  refine a_get T.c_Function T.n_Function_params (e1 _ _ fa) (fn_params _ _ _) ?_
  walk_at "r"
  refine ⟨.ref p1, _, rfl, .lst (ex_sl hL e1), ?_⟩
  walk_at "r"
  refine ite2 (fun c => absurd c (by decide)) (fun _ => ?_)
  walk_at "r"
  refine a_get T.c_Function T.n_Function_params (e1 _ _ fa) (fn_params _ _ _) ?_
  walk_at "r"
  refine a_lenL (ex_sl hL e1) ?_
  walk_at "r"
  refine ite2 (fun c => ?_) (fun c => ?_)
  · have c' := of_decide_eq_true c
    rw [decide_eq_false (show ¬ f.p.length ≤ 4 by omega)] at g1
    walk_at "r"
    exact g1
  have c2 := of_decide_eq_false (nf c)
  rw [decide_eq_true (show f.p.length ≤ 4 by omega)] at e0
  walk_at "r"
  refine a_get T.c_Function T.n_Function_params (e1 _ _ fa) (fn_params _ _ _) ?_
  walk_at "r"
  refine c_L (ex_sl hL e1) ?_
  refine cp_list (xs := xs) (fun l k h => Ex H1 h ∧ h l = some (.lst (((f.p.take k).map declD).map V.bl))) (fun l n => ⟨Ex.new n, upd_same⟩) (fun l k h _ _ g => ex_sl hL (e1.trans g.1)) ?_ ?_
  · rintro l k x h nl hx ⟨e, g⟩
    obtain ⟨d, hd', dx⟩ := ds_at hD hp.sm hx
    have hk := at_lt hx
    walk_at "r"
    refine ⟨rfl, ?_⟩
    walk_at "r"
    refine ⟨x, d, rfl, ds_ex dx (e1.trans e), fun H2 e2 => ?_⟩
    refine ⟨_, e2 _ _ g, sz_lt (by rw [bools_len]; omega), (e.trans e2).mut nl, ?_⟩
    rw [upd_same, bools_snoc declD hd']
  · rintro l h nl ⟨e, g⟩
    have eh := e1.trans e
    walk_at "r"
    rw [hl, List.take_length] at g
    refine ⟨l, _, rfl, SqL.of g, ?_⟩
    rw [bools_all]
    have g2 := q h eh
    rw [e0] at g2
    walk_at "r"
    refine ite2 (fun c => ?_) (fun c => ?_)
    · have c' : f.p.all declD = false := by
        cases z : f.p.all declD with
        | true => rw [z] at c; cases c
        | false => rfl
      rw [c'] at g2
      walk_at "r"
      exact g2
    have c3 : f.p.all declD = true := by
      cases z : f.p.all declD with
      | true => rfl
      | false => rw [z] at c; exact absurd rfl c
    rw [c3] at e0
    walk_at "r"
    refine a_get T.c_Function T.n_Function_body (eh _ _ fa) (fn_body _ _ _) ?_
    walk_at "r"
    refine ⟨p2, f.b, 12, rfl, hb.dl.up eh, fun H3 e3 => ?_⟩
    have g3 := q H3 (eh.trans e3)
    rw [e0] at g3
    exact g3

end
section
variable {P : Program} {w : World} {K : PySem.W.Frag} {mg : Str → Option Value} {base : Heap}
/-! ### the program: what is declared -/
theorem ok_declared_by_lets (T : Tx K mg) : FnOk P w K mg base CX0 1 T.a_declared_by_lets T.e_declared_by_lets p_declared_by_lets (pLets K) := by
  refine T.d_declared_by_lets.F.ok sc_declared_by_lets (fun vs H Q E h => ?_) (fun cdv A outer s H vs Q E hr h => ?_)
  · obtain ⟨S, p, ds, rfl, _⟩ := h
    rfl
  obtain ⟨S, p, ds, rfl, al, ⟨⟨xs, hL, hD⟩, hs, hz⟩, so, q⟩ := h
  have hl := dpa_len hD
  refine ⟨_, (pss_one (ps_ret (pe_lc (own := [("statement", 1)]) (g := gName 1) rfl sc_declared_by_lets.nd  (plK K (pv 0)) (blkOk_by (own := [("statement", 1)]) (N := n_declared_by_lets) (sc := defScope s_declared_by_lets) (by decide +kernel)) (fun _ _ _ _ _ => (pg_name (i := 1) sc_declared_by_lets.nd rfl (Or.inl rfl))) (fun _ _ _ _ _ => (pts_one (pt_cmpR op_eq (pe_ix (ixT K) (pv 1) pe_int (fun _ _ => rfl)) pe_str (nomark _)))) (fun _ _ _ _ _ => (pe_slice (slA K) (pv 1) (po_some pe_int) (po_some pe_int)))))), ?_⟩
  walk_at "r"
  refine c_L (sl_dl hL) ?_
  refine cp_list (xs := xs) (fun l k h => Ex H h ∧ Al (l :: S) h ∧ ∃ ys, h l = some (.lst ys) ∧ DpAll K (dl (l :: S) h) ys (letsD (ds.take k)))
    (fun l n => ⟨Ex.new n, (al.ex (Ex.new n)).cons upd_same, [], upd_same, .nil⟩) (fun l k h _ _ g => ex_sl (sl_dl hL) g.1) ?_ ?_
  · rintro l k x h nl hx ⟨e, al2, ys, f, fD⟩
    obtain ⟨d, hd', dx⟩ := ds_at hD hs hx
    have hk := at_lt hx
    have yl := dpa_len fD
    have yl2 := lets_len (ds.take k)
    rw [take_len hd'] at yl2
    obtain ⟨es, o⟩ := st_ok (all_at so hd')
    obtain ⟨p2, xs2, ds2, rfl, e2, hT, hD2, hs2, hl2⟩ := ds_tup dx (by rw [o.e]; rfl)
    cases o.e.symm.trans e2
    have ow := o.w
    have on := o.ne
    have ol := o.lt
    rw [← e2] at ow
    walk_at "r"
    refine ⟨rfl, ?_⟩
    walk_at "r"
    refine a_nthS (i := 0) (ex_st (st_dl hT) e) (dpa_ex ((dl_le S H).trans e) hD2) hs2 on fun v0 d0 => ?_
    rw [← e2, ow] at d0
    cases dp_str d0.1
    walk_at "r"
    refine ite2 (fun c => ?_) (fun c => ?_)
    · have c' := of_decide_eq_true c
      have h4 := (ol c').1
      walk_at "r"
      refine a_sl13 (ex_st (st_dl hT) e) (by omega) fun t H1 n1 e1 f1 => ?_
      refine ⟨ys, e1 _ _ f, sz_lt (by omega), (e.trans e1).mut nl, (al2.ex e1).upd, ys ++ [.ref t], upd_same, ?_⟩
      rw [dl_upd (List.mem_cons_self ..), take_snoc hd', lets_snoc, if_pos c']
      refine dpa_snoc (dpa_ex (dl_ex e1) fD) ?_
      rw [e2]
      exact .tup (SqT.of (dl_at (al2.nin n1) f1)) (dpa_ex ((dl_new nl e).trans (dl_ex e1)) (dpa_take 2 (dpa_drop 1 hD2)))
    · have c' := of_decide_eq_false (nf c)
      refine ⟨e, al2, ys, f, ?_⟩
      rw [take_snoc hd', lets_snoc, if_neg c', List.append_nil]
      exact fD
  · rintro l h nl ⟨e, al2, ys, f, fD⟩
    rw [hl, List.take_length] at fD
    walk_at "r"
    exact q l ys h nl e f (dpa_ex (dl_sub (fun a k => List.mem_cons_of_mem _ k)) fD)
theorem ok_declared (T : Tx K mg) : FnOk P w K mg base CX0 2 T.a_declared T.e_declared p_declared (pDecl K T.C_Function) := by
  refine T.d_declared.F.ok sc_declared (fun vs H Q E h => ?_) (fun cdv A outer s H vs Q E hr h => ?_)
  · obtain ⟨S, pf, ps, fs, ss, rfl, _⟩ := h
    rfl
  obtain ⟨S, pf, ps, fs, ss, rfl, al, ⟨⟨xs, hL, hF⟩, hsx, fo, so, f4, s40⟩, q⟩ := h
  have hl := hF.len
  refine ⟨_, (pss_cons (ps_set (i := 2) sc_declared.nd rfl (.inl rfl) (pe_lst pa_nil))
    (pss_cons (ps_for PassesOwn.never rfl (plK K (pv 0)) (pg_name (i := 3) sc_declared.nd rfl (.inl rfl)) (pss_cons (ps_expr (pe_bm PySem.F.plainAttrs_list PySem.F.slot_list_extend PySem.F.type_list_extend mt_extend (pv 2) (pa_cons (by exact (fldK K (pv 3) rfl)) pa_nil)))
    (pss_one (ps_expr (pe_bm PySem.F.plainAttrs_list PySem.F.slot_list_extend PySem.F.type_list_extend mt_extend (pv 2) (pa_cons (pe_call (ok_declared_by_lets T) (hr.mono (by omega)) (by rfl) T.d_declared_by_lets.m T.d_declared_by_lets.F.kp T.d_declared_by_lets.b .nil pass0 (pa_cons (by exact (fldK K (pv 3) rfl)) pa_nil)) pa_nil))))))
    (pss_cons (ps_expr (pe_bm PySem.F.plainAttrs_list PySem.F.slot_list_extend PySem.F.type_list_extend mt_extend (pv 2) (pa_cons (pe_call (ok_declared_by_lets T) (hr.mono (by omega)) (by rfl) T.d_declared_by_lets.m T.d_declared_by_lets.F.kp T.d_declared_by_lets.b .nil pass0 (pa_cons (pv 1) pa_nil)) pa_nil)))
    (pss_one (ps_ret (pv 2)))))), ?_⟩
  walk_at "r"
  refine new_lst (xs := []) (by simp) fun p H1 n1 e1 f1 => ?_
  have al1 := (al.ex e1).cons f1
  walk_at "r"
  refine r_L (ex_sl (sl_dl hL) e1) ?_
  refine lp_list (xs := xs) (fun k σ h => (∃ z, σ = [some (.ref pf), some (.ref ps), some (.ref p), z]) ∧ Ex H h ∧ Al (p :: S) h ∧ ∃ ys, h p = some (.lst ys) ∧ DpAll K (dl (p :: S) h) ys (declsF (fs.take k)))
    ⟨⟨_, rfl⟩, e1, al1, [], f1, .nil⟩ (fun k σ h _ g => ex_sl (sl_dl hL) g.2.1) ?_ ?_
  · rintro k x σ h hx ⟨⟨z, rfl⟩, e, al2, ys, f, fD⟩
    obtain ⟨a, fd, rfl, hd', hfx⟩ := hF.get hx
    obtain ⟨dx, nv, q1, q2, fa, hn, hp, hb⟩ := hfx.ex
    have hk := at_lt hx
    have fok := fn_le (all_at fo hd')
    have yl := dpa_len fD
    have yle : (declsF (fs.take k)).length ≤ 16 * (fs.take k).length := declsF_le (List.all_eq_true.mpr fun a b => List.all_eq_true.mp fo a (List.mem_of_mem_take b))
    rw [take_len hd'] at yle
    obtain ⟨zs, gq, gD⟩ := hp.ex
    have zl := dpa_len gD
    walk_at "r"
    refine ⟨a_ty f, ?_⟩
    walk_at "r"
    refine a_get T.c_Function T.n_Function_params (e _ _ (dl_le S H _ _ fa)) (fn_params _ _ _) ?_
    walk_at "r"
    refine a_extend f (e _ _ (dl_le S H _ _ gq)) (by omega) ?_
    have g2 : DpAll K (dl (p :: S) (upd h p (.lst (ys ++ zs)))) (ys ++ zs) (declsF (fs.take k) ++ fd.p) := by
      rw [dl_upd (List.mem_cons_self ..)]
      exact dpa_app fD (dpa_ex (dl_new n1 e) gD)
    have e2 : Ex H (upd h p (.lst (ys ++ zs))) := e.mut n1
    have al3 : Al (p :: S) (upd h p (.lst (ys ++ zs))) := al2.upd
    have f2 : (upd h p (.lst (ys ++ zs))) p = some (.lst (ys ++ zs)) := upd_same
    generalize upd h p (.lst (ys ++ zs)) = h2 at g2 e2 al3 f2 ⊢
    walk_at "r"
    refine ⟨a_ty f2, ?_⟩
    walk_at "r"
    refine a_get T.c_Function T.n_Function_body (e2 _ _ (dl_le S H _ _ fa)) (fn_body _ _ _) ?_
    walk_at "r"
    refine ⟨p :: S, q2, fd.b, rfl, al3, hb.dl.up (dl_new n1 e2), fok.2.2.2.2, fun t ts H3 n3 e3 f3 D3 => ?_⟩
    have tl := dpa_len D3
    have tl2 := lets_len fd.b
    walk_at "r"
    refine a_extend (e3 _ _ f2) f3 (by rw [List.length_append]; omega) ?_
    walk_at "r"
    refine ⟨⟨_, rfl⟩, (e2.trans e3).mut n1, (al3.ex e3).upd, _, upd_same, ?_⟩
    rw [dl_upd (List.mem_cons_self ..), take_snoc hd', declsF_snoc, List.append_assoc]
    rw [← List.append_assoc, List.append_assoc ys, ← List.append_assoc]
    rw [← List.append_assoc (declsF _)]
    exact dpa_app (dpa_ex (dl_ex e3) g2) D3
  · rintro σ h ⟨⟨z, rfl⟩, e, al2, ys, f, fD⟩
    rw [hl, List.take_length] at fD
    have yl := dpa_len fD
    have yle := declsF_le fo
    walk_at "r"
    refine ⟨a_ty f, ?_⟩
    walk_at "r"
    refine ⟨p :: S, ps, ss, rfl, al2, hsx.up (dl_new n1 e), so, fun t ts H3 n3 e3 f3 D3 => ?_⟩
    have tl := dpa_len D3
    have tl2 := lets_len ss
    walk_at "r"
    refine a_extend (e3 _ _ f) f3 (by omega) ?_
    walk_at "r"
    refine q p _ _ n1 ((e.trans e3).mut n1) upd_same ?_
    have E : Ex (dl (p :: S) (upd H3 p (.lst (ys ++ ts)))) (dl S (upd H3 p (.lst (ys ++ ts)))) := dl_sub fun a k => List.mem_cons_of_mem _ k
    refine dpa_ex E ?_
    rw [dl_upd (List.mem_cons_self ..)]
    exact dpa_app (dpa_ex (dl_ex e3) fD) D3
theorem ok_all_names (T : Tx K mg) : FnOk P w K mg base CX0 3 T.a_all_names T.e_all_names p_all_names (pNames K T.C_Function) := by
  refine T.d_all_names.F.ok sc_all_names (fun vs H Q E h => ?_) (fun cdv A outer s H vs Q E hr h => ?_)
  · obtain ⟨S, pf, ps, fs, ss, rfl, _⟩ := h
    rfl
  obtain ⟨S, pf, ps, fs, ss, rfl, al, hpg, q⟩ := h
  obtain ⟨⟨xs, hL, hF⟩, hsx, fo, so, f4, s40⟩ := id hpg
  have hl := hF.len
  refine ⟨_, (pss_cons (ps_setLc (i := 2) (own := [("function", 3)]) (g := gName 3) rfl sc_all_names.nd rfl rfl (sw_true rfl rfl rfl (by decide +kernel)) (plK K (pv 0)) (blkOk_by (own := [("function", 3)]) (N := n_all_names) (sc := defScope s_all_names) (by decide +kernel)) (fun _ _ _ _ _ => (pg_name (i := 3) sc_all_names.nd rfl (Or.inl rfl))) (fun _ _ _ _ _ => pts_nil) (fun _ _ _ _ _ => (by exact (fldK K (pv 3) rfl))))
    (pss_one (ps_ret (pe_op op_cat (pv 2) (pe_lc (own := [("name", 4), ("_", 5)]) (g := gTup K 2 (gCons (gName 4) (gCons (gName 5) (gNil)))) rfl sc_all_names.nd  (plK K (pe_call (ok_declared T) (hr.mono (by omega)) (by rfl) T.d_declared.m T.d_declared.F.kp T.d_declared.b .nil pass0 (pa_cons (pv 0) (pa_cons (pv 1) pa_nil)))) (blkOk_by (own := [("name", 4), ("_", 5)]) (N := n_all_names) (sc := defScope s_all_names) (by decide +kernel)) (fun _ _ _ _ _ => (pg_tup (by rfl) (pgs_cons (pg_name (i := 4) sc_all_names.nd rfl (Or.inl rfl)) (pgs_cons (pg_name (i := 5) sc_all_names.nd rfl (Or.inl rfl)) pgs_nil)))) (fun _ _ _ _ _ => pts_nil) (fun _ _ _ _ _ => (pv 4))))))), ?_⟩
  walk_at "r"
  refine c_L (sl_dl hL) ?_
  refine cp_list (xs := xs) (fun l k h => Ex H h ∧ h l = some (.lst (((fs.take k).map fun f => strD f.n).map V.str))) (fun l n => ⟨Ex.new n, upd_same⟩) (fun l k h _ _ g => ex_sl (sl_dl hL) g.1) ?_ ?_
  · rintro l k x h nl hx ⟨e, f⟩
    obtain ⟨a, fd, rfl, hd', hfx⟩ := hF.get hx
    obtain ⟨dx, nv, q1, q2, fa, hn, hp, hb⟩ := hfx.ex
    have hk := at_lt hx
    have nm := name_str (fn_le (all_at fo hd')).2.2.1
    rw [nm.1] at hn
    cases dp_str hn.1
    walk_at "r"
    refine ⟨rfl, ?_⟩
    walk_at "r"
    refine a_get T.c_Function T.n_Function_name (e _ _ (dl_le S H _ _ fa)) (fn_name _ _ _) ?_
    refine ⟨_, f, sz_lt (by rw [List.length_map, List.length_map, List.length_take]; omega), e.mut nl, ?_⟩
    rw [upd_same, take_snoc hd', List.map_append, List.map_append]
    rfl
  · rintro l h nl ⟨e, f⟩
    rw [hl, List.take_length] at f
    walk_at "r"
    refine ⟨S, pf, ps, fs, ss, rfl, al.ex e, hpg.up (dl_ex e), fun t ts H2 n2 e2 f2 D2 => ?_⟩
    have tl := dpa_len D2
    have tle := decls_le fo f4 s40
    have dok := decls_ok fo so
    walk_at "r"
    refine c_L (SqL.of f2) ?_
    refine cp_list (xs := ts) (fun l2 k h2 => Ex H2 h2 ∧ h2 l2 = some (.lst ((((declsD fs ss).take k).map fun d => strD (nthD d 0)).map V.str))) (fun l n => ⟨Ex.new n, upd_same⟩) (fun l k h _ _ g => SqL.of (g.1 _ _ f2)) ?_ ?_
    · rintro l2 k x h2 nl2 hx ⟨e3, f3⟩
      obtain ⟨d, hd', dx⟩ := dpa_at D2 hx
      have hk := at_lt hx
      obtain ⟨es, o⟩ := pr_ok (all_at dok hd')
      rw [o.e] at dx
      obtain ⟨p2, xs2, rfl, hT, hD2⟩ := dp_tup dx
      obtain ⟨u, v, rfl, du, dv⟩ := dpa_two hD2 o.l
      have nm := name_str o.n
      rw [nm.1] at du
      cases dp_str du
      refine w_gtup (ex_st (st_dl hT) e3) rfl ?_
      walk_at "r"
      refine ⟨rfl, ?_⟩
      walk_at "r"
      refine ⟨_, f3, sz_lt (by rw [List.length_map, List.length_map, List.length_take]; omega), e3.mut nl2, ?_⟩
      rw [upd_same, take_snoc hd', List.map_append, List.map_append, o.e]
      rfl
    · rintro l2 h2 nl2 ⟨e3, f3⟩
      rw [tl, List.take_length] at f3
      walk_at "r"
      refine a_cat ((e2.trans e3) _ _ f) f3 (by rw [List.length_map, List.length_map, List.length_map, List.length_map]; omega) fun r H4 n4 e4 f4' => ?_
      have eH : Ex H h2 := (e.trans e2).trans e3
      refine q r H4 ?_ (eH.trans e4) ?_
      · cases z : H r with
        | none => rfl
        | some o => rw [eH _ _ z] at n4; cases n4
      · rw [f4']
        unfold namesD
        rw [List.map_append]
theorem ok_all_kinds (T : Tx K mg) : FnOk P w K mg base CX0 3 T.a_all_kinds T.e_all_kinds p_all_kinds (pKinds K T.C_Function) := by
  refine T.d_all_kinds.F.ok sc_all_kinds (fun vs H Q E h => ?_) (fun cdv A outer s H vs Q E hr h => ?_)
  · obtain ⟨S, pf, ps, fs, ss, rfl, _⟩ := h
    rfl
  obtain ⟨S, pf, ps, fs, ss, rfl, al, hpg, q⟩ := h
  obtain ⟨⟨xs, hL, hF⟩, hsx, fo, so, f4, s40⟩ := id hpg
  refine ⟨_, (pss_one (ps_ret (pe_lc (own := [("_", 2), ("kind", 3)]) (g := gTup K 2 (gCons (gName 2) (gCons (gName 3) (gNil)))) rfl sc_all_kinds.nd  (plK K (pe_call (ok_declared T) (hr.mono (by omega)) (by rfl) T.d_declared.m T.d_declared.F.kp T.d_declared.b .nil pass0 (pa_cons (pv 0) (pa_cons (pv 1) pa_nil)))) (blkOk_by (own := [("_", 2), ("kind", 3)]) (N := n_all_kinds) (sc := defScope s_all_kinds) (by decide +kernel)) (fun _ _ _ _ _ => (pg_tup (by rfl) (pgs_cons (pg_name (i := 2) sc_all_kinds.nd rfl (Or.inl rfl)) (pgs_cons (pg_name (i := 3) sc_all_kinds.nd rfl (Or.inl rfl)) pgs_nil)))) (fun _ _ _ _ _ => pts_nil) (fun _ _ _ _ _ => (pv 3))))), ?_⟩
  walk_at "r"
  refine ⟨S, pf, ps, fs, ss, rfl, al, hpg, fun t ts H2 n2 e2 f2 D2 => ?_⟩
  have tl := dpa_len D2
  have tle := decls_le fo f4 s40
  have dok := decls_ok fo so
  walk_at "r"
  refine c_L (SqL.of f2) ?_
  refine cp_list (xs := ts) (fun l2 k h2 => Ex H2 h2 ∧ ∃ ys, h2 l2 = some (.lst ys) ∧ DpAll K (dl S H2) ys (((declsD fs ss).take k).map fun d => nthD d 1)) (fun l n => ⟨Ex.new n, [], upd_same, .nil⟩) (fun l k h _ _ g => SqL.of (g.1 _ _ f2)) ?_ ?_
  · rintro l2 k x h2 nl2 hx ⟨e3, ys, f3, fD⟩
    obtain ⟨d, hd', dx⟩ := dpa_at D2 hx
    have hk := at_lt hx
    have yl := dpa_len fD
    rw [List.length_map, take_len hd'] at yl
    obtain ⟨es, o⟩ := pr_ok (all_at dok hd')
    rw [o.e] at dx
    obtain ⟨p2, xs2, rfl, hT, hD2⟩ := dp_tup dx
    obtain ⟨u, v, rfl, du, dv⟩ := dpa_two hD2 o.l
    refine w_gtup (ex_st (st_dl hT) e3) rfl ?_
    walk_at "r"
    refine ⟨rfl, ?_⟩
    walk_at "r"
    refine ⟨ys, f3, sz_lt (by omega), e3.mut nl2, ys ++ [v], upd_same, ?_⟩
    rw [take_snoc hd', List.map_append, o.e]
    exact dpa_snoc fD dv
  · rintro l2 h2 nl2 ⟨e3, ys, f3, fD⟩
    rw [tl, List.take_length] at fD
    walk_at "r"
    refine q l2 ys h2 ?_ (e2.trans e3) f3 (dpa_ex (dl_ex e3) fD)
    cases z : H l2 with
    | none => rfl
    | some o => rw [e2 _ _ z] at nl2; cases nl2

end
section
variable {P : Program} {w : World} {K : PySem.W.Frag} {mg : Str → Option Value} {base : Heap}
/-! ### the program: whole programs -/
theorem ok_are_of_one_kind (T : Tx K mg) : FnOk P w K mg base CX0 4 T.a_are_of_one_kind T.e_are_of_one_kind p_are_of_one_kind (pKind K) := by
  refine T.d_are_of_one_kind.F.ok sc_are_of_one_kind (fun vs H Q E h => ?_) (fun cdv A outer s H vs Q E hr h => ?_)
  · obtain ⟨p, ds, rfl, _⟩ := h
    rfl
  obtain ⟨p, ds, rfl, ⟨⟨xs, hL, hD⟩, hs, hz⟩, q⟩ := h
  have hl := dpa_len hD
  refine ⟨_, (pss_one (ps_ret (pe_or (pe_callB (allK K) (by rfl) T.b_all (by decide +kernel) (pa_cons (pe_lc (own := [("kind", 1)]) (g := gName 1) rfl sc_are_of_one_kind.nd  (plK K (pv 0)) (blkOk_by (own := [("kind", 1)]) (N := n_are_of_one_kind) (sc := defScope s_are_of_one_kind) (by decide +kernel)) (fun _ _ _ _ _ => (pg_name (i := 1) sc_are_of_one_kind.nd rfl (Or.inl rfl))) (fun _ _ _ _ _ => pts_nil) (fun _ _ _ _ _ => (pe_call (ok_is_type T) (hr.mono (by omega)) (by rfl) T.d_is_type.m T.d_is_type.F.kp T.d_is_type.b .nil pass0 (pa_cons (pv 1) pa_nil)))) pa_nil)) (pe_one (pe_callB (allK K) (by rfl) T.b_all (by decide +kernel) (pa_cons (pe_lc (own := [("kind", 1)]) (g := gName 1) rfl sc_are_of_one_kind.nd  (plK K (pv 0)) (blkOk_by (own := [("kind", 1)]) (N := n_are_of_one_kind) (sc := defScope s_are_of_one_kind) (by decide +kernel)) (fun _ _ _ _ _ => (pg_name (i := 1) sc_are_of_one_kind.nd rfl (Or.inl rfl))) (fun _ _ _ _ _ => pts_nil) (fun _ _ _ _ _ => (pe_call (ok_is_depth T) (hr.mono (by omega)) (by rfl) T.d_is_depth.m T.d_is_depth.F.kp T.d_is_depth.b .nil pass0 (pa_cons (pv 1) pa_nil)))) pa_nil)))))), ?_⟩
  walk_at "r"
  refine c_L hL ?_
  refine cp_list (xs := xs) (fun l k h => Ex H h ∧ h l = some (.lst (((ds.take k).map typD).map V.bl))) (fun l n => ⟨Ex.new n, upd_same⟩) (fun l k h _ _ g => ex_sl hL g.1) ?_ ?_
  · rintro l k x h nl hx ⟨e, f⟩
    obtain ⟨d, hd', dx⟩ := ds_at hD hs hx
    have hk := at_lt hx
    walk_at "r"
    refine ⟨rfl, ?_⟩
    walk_at "r"
    refine ⟨x, d, rfl, ds_ex dx e, fun H1 e1 => ?_⟩
    refine ⟨_, e1 _ _ f, sz_lt (by rw [bools_len]; omega), (e.trans e1).mut nl, ?_⟩
    rw [upd_same, bools_snoc typD hd']
  rintro l h nl ⟨e, f⟩
  walk_at "r"
  rw [hl, List.take_length] at f
  refine ⟨l, _, rfl, SqL.of f, ?_⟩
  rw [bools_all]
  have g := q h e
  unfold kindD at g
  walk_at "r"
  refine ite2 (fun c => ?_) (fun c => ?_)
  · rw [c] at g
    exact g
  walk_at "r"
  refine c_L (ex_sl hL e) ?_
  refine cp_list (xs := xs) (fun l k h2 => Ex h h2 ∧ h2 l = some (.lst (((ds.take k).map fun d => numD d 5).map V.bl))) (fun l n => ⟨Ex.new n, upd_same⟩) (fun l k h _ _ g => ex_sl hL (e.trans g.1)) ?_ ?_
  · rintro l k x h2 nl hx ⟨e2, f2⟩
    obtain ⟨d, hd', dx⟩ := ds_at hD hs hx
    have hk := at_lt hx
    walk_at "r"
    refine ⟨rfl, ?_⟩
    walk_at "r"
    refine ⟨x, d, rfl, ds_ex dx (e.trans e2), fun H1 e1 => ?_⟩
    refine ⟨_, e1 _ _ f2, sz_lt (by rw [bools_len]; omega), (e2.trans e1).mut nl, ?_⟩
    rw [upd_same, bools_snoc (fun d => numD d 5) hd']
  rintro l2 h2 nl2 ⟨e2, f2⟩
  walk_at "r"
  rw [hl, List.take_length] at f2
  refine ⟨l2, _, rfl, SqL.of f2, ?_⟩
  rw [bools_all]
  have g2 := q h2 (e.trans e2)
  unfold kindD at g2
  rw [nf c] at g2
  exact g2
theorem ok_calls_fit (T : Tx K mg) : FnOk P w K mg base CX0 1 T.a_calls_fit T.e_calls_fit p_calls_fit (pFit K) := by
  refine T.d_calls_fit.F.ok sc_calls_fit (fun vs H Q E h => ?_) (fun cdv A outer s H vs Q E hr h => ?_)
  · obtain ⟨ps, ss, m, kvs, rfl, _⟩ := h
    rfl
  obtain ⟨ps, ss, m, kvs, rfl, ⟨⟨xs, hL, hD⟩, hs, hz⟩, so, fm, ik, q⟩ := h
  have hl := dpa_len hD
  have hu := hu_of hr
  refine ⟨_, (pss_cons (ps_for PassesOwn.never rfl (plK K (pv 0)) (pg_name (i := 2) sc_calls_fit.nd rfl (.inl rfl)) (pss_one (ps_if (PW.pt (pw_and (pt_cmpR op_eq (pe_ix (ixT K) (pv 2) pe_int (fun _ _ => rfl)) pe_str (nomark _)) (pw_and1 (pt_cmpR op_ne (pe_dget1 hu (pv 1) (pe_ix (ixT K) (pv 2) pe_int (fun _ _ => rfl)) ⟨rfl, rfl, rfl, rfl⟩) (pe_callB (lenK K) (by rfl) T.b_len PySem.boot_len (pa_cons (pe_ix (ixT K) (pv 2) pe_int (fun _ _ => rfl)) pa_nil)) (nomark _))))) (pss_one (ps_ret pe_bl)) pss_nil)))
    (pss_one (ps_ret pe_bl))), ?_⟩
  walk_at "r"
  refine r_L hL ?_
  refine lp_list (xs := xs) (fun k σ h => (∃ z, σ = [some (.ref ps), some (.ref m), z]) ∧ h = H ∧ (ss.take k).all (fit1 kvs) = true)
    ⟨⟨_, rfl⟩, rfl, rfl⟩ (fun k σ h _ g => by rw [g.2.1]; exact hL) ?_ ?_
  · rintro k x σ h hx ⟨⟨z, rfl⟩, rfl, fD⟩
    obtain ⟨d, hd', dx⟩ := ds_at hD hs hx
    have hk := at_lt hx
    obtain ⟨es, o⟩ := st_ok (all_at so hd')
    obtain ⟨p2, xs2, ds2, rfl, e2, hT, hD2, hs2, hl2⟩ := ds_tup dx (by rw [o.e]; rfl)
    cases o.e.symm.trans e2
    have ow := o.w
    have on := o.ne
    have ol := o.cl
    rw [← e2] at ow
    have nxt : fit1 kvs d = true → (ss.take (k + 1)).all (fit1 kvs) = true := fun z => by
      rw [take_snoc hd', List.all_append, fD, List.all_cons, z]
      rfl
    have bad : fit1 kvs d = false → Q (.bl false) h := fun z => by
      have g := q h (Ex.refl _)
      have e : fitD kvs ss = false := by
        cases y : fitD kvs ss with
        | false => rfl
        | true => rw [all_at y hd'] at z; cases z
      rw [e] at g
      exact g
    walk_at "r"
    refine a_nthS (i := 0) hT hD2 hs2 on fun v0 d0 => ?_
    rw [← e2, ow] at d0
    cases dp_str d0.1
    walk_at "r"
    refine ite2 (fun c => ?_) (fun c => ?_)
    · have c' := of_decide_eq_true c
      have h3 := ol c'
      have nm := name_str h3.2.1
      walk_at "r"
      refine a_getD fm ?_
      walk_at "r"
      refine a_nthS (i := 1) hT hD2 hs2 (by omega) fun v1 d1 => ?_
      rw [← e2, nm.1] at d1
      cases dp_str d1.1
      refine ⟨_, DGet.k (k := Sum.inr (strD (nthD d 1))) fm, ?_⟩
      walk_at "r"
      refine a_nthS (i := 2) hT hD2 hs2 (by omega) fun v2 d2 => ?_
      rw [← e2] at d2
      have tg : tagD (nthD d 2) = "list" := by
        have := h3.2.2
        unfold srcsD at this
        rw [Bool.and_eq_true] at this
        exact of_decide_eq_true this.1
      obtain ⟨p3, xs3, ds3, rfl, e3, hL3, _, _, _, hl3⟩ := ds_lst d2 tg
      walk_at "r"
      refine a_lenL hL3 ?_
      refine w_ne (int_scal ik _ _) ?_
      walk_at "r"
      have ef : fit1 kvs d = decide ((valV kvs (Sum.inr (strD (nthD d 1)))).getD .non = .int (xs3.length : Nat)) := by
        unfold fit1
        rw [c, e3, hl3]
        rfl
      refine ite2 (fun c2 => ?_) (fun c2 => ?_)
      · walk_at "r"
        refine bad ?_
        rw [ef]
        cases y : decide ((valV kvs (Sum.inr (strD (nthD d 1)))).getD .non = .int (xs3.length : Nat)) with
        | false => rfl
        | true => rw [y] at c2; cases c2
      · walk_at "r"
        refine ⟨⟨_, rfl⟩, rfl, nxt ?_⟩
        rw [ef]
        cases y : decide ((valV kvs (Sum.inr (strD (nthD d 1)))).getD .non = .int (xs3.length : Nat)) with
        | true => rfl
        | false => rw [y] at c2; exact absurd rfl c2
    · walk_at "r"
      refine ⟨⟨_, rfl⟩, rfl, nxt ?_⟩
      unfold fit1
      rw [nf c]
      rfl
  · rintro σ h ⟨⟨z, rfl⟩, rfl, fD⟩
    rw [hl, List.take_length] at fD
    walk_at "r"
    have g := q h (Ex.refl _)
    unfold fitD at g
    rw [fD] at g
    exact g
theorem ok_all_calls_fit (T : Tx K mg) : FnOk P w K mg base CX0 2 T.a_all_calls_fit T.e_all_calls_fit p_all_calls_fit (pFits K T.C_Function) := by
  refine T.d_all_calls_fit.F.ok sc_all_calls_fit (fun vs H Q E h => ?_) (fun cdv A outer s H vs Q E hr h => ?_)
  · obtain ⟨pf, ps, fs, ss, rfl, _⟩ := h
    rfl
  obtain ⟨pf, ps, fs, ss, rfl, ⟨⟨xs, hL, hF⟩, hsx, fo, so, f4, s40⟩, q⟩ := h
  have hl := hF.len
  have hu := hu_of hr
  refine ⟨_, (pss_cons (ps_set (i := 2) sc_all_calls_fit.nd rfl (.inl rfl) pe_dnewK)
    (pss_cons (ps_for PassesOwn.never rfl (plK K (pv 0)) (pg_name (i := 3) sc_all_calls_fit.nd rfl (.inl rfl)) (pss_cons (ps_if (pt_not (pt_val (pe_call (ok_calls_fit T) (hr.mono (by omega)) (by rfl) T.d_calls_fit.m T.d_calls_fit.F.kp T.d_calls_fit.b .nil pass0 (pa_cons (by exact (fldK K (pv 3) rfl)) (pa_cons (pv 2) pa_nil))))) (pss_one (ps_ret pe_bl)) pss_nil)
    (pss_one (ps_dput hu (pv 2) (by exact (fldK K (pv 3) rfl)) (pe_callB (lenK K) (by rfl) T.b_len PySem.boot_len (pa_cons (by exact (fldK K (pv 3) rfl)) pa_nil)) rfl))))
    (pss_one (ps_ret (pe_call (ok_calls_fit T) (hr.mono (by omega)) (by rfl) T.d_calls_fit.m T.d_calls_fit.F.kp T.d_calls_fit.b .nil pass0 (pa_cons (pv 1) (pa_cons (pv 2) pa_nil))))))), ?_⟩
  walk_at "r"
  refine new_dK fun m H1 n1 e1 f1 => ?_
  walk_at "r"
  refine r_L (ex_sl hL e1) ?_
  refine lp_list (xs := xs) (fun k σ h => (∃ z, σ = [some (.ref pf), some (.ref ps), some (.ref m), z]) ∧ Ex H h ∧ ∃ kvs, h m = some (.dK kvs) ∧ IntK kvs ∧ kvs.length ≤ k ∧ fitF [] fs ss = fitF kvs (fs.drop k) ss)
    ⟨⟨_, rfl⟩, e1, [], f1, (fun k v e => by cases e), Nat.le_refl _, rfl⟩ (fun k σ h _ g => ex_sl hL g.2.1) ?_ ?_
  · rintro k x σ h hx ⟨⟨z, rfl⟩, e, kvs, fm, ik, kl, ef⟩
    obtain ⟨a, fd, rfl, hd', hfx⟩ := hF.get hx
    obtain ⟨dx, nv, q1, q2, fa, hn, hp, hb⟩ := hfx.ex
    have hk := at_lt hx
    have fok := fn_le (all_at fo hd')
    have nm := name_str fok.2.2.1
    rw [nm.1] at hn
    cases dp_str hn.1
    obtain ⟨zs, gq, gD⟩ := hp.ex
    have zl := dpa_len gD
    have ed : fs.drop k = fd :: fs.drop (k + 1) := by
      rw [← List.getElem_cons_drop (h := by rw [← hl]; exact hk)]
      congr 1
      rw [List.getElem?_eq_getElem (by rw [← hl]; exact hk)] at hd'
      exact Option.some.inj hd'
    rw [ed] at ef
    have ef2 : fitF [] fs ss = (fitD kvs fd.b && fitF (putN kvs fd) (fs.drop (k + 1)) ss) := ef
    walk_at "r"
    refine a_get T.c_Function T.n_Function_body (e _ _ fa) (fn_body _ _ _) ?_
    walk_at "r"
    refine ⟨q2, fd.b, m, kvs, rfl, hb.dl.up e, fok.2.2.2.2, fm, ik, fun H2 e2 => ?_⟩
    walk_at "r"
    refine ite2 (fun c => ?_) (fun c => ?_)
    · have c' : fitD kvs fd.b = false := by
        cases y : fitD kvs fd.b with
        | false => rfl
        | true => rw [y] at c; cases c
      rw [c'] at ef2
      have g := q H2 (e.trans e2)
      rw [ef2] at g
      walk_at "r"
      exact g
    have c1 : fitD kvs fd.b = true := by
      cases y : fitD kvs fd.b with
      | true => rfl
      | false => rw [y] at c; exact absurd rfl c
    rw [c1, Bool.true_and] at ef2
    have e12 := e.trans e2
    walk_at "r"
    refine a_get T.c_Function T.n_Function_params (e12 _ _ fa) (fn_params _ _ _) ?_
    walk_at "r"
    refine a_lenL (SqL.of (e12 _ _ gq)) ?_
    walk_at "r"
    refine a_get T.c_Function T.n_Function_name (e12 _ _ fa) (fn_name _ _ _) ?_
    refine a_putD (e2 _ _ fm) (by omega) ?_
    walk_at "r"
    have pl := putN_le kvs fd
    refine ⟨⟨_, rfl⟩, e12.mut n1, putN kvs fd, ?_, ik.put fd, ?_, ef2⟩
    · rw [upd_same, zl]
      rfl
    · omega
  · rintro σ h ⟨⟨z, rfl⟩, e, kvs, fm, ik, kl, ef⟩
    rw [hl, List.drop_length] at ef
    walk_at "r"
    refine ⟨ps, ss, m, kvs, rfl, hsx.up e, so, fm, ik, fun H2 e2 => ?_⟩
    have g := q H2 (e.trans e2)
    rw [ef] at g
    exact g

end
section
variable {P : Program} {w : World} {K : PySem.W.Frag} {mg : Str → Option Value} {base : Heap}
/-! ### the program: what is one -/
theorem ok_are_different (T : Tx K mg) : FnOk P w K mg base CX0 1 T.a_are_different T.e_are_different p_are_different (pDiff K) := by
  refine T.d_are_different.F.ok sc_are_different (fun vs H Q E h => ?_) (fun cdv A outer s H vs Q E hr h => ?_)
  · obtain ⟨p, ss, rfl, _⟩ := h
    rfl
  obtain ⟨p, ss, rfl, hL, hz, hs, q⟩ := h
  refine ⟨_, (pss_one (ps_ret (pe_cmpR op_eq (setNK K rfl (by rfl) T.b_len (by rfl) T.b_set (pv 0)) (pe_callB (lenK K) (by rfl) T.b_len PySem.boot_len (pa_cons (pv 0) pa_nil)) (nomark _)))), ?_⟩
  walk_at "r"
  refine ⟨.ref p, rfl, p, ss, rfl, hL, by omega, ?_⟩
  walk_at "r"
  refine a_lenL hL ?_
  walk_at "r"
  have g := q H (Ex.refl _)
  rw [← fm_nodup] at g
  rw [List.length_map]
  exact g
theorem ok_is_program (T : Tx K mg) : FnOk P w K mg base CX0 8 T.a_is_program T.e_is_program p_is_program (pIp K T.C_Function) := by
  refine T.d_is_program.F.ok sc_is_program (fun vs H Q E h => ?_) (fun cdv A outer s H vs Q E hr h => ?_)
  · obtain ⟨pf, ps, xs, fs, ss, rfl, _⟩ := h
    rfl
  obtain ⟨pf, ps, xs, fs, ss, rfl, hL, hF, hz, hsx, q⟩ := h
  have hl := hF.len
  have e0 : progD fs ss = (decide (fs.length ≤ 4) && fs.all fnD && stsD 40 ss && (nodupD (namesD fs ss) && kindD (kindsD fs ss) && fitF [] fs ss)) := rfl
  refine ⟨_, (pss_cons (ps_if (PW.pt (pw_or (pt_cmpR k_notTy (pe_callTy (typK K) (by rfl) T.b_type (by decide +kernel) (pa_cons (pv 0) pa_nil)) (pe_bltn (v := .ty "list") (by rfl) T.b_list (by decide +kernel) rfl) (nomark _)) (pw_or1 (pt_cmpR op_gt (pe_callB (lenK K) (by rfl) T.b_len PySem.boot_len (pa_cons (pv 0) pa_nil)) (pe_glob (v := .int 4) (by rfl) T.m_MOST_FUNCTIONS ⟨_, rfl⟩) (nomark _))))) (pss_one (ps_ret pe_bl)) pss_nil)
    (pss_cons (ps_if (pt_not (pt_val (pe_callB (allK K) (by rfl) T.b_all (by decide +kernel) (pa_cons (pe_lc (own := [("function", 2)]) (g := gName 2) rfl sc_is_program.nd  (plK K (pv 0)) (blkOk_by (own := [("function", 2)]) (N := n_is_program) (sc := defScope s_is_program) (by decide +kernel)) (fun _ _ _ _ _ => (pg_name (i := 2) sc_is_program.nd rfl (Or.inl rfl))) (fun _ _ _ _ _ => pts_nil) (fun _ _ _ _ _ => (pe_call (ok_is_function T) (hr.mono (by omega)) (by rfl) T.d_is_function.m T.d_is_function.F.kp T.d_is_function.b .nil pass0 (pa_cons (pv 2) pa_nil)))) pa_nil)))) (pss_one (ps_ret pe_bl)) pss_nil)
    (pss_cons (ps_if (pt_not (pt_val (pe_call (ok_are_statements T) (hr.mono (by omega)) (by rfl) T.d_are_statements.m T.d_are_statements.F.kp T.d_are_statements.b .nil pass0 (pa_cons (pv 1) (pa_cons (pe_glob (v := .int 40) (by rfl) T.m_MOST_STATEMENTS ⟨_, rfl⟩) pa_nil))))) (pss_one (ps_ret pe_bl)) pss_nil)
    (pss_one (ps_ret (pe_and (pe_call (ok_are_different T) (hr.mono (by omega)) (by rfl) T.d_are_different.m T.d_are_different.F.kp T.d_are_different.b .nil pass0 (pa_cons (pe_call (ok_all_names T) (hr.mono (by omega)) (by rfl) T.d_all_names.m T.d_all_names.F.kp T.d_all_names.b .nil pass0 (pa_cons (pv 0) (pa_cons (pv 1) pa_nil))) pa_nil)) (pe_and (pe_call (ok_are_of_one_kind T) (hr.mono (by omega)) (by rfl) T.d_are_of_one_kind.m T.d_are_of_one_kind.F.kp T.d_are_of_one_kind.b .nil pass0 (pa_cons (pe_call (ok_all_kinds T) (hr.mono (by omega)) (by rfl) T.d_all_kinds.m T.d_all_kinds.F.kp T.d_all_kinds.b .nil pass0 (pa_cons (pv 0) (pa_cons (pv 1) pa_nil))) pa_nil)) (pe_one (pe_call (ok_all_calls_fit T) (hr.mono (by omega)) (by rfl) T.d_all_calls_fit.m T.d_all_calls_fit.F.kp T.d_all_calls_fit.b .nil pass0 (pa_cons (pv 0) (pa_cons (pv 1) pa_nil))))))))))), ?_⟩
  walk_at "r"
  refine ⟨.ref pf, _, rfl, .lst hL, ?_⟩
  walk_at "r"
  refine ite2 (fun c => absurd c (by decide)) (fun _ => ?_)
  walk_at "r"
  refine a_lenL hL ?_
  walk_at "r"
  refine ite2 (fun c => ?_) (fun c => ?_)
  · have c' := of_decide_eq_true c
    have g := q H (Ex.refl _)
    rw [e0, decide_eq_false (show ¬ fs.length ≤ 4 by omega)] at g
    walk_at "r"
    exact g
  have c1 : fs.length ≤ 4 := by
    have := of_decide_eq_false (nf c)
    omega
  rw [decide_eq_true c1, Bool.true_and] at e0
  walk_at "r"
  refine c_L hL ?_
  refine cp_list (xs := xs) (fun l k h => Ex H h ∧ h l = some (.lst (((fs.take k).map fnD).map V.bl))) (fun l n => ⟨Ex.new n, upd_same⟩) (fun l k h _ _ g => ex_sl hL g.1) ?_ ?_
  · rintro l k x h nl hx ⟨e, f⟩
    obtain ⟨a, fd, rfl, hd', hfx⟩ := hF.get hx
    have hk := at_lt hx
    walk_at "r"
    refine ⟨rfl, ?_⟩
    walk_at "r"
    refine ⟨a, fd, rfl, hfx.up e, fun H1 e1 => ?_⟩
    refine ⟨_, e1 _ _ f, sz_lt (by rw [List.length_map, List.length_map, List.length_take]; omega), (e.trans e1).mut nl, ?_⟩
    rw [upd_same, take_snoc hd', List.map_append, List.map_append]
    rfl
  rintro l h nl ⟨e, f⟩
  walk_at "r"
  rw [hl, List.take_length] at f
  refine ⟨l, _, rfl, SqL.of f, ?_⟩
  have ea : (fs.map fnD).all id = fs.all fnD := by
    rw [List.all_map]
    rfl
  rw [ea]
  walk_at "r"
  refine ite2 (fun c => ?_) (fun c => ?_)
  · have c' : fs.all fnD = false := by
      cases y : fs.all fnD with
      | false => rfl
      | true => rw [y] at c; cases c
    have g := q h e
    rw [e0, c'] at g
    walk_at "r"
    exact g
  have fo : fs.all fnD = true := by
    cases y : fs.all fnD with
    | true => rfl
    | false => rw [y] at c; exact absurd rfl c
  rw [fo, Bool.true_and] at e0
  walk_at "r"
  refine ⟨ps, ss, 40, rfl, hsx.up e, fun H1 e1 => ?_⟩
  have E1 := e.trans e1
  walk_at "r"
  refine ite2 (fun c => ?_) (fun c => ?_)
  · have c' : stsD 40 ss = false := by
      cases y : stsD 40 ss with
      | false => rfl
      | true => rw [y] at c; cases c
    have g := q H1 E1
    rw [e0, c'] at g
    walk_at "r"
    exact g
  have so' : stsD 40 ss = true := by
    cases y : stsD 40 ss with
    | true => rfl
    | false => rw [y] at c; exact absurd rfl c
  have so := sts_le so'
  rw [so', Bool.true_and] at e0
  have hpg : Pg K T.C_Function H pf ps fs ss := ⟨⟨xs, hL, hF⟩, hsx, fo, so.2, c1, so.1⟩
  walk_at "r"
  refine ⟨[], pf, ps, fs, ss, rfl, Al.nil, by rw [dl_nil]; exact hpg.up E1, fun t H2 n2 e2 f2 => ?_⟩
  have E2 := E1.trans e2
  walk_at "r"
  refine ⟨t, _, rfl, SqL.of f2, names_le fo c1 so.1, names_s fo so.2, fun H3 e3 => ?_⟩
  have E3 := E2.trans e3
  have g3 := q H3 E3
  rw [e0] at g3
  walk_at "r"
  refine ite2 (fun c => ?_) (fun c => ?_)
  rotate_left
  · rw [nf c] at g3
    exact g3
  rw [c, Bool.true_and] at e0
  walk_at "r"
  refine ⟨[], pf, ps, fs, ss, rfl, Al.nil, by rw [dl_nil]; exact hpg.up E3, fun t4 ys4 H4 n4 e4 f4 D4 => ?_⟩
  have E4 := E3.trans e4
  rw [dl_nil] at D4
  walk_at "r"
  have dle := decls_le fo c1 so.1
  refine ⟨t4, _, rfl, ⟨⟨ys4, SqL.of f4, D4⟩, kinds_sm (sm_app (fn_sm hF fo) (sm_lets hsx.sm so.2)) (decls_ok fo so.2), by unfold kindsD; rw [List.length_map]; omega⟩, fun H5 e5 => ?_⟩
  have E5 := E4.trans e5
  have g5 := q H5 E5
  rw [e0] at g5
  walk_at "r"
  refine ite2 (fun c => ?_) (fun c => ?_)
  rotate_left
  · rw [nf c] at g5
    exact g5
  rw [c, Bool.true_and] at e0
  walk_at "r"
  refine ⟨pf, ps, fs, ss, rfl, hpg.up E5, fun H6 e6 => ?_⟩
  have g6 := q H6 (E5.trans e6)
  rw [e0] at g6
  exact g6
theorem ok_RightsError_init (T : Tx K mg) : FnOk P w K mg base CX0 1 T.a_RightsError_init T.e_RightsError_init p_RightsError_init (pRe T.C_RightsError) := by
  refine T.d_RightsError_init.F.ok sc_RightsError_init (fun vs H Q E h => ?_) (fun cdv A outer s H vs Q E hr h => ?_)
  · obtain ⟨a, r, rfl, _⟩ := h
    rfl
  obtain ⟨a, r, rfl, fa, q⟩ := h
  refine ⟨_, (pss_cons (ps_expr (pe_veinit (by rfl) T.b_ValueError T.vV (pa_cons (pv 0) (pa_cons (pv 1) pa_nil))))
    (pss_one (ps_ost (pv 0) (pv 1)))), ?_⟩
  walk_at "r"
  refine ⟨a, T.C_RightsError, [.str r], rfl, (show 1 ≤ 1000 by decide), T.o_RightsError, fa, ?_⟩
  walk_at "r"
  refine ⟨a, T.C_RightsError, rfl, T.o_RightsError, T.n_RightsError_reason, .inl ⟨fa, fun dx n ne => ?_⟩⟩
  walk_at "r"
  exact q dx n ne
theorem ok_Program_init (T : Tx K mg) : FnOk P w K mg base (L2.CX P w) 9 T.a_Program_init T.e_Program_init p_Program_init (pPi K T.C_Program T.C_Function T.C_RightsError) := by
  refine T.d_Program_init.F.okX sc_Program_init (fun vs H Q E h => ?_) (fun cdv A outer s H vs Q E hr h => ?_)
  · obtain ⟨S, a, dx, pf, ps, xs, fs, ss, rfl, _⟩ := h
    rfl
  obtain ⟨S, a, dx, pf, ps, xs, fs, ss, rfl, al, ha, fa, hL, hF, hz, hsx, q1, q2⟩ := h
  refine ⟨_, (pss_cons (ps_fld (pv 0) (pe_call (ok_copied_functions T) (hr.mono (by omega)) (by rfl) T.d_copied_functions.m T.d_copied_functions.F.kp T.d_copied_functions.b .nil pass0 (pa_cons (pv 1) pa_nil)) rfl)
    (pss_cons (ps_fld (pv 0) (pe_call (ok_copied_statements T) (hr.mono (by omega)) (by rfl) T.d_copied_statements.m T.d_copied_statements.F.kp T.d_copied_statements.b .nil pass0 (pa_cons (pv 2) pa_nil)) rfl)
    (pss_one (ps_if (pt_not (pt_val (pe_call (ok_is_program T) (hr.mono (by omega)) (by rfl) T.d_is_program.m T.d_is_program.F.kp T.d_is_program.b .nil pass0 (pa_cons (by exact (fldK K (pv 0) rfl)) (pa_cons (by exact (fldK K (pv 0) rfl)) pa_nil))))) (pss_one (ps_raise rfl (takes_of rfl rfl rfl rfl) (pmk_oex T.o_RightsError T.i_RightsError T.t_RightsError (ok_RightsError_init T) (hr.mono (by omega)) T.d_RightsError_init.b .nil pass0 (by rfl) T.g_RightsError (pa_cons pe_str pa_nil)))) pss_nil)))), ?_⟩
  walk_at "r"
  refine ⟨S, pf, xs, fs, rfl, al, hL, hF, hz, fun p1 ys1 H1 n1 e1 f1 D1 nw => ?_⟩
  have na1 : p1 ≠ a := fun z => by rw [z, fa] at n1; cases n1
  walk_at "r"
  refine a_put T.c_Program T.n_Program_functions (e1 _ _ fa) (by decide) ?_
  have g2 : dl S (upd H1 a (.ins T.C_Program dx (putF "functions" (.ref p1) []))) = dl S H1 := dl_upd ha
  have al2 : Al S (upd H1 a (.ins T.C_Program dx (putF "functions" (.ref p1) []))) := (al.ex e1).upd
  have k2 : Ks [a] H (upd H1 a (.ins T.C_Program dx (putF "functions" (.ref p1) []))) := (Ks.of e1).upd (by simp)
  have k02 : Ks [a] H1 (upd H1 a (.ins T.C_Program dx (putF "functions" (.ref p1) []))) := (Ks.refl _ _).upd (by simp)
  have f2 : (upd H1 a (.ins T.C_Program dx (putF "functions" (.ref p1) []))) a = some (.ins T.C_Program dx (putF "functions" (.ref p1) [])) := upd_same
  have f2p : (upd H1 a (.ins T.C_Program dx (putF "functions" (.ref p1) []))) p1 = some (.lst ys1) := by rw [upd_ne na1]; exact f1
  generalize upd H1 a (.ins T.C_Program dx (putF "functions" (.ref p1) [])) = H2 at g2 al2 k2 k02 f2 f2p ⊢
  have e02 : Ex (dl S H) (dl S H2) := by rw [g2]; exact dl_ex e1
  rw [← g2] at D1
  walk_at "r"
  refine ⟨S, ps, ss, rfl, al2, hsx.up e02, fun p2 ys2 H3 n3 e3 f3 D3 => ?_⟩
  have na2 : p2 ≠ a := fun z => by rw [z, f2] at n3; cases n3
  walk_at "r"
  refine a_put T.c_Program T.n_Program_statements (e3 _ _ f2) (put1_lt _ _) ?_
  have g4 : dl S (upd H3 a (.ins T.C_Program dx (pgF p1 p2))) = dl S H3 := dl_upd ha
  have k4 : Ks [a] H (upd H3 a (.ins T.C_Program dx (pgF p1 p2))) := (k2.trans (Ks.of e3)).upd (by simp)
  have k24 : Ks [a] H2 (upd H3 a (.ins T.C_Program dx (pgF p1 p2))) := (Ks.of e3).upd (by simp)
  have f4 : (upd H3 a (.ins T.C_Program dx (pgF p1 p2))) a = some (.ins T.C_Program dx (pgF p1 p2)) := upd_same
  have f4p : (upd H3 a (.ins T.C_Program dx (pgF p1 p2))) p1 = some (.lst ys1) := by rw [upd_ne na1]; exact e3 _ _ f2p
  have f4q : (upd H3 a (.ins T.C_Program dx (pgF p1 p2))) p2 = some (.lst ys2) := by rw [upd_ne na2]; exact f3
  change (fun Hc => _) (upd H3 a (.ins T.C_Program dx (pgF p1 p2)))
  generalize upd H3 a (.ins T.C_Program dx (pgF p1 p2)) = H4 at g4 k4 k24 f4 f4p f4q ⊢
  rw [← g4] at D3
  have D1' : FnAll K T.C_Function (dl S H4) ys1 fs := D1.up (by rw [g4]; exact dl_ex e3)
  walk_at "r"
  refine a_get T.c_Program T.n_Program_functions f4 (pg_fns _ _) ?_
  walk_at "r"
  refine a_get T.c_Program T.n_Program_statements f4 (pg_sts _ _) ?_
  walk_at "r"
  refine ⟨p1, p2, ys1, fs, ss, rfl, SqL.of f4p, D1'.up (dl_le S H4), hz, ⟨⟨ys2, SqL.of f4q, dpa_ex (dl_le S H4) D3⟩, hsx.sm, hsx.le⟩, fun H5 e5 => ?_⟩
  walk_at "r"
  refine ite2 (fun c => ?_) (fun c => ?_)
  · have c' : progD fs ss = false := by
      cases y : progD fs ss with
      | false => rfl
      | true => rw [y] at c; cases c
    walk_at "r"
    refine mko_re fun d H6 n6 e6 f6 => ?_
    refine q2 c' d H6 ((k4.trans (Ks.of e5)).trans (Ks.of e6)) ?_ f6
    refine ks_none (k4.trans (Ks.of e5)) n6 ?_
    have := e5 _ _ f4
    rw [List.mem_singleton]
    rintro rfl
    rw [this] at n6
    cases n6
  · have c' : progD fs ss = true := by
      cases y : progD fs ss with
      | true => rfl
      | false => rw [y] at c; exact absurd rfl c
    walk_at "r"
    have KH : Ks [a] H1 H5 := (k02.trans k24).trans (Ks.of e5)
    exact q1 c' p1 p2 ys1 ys2 H5 (k4.trans (Ks.of e5)) n1 (ks_none k2 n3 (by simpa using na2)) (e5 _ _ f4) (e5 _ _ f4p) (D1'.up (dl_ex e5)) (fun v hv => (nw v hv).ks fa KH) (e5 _ _ f4q) (dpa_ex (dl_ex e5) D3)

end
section
variable {P : Program} {w : World} {K : PySem.W.Frag} {mg : Str → Option Value} {base : Heap}
/-! ### the row and the draws -/
def pCell (K : PySem.W.Frag) : Sp := fun vs H Q _ => ∃ (a : Addr) (ns : List Int) (k : Int), vs = [.ref a, .int k] ∧ SqL K H a (ns.map V.int) ∧ 0 ≤ k ∧ ∀ v : Int, Q (.int v) H
theorem ok__law_cell (T : Tx K mg) : FnOk P w K mg base CX0 1 T.a__law_cell T.e__law_cell p__law_cell (pCell K) := by
  refine T.d__law_cell.F.ok sc__law_cell (fun vs H Q E h => ?_) (fun cdv A outer s H vs Q E hr h => ?_)
  · obtain ⟨a, ns, k, rfl, _⟩ := h
    rfl
  obtain ⟨a, ns, k, rfl, hS, h0, q⟩ := h
  refine ⟨_, (pss_cons (ps_if (pt_cmpR op_lt (pv 1) (pe_callB (lenK K) (by rfl) T.b_len PySem.boot_len (pa_cons (pv 0) pa_nil)) (nomark _)) (pss_one (ps_ret (pe_ix (ixL K) (pv 0) (pv 1) (fun _ _ => rfl)))) pss_nil)
    (pss_one (ps_ret pe_int))), ?_⟩
  walk_at "r"
  refine a_lenL hS ?_
  walk_at "r"
  refine ite2 (fun c => ?_) (fun c => ?_)
  · have c' : k < ((ns.map V.int).length : Int) := of_decide_eq_true c
    walk_at "r"
    have hk : k.toNat < ns.length := by rw [List.length_map] at c'; omega
    have ek : k = ((k.toNat : Nat) : Int) := by omega
    refine a_ixL (v := .int ns[k.toNat]) hS ?_ (q _)
    have g : atI (ns.map V.int) ((k.toNat : Nat) : Int) = some (.int ns[k.toNat]) := atI_nat (by rw [List.getElem?_map]; simp [hk])
    rw [← ek] at g
    exact g
  · walk_at "r"
    exact q _
def pRow (K : PySem.W.Frag) : Sp := fun vs H Q _ => ∃ (a : Addr) (ns : List Int) (l : Int), vs = [.ref a, .int 0, .int l] ∧ SqL K H a (ns.map V.int) ∧ 0 ≤ l ∧ l ≤ 63 ∧
  ∀ p H' (rs : List Int), H p = none → Ex H H' → H' p = some (.lst (rs.map V.int)) → rs.length ≤ 100000 → Q (.ref p) H'
theorem map_snoc (rs : List Int) (v : Int) : rs.map V.int ++ [.int v] = (rs ++ [v]).map V.int := by rw [List.map_append]; rfl
theorem ok__law_row (T : Tx K mg) : FnOk P w K mg base CX0 2 T.a__law_row T.e__law_row p__law_row (pRow K) := by
  refine T.d__law_row.F.ok sc__law_row (fun vs H Q E h => ?_) (fun cdv A outer s H vs Q E hr h => ?_)
  · obtain ⟨a, ns, l, rfl, _⟩ := h
    rfl
  obtain ⟨a, ns, l, rfl, hS, h0, h1, q⟩ := h
  refine ⟨_, (pss_cons (ps_set (i := 3) sc__law_row.nd rfl (.inl rfl) (pe_lst pa_nil))
    (pss_cons (ps_for PassesOwn.never rfl (pi_range2 (by rfl) T.b_range (pa_cons (pv 1) (pa_cons (pv 2) pa_nil))) (pg_name (i := 4) sc__law_row.nd rfl (.inl rfl)) (pss_cons (ps_set (i := 5) sc__law_row.nd rfl (.inl rfl) (pe_call (ok__law_cell T) (hr.mono (by omega)) (by rfl) T.d__law_cell.m T.d__law_cell.F.kp T.d__law_cell.b .nil pass0 (pa_cons (pv 0) (pa_cons (pv 4) pa_nil))))
    (pss_cons (ps_set (i := 5) sc__law_row.nd rfl (.inl rfl) (pe_op op_add (pe_callB k_abs (by rfl) T.b_abs (by decide +kernel) (pa_cons (pe_op op_mul pe_int (pv 5)) pa_nil)) (pe_callTy k_int (by rfl) T.b_int (by decide +kernel) (pa_cons (pe_cmpR op_lt (pv 5) pe_int (nomark _)) pa_nil))))
    (pss_one (ps_if (pt_cmpR op_gt (pv 5) (pe_op op_pow pe_int pe_int) (nomark _)) (pss_one (ps_for PassesOwn.never rfl (pi_range1 (by rfl) T.b_range (pa_cons pe_int pa_nil)) (pg_name (i := 6) sc__law_row.nd rfl (.inl rfl)) (pss_one (ps_if (pt_cmpR op_gt (pv 5) pe_int (nomark _)) (pss_cons (ps_expr (pe_bm PySem.F.plainAttrs_list PySem.F.slot_list_append PySem.F.type_list_append mt_append (pv 3) (pa_cons (pe_op op_mod (pe_callTy k_int (by rfl) T.b_int (by decide +kernel) (pa_cons (pv 5) pa_nil)) pe_int) pa_nil)))
    (pss_one (ps_set (i := 5) sc__law_row.nd rfl (.inl rfl) (pe_op op_fdiv (pv 5) pe_int)))) pss_nil)))) (pss_one (ps_for PassesOwn.never rfl (pi_range1 (by rfl) T.b_range (pa_cons pe_int pa_nil)) (pg_name (i := 6) sc__law_row.nd rfl (.inl rfl)) (pss_cons (ps_set (i := 5) sc__law_row.nd rfl (.inl rfl) (pe_op op_mod (pe_callTy k_int (by rfl) T.b_int (by decide +kernel) (pa_cons (pe_op op_add (pe_op op_add (pe_op op_mul (pv 5) pe_int) (pe_op op_mul pe_int (pe_op op_add (pv 4) (pv 6)))) pe_int) pa_nil)) pe_int))
    (pss_one (ps_expr (pe_bm PySem.F.plainAttrs_list PySem.F.slot_list_append PySem.F.type_list_append mt_append (pv 3) (pa_cons (pe_op op_mod (pe_callTy k_int (by rfl) T.b_int (by decide +kernel) (pa_cons (pe_op op_fdiv (pv 5) pe_int) pa_nil)) pe_int) pa_nil))))))))))))
    (pss_one (ps_ret (pv 3))))), ?_⟩
  walk_at "r"
  refine new_lst (xs := []) (by simp) fun p H1 n1 e1 f1 => ?_
  walk_at "r"
  refine r_R2 (by omega) ?_
  refine lp_range (fun k σ h => ∃ x y z, ∃ rs : List Int, σ = [some (.ref a), some (.int 0), some (.int l), some (.ref p), x, y, z] ∧ Ex H h ∧ h p = some (.lst (rs.map V.int)) ∧ rs.length ≤ 100 * k)
    ⟨_, _, _, [], rfl, e1, f1, by simp⟩ ?_ ?_
  · rintro k σ h hk ⟨x, y, z, rs, rfl, e2, f2, z2⟩
    walk_at "r"
    refine ⟨a, ns, _, rfl, ex_sl hS e2, by omega, fun v => ?_⟩
    walk_at "r"
    refine w_I (.inl ⟨by decide, by decide⟩) ?_
    walk_at "r"
    generalize (if 2 * v < 0 then -(2 * v) else 2 * v) + (if decide (v < 0) = true then 1 else 0) = c0
    refine w_I ⟨by decide, by decide, by decide⟩ ?_
    walk_at "r"
    refine ite2 (fun _ => ?_) (fun _ => ?_)
    · walk_at "r"
      refine r_R1 (by omega) ?_
      refine lp_range (fun m σ h' => ∃ z, ∃ rs' : List Int, ∃ c : Int, σ = [some (.ref a), some (.int 0), some (.int l), some (.ref p), some (.int (0 + (k : Int))), some (.int c), z] ∧ Ex H h' ∧ h' p = some (.lst (rs'.map V.int)) ∧ rs'.length ≤ 100 * k + m)
        ⟨_, rs, c0, rfl, e2, f2, by omega⟩ ?_ ?_
      · rintro m σ h' hm ⟨z', rs', c, rfl, e3, f3, z3⟩
        walk_at "r"
        refine ite2 (fun _ => ?_) (fun _ => ?_)
        · walk_at "r"
          refine ⟨a_ty f3, ?_⟩
          walk_at "r"
          walk_at "r"
          refine w_I (by decide) ?_
          walk_at "r"
          have hm' : m < 60 := hm
          have hk' : k < 63 := by omega
          refine a_app f3 (by rw [List.length_map]; omega) ?_
          walk_at "r"
          refine w_I ⟨by decide, by decide⟩ ?_
          walk_at "r"
          refine ⟨_, rs' ++ [c % 840], _, rfl, e3.mut n1, by rw [upd_same, map_snoc], by rw [List.length_append]; simp; omega⟩
        · walk_at "r"
          exact ⟨_, rs', c, rfl, e3, f3, by omega⟩
      · rintro σ h' ⟨z', rs', c, rfl, e3, f3, z3⟩
        have z4 : rs'.length ≤ 100 * k + 60 := z3
        exact ⟨_, _, _, rs', rfl, e3, f3, by omega⟩
    · walk_at "r"
      refine r_R1 (by omega) ?_
      refine lp_range (fun m σ h' => ∃ z, ∃ rs' : List Int, ∃ c : Int, σ = [some (.ref a), some (.int 0), some (.int l), some (.ref p), some (.int (0 + (k : Int))), some (.int c), z] ∧ Ex H h' ∧ h' p = some (.lst (rs'.map V.int)) ∧ rs'.length ≤ 100 * k + m)
        ⟨_, rs, c0, rfl, e2, f2, by omega⟩ ?_ ?_
      · rintro m σ h' hm ⟨z', rs', c, rfl, e3, f3, z3⟩
        walk_at "r"
        refine w_I (.inr ⟨by decide, by decide⟩) ?_
        walk_at "r"
        refine w_I (.inl ⟨by decide, by decide⟩) ?_
        walk_at "r"
        walk_at "r"
        refine w_I (by decide) ?_
        walk_at "r"
        refine ⟨a_ty f3, ?_⟩
        walk_at "r"
        refine w_I ⟨by decide, by decide⟩ ?_
        walk_at "r"
        refine w_I (by decide) ?_
        walk_at "r"
        have hm' : m < 10 := hm
        have hk' : k < 63 := by omega
        refine a_app f3 (by rw [List.length_map]; omega) ?_
        walk_at "r"
        exact ⟨_, rs' ++ [_], _, rfl, e3.mut n1, by rw [upd_same, map_snoc], by rw [List.length_append]; simp; omega⟩
      · rintro σ h' ⟨z', rs', c, rfl, e3, f3, z3⟩
        have z4 : rs'.length ≤ 100 * k + 10 := z3
        exact ⟨_, _, _, rs', rfl, e3, f3, by omega⟩
  · rintro σ h ⟨x, y, z, rs, rfl, e2, f2, z2⟩
    walk_at "r"
    exact q p h rs n1 e2 f2 (by omega)
def pDraw : Sp := fun vs H Q _ => ∃ (b r : Addr) (m : Int), vs = [.ref b, .int m] ∧ Bx H b r ∧ 0 < m ∧ ∀ v H', 0 ≤ v → v < m → Ks [b] H H' → Bx H' b r → Q (.int v) H'
theorem ap_draw {H : Hp} {Q : VK} {E : XK} {b r : Addr} {m : Int} (h : Bx H b r) (hm : 0 < m) (k : ∀ v H', 0 ≤ v → v < m → Ks [b] H H' → Bx H' b r → Q (.int v) H') : pDraw [.ref b, .int m] H Q E := ⟨b, r, m, rfl, h, hm, k⟩
theorem ok__law_draw (T : Tx K mg) : FnOk P w K mg base CX0 1 T.a__law_draw T.e__law_draw p__law_draw pDraw := by
  refine T.d__law_draw.F.ok sc__law_draw (fun vs H Q E h => ?_) (fun cdv A outer s H vs Q E hr h => ?_)
  · obtain ⟨b, r, m, rfl, _⟩ := h
    rfl
  obtain ⟨b, r, m, rfl, hb, hm, q⟩ := h
  have nrb := bx_rb hb
  obtain ⟨n, ns, hb, hR, hz⟩ := hb
  refine ⟨_, (pss_cons (ps_set (i := 2) sc__law_draw.nd rfl (.inl rfl) (pe_ix (ixL K) (pv 0) pe_int (fun _ _ => rfl)))
    (pss_cons (ps_asg (pe_op op_add (pv 2) pe_int) (pg_sub (pv 0) pe_int set_list))
    (pss_cons (ps_if (pt_cmpR op_lt (pv 2) (pe_callB (lenK K) (by rfl) T.b_len PySem.boot_len (pa_cons (pe_ix (ixL K) (pv 0) pe_int (fun _ _ => rfl)) pa_nil)) (nomark _)) (pss_one (ps_ret (pe_op op_mod (pe_callTy k_int (by rfl) T.b_int (by decide +kernel) (pa_cons (pe_ix (ixL K) (pe_ix (ixL K) (pv 0) pe_int (fun _ _ => rfl)) (pv 2) (fun _ _ => rfl)) pa_nil)) (pv 1)))) pss_nil)
    (pss_one (ps_ret (pe_op op_mod (pe_callTy k_int (by rfl) T.b_int (by decide +kernel) (pa_cons (pe_op op_add (pe_op op_mul (pv 2) pe_int) pe_int) pa_nil)) (pv 1))))))), ?_⟩
  walk_at "r"
  refine a_ixL (v := .int n) (SqL.of hb) rfl ?_
  walk_at "r"
  refine a_setL (j := 1) hb (show 1 < 2 by decide) ?_
  have fb : upd H b (.lst [.ref r, .int ((n : Int) + 1)]) b = some (.lst [.ref r, .int (((n + 1 : Nat)) : Int)]) := by rw [upd_same]; simp
  have fr : upd H b (.lst [.ref r, .int ((n : Int) + 1)]) r = some (.lst (ns.map V.int)) := by rw [upd_ne nrb]; exact hR
  have ek : Ks [b] H (upd H b (.lst [.ref r, .int ((n : Int) + 1)])) := (Ks.refl _ _).upd (by simp)
  change tSeq _ _ _ _ (upd H b (.lst [.ref r, .int ((n : Int) + 1)]))
  generalize upd H b (.lst [.ref r, .int ((n : Int) + 1)]) = H1 at fb fr ek ⊢
  have hB : Bx H1 b r := ⟨n + 1, ns, fb, fr, hz⟩
  walk_at "r"
  refine a_ixL (v := .ref r) (SqL.of fb) rfl ?_
  walk_at "r"
  refine a_lenL (SqL.of fr) ?_
  walk_at "r"
  refine ite2 (fun c => ?_) (fun c => ?_)
  · have c' : (n : Int) < ((ns.map V.int).length : Int) := of_decide_eq_true c
    rw [List.length_map] at c'
    have hn : n < ns.length := by omega
    walk_at "r"
    refine a_ixL (v := .ref r) (SqL.of fb) rfl ?_
    walk_at "r"
    refine a_ixL (v := .int ns[n]) (SqL.of fr) (atI_nat (by rw [List.getElem?_map]; simp [hn])) ?_
    walk_at "r"
    refine w_I hm ?_
    exact q _ H1 (Int.emod_nonneg _ (by omega)) (Int.emod_lt_of_pos _ hm) ek hB
  · walk_at "r"
    refine w_I (.inr ⟨by decide, by decide⟩) ?_
    walk_at "r"
    walk_at "r"
    refine w_I hm ?_
    exact q _ H1 (Int.emod_nonneg _ (by omega)) (Int.emod_lt_of_pos _ hm) ek hB
/-! ### the law's own: rights drawn -/
def pRight : Sp := fun vs H Q _ => ∃ (b r : Addr), vs = [.ref b] ∧ Bx H b r ∧ ∀ (x : R) H', Ks [b] H H' → Bx H' b r → Q (.str x.s) H'
theorem ok__law_right (T : Tx K mg) : FnOk P w K mg base CX0 2 T.a__law_right T.e__law_right p__law_right pRight := by
  refine T.d__law_right.F.ok sc__law_right (fun vs H Q E h => ?_) (fun cdv A outer s H vs Q E hr h => ?_)
  · obtain ⟨b, r, rfl, _⟩ := h
    rfl
  obtain ⟨b, r, rfl, hb, q⟩ := h
  refine ⟨_, (pss_one (ps_ret (pe_ix (ixL K) (pe_lst (pa_cons pe_str (pa_cons pe_str (pa_cons pe_str (pa_cons pe_str (pa_cons pe_str (pa_cons pe_str pa_nil))))))) (pe_call (ok__law_draw T) (hr.mono (by omega)) (by rfl) T.d__law_draw.m T.d__law_draw.F.kp T.d__law_draw.b .nil pass0 (pa_cons (pv 0) (pa_cons pe_int pa_nil))) (fun _ _ => rfl)))), ?_⟩
  walk_at "r"
  refine new_lst (xs := [_, _, _, _, _, _]) (by simp) fun p H1 n1 e1 f1 => ?_
  walk_at "r"
  refine ap_draw (bx_ex hb e1) (by decide) fun v H2 h0 h1 e2 b2 => ?_
  walk_at "r"
  have f2 : H2 p = some (.lst (tv [.rw, .rw, .r, .w, .n, .rw])) := by walk_at "tr"
  obtain ⟨k, rfl⟩ : ∃ k : Nat, v = (k : Int) := ⟨v.toNat, by omega⟩
  have hk : k < 6 := by omega
  have hx : ∃ x, [R.rw, .rw, .r, .w, .n, .rw][k]? = some x := ⟨_, List.getElem?_eq_getElem hk⟩
  obtain ⟨x, hx⟩ := hx
  refine a_ixL (v := .str x.s) (SqL.of f2) (atI_nat (tv_at hx)) ?_
  exact q x H2 (by walk_at "ks") b2
def pRights (K : PySem.W.Frag) : Sp := fun vs H Q _ => ∃ (b r : Addr) (m : Int), vs = [.ref b, .int m] ∧ Bx H b r ∧ 0 ≤ m ∧ m ≤ 1000 ∧ ∀ p (xs : List R) H', H p = none → p ≠ b → p ≠ r → (xs.length : Int) = m → Ks [b] H H' → Bx H' b r → Tu H' p (tv xs) → Q (.ref p) H'
theorem tv_snoc (xs : List R) (x : R) : tv xs ++ [.str x.s] = tv (xs ++ [x]) := by unfold tv; rw [List.map_append]; rfl
theorem ok__law_rights (T : Tx K mg) : FnOk P w K mg base CX0 3 T.a__law_rights T.e__law_rights p__law_rights (pRights K) := by
  refine T.d__law_rights.F.ok sc__law_rights (fun vs H Q E h => ?_) (fun cdv A outer s H vs Q E hr h => ?_)
  · obtain ⟨b, r, m, rfl, _⟩ := h
    rfl
  obtain ⟨b, r, m, rfl, hb, h0, h1, q⟩ := h
  refine ⟨_, (pss_one (ps_ret (pe_callTy (tupFK K) (by rfl) T.b_tuple (by decide +kernel) (pa_cons (pe_lc (own := [("k", 2)]) (g := gName 2) rfl sc__law_rights.nd  (pi_range1 (by rfl) T.b_range (pa_cons (pv 1) pa_nil)) (blkOk_by (own := [("k", 2)]) (N := n__law_rights) (sc := defScope s__law_rights) (by decide +kernel)) (fun _ _ _ _ _ => (pg_name (i := 2) sc__law_rights.nd rfl (Or.inl rfl))) (fun _ _ _ _ _ => pts_nil) (fun _ _ _ _ _ => (pe_call (ok__law_right T) (hr.mono (by omega)) (by rfl) T.d__law_right.m T.d__law_right.F.kp T.d__law_right.b .nil pass0 (pa_cons (pv 0) pa_nil)))) pa_nil)))), ?_⟩
  walk_at "r"
  refine c_R1 (by omega) ?_
  refine cp_range (fun p k h => ∃ xs : List R, xs.length = k ∧ h p = some (.lst (tv xs)) ∧ Ks [b] H h ∧ Bx h b r) (fun p n => ⟨[], rfl, upd_same, Ks.of (Ex.new n), bx_ex hb (Ex.new n)⟩) ?_ ?_
  · rintro p k h np hk ⟨xs, hl, f, e, b1⟩
    have nb : p ≠ b := (bx_nb hb np).symm
    walk_at "r"
    refine ⟨rfl, ?_⟩
    walk_at "r"
    refine ⟨b, r, rfl, b1, fun x H2 e2 b2 => ?_⟩
    have f2 : H2 p = some (.lst (tv xs)) := by walk_at "tr"
    refine ⟨tv xs, f2, sz_lt (by rw [tv_len]; omega), xs ++ [x], by simp [hl], by rw [upd_same, tv_snoc], ?_, ?_⟩
    · exact (e.trans e2).mut np
    · exact bx_ks (S := [p]) b2 (fun a o n q => by rw [upd_ne (fun z => n (by rw [z]; simp))]; exact q) (nin_cons (bx_nb hb np) nin_nil) (nin_cons (bx_nr hb np) nin_nil)
  · rintro p h np ⟨xs, hl, f, e, b1⟩
    walk_at "r"
    refine a_tupFL (SqL.of f) fun p2 H2 n2 e2 f2 => ?_
    have n3 : H p2 = none := by
      cases z : H p2 with
      | none => rfl
      | some o =>
        by_cases zb : p2 = b
        · obtain ⟨_, _, g, _⟩ := b1
          rw [← zb, n2] at g
          cases g
        · rw [e p2 o (nin_cons zb nin_nil) z] at n2
          cases n2
    exact q p2 xs H2 n3 (bx_nb hb n3).symm (bx_nr hb n3).symm (by omega) (by walk_at "ks") (bx_ex b1 e2) f2
/-! ### the program: within, behind, converts, are_alike, plain -/
theorem fn_none {k : Nat} {f : Addr} {fd : FuncData} {ps : List Str} {sp : Sp} (no : ∀ vs H Q E, ¬ sp vs H Q E) : FnOk P w K mg base CX0 k f fd ps sp :=
  ⟨fun vs H Q E h => absurd h (no vs H Q E), fun _ _ _ _ _ _ _ _ _ _ _ _ _ h => absurd h (no _ _ _ _)⟩
/-- a loop over a written pair -/
theorem lp_two {p : Addr} {a b : V} {σ : L2.St} {H : Hp} {g : TG} {ts : TS} {D : Ends} (ht : ∀ h, SqT K h p [a, b]) (P0 P1 P2 : L2.St → Hp → Prop) (h0 : P0 σ H)
    (s0 : ∀ s h, P0 s h → g a s h fun s2 h2 => ts { D with nx := P1, ct := P1, bk := D.nx } s2 h2) (s1 : ∀ s h, P1 s h → g b s h fun s2 h2 => ts { D with nx := P2, ct := P2, bk := D.nx } s2 h2)
    (hd : ∀ s h, P2 s h → D.nx s h) : LoopG (Itt K p) g ts D σ H := by
  refine lp_tup (xs := [a, b]) (fun k => match k with | 0 => P0 | 1 => P1 | _ => P2) h0 (fun k s h _ _ => ht h) (fun k x s h hx hp => ?_) hd
  match k, hx, hp with
  | 0, hx, hp => exact (Option.some.inj hx) ▸ s0 s h hp
  | 1, hx, hp => exact (Option.some.inj hx) ▸ s1 s h hp
  | k + 2, hx, _ => simp at hx
def pWithin : Sp := fun vs H Q _ => ∃ a b : R, vs = [.str a.s, .str b.s] ∧ Q (.bl (wi a b)) H
theorem ok_within (T : Tx K mg) : FnOk P w K mg base CX0 1 T.a_within T.e_within p_within pWithin := by
  refine T.d_within.F.ok sc_within (fun vs H Q E h => ?_) (fun cdv A outer s H vs Q E hr h => ?_)
  · obtain ⟨a, b, rfl, _⟩ := h
    rfl
  obtain ⟨a, b, rfl, q⟩ := h
  refine ⟨_, (pss_cons (ps_for PassesOwn.never rfl (ptK K (pe_glob (v := .ref T.a_LETTERS) (by rfl) T.m_LETTERS rfl)) (pg_name (i := 2) sc_within.nd rfl (.inl rfl)) (pss_one (ps_if (PW.pt (pw_and (pt_cmpR k_inS (pv 2) (pv 0) (by rfl)) (pw_and1 (pt_cmpR k_ninS (pv 2) (pv 1) (by rfl))))) (pss_one (ps_ret pe_bl)) pss_nil)))
    (pss_one (ps_ret pe_bl))), ?_⟩
  walk_at "r"
  refine r_T (T.t_LETTERS _) ?_
  refine lp_two T.t_LETTERS (fun σ h => σ = [some (.str a.s), some (.str b.s), none] ∧ h = H) (fun σ h => σ = [some (.str a.s), some (.str b.s), some (.str "r")] ∧ h = H ∧ (!a.hr || b.hr) = true) (fun σ h => h = H ∧ (!a.hr || b.hr) = true ∧ (!a.hw || b.hw) = true) ⟨rfl, rfl⟩ ?_ ?_ ?_
  · rintro σ h ⟨rfl, rfl⟩
    walk_at "r"
    refine a_inS (in_r a) ?_
    walk_at "r"
    refine ite2 (fun c => ?_) (fun c => ?_)
    · walk_at "r"
      refine a_ninS (in_r b) ?_
      walk_at "r"
      refine ite2 (fun d => ?_) (fun d => ?_)
      · walk_at "r"
        have e : wi a b = false := by
          unfold wi
          rw [c, (by simpa using d : b.hr = false)]
          rfl
        rw [← e]
        exact q
      · walk_at "r"
        exact ⟨rfl, rfl, by rw [c, (by simpa using d : b.hr = true)]; rfl⟩
    · walk_at "r"
      exact ⟨rfl, rfl, by rw [(by simpa using c : a.hr = false)]; rfl⟩
  · rintro σ h ⟨rfl, rfl, g1⟩
    walk_at "r"
    refine a_inS (in_w a) ?_
    walk_at "r"
    refine ite2 (fun c => ?_) (fun c => ?_)
    · walk_at "r"
      refine a_ninS (in_w b) ?_
      walk_at "r"
      refine ite2 (fun d => ?_) (fun d => ?_)
      · walk_at "r"
        have e : wi a b = false := by
          unfold wi
          rw [c, (by simpa using d : b.hw = false)]
          simp
        rw [← e]
        exact q
      · walk_at "r"
        exact ⟨rfl, g1, by rw [c, (by simpa using d : b.hw = true)]; rfl⟩
    · walk_at "r"
      exact ⟨rfl, g1, by rw [(by simpa using c : a.hw = false)]; rfl⟩
  · rintro σ h ⟨rfl, g1, g2⟩
    walk_at "r"
    have e : wi a b = true := by
      unfold wi
      rw [g1, g2]
      rfl
    rw [← e]
    exact q
/-- what behind hands back: a pair of the tails, turned about at w -/
def pBehind (K : PySem.W.Frag) : Sp := fun vs H Q _ => ∃ (a b : Addr) (x y : V) (xs ys : List V) (l : Bool), vs = [.ref a, .ref b, .str (if l then "r" else "w")] ∧ SqT K H a (x :: xs) ∧ SqT K H b (y :: ys) ∧
  ∀ p c d H', Ex H H' → H' p = some (.tup [.ref c, .ref d]) → SqT K H' c (if l then xs else ys) → SqT K H' d (if l then ys else xs) → Q (.ref p) H'
theorem ok_behind (T : Tx K mg) : FnOk P w K mg base CX0 1 T.a_behind T.e_behind p_behind (pBehind K) := by
  refine T.d_behind.F.ok sc_behind (fun vs H Q E h => ?_) (fun cdv A outer s H vs Q E hr h => ?_)
  · obtain ⟨a, b, x, y, xs, ys, l, rfl, _⟩ := h
    rfl
  obtain ⟨a, b, x, y, xs, ys, l, rfl, ha, hb, q⟩ := h
  refine ⟨_, (pss_cons (ps_if (pt_cmpR op_eq (pv 2) pe_str (nomark _)) (pss_one (ps_ret (pe_tup (pa_cons (pe_slice (slA K) (pv 0) (po_some pe_int) po_none) (pa_cons (pe_slice (slA K) (pv 1) (po_some pe_int) po_none) pa_nil))))) pss_nil)
    (pss_one (ps_ret (pe_tup (pa_cons (pe_slice (slA K) (pv 1) (po_some pe_int) po_none) (pa_cons (pe_slice (slA K) (pv 0) (po_some pe_int) po_none) pa_nil)))))), ?_⟩
  walk_at "r"
  cases l with
  | true =>
    refine ite2 (fun c => ?_) (fun c => absurd (show decide (("r" : Str) = "r") = true from by decide) c)
    walk_at "r"
    refine a_slT1 ha fun c H1 n1 e1 f1 => ?_
    walk_at "r"
    refine a_slT1 (ex_st hb e1) fun d H2 n2 e2 f2 => ?_
    walk_at "r"
    refine new_tup (xs := [_, _]) (by simp) fun p H3 n3 e3 f3 => ?_
    exact q p c d H3 (by walk_at "ex") f3 (by walk_at "st") (by walk_at "st")
  | false =>
    refine ite2 (fun c => absurd (show decide (("w" : Str) = "r") = true from c) (by decide)) (fun c => ?_)
    walk_at "r"
    refine a_slT1 hb fun c H1 n1 e1 f1 => ?_
    walk_at "r"
    refine a_slT1 (ex_st ha e1) fun d H2 n2 e2 f2 => ?_
    walk_at "r"
    refine new_tup (xs := [_, _]) (by simp) fun p H3 n3 e3 f3 => ?_
    exact q p c d H3 (by walk_at "ex") f3 (by walk_at "st") (by walk_at "st")
def pCv (K : PySem.W.Frag) (n : Nat) : Sp := fun vs H Q _ => ∃ (a b : Addr) (xs ys : List R), vs = [.ref a, .ref b] ∧ SqT K H a (tv xs) ∧ SqT K H b (tv ys) ∧ xs.length < n ∧ RV1 (.bl (cv xs ys)) H Q
theorem tv_cons (x : R) (xs : List R) : tv (x :: xs) = .str x.s :: tv xs := rfl
theorem ok_converts (T : Tx K mg) : ∀ n : Nat, FnOk P w K mg base CX0 (n + 1) T.a_converts T.e_converts p_converts (pCv K n)
  | 0 => fn_none fun vs H Q E h => by
    obtain ⟨a, b, xs, ys, _, _, _, h, _⟩ := h
    omega
  | n + 1 => by
    have ih : FnOk P w K mg base CX0 (n + 1) T.a_converts T.e_converts p_converts (pCv K n) := ok_converts T n
    refine T.d_converts.F.ok sc_converts (fun vs H Q E h => ?_) (fun cdv A outer s H vs Q E hr h => ?_)
    · obtain ⟨a, b, xs, ys, rfl, _⟩ := h
      rfl
    obtain ⟨a, b, xs, ys, rfl, ha, hb, hn, q⟩ := h
    refine ⟨_, (pss_cons (ps_if (pt_cmpR op_ne (pe_callB (lenK K) (by rfl) T.b_len PySem.boot_len (pa_cons (pv 0) pa_nil)) (pe_callB (lenK K) (by rfl) T.b_len PySem.boot_len (pa_cons (pv 1) pa_nil)) (nomark _)) (pss_one (ps_ret pe_bl)) pss_nil)
    (pss_cons (ps_if (pt_cmpR op_eq (pe_callB (lenK K) (by rfl) T.b_len PySem.boot_len (pa_cons (pv 0) pa_nil)) pe_int (nomark _)) (pss_one (ps_ret pe_bl)) pss_nil)
    (pss_cons (ps_if (pt_not (pt_val (pe_call (ok_within T) (hr.mono (by omega)) (by rfl) T.d_within.m T.d_within.F.kp T.d_within.b .nil pass0 (pa_cons (pe_ix (ixT K) (pv 1) pe_int (fun _ _ => rfl)) (pa_cons (pe_ix (ixT K) (pv 0) pe_int (fun _ _ => rfl)) pa_nil))))) (pss_one (ps_ret pe_bl)) pss_nil)
    (pss_cons (ps_for PassesOwn.never rfl (ptK K (pe_glob (v := .ref T.a_LETTERS) (by rfl) T.m_LETTERS rfl)) (pg_name (i := 2) sc_converts.nd rfl (.inl rfl)) (pss_one (ps_if (pt_cmpR k_inS (pv 2) (pe_ix (ixT K) (pv 1) pe_int (fun _ _ => rfl)) (by rfl)) (pss_cons (ps_asg (pe_call (ok_behind T) (hr.mono (by omega)) (by rfl) T.d_behind.m T.d_behind.F.kp T.d_behind.b .nil pass0 (pa_cons (pv 0) (pa_cons (pv 1) (pa_cons (pv 2) pa_nil)))) (pg_tup (by rfl) (pgs_cons (pg_name (i := 3) sc_converts.nd rfl (.inl rfl)) (pgs_cons (pg_name (i := 4) sc_converts.nd rfl (.inl rfl)) pgs_nil))))
    (pss_one (ps_if (pt_not (pt_val (pe_call ih (hr.mono (by omega)) (by rfl) T.d_converts.m T.d_converts.F.kp T.d_converts.b .nil pass0 (pa_cons (pv 3) (pa_cons (pv 4) pa_nil))))) (pss_one (ps_ret pe_bl)) pss_nil))) pss_nil)))
    (pss_one (ps_ret pe_bl)))))), ?_⟩
    walk_at "r"
    refine a_lenT ha ?_
    walk_at "r"
    refine a_lenT hb ?_
    walk_at "r"
    refine ite2 (fun c => ?_) (fun c => ?_)
    · walk_at "r"
      have e : cv xs ys = false := cv_ne (by rw [tv_len, tv_len] at c; simp at c; omega)
      rw [← e]
      exact q _ (Ex.refl _)
    have hl : xs.length = ys.length := by rw [tv_len, tv_len] at c; simp at c; omega
    walk_at "r"
    refine a_lenT ha ?_
    walk_at "r"
    refine ite2 (fun c => ?_) (fun c => ?_)
    · walk_at "r"
      have h0 : xs.length = 0 := by rw [tv_len] at c; simpa using c
      have e1 : xs = [] := List.eq_nil_of_length_eq_zero h0
      have e2 : ys = [] := List.eq_nil_of_length_eq_zero (by omega)
      subst e1 e2
      rw [← cv_nil]
      exact q _ (Ex.refl _)
    match xs, ys, hl, ha, hb, hn, q, c with
    | [], _, _, _, _, _, _, c => exact absurd (by rfl) c
    | x :: xs, [], hl, _, _, _, _, _ => cases hl
    | x :: xs, y :: ys, hl, ha, hb, hn, q, _ =>
    have hl : xs.length = ys.length := by simpa using hl
    have hn : xs.length < n := by simpa using hn
    walk_at "r"
    refine a_ixT (v := .str y.s) hb (atI_nat (j := 0) rfl) ?_
    walk_at "r"
    refine a_ixT (v := .str x.s) ha (atI_nat (j := 0) rfl) ?_
    walk_at "r"
    refine ⟨y, x, rfl, ?_⟩
    walk_at "r"
    refine ite2 (fun c => ?_) (fun c => ?_)
    · walk_at "r"
      have e : cv (x :: xs) (y :: ys) = false := by
        rw [cv_cons hl, (by simpa using c : wi y x = false)]
        rfl
      rw [← e]
      exact q _ (Ex.refl _)
    have hw : wi y x = true := by simpa using c
    walk_at "r"
    refine r_T (T.t_LETTERS _) ?_
    refine lp_two T.t_LETTERS (fun σ h => (∃ u v z, σ = [some (.ref a), some (.ref b), u, v, z]) ∧ Ex H h) (fun σ h => (∃ u v z, σ = [some (.ref a), some (.ref b), u, v, z]) ∧ Ex H h ∧ (!y.hr || cv xs ys) = true) (fun σ h => Ex H h ∧ (!y.hr || cv xs ys) = true ∧ (!y.hw || cv ys xs) = true) ⟨⟨_, _, _, rfl⟩, Ex.refl _⟩ ?_ ?_ ?_
    · rintro σ h ⟨⟨u, v, z, rfl⟩, e1⟩
      have ha1 := ex_st ha e1
      have hb1 := ex_st hb e1
      walk_at "r"
      refine a_ixT (v := .str y.s) hb1 (atI_nat (j := 0) rfl) ?_
      refine a_inS (in_r y) ?_
      walk_at "r"
      refine ite2 (fun c => ?_) (fun c => ?_)
      · walk_at "r"
        refine ⟨a, b, _, _, tv xs, tv ys, true, rfl, ha1, hb1, fun p s1 s2 H2 e2 f2 g1 g2 => ?_⟩
        walk_at "r"
        refine w_gtup (SqT.of f2) rfl ?_
        walk_at "r"
        refine ⟨s1, s2, xs, ys, rfl, g1, g2, hn, fun H3 e3 => ?_⟩
        walk_at "r"
        refine ite2 (fun d => ?_) (fun d => ?_)
        · walk_at "r"
          have e : cv (x :: xs) (y :: ys) = false := by
            rw [cv_cons hl, hw, c, (by simpa using d : cv xs ys = false)]
            rfl
          rw [← e]
          exact q _ (by walk_at "ex")
        · walk_at "r"
          exact ⟨⟨_, _, _, rfl⟩, by walk_at "ex", by rw [c, (by simpa using d : cv xs ys = true)]; rfl⟩
      · walk_at "r"
        exact ⟨⟨_, _, _, rfl⟩, e1, by rw [(by simpa using c : y.hr = false)]; rfl⟩
    · rintro σ h ⟨⟨u, v, z, rfl⟩, e1, g0⟩
      have ha1 := ex_st ha e1
      have hb1 := ex_st hb e1
      walk_at "r"
      refine a_ixT (v := .str y.s) hb1 (atI_nat (j := 0) rfl) ?_
      refine a_inS (in_w y) ?_
      walk_at "r"
      refine ite2 (fun c => ?_) (fun c => ?_)
      · walk_at "r"
        refine ⟨a, b, _, _, tv xs, tv ys, false, rfl, ha1, hb1, fun p s1 s2 H2 e2 f2 g1 g2 => ?_⟩
        walk_at "r"
        refine w_gtup (SqT.of f2) rfl ?_
        walk_at "r"
        refine ⟨s1, s2, ys, xs, rfl, g1, g2, by omega, fun H3 e3 => ?_⟩
        walk_at "r"
        refine ite2 (fun d => ?_) (fun d => ?_)
        · walk_at "r"
          have e : cv (x :: xs) (y :: ys) = false := by
            rw [cv_cons hl, hw, g0, c, (by simpa using d : cv ys xs = false)]
            rfl
          rw [← e]
          exact q _ (by walk_at "ex")
        · walk_at "r"
          exact ⟨by walk_at "ex", g0, by rw [c, (by simpa using d : cv ys xs = true)]; rfl⟩
      · walk_at "r"
        exact ⟨e1, g0, by rw [(by simpa using c : y.hw = false)]; rfl⟩
    · rintro σ h ⟨e1, g0, g1⟩
      walk_at "r"
      have e : cv (x :: xs) (y :: ys) = true := by
        rw [cv_cons hl, hw, g0, g1]
        rfl
      rw [← e]
      exact q _ e1
/-! ### the law's own: converting, plain forms -/
theorem cp_str {σ : L2.St} {H : Hp} {g : TG} {t : TT} {te : TE} {Q : VK} {z : Str} {vs : List Nat} (I : Addr → Nat → Hp → Prop) (h0 : ∀ p, H p = none → I p 0 (upd H p (.lst [])))
    (hs : ∀ (p : Addr) (k : Nat) (c : Nat) (h : Hp), H p = none → z.cps[k]? = some c → I p k h → g (.str ⟨#[c]⟩) (wipe σ vs) h fun s2 h2 => wipe s2 vs = wipe σ vs ∧ t s2 h2 fun b h3 =>
      if b = true then te s2 h3 fun a h4 => ∃ acc, h4 p = some (.lst acc) ∧ acc.length < sizeLine ∧ I p (k + 1) (upd h4 p (.lst (acc ++ [a]))) else I p (k + 1) h3)
    (hd : ∀ p h, H p = none → I p z.cps.size h → Q (.ref p) h) : CompG (Its z) g t te vs σ H Q := fun p hp => by
  refine ⟨fun i m h => m = z.cps.size - i ∧ i ≤ z.cps.size ∧ I p i h, ⟨_, rfl, Nat.zero_le _, h0 p hp⟩, ?_⟩
  rintro i m h ⟨rfl, hi, q⟩
  by_cases hlt : i < z.cps.size
  · refine .inr ⟨hlt, I p (i + 1), fun h' q' => ⟨z.cps.size - (i + 1), by omega, rfl, hlt, q'⟩, fun x h' y => ?_⟩
    obtain ⟨e, c, y, e2⟩ := y
    subst e e2
    exact hs p i c _ hp y q
  · have e : i = z.cps.size := by omega
    subst e
    exact .inl ⟨Nat.le_refl _, hd p h hp q⟩
/-- the letters of a that b lacks -/
theorem lw_len (a b : R) : ((a.s.cps.toList.filter fun c => !decide (Str.mk #[c] = ("-" : Str)) && !(!(Builtin.Str.occurrences b.s (Str.mk #[c]) 0 b.s.length 1).isEmpty)).length == 0) = wi a b := by
  cases a <;> cases b <;> decide +kernel
def pLWithin : Sp := fun vs H Q _ => ∃ a b : R, vs = [.str a.s, .str b.s] ∧ RV1 (.bl (wi a b)) H Q
theorem ok__law_within (T : Tx K mg) : FnOk P w K mg base CX0 1 T.a__law_within T.e__law_within p__law_within pLWithin := by
  refine T.d__law_within.F.ok sc__law_within (fun vs H Q E h => ?_) (fun cdv A outer s H vs Q E hr h => ?_)
  · obtain ⟨a, b, rfl, _⟩ := h
    rfl
  obtain ⟨a, b, rfl, q⟩ := h
  refine ⟨_, (pss_one (ps_ret (pe_cmpR op_eq (pe_callB (lenK K) (by rfl) T.b_len PySem.boot_len (pa_cons (pe_lc (own := [("letter", 2)]) (g := gName 2) rfl sc__law_within.nd  (pi_str (pv 0)) (blkOk_by (own := [("letter", 2)]) (N := n__law_within) (sc := defScope s__law_within) (by decide +kernel)) (fun _ _ _ _ _ => (pg_name (i := 2) sc__law_within.nd rfl (Or.inl rfl))) (fun _ _ _ _ _ => (pts_one (PW.pt (pw_and (pt_cmpR op_ne (pv 2) pe_str (nomark _)) (pw_and1 (pt_cmpR k_ninS (pv 2) (pv 1) (by rfl))))))) (fun _ _ _ _ _ => (pv 2))) pa_nil)) pe_int (nomark _)))), ?_⟩
  walk_at "r"
  have hsz : a.s.cps.size ≤ 2 := by cases a <;> decide
  refine cp_str (fun p k h => h p = some (.lst (((a.s.cps.toList.take k).filter fun c => !decide (Str.mk #[c] = ("-" : Str)) && !(!(Builtin.Str.occurrences b.s (Str.mk #[c]) 0 b.s.length 1).isEmpty)).map fun c => .str ⟨#[c]⟩)) ∧ Ex H h) (fun p n => ⟨upd_same, Ex.new n⟩) ?_ ?_
  · rintro p k c h np hc ⟨f, e⟩
    have hc' : a.s.cps.toList[k]? = some c := by simpa using hc
    have tk : a.s.cps.toList.take (k + 1) = a.s.cps.toList.take k ++ [c] := by rw [List.take_add_one, hc']; rfl
    have hk : k < a.s.cps.size := (Array.getElem?_eq_some_iff.mp hc).1
    walk_at "r"
    refine ⟨rfl, ?_⟩
    walk_at "r"
    refine ite2 (fun d => ?_) (fun d => ?_)
    · walk_at "r"
      refine a_ninS rfl ?_
      walk_at "r"
      refine ite2 (fun d2 => ?_) (fun d2 => ?_)
      · walk_at "r"
        refine ⟨_, f, sz_lt ?_, ?_, e.mut np⟩
        · rw [List.length_map]
          have := List.length_filter_le (fun c => !decide (Str.mk #[c] = ("-" : Str)) && !(!(Builtin.Str.occurrences b.s (Str.mk #[c]) 0 b.s.length 1).isEmpty)) (a.s.cps.toList.take k)
          rw [List.length_take] at this
          omega
        · rw [upd_same, tk, List.filter_append, List.filter_cons, if_pos (by rw [d, d2]; rfl), List.filter_nil, List.map_append]
          rfl
      · refine ⟨?_, e⟩
        rw [tk, List.filter_append, List.filter_cons, if_neg (by rw [Bool.eq_false_iff.mpr d2, Bool.and_false]; exact Bool.false_ne_true), List.filter_nil, List.append_nil]
        exact f
    · refine ⟨?_, e⟩
      rw [tk, List.filter_append, List.filter_cons, if_neg (by rw [Bool.eq_false_iff.mpr d, Bool.false_and]; exact Bool.false_ne_true), List.filter_nil, List.append_nil]
      exact f
  · rintro p h np ⟨f, e⟩
    walk_at "r"
    refine a_lenL (SqL.of f) ?_
    walk_at "r"
    have e2 := lw_len a b
    rw [List.length_map, show a.s.cps.size = a.s.cps.toList.length from rfl, List.take_length]
    generalize (a.s.cps.toList.filter fun c => !decide (Str.mk #[c] = ("-" : Str)) && !(!(Builtin.Str.occurrences b.s (Str.mk #[c]) 0 b.s.length 1).isEmpty)).length = n at e2 ⊢
    have e3 : decide (((n : Nat) : Int) = 0) = wi a b := by
      rw [← e2]
      cases n with
      | zero => rfl
      | succ n => rw [decide_eq_false (by omega)]; rfl
    rw [e3]
    exact q h e
def pLCv (K : PySem.W.Frag) (n : Nat) : Sp := pCv K n
theorem ok__law_converts (T : Tx K mg) : ∀ n : Nat, FnOk P w K mg base CX0 (n + 1) T.a__law_converts T.e__law_converts p__law_converts (pCv K n)
  | 0 => fn_none fun vs H Q E h => by
    obtain ⟨a, b, xs, ys, _, _, _, h, _⟩ := h
    omega
  | n + 1 => by
    have ih : FnOk P w K mg base CX0 (n + 1) T.a__law_converts T.e__law_converts p__law_converts (pCv K n) := ok__law_converts T n
    refine T.d__law_converts.F.ok sc__law_converts (fun vs H Q E h => ?_) (fun cdv A outer s H vs Q E hr h => ?_)
    · obtain ⟨a, b, xs, ys, rfl, _⟩ := h
      rfl
    obtain ⟨a, b, xs, ys, rfl, ha, hb, hn, q⟩ := h
    refine ⟨_, (pss_cons (ps_if (pt_cmpR op_ne (pe_callB (lenK K) (by rfl) T.b_len PySem.boot_len (pa_cons (pv 0) pa_nil)) (pe_callB (lenK K) (by rfl) T.b_len PySem.boot_len (pa_cons (pv 1) pa_nil)) (nomark _)) (pss_one (ps_ret pe_bl)) pss_nil)
    (pss_cons (ps_if (pt_cmpR op_eq (pe_callB (lenK K) (by rfl) T.b_len PySem.boot_len (pa_cons (pv 0) pa_nil)) pe_int (nomark _)) (pss_one (ps_ret pe_bl)) pss_nil)
    (pss_cons (ps_if (pt_not (pt_val (pe_call (ok__law_within T) (hr.mono (by omega)) (by rfl) T.d__law_within.m T.d__law_within.F.kp T.d__law_within.b .nil pass0 (pa_cons (pe_ix (ixT K) (pv 1) pe_int (fun _ _ => rfl)) (pa_cons (pe_ix (ixT K) (pv 0) pe_int (fun _ _ => rfl)) pa_nil))))) (pss_one (ps_ret pe_bl)) pss_nil)
    (pss_cons (ps_if (PW.pt (pw_and (pt_cmpR k_inS pe_str (pe_ix (ixT K) (pv 1) pe_int (fun _ _ => rfl)) (by rfl)) (pw_and1 (pt_not (pt_val (pe_call ih (hr.mono (by omega)) (by rfl) T.d__law_converts.m T.d__law_converts.F.kp T.d__law_converts.b .nil pass0 (pa_cons (pe_slice (slA K) (pv 0) (po_some pe_int) po_none) (pa_cons (pe_slice (slA K) (pv 1) (po_some pe_int) po_none) pa_nil)))))))) (pss_one (ps_ret pe_bl)) pss_nil)
    (pss_one (ps_ret (pe_or (pe_cmpR k_ninS pe_str (pe_ix (ixT K) (pv 1) pe_int (fun _ _ => rfl)) (by rfl)) (pe_one (pe_call ih (hr.mono (by omega)) (by rfl) T.d__law_converts.m T.d__law_converts.F.kp T.d__law_converts.b .nil pass0 (pa_cons (pe_slice (slA K) (pv 1) (po_some pe_int) po_none) (pa_cons (pe_slice (slA K) (pv 0) (po_some pe_int) po_none) pa_nil))))))))))), ?_⟩
    walk_at "r"
    refine a_lenT ha ?_
    walk_at "r"
    refine a_lenT hb ?_
    walk_at "r"
    refine ite2 (fun c => ?_) (fun c => ?_)
    · walk_at "r"
      have e : cv xs ys = false := cv_ne (by rw [tv_len, tv_len] at c; simp at c; omega)
      rw [← e]
      exact q _ (Ex.refl _)
    have hl : xs.length = ys.length := by rw [tv_len, tv_len] at c; simp at c; omega
    walk_at "r"
    refine a_lenT ha ?_
    walk_at "r"
    refine ite2 (fun c => ?_) (fun c => ?_)
    · walk_at "r"
      have h0 : xs.length = 0 := by rw [tv_len] at c; simpa using c
      have e1 : xs = [] := List.eq_nil_of_length_eq_zero h0
      have e2 : ys = [] := List.eq_nil_of_length_eq_zero (by omega)
      subst e1 e2
      rw [← cv_nil]
      exact q _ (Ex.refl _)
    match xs, ys, hl, ha, hb, hn, q, c with
    | [], _, _, _, _, _, _, c => exact absurd (by rfl) c
    | x :: xs, [], hl, _, _, _, _, _ => cases hl
    | x :: xs, y :: ys, hl, ha, hb, hn, q, _ =>
    have hl : xs.length = ys.length := by simpa using hl
    have hn : xs.length < n := by simpa using hn
    have hx := cv_cons (a := x) (b := y) hl
    rw [hx] at q
    clear hx
    walk_at "r"
    refine a_ixT (v := .str y.s) hb (atI_nat (j := 0) rfl) ?_
    walk_at "r"
    refine a_ixT (v := .str x.s) ha (atI_nat (j := 0) rfl) ?_
    walk_at "r"
    refine ⟨y, x, rfl, fun H0 e0 => ?_⟩
    have ha := ex_st ha e0
    have hb := ex_st hb e0
    walk_at "r"
    refine ite2 (fun c => ?_) (fun c => ?_)
    · walk_at "r"
      rw [(by simpa using c : wi y x = false)] at q
      exact q _ e0
    rw [(by simpa using c : wi y x = true)] at q
    walk_at "r"
    refine a_ixT (v := .str y.s) hb (atI_nat (j := 0) rfl) ?_
    refine a_inS (in_r y) ?_
    walk_at "r"
    have rest : ∀ H1, Ex H0 H1 → (!y.hr || cv xs ys) = true → ∀ D : Ends, (D.rt = Q) → (tRet (tOrV (tOp (qInS true) (tC (.str "w")) (tOp (rIxT K) (tVar 1) (tC (.int 0)))) (tCall (pCv K n) [] E0 (tCons (tSl (rSlA K) (tVar 1) (tPart (tC (.int 1))) tNoPart) (tCons (tSl (rSlA K) (tVar 0) (tPart (tC (.int 1))) tNoPart) tNil))))) D [some (.ref a), some (.ref b)] H1 := by
      rintro H1 e1 g D rfl
      have ha := ex_st ha e1
      have hb := ex_st hb e1
      walk_at "r"
      refine a_ixT (v := .str y.s) hb (atI_nat (j := 0) rfl) ?_
      refine a_ninS (in_w y) ?_
      walk_at "r"
      refine ite2 (fun d => ?_) (fun d => ?_)
      · rw [g, (by simpa using d : y.hw = false)] at q
        exact q _ (e0.trans e1)
      · rw [g, (by simpa using d : y.hw = true)] at q
        walk_at "r"
        refine a_slT1 hb fun c1 H2 n2 e2 f2 => ?_
        walk_at "r"
        refine a_slT1 (ex_st ha e2) fun c2 H3 n3 e3 f3 => ?_
        walk_at "r"
        refine ⟨c1, c2, ys, xs, rfl, by walk_at "st", by walk_at "st", by omega, fun H4 e4 => ?_⟩
        exact q H4 ((e0.trans e1).trans ((e2.trans e3).trans e4))
    refine ite2 (fun c => ?_) (fun c => ?_)
    · walk_at "r"
      refine a_slT1 ha fun c1 H2 n2 e2 f2 => ?_
      walk_at "r"
      refine a_slT1 (ex_st hb e2) fun c2 H3 n3 e3 f3 => ?_
      walk_at "r"
      refine ⟨c1, c2, xs, ys, rfl, by walk_at "st", by walk_at "st", hn, fun H4 e4 => ?_⟩
      walk_at "r"
      refine ite2 (fun d => ?_) (fun d => ?_)
      · walk_at "r"
        rw [c, (by simpa using d : cv xs ys = false)] at q
        exact q _ (e0.trans ((e2.trans e3).trans e4))
      · exact rest H4 ((e2.trans e3).trans e4) (by rw [c, (by simpa using d : cv xs ys = true)]; rfl) _ rfl
    · refine iteF ?_
      exact rest H0 (Ex.refl _) (by rw [Bool.eq_false_iff.mpr c]; rfl) _ rfl
def pHasL : Sp := fun vs H Q _ => ∃ (x : R) (b : Bool), vs = [.str x.s, .str (ltr b)] ∧ Q (.bl (x.has b)) H
theorem in_ls (b : Bool) : inV (.str (ltr b)) [.str "r", .str "w"] = true := by cases b <;> decide +kernel
theorem ok_has_letter (T : Tx K mg) : FnOk P w K mg base CX0 1 T.a_has_letter T.e_has_letter p_has_letter pHasL := by
  refine T.d_has_letter.F.ok sc_has_letter (fun vs H Q E h => ?_) (fun cdv A outer s H vs Q E hr h => ?_)
  · obtain ⟨x, b, rfl, _⟩ := h
    rfl
  obtain ⟨x, b, rfl, q⟩ := h
  refine ⟨_, (pss_one (ps_ret (pe_and (pe_cmpR (inK K) (pv 1) (pe_glob (v := .ref T.a_LETTERS) (by rfl) T.m_LETTERS rfl) (by rfl)) (pe_one (pe_cmpR k_inS (pv 1) (pv 0) (by rfl)))))), ?_⟩
  walk_at "r"
  refine a_inT (T.t_LETTERS _) rfl rfl ?_
  rw [in_ls]
  walk_at "r"
  exact a_inS (in_l x b) q

end
section
variable {P : Program} {w : World} {K : PySem.W.Frag} {mg : Str → Option Value} {base : Heap}
theorem ok_place_fault (T : Tx K mg) : FnOk P w K mg base CX0 2 T.a_place_fault T.e_place_fault p_place_fault (pPlF K) := by
  refine T.d_place_fault.F.ok sc_place_fault (fun vs H Q E h => ?_) (fun cdv A outer s H vs Q E hr h => ?_)
  · obtain ⟨S, pt, v, e, x, k, rfl, _⟩ := h
    rfl
  obtain ⟨S, pt, v, e, x, k, rfl, hT, eo, hv, q⟩ := h
  have hu := hu_of hr
  refine ⟨_, (pss_cons (ps_asg (pv 1) (pg_tup (by rfl) (pgs_cons (pg_name (i := 2) sc_place_fault.nd rfl (.inl rfl)) (pgs_cons (pg_name (i := 3) sc_place_fault.nd rfl (.inl rfl)) pgs_nil))))
    (pss_cons (ps_if (pt_cmp (pc_dnotin hu (pv 2) (pv 0)) rfl) (pss_one (ps_ret pe_str)) pss_nil)
    (pss_cons (ps_set (i := 4) sc_place_fault.nd rfl (.inl rfl) (pe_dget hu (pv 0) (pv 2) (fun _ _ => rfl)))
    (pss_cons (ps_if (pt_cmpR op_ge (pv 3) (pe_callB (lenK K) (by rfl) T.b_len PySem.boot_len (pa_cons (pv 4) pa_nil)) (nomark _)) (pss_one (ps_ret pe_str)) pss_nil)
    (pss_cons (ps_if (pt_not (pt_val (pe_callB (allK K) (by rfl) T.b_all (by decide +kernel) (pa_cons (pe_lc (own := [("right", 5)]) (g := gName 5) rfl sc_place_fault.nd  (ptK K (pe_slice (slA K) (pv 4) po_none (po_some (pv 3)))) (blkOk_by (own := [("right", 5)]) (N := n_place_fault) (sc := defScope s_place_fault) (by decide +kernel)) (fun _ _ _ _ _ => (pg_name (i := 5) sc_place_fault.nd rfl (Or.inl rfl))) (fun _ _ _ _ _ => pts_nil) (fun _ _ _ _ _ => (pe_call (ok_has_letter T) (hr.mono (by omega)) (by rfl) T.d_has_letter.m T.d_has_letter.F.kp T.d_has_letter.b .nil pass0 (pa_cons (pv 5) (pa_cons pe_str pa_nil))))) pa_nil)))) (pss_one (ps_ret pe_str)) pss_nil)
    (pss_one (ps_ret pe_non))))))), ?_⟩
  obtain ⟨p, rfl, hp⟩ := dp_pl hv
  walk_at "r"
  refine w_gtup (xs := [.str x, .int (k : Int)]) hp rfl ?_
  walk_at "r"
  refine hT.mem ?_
  walk_at "r"
  cases hx : e x with
  | none =>
    have q' := q H (Ex.refl _)
    unfold jPlace at q'
    rw [hx] at q'
    refine ite2 (fun c => ?_) (fun c => absurd rfl c)
    walk_at "r"
    exact q'
  | some U =>
    refine ite2 (fun c => by cases c) (fun c => ?_)
    walk_at "r"
    refine hT.get hx fun a ha => ?_
    have ha' := ex_st ha (dl_le S H)
    walk_at "r"
    refine a_lenT ha' ?_
    walk_at "r"
    rw [tv_len]
    have q0 : ∀ H2, Ex H H2 → Q (ofO (if U.length ≤ k then some "too many stars" else if (U.take k).all R.hr then none else some "may not read")) H2 := fun H2 e2 => by
      have := q H2 e2
      unfold jPlace at this
      rw [hx] at this
      exact this
    refine ite2 (fun c => ?_) (fun c => ?_)
    · walk_at "r"
      have := q0 H (Ex.refl _)
      rw [if_pos (by have := of_decide_eq_true c; omega)] at this
      exact this
    · have hk : ¬ U.length ≤ k := by have := of_decide_eq_false (nf c); omega
      walk_at "r"
      refine a_slUp ha' fun b H1 e1 f1 _ => ?_
      rw [tv_take] at f1
      walk_at "r"
      refine c_T f1 ?_
      refine cp_tup (xs := tv (U.take k)) (fun l j h => Ex H1 h ∧ h l = some (.lst ((((U.take k).take j).map R.hr).map V.bl))) (fun l n => ⟨Ex.new n, upd_same⟩) (fun l j h _ _ g => ex_st f1 g.1) ?_ ?_
      · rintro l j y h nl hy ⟨e2, f2⟩
        obtain ⟨r, hr', rfl⟩ := tv_get hy
        have hj := at_lt hr'
        have h6 := (eo x U hx).2
        walk_at "r"
        refine ⟨rfl, ?_⟩
        walk_at "r"
        refine ⟨r, true, rfl, ?_⟩
        refine ⟨_, f2, sz_lt (by rw [List.length_map, List.length_map, List.length_take, List.length_take]; omega), e2.mut nl, ?_⟩
        rw [upd_same, List.take_add_one, hr', List.map_append, List.map_append]
        rfl
      · rintro l h nl ⟨e2, f2⟩
        rw [tv_len, List.take_length] at f2
        walk_at "r"
        refine ⟨l, _, rfl, SqL.of f2, ?_⟩
        walk_at "r"
        have q1 := q0 h (e1.trans e2)
        rw [if_neg hk] at q1
        have ea : ((U.take k).map R.hr).all id = (U.take k).all R.hr := by rw [List.all_map]; rfl
        rw [ea]
        refine ite2 (fun c => ?_) (fun c => ?_)
        · walk_at "r"
          rw [if_neg (by simpa using c)] at q1
          exact q1
        · walk_at "r"
          rw [if_pos (by simpa using c)] at q1
          exact q1
theorem ok_seen (T : Tx K mg) : FnOk P w K mg base CX0 1 T.a_seen T.e_seen p_seen (pSeen K) := by
  refine T.d_seen.F.ok sc_seen (fun vs H Q E h => ?_) (fun cdv A outer s H vs Q E hr h => ?_)
  · obtain ⟨S, pt, v, e, x, k, U, rfl, _⟩ := h
    rfl
  obtain ⟨S, pt, v, e, x, k, U, rfl, hT, hv, hx, q⟩ := h
  have hu := hu_of hr
  refine ⟨_, (pss_cons (ps_asg (pv 1) (pg_tup (by rfl) (pgs_cons (pg_name (i := 2) sc_seen.nd rfl (.inl rfl)) (pgs_cons (pg_name (i := 3) sc_seen.nd rfl (.inl rfl)) pgs_nil))))
    (pss_one (ps_ret (pe_slice (slA K) (pe_dget hu (pv 0) (pv 2) (fun _ _ => rfl)) (po_some (pv 3)) po_none)))), ?_⟩
  obtain ⟨p, rfl, hp⟩ := dp_pl hv
  walk_at "r"
  refine w_gtup (xs := [.str x, .int (k : Int)]) hp rfl ?_
  walk_at "r"
  refine hT.get hx fun a ha => ?_
  walk_at "r"
  refine a_slFr (ex_st ha (dl_le S H)) fun b H1 e1 f1 _ => ?_
  rw [tv_drop] at f1
  exact q b H1 e1 f1
theorem ok_conversion_fault (T : Tx K mg) : FnOk P w K mg base CX0 9 T.a_conversion_fault T.e_conversion_fault p_conversion_fault (pCnv K) := by
  refine T.d_conversion_fault.F.ok sc_conversion_fault (fun vs H Q E h => ?_) (fun cdv A outer s H vs Q E hr h => ?_)
  · obtain ⟨a, b, c, one, two, ex, rfl, _⟩ := h
    rfl
  obtain ⟨a, b, c, one, two, ex, rfl, ha, hb, h6, hx, q⟩ := h
  refine ⟨_, (pss_cons (ps_if (pt_cmpR op_ne (pe_callB (lenK K) (by rfl) T.b_len PySem.boot_len (pa_cons (pv 0) pa_nil)) (pe_callB (lenK K) (by rfl) T.b_len PySem.boot_len (pa_cons (pv 1) pa_nil)) (nomark _)) (pss_one (ps_ret pe_str)) pss_nil)
    (pss_cons (ps_if (PW.pt (pw_or (pt_val (pe_call (ok_converts T 7) (hr.mono (by omega)) (by rfl) T.d_converts.m T.d_converts.F.kp T.d_converts.b .nil pass0 (pa_cons (pv 0) (pa_cons (pv 1) pa_nil)))) (pw_or1 (pt_cmpR (inDK K (hd_of hr)) (pe_tup (pa_cons (pv 0) (pa_cons (pv 1) pa_nil))) (pv 2) (by rfl))))) (pss_one (ps_ret pe_non)) pss_nil)
    (pss_one (ps_ret pe_str)))), ?_⟩
  walk_at "r"
  refine a_lenT ha ?_
  walk_at "r"
  refine a_lenT hb ?_
  walk_at "r"
  rw [tv_len, tv_len]
  refine ite2 (fun d => ?_) (fun d => ?_)
  · walk_at "r"
    have := q H (Ex.refl _)
    unfold jConv at this
    rw [if_pos (fun z => by rw [z] at d; simp at d)] at this
    exact this
  · have hl : one.length = two.length := by simp at d; omega
    have q0 : ∀ H2, Ex H H2 → Q (ofO (if cv one two || exB ex one two then none else some "no conversion")) H2 := fun H2 e2 => by
      have := q H2 e2
      unfold jConv at this
      rw [if_neg (by simpa using hl)] at this
      exact this
    walk_at "r"
    refine ⟨a, b, one, two, rfl, ha, hb, by omega, fun H2 e2 => ?_⟩
    walk_at "r"
    refine ite2 (fun d => ?_) (fun d => ?_)
    · walk_at "r"
      have := q0 H2 e2
      rw [d, Bool.true_or] at this
      exact this
    · walk_at "r"
      refine new_tup (by simp) fun t H3 n3 e3 f3 => ?_
      walk_at "r"
      refine a_inX f3 (by walk_at "st") (by walk_at "st") (hx.up (e2.trans e3)) ?_
      have q1 := q0 H3 (e2.trans e3)
      rw [nf d, Bool.false_or] at q1
      walk_at "r"
      refine ite2 (fun d => ?_) (fun d => ?_)
      · walk_at "r"
        rw [if_pos d] at q1
        exact q1
      · walk_at "r"
        rw [if_neg d] at q1
        exact q1

end
section
variable {P : Program} {w : World} {K : PySem.W.Frag} {mg : Str → Option Value} {base : Heap}
theorem w_of {Q : VK} {v v' : V} {H : Hp} (h : Q v H) (e : v = v') : Q v' H := e ▸ h
theorem ok_source_fault (T : Tx K mg) : FnOk P w K mg base CX0 10 T.a_source_fault T.e_source_fault p_source_fault (pSrc K) := by
  refine T.d_source_fault.F.ok sc_source_fault (fun vs H Q E h => ?_) (fun cdv A outer s H vs Q E hr h => ?_)
  · obtain ⟨S, pt, v, g, c, e, s, goal, ex, rfl, _⟩ := h
    rfl
  obtain ⟨S, pt, v, g, c, e, src, goal, ex, rfl, hT, eo, hv, hg, hx, q⟩ := h
  refine ⟨_, (pss_cons (ps_set (i := 4) sc_source_fault.nd rfl (.inl rfl) (pe_ix (ixT K) (pv 1) pe_int (fun _ _ => rfl)))
    (pss_cons (ps_if (pt_cmpR op_eq (pv 4) pe_str (nomark _)) (pss_one (ps_ret (pe_ifExp (pt_cmpR (eqDK K hr.units) (pv 2) (pe_tup pa_nil) (nomark _)) pe_non pe_str))) pss_nil)
    (pss_cons (ps_if (pt_cmpR op_eq (pv 4) pe_str (nomark _)) (pss_one (ps_ret (pe_ifExp (pt_cmpR (neDK K hr.units) (pv 2) (pe_tup pa_nil) (nomark _)) pe_non pe_str))) pss_nil)
    (pss_cons (ps_set (i := 5) sc_source_fault.nd rfl (.inl rfl) (pe_ix (ixT K) (pv 1) pe_int (fun _ _ => rfl)))
    (pss_cons (ps_set (i := 6) sc_source_fault.nd rfl (.inl rfl) (pe_call (ok_place_fault T) (hr.mono (by omega)) (by rfl) T.d_place_fault.m T.d_place_fault.F.kp T.d_place_fault.b .nil pass0 (pa_cons (pv 0) (pa_cons (pv 5) pa_nil))))
    (pss_cons (ps_if (pt_cmpR k_notN (pv 6) pe_non (nomark _)) (pss_one (ps_ret (pv 6))) pss_nil)
    (pss_cons (ps_set (i := 7) sc_source_fault.nd rfl (.inl rfl) (pe_call (ok_seen T) (hr.mono (by omega)) (by rfl) T.d_seen.m T.d_seen.F.kp T.d_seen.b .nil pass0 (pa_cons (pv 0) (pa_cons (pv 5) pa_nil))))
    (pss_cons (ps_if (pt_cmpR op_eq (pv 4) pe_str (nomark _)) (pss_one (ps_ret (pe_call (ok_conversion_fault T) (hr.mono (by omega)) (by rfl) T.d_conversion_fault.m T.d_conversion_fault.F.kp T.d_conversion_fault.b .nil pass0 (pa_cons (pv 7) (pa_cons (pv 2) (pa_cons (pv 3) pa_nil)))))) pss_nil)
    (pss_cons (ps_if (pt_not (pt_val (pe_call (ok_has_letter T) (hr.mono (by omega)) (by rfl) T.d_has_letter.m T.d_has_letter.F.kp T.d_has_letter.b .nil pass0 (pa_cons (pe_ix (ixT K) (pv 7) pe_int (fun _ _ => rfl)) (pa_cons pe_str pa_nil))))) (pss_one (ps_ret pe_str)) pss_nil)
    (pss_one (ps_ret (pe_call (ok_conversion_fault T) (hr.mono (by omega)) (by rfl) T.d_conversion_fault.m T.d_conversion_fault.F.kp T.d_conversion_fault.b .nil pass0 (pa_cons (pe_slice (slA K) (pv 7) (po_some pe_int) po_none) (pa_cons (pv 2) (pa_cons (pv 3) pa_nil))))))))))))))), ?_⟩
  have emp : ∀ H2 : Hp, Ex H H2 → ∀ (t : Addr), SqT K H2 t (tv []) → ∀ Q2 : VK, Q2 (.bl (decide (goal = []))) H2 → rEqD K (.ref g) (.ref t) H2 Q2 := fun H2 e2 t f2 Q2 k => a_eqU (ex_st hg e2) f2 k
  have nemp : ∀ H2 : Hp, Ex H H2 → ∀ (t : Addr), SqT K H2 t (tv []) → ∀ Q2 : VK, Q2 (.bl (!decide (goal = []))) H2 → rNeD K (.ref g) (.ref t) H2 Q2 := fun H2 e2 t f2 Q2 k => a_neU (ex_st hg e2) f2 k
  cases src with
  | num n =>
    obtain ⟨p, u, y, rfl, hp, d1, d2⟩ := dp_two hv
    cases dp_str d1
    walk_at "r"
    refine a_ixT (v := .str "number") hp (atI_nat (j := 0) rfl) ?_
    walk_at "r"
    refine ite2 (fun c => ?_) (fun c => absurd (show decide (("number" : Str) = "number") = true from by decide) c)
    walk_at "r"
    refine new_tup (xs := []) (by simp) fun t H2 n2 e2 f2 => ?_
    refine emp H2 e2 t (SqT.of f2) _ ?_
    walk_at "r"
    have q1 : Q (ofO (if goal = [] then none else some "other depth")) H2 := q H2 e2
    refine ite2 (fun c => ?_) (fun c => ?_)
    · walk_at "r"
      rw [if_pos (of_decide_eq_true c)] at q1
      exact q1
    · walk_at "r"
      rw [if_neg (of_decide_eq_false (nf c))] at q1
      exact q1
  | null =>
    obtain ⟨p, u, rfl, hp, d1⟩ := dp_1 hv
    cases dp_str d1
    walk_at "r"
    refine a_ixT (v := .str "null") hp (atI_nat (j := 0) rfl) ?_
    walk_at "r"
    refine ite2 (fun c => absurd (show decide (("null" : Str) = "number") = true from c) (by decide)) (fun c => ?_)
    walk_at "r"
    refine ite2 (fun c => ?_) (fun c => absurd (show decide (("null" : Str) = "null") = true from by decide) c)
    walk_at "r"
    refine new_tup (xs := []) (by simp) fun t H2 n2 e2 f2 => ?_
    refine nemp H2 e2 t (SqT.of f2) _ ?_
    walk_at "r"
    have q1 : Q (ofO (if goal = [] then some "other depth" else none)) H2 := q H2 e2
    refine ite2 (fun c => ?_) (fun c => ?_)
    · walk_at "r"
      rw [if_neg (by simpa using c)] at q1
      exact q1
    · walk_at "r"
      rw [if_pos (by simpa using c)] at q1
      exact q1
  | adr x k =>
    obtain ⟨p, u, y, rfl, hp, d1, d2⟩ := dp_two hv
    cases dp_str d1
    walk_at "r"
    refine a_ixT (v := .str "address") hp (atI_nat (j := 0) rfl) ?_
    walk_at "r"
    refine ite2 (fun c => absurd (show decide (("address" : Str) = "number") = true from c) (by decide)) (fun c => ?_)
    walk_at "r"
    refine ite2 (fun c => absurd (show decide (("address" : Str) = "null") = true from c) (by decide)) (fun c => ?_)
    walk_at "r"
    refine a_ixT (v := y) hp (atI_nat (j := 1) rfl) ?_
    walk_at "r"
    refine ⟨S, pt, y, e, x, k, rfl, hT, eo, d2, fun H2 e2 => ?_⟩
    walk_at "r"
    refine a_notO ?_
    walk_at "r"
    have q0 : ∀ H2, Ex H H2 → Q (ofO (match jPlace e x k with | some f => some f | none => jConv ex (jSeen e x k) goal)) H2 := q
    cases hj : jPlace e x k with
    | some fl =>
      refine ite2 (fun c => ?_) (fun c => absurd rfl c)
      walk_at "r"
      have := q0 H2 e2
      rw [hj] at this
      exact this
    | none =>
      refine ite2 (fun c => by cases c) (fun c => ?_)
      walk_at "r"
      obtain ⟨U, hU, hk, hs⟩ := jPlace_none hj
      refine ⟨S, pt, y, e, x, k, U, rfl, hT.ex' e2, dp_ex e2 d2, hU, fun a H3 e3 f3 => ?_⟩
      walk_at "r"
      refine ite2 (fun c => ?_) (fun c => absurd (show decide (("address" : Str) = "address") = true from by decide) c)
      walk_at "r"
      refine ⟨a, g, _, U.drop k, goal, ex, rfl, f3, ex_st hg (e2.trans e3), ?_, hx.up (e2.trans e3), fun H4 e4 => ?_⟩
      · have := (eo x U hU).2
        rw [List.length_drop]
        omega
      have := q0 H4 ((e2.trans e3).trans e4)
      rw [hj, hs] at this
      exact this
  | val x k =>
    obtain ⟨p, u, y, rfl, hp, d1, d2⟩ := dp_two hv
    cases dp_str d1
    walk_at "r"
    refine a_ixT (v := .str "value") hp (atI_nat (j := 0) rfl) ?_
    walk_at "r"
    refine ite2 (fun c => absurd (show decide (("value" : Str) = "number") = true from c) (by decide)) (fun c => ?_)
    walk_at "r"
    refine ite2 (fun c => absurd (show decide (("value" : Str) = "null") = true from c) (by decide)) (fun c => ?_)
    walk_at "r"
    refine a_ixT (v := y) hp (atI_nat (j := 1) rfl) ?_
    walk_at "r"
    refine ⟨S, pt, y, e, x, k, rfl, hT, eo, d2, fun H2 e2 => ?_⟩
    walk_at "r"
    refine a_notO ?_
    walk_at "r"
    have q0 : ∀ H2, Ex H H2 → Q (ofO (match jPlace e x k with | some f => some f | none => if (hdR (jSeen e x k)).hr then jConv ex ((jSeen e x k).drop 1) goal else some "may not read")) H2 := q
    cases hj : jPlace e x k with
    | some fl =>
      refine ite2 (fun c => ?_) (fun c => absurd rfl c)
      walk_at "r"
      have := q0 H2 e2
      rw [hj] at this
      exact this
    | none =>
      refine ite2 (fun c => by cases c) (fun c => ?_)
      walk_at "r"
      obtain ⟨r, W, hs, U, hU, hk, hs2⟩ := seen_cons hj
      refine ⟨S, pt, y, e, x, k, U, rfl, hT.ex' e2, dp_ex e2 d2, hU, fun a H3 e3 f3 => ?_⟩
      rw [← hs2, hs] at f3
      walk_at "r"
      refine ite2 (fun c => absurd (show decide (("value" : Str) = "address") = true from c) (by decide)) (fun c => ?_)
      walk_at "r"
      refine a_ixT (v := .str r.s) f3 (atI_nat (j := 0) rfl) ?_
      walk_at "r"
      refine ⟨r, true, rfl, ?_⟩
      walk_at "r"
      refine ite2 (fun c => ?_) (fun c => ?_)
      · walk_at "r"
        have := q0 H3 (e2.trans e3)
        rw [hj, hs] at this
        rw [if_neg (show ¬ (hdR (r :: W)).hr = true by simpa [R.has, hdR] using c)] at this
        exact this
      · walk_at "r"
        refine a_slT1 f3 fun b H4 n4 e4 f4 => ?_
        walk_at "r"
        have hl := seen_len eo x k
        rw [hs, List.length_cons] at hl
        refine ⟨b, g, _, W, goal, ex, rfl, SqT.of f4, ex_st hg ((e2.trans e3).trans e4), by omega, hx.up ((e2.trans e3).trans e4), fun H5 e5 => ?_⟩
        have := q0 H5 (((e2.trans e3).trans e4).trans e5)
        rw [hj, hs] at this
        rw [if_pos (show (hdR (r :: W)).hr = true by simpa [R.has, hdR] using c)] at this
        exact this
theorem ok_put_fault (T : Tx K mg) : FnOk P w K mg base CX0 11 T.a_put_fault T.e_put_fault p_put_fault (pPut K) := by
  refine T.d_put_fault.F.ok sc_put_fault (fun vs H Q E h => ?_) (fun cdv A outer s H vs Q E hr h => ?_)
  · obtain ⟨S, pt, v, u, c, e, x, k, s, ex, rfl, _⟩ := h
    rfl
  obtain ⟨S, pt, v, u, c, e, x, k, src, ex, rfl, hT, eo, hv, hs, hx, q⟩ := h
  refine ⟨_, (pss_cons (ps_set (i := 4) sc_put_fault.nd rfl (.inl rfl) (pe_call (ok_place_fault T) (hr.mono (by omega)) (by rfl) T.d_place_fault.m T.d_place_fault.F.kp T.d_place_fault.b .nil pass0 (pa_cons (pv 0) (pa_cons (pv 1) pa_nil))))
    (pss_cons (ps_if (pt_cmpR k_notN (pv 4) pe_non (nomark _)) (pss_one (ps_ret (pv 4))) pss_nil)
    (pss_cons (ps_set (i := 5) sc_put_fault.nd rfl (.inl rfl) (pe_call (ok_seen T) (hr.mono (by omega)) (by rfl) T.d_seen.m T.d_seen.F.kp T.d_seen.b .nil pass0 (pa_cons (pv 0) (pa_cons (pv 1) pa_nil))))
    (pss_cons (ps_if (pt_not (pt_val (pe_call (ok_has_letter T) (hr.mono (by omega)) (by rfl) T.d_has_letter.m T.d_has_letter.F.kp T.d_has_letter.b .nil pass0 (pa_cons (pe_ix (ixT K) (pv 5) pe_int (fun _ _ => rfl)) (pa_cons pe_str pa_nil))))) (pss_one (ps_ret pe_str)) pss_nil)
    (pss_one (ps_ret (pe_call (ok_source_fault T) (hr.mono (by omega)) (by rfl) T.d_source_fault.m T.d_source_fault.F.kp T.d_source_fault.b .nil pass0 (pa_cons (pv 0) (pa_cons (pv 2) (pa_cons (pe_slice (slA K) (pv 5) (po_some pe_int) po_none) (pa_cons (pv 3) pa_nil))))))))))), ?_⟩
  walk_at "r"
  refine ⟨S, pt, v, e, x, k, rfl, hT, eo, hv, fun H2 e2 => ?_⟩
  walk_at "r"
  refine a_notO ?_
  walk_at "r"
  have q0 : ∀ H2, Ex H H2 → Q (ofO (match jPlace e x k with | some f => some f | none => if (hdR (jSeen e x k)).hw then jSrc e ex ((jSeen e x k).drop 1) src else some "may not write")) H2 := q
  cases hj : jPlace e x k with
  | some fl =>
    refine ite2 (fun c => ?_) (fun c => absurd rfl c)
    walk_at "r"
    have := q0 H2 e2
    rw [hj] at this
    exact this
  | none =>
    refine ite2 (fun c => by cases c) (fun c => ?_)
    walk_at "r"
    obtain ⟨r, W, hw, U, hU, hk, hs2⟩ := seen_cons hj
    refine ⟨S, pt, v, e, x, k, U, rfl, hT.ex' e2, dp_ex e2 hv, hU, fun a H3 e3 f3 => ?_⟩
    rw [← hs2, hw] at f3
    walk_at "r"
    refine a_ixT (v := .str r.s) f3 (atI_nat (j := 0) rfl) ?_
    walk_at "r"
    refine ⟨r, false, rfl, ?_⟩
    walk_at "r"
    refine ite2 (fun c => ?_) (fun c => ?_)
    · walk_at "r"
      have := q0 H3 (e2.trans e3)
      rw [hj, hw] at this
      rw [if_neg (show ¬ (hdR (r :: W)).hw = true by simpa [R.has, hdR] using c)] at this
      exact this
    · walk_at "r"
      refine a_slT1 f3 fun b H4 n4 e4 f4 => ?_
      walk_at "r"
      have e24 := (e2.trans e3).trans e4
      refine ⟨S, pt, u, b, _, e, src, W, ex, rfl, hT.ex' e24, eo, dp_ex e24 hs, SqT.of f4, hx.up e24, fun H5 e5 => ?_⟩
      have := q0 H5 (e24.trans e5)
      rw [hj, hw] at this
      rw [if_pos (show (hdR (r :: W)).hw = true by simpa [R.has, hdR] using c)] at this
      exact this
theorem ok_call_fault (T : Tx K mg) : FnOk P w K mg base CX0 11 T.a_call_fault T.e_call_fault p_call_fault (pCall K) := by
  refine T.d_call_fault.F.ok sc_call_fault (fun vs H Q E h => ?_) (fun cdv A outer s H vs Q E hr h => ?_)
  · obtain ⟨S, pt, pp, pq, c, e, xs, ys, ps, ss, ex, rfl, _⟩ := h
    rfl
  obtain ⟨S, pt, pp, pq, c, e, xs, ys, ps, ss, ex, rfl, hT, eo, hp, dp, hq, dq, hl, hx, q⟩ := h
  refine ⟨_, (pss_cons (ps_for PassesOwn.never rfl (zpK K (by rfl) T.b_zip (pa_cons (pv 1) (pa_cons (pv 2) pa_nil))) (pg_tup (by rfl) (pgs_cons (pg_tup (by rfl) (pgs_cons (pg_name (i := 4) sc_call_fault.nd rfl (.inl rfl)) (pgs_cons (pg_name (i := 5) sc_call_fault.nd rfl (.inl rfl)) pgs_nil))) (pgs_cons (pg_name (i := 6) sc_call_fault.nd rfl (.inl rfl)) pgs_nil))) (pss_cons (ps_set (i := 7) sc_call_fault.nd rfl (.inl rfl) (pe_call (ok_source_fault T) (hr.mono (by omega)) (by rfl) T.d_source_fault.m T.d_source_fault.F.kp T.d_source_fault.b .nil pass0 (pa_cons (pv 0) (pa_cons (pv 6) (pa_cons (pe_slice (slA K) (pv 5) (po_some pe_int) po_none) (pa_cons (pv 3) pa_nil))))))
    (pss_one (ps_if (pt_cmpR k_notN (pv 7) pe_non (nomark _)) (pss_one (ps_ret (pv 7))) pss_nil))))
    (pss_one (ps_ret pe_non))), ?_⟩
  walk_at "r"
  have lx : xs.length = ps.length := by rw [dpa_len dp, List.length_map]
  have ly : ys.length = ss.length := by rw [dpa_len dq, List.length_map]
  refine ⟨pp, pq, xs, ys, rfl, hp, hq, ?_⟩
  refine lp_zip (xs := xs) (ys := ys) (by omega) (fun k σ h => (∃ x4 x5 x6 x7, σ = [some (.ref pt), some (.ref pp), some (.ref pq), some (.ref c), x4, x5, x6, x7]) ∧ Ex H h ∧ jCall e ex ps ss = jCall e ex (ps.drop k) (ss.drop k)) ⟨⟨_, _, _, _, rfl⟩, Ex.refl _, rfl⟩ (fun k σ h _ g => ⟨ex_sl hp g.2.1, ex_sl hq g.2.1⟩) ?_ ?_
  · rintro k u v σ h t hu hv ⟨⟨x4, x5, x6, x7, rfl⟩, e1, ej⟩ nt
    obtain ⟨d, hd, du⟩ := dpa_at dp hu
    obtain ⟨d', hd', dv⟩ := dpa_at dq hv
    rw [List.getElem?_map] at hd hd'
    cases hp' : ps[k]? with
    | none => rw [hp'] at hd; cases hd
    | some qq =>
    cases hs' : ss[k]? with
    | none => rw [hs'] at hd'; cases hd'
    | some src =>
    rw [hp'] at hd
    rw [hs'] at hd'
    cases hd
    cases hd'
    have hk1 := at_lt hp'
    have hk2 := at_lt hs'
    have dr1 : ps.drop k = qq :: ps.drop (k + 1) := by
      rw [List.drop_eq_getElem_cons hk1]
      rw [List.getElem?_eq_getElem hk1] at hp'
      rw [Option.some.inj hp']
    have dr2 : ss.drop k = src :: ss.drop (k + 1) := by
      rw [List.drop_eq_getElem_cons hk2]
      rw [List.getElem?_eq_getElem hk2] at hs'
      rw [Option.some.inj hs']
    obtain ⟨p2, a2, rfl, hp2, ha2⟩ := dp_pD (dp_ex e1 du)
    have e2 : Ex h (upd h t (.tup [.ref p2, v])) := Ex.new nt
    have f2 : upd h t (.tup [.ref p2, v]) t = some (.tup [.ref p2, v]) := upd_same
    generalize upd h t (.tup [.ref p2, v]) = h2 at e2 f2 ⊢
    refine w_gtup (xs := [.ref p2, v]) (SqT.of f2) rfl ?_
    walk_at "r"
    refine w_gtup (xs := [.str qq.1, .ref a2]) (ex_st hp2 e2) rfl ?_
    walk_at "r"
    refine a_slFr (n := 1) (ex_st ha2 e2) fun b h3 e3 f3 _ => ?_
    rw [tv_drop] at f3
    walk_at "r"
    have e13 := (e1.trans e2).trans e3
    refine ⟨S, pt, v, b, _, e, src, qq.2.drop 1, ex, rfl, hT.ex' e13, eo, dp_ex e13 dv, f3, hx.up e13, fun h4 e4 => ?_⟩
    rw [dr1, dr2] at ej
    walk_at "r"
    refine a_notO ?_
    walk_at "r"
    have ej2 : jCall e ex (qq :: ps.drop (k + 1)) (src :: ss.drop (k + 1)) = (match jSrc e ex (qq.2.drop 1) src with | some f => some f | none => jCall e ex (ps.drop (k + 1)) (ss.drop (k + 1))) := rfl
    cases hj : jSrc e ex (qq.2.drop 1) src with
    | some fl =>
      refine ite2 (fun c => ?_) (fun c => absurd rfl c)
      walk_at "r"
      have := q h4 (e13.trans e4)
      rw [ej, ej2, hj] at this
      exact this
    | none =>
      refine ite2 (fun c => by cases c) (fun c => ?_)
      walk_at "r"
      refine ⟨⟨_, _, _, _, rfl⟩, e13.trans e4, ?_⟩
      rw [ej, ej2, hj]
  · rintro σ h ⟨⟨x4, x5, x6, x7, rfl⟩, e1, ej⟩
    walk_at "r"
    have := q h e1
    rw [ej, lx, List.drop_length] at this
    exact this
theorem ok_statement_fault (T : Tx K mg) : FnOk P w K mg base CX0 12 T.a_statement_fault T.e_statement_fault p_statement_fault (pStF K T.C_Function) := by
  refine T.d_statement_fault.F.ok sc_statement_fault (fun vs H Q E h => ?_) (fun cdv A outer s H vs Q E hr h => ?_)
  · obtain ⟨S, pd, pt, v, c, e, s, fs, ex, rfl, _⟩ := h
    rfl
  obtain ⟨S, pd, pt, v, c, e, st, fs, ex, rfl, hF, nd, hc, hT, eo, hv, hx, q⟩ := h
  have hu := hu_of hr
  refine ⟨_, (pss_cons (ps_set (i := 4) sc_statement_fault.nd rfl (.inl rfl) (pe_ix (ixT K) (pv 2) pe_int (fun _ _ => rfl)))
    (pss_cons (ps_if (pt_cmpR op_eq (pv 4) pe_str (nomark _)) (pss_one (ps_ret (pe_call (ok_source_fault T) (hr.mono (by omega)) (by rfl) T.d_source_fault.m T.d_source_fault.F.kp T.d_source_fault.b .nil pass0 (pa_cons (pv 1) (pa_cons (pe_ix (ixT K) (pv 2) pe_int (fun _ _ => rfl)) (pa_cons (pe_slice (slA K) (pe_ix (ixT K) (pv 2) pe_int (fun _ _ => rfl)) (po_some pe_int) po_none) (pa_cons (pv 3) pa_nil))))))) pss_nil)
    (pss_cons (ps_if (pt_cmpR op_eq (pv 4) pe_str (nomark _)) (pss_one (ps_ret (pe_call (ok_put_fault T) (hr.mono (by omega)) (by rfl) T.d_put_fault.m T.d_put_fault.F.kp T.d_put_fault.b .nil pass0 (pa_cons (pv 1) (pa_cons (pe_ix (ixT K) (pv 2) pe_int (fun _ _ => rfl)) (pa_cons (pe_ix (ixT K) (pv 2) pe_int (fun _ _ => rfl)) (pa_cons (pv 3) pa_nil))))))) pss_nil)
    (pss_one (ps_ret (pe_call (ok_call_fault T) (hr.mono (by omega)) (by rfl) T.d_call_fault.m T.d_call_fault.F.kp T.d_call_fault.b .nil pass0 (pa_cons (pv 1) (pa_cons (by exact (fldK K (pe_dget hu (pv 0) (pe_ix (ixT K) (pv 2) pe_int (fun _ _ => rfl)) (fun _ _ => rfl)) rfl)) (pa_cons (pe_ix (ixT K) (pv 2) pe_int (fun _ _ => rfl)) (pa_cons (pv 3) pa_nil)))))))))), ?_⟩
  cases st with
  | lt x U s =>
    obtain ⟨p, u1, u2, u3, u4, rfl, hp, d1, d2, d3, d4⟩ := dp_fou hv
    cases dp_str d1
    obtain ⟨a, rfl, ha⟩ := dp_ruT d3
    walk_at "r"
    refine a_ixT (v := .str "let") hp (atI_nat (j := 0) rfl) ?_
    walk_at "r"
    refine ite2 (fun c => ?_) (fun c => absurd (show decide (("let" : Str) = "let") = true from by decide) c)
    walk_at "r"
    refine a_ixT (v := u4) hp (atI_nat (j := 3) rfl) ?_
    walk_at "r"
    refine a_ixT (v := .ref a) hp (atI_nat (j := 2) rfl) ?_
    walk_at "r"
    refine a_slFr (n := 1) ha fun b H2 e2 f2 _ => ?_
    rw [tv_drop] at f2
    walk_at "r"
    exact ⟨S, pt, u4, b, _, e, s, U.drop 1, ex, rfl, hT.ex' e2, eo, dp_ex e2 d4, f2, hx.up e2, fun H3 e3 => q H3 (e2.trans e3)⟩
  | put x k s =>
    obtain ⟨p, u1, u2, u3, rfl, hp, d1, d2, d3⟩ := dp_thr hv
    cases dp_str d1
    walk_at "r"
    refine a_ixT (v := .str "put") hp (atI_nat (j := 0) rfl) ?_
    walk_at "r"
    refine ite2 (fun c => absurd (show decide (("put" : Str) = "let") = true from c) (by decide)) (fun c => ?_)
    walk_at "r"
    refine ite2 (fun c => ?_) (fun c => absurd (show decide (("put" : Str) = "put") = true from by decide) c)
    walk_at "r"
    refine a_ixT (v := u2) hp (atI_nat (j := 1) rfl) ?_
    walk_at "r"
    refine a_ixT (v := u3) hp (atI_nat (j := 2) rfl) ?_
    walk_at "r"
    exact ⟨S, pt, u2, u3, _, e, x, k, s, ex, rfl, hT, eo, d2, d3, hx, q⟩
  | call f ss =>
    obtain ⟨p, u1, u2, u3, rfl, hp, d1, d2, d3⟩ := dp_thr hv
    cases dp_str d1
    cases dp_str d2
    obtain ⟨g, hg, rfl, hl⟩ := hc
    obtain ⟨kvs, k1, k2⟩ := hF.ex
    obtain ⟨a, g1, g2⟩ := k2 g hg
    obtain ⟨dx, nv, q1, q2, o1, o2, o3, o4⟩ := g2.ex
    obtain ⟨pl, ys, rfl, hy, dy⟩ := dp_lst d3
    obtain ⟨xs, p1, p2⟩ := o3.ex
    walk_at "r"
    refine a_ixT (v := .str "call") hp (atI_nat (j := 0) rfl) ?_
    walk_at "r"
    refine ite2 (fun c => absurd (show decide (("call" : Str) = "let") = true from c) (by decide)) (fun c => ?_)
    walk_at "r"
    refine ite2 (fun c => absurd (show decide (("call" : Str) = "put") = true from c) (by decide)) (fun c => ?_)
    walk_at "r"
    refine a_ixT (v := .str g.n) hp (atI_nat (j := 1) rfl) ?_
    walk_at "r"
    refine a_dget k1 g1 ?_
    walk_at "r"
    refine a_get T.c_Function T.n_Function_params o1 (fn_params _ _ _) ?_
    walk_at "r"
    refine a_ixT (v := .ref pl) hp (atI_nat (j := 2) rfl) ?_
    walk_at "r"
    refine ⟨S, pt, q1, pl, _, e, xs, ys, g.p, ss, ex, rfl, hT, eo, SqL.of p1, p2, hy, dy, hl.symm, hx, fun H2 e2 => ?_⟩
    have this : Q (ofO (jCall e ex (prm fs g.n) ss)) H2 := q H2 e2
    rw [prm_eq nd hg] at this
    exact this

end
section
variable {P : Program} {w : World} {K : PySem.W.Frag} {mg : Str → Option Value} {base : Heap}
theorem fd_name {f : TF} {G : Hp} {nv : V} (h : Ds K G nv f.fd.n) : nv = .str f.n := dp_str h.1
theorem ok_by_name (T : Tx K mg) : FnOk P w K mg base CX0 1 T.a_by_name T.e_by_name p_by_name (pByN K T.C_Function) := by
  refine T.d_by_name.F.ok sc_by_name (fun vs H Q E h => ?_) (fun cdv A outer s H vs Q E hr h => ?_)
  · obtain ⟨p, xs, fs, rfl, _⟩ := h
    rfl
  obtain ⟨p, xs, fs, rfl, hp, hF, nd, hz, q⟩ := h
  refine ⟨_, (pss_one (ps_ret (pe_dc (own := [("function", 1)]) (g := gName 1) rfl sc_by_name.nd  (plK K (pv 0)) (blkOk_by (own := [("function", 1)]) (N := n_by_name) (sc := defScope s_by_name) (by decide +kernel)) (fun _ _ _ _ _ => (pg_name (i := 1) sc_by_name.nd rfl (Or.inl rfl))) (fun _ _ _ _ _ => pts_nil) (fun _ _ _ _ _ => (by exact (fldK K (pv 1) rfl))) (fun _ _ _ _ _ => (pv 1))))), ?_⟩
  walk_at "r"
  refine dc_L hp ?_
  have lx : xs.length = fs.length := by rw [hF.len, List.length_map]
  refine dcp_list (xs := xs) (fun D k h => Ex H h ∧ ∃ kvs : Kv, h D = some (.dK kvs) ∧ kvs.length ≤ k ∧ ∀ g ∈ fs.take k, ∃ a, valV kvs (Sum.inr g.n) = some (.ref a) ∧ FnAt K T.C_Function H a g.fd)
    (fun D n => ⟨Ex.new n, [], upd_same, Nat.le_refl _, fun g hg => by simp at hg⟩) (fun D k h _ _ g => ex_sl hp g.1) ?_ ?_
  · rintro D k x h nD hx ⟨e1, kvs, f1, z1, g1⟩
    obtain ⟨a, fd, rfl, hfd, hA⟩ := hF.get hx
    rw [List.getElem?_map] at hfd
    cases hg : fs[k]? with
    | none => rw [hg] at hfd; cases hfd
    | some g =>
    rw [hg] at hfd
    cases hfd
    obtain ⟨dx, nv, q1, q2, o1, o2, o3, o4⟩ := hA.ex
    cases fd_name o2
    have hk := at_lt hg
    walk_at "r"
    refine ⟨rfl, ?_⟩
    walk_at "r"
    refine a_get T.c_Function T.n_Function_name (e1 _ _ o1) (fn_name _ _ _) ?_
    walk_at "r"
    refine ⟨kvs, Sum.inr g.n, rfl, f1, sz_lt (by omega), e1.mut nD, _, upd_same, Nat.le_trans (putK_le _ _ _) (Nat.succ_le_succ z1), fun g' hg' => ?_⟩
    rw [valV_put]
    rw [take_snoc hg] at hg'
    rcases List.mem_append.mp hg' with hg' | hg'
    · have ne : g'.n ≠ g.n := fun z => by
        obtain ⟨j, hj, ej⟩ := List.mem_iff_getElem.mp hg'
        have hj2 : j < k := by rw [List.length_take] at hj; omega
        have e1 : (fs.map TF.n)[j]? = some g'.n := by
          rw [List.getElem?_map]
          rw [List.getElem_take] at ej
          rw [List.getElem?_eq_getElem (by omega), ej]
          rfl
        have e2 : (fs.map TF.n)[k]? = some g.n := by rw [List.getElem?_map, hg]; rfl
        have hj3 := at_lt e1
        have hk3 := at_lt e2
        rw [List.getElem?_eq_getElem hj3] at e1
        rw [List.getElem?_eq_getElem hk3] at e2
        have := List.pairwise_iff_getElem.mp nd j k hj3 hk3 hj2
        exact this (by rw [Option.some.inj e1, Option.some.inj e2, z])
      rw [if_neg (fun z => ne (Sum.inr.inj z))]
      exact g1 g' hg'
    · rw [List.mem_singleton] at hg'
      subst hg'
      rw [if_pos rfl]
      exact ⟨a, rfl, hA⟩
  · rintro D h nD ⟨e1, kvs, f1, z1, g1⟩
    rw [lx, List.take_length] at g1
    exact q D h nD e1 ⟨kvs, f1, fun g hg => by
      obtain ⟨a, k1, k2⟩ := g1 g hg
      exact ⟨a, k1, k2.up e1⟩⟩
theorem blk_let {D : Ends} {a0 a1 a2 a3 a5 x6 x8 : Option V} {m : Addr} {u : V} {h : Hp} {S : List Addr} {st : Stm} {e : Env} {n : Nat} (d : Dp K (dl S h) u (stD st)) (ty : TyN K S h m e n) (mS : m ∈ S) (hn : n < 1000)
    (k : ∀ h5, Ks [m] h h5 → TyN K S h5 m (envS e st) (n + 1) → D.nx [a0, a1, a2, a3, some (.ref m), a5, x6, some u, x8] h5) :
    tIfS (tTest (tOp rEq (tOp (rIxT K) (tVar 7) (tC (V.int 0))) (tC (V.str "let")))) (sDPut (tVar 4) (tOp (rIxT K) (tVar 7) (tC (V.int 1))) (tOp (rIxT K) (tVar 7) (tC (V.int 2)))) tNext D [a0, a1, a2, a3, some (.ref m), a5, x6, some u, x8] h := by
  have d' := dp_ex (dl_le S h) d
  cases st with
  | lt x U s =>
    obtain ⟨p, u1, u2, u3, u4, rfl, hp, d1, d2, d3, d4⟩ := dp_fou d
    cases dp_str d1
    cases dp_str d2
    obtain ⟨a, rfl, ha⟩ := dp_ruT d3
    have hp' := ex_st hp (dl_le S h)
    walk_at "r"
    refine a_ixT (v := .str "let") hp' (atI_nat (j := 0) rfl) ?_
    walk_at "r"
    refine ite2 (fun c => ?_) (fun c => absurd (show decide (("let" : Str) = "let") = true from by decide) c)
    walk_at "r"
    refine a_ixT (v := .ref a) hp' (atI_nat (j := 2) rfl) ?_
    walk_at "r"
    refine a_ixT (v := .str x) hp' (atI_nat (j := 1) rfl) ?_
    exact ty.put mS hn ha fun h5 k5 t5 => k h5 k5 t5
  | put x j s =>
    obtain ⟨p, u1, u2, u3, rfl, hp, d1, d2, d3⟩ := dp_thr d
    cases dp_str d1
    walk_at "r"
    refine a_ixT (v := .str "put") (ex_st hp (dl_le S h)) (atI_nat (j := 0) rfl) ?_
    walk_at "r"
    refine ite2 (fun c => absurd (show decide (("put" : Str) = "let") = true from c) (by decide)) (fun c => ?_)
    walk_at "r"
    exact k h (Ks.refl _ _) (ty.mono (Nat.le_succ _))
  | call f ss =>
    obtain ⟨p, u1, u2, u3, rfl, hp, d1, d2, d3⟩ := dp_thr d
    cases dp_str d1
    walk_at "r"
    refine a_ixT (v := .str "call") (ex_st hp (dl_le S h)) (atI_nat (j := 0) rfl) ?_
    walk_at "r"
    refine ite2 (fun c => absurd (show decide (("call" : Str) = "let") = true from c) (by decide)) (fun c => ?_)
    walk_at "r"
    exact k h (Ks.refl _ _) (ty.mono (Nat.le_succ _))
theorem ok_block_faults (T : Tx K mg) : FnOk P w K mg base CX0 13 T.a_block_faults T.e_block_faults p_block_faults (pBlk K T.C_Function) := by
  refine T.d_block_faults.F.ok sc_block_faults (fun vs H Q E h => ?_) (fun cdv A outer s H vs Q E hr h => ?_)
  · obtain ⟨pd, pp, pq, c, xs, ys, ps, b, fs, ex, rfl, _⟩ := h
    rfl
  obtain ⟨pd, pp, pq, c, xs, ys, ps, b, fs, ex, rfl, hF, nd, hb, hb1, hp, dp, hp1, hpt, hq, dq, hx, q⟩ := h
  have hu := hu_of hr
  refine ⟨_, (pss_cons (ps_set (i := 4) sc_block_faults.nd rfl (.inl rfl) (pe_callTy (dctK K) (by rfl) T.b_dict (by decide +kernel) (pa_cons (pv 1) pa_nil)))
    (pss_cons (ps_set (i := 5) sc_block_faults.nd rfl (.inl rfl) (pe_lst pa_nil))
    (pss_cons (ps_for PassesOwn.never rfl (enK K (by rfl) T.b_enumerate (pa_cons (pv 2) pa_nil)) (pg_tup (by rfl) (pgs_cons (pg_name (i := 6) sc_block_faults.nd rfl (.inl rfl)) (pgs_cons (pg_name (i := 7) sc_block_faults.nd rfl (.inl rfl)) pgs_nil))) (pss_cons (ps_set (i := 8) sc_block_faults.nd rfl (.inl rfl) (pe_call (ok_statement_fault T) (hr.mono (by omega)) (by rfl) T.d_statement_fault.m T.d_statement_fault.F.kp T.d_statement_fault.b .nil pass0 (pa_cons (pv 0) (pa_cons (pv 4) (pa_cons (pv 7) (pa_cons (pv 3) pa_nil))))))
    (pss_cons (ps_if (pt_cmpR k_notN (pv 8) pe_non (nomark _)) (pss_one (ps_expr (pe_bm PySem.F.plainAttrs_list PySem.F.slot_list_append PySem.F.type_list_append mt_append (pv 5) (pa_cons (pe_tup (pa_cons (pv 6) (pa_cons (pv 8) pa_nil))) pa_nil)))) pss_nil)
    (pss_one (ps_if (pt_cmpR op_eq (pe_ix (ixT K) (pv 7) pe_int (fun _ _ => rfl)) pe_str (nomark _)) (pss_one (ps_dput hu (pv 4) (pe_ix (ixT K) (pv 7) pe_int (fun _ _ => rfl)) (pe_ix (ixT K) (pv 7) pe_int (fun _ _ => rfl)) rfl)) pss_nil)))))
    (pss_one (ps_ret (pv 5)))))), ?_⟩
  walk_at "r"
  refine a_dict hp dp hp1 fun m H1 n1 e1 t1 => ?_
  walk_at "r"
  refine new_lst (xs := []) (by simp) fun l H2 n2 e2 f2 => ?_
  walk_at "r"
  have G1 : Ex H (dl [m] H1) := new_dl n1 e1
  have G2 : Ex H (dl [l, m] H2) := G1.trans (dl_new n2 e2)
  have t2 : TyN K [l, m] H2 m (envP e0 ps) ps.length := t1.grow n2 e2
  have ml : m ≠ l := by
    obtain ⟨kvs, f, _⟩ := t1
    exact ne_of_none f n2
  have ly : ys.length = b.length := by rw [dpa_len dq, List.length_map]
  refine ⟨pq, ys, rfl, ex_sl hq (e1.trans e2), ?_⟩
  refine lp_enum (xs := ys) (fun k σ h => (∃ x6 x7 x8, σ = [some (.ref pd), some (.ref pp), some (.ref pq), some (.ref c), some (.ref m), some (.ref l), x6, x7, x8]) ∧ Ex H (dl [l, m] h) ∧
      ∃ acc out e, h l = some (.lst acc) ∧ DpAll K (dl [l, m] h) acc (List.map bfD out) ∧ acc.length ≤ k ∧ jBlk fs ex (envP e0 ps) 0 b = out ++ jBlk fs ex e k (b.drop k) ∧ TyN K [l, m] h m e (ps.length + k) ∧ EO e)
    ⟨⟨_, _, _, rfl⟩, G2, [], [], envP e0 ps, f2, .nil, Nat.le_refl _, rfl, t2, EO.nil.ps hpt⟩ (fun k σ h _ g => ex_sl (ex_sl hq g.2.1) (dl_le _ _)) ?_ ?_
  · rintro k u σ h t hk ⟨⟨x6, x7, x8, rfl⟩, G, acc, out, e, f1, D1, z1, ej, ty, eo⟩ nt
    obtain ⟨d, hd, du⟩ := dpa_at dq hk
    rw [List.getElem?_map] at hd
    cases hs : b[k]? with
    | none => rw [hs] at hd; cases hd
    | some st =>
    rw [hs] at hd
    cases hd
    have hk1 := at_lt hs
    have dr : b.drop k = st :: b.drop (k + 1) := by
      rw [List.drop_eq_getElem_cons hk1]
      rw [List.getElem?_eq_getElem hk1] at hs
      rw [Option.some.inj hs]
    obtain ⟨hcf, hso⟩ := hb st (List.mem_of_getElem? hs)
    rw [dr] at ej
    have e2 : Ex h (upd h t (.tup [.int (k : Nat), u])) := Ex.new nt
    have f2 : upd h t (.tup [.int (k : Nat), u]) t = some (.tup [.int (k : Nat), u]) := upd_same
    have tl : t ≠ l := (ne_old f1 nt).symm
    have tm : t ≠ m := by
      obtain ⟨kvs, f, _⟩ := ty
      exact (ne_old f nt).symm
    generalize upd h t (.tup [.int (k : Nat), u]) = h2 at e2 f2 ⊢
    refine w_gtup (xs := [.int (k : Nat), u]) (SqT.of f2) rfl ?_
    walk_at "r"
    have G3 : Ex H (dl [l, m] h2) := G.trans (dl_ex e2)
    have X3 : Ex H h2 := G3.trans (dl_le _ _)
    refine ⟨[l, m], pd, m, u, _, e, st, fs, ex, rfl, hF.up X3, nd, hcf, (ty.ex' e2).d (by omega), eo, dp_ex X3 du, hx.up X3, fun h3 e3 => ?_⟩
    walk_at "r"
    have G4 : Ex H (dl [l, m] h3) := G3.trans (dl_ex e3)
    rw [jBlk_at'] at ej
    refine a_notO ?_
    walk_at "r"
    have f13 := (e2.trans e3) _ _ f1
    have ty3 := ty.ex' (e2.trans e3)
    have D13 := dpa_ex (dl_ex (e2.trans e3)) D1
    have du3 := dp_ex G4 du
    cases hj : jStm fs e ex st with
    | some fl =>
      refine ite2 (fun c => ?_) (fun c => absurd rfl c)
      rw [hj] at ej
      walk_at "r"
      refine ⟨a_ty f13, ?_⟩
      walk_at "r"
      refine new_tup (by simp) fun t4 h4 n4 e4 f4 => ?_
      walk_at "r"
      have t4n : t4 ∉ [l, m] := by
        obtain ⟨kvs, f, _⟩ := ty3
        exact nin_cons (ne_old f13 n4).symm (nin_cons (ne_old f n4).symm nin_nil)
      refine a_app (e4 _ _ f13) (by omega) ?_
      have kS : Ks [l, m] h4 (upd h4 l (.lst (acc ++ [.ref t4]))) := (Ks.refl _ _).upd (by simp)
      have f5 : upd h4 l (.lst (acc ++ [.ref t4])) l = some (.lst (acc ++ [.ref t4])) := upd_same
      have ty5 : TyN K [l, m] (upd h4 l (.lst (acc ++ [.ref t4]))) m e (ps.length + k) := (ty3.ex' e4).ks (M := [l]) ((Ks.refl _ _).upd (by simp)) (fun a ha => by simp at ha; simp [ha]) (by simpa using ml)
      generalize upd h4 l (.lst (acc ++ [.ref t4])) = h5 at kS f5 ty5 ⊢
      have x45 := dl_ks kS
      have G5 : Ex H (dl [l, m] h5) := (G4.trans (dl_ex e4)).trans x45
      have D5 : DpAll K (dl [l, m] h5) (acc ++ [.ref t4]) (List.map bfD (out ++ [(k, fl)])) := by
        rw [List.map_append]
        exact dpa_snoc (dpa_ex ((dl_ex e4).trans x45) D13) (.tup (SqT.of (x45 _ _ (dl_at t4n f4))) (.cons (.int _) (.cons (.str _) .nil)))
      refine blk_let (dp_ex G5 du) ty5 (by simp) (by omega) fun h6 k6 t6 => ?_
      have k6' : Ks [l, m] h5 h6 := k6.mono (by simp)
      refine ⟨⟨_, _, _, rfl⟩, G5.trans (dl_ks k6'), acc ++ [.ref t4], out ++ [(k, fl)], _, k6 _ _ (by simpa using ml.symm) f5, dpa_ex (dl_ks k6') D5, by rw [List.length_append]; simp; omega, ?_, t6, eo.st hso⟩
      rw [ej, List.append_assoc]
      rfl
    | none =>
      refine ite2 (fun c => by cases c) (fun c => ?_)
      rw [hj] at ej
      with_reducible refine w_next ?_
      refine blk_let du3 ty3 (by simp) (by omega) fun h6 k6 t6 => ?_
      have k6' : Ks [l, m] h3 h6 := k6.mono (by simp)
      exact ⟨⟨_, _, _, rfl⟩, G4.trans (dl_ks k6'), acc, out, _, k6 _ _ (by simpa using ml.symm) f13, dpa_ex (dl_ks k6') D13, by omega, ej, t6, eo.st hso⟩
  · rintro σ h ⟨⟨x6, x7, x8, rfl⟩, G, acc, out, e, f1, D1, z1, ej, ty, eo⟩
    walk_at "r"
    rw [ly, List.drop_length] at ej
    have ej2 : jBlk fs ex (envP e0 ps) 0 b = out := by rw [ej]; exact List.append_nil _
    have nl : H l = none := ex_none e1 n2
    exact q l acc h nl (G.trans (dl_le _ _)) f1 (by rw [ej2]; exact dpa_ex (dl_le _ _) D1)
theorem ok_faults (T : Tx K mg) : FnOk P w K mg base CX0 14 T.a_faults T.e_faults p_faults (pFa K T.C_Program T.C_Function) := by
  refine T.d_faults.F.ok sc_faults (fun vs H Q E h => ?_) (fun cdv A outer s H vs Q E hr h => ?_)
  · obtain ⟨z, c, fs, ss, ex, rfl, _⟩ := h
    rfl
  obtain ⟨z, c, fs, ss, ex, rfl, hz, ok, hx, q⟩ := h
  refine ⟨_, (pss_cons (ps_set (i := 2) sc_faults.nd rfl (.inl rfl) (pe_call (ok_by_name T) (hr.mono (by omega)) (by rfl) T.d_by_name.m T.d_by_name.F.kp T.d_by_name.b .nil pass0 (pa_cons (by exact (fldK K (pv 0) rfl)) pa_nil)))
    (pss_cons (ps_set (i := 3) sc_faults.nd rfl (.inl rfl) (pe_lst pa_nil))
    (pss_cons (ps_for PassesOwn.never rfl (plK K (by exact (fldK K (pv 0) rfl))) (pg_name (i := 4) sc_faults.nd rfl (.inl rfl)) (pss_one (ps_for PassesOwn.never rfl (plK K (pe_call (ok_block_faults T) (hr.mono (by omega)) (by rfl) T.d_block_faults.m T.d_block_faults.F.kp T.d_block_faults.b .nil pass0 (pa_cons (pv 2) (pa_cons (by exact (fldK K (pv 4) rfl)) (pa_cons (by exact (fldK K (pv 4) rfl)) (pa_cons (pv 1) pa_nil)))))) (pg_tup (by rfl) (pgs_cons (pg_name (i := 5) sc_faults.nd rfl (.inl rfl)) (pgs_cons (pg_name (i := 6) sc_faults.nd rfl (.inl rfl)) pgs_nil))) (pss_one (ps_expr (pe_bm PySem.F.plainAttrs_list PySem.F.slot_list_append PySem.F.type_list_append mt_append (pv 3) (pa_cons (pe_tup (pa_cons (by exact (fldK K (pv 4) rfl)) (pa_cons (pv 5) (pa_cons (pv 6) pa_nil)))) pa_nil)))))))
    (pss_cons (ps_for PassesOwn.never rfl (plK K (pe_call (ok_block_faults T) (hr.mono (by omega)) (by rfl) T.d_block_faults.m T.d_block_faults.F.kp T.d_block_faults.b .nil pass0 (pa_cons (pv 2) (pa_cons (pe_lst pa_nil) (pa_cons (by exact (fldK K (pv 0) rfl)) (pa_cons (pv 1) pa_nil)))))) (pg_tup (by rfl) (pgs_cons (pg_name (i := 5) sc_faults.nd rfl (.inl rfl)) (pgs_cons (pg_name (i := 6) sc_faults.nd rfl (.inl rfl)) pgs_nil))) (pss_one (ps_expr (pe_bm PySem.F.plainAttrs_list PySem.F.slot_list_append PySem.F.type_list_append mt_append (pv 3) (pa_cons (pe_tup (pa_cons pe_str (pa_cons (pv 5) (pa_cons (pv 6) pa_nil)))) pa_nil)))))
    (pss_one (ps_ret (pv 3))))))), ?_⟩
  obtain ⟨dz, r1, r2, ws1, ws2, z1, z2, z3, z4, z5⟩ := hz.ex
  have nd := (List.nodup_append.mp ok.nd).1
  have cfs := ok.ft.all
  rw [List.nil_append] at cfs
  have f4 := ok.f4
  walk_at "r"
  refine a_get T.c_Program T.n_Program_functions z1 (pg_fns _ _) ?_
  walk_at "r"
  refine ⟨r1, ws1, fs, rfl, SqL.of z2, z3, nd, by omega, fun m H1 n1 e1 hF => ?_⟩
  walk_at "r"
  refine new_lst (xs := []) (by simp) fun l H2 n2 e2 f2 => ?_
  walk_at "r"
  have e12 := e1.trans e2
  refine a_get T.c_Program T.n_Program_functions (e12 _ _ z1) (pg_fns _ _) ?_
  walk_at "r"
  refine r_L (SqL.of (e12 _ _ z2)) ?_
  have lw : ws1.length = fs.length := by rw [z3.len, List.length_map]
  have nl : H l = none := ex_none e1 n2
  have G0 : Ex H1 (dl [l] H2) := new_dl n2 e2
  have flen : ∀ (g : TF), g ∈ fs → (jFn fs ex g).length ≤ 12 := fun g hg => by
    unfold jFn
    rw [List.length_map]
    exact Nat.le_trans (jBlk_len ..) (ok.fo g hg).b12
  -- one block's faults are added
  refine lp_list (xs := ws1) (fun k σ h => (∃ x4 x5 x6, σ = [some (.ref z), some (.ref c), some (.ref m), some (.ref l), x4, x5, x6]) ∧ Ex H1 (dl [l] h) ∧ ∃ acc, h l = some (.lst acc) ∧ DpAll K (dl [l] h) acc (List.map faD ((fs.take k).flatMap (jFn fs ex))) ∧ acc.length ≤ 12 * k)
    ⟨⟨_, _, _, rfl⟩, G0, [], f2, .nil, Nat.le_refl _⟩ (fun k σ h _ g => SqL.of (dl_le _ _ _ _ (g.2.1 _ _ (e1 _ _ z2)))) ?_ ?_
  · rintro k u σ h hk ⟨⟨x4, x5, x6, rfl⟩, G, acc, f1, D1, l1⟩
    obtain ⟨a, fd, rfl, hfd, hA⟩ := z3.get hk
    rw [List.getElem?_map] at hfd
    cases hg : fs[k]? with
    | none => rw [hg] at hfd; cases hfd
    | some g =>
    rw [hg] at hfd
    cases hfd
    have gm := List.mem_of_getElem? hg
    have hk1 := at_lt hg
    have hA1 := hA.up (e1.trans G)
    obtain ⟨dx, nv, q1, q2, o1, o2, o3, o4⟩ := hA1.ex
    cases fd_name o2
    obtain ⟨xs, p1, p2⟩ := o3.ex
    obtain ⟨ys, p3, p4⟩ := o4.ex
    have gk := ok.fo g gm
    have L0 := dl_le [l] h
    walk_at "r"
    refine a_get T.c_Function T.n_Function_params (L0 _ _ o1) (fn_params _ _ _) ?_
    walk_at "r"
    refine a_get T.c_Function T.n_Function_body (L0 _ _ o1) (fn_body _ _ _) ?_
    walk_at "r"
    refine ⟨m, q1, q2, c, xs, ys, g.p, g.b, fs, ex, rfl, hF.up (G.trans L0), nd, fun s hs => ⟨cfs.1 g gm s hs, gk.bo s hs⟩, by have := gk.b12; omega, SqL.of (L0 _ _ p1), dpa_ex L0 p2, by have := gk.p4; omega, fun q hq => (gk.po q hq).2, SqL.of (L0 _ _ p3), dpa_ex L0 p4, hx.up ((e1.trans G).trans L0), fun l' vs h2 n' e' f' D' => ?_⟩
    walk_at "r"
    refine r_L (SqL.of f') ?_
    have jl : vs.length = (jBlk fs ex (envP e0 g.p) 0 g.b).length := by rw [dpa_len D', List.length_map]
    have jl2 : (jBlk fs ex (envP e0 g.p) 0 g.b).length ≤ 12 := Nat.le_trans (jBlk_len ..) gk.b12
    have nl' : l' ≠ l := (ne_old f1 n').symm
    have D'' : DpAll K (dl [l] h2) vs ((jBlk fs ex (envP e0 g.p) 0 g.b).map bfD) := bf_dl (e' _ _ f1) D'
    refine lp_list (xs := vs) (fun j σ h3 => (∃ x5 x6, σ = [some (.ref z), some (.ref c), some (.ref m), some (.ref l), some (.ref a), x5, x6]) ∧ Ex (dl [l] h2) (dl [l] h3) ∧ ∃ acc3, h3 l = some (.lst acc3) ∧ DpAll K (dl [l] h3) acc3 (List.map faD ((fs.take k).flatMap (jFn fs ex) ++ (((jBlk fs ex (envP e0 g.p) 0 g.b).take j).map fun q => (g.n, q)))) ∧ acc3.length ≤ 12 * k + j)
      ⟨⟨_, _, rfl⟩, Ex.refl _, acc, e' _ _ f1, by simpa using dpa_ex (dl_ex e') D1, by omega⟩ (fun j σ h3 _ g => SqL.of (dl_le _ _ _ _ (g.2.1 _ _ (dl_at (by simpa using nl') f')))) ?_ ?_
    · rintro j v σ h3 hj ⟨⟨x5, x6, rfl⟩, G3, acc3, f3, D3, l3⟩
      obtain ⟨d, hd, dv⟩ := dpa_at D'' hj
      rw [List.getElem?_map] at hd
      cases hq : (jBlk fs ex (envP e0 g.p) 0 g.b)[j]? with
      | none => rw [hq] at hd; cases hd
      | some qq =>
      rw [hq] at hd
      cases hd
      obtain ⟨p, u1, u2, rfl, hp, d1, d2⟩ := dp_two (dp_ex G3 dv)
      cases dp_int d1
      cases dp_str d2
      have hj2 := at_lt hq
      have L3 := dl_le [l] h3
      refine w_gtup (xs := [.int (qq.1 : Nat), .str qq.2]) (ex_st hp L3) rfl ?_
      walk_at "r"
      refine ⟨a_ty f3, ?_⟩
      walk_at "r"
      have oA : dl [l] h2 a = some (.ins T.C_Function dx (fnF (.str g.n) q1 q2)) := dl_ex e' _ _ o1
      refine a_get T.c_Function T.n_Function_name (L3 _ _ (G3 _ _ oA)) (fn_name _ _ _) ?_
      walk_at "r"
      refine new_tup (by simp) fun t4 h4 n4 e4 f4 => ?_
      walk_at "r"
      have t4n : t4 ∉ [l] := nin_cons (ne_old f3 n4).symm nin_nil
      refine a_app (e4 _ _ f3) (by omega) ?_
      have kS : Ks [l] h4 (upd h4 l (.lst (acc3 ++ [.ref t4]))) := (Ks.refl _ _).upd (by simp)
      have f5 : upd h4 l (.lst (acc3 ++ [.ref t4])) l = some (.lst (acc3 ++ [.ref t4])) := upd_same
      generalize upd h4 l (.lst (acc3 ++ [.ref t4])) = h5 at kS f5 ⊢
      have x45 := dl_ks kS
      walk_at "r"
      refine ⟨⟨_, _, rfl⟩, (G3.trans (dl_ex e4)).trans x45, _, f5, ?_, by rw [List.length_append]; simp; omega⟩
      rw [take_snoc hq, List.map_append (f := fun q => (g.n, q)), ← List.append_assoc, List.map_append]
      exact dpa_snoc (dpa_ex ((dl_ex e4).trans x45) D3) (.tup (SqT.of (x45 _ _ (dl_at t4n f4))) (.cons (.str _) (.cons (.int _) (.cons (.str _) .nil))))
    · rintro σ h3 ⟨⟨x5, x6, rfl⟩, G3, acc3, f3, D3, l3⟩
      refine ⟨⟨_, _, _, rfl⟩, (G.trans (dl_ex e')).trans G3, acc3, f3, ?_, by omega⟩
      rw [take_snoc hg, List.flatMap_append]
      rw [jl, List.take_length] at D3
      simpa [jFn] using D3
  · rintro σ h ⟨⟨x4, x5, x6, rfl⟩, G, acc, f1, D1, l1⟩
    have L0 := dl_le [l] h
    have eh : Ex H h := (e1.trans G).trans L0
    rw [lw, List.take_length] at D1
    walk_at "r"
    refine new_lst (xs := []) (by simp) fun em h1 nm1 em1 fm1 => ?_
    walk_at "r"
    have z1' := (eh.trans em1) _ _ z1
    refine a_get T.c_Program T.n_Program_statements z1' (pg_sts _ _) ?_
    walk_at "r"
    refine ⟨m, em, r2, c, [], ws2, [], ss, fs, ex, rfl, hF.up ((G.trans L0).trans em1), nd, fun s hs => ⟨cfs.2 s hs, ok.so s hs⟩, by have := ok.s40; omega, SqL.of fm1, .nil, by simp, (fun q hq => by cases hq), SqL.of ((eh.trans em1) _ _ z4), dpa_ex (eh.trans em1) z5, hx.up (eh.trans em1), fun l' vs h2 n' e' f' D' => ?_⟩
    walk_at "r"
    refine r_L (SqL.of f') ?_
    have e02 := em1.trans e'
    have jl : vs.length = (jBlk fs ex e0 0 ss).length := by rw [dpa_len D', List.length_map]; rfl
    have jl2 : (jBlk fs ex e0 0 ss).length ≤ 40 := Nat.le_trans (jBlk_len ..) ok.s40
    have nl' : l' ≠ l := (ne_old (em1 _ _ f1) n').symm
    have D'' : DpAll K (dl [l] h2) vs ((jBlk fs ex e0 0 ss).map bfD) := bf_dl (e02 _ _ f1) D'
    refine lp_list (xs := vs) (fun j σ h3 => (∃ x4 x5 x6, σ = [some (.ref z), some (.ref c), some (.ref m), some (.ref l), x4, x5, x6]) ∧ Ex (dl [l] h2) (dl [l] h3) ∧ ∃ acc3, h3 l = some (.lst acc3) ∧ DpAll K (dl [l] h3) acc3 (List.map faD (fs.flatMap (jFn fs ex) ++ (((jBlk fs ex e0 0 ss).take j).map fun q => (("" : Str), q)))) ∧ acc3.length ≤ 12 * fs.length + j)
      ⟨⟨_, _, _, rfl⟩, Ex.refl _, acc, e02 _ _ f1, by simpa using dpa_ex (dl_ex e02) D1, by omega⟩ (fun j σ h3 _ g => SqL.of (dl_le _ _ _ _ (g.2.1 _ _ (dl_at (by simpa using nl') f')))) ?_ ?_
    · rintro j v σ h3 hj ⟨⟨x4, x5, x6, rfl⟩, G3, acc3, f3, D3, l3⟩
      obtain ⟨d, hd, dv⟩ := dpa_at D'' hj
      rw [List.getElem?_map] at hd
      cases hq : (jBlk fs ex e0 0 ss)[j]? with
      | none => rw [hq] at hd; cases hd
      | some qq =>
      rw [hq] at hd
      cases hd
      obtain ⟨p, u1, u2, rfl, hp, d1, d2⟩ := dp_two (dp_ex G3 dv)
      cases dp_int d1
      cases dp_str d2
      have hj2 := at_lt hq
      have L3 := dl_le [l] h3
      refine w_gtup (xs := [.int (qq.1 : Nat), .str qq.2]) (ex_st hp L3) rfl ?_
      walk_at "r"
      refine ⟨a_ty f3, ?_⟩
      walk_at "r"
      refine new_tup (by simp) fun t4 h4 n4 e4 f4 => ?_
      walk_at "r"
      have t4n : t4 ∉ [l] := nin_cons (ne_old f3 n4).symm nin_nil
      refine a_app (e4 _ _ f3) (by omega) ?_
      have kS : Ks [l] h4 (upd h4 l (.lst (acc3 ++ [.ref t4]))) := (Ks.refl _ _).upd (by simp)
      have f5 : upd h4 l (.lst (acc3 ++ [.ref t4])) l = some (.lst (acc3 ++ [.ref t4])) := upd_same
      generalize upd h4 l (.lst (acc3 ++ [.ref t4])) = h5 at kS f5 ⊢
      have x45 := dl_ks kS
      walk_at "r"
      refine ⟨⟨_, _, _, rfl⟩, (G3.trans (dl_ex e4)).trans x45, _, f5, ?_, by rw [List.length_append]; simp; omega⟩
      rw [take_snoc hq, List.map_append (f := fun q => (("" : Str), q)), ← List.append_assoc, List.map_append]
      exact dpa_snoc (dpa_ex ((dl_ex e4).trans x45) D3) (.tup (SqT.of (x45 _ _ (dl_at t4n f4))) (.cons (.str _) (.cons (.int _) (.cons (.str _) .nil))))
    · rintro σ h3 ⟨⟨x4, x5, x6, rfl⟩, G3, acc3, f3, D3, l3⟩
      walk_at "r"
      have e23 : Ex H h3 := (((e1.trans G).trans (dl_ex e02)).trans G3).trans (dl_le _ _)
      rw [jl, List.take_length] at D3
      exact q l acc3 h3 nl e23 f3 (dpa_ex (dl_le _ _) D3)
theorem ok_is_let_by (T : Tx K mg) : FnOk P w K mg base CX0 15 T.a_is_let_by T.e_is_let_by p_is_let_by (pLet1 K T.C_Program T.C_Function) := by
  refine T.d_is_let_by.F.ok sc_is_let_by (fun vs H Q E h => ?_) (fun cdv A outer s H vs Q E hr h => ?_)
  · obtain ⟨z, c, fs, ss, ex, rfl, _⟩ := h
    rfl
  obtain ⟨z, c, fs, ss, ex, rfl, hz, ok, hx, q⟩ := h
  refine ⟨_, (pss_one (ps_ret (pe_cmpR op_eq (pe_callB (lenK K) (by rfl) T.b_len PySem.boot_len (pa_cons (pe_call (ok_faults T) (hr.mono (by omega)) (by rfl) T.d_faults.m T.d_faults.F.kp T.d_faults.b .nil pass0 (pa_cons (pv 0) (pa_cons (pv 1) pa_nil))) pa_nil)) pe_int (nomark _)))), ?_⟩
  walk_at "r"
  refine ⟨z, c, fs, ss, ex, rfl, hz, ok, hx, fun l vs H1 n1 e1 f1 D1 => ?_⟩
  walk_at "r"
  refine a_lenL (SqL.of f1) ?_
  walk_at "r"
  have lv : vs.length = (jAll fs ss ex).length := by rw [dpa_len D1, List.length_map]
  have := q H1 e1
  rw [lv]
  have e2 : decide (((jAll fs ss ex).length : Int) = 0) = decide ((jAll fs ss ex).length = 0) := by
    by_cases c : (jAll fs ss ex).length = 0
    · rw [decide_eq_true c, c]; rfl
    · rw [decide_eq_false c, decide_eq_false (by omega)]
  rw [e2]
  exact this

end
section
variable {P : Program} {w : World} {K : PySem.W.Frag} {mg : Str → Option Value} {base : Heap}
theorem filt_len (T : List R) : decide (((T.filter fun x => !x.hr).length : Int) > 0) = !T.all R.hr := by
  induction T with
  | nil => rfl
  | cons x T ih =>
    rw [List.all_cons]
    cases h : x.hr with
    | true =>
      rw [List.filter_cons_of_neg (by simp [h]), Bool.true_and]
      exact ih
    | false =>
      rw [List.filter_cons_of_pos (by simp [h]), List.length_cons]
      rw [decide_eq_true (by omega)]
      rfl
theorem ok__law_reached (T : Tx K mg) : FnOk P w K mg base CX0 2 T.a__law_reached T.e__law_reached p__law_reached (pPlF K) := by
  refine T.d__law_reached.F.ok sc__law_reached (fun vs H Q E h => ?_) (fun cdv A outer s H vs Q E hr h => ?_)
  · obtain ⟨S, pt, v, e, x, k, rfl, _⟩ := h
    rfl
  obtain ⟨S, pt, v, e, x, k, rfl, hT, eo, hv, q⟩ := h
  have hu := hu_of hr
  refine ⟨_, (pss_cons (ps_set (i := 2) sc__law_reached.nd rfl (.inl rfl) (pe_ix (ixT K) (pv 1) pe_int (fun _ _ => rfl)))
    (pss_cons (ps_if (pt_cmp (pc_dnotin hu (pv 2) (pv 0)) rfl) (pss_one (ps_ret pe_str)) pss_nil)
    (pss_cons (ps_if (pt_cmpR op_ge (pe_ix (ixT K) (pv 1) pe_int (fun _ _ => rfl)) (pe_callB (lenK K) (by rfl) T.b_len PySem.boot_len (pa_cons (pe_dget hu (pv 0) (pv 2) (fun _ _ => rfl)) pa_nil)) (nomark _)) (pss_one (ps_ret pe_str)) pss_nil)
    (pss_cons (ps_if (pt_cmpR op_gt (pe_callB (lenK K) (by rfl) T.b_len PySem.boot_len (pa_cons (pe_lc (own := [("right", 3)]) (g := gName 3) rfl sc__law_reached.nd  (ptK K (pe_slice (slA K) (pe_dget hu (pv 0) (pv 2) (fun _ _ => rfl)) po_none (po_some (pe_ix (ixT K) (pv 1) pe_int (fun _ _ => rfl))))) (blkOk_by (own := [("right", 3)]) (N := n__law_reached) (sc := defScope s__law_reached) (by decide +kernel)) (fun _ _ _ _ _ => (pg_name (i := 3) sc__law_reached.nd rfl (Or.inl rfl))) (fun _ _ _ _ _ => (pts_one (pt_cmpR k_ninS pe_str (pv 3) (by rfl)))) (fun _ _ _ _ _ => (pv 3))) pa_nil)) pe_int (nomark _)) (pss_one (ps_ret pe_str)) pss_nil)
    (pss_one (ps_ret pe_non)))))), ?_⟩
  obtain ⟨p, rfl, hp⟩ := dp_pl hv
  walk_at "r"
  refine a_ixT (v := .str x) hp (atI_nat (j := 0) rfl) ?_
  walk_at "r"
  refine hT.mem ?_
  walk_at "r"
  cases hx : e x with
  | none =>
    have q' := q H (Ex.refl _)
    unfold jPlace at q'
    rw [hx] at q'
    refine ite2 (fun c => ?_) (fun c => absurd rfl c)
    walk_at "r"
    exact q'
  | some U =>
    refine ite2 (fun c => by cases c) (fun c => ?_)
    walk_at "r"
    refine a_ixT (v := .int (k : Int)) hp (atI_nat (j := 1) rfl) ?_
    walk_at "r"
    refine hT.get hx fun a ha => ?_
    have ha' := ex_st ha (dl_le S H)
    walk_at "r"
    refine a_lenT ha' ?_
    walk_at "r"
    rw [tv_len]
    have q0 : ∀ H2, Ex H H2 → Q (ofO (if U.length ≤ k then some "too many stars" else if (U.take k).all R.hr then none else some "may not read")) H2 := fun H2 e2 => by
      have := q H2 e2
      unfold jPlace at this
      rw [hx] at this
      exact this
    refine ite2 (fun c => ?_) (fun c => ?_)
    · walk_at "r"
      have := q0 H (Ex.refl _)
      rw [if_pos (by have := of_decide_eq_true c; omega)] at this
      exact this
    · have hk : ¬ U.length ≤ k := by have := of_decide_eq_false (nf c); omega
      walk_at "r"
      refine hT.get hx fun a ha => ?_
      have ha' := ex_st ha (dl_le S H)
      walk_at "r"
      refine a_ixT (v := .int (k : Int)) hp (atI_nat (j := 1) rfl) ?_
      walk_at "r"
      refine a_slUp ha' fun b H1 e1 f1 _ => ?_
      rw [tv_take] at f1
      walk_at "r"
      refine c_T f1 ?_
      refine cp_tup (xs := tv (U.take k)) (fun l j h => Ex H1 h ∧ ∃ acc, h l = some (.lst acc) ∧ acc.length = (((U.take k).take j).filter fun x => !x.hr).length) (fun l n => ⟨Ex.new n, [], upd_same, rfl⟩) (fun l j h _ _ g => ex_st f1 g.1) ?_ ?_
      · rintro l j y h nl hy ⟨e2, acc, f2, z2⟩
        obtain ⟨r, hr', rfl⟩ := tv_get hy
        have hj := at_lt hr'
        have h6 := (eo x U hx).2
        have hj2 : j < k ∧ j < U.length := by rw [List.length_take] at hj; omega
        walk_at "r"
        refine ⟨rfl, ?_⟩
        walk_at "r"
        refine a_ninS (in_r r) ?_
        walk_at "r"
        have z3 := List.length_filter_le (fun x : R => !x.hr) ((U.take k).take j)
        rw [List.length_take] at z3
        have tk : ((U.take k).take (j + 1)) = (U.take k).take j ++ [r] := take_snoc hr'
        refine ite2 (fun c => ?_) (fun c => ?_)
        · walk_at "r"
          refine ⟨acc, f2, sz_lt (by omega), e2.mut nl, _, upd_same, ?_⟩
          rw [tk, List.filter_append, List.length_append, List.length_append, z2, List.filter_cons_of_pos (by simpa using c)]
          rfl
        · refine ⟨e2, acc, f2, ?_⟩
          rw [tk, List.filter_append, List.length_append, z2, List.filter_cons_of_neg (by simpa using c)]
          rfl
      · rintro l h nl ⟨e2, acc, f2, z2⟩
        rw [tv_len, List.take_length] at z2
        walk_at "r"
        refine a_lenL (SqL.of f2) ?_
        walk_at "r"
        have q1 := q0 h (e1.trans e2)
        rw [if_neg hk] at q1
        rw [z2, filt_len]
        refine ite2 (fun c => ?_) (fun c => ?_)
        · walk_at "r"
          rw [if_neg (by simpa using c)] at q1
          exact q1
        · walk_at "r"
          rw [if_pos (by simpa using c)] at q1
          exact q1
theorem ok__law_source_fault (T : Tx K mg) : FnOk P w K mg base CX0 9 T.a__law_source_fault T.e__law_source_fault p__law_source_fault (pSrc K) := by
  refine T.d__law_source_fault.F.ok sc__law_source_fault (fun vs H Q E h => ?_) (fun cdv A outer s H vs Q E hr h => ?_)
  · obtain ⟨S, pt, v, g, c, e, s, goal, ex, rfl, _⟩ := h
    rfl
  obtain ⟨S, pt, v, g, c, e, src, goal, ex, rfl, hT, eo, hv, hg, hx, q⟩ := h
  have hu := hu_of hr
  refine ⟨_, (pss_cons (ps_if (PW.pt (pw_or (pt_cmpR op_eq (pe_ix (ixT K) (pv 1) pe_int (fun _ _ => rfl)) pe_str (nomark _)) (pw_or1 (pt_cmpR op_eq (pe_ix (ixT K) (pv 1) pe_int (fun _ _ => rfl)) pe_str (nomark _))))) (pss_cons (ps_if (pt_cmpR op_eq (pe_cmpR op_eq (pe_ix (ixT K) (pv 1) pe_int (fun _ _ => rfl)) pe_str (nomark _)) (pe_cmpR op_eq (pe_callB (lenK K) (by rfl) T.b_len PySem.boot_len (pa_cons (pv 2) pa_nil)) pe_int (nomark _)) (nomark _)) (pss_one (ps_ret pe_non)) pss_nil)
    (pss_one (ps_ret pe_str))) pss_nil)
    (pss_cons (ps_set (i := 4) sc__law_source_fault.nd rfl (.inl rfl) (pe_call (ok__law_reached T) (hr.mono (by omega)) (by rfl) T.d__law_reached.m T.d__law_reached.F.kp T.d__law_reached.b .nil pass0 (pa_cons (pv 0) (pa_cons (pe_ix (ixT K) (pv 1) pe_int (fun _ _ => rfl)) pa_nil))))
    (pss_cons (ps_if (pt_cmpR k_notN (pv 4) pe_non (nomark _)) (pss_one (ps_ret (pv 4))) pss_nil)
    (pss_cons (ps_set (i := 5) sc__law_source_fault.nd rfl (.inl rfl) (pe_slice (slA K) (pe_dget hu (pv 0) (pe_ix (ixT K) (pe_ix (ixT K) (pv 1) pe_int (fun _ _ => rfl)) pe_int (fun _ _ => rfl)) (fun _ _ => rfl)) (po_some (pe_ix (ixT K) (pe_ix (ixT K) (pv 1) pe_int (fun _ _ => rfl)) pe_int (fun _ _ => rfl))) po_none))
    (pss_cons (ps_if (pt_cmpR op_eq (pe_ix (ixT K) (pv 1) pe_int (fun _ _ => rfl)) pe_str (nomark _)) (pss_cons (ps_if (pt_cmpR k_ninS pe_str (pe_ix (ixT K) (pv 5) pe_int (fun _ _ => rfl)) (by rfl)) (pss_one (ps_ret pe_str)) pss_nil)
    (pss_one (ps_set (i := 5) sc__law_source_fault.nd rfl (.inl rfl) (pe_slice (slA K) (pv 5) (po_some pe_int) po_none)))) pss_nil)
    (pss_cons (ps_if (pt_cmpR op_ne (pe_callB (lenK K) (by rfl) T.b_len PySem.boot_len (pa_cons (pv 5) pa_nil)) (pe_callB (lenK K) (by rfl) T.b_len PySem.boot_len (pa_cons (pv 2) pa_nil)) (nomark _)) (pss_one (ps_ret pe_str)) pss_nil)
    (pss_cons (ps_if (PW.pt (pw_and (pt_not (pt_val (pe_call (ok__law_converts T 7) (hr.mono (by omega)) (by rfl) T.d__law_converts.m T.d__law_converts.F.kp T.d__law_converts.b .nil pass0 (pa_cons (pv 5) (pa_cons (pv 2) pa_nil))))) (pw_and1 (pt_cmpR (ninDK K (hd_of hr)) (pe_tup (pa_cons (pv 5) (pa_cons (pv 2) pa_nil))) (pv 3) (by rfl))))) (pss_one (ps_ret pe_str)) pss_nil)
    (pss_one (ps_ret pe_non))))))))), ?_⟩
  cases src with
  | num n =>
    obtain ⟨p, u, y, rfl, hp, d1, d2⟩ := dp_two hv
    cases dp_str d1
    walk_at "r"
    refine a_ixT (v := .str "number") hp (atI_nat (j := 0) rfl) ?_
    walk_at "r"
    refine ite2 (fun c => ?_) (fun c => absurd (show decide (("number" : Str) = "number") = true from by decide) c)
    walk_at "r"
    refine a_ixT (v := .str "number") hp (atI_nat (j := 0) rfl) ?_
    walk_at "r"
    refine a_lenT hg ?_
    walk_at "r"
    rw [tv_len]
    have q1 : Q (ofO (if goal = [] then none else some "other depth")) H := q H (Ex.refl _)
    refine ite2 (fun c => ?_) (fun c => ?_)
    · walk_at "r"
      rw [if_pos (List.eq_nil_of_length_eq_zero (by simpa using c))] at q1
      exact q1
    · walk_at "r"
      rw [if_neg (fun z => c (by rw [z]; rfl))] at q1
      exact q1
  | null =>
    obtain ⟨p, u, rfl, hp, d1⟩ := dp_1 hv
    cases dp_str d1
    walk_at "r"
    refine a_ixT (v := .str "null") hp (atI_nat (j := 0) rfl) ?_
    walk_at "r"
    refine ite2 (fun c => absurd (show decide (("null" : Str) = "number") = true from c) (by decide)) (fun c => ?_)
    walk_at "r"
    refine a_ixT (v := .str "null") hp (atI_nat (j := 0) rfl) ?_
    walk_at "r"
    refine ite2 (fun c => ?_) (fun c => absurd (show decide (("null" : Str) = "null") = true from by decide) c)
    walk_at "r"
    refine a_ixT (v := .str "null") hp (atI_nat (j := 0) rfl) ?_
    walk_at "r"
    refine a_lenT hg ?_
    walk_at "r"
    rw [tv_len]
    have q1 : Q (ofO (if goal = [] then some "other depth" else none)) H := q H (Ex.refl _)
    refine ite2 (fun c => ?_) (fun c => ?_)
    · walk_at "r"
      rw [if_neg (fun z => by rw [z] at c; cases c)] at q1
      exact q1
    · walk_at "r"
      rw [if_pos (Decidable.byContradiction fun z => c (by
        have : goal.length ≠ 0 := fun y => z (List.eq_nil_of_length_eq_zero y)
        rw [show decide ((goal.length : Int) = 0) = false from decide_eq_false (by omega)]
        rfl))] at q1
      exact q1
  | adr x k =>
    obtain ⟨p, u, y, rfl, hp, d1, d2⟩ := dp_two hv
    cases dp_str d1
    obtain ⟨py, rfl, hy⟩ := dp_pl d2
    walk_at "r"
    refine a_ixT (v := .str "address") hp (atI_nat (j := 0) rfl) ?_
    walk_at "r"
    refine ite2 (fun c => absurd (show decide (("address" : Str) = "number") = true from c) (by decide)) (fun c => ?_)
    walk_at "r"
    refine a_ixT (v := .str "address") hp (atI_nat (j := 0) rfl) ?_
    walk_at "r"
    refine ite2 (fun c => absurd (show decide (("address" : Str) = "null") = true from c) (by decide)) (fun c => ?_)
    walk_at "r"
    refine a_ixT (v := .ref py) hp (atI_nat (j := 1) rfl) ?_
    walk_at "r"
    refine ⟨S, pt, .ref py, e, x, k, rfl, hT, eo, d2, fun H2 e2 => ?_⟩
    walk_at "r"
    refine a_notO ?_
    walk_at "r"
    have q0 : ∀ H2, Ex H H2 → Q (ofO (match jPlace e x k with | some f => some f | none => jConv ex (jSeen e x k) goal)) H2 := q
    cases hj : jPlace e x k with
    | some fl =>
      refine ite2 (fun c => ?_) (fun c => absurd rfl c)
      walk_at "r"
      have := q0 H2 e2
      rw [hj] at this
      exact this
    | none =>
      refine ite2 (fun c => by cases c) (fun c => ?_)
      walk_at "r"
      obtain ⟨U, hU, hk, hs⟩ := jPlace_none hj
      refine a_ixT (v := .ref py) (ex_st hp e2) (atI_nat (j := 1) rfl) ?_
      walk_at "r"
      refine a_ixT (v := .str x) (ex_st hy e2) (atI_nat (j := 0) rfl) ?_
      walk_at "r"
      refine (hT.ex' e2).get hU fun a ha => ?_
      walk_at "r"
      refine a_ixT (v := .ref py) (ex_st hp e2) (atI_nat (j := 1) rfl) ?_
      walk_at "r"
      refine a_ixT (v := .int (k : Int)) (ex_st hy e2) (atI_nat (j := 1) rfl) ?_
      walk_at "r"
      refine a_slFr (ex_st ha (dl_le S H2)) fun b H3 e3 f3 _ => ?_
      rw [tv_drop] at f3
      have e23 := e2.trans e3
      walk_at "r"
      refine a_ixT (v := .str "address") (ex_st hp e23) (atI_nat (j := 0) rfl) ?_
      walk_at "r"
      refine ite2 (fun c => absurd (show decide (("address" : Str) = "value") = true from c) (by decide)) (fun c => ?_)
      walk_at "r"
      have lW : (U.drop k).length ≤ 6 := by
        have := (eo x U hU).2
        rw [List.length_drop]
        omega
      have q2 : ∀ H4, Ex H3 H4 → Q (ofO (jConv ex (U.drop k) goal)) H4 := fun H4 e4 => by
        have := q0 H4 (e23.trans e4)
        rw [hj, hs] at this
        exact this
      generalize U.drop k = W at f3 lW q2
      have hg3 := ex_st hg e23
      have hx3 := hx.up e23
      refine a_lenT f3 ?_
      walk_at "r"
      refine a_lenT hg3 ?_
      walk_at "r"
      rw [tv_len, tv_len]
      refine ite2 (fun d => ?_) (fun d => ?_)
      · walk_at "r"
        have := q2 H3 (Ex.refl _)
        unfold jConv at this
        rw [if_pos (fun z => by rw [z] at d; simp at d)] at this
        exact this
      · have hl : W.length = goal.length := by simp at d; omega
        have q0' : ∀ H4, Ex H3 H4 → Q (ofO (if cv W goal || exB ex W goal then none else some "no conversion")) H4 := fun H4 e4 => by
          have := q2 H4 e4
          unfold jConv at this
          rw [if_neg (by simpa using hl)] at this
          exact this
        walk_at "r"
        refine ⟨b, g, W, goal, rfl, f3, hg3, by omega, fun H4 e4 => ?_⟩
        walk_at "r"
        refine ite2 (fun d => ?_) (fun d => ?_)
        · walk_at "r"
          refine new_tup (by simp) fun t H5 n5 e5 f5 => ?_
          walk_at "r"
          refine a_ninX f5 (by walk_at "st") (by walk_at "st") (hx3.up (e4.trans e5)) ?_
          have q1 := q0' H5 (e4.trans e5)
          rw [(by simpa using d : cv W goal = false), Bool.false_or] at q1
          walk_at "r"
          refine ite2 (fun d => ?_) (fun d => ?_)
          · walk_at "r"
            rw [if_neg (by simpa using d)] at q1
            exact q1
          · walk_at "r"
            rw [if_pos (by simpa using d)] at q1
            exact q1
        · walk_at "r"
          have := q0' H4 e4
          rw [(by simpa using d : cv W goal = true), Bool.true_or] at this
          exact this
  | val x k =>
    obtain ⟨p, u, y, rfl, hp, d1, d2⟩ := dp_two hv
    cases dp_str d1
    obtain ⟨py, rfl, hy⟩ := dp_pl d2
    walk_at "r"
    refine a_ixT (v := .str "value") hp (atI_nat (j := 0) rfl) ?_
    walk_at "r"
    refine ite2 (fun c => absurd (show decide (("value" : Str) = "number") = true from c) (by decide)) (fun c => ?_)
    walk_at "r"
    refine a_ixT (v := .str "value") hp (atI_nat (j := 0) rfl) ?_
    walk_at "r"
    refine ite2 (fun c => absurd (show decide (("value" : Str) = "null") = true from c) (by decide)) (fun c => ?_)
    walk_at "r"
    refine a_ixT (v := .ref py) hp (atI_nat (j := 1) rfl) ?_
    walk_at "r"
    refine ⟨S, pt, .ref py, e, x, k, rfl, hT, eo, d2, fun H2 e2 => ?_⟩
    walk_at "r"
    refine a_notO ?_
    walk_at "r"
    have q0 : ∀ H2, Ex H H2 → Q (ofO (match jPlace e x k with | some f => some f | none => if (hdR (jSeen e x k)).hr then jConv ex ((jSeen e x k).drop 1) goal else some "may not read")) H2 := q
    cases hj : jPlace e x k with
    | some fl =>
      refine ite2 (fun c => ?_) (fun c => absurd rfl c)
      walk_at "r"
      have := q0 H2 e2
      rw [hj] at this
      exact this
    | none =>
      refine ite2 (fun c => by cases c) (fun c => ?_)
      walk_at "r"
      obtain ⟨r, W, hs, U, hU, hk, hs2⟩ := seen_cons hj
      refine a_ixT (v := .ref py) (ex_st hp e2) (atI_nat (j := 1) rfl) ?_
      walk_at "r"
      refine a_ixT (v := .str x) (ex_st hy e2) (atI_nat (j := 0) rfl) ?_
      walk_at "r"
      refine (hT.ex' e2).get hU fun a ha => ?_
      walk_at "r"
      refine a_ixT (v := .ref py) (ex_st hp e2) (atI_nat (j := 1) rfl) ?_
      walk_at "r"
      refine a_ixT (v := .int (k : Int)) (ex_st hy e2) (atI_nat (j := 1) rfl) ?_
      walk_at "r"
      refine a_slFr (ex_st ha (dl_le S H2)) fun b0 H30 e30 f30 _ => ?_
      rw [tv_drop, ← hs2, hs] at f30
      have e230 := e2.trans e30
      walk_at "r"
      refine a_ixT (v := .str "value") (ex_st hp e230) (atI_nat (j := 0) rfl) ?_
      walk_at "r"
      refine ite2 (fun c => ?_) (fun c => absurd (show decide (("value" : Str) = "value") = true from by decide) c)
      walk_at "r"
      refine a_ixT (v := .str r.s) f30 (atI_nat (j := 0) rfl) ?_
      walk_at "r"
      refine a_ninS (in_r r) ?_
      walk_at "r"
      refine ite2 (fun c => ?_) (fun c => ?_)
      · walk_at "r"
        have := q0 H30 e230
        rw [hj, hs] at this
        rw [if_neg (show ¬ (hdR (r :: W)).hr = true by simpa [hdR] using c)] at this
        exact this
      walk_at "r"
      refine a_slT1 f30 fun b H3 n3 e31 f31 => ?_
      have f3 := SqT.of (K := K) f31
      have e23 := e230.trans e31
      walk_at "r"
      have lW : W.length ≤ 6 := by
        have := seen_len eo x k
        rw [hs, List.length_cons] at this
        omega
      have q2 : ∀ H4, Ex H3 H4 → Q (ofO (jConv ex W goal)) H4 := fun H4 e4 => by
        have := q0 H4 (e23.trans e4)
        rw [hj, hs] at this
        rw [if_pos (show (hdR (r :: W)).hr = true by simpa [hdR] using c)] at this
        exact this
      have hg3 := ex_st hg e23
      have hx3 := hx.up e23
      change SqT K H3 b (tv W) at f3
      refine a_lenT f3 ?_
      walk_at "r"
      refine a_lenT hg3 ?_
      walk_at "r"
      rw [tv_len, tv_len]
      refine ite2 (fun d => ?_) (fun d => ?_)
      · walk_at "r"
        have := q2 H3 (Ex.refl _)
        unfold jConv at this
        rw [if_pos (fun z => by rw [z] at d; simp at d)] at this
        exact this
      · have hl : W.length = goal.length := by simp at d; omega
        have q0' : ∀ H4, Ex H3 H4 → Q (ofO (if cv W goal || exB ex W goal then none else some "no conversion")) H4 := fun H4 e4 => by
          have := q2 H4 e4
          unfold jConv at this
          rw [if_neg (by simpa using hl)] at this
          exact this
        walk_at "r"
        refine ⟨b, g, W, goal, rfl, f3, hg3, by omega, fun H4 e4 => ?_⟩
        walk_at "r"
        refine ite2 (fun d => ?_) (fun d => ?_)
        · walk_at "r"
          refine new_tup (by simp) fun t H5 n5 e5 f5 => ?_
          walk_at "r"
          refine a_ninX f5 (by walk_at "st") (by walk_at "st") (hx3.up (e4.trans e5)) ?_
          have q1 := q0' H5 (e4.trans e5)
          rw [(by simpa using d : cv W goal = false), Bool.false_or] at q1
          walk_at "r"
          refine ite2 (fun d => ?_) (fun d => ?_)
          · walk_at "r"
            rw [if_neg (by simpa using d)] at q1
            exact q1
          · walk_at "r"
            rw [if_pos (by simpa using d)] at q1
            exact q1
        · walk_at "r"
          have := q0' H4 e4
          rw [(by simpa using d : cv W goal = true), Bool.true_or] at this
          exact this

end
section
variable {P : Program} {w : World} {K : PySem.W.Frag} {mg : Str → Option Value} {base : Heap}
def pLFa (K : PySem.W.Frag) : Sp := fun vs H Q _ => ∃ S pt pf v c e s fs ex xs, vs = [.ref pt, .ref pf, v, .ref c] ∧ SqL K H pf xs ∧ DpAll K H xs (List.map tfD fs) ∧ fs.length ≤ 100 ∧ (fs.map TF.n).Nodup ∧ cf fs s ∧ stO s ∧ TyD K S H pt e ∧ EO e ∧ Dp K H v (stD s) ∧ XL K H c ex ∧ RV1 (ofO (jStm fs e ex s)) H Q
def pLBl (K : PySem.W.Frag) : Sp := fun vs H Q _ => ∃ f m pf pb c e fs b ex n, vs = [.str f, .ref m, .ref pf, .ref pb, .ref c] ∧ TyN K [m] H m e n ∧ EO e ∧ n ≤ 100 ∧ (∃ xs, SqL K (dl [m] H) pf xs ∧ DpAll K (dl [m] H) xs (List.map tfD fs)) ∧ fs.length ≤ 100 ∧ (fs.map TF.n).Nodup ∧ (∀ s ∈ b, cf fs s ∧ stO s) ∧ b.length ≤ 100 ∧ (∃ ys, SqL K (dl [m] H) pb ys ∧ DpAll K (dl [m] H) ys (b.map stD)) ∧ XL K (dl [m] H) c ex ∧
  ∀ l vs H1, H l = none → Ks [m] H H1 → H1 l = some (.lst vs) → DpAll K H1 vs (((jBlk fs ex e 0 b).map fun q => (f, q)).map faD) → Q (.ref l) H1
def pLFs (K : PySem.W.Frag) : Sp := fun vs H Q _ => ∃ p c fs ss ex, vs = [.ref p, .ref c] ∧ Dp K H (.ref p) (.list [.list (List.map tfD fs), .list (List.map stD ss)]) ∧ POk fs ss ∧ XL K H c ex ∧
  ∀ l vs H1, H l = none → Ex H H1 → H1 l = some (.lst vs) → DpAll K H1 vs ((jAll fs ss ex).map faD) → Q (.ref l) H1
theorem filt_prm {fs : List TF} {f : Str} (nd : (fs.map TF.n).Nodup) {g : TF} (hg : g ∈ fs) (e : g.n = f) : ∃ r, fs.filter (fun g => decide (g.n = f)) = g :: r := by
  have m : g ∈ fs.filter (fun g => decide (g.n = f)) := List.mem_filter.mpr ⟨hg, decide_eq_true e⟩
  cases q : fs.filter (fun g => decide (g.n = f)) with
  | nil => rw [q] at m; cases m
  | cons g' r =>
    have m' : g' ∈ fs.filter (fun g => decide (g.n = f)) := by rw [q]; exact List.mem_cons_self ..
    obtain ⟨h1, h2⟩ := List.mem_filter.mp m'
    have e' := of_decide_eq_true h2
    have : g' = g := by
      obtain ⟨i, hi, ei⟩ := List.mem_iff_getElem.mp h1
      obtain ⟨j, hj, ej⟩ := List.mem_iff_getElem.mp hg
      have hi' : i < (fs.map TF.n).length := by rw [List.length_map]; exact hi
      have hj' : j < (fs.map TF.n).length := by rw [List.length_map]; exact hj
      have eq : (fs.map TF.n)[i] = (fs.map TF.n)[j] := by rw [List.getElem_map, List.getElem_map, ei, ej, e', e]
      rcases Nat.lt_trichotomy i j with lt | rfl | lt
      · exact absurd eq (List.pairwise_iff_getElem.mp nd i j hi' hj' lt)
      · rw [← ei, ← ej]
      · exact absurd eq.symm (List.pairwise_iff_getElem.mp nd j i hj' hi' lt)
    exact ⟨r, by rw [this]⟩
theorem ok__law_fault (T : Tx K mg) : FnOk P w K mg base CX0 10 T.a__law_fault T.e__law_fault p__law_fault (pLFa K) := by
  refine T.d__law_fault.F.ok sc__law_fault (fun vs H Q E h => ?_) (fun cdv A outer s H vs Q E hr h => ?_)
  · obtain ⟨S, pt, pf, v, c, e, s, fs, ex, xs, rfl, _⟩ := h
    rfl
  obtain ⟨S, pt, pf, v, c, e, st, fs, ex, xs, rfl, hf, df, hz, nd, hc, so, hT, eo, hv, hx, q⟩ := h
  have hu := hu_of hr
  refine ⟨_, (pss_cons (ps_if (pt_cmpR op_eq (pe_ix (ixT K) (pv 2) pe_int (fun _ _ => rfl)) pe_str (nomark _)) (pss_one (ps_ret (pe_call (ok__law_source_fault T) (hr.mono (by omega)) (by rfl) T.d__law_source_fault.m T.d__law_source_fault.F.kp T.d__law_source_fault.b .nil pass0 (pa_cons (pv 0) (pa_cons (pe_ix (ixT K) (pv 2) pe_int (fun _ _ => rfl)) (pa_cons (pe_slice (slA K) (pe_ix (ixT K) (pv 2) pe_int (fun _ _ => rfl)) (po_some pe_int) po_none) (pa_cons (pv 3) pa_nil))))))) pss_nil)
    (pss_cons (ps_if (pt_cmpR op_eq (pe_ix (ixT K) (pv 2) pe_int (fun _ _ => rfl)) pe_str (nomark _)) (pss_cons (ps_set (i := 4) sc__law_fault.nd rfl (.inl rfl) (pe_call (ok__law_reached T) (hr.mono (by omega)) (by rfl) T.d__law_reached.m T.d__law_reached.F.kp T.d__law_reached.b .nil pass0 (pa_cons (pv 0) (pa_cons (pe_ix (ixT K) (pv 2) pe_int (fun _ _ => rfl)) pa_nil))))
    (pss_cons (ps_if (pt_cmpR k_notN (pv 4) pe_non (nomark _)) (pss_one (ps_ret (pv 4))) pss_nil)
    (pss_cons (ps_set (i := 5) sc__law_fault.nd rfl (.inl rfl) (pe_slice (slA K) (pe_dget hu (pv 0) (pe_ix (ixT K) (pe_ix (ixT K) (pv 2) pe_int (fun _ _ => rfl)) pe_int (fun _ _ => rfl)) (fun _ _ => rfl)) (po_some (pe_ix (ixT K) (pe_ix (ixT K) (pv 2) pe_int (fun _ _ => rfl)) pe_int (fun _ _ => rfl))) po_none))
    (pss_cons (ps_if (pt_cmpR k_ninS pe_str (pe_ix (ixT K) (pv 5) pe_int (fun _ _ => rfl)) (by rfl)) (pss_one (ps_ret pe_str)) pss_nil)
    (pss_one (ps_ret (pe_call (ok__law_source_fault T) (hr.mono (by omega)) (by rfl) T.d__law_source_fault.m T.d__law_source_fault.F.kp T.d__law_source_fault.b .nil pass0 (pa_cons (pv 0) (pa_cons (pe_ix (ixT K) (pv 2) pe_int (fun _ _ => rfl)) (pa_cons (pe_slice (slA K) (pv 5) (po_some pe_int) po_none) (pa_cons (pv 3) pa_nil))))))))))) pss_nil)
    (pss_cons (ps_set (i := 6) sc__law_fault.nd rfl (.inl rfl) (pe_ix (ixL K) (pe_lc (own := [("f", 8)]) (g := gName 8) rfl sc__law_fault.nd  (plK K (pv 1)) (blkOk_by (own := [("f", 8)]) (N := n__law_fault) (sc := defScope s__law_fault) (by decide +kernel)) (fun _ _ _ _ _ => (pg_name (i := 8) sc__law_fault.nd rfl (Or.inl rfl))) (fun _ _ _ _ _ => (pts_one (pt_cmpR op_eq (pe_ix (ixL K) (pv 8) pe_int (fun _ _ => rfl)) (pe_ix (ixT K) (pv 2) pe_int (fun _ _ => rfl)) (nomark _)))) (fun _ _ _ _ _ => (pe_ix (ixL K) (pv 8) pe_int (fun _ _ => rfl)))) pe_int (fun _ _ => rfl)))
    (pss_cons (ps_for PassesOwn.never rfl (pi_range1 (by rfl) T.b_range (pa_cons (pe_callB (lenK K) (by rfl) T.b_len PySem.boot_len (pa_cons (pv 6) pa_nil)) pa_nil)) (pg_name (i := 7) sc__law_fault.nd rfl (.inl rfl)) (pss_cons (ps_set (i := 4) sc__law_fault.nd rfl (.inl rfl) (pe_call (ok__law_source_fault T) (hr.mono (by omega)) (by rfl) T.d__law_source_fault.m T.d__law_source_fault.F.kp T.d__law_source_fault.b .nil pass0 (pa_cons (pv 0) (pa_cons (pe_ix (ixL K) (pe_ix (ixT K) (pv 2) pe_int (fun _ _ => rfl)) (pv 7) (fun _ _ => rfl)) (pa_cons (pe_slice (slA K) (pe_ix (ixT K) (pe_ix (ixL K) (pv 6) (pv 7) (fun _ _ => rfl)) pe_int (fun _ _ => rfl)) (po_some pe_int) po_none) (pa_cons (pv 3) pa_nil))))))
    (pss_one (ps_if (pt_cmpR k_notN (pv 4) pe_non (nomark _)) (pss_one (ps_ret (pv 4))) pss_nil))))
    (pss_one (ps_ret pe_non)))))), ?_⟩
  cases st with
  | lt x U s =>
    obtain ⟨p, u1, u2, u3, u4, rfl, hp, d1, d2, d3, d4⟩ := dp_fou hv
    cases dp_str d1
    obtain ⟨a, rfl, ha⟩ := dp_ruT d3
    walk_at "r"
    refine a_ixT (v := .str "let") hp (atI_nat (j := 0) rfl) ?_
    walk_at "r"
    refine ite2 (fun c => ?_) (fun c => absurd (show decide (("let" : Str) = "let") = true from by decide) c)
    walk_at "r"
    refine a_ixT (v := u4) hp (atI_nat (j := 3) rfl) ?_
    walk_at "r"
    refine a_ixT (v := .ref a) hp (atI_nat (j := 2) rfl) ?_
    walk_at "r"
    refine a_slFr (n := 1) ha fun b H2 e2 f2 _ => ?_
    rw [tv_drop] at f2
    walk_at "r"
    exact ⟨S, pt, u4, b, _, e, s, U.drop 1, ex, rfl, hT.ex' e2, eo, dp_ex e2 d4, f2, hx.up e2, fun H3 e3 => q H3 (e2.trans e3)⟩
  | put x k src =>
    obtain ⟨p, u1, u2, u3, rfl, hp, d1, d2, d3⟩ := dp_thr hv
    cases dp_str d1
    obtain ⟨py, rfl, hy⟩ := dp_pl d2
    walk_at "r"
    refine a_ixT (v := .str "put") hp (atI_nat (j := 0) rfl) ?_
    walk_at "r"
    refine ite2 (fun c => absurd (show decide (("put" : Str) = "let") = true from c) (by decide)) (fun c => ?_)
    walk_at "r"
    refine a_ixT (v := .str "put") hp (atI_nat (j := 0) rfl) ?_
    walk_at "r"
    refine ite2 (fun c => ?_) (fun c => absurd (show decide (("put" : Str) = "put") = true from by decide) c)
    walk_at "r"
    refine a_ixT (v := .ref py) hp (atI_nat (j := 1) rfl) ?_
    walk_at "r"
    refine ⟨S, pt, .ref py, e, x, k, rfl, hT, eo, d2, fun H2 e2 => ?_⟩
    walk_at "r"
    refine a_notO ?_
    walk_at "r"
    have q0 : ∀ H2, Ex H H2 → Q (ofO (match jPlace e x k with | some f => some f | none => if (hdR (jSeen e x k)).hw then jSrc e ex ((jSeen e x k).drop 1) src else some "may not write")) H2 := q
    cases hj : jPlace e x k with
    | some fl =>
      refine ite2 (fun c => ?_) (fun c => absurd rfl c)
      walk_at "r"
      have := q0 H2 e2
      rw [hj] at this
      exact this
    | none =>
      refine ite2 (fun c => by cases c) (fun c => ?_)
      walk_at "r"
      obtain ⟨r, W, hs, U, hU, hk, hs2⟩ := seen_cons hj
      refine a_ixT (v := .ref py) (ex_st hp e2) (atI_nat (j := 1) rfl) ?_
      walk_at "r"
      refine a_ixT (v := .str x) (ex_st hy e2) (atI_nat (j := 0) rfl) ?_
      walk_at "r"
      refine (hT.ex' e2).get hU fun a ha => ?_
      walk_at "r"
      refine a_ixT (v := .ref py) (ex_st hp e2) (atI_nat (j := 1) rfl) ?_
      walk_at "r"
      refine a_ixT (v := .int (k : Int)) (ex_st hy e2) (atI_nat (j := 1) rfl) ?_
      walk_at "r"
      refine a_slFr (ex_st ha (dl_le S H2)) fun b0 H3 e3 f3 _ => ?_
      rw [tv_drop, ← hs2, hs] at f3
      have e23 := e2.trans e3
      walk_at "r"
      refine a_ixT (v := .str r.s) f3 (atI_nat (j := 0) rfl) ?_
      walk_at "r"
      refine a_ninS (in_w r) ?_
      walk_at "r"
      refine ite2 (fun c => ?_) (fun c => ?_)
      · walk_at "r"
        have := q0 H3 e23
        rw [hj, hs] at this
        rw [if_neg (show ¬ (hdR (r :: W)).hw = true by simpa [hdR] using c)] at this
        exact this
      · walk_at "r"
        refine a_ixT (v := u3) (ex_st hp e23) (atI_nat (j := 2) rfl) ?_
        walk_at "r"
        refine a_slT1 f3 fun b H4 n4 e4 f4 => ?_
        have e24 := e23.trans e4
        walk_at "r"
        refine ⟨S, pt, u3, b, _, e, src, W, ex, rfl, hT.ex' e24, eo, dp_ex e24 d3, SqT.of f4, hx.up e24, fun H5 e5 => ?_⟩
        have := q0 H5 (e24.trans e5)
        rw [hj, hs] at this
        rw [if_pos (show (hdR (r :: W)).hw = true by simpa [hdR] using c)] at this
        exact this
  | call f ss =>
    obtain ⟨p, u1, u2, u3, rfl, hp, d1, d2, d3⟩ := dp_thr hv
    cases dp_str d1
    cases dp_str d2
    obtain ⟨pl, ys, rfl, hy, dy⟩ := dp_lst d3
    obtain ⟨g, hg, rfl, hl⟩ := hc
    obtain ⟨rr, hflt⟩ := filt_prm nd hg rfl
    have q0 : ∀ H2, Ex H H2 → Q (ofO (jCall e ex g.p ss)) H2 := fun H2 e2 => by
      have this : Q (ofO (jCall e ex (prm fs g.n) ss)) H2 := q H2 e2
      rw [prm_eq nd hg] at this
      exact this
    walk_at "r"
    refine a_ixT (v := .str "call") hp (atI_nat (j := 0) rfl) ?_
    walk_at "r"
    refine ite2 (fun c => absurd (show decide (("call" : Str) = "let") = true from c) (by decide)) (fun cc1 => ?_)
    walk_at "r"
    refine a_ixT (v := .str "call") hp (atI_nat (j := 0) rfl) ?_
    walk_at "r"
    refine ite2 (fun c => absurd (show decide (("call" : Str) = "put") = true from c) (by decide)) (fun cc2 => ?_)
    walk_at "r"
    refine c_L hf ?_
    have lx : xs.length = fs.length := by rw [dpa_len df, List.length_map]
    refine cp_list (xs := xs) (fun l k h => Ex H h ∧ ∃ acc, h l = some (.lst acc) ∧ DpAll K H acc (((fs.take k).filter fun z => decide (z.n = g.n)).map fun z => .list (z.p.map pD))) (fun l n => ⟨Ex.new n, [], upd_same, .nil⟩) (fun l k h _ _ z => ex_sl hf z.1) ?_ ?_
    · rintro l k x h nl hk ⟨e1, acc, f1, D1⟩
      obtain ⟨d, hd, dx⟩ := dpa_at df hk
      rw [List.getElem?_map] at hd
      cases hz' : fs[k]? with
      | none => rw [hz'] at hd; cases hd
      | some z =>
      rw [hz'] at hd
      cases hd
      obtain ⟨pz, w1, w2, w3, rfl, hpz, g1, g2, g3⟩ := dp_l3 dx
      cases dp_str g1
      have hk2 := at_lt hz'
      have la := dpa_len D1
      have lf := List.length_filter_le (fun z : TF => decide (z.n = g.n)) (fs.take k)
      rw [List.length_map] at la
      rw [List.length_take] at lf
      walk_at "r"
      refine ⟨rfl, ?_⟩
      walk_at "r"
      refine a_ixL (v := .str z.n) (ex_sl hpz e1) (atI_nat (j := 0) rfl) ?_
      walk_at "r"
      refine a_ixT (v := .str g.n) (ex_st hp e1) (atI_nat (j := 1) rfl) ?_
      walk_at "r"
      refine ite2 (fun c => ?_) (fun c => ?_)
      · have cc := of_decide_eq_true c
        walk_at "r"
        refine a_ixL (v := w2) (ex_sl hpz e1) (atI_nat (j := 1) rfl) ?_
        refine ⟨acc, f1, sz_lt (by omega), e1.mut nl, _, upd_same, ?_⟩
        rw [take_snoc hz', List.filter_append, List.map_append, show [z].filter (fun z : TF => decide (z.n = g.n)) = [z] from by simp [cc]]
        exact dpa_snoc D1 g2
      · refine ⟨e1, acc, f1, ?_⟩
        rw [take_snoc hz', List.filter_append, List.map_append, show [z].filter (fun z : TF => decide (z.n = g.n)) = [] from by simp at c; simp [c]]
        simpa using D1
    · rintro l h nl ⟨e1, acc, f1, D1⟩
      rw [lx, List.take_length, hflt] at D1
      cases D1 with
      | cons g1 g2 =>
      obtain ⟨pp, vs, rfl, hpp, dpp⟩ := dp_lst g1
      walk_at "r"
      refine a_ixL (v := .ref pp) (SqL.of f1) (atI_nat (j := 0) rfl) ?_
      walk_at "r"
      refine a_lenL (ex_sl hpp e1) ?_
      walk_at "r"
      have lv : vs.length = g.p.length := by rw [dpa_len dpp, List.length_map]
      have ly : ys.length = ss.length := by rw [dpa_len dy, List.length_map]
      have s4 := so.2.1
      refine r_R1 (by omega) ?_
      refine lp_range (fun k σ h2 => (∃ x4 x5 x7 x8, σ = [some (.ref pt), some (.ref pf), some (.ref p), some (.ref c), x4, x5, some (.ref pp), x7, x8]) ∧ Ex H h2 ∧ jCall e ex g.p ss = jCall e ex (g.p.drop k) (ss.drop k)) ⟨⟨_, _, _, _, rfl⟩, e1, rfl⟩ ?_ ?_
      · rintro k σ h2 hk ⟨⟨x4, x5, x7, x8, rfl⟩, e2, ej⟩
        have hk1 : k < g.p.length := by omega
        have hk2 : k < ss.length := by omega
        obtain ⟨qq, hq⟩ : ∃ qq, g.p[k]? = some qq := ⟨_, List.getElem?_eq_getElem hk1⟩
        obtain ⟨src, hs⟩ : ∃ src, ss[k]? = some src := ⟨_, List.getElem?_eq_getElem hk2⟩
        have dr1 : g.p.drop k = qq :: g.p.drop (k + 1) := by
          rw [List.drop_eq_getElem_cons hk1]
          rw [List.getElem?_eq_getElem hk1] at hq
          rw [Option.some.inj hq]
        have dr2 : ss.drop k = src :: ss.drop (k + 1) := by
          rw [List.drop_eq_getElem_cons hk2]
          rw [List.getElem?_eq_getElem hk2] at hs
          rw [Option.some.inj hs]
        obtain ⟨v1, hv1⟩ : ∃ v1, vs[k]? = some v1 := ⟨_, List.getElem?_eq_getElem (by omega)⟩
        obtain ⟨v2, hv2⟩ : ∃ v2, ys[k]? = some v2 := ⟨_, List.getElem?_eq_getElem (by omega)⟩
        obtain ⟨b1, c1, D2⟩ := dpa_at dpp hv1
        obtain ⟨b2, c2, D3⟩ := dpa_at dy hv2
        rw [List.getElem?_map, hq] at c1
        rw [List.getElem?_map, hs] at c2
        cases c1
        cases c2
        obtain ⟨p2, a2, rfl, hp2, ha2⟩ := dp_pD D2
        rw [dr1, dr2] at ej
        have k0 : (0 : Int) + (k : Int) = ((k : Nat) : Int) := Int.zero_add _
        rw [k0]
        walk_at "r"
        refine a_ixT (v := .ref pl) (ex_st hp e2) (atI_nat (j := 2) rfl) ?_
        walk_at "r"
        refine a_ixL (v := v2) (ex_sl hy e2) (atI_nat hv2) ?_
        walk_at "r"
        refine a_ixL (v := .ref p2) (ex_sl hpp e2) (atI_nat hv1) ?_
        walk_at "r"
        refine a_ixT (v := .ref a2) (ex_st hp2 e2) (atI_nat (j := 1) rfl) ?_
        walk_at "r"
        refine a_slFr (n := 1) (ex_st ha2 e2) fun b3 h3 e3 f3 _ => ?_
        rw [tv_drop] at f3
        have e13 := e2.trans e3
        walk_at "r"
        refine ⟨S, pt, v2, b3, _, e, src, qq.2.drop 1, ex, rfl, hT.ex' e13, eo, dp_ex e13 D3, f3, hx.up e13, fun h4 e4 => ?_⟩
        walk_at "r"
        refine a_notO ?_
        walk_at "r"
        have ej2 : jCall e ex (qq :: g.p.drop (k + 1)) (src :: ss.drop (k + 1)) = (match jSrc e ex (qq.2.drop 1) src with | some f => some f | none => jCall e ex (g.p.drop (k + 1)) (ss.drop (k + 1))) := rfl
        cases hj : jSrc e ex (qq.2.drop 1) src with
        | some fl =>
          refine ite2 (fun c => ?_) (fun c => absurd rfl c)
          walk_at "r"
          have := q0 h4 (e13.trans e4)
          rw [ej, ej2, hj] at this
          exact this
        | none =>
          refine ite2 (fun c => by cases c) (fun c => ?_)
          walk_at "r"
          refine ⟨⟨_, _, _, _, rfl⟩, e13.trans e4, ?_⟩
          rw [ej, ej2, hj]
      · rintro σ h2 ⟨⟨x4, x5, x7, x8, rfl⟩, e2, ej⟩
        walk_at "r"
        have := q0 h2 e2
        have z : ((vs.length : Nat) : Int).toNat = g.p.length := by omega
        rw [z] at ej
        rw [ej, List.drop_length] at this
        exact this
theorem fa_dl {H : Hp} {l : Addr} {xs vs : List V} {qs : List (Str × Nat × Str)} (f : H l = some (.lst xs)) (d : DpAll K H vs (qs.map faD)) : DpAll K (dl [l] H) vs (qs.map faD) :=
  dpa_kt (Kt.dl f) d (nt_map (fun _ => rfl) qs)
theorem lblk_let {D : Ends} {a0 a2 a4 a5 x7 : Option V} {m pb : Addr} {u : V} {ys : List V} {k : Nat} {h : Hp} {S : List Addr} {st : Stm} {e : Env} {n : Nat} (hp : SqL K h pb ys) (hk : ys[k]? = some u) (d : Dp K (dl S h) u (stD st)) (ty : TyN K S h m e n) (mS : m ∈ S) (hn : n < 1000)
    (kk : ∀ h5, Ks [m] h h5 → TyN K S h5 m (envS e st) (n + 1) → D.nx [a0, some (.ref m), a2, some (.ref pb), a4, a5, some (.int (k : Nat)), x7] h5) :
    tIfS (tTest (tOp rEq (tOp (rIxT K) (tOp (rIxL K) (tVar 3) (tVar 6)) (tC (V.int 0))) (tC (V.str "let")))) (sDPut (tVar 1) (tOp (rIxT K) (tOp (rIxL K) (tVar 3) (tVar 6)) (tC (V.int 1))) (tOp (rIxT K) (tOp (rIxL K) (tVar 3) (tVar 6)) (tC (V.int 2)))) tNext D [a0, some (.ref m), a2, some (.ref pb), a4, a5, some (.int (k : Nat)), x7] h := by
  have L := dl_le S h
  cases st with
  | lt x U s =>
    obtain ⟨p, u1, u2, u3, u4, rfl, hp', d1, d2, d3, d4⟩ := dp_fou d
    cases dp_str d1
    cases dp_str d2
    obtain ⟨a, rfl, ha⟩ := dp_ruT d3
    walk_at "r"
    refine a_ixL hp (atI_nat hk) ?_
    walk_at "r"
    refine a_ixT (v := .str "let") (ex_st hp' L) (atI_nat (j := 0) rfl) ?_
    walk_at "r"
    refine ite2 (fun c => ?_) (fun c => absurd (show decide (("let" : Str) = "let") = true from by decide) c)
    walk_at "r"
    refine a_ixL hp (atI_nat hk) ?_
    walk_at "r"
    refine a_ixT (v := .ref a) (ex_st hp' L) (atI_nat (j := 2) rfl) ?_
    walk_at "r"
    refine a_ixL hp (atI_nat hk) ?_
    walk_at "r"
    refine a_ixT (v := .str x) (ex_st hp' L) (atI_nat (j := 1) rfl) ?_
    exact ty.put mS hn ha fun h5 k5 t5 => kk h5 k5 t5
  | put x j s =>
    obtain ⟨p, u1, u2, u3, rfl, hp', d1, d2, d3⟩ := dp_thr d
    cases dp_str d1
    walk_at "r"
    refine a_ixL hp (atI_nat hk) ?_
    walk_at "r"
    refine a_ixT (v := .str "put") (ex_st hp' L) (atI_nat (j := 0) rfl) ?_
    walk_at "r"
    refine ite2 (fun c => absurd (show decide (("put" : Str) = "let") = true from c) (by decide)) (fun c => ?_)
    walk_at "r"
    exact kk h (Ks.refl _ _) (ty.mono (Nat.le_succ _))
  | call f ss =>
    obtain ⟨p, u1, u2, u3, rfl, hp', d1, d2, d3⟩ := dp_thr d
    cases dp_str d1
    walk_at "r"
    refine a_ixL hp (atI_nat hk) ?_
    walk_at "r"
    refine a_ixT (v := .str "call") (ex_st hp' L) (atI_nat (j := 0) rfl) ?_
    walk_at "r"
    refine ite2 (fun c => absurd (show decide (("call" : Str) = "let") = true from c) (by decide)) (fun c => ?_)
    walk_at "r"
    exact kk h (Ks.refl _ _) (ty.mono (Nat.le_succ _))
theorem ok__law_block_faults (T : Tx K mg) : FnOk P w K mg base CX0 11 T.a__law_block_faults T.e__law_block_faults p__law_block_faults (pLBl K) := by
  refine T.d__law_block_faults.F.ok sc__law_block_faults (fun vs H Q E h => ?_) (fun cdv A outer s H vs Q E hr h => ?_)
  · obtain ⟨f, m, pf, pb, c, e, fs, b, ex, n, rfl, _⟩ := h
    rfl
  obtain ⟨f, m, pf, pb, c, e, fs, b, ex, n, rfl, ty, eo, hn, ⟨xs, hf, df⟩, hz, nd, hb, hb1, ⟨ys, hp, dp⟩, hx, q⟩ := h
  have hu := hu_of hr
  refine ⟨_, (pss_cons (ps_set (i := 5) sc__law_block_faults.nd rfl (.inl rfl) (pe_lst pa_nil))
    (pss_cons (ps_for PassesOwn.never rfl (pi_range1 (by rfl) T.b_range (pa_cons (pe_callB (lenK K) (by rfl) T.b_len PySem.boot_len (pa_cons (pv 3) pa_nil)) pa_nil)) (pg_name (i := 6) sc__law_block_faults.nd rfl (.inl rfl)) (pss_cons (ps_set (i := 7) sc__law_block_faults.nd rfl (.inl rfl) (pe_call (ok__law_fault T) (hr.mono (by omega)) (by rfl) T.d__law_fault.m T.d__law_fault.F.kp T.d__law_fault.b .nil pass0 (pa_cons (pv 1) (pa_cons (pv 2) (pa_cons (pe_ix (ixL K) (pv 3) (pv 6) (fun _ _ => rfl)) (pa_cons (pv 4) pa_nil))))))
    (pss_cons (ps_if (pt_cmpR k_notN (pv 7) pe_non (nomark _)) (pss_one (ps_expr (pe_bm PySem.F.plainAttrs_list PySem.F.slot_list_append PySem.F.type_list_append mt_append (pv 5) (pa_cons (pe_tup (pa_cons (pv 0) (pa_cons (pv 6) (pa_cons (pv 7) pa_nil)))) pa_nil)))) pss_nil)
    (pss_one (ps_if (pt_cmpR op_eq (pe_ix (ixT K) (pe_ix (ixL K) (pv 3) (pv 6) (fun _ _ => rfl)) pe_int (fun _ _ => rfl)) pe_str (nomark _)) (pss_one (ps_dput hu (pv 1) (pe_ix (ixT K) (pe_ix (ixL K) (pv 3) (pv 6) (fun _ _ => rfl)) pe_int (fun _ _ => rfl)) (pe_ix (ixT K) (pe_ix (ixL K) (pv 3) (pv 6) (fun _ _ => rfl)) pe_int (fun _ _ => rfl)) rfl)) pss_nil)))))
    (pss_one (ps_ret (pv 5))))), ?_⟩
  walk_at "r"
  refine new_lst (xs := []) (by simp) fun l H2 n2 e2 f2 => ?_
  walk_at "r"
  have L0 := dl_le [m] H
  have ml : m ≠ l := by
    obtain ⟨kvs, f, _⟩ := ty
    exact ne_of_none f n2
  have G2 : Ex (dl [m] H) (dl [l, m] H2) := dl_new n2 e2
  have ly : ys.length = b.length := by rw [dpa_len dp, List.length_map]
  refine a_lenL (ex_sl (ex_sl hp L0) e2) ?_
  walk_at "r"
  refine r_R1 (by omega) ?_
  refine lp_range (fun k σ h => (∃ x6 x7, σ = [some (.str f), some (.ref m), some (.ref pf), some (.ref pb), some (.ref c), some (.ref l), x6, x7]) ∧ Ex (dl [m] H) (dl [l, m] h) ∧
      ∃ acc out e', h l = some (.lst acc) ∧ DpAll K (dl [l, m] h) acc (List.map faD (List.map (fun q => (f, q)) out)) ∧ acc.length ≤ k ∧ jBlk fs ex e 0 b = out ++ jBlk fs ex e' k (b.drop k) ∧ TyN K [l, m] h m e' (n + k) ∧ EO e')
    ⟨⟨_, _, rfl⟩, G2, [], [], e, f2, .nil, Nat.le_refl _, rfl, ty.grow n2 e2, eo⟩ ?_ ?_
  · rintro k σ h hk ⟨⟨x6, x7, rfl⟩, G, acc, out, e', f1, D1, z1, ej, ty1, eo1⟩
    have hk1 : k < b.length := by omega
    obtain ⟨st, hs⟩ : ∃ st, b[k]? = some st := ⟨_, List.getElem?_eq_getElem hk1⟩
    obtain ⟨u, hu2⟩ : ∃ u, ys[k]? = some u := ⟨_, List.getElem?_eq_getElem (by omega)⟩
    obtain ⟨d, c1, du⟩ := dpa_at dp hu2
    rw [List.getElem?_map, hs] at c1
    cases c1
    have dr : b.drop k = st :: b.drop (k + 1) := by
      rw [List.drop_eq_getElem_cons hk1]
      rw [List.getElem?_eq_getElem hk1] at hs
      rw [Option.some.inj hs]
    obtain ⟨hcf, hso⟩ := hb st (List.mem_of_getElem? hs)
    rw [dr] at ej
    have k0 : (0 : Int) + (k : Int) = ((k : Nat) : Int) := Int.zero_add _
    rw [k0]
    have X : Ex (dl [m] H) h := G.trans (dl_le _ _)
    walk_at "r"
    refine a_ixL (v := u) (ex_sl hp X) (atI_nat hu2) ?_
    walk_at "r"
    refine ⟨[l, m], m, pf, u, _, e', st, fs, ex, xs, rfl, ex_sl hf X, dpa_ex X df, hz, nd, hcf, hso, ty1.d (by omega), eo1, dp_ex X du, hx.up X, fun h3 e3 => ?_⟩
    walk_at "r"
    have G4 : Ex (dl [m] H) (dl [l, m] h3) := G.trans (dl_ex e3)
    rw [jBlk_at'] at ej
    refine a_notO ?_
    walk_at "r"
    have f13 := e3 _ _ f1
    have ty3 := ty1.ex' e3
    have D13 := dpa_ex (dl_ex e3) D1
    cases hj : jStm fs e' ex st with
    | some fl =>
      refine ite2 (fun c => ?_) (fun c => absurd rfl c)
      rw [hj] at ej
      walk_at "r"
      refine ⟨a_ty f13, ?_⟩
      walk_at "r"
      refine new_tup (by simp) fun t4 h4 n4 e4 f4 => ?_
      walk_at "r"
      have t4n : t4 ∉ [l, m] := by
        obtain ⟨kvs, f, _⟩ := ty3
        exact nin_cons (ne_old f13 n4).symm (nin_cons (ne_old f n4).symm nin_nil)
      refine a_app (e4 _ _ f13) (by omega) ?_
      have kS : Ks [l, m] h4 (upd h4 l (.lst (acc ++ [.ref t4]))) := (Ks.refl _ _).upd (by simp)
      have f5 : upd h4 l (.lst (acc ++ [.ref t4])) l = some (.lst (acc ++ [.ref t4])) := upd_same
      have ty5 : TyN K [l, m] (upd h4 l (.lst (acc ++ [.ref t4]))) m e' (n + k) := (ty3.ex' e4).ks (M := [l]) ((Ks.refl _ _).upd (by simp)) (fun a ha => by simp at ha; simp [ha]) (by simpa using ml)
      generalize upd h4 l (.lst (acc ++ [.ref t4])) = h5 at kS f5 ty5 ⊢
      have x45 := dl_ks kS
      have G5 : Ex (dl [m] H) (dl [l, m] h5) := (G4.trans (dl_ex e4)).trans x45
      have X5 := G5.trans (dl_le _ _)
      have D5 : DpAll K (dl [l, m] h5) (acc ++ [.ref t4]) (List.map faD (List.map (fun q => (f, q)) (out ++ [(k, fl)]))) := by
        rw [List.map_append, List.map_append]
        exact dpa_snoc (dpa_ex ((dl_ex e4).trans x45) D13) (.tup (SqT.of (x45 _ _ (dl_at t4n f4))) (.cons (.str _) (.cons (.int _) (.cons (.str _) .nil))))
      refine lblk_let (ex_sl hp X5) hu2 (dp_ex G5 du) ty5 (by simp) (by omega) fun h6 k6 t6 => ?_
      have k6' : Ks [l, m] h5 h6 := k6.mono (by simp)
      refine ⟨⟨_, _, rfl⟩, G5.trans (dl_ks k6'), acc ++ [.ref t4], out ++ [(k, fl)], _, k6 _ _ (by simpa using ml.symm) f5, dpa_ex (dl_ks k6') D5, by rw [List.length_append]; simp; omega, ?_, t6, eo1.st hso⟩
      rw [ej, List.append_assoc]
      rfl
    | none =>
      refine ite2 (fun c => by cases c) (fun c => ?_)
      rw [hj] at ej
      with_reducible refine w_next ?_
      have X5 := G4.trans (dl_le _ _)
      refine lblk_let (ex_sl hp X5) hu2 (dp_ex G4 du) ty3 (by simp) (by omega) fun h6 k6 t6 => ?_
      have k6' : Ks [l, m] h3 h6 := k6.mono (by simp)
      exact ⟨⟨_, _, rfl⟩, G4.trans (dl_ks k6'), acc, out, _, k6 _ _ (by simpa using ml.symm) f13, dpa_ex (dl_ks k6') D13, by omega, ej, t6, eo1.st hso⟩
  · rintro σ h ⟨⟨x6, x7, rfl⟩, G, acc, out, e', f1, D1, z1, ej, ty1, eo1⟩
    walk_at "r"
    have z : ((ys.length : Nat) : Int).toNat = b.length := by omega
    rw [z, List.drop_length] at ej
    have ej2 : jBlk fs ex e 0 b = out := by rw [ej]; exact List.append_nil _
    refine q l acc h n2 (fun a o na ha => ?_) f1 (by rw [ej2]; exact dpa_ex (dl_le _ _) D1)
    exact (G.trans (dl_le _ _)) _ _ (dl_at na ha)
theorem ok__law_faults (T : Tx K mg) : FnOk P w K mg base CX0 12 T.a__law_faults T.e__law_faults p__law_faults (pLFs K) := by
  refine T.d__law_faults.F.ok sc__law_faults (fun vs H Q E h => ?_) (fun cdv A outer s H vs Q E hr h => ?_)
  · obtain ⟨p, c, fs, ss, ex, rfl, _⟩ := h
    rfl
  obtain ⟨p, c, fs, ss, ex, rfl, hp, ok, hx, q⟩ := h
  refine ⟨_, (pss_cons (ps_set (i := 2) sc__law_faults.nd rfl (.inl rfl) (pe_lst pa_nil))
    (pss_cons (ps_for PassesOwn.never rfl (plK K (pe_ix (ixL K) (pv 0) pe_int (fun _ _ => rfl))) (pg_name (i := 3) sc__law_faults.nd rfl (.inl rfl)) (pss_one (ps_expr (pe_bm PySem.F.plainAttrs_list PySem.F.slot_list_extend PySem.F.type_list_extend mt_extend (pv 2) (pa_cons (pe_call (ok__law_block_faults T) (hr.mono (by omega)) (by rfl) T.d__law_block_faults.m T.d__law_block_faults.F.kp T.d__law_block_faults.b .nil pass0 (pa_cons (pe_ix (ixL K) (pv 3) pe_int (fun _ _ => rfl)) (pa_cons (pe_callTy (dctK K) (by rfl) T.b_dict (by decide +kernel) (pa_cons (pe_ix (ixL K) (pv 3) pe_int (fun _ _ => rfl)) pa_nil)) (pa_cons (pe_ix (ixL K) (pv 0) pe_int (fun _ _ => rfl)) (pa_cons (pe_ix (ixL K) (pv 3) pe_int (fun _ _ => rfl)) (pa_cons (pv 1) pa_nil)))))) pa_nil)))))
    (pss_one (ps_ret (pe_op op_cat (pv 2) (pe_call (ok__law_block_faults T) (hr.mono (by omega)) (by rfl) T.d__law_block_faults.m T.d__law_block_faults.F.kp T.d__law_block_faults.b .nil pass0 (pa_cons pe_str (pa_cons pe_dnewK (pa_cons (pe_ix (ixL K) (pv 0) pe_int (fun _ _ => rfl)) (pa_cons (pe_ix (ixL K) (pv 0) pe_int (fun _ _ => rfl)) (pa_cons (pv 1) pa_nil))))))))))), ?_⟩
  obtain ⟨_, u1, u2, e, hp2, d1, d2⟩ := dp_l2 hp
  cases e
  obtain ⟨pf, xs, rfl, hf, df⟩ := dp_lst d1
  obtain ⟨pb, ys, rfl, hb, db⟩ := dp_lst d2
  have nd := (List.nodup_append.mp ok.nd).1
  have cfs := ok.ft.all
  rw [List.nil_append] at cfs
  have f4 := ok.f4
  have lx : xs.length = fs.length := by rw [dpa_len df, List.length_map]
  walk_at "r"
  refine new_lst (xs := []) (by simp) fun l H1 n1 e1 f1 => ?_
  walk_at "r"
  refine a_ixL (v := .ref pf) (ex_sl hp2 e1) (atI_nat (j := 0) rfl) ?_
  walk_at "r"
  refine r_L (ex_sl hf e1) ?_
  refine lp_list (xs := xs) (fun k σ h => (∃ x3, σ = [some (.ref p), some (.ref c), some (.ref l), x3]) ∧ Ex H (dl [l] h) ∧ ∃ acc, h l = some (.lst acc) ∧ DpAll K (dl [l] h) acc (List.map faD ((fs.take k).flatMap (jFn fs ex))) ∧ acc.length ≤ 12 * k)
    ⟨⟨_, rfl⟩, new_dl n1 e1, [], f1, .nil, Nat.le_refl _⟩ (fun k σ h _ g => ex_sl hf (g.2.1.trans (dl_le _ _))) ?_ ?_
  · rintro k u σ h hk ⟨⟨x3, rfl⟩, G, acc, f2, D1, l1⟩
    obtain ⟨d, hd, du⟩ := dpa_at df hk
    rw [List.getElem?_map] at hd
    cases hg : fs[k]? with
    | none => rw [hg] at hd; cases hd
    | some g =>
    rw [hg] at hd
    cases hd
    obtain ⟨pg, w1, w2, w3, rfl, hpg, g1, g2, g3⟩ := dp_l3 du
    cases dp_str g1
    obtain ⟨pp, vs2, rfl, hpp, dpp⟩ := dp_lst g2
    obtain ⟨pb2, vs3, rfl, hpb, dpb⟩ := dp_lst g3
    have gm := List.mem_of_getElem? hg
    have gk := ok.fo g gm
    have hk1 := at_lt hg
    have X := G.trans (dl_le [l] h)
    walk_at "r"
    refine ⟨a_ty f2, ?_⟩
    walk_at "r"
    refine a_ixL (v := .str g.n) (ex_sl hpg X) (atI_nat (j := 0) rfl) ?_
    walk_at "r"
    refine a_ixL (v := .ref pp) (ex_sl hpg X) (atI_nat (j := 1) rfl) ?_
    walk_at "r"
    refine a_dict (ex_sl hpp X) (dpa_ex X dpp) (by have := gk.p4; omega) fun m h1 nm em ty => ?_
    have X1 := X.trans em
    have Y1 : Ex H (dl [m] h1) := X.trans (new_dl nm em)
    walk_at "r"
    refine a_ixL (v := .ref pf) (ex_sl hp2 X1) (atI_nat (j := 0) rfl) ?_
    walk_at "r"
    refine a_ixL (v := .ref pb2) (ex_sl hpg X1) (atI_nat (j := 2) rfl) ?_
    walk_at "r"
    refine ⟨g.n, m, pf, pb2, c, envP e0 g.p, fs, g.b, ex, g.p.length, rfl, ty, EO.nil.ps (fun q hq => (gk.po q hq).2), by have := gk.p4; omega, ⟨xs, ex_sl hf Y1, dpa_ex Y1 df⟩, by omega, nd, fun s hs => ⟨cfs.1 g gm s hs, gk.bo s hs⟩, by have := gk.b12; omega, ⟨vs3, ex_sl hpb Y1, dpa_ex Y1 dpb⟩, hx.up Y1, fun l' vs h2 n' e' f' D' => ?_⟩
    walk_at "r"
    have lm : l ≠ m := ne_old f2 nm
    have e2' : Ex h h2 := fun a o ha => e' a o (by
      rw [List.mem_singleton]
      exact ne_old ha nm) (em _ _ ha)
    have jl : vs.length = (jBlk fs ex (envP e0 g.p) 0 g.b).length := by rw [dpa_len D', List.length_map, List.length_map]
    have jl2 : (jBlk fs ex (envP e0 g.p) 0 g.b).length ≤ 12 := Nat.le_trans (jBlk_len ..) gk.b12
    have f22 := e2' _ _ f2
    refine a_extend f22 f' (by omega) ?_
    have D'' := fa_dl f22 D'
    have kS : Ks [l] h2 (upd h2 l (.lst (acc ++ vs))) := (Ks.refl _ _).upd (by simp)
    have f5 : upd h2 l (.lst (acc ++ vs)) l = some (.lst (acc ++ vs)) := upd_same
    generalize upd h2 l (.lst (acc ++ vs)) = h5 at kS f5 ⊢
    have x5 := dl_ks kS
    refine ⟨⟨_, rfl⟩, (G.trans (dl_ex e2')).trans x5, _, f5, ?_, by rw [List.length_append]; omega⟩
    rw [take_snoc hg, List.flatMap_append, List.map_append]
    refine dpa_app (dpa_ex ((dl_ex e2').trans x5) D1) ?_
    simpa [jFn] using dpa_ex x5 D''
  · rintro σ h ⟨⟨x3, rfl⟩, G, acc, f2, D1, l1⟩
    rw [lx, List.take_length] at D1
    have X := G.trans (dl_le [l] h)
    walk_at "r"
    refine new_dK fun m h1 nm em fm => ?_
    have X1 := X.trans em
    have Y1 : Ex H (dl [m] h1) := X.trans (new_dl nm em)
    walk_at "r"
    refine a_ixL (v := .ref pf) (ex_sl hp2 X1) (atI_nat (j := 0) rfl) ?_
    walk_at "r"
    refine a_ixL (v := .ref pb) (ex_sl hp2 X1) (atI_nat (j := 1) rfl) ?_
    walk_at "r"
    refine ⟨"", m, pf, pb, c, e0, fs, ss, ex, 0, rfl, TyN.new fm, EO.nil, by omega, ⟨xs, ex_sl hf Y1, dpa_ex Y1 df⟩, by omega, nd, fun s hs => ⟨cfs.2 s hs, ok.so s hs⟩, by have := ok.s40; omega, ⟨ys, ex_sl hb Y1, dpa_ex Y1 db⟩, hx.up Y1, fun l' vs h2 n' e' f' D' => ?_⟩
    have e2' : Ex h h2 := fun a o ha => e' a o (by
      rw [List.mem_singleton]
      exact ne_old ha nm) (em _ _ ha)
    have jl : vs.length = (jBlk fs ex e0 0 ss).length := by rw [dpa_len D', List.length_map, List.length_map]
    have jl2 : (jBlk fs ex e0 0 ss).length ≤ 40 := Nat.le_trans (jBlk_len ..) ok.s40
    refine a_cat (e2' _ _ f2) f' (by omega) fun l2 h3 n3 e3 f3 => ?_
    have X3 : Ex H h3 := (X.trans e2').trans e3
    have nl2 : H l2 = none := ex_none (X.trans e2') n3
    refine q l2 _ h3 nl2 X3 f3 ?_
    unfold jAll
    rw [List.map_append]
    exact dpa_app (dpa_ex (((dl_le [l] h).trans e2').trans e3) D1) (dpa_ex e3 D')

end
section
variable {P : Program} {w : World} {K : PySem.W.Frag} {mg : Str → Option Value} {base : Heap}
theorem ok_State_init (T : Tx K mg) : FnOk P w K mg base CX0 1 T.a_State_init T.e_State_init p_State_init (pSi K T.C_State) := by
  refine T.d_State_init.F.ok sc_State_init (fun vs H Q E h => ?_) (fun cdv A outer s H vs Q E hr h => ?_)
  · obtain ⟨a, dx, rfl, _⟩ := h
    rfl
  obtain ⟨a, dx, rfl, fa, q⟩ := h
  refine ⟨_, (pss_cons (ps_fld (pv 0) (pe_lst pa_nil) rfl)
    (pss_cons (ps_fld (pv 0) (pe_lst pa_nil) rfl)
    (pss_cons (ps_fld (pv 0) pe_int rfl)
    (pss_one (ps_fld (pv 0) pe_dnewK rfl))))), ?_⟩
  walk_at "r"
  refine new_lst (xs := []) (by simp) fun md H1 n1 e1 f1 => ?_
  walk_at "r"
  refine a_putK T.c_State T.n_State_made (e1 _ _ fa) (by decide) fun H2 k2 g2 => ?_
  have f2 : H2 md = some (.lst []) := k2.at (by simpa using (ne_old fa n1).symm) f1
  walk_at "r"
  refine new_lst (xs := []) (by simp) fun br H3 n3 e3 f3 => ?_
  walk_at "r"
  refine a_putK T.c_State T.n_State_broken (e3 _ _ g2) (by simp [putF]) fun H4 k4 g4 => ?_
  have f4m : H4 md = some (.lst []) := k4.at (by simpa using (ne_old fa n1).symm) (e3 _ _ f2)
  have f4b : H4 br = some (.lst []) := k4.at (by simpa using (ne_old g2 n3).symm) f3
  walk_at "r"
  refine a_putK T.c_State T.n_State_executed g4 (by rw [show putF ("made" : Str) (.ref md) [] = [(kM, .ref md)] from rfl, putF_two d_mb]; simp) fun H5 k5 g5 => ?_
  have f5m : H5 md = some (.lst []) := k5.at (by simpa using (ne_old fa n1).symm) f4m
  have f5b : H5 br = some (.lst []) := k5.at (by simpa using (ne_old g2 n3).symm) f4b
  walk_at "r"
  refine new_dK fun sc H6 n6 e6 f6 => ?_
  walk_at "r"
  have K06 : Kp [a] H H6 := (((((Kp.of e1).trans k2).trans (Kp.of e3)).trans k4).trans k5).trans (Kp.of e6)
  refine a_putK T.c_State T.n_State_scope (e6 _ _ g5) (by
    rw [show putF ("made" : Str) (.ref md) [] = [(kM, .ref md)] from rfl, putF_two d_mb]
    exact Nat.lt_of_le_of_lt (putF_le _ _ _) (by simp)) fun H7 k7 g7 => ?_
  rw [stF_of] at g7
  walk_at "r"
  refine q md br sc H7 (K06.trans k7) n1 (ex_none (Ex.refl H) ?_) ?_ g7 (k7.at (by simpa using (ne_old fa n1).symm) (e6 _ _ f5m)) (k7.at (by simpa using (ne_old g2 n3).symm) (e6 _ _ f5b)) (k7.at (by simpa using (ne_old g5 n6).symm) f6) (ne_old f2 n3)
  · exact ks_none ((Ks.of e1).trans k2.k) n3 (by simpa using (ne_old g2 n3).symm)
  · exact ks_none ((((Kp.of e1).trans k2).trans (Kp.of e3)).trans (k4.trans k5)).k n6 (by simpa using (ne_old g5 n6).symm)
theorem ok_State_make (T : Tx K mg) : FnOk P w K mg base CX0 1 T.a_State_make T.e_State_make p_State_make (pMake K T.C_State) := by
  refine T.d_State_make.F.ok sc_State_make (fun vs H Q E h => ?_) (fun cdv A outer s H vs Q E hr h => ?_)
  · obtain ⟨z, md, br, sc, s, x, T', v, vl, k, rfl, _⟩ := h
    rfl
  obtain ⟨z, md, br, sc, s, x, U, v, vl, k, rfl, S, hz, dk, dv, q⟩ := h
  refine ⟨_, (pss_cons (ps_expr (pe_bm PySem.F.plainAttrs_list PySem.F.slot_list_append PySem.F.type_list_append mt_append (by exact (fldK K (pv 0) rfl)) (pa_cons (pe_tup (pa_cons (pv 1) (pa_cons (pv 2) (pa_cons (pv 3) pa_nil)))) pa_nil)))
    (pss_one (ps_ret (pe_op op_sub (pe_callB (lenK K) (by rfl) T.b_len PySem.boot_len (pa_cons (by exact (fldK K (pv 0) rfl)) pa_nil)) pe_int)))), ?_⟩
  obtain ⟨dx, zo⟩ := S.o
  obtain ⟨xs, fm, dm⟩ := S.m
  have lm : xs.length = s.th.length := by rw [dpa_len dm, List.length_map]
  walk_at "r"
  refine a_get T.c_State T.n_State_made zo (lk_made _ _ _ _) ?_
  walk_at "r"
  refine ⟨a_ty fm, ?_⟩
  walk_at "r"
  refine new_tup (by simp) fun t H1 n1 e1 f1 => ?_
  walk_at "r"
  refine a_appK (e1 _ _ fm) (by omega) fun H2 k2 f2 => ?_
  have S1 := S.ex e1
  have zo2 := k2.at (by simpa using S.zm) (e1 _ _ zo)
  walk_at "r"
  refine a_get T.c_State T.n_State_made zo2 (lk_made _ _ _ _) ?_
  walk_at "r"
  refine a_lenL (SqL.of f2) ?_
  walk_at "r"
  have e3 : (((xs ++ [V.ref t]).length : Nat) : Int) - 1 = (s.th.length : Nat) := by rw [List.length_append, lm]; simp
  rw [e3]
  have i2 := (im_ex e1).trans k2.i
  refine q H2 ((Kp.of e1).trans k2) ⟨⟨dx, zo2⟩, ⟨_, f2, ?_⟩, ?_, S.d⟩
  · rw [List.map_append]
    exact dpa_snoc (dpa_ex i2 dm) (.tup (SqT.of (k2.i _ _ (im_at f1 rfl))) (.cons (.str _) (.cons (dp_ex i2 dk) (.cons (dp_ex i2 dv) .nil))))
  · obtain ⟨ys, fb, db⟩ := S.b
    exact ⟨ys, k2.at (by simpa using S.d.symm) (e1 _ _ fb), dpa_ex i2 db⟩
theorem thg_at {H : Hp} {xs : List V} {ths : List Thg} (d : DpAll K (Im H) xs (ths.map thD)) {n : Nat} {t : Thg} (e : ths[n]? = some t) : ∃ p kp v, xs[n]? = some (.ref p) ∧ SqT K H p [.str t.x, .ref kp, v] ∧ SqT K H kp (tv t.T) ∧ Dp K (Im H) (.ref kp) (ru t.T) ∧ Dp K (Im H) v (vlD t.v) := by
  have hx : n < xs.length := by rw [dpa_len d, List.length_map]; exact at_lt e
  obtain ⟨dd, hd, dp⟩ := dpa_at d (List.getElem?_eq_getElem hx)
  rw [List.getElem?_map, e] at hd
  cases hd
  obtain ⟨p, u1, u2, u3, ep, hp, d1, d2, d3⟩ := dp_thr dp
  cases dp_str d1
  obtain ⟨kp, rfl, hk⟩ := dp_ruT d2
  exact ⟨p, kp, u3, by rw [List.getElem?_eq_getElem hx, ep], ex_st hp (im_le _), ex_st hk (im_le _), d2, d3⟩
theorem hd_tv {T : List R} (h : 1 ≤ T.length) : (tv T)[0]? = some (.str (hdR T).s) := by
  cases T with
  | nil => simp at h
  | cons a as => rfl
theorem ok_State_read (T : Tx K mg) : FnOk P w K mg base CX0 2 T.a_State_read T.e_State_read p_State_read (pRead K T.C_State) := by
  refine T.d_State_read.F.ok sc_State_read (fun vs H Q E h => ?_) (fun cdv A outer s H vs Q E hr h => ?_)
  · obtain ⟨z, md, br, sc, s, n, t, rfl, _⟩ := h
    rfl
  obtain ⟨z, md, br, sc, s, n, t, rfl, S, hz, et, l1, q⟩ := h
  refine ⟨_, (pss_cons (ps_asg (pe_ix (ixL K) (by exact (fldK K (pv 0) rfl)) (pv 1) (fun _ _ => rfl)) (pg_tup (by rfl) (pgs_cons (pg_name (i := 2) sc_State_read.nd rfl (.inl rfl)) (pgs_cons (pg_name (i := 3) sc_State_read.nd rfl (.inl rfl)) (pgs_cons (pg_name (i := 4) sc_State_read.nd rfl (.inl rfl)) pgs_nil)))))
    (pss_cons (ps_if (pt_not (pt_val (pe_call (ok_has_letter T) (hr.mono (by omega)) (by rfl) T.d_has_letter.m T.d_has_letter.F.kp T.d_has_letter.b .nil pass0 (pa_cons (pe_ix (ixT K) (pv 3) pe_int (fun _ _ => rfl)) (pa_cons pe_str pa_nil))))) (pss_one (ps_expr (pe_bm PySem.F.plainAttrs_list PySem.F.slot_list_append PySem.F.type_list_append mt_append (by exact (fldK K (pv 0) rfl)) (pa_cons (pe_tup (pa_cons pe_str (pa_cons (pv 1) pa_nil))) pa_nil)))) pss_nil)
    (pss_one (ps_ret (pv 4))))), ?_⟩
  obtain ⟨dx, zo⟩ := S.o
  obtain ⟨xs, fm, dm⟩ := S.m
  obtain ⟨ys, fb, db⟩ := S.b
  have lb : ys.length = s.br.length := by rw [dpa_len db, List.length_map]
  obtain ⟨p, kp, v, hx, hp, hk, dk, dv⟩ := thg_at dm et
  walk_at "r"
  refine a_get T.c_State T.n_State_made zo (lk_made _ _ _ _) ?_
  walk_at "r"
  refine a_ixL (v := .ref p) (SqL.of fm) (atI_nat hx) ?_
  refine w_gtup (xs := [.str t.x, .ref kp, v]) hp rfl ?_
  walk_at "r"
  refine a_ixT (v := .str (hdR t.T).s) hk (atI_nat (j := 0) (hd_tv l1)) ?_
  walk_at "r"
  refine ⟨hdR t.T, true, rfl, ?_⟩
  walk_at "r"
  refine ite2 (fun c => ?_) (fun c => ?_)
  · have c' : (hdR t.T).hr = false := by simpa [R.has] using c
    walk_at "r"
    refine a_get T.c_State T.n_State_broken zo (lk_broken _ _ _ _) ?_
    walk_at "r"
    refine ⟨a_ty fb, ?_⟩
    walk_at "r"
    refine new_tup (by simp) fun t1 H1 n1 e1 f1 => ?_
    walk_at "r"
    refine a_appK (e1 _ _ fb) (by omega) fun H2 k2 f2 => ?_
    walk_at "r"
    have i2 := (im_ex e1).trans k2.i
    refine q v H2 ((Kp.of e1).trans k2) ⟨⟨dx, k2.at (by simpa using S.zb) (e1 _ _ zo)⟩, ⟨xs, k2.at (by simpa using S.d) (e1 _ _ fm), dpa_ex i2 dm⟩, ⟨_, f2, ?_⟩, S.d⟩ (dp_ex i2 dv)
    unfold rdB
    rw [c', if_neg (by simp), List.map_append]
    exact dpa_snoc (dpa_ex i2 db) (.tup (SqT.of (k2.i _ _ (im_at f1 rfl))) (.cons (.str _) (.cons (.int _) .nil)))
  · have c' : (hdR t.T).hr = true := by simpa [R.has] using c
    walk_at "r"
    refine q v H (Kp.refl _ _) ?_ dv
    unfold rdB
    rw [if_pos c', List.append_nil]
    exact S
theorem ok_State_write (T : Tx K mg) : FnOk P w K mg base CX0 2 T.a_State_write T.e_State_write p_State_write (pWrite K T.C_State) := by
  refine T.d_State_write.F.ok sc_State_write (fun vs H Q E h => ?_) (fun cdv A outer s H vs Q E hr h => ?_)
  · obtain ⟨z, md, br, sc, s, n, t, v, vl, rfl, _⟩ := h
    rfl
  obtain ⟨z, md, br, sc, s, n, t, u, vl, rfl, S, hz, et, l1, du, q⟩ := h
  refine ⟨_, (pss_cons (ps_asg (pe_ix (ixL K) (by exact (fldK K (pv 0) rfl)) (pv 1) (fun _ _ => rfl)) (pg_tup (by rfl) (pgs_cons (pg_name (i := 3) sc_State_write.nd rfl (.inl rfl)) (pgs_cons (pg_name (i := 4) sc_State_write.nd rfl (.inl rfl)) (pgs_cons (pg_name (i := 5) sc_State_write.nd rfl (.inl rfl)) pgs_nil)))))
    (pss_cons (ps_if (pt_not (pt_val (pe_call (ok_has_letter T) (hr.mono (by omega)) (by rfl) T.d_has_letter.m T.d_has_letter.F.kp T.d_has_letter.b .nil pass0 (pa_cons (pe_ix (ixT K) (pv 4) pe_int (fun _ _ => rfl)) (pa_cons pe_str pa_nil))))) (pss_one (ps_expr (pe_bm PySem.F.plainAttrs_list PySem.F.slot_list_append PySem.F.type_list_append mt_append (by exact (fldK K (pv 0) rfl)) (pa_cons (pe_tup (pa_cons pe_str (pa_cons (pv 1) pa_nil))) pa_nil)))) pss_nil)
    (pss_one (ps_asg (pe_tup (pa_cons (pv 3) (pa_cons (pv 4) (pa_cons (pv 2) pa_nil)))) (pg_sub (by exact (fldK K (pv 0) rfl)) (pv 1) set_list))))), ?_⟩
  obtain ⟨dx, zo⟩ := S.o
  obtain ⟨xs, fm, dm⟩ := S.m
  obtain ⟨ys, fb, db⟩ := S.b
  have lb : ys.length = s.br.length := by rw [dpa_len db, List.length_map]
  have lx : xs.length = s.th.length := by rw [dpa_len dm, List.length_map]
  obtain ⟨p, kp, v, hx, hp, hk, dk, dv⟩ := thg_at dm et
  have hn := at_lt et
  walk_at "r"
  refine a_get T.c_State T.n_State_made zo (lk_made _ _ _ _) ?_
  walk_at "r"
  refine a_ixL (v := .ref p) (SqL.of fm) (atI_nat hx) ?_
  refine w_gtup (xs := [.str t.x, .ref kp, v]) hp rfl ?_
  walk_at "r"
  refine a_ixT (v := .str (hdR t.T).s) hk (atI_nat (j := 0) (hd_tv l1)) ?_
  walk_at "r"
  refine ⟨hdR t.T, false, rfl, ?_⟩
  walk_at "r"
  -- the thing is changed
  have last : ∀ (H2 : Hp) (ys2 : List V) (bs : Brs), Kp [br] H H2 → H2 br = some (.lst ys2) → DpAll K (Im H2) ys2 ((s.br ++ bs).map brD) → bs = wrB t n → ∀ t2 H3, H2 t2 = none → Ex H2 H3 → H3 t2 = some (.tup [.str t.x, .ref kp, u]) → ∀ H4, Kp [md] H3 H4 → H4 md = some (.lst (xs.set n (.ref t2))) → Q .non H4 := fun H2 ys2 bs k2 f2 d2 eb t2 H3 n3 e3 f3 H4 k4 f4 => by
    have i4 := (k2.i.trans (im_ex e3)).trans k4.i
    have i24 := (im_ex e3).trans k4.i
    refine q H4 (((k2.mono (by simp)).trans (Kp.of e3)).trans (k4.mono (by simp))) ⟨⟨dx, k4.at (by simpa using S.zm) (e3 _ _ (k2.at (by simpa using S.zb) zo))⟩, ⟨_, f4, ?_⟩, ⟨ys2, k4.at (by simpa using S.d.symm) (e3 _ _ f2), ?_⟩, S.d⟩
    · rw [List.map_set]
      exact dpa_set n (dpa_ex i4 dm) (.tup (SqT.of (k4.i _ _ (im_at f3 rfl))) (.cons (.str _) (.cons (dp_ex i4 dk) (.cons (dp_ex i4 du) .nil))))
    · rw [← eb]
      exact dpa_ex i24 d2
  refine ite2 (fun c => ?_) (fun c => ?_)
  · have c' : (hdR t.T).hw = false := by simpa [R.has] using c
    walk_at "r"
    refine a_get T.c_State T.n_State_broken zo (lk_broken _ _ _ _) ?_
    walk_at "r"
    refine ⟨a_ty fb, ?_⟩
    walk_at "r"
    refine new_tup (by simp) fun t1 H1 n1 e1 f1 => ?_
    walk_at "r"
    refine a_appK (e1 _ _ fb) (by omega) fun H2 k2 f2 => ?_
    walk_at "r"
    have i2 := (im_ex e1).trans k2.i
    have K2 : Kp [br] H H2 := (Kp.of e1).trans k2
    refine new_tup (by simp) fun t2 H3 n3 e3 f3 => ?_
    walk_at "r"
    refine a_get T.c_State T.n_State_made (e3 _ _ (K2.at (by simpa using S.zb) zo)) (lk_made _ _ _ _) ?_
    walk_at "r"
    refine a_setLK (e3 _ _ (K2.at (by simpa using S.d) fm)) (by omega) fun H4 k4 f4 => ?_
    walk_at "r"
    refine last H2 _ [(false, n)] K2 f2 ?_ ?_ t2 H3 n3 e3 f3 H4 k4 f4
    · rw [List.map_append]
      exact dpa_snoc (dpa_ex i2 db) (.tup (SqT.of (k2.i _ _ (im_at f1 rfl))) (.cons (.str _) (.cons (.int _) .nil)))
    · unfold wrB
      rw [c', if_neg (by simp)]
  · have c' : (hdR t.T).hw = true := by simpa [R.has] using c
    walk_at "r"
    refine new_tup (by simp) fun t2 H3 n3 e3 f3 => ?_
    walk_at "r"
    refine a_get T.c_State T.n_State_made (e3 _ _ zo) (lk_made _ _ _ _) ?_
    walk_at "r"
    refine a_setLK (e3 _ _ fm) (by omega) fun H4 k4 f4 => ?_
    walk_at "r"
    refine last H ys [] (Kp.refl _ _) fb (by rw [List.append_nil]; exact db) ?_ t2 H3 n3 e3 f3 H4 k4 f4
    unfold wrB
    rw [if_pos c']

end
section
variable {P : Program} {w : World} {K : PySem.W.Frag} {mg : Str → Option Value} {base : Heap}
theorem ok_State_begin (T : Tx K mg) : FnOk P w K mg base (L2.CX P w) 4 T.a_State_begin T.e_State_begin p_State_begin (pBegin K T.C_State T.C_RightsError) := by
  refine T.d_State_begin.F.okX sc_State_begin (fun vs H Q E h => ?_) (fun cdv A outer s H vs Q E hr h => ?_)
  · obtain ⟨z, md, br, sc, s, rfl, _⟩ := h
    rfl
  obtain ⟨z, md, br, sc, s, rfl, S, hz, q, qe⟩ := h
  refine ⟨_, (pss_cons (ps_fldaug (pv 0) pe_int in_add)
    (pss_one (ps_if (pt_cmpR op_gt (by exact (fldK K (pv 0) rfl)) (pe_glob (v := .int 1000) (by rfl) T.m_MOST_EXECUTED ⟨_, rfl⟩) (nomark _)) (pss_one (ps_raise rfl (takes_of rfl rfl rfl rfl) (pmk_oex T.o_RightsError T.i_RightsError T.t_RightsError (ok_RightsError_init T) (hr.mono (by omega)) T.d_RightsError_init.b .nil pass0 (by rfl) T.g_RightsError (pa_cons pe_str pa_nil)))) pss_nil))), ?_⟩
  obtain ⟨dx, zo⟩ := S.o
  walk_at "r"
  refine a_aug1K T.c_State T.n_State_executed zo (lk_exec _ _ _ _) (by simp [st4]) fun H1 k1 f1 => ?_
  rw [put_exec] at f1
  have S1 : SA K T.C_State H1 z md br sc ⟨s.th, s.br, s.n + 1⟩ := by
    obtain ⟨xs, fm, dm⟩ := S.m
    obtain ⟨ys, fb, db⟩ := S.b
    exact ⟨⟨dx, by rw [f1]; rfl⟩, ⟨xs, k1.at (by simpa using S.zm.symm) fm, dpa_ex k1.i dm⟩, ⟨ys, k1.at (by simpa using S.zb.symm) fb, dpa_ex k1.i db⟩, S.d⟩
  walk_at "r"
  refine a_get T.c_State T.n_State_executed f1 (lk_exec _ _ _ _) ?_
  walk_at "r"
  refine ite2 (fun c => ?_) (fun c => ?_)
  · have c' : 1000 ≤ s.n := by have := of_decide_eq_true c; omega
    walk_at "r"
    refine mko_re fun d H2 n2 e2 f2 => ?_
    exact qe c' d H2 (k1.trans (Kp.of e2)) (S1.ex e2) f2
  · have c' : s.n < 1000 := by have := of_decide_eq_false (nf c); omega
    walk_at "r"
    exact q c' H1 k1 S1

end
section
variable {P : Program} {w : World} {K : PySem.W.Frag} {mg : Str → Option Value} {base : Heap}
def pTA (K : PySem.W.Frag) (CS CN : Addr) : Sp := fun vs H Q E => ∃ z md br sc s sd c N p0 x k n t, vs = [.ref z, .ref sd, p0] ∧ SA K CS H z md br sc s ∧ ScD H sd c N ∧ Dp K H p0 (plD x k) ∧ ThSh s.th ∧ c x = some n ∧ s.th[n]? = some t ∧ k < t.T.length ∧ k ≤ 5 ∧ s.br.length ≤ 80000 ∧
  (∀ m H1, (fol s.th k n).2 = some m → Kp [br] H H1 → SA K CS H1 z md br sc ⟨s.th, s.br ++ (fol s.th k n).1, s.n⟩ → Q (.int (m : Nat)) H1) ∧
  (∀ H1, (fol s.th k n).2 = none → Kp [br] H H1 → SA K CS H1 z md br sc ⟨s.th, s.br ++ (fol s.th k n).1, s.n⟩ → E (.ref CN) none H1)
theorem dp_vl {H : Hp} {v : V} {m : Nat} (h : Dp K H v (vlD (.th m))) : ∃ p, v = .ref p ∧ SqT K H p [.str "thing", .int (m : Nat)] := by
  obtain ⟨p, u, w, rfl, hp, d1, d2⟩ := dp_two h
  cases dp_str d1
  cases dp_int d2
  exact ⟨p, rfl, hp⟩
theorem ok_thing_at (T : Tx K mg) : FnOk P w K mg base (L2.CX P w) 4 T.a_thing_at T.e_thing_at p_thing_at (pTA K T.C_State T.C_NullFollowed) := by
  refine T.d_thing_at.F.okX sc_thing_at (fun vs H Q E h => ?_) (fun cdv A outer s H vs Q E hr h => ?_)
  · obtain ⟨z, md, br, sc, s, sd, c, N, p0, x, k, n, t, rfl, _⟩ := h
    rfl
  obtain ⟨z, md, br, sc, s, sd, c, N, p0, x, k, n, t, rfl, S, D, hp0, th, hx, et, hk, k5, hz, q, qe⟩ := h
  have hu := hu_of hr
  refine ⟨_, (pss_cons (ps_asg (pv 2) (pg_tup (by rfl) (pgs_cons (pg_name (i := 3) sc_thing_at.nd rfl (.inl rfl)) (pgs_cons (pg_name (i := 4) sc_thing_at.nd rfl (.inl rfl)) pgs_nil))))
    (pss_cons (ps_set (i := 5) sc_thing_at.nd rfl (.inl rfl) (pe_dget hu (pv 1) (pv 3) (fun _ _ => rfl)))
    (pss_cons (ps_for (passes_of rfl) rfl (pi_range1 (by rfl) T.b_range (pa_cons (pv 4) pa_nil)) (pg_name (i := 6) sc_thing_at.nd rfl (.inl rfl)) (pss_cons (ps_set (i := 7) sc_thing_at.nd rfl (.inl rfl) (pe_meth (pv 0) T.c_State T.h_State_read (ok_State_read T) (hr.mono (by omega)) T.d_State_read.b .nil pass0 (pa_cons (pv 5) pa_nil)))
    (pss_cons (ps_if (pt_cmpR k_isN (pv 7) pe_non (nomark _)) (pss_one (ps_raise rfl (takes_of rfl rfl rfl rfl) (pmk_own0 PySem.F.excBase_Exception T.q_NullFollowed T.g_NullFollowed T.kp_NullFollowed (raises_own T.b_NullFollowed T.y_NullFollowed) (by rfl)))) pss_nil)
    (pss_one (ps_set (i := 5) sc_thing_at.nd rfl (.inl rfl) (pe_ix (ixT K) (pv 7) pe_int (fun _ _ => rfl)))))))
    (pss_one (ps_ret (pv 5)))))), ?_⟩
  obtain ⟨p, rfl, hp⟩ := dp_pl hp0
  walk_at "r"
  refine w_gtup (xs := [.str x, .int (k : Int)]) hp rfl ?_
  walk_at "r"
  refine D.get hx ?_
  walk_at "r"
  refine r_R1 (by omega) ?_
  refine lp_range (fun i σ h => (∃ m x6 x7 u acc, σ = [some (.ref z), some (.ref sd), some (.ref p), some (.str x), some (.int (k : Int)), some (.int (m : Nat)), x6, x7] ∧ Kp [br] H h ∧ SA K T.C_State h z md br sc ⟨s.th, s.br ++ acc, s.n⟩ ∧ s.th[m]? = some u ∧ u.T.length + i = t.T.length ∧ acc.length ≤ i ∧
      (fol s.th k n).1 = acc ++ (fol s.th (k - i) m).1 ∧ (fol s.th k n).2 = (fol s.th (k - i) m).2)) ⟨n, _, _, t, [], rfl, Kp.refl _ _, by rw [List.append_nil]; exact S, et, rfl, Nat.le_refl _, rfl, rfl⟩ ?_ ?_
  · rintro i σ h hi ⟨m, x6, x7, u, acc, rfl, kh, Sh, eu, lu, la, e1, e2⟩
    have hi : i < k := by simpa using hi
    have ki : k - i = (k - (i + 1)) + 1 := by omega
    rw [ki] at e1 e2
    obtain ⟨dz, zo⟩ := Sh.o
    walk_at "r"
    refine a_meth zo (lk_none _ _ _ _ (by decide +kernel)) ?_
    walk_at "r"
    refine ⟨z, md, br, sc, _, m, u, rfl, Sh, by simp only [List.length_append]; omega, eu, by omega, fun v H1 k1 S1 dv => ?_⟩
    have f1 : (fol s.th ((k - (i + 1)) + 1) m) = match u.v with
      | .th j => (rdB u m ++ (fol s.th (k - (i + 1)) j).1, (fol s.th (k - (i + 1)) j).2)
      | _ => (rdB u m, none) := by
      simp only [fol, eu] <;> (cases u.v <;> rfl)
    walk_at "r"
    rcases sh_step th eu (by omega) with z0 | ⟨j, w0, z0, e3, l3⟩
    · rw [z0] at dv f1
      cases dv
      walk_at "r"
      refine qe H1 (by rw [e2, f1]) (kh.trans k1) ?_
      rw [e1, f1, ← List.append_assoc]
      exact S1
    · rw [z0] at dv f1
      obtain ⟨p1, rfl, hv⟩ := dp_vl (dp_ex (im_le _) dv)
      walk_at "r"
      refine a_ixT (v := .int (j : Nat)) hv (atI_nat (j := 1) rfl) ?_
      walk_at "r"
      have r1 := rdB_len u m
      refine ⟨j, _, _, w0, acc ++ rdB u m, rfl, kh.trans k1, by rw [← List.append_assoc]; exact S1, e3, by omega, by rw [List.length_append]; omega, ?_, ?_⟩
      · rw [e1, f1, List.append_assoc]
      · rw [e2, f1]
  · rintro σ h ⟨m, x6, x7, u, acc, rfl, kh, Sh, eu, lu, la, e1, e2⟩
    have ki : k - (k : Int).toNat = 0 := by simp
    rw [ki] at e1 e2
    walk_at "r"
    refine q m h (by rw [e2]; rfl) kh ?_
    rw [e1]
    show SA K T.C_State h z md br sc ⟨s.th, s.br ++ (acc ++ []), s.n⟩
    rw [List.append_nil]
    exact Sh
def pLU (K : PySem.W.Frag) (CS CN : Addr) : Sp := fun vs H Q E => ∃ z md br sc s sd c N v e l src, vs = [.ref z, .ref sd, v] ∧ SA K CS H z md br sc s ∧ ScD H sd c N ∧ Dp K H v (sD src) ∧ ThSh s.th ∧ ScSh s.th c e ∧ shSrc e l src ∧ sO src ∧ s.br.length ≤ 70000 ∧
  (∀ v' u H1, (gv s.th c src).2 = some v' → Kp [br] H H1 → SA K CS H1 z md br sc ⟨s.th, s.br ++ (gv s.th c src).1, s.n⟩ → Dp K (Im H1) u (vlD v') → Q u H1) ∧
  (∀ H1, (gv s.th c src).2 = none → Kp [br] H H1 → SA K CS H1 z md br sc ⟨s.th, s.br ++ (gv s.th c src).1, s.n⟩ → E (.ref CN) none H1)
theorem ok_looked_up (T : Tx K mg) : FnOk P w K mg base (L2.CX P w) 5 T.a_looked_up T.e_looked_up p_looked_up (pLU K T.C_State T.C_NullFollowed) := by
  refine T.d_looked_up.F.okX sc_looked_up (fun vs H Q E h => ?_) (fun cdv A outer s H vs Q E hr h => ?_)
  · obtain ⟨z, md, br, sc, s, sd, c, N, v, e, l, src, rfl, _⟩ := h
    rfl
  obtain ⟨z, md, br, sc, s, sd, c, N, v, e, l, src, rfl, S, D, hv, th, ss, sh, so, hz, q, qe⟩ := h
  refine ⟨_, (pss_cons (ps_set (i := 3) sc_looked_up.nd rfl (.inl rfl) (pe_ix (ixT K) (pv 2) pe_int (fun _ _ => rfl)))
    (pss_cons (ps_if (pt_cmpR op_eq (pv 3) pe_str (nomark _)) (pss_one (ps_ret (pe_ix (ixT K) (pv 2) pe_int (fun _ _ => rfl)))) pss_nil)
    (pss_cons (ps_if (pt_cmpR op_eq (pv 3) pe_str (nomark _)) (pss_one (ps_ret pe_non)) pss_nil)
    (pss_cons (ps_set (i := 4) sc_looked_up.nd rfl (.inl rfl) (pe_callS (ok_thing_at T) (hr.mono (by omega)) (by rfl) T.d_thing_at.m T.d_thing_at.F.kp T.d_thing_at.b (fun σ => passAt (takes_of rfl rfl rfl rfl) σ) (pa_cons (pv 0) (pa_cons (pv 1) (pa_cons (pe_ix (ixT K) (pv 2) pe_int (fun _ _ => rfl)) pa_nil)))))
    (pss_cons (ps_if (pt_cmpR op_eq (pv 3) pe_str (nomark _)) (pss_one (ps_ret (pe_tup (pa_cons pe_str (pa_cons (pv 4) pa_nil))))) pss_nil)
    (pss_one (ps_ret (pe_meth (pv 0) T.c_State T.h_State_read (ok_State_read T) (hr.mono (by omega)) T.d_State_read.b .nil pass0 (pa_cons (pv 4) pa_nil))))))))), ?_⟩
  cases src with
  | num n =>
    obtain ⟨p, u, y, rfl, hp, d1, d2⟩ := dp_two hv
    cases dp_str d1
    cases dp_int d2
    walk_at "r"
    refine a_ixT (v := .str "number") hp (atI_nat (j := 0) rfl) ?_
    walk_at "r"
    refine ite2 (fun c => ?_) (fun c => absurd (show decide (("number" : Str) = "number") = true from by decide) c)
    walk_at "r"
    refine a_ixT (v := .int n) hp (atI_nat (j := 1) rfl) ?_
    exact q (.num n) _ H rfl (Kp.refl _ _) (by show SA K T.C_State H z md br sc ⟨s.th, s.br ++ [], s.n⟩; rw [List.append_nil]; exact S) (.int _)
  | null =>
    obtain ⟨p, u, rfl, hp, d1⟩ := dp_1 hv
    cases dp_str d1
    walk_at "r"
    refine a_ixT (v := .str "null") hp (atI_nat (j := 0) rfl) ?_
    walk_at "r"
    refine ite2 (fun c => absurd (show decide (("null" : Str) = "number") = true from c) (by decide)) (fun c => ?_)
    walk_at "r"
    refine ite2 (fun c => ?_) (fun c => absurd (show decide (("null" : Str) = "null") = true from by decide) c)
    walk_at "r"
    exact q .nul _ H rfl (Kp.refl _ _) (by show SA K T.C_State H z md br sc ⟨s.th, s.br ++ [], s.n⟩; rw [List.append_nil]; exact S) .non
  | adr x k =>
    obtain ⟨p, u, y, rfl, hp, d1, d2⟩ := dp_two hv
    cases dp_str d1
    obtain ⟨U, hU, lk, _⟩ := sh
    obtain ⟨n, t, h1, h2, h3⟩ := ss x U hU
    have eg : gv s.th c (.adr x k) = ((fol s.th k n).1, (fol s.th k n).2.map Vl.th) := by
      show ((folX s.th c x k).1, (folX s.th c x k).2.map Vl.th) = _
      unfold folX
      rw [h1]
    rw [eg] at q qe
    walk_at "r"
    refine a_ixT (v := .str "address") hp (atI_nat (j := 0) rfl) ?_
    walk_at "r"
    refine ite2 (fun c => absurd (show decide (("address" : Str) = "number") = true from c) (by decide)) (fun c => ?_)
    walk_at "r"
    refine ite2 (fun c => absurd (show decide (("address" : Str) = "null") = true from c) (by decide)) (fun c => ?_)
    walk_at "r"
    refine a_ixT (v := y) hp (atI_nat (j := 1) rfl) ?_
    walk_at "r"
    refine ⟨z, md, br, sc, s, sd, _, N, y, x, k, n, t, rfl, S, D, d2, th, h1, h2, by rw [h3]; exact lk, so.2, by omega, fun m H1 em k1 S1 => ?_, fun H1 em k1 S1 => qe H1 (by rw [em]; rfl) k1 S1⟩
    walk_at "r"
    refine ite2 (fun c => ?_) (fun c => absurd (show decide (("address" : Str) = "address") = true from by decide) c)
    walk_at "r"
    refine new_tup (by simp) fun t2 H2 n2 e2 f2 => ?_
    exact q (.th m) _ H2 (by rw [em]; rfl) (k1.trans (Kp.of e2)) (S1.ex e2) (.tup (SqT.of (im_at f2 rfl)) (.cons (.str _) (.cons (.int _) .nil)))
  | val x k =>
    obtain ⟨p, u, y, rfl, hp, d1, d2⟩ := dp_two hv
    cases dp_str d1
    obtain ⟨U, hU, lk, _⟩ := sh
    obtain ⟨n, t, h1, h2, h3⟩ := ss x U hU
    have eg : gv s.th c (.val x k) = rdV s.th (fol s.th k n) := by
      show rdV s.th (folX s.th c x k) = _
      unfold folX
      rw [h1]
    rw [eg] at q qe
    walk_at "r"
    refine a_ixT (v := .str "value") hp (atI_nat (j := 0) rfl) ?_
    walk_at "r"
    refine ite2 (fun c => absurd (show decide (("value" : Str) = "number") = true from c) (by decide)) (fun c => ?_)
    walk_at "r"
    refine ite2 (fun c => absurd (show decide (("value" : Str) = "null") = true from c) (by decide)) (fun c => ?_)
    walk_at "r"
    refine a_ixT (v := y) hp (atI_nat (j := 1) rfl) ?_
    walk_at "r"
    have fl := fol_len s.th k n
    refine ⟨z, md, br, sc, s, sd, _, N, y, x, k, n, t, rfl, S, D, d2, th, h1, h2, by rw [h3]; exact lk, so.2, by omega, fun m H1 em k1 S1 => ?_, fun H1 em k1 S1 => ?_⟩
    · obtain ⟨u2, e3, l3⟩ := fol_sh th k n t h2 (by rw [h3]; exact lk) m em
      have er : rdV s.th (fol s.th k n) = ((fol s.th k n).1 ++ rdB u2 m, some u2.v) := by
        cases w : fol s.th k n with
        | mk b o =>
        rw [w] at em
        have em : o = some m := em
        subst em
        simp only [rdV, e3]
      rw [er] at q
      walk_at "r"
      refine ite2 (fun c => absurd (show decide (("value" : Str) = "address") = true from c) (by decide)) (fun c => ?_)
      obtain ⟨dz, zo⟩ := S1.o
      walk_at "r"
      refine a_meth zo (lk_none _ _ _ _ (by decide +kernel)) ?_
      walk_at "r"
      have k5 : k ≤ 5 := so.2
      have lt3 : t.T.length = U.length := by rw [h3]
      refine ⟨z, md, br, sc, _, m, u2, rfl, S1, by simp only [List.length_append]; omega, e3, by omega, fun v2 H2 k2 S2 dv => ?_⟩
      exact q u2.v v2 H2 rfl (k1.trans k2) (by rw [← List.append_assoc]; exact S2) dv
    · have er : rdV s.th (fol s.th k n) = ((fol s.th k n).1, none) := by
        cases w : fol s.th k n with
        | mk b o =>
        rw [w] at em
        have em : o = none := em
        subst em
        rfl
      rw [er] at qe
      exact qe H1 rfl k1 S1

end
section
variable {P : Program} {w : World} {K : PySem.W.Frag} {mg : Str → Option Value} {base : Heap}
theorem nt_sD (s : Src) : ntD (sD s) = true := by cases s <;> rfl
theorem ok_execute (T : Tx K mg) (d : Nat) (hc : FnOk P w K mg base (L2.CX P w) (d * 3 + 5) T.a_call T.e_call p_call (pCl K T.C_State T.C_Function T.C_NullFollowed T.C_RightsError d)) :
    FnOk P w K mg base (L2.CX P w) (d * 3 + 6) T.a_execute T.e_execute p_execute (pEx K T.C_State T.C_Function T.C_NullFollowed T.C_RightsError d) := by
  refine T.d_execute.F.okX sc_execute (fun vs H Q E h => ?_) (fun cdv A outer s H vs Q E hr h => ?_)
  · obtain ⟨z, md, br, sc, sd, pd, v, fs, r, c, N, e, s, st, rfl, _⟩ := h
    rfl
  obtain ⟨z, md, br, sc, sd, pd, v, fs, r, c, N, e, s, st, rfl, X, B, hd, hv, so, sh, q1, q2, q3⟩ := h
  have hu := hu_of hr
  refine ⟨_, (pss_cons (ps_expr (pe_meth0 (pv 0) T.c_State T.h_State_begin (ok_State_begin T) (hr.mono (by omega)) T.d_State_begin.b .nil (passes_call (takes_of rfl rfl rfl rfl) (fun _ _ _ _ h => h))))
    (pss_cons (ps_set (i := 4) sc_execute.nd rfl (.inl rfl) (pe_ix (ixT K) (pv 3) pe_int (fun _ _ => rfl)))
    (pss_one (ps_if (pt_cmpR op_eq (pv 4) pe_str (nomark _)) (pss_cons (ps_asg (pv 3) (pg_tup (by rfl) (pgs_cons (pg_name (i := 5) sc_execute.nd rfl (.inl rfl)) (pgs_cons (pg_name (i := 6) sc_execute.nd rfl (.inl rfl)) (pgs_cons (pg_name (i := 7) sc_execute.nd rfl (.inl rfl)) (pgs_cons (pg_name (i := 8) sc_execute.nd rfl (.inl rfl)) pgs_nil))))))
    (pss_cons (ps_set (i := 9) sc_execute.nd rfl (.inl rfl) (pe_callS (ok_looked_up T) (hr.mono (by omega)) (by rfl) T.d_looked_up.m T.d_looked_up.F.kp T.d_looked_up.b (fun σ => passAt (takes_of rfl rfl rfl rfl) σ) (pa_cons (pv 0) (pa_cons (pv 2) (pa_cons (pv 8) pa_nil)))))
    (pss_one (ps_dput hu (pv 2) (pv 6) (pe_meth (pv 0) T.c_State T.h_State_make (ok_State_make T) (hr.mono (by omega)) T.d_State_make.b .nil pass0 (pa_cons (pv 6) (pa_cons (pv 7) (pa_cons (pv 9) pa_nil)))) rfl)))) (pss_one (ps_if (pt_cmpR op_eq (pv 4) pe_str (nomark _)) (pss_cons (ps_asg (pv 3) (pg_tup (by rfl) (pgs_cons (pg_name (i := 5) sc_execute.nd rfl (.inl rfl)) (pgs_cons (pg_name (i := 10) sc_execute.nd rfl (.inl rfl)) (pgs_cons (pg_name (i := 8) sc_execute.nd rfl (.inl rfl)) pgs_nil)))))
    (pss_cons (ps_set (i := 11) sc_execute.nd rfl (.inl rfl) (pe_callS (ok_thing_at T) (hr.mono (by omega)) (by rfl) T.d_thing_at.m T.d_thing_at.F.kp T.d_thing_at.b (fun σ => passAt (takes_of rfl rfl rfl rfl) σ) (pa_cons (pv 0) (pa_cons (pv 2) (pa_cons (pv 10) pa_nil)))))
    (pss_cons (ps_set (i := 9) sc_execute.nd rfl (.inl rfl) (pe_callS (ok_looked_up T) (hr.mono (by omega)) (by rfl) T.d_looked_up.m T.d_looked_up.F.kp T.d_looked_up.b (fun σ => passAt (takes_of rfl rfl rfl rfl) σ) (pa_cons (pv 0) (pa_cons (pv 2) (pa_cons (pv 8) pa_nil)))))
    (pss_one (ps_expr (pe_meth (pv 0) T.c_State T.h_State_write (ok_State_write T) (hr.mono (by omega)) T.d_State_write.b .nil pass0 (pa_cons (pv 11) (pa_cons (pv 9) pa_nil)))))))) (pss_one (ps_expr (pe_callS hc (hr.mono (by omega)) (by rfl) T.d_call.m T.d_call.F.kp T.d_call.b (fun σ => passAt (takes_of rfl rfl rfl rfl) σ) (pa_cons (pv 0) (pa_cons (pv 1) (pa_cons (pv 2) (pa_cons (pv 3) pa_nil))))))))))))), ?_⟩
  obtain ⟨dz, zo⟩ := X.sa.o
  obtain ⟨B1, B2, B3⟩ := B
  obtain ⟨ne1, ne2, ne3⟩ := X.ne
  have zm := X.sa.zm
  have zb := X.sa.zb
  have mb := X.sa.d
  walk_at "r"
  refine a_meth zo (lk_none _ _ _ _ (by decide +kernel)) ?_
  walk_at "r"
  refine ⟨z, md, br, sc, s, rfl, X.sa, by omega, fun ln H1 k1 S1 => ?_, fun gn dx H1 k1 S1 f1 => ?_⟩
  rotate_left
  · refine q3 ?_ dx H1 (k1.mono (by simp)) f1
    unfold ex1
    rw [if_pos ⟨rfl, gn⟩]
  have nl : ¬ (true = true ∧ 1000 ≤ s.n) := fun z => by omega
  have D1 : ScD H1 sd c N := X.dd.at k1 (by simpa using ne1)
  have K1 : Kp (MX z md br sd) H H1 := k1.mono (by simp)
  have hv1 := dp_ex (dl_kp K1) hv
  have hv2 := dp_ex (dl_le _ _) hv1
  walk_at "r"
  cases st with
  | lt x U src =>
    obtain ⟨p, u1, u2, u3, u4, rfl, hp, d1, d2, d3, d4⟩ := dp_fou hv2
    cases dp_str d1
    cases dp_str d2
    obtain ⟨a, rfl, ha⟩ := dp_ruT d3
    refine a_ixT (v := .str "let") hp (atI_nat (j := 0) rfl) ?_
    walk_at "r"
    refine ite2 (fun y => ?_) (fun y => absurd (show decide (("let" : Str) = "let") = true from by decide) y)
    walk_at "r"
    refine w_gtup (xs := [.str "let", .str x, .ref a, u4]) hp rfl ?_
    walk_at "r"
    have lg := gv_len (ths := s.th) (sc := c) so.2.2
    refine ⟨z, md, br, sc, _, sd, c, N, u4, e, _, src, rfl, S1, D1, d4, X.th, X.ss, sh.2, so.2.2, (by show s.br.length ≤ 70000; omega), fun v2 u H2 ev k2 S2 dv => ?_, fun H2 ev k2 S2 => ?_⟩
    · obtain ⟨dz2, zo2⟩ := S2.o
      walk_at "r"
      refine a_meth zo2 (lk_none _ _ _ _ (by decide +kernel)) ?_
      walk_at "r"
      have dk : Dp K (Im H2) (.ref a) (ru U) := dp_ex k2.i (dp_im d3 (nt_ru U))
      refine ⟨z, md, br, sc, _, x, U, u, v2, _, rfl, S2, by simp only; omega, dk, dv, fun H3 k3 S3 => ?_⟩
      walk_at "r"
      have D3 : ScD H3 sd c N := (D1.at k2 (by simpa using ne3)).at k3 (by simpa using ne2)
      refine D3.put (by have := X.nN; omega) fun H4 k4 D4 => ?_
      walk_at "r"
      have eq : ex1 true (callF true r) c s (.lt x U src) = (.go, ⟨s.th ++ [⟨x, U, v2⟩], s.br ++ (gv s.th c src).1, s.n + 1⟩, c.put x s.th.length) := by
        unfold ex1
        rw [if_neg nl]
        dsimp only
        cases w : gv s.th c src with
        | mk b o =>
        rw [w] at ev
        have ev : o = some v2 := ev
        rw [ev]
      rw [eq] at q1
      exact q1 rfl H4 (((K1.trans (k2.mono (by simp))).trans (k3.mono (by simp))).trans (k4.mono (by simp))) (S3.up k4 (by simpa using ⟨ne1.symm, ne2.symm, ne3.symm⟩)) D4
    · have eq : ex1 true (callF true r) c s (.lt x U src) = (.stop, ⟨s.th, s.br ++ (gv s.th c src).1, s.n + 1⟩, c) := by
        unfold ex1
        rw [if_neg nl]
        dsimp only
        cases w : gv s.th c src with
        | mk b o =>
        rw [w] at ev
        have ev : o = none := ev
        rw [ev]
      rw [eq] at q2
      exact q2 rfl H2 (K1.trans (k2.mono (by simp))) S2
  | put x k src =>
    obtain ⟨p, u1, u2, u3, rfl, hp, d1, d2, d3⟩ := dp_thr hv2
    cases dp_str d1
    refine a_ixT (v := .str "put") hp (atI_nat (j := 0) rfl) ?_
    walk_at "r"
    refine ite2 (fun y => absurd (show decide (("put" : Str) = "let") = true from y) (by decide)) (fun y => ?_)
    walk_at "r"
    refine ite2 (fun y => ?_) (fun y => absurd (show decide (("put" : Str) = "put") = true from by decide) y)
    walk_at "r"
    refine w_gtup (xs := [.str "put", u2, u3]) hp rfl ?_
    walk_at "r"
    obtain ⟨U, hU, lk, sh2⟩ := sh
    obtain ⟨n, t, h1, h2, h3⟩ := X.ss x U hU
    have ef : folX s.th c x k = fol s.th k n := by
      unfold folX
      rw [h1]
    have l1 := fol_len s.th k n
    have l2 := gv_len (ths := s.th) (sc := c) so.2.2
    have k5 : k ≤ 5 := so.2.1
    refine ⟨z, md, br, sc, _, sd, c, N, u2, x, k, n, t, rfl, S1, D1, d2, X.th, h1, h2, by rw [h3]; exact lk, k5, by simp only; omega, fun m H2 em k2 S2 => ?_, fun H2 em k2 S2 => ?_⟩
    · obtain ⟨u0, e3, l3⟩ := fol_sh X.th k n t h2 (by rw [h3]; exact lk) m em
      have K2 : Kp (MX z md br sd) H H2 := K1.trans (k2.mono (by simp))
      have D2 : ScD H2 sd c N := D1.at k2 (by simpa using ne3)
      walk_at "r"
      refine ⟨z, md, br, sc, _, sd, c, N, u3, e, _, src, rfl, S2, D2, ?_, X.th, X.ss, sh2, so.2.2, by simp only [List.length_append]; omega, fun v2 u H3 ev k3 S3 dv => ?_, fun H3 ev k3 S3 => ?_⟩
      · exact dp_ex (k2.i.trans (im_le _)) (dp_im d3 (nt_sD src))
      · obtain ⟨dz3, zo3⟩ := S3.o
        walk_at "r"
        refine a_meth zo3 (lk_none _ _ _ _ (by decide +kernel)) ?_
        walk_at "r"
        refine ⟨z, md, br, sc, _, m, u0, u, v2, rfl, S3, by simp only [List.length_append]; omega, e3, (by rw [h3] at l3; omega), dv, fun H4 k4 S4 => ?_⟩
        walk_at "r"
        have eq : ex1 true (callF true r) c s (.put x k src) = (.go, ⟨s.th.set m ⟨u0.x, u0.T, v2⟩, s.br ++ (fol s.th k n).1 ++ (gv s.th c src).1 ++ wrB u0 m, s.n + 1⟩, c) := by
          unfold ex1
          rw [if_neg nl]
          dsimp only
          rw [ef]
          cases w : fol s.th k n with
          | mk b o =>
          rw [w] at em
          have em : o = some m := em
          subst em
          cases w2 : gv s.th c src with
          | mk b2 o =>
          rw [w2] at ev
          have ev : o = some v2 := ev
          subst ev
          dsimp only
          unfold putT
          rw [e3]
        rw [eq] at q1
        have D4 : ScD H4 sd c N := (D2.at k3 (by simpa using ne3)).at k4 (by simpa using ⟨ne2, ne3⟩)
        exact q1 rfl H4 ((K2.trans (k3.mono (by simp))).trans (k4.mono (by simp))) S4 (D4.mono (Nat.le_succ _))
      · have eq : ex1 true (callF true r) c s (.put x k src) = (.stop, ⟨s.th, s.br ++ (fol s.th k n).1 ++ (gv s.th c src).1, s.n + 1⟩, c) := by
          unfold ex1
          rw [if_neg nl]
          dsimp only
          rw [ef]
          cases w : fol s.th k n with
          | mk b o =>
          rw [w] at em
          have em : o = some m := em
          subst em
          cases w2 : gv s.th c src with
          | mk b2 o =>
          rw [w2] at ev
          have ev : o = none := ev
          subst ev
          rfl
        rw [eq] at q2
        exact q2 rfl H3 (K2.trans (k3.mono (by simp))) S3
    · have eq : ex1 true (callF true r) c s (.put x k src) = (.stop, ⟨s.th, s.br ++ (fol s.th k n).1, s.n + 1⟩, c) := by
        unfold ex1
        rw [if_neg nl]
        dsimp only
        rw [ef]
        cases w : fol s.th k n with
        | mk b o =>
        rw [w] at em
        have em : o = none := em
        subst em
        rfl
      rw [eq] at q2
      exact q2 rfl H2 (K1.trans (k2.mono (by simp))) S2
  | call f ss =>
    obtain ⟨p, u1, u2, u3, rfl, hp, d1, d2, d3⟩ := dp_thr hv2
    cases dp_str d1
    refine a_ixT (v := .str "call") hp (atI_nat (j := 0) rfl) ?_
    walk_at "r"
    refine ite2 (fun y => absurd (show decide (("call" : Str) = "let") = true from y) (by decide)) (fun y => ?_)
    walk_at "r"
    refine ite2 (fun y => absurd (show decide (("call" : Str) = "put") = true from y) (by decide)) (fun y => ?_)
    walk_at "r"
    rw [ex1_call nl] at q1 q2 q3
    have X1 : XC K T.C_State T.C_Function H1 z md br sc sd pd fs r c N e ⟨s.th, s.br, s.n + 1⟩ := ⟨S1, D1, X.fn.up (dl_kp K1), X.sub, X.sh, X.fo, X.th, X.ss, X.nN⟩
    refine ⟨z, md, br, sc, sd, pd, .ref p, fs, r, c, N, e, _, f, ss, rfl, X1, ⟨by simp only; omega, by simp only; omega, by simp only; omega⟩, hd, hv1, so, sh, fun g H2 k2 S2 => ?_, fun g H2 k2 S2 => ?_, fun g dx H2 k2 f2 => ?_⟩
    · have D2 : ScD H2 sd c N := D1.at k2 (by simpa using ⟨ne1, ne2, ne3⟩)
      exact q1 g H2 (K1.trans (k2.mono (by simp))) S2 (D2.mono (Nat.le_succ _))
    · exact q2 g H2 (K1.trans (k2.mono (by simp))) S2
    · exact q3 g dx H2 (K1.trans (k2.mono (by simp))) f2
theorem ok_execute_all (T : Tx K mg) (d : Nat) (he : FnOk P w K mg base (L2.CX P w) (d * 3 + 6) T.a_execute T.e_execute p_execute (pEx K T.C_State T.C_Function T.C_NullFollowed T.C_RightsError d)) :
    FnOk P w K mg base (L2.CX P w) (d * 3 + 7) T.a_execute_all T.e_execute_all p_execute_all (pAll K T.C_State T.C_Function T.C_NullFollowed T.C_RightsError d) := by
  refine T.d_execute_all.F.okX sc_execute_all (fun vs H Q E h => ?_) (fun cdv A outer s H vs Q E hr h => ?_)
  · obtain ⟨z, md, br, sc, sd, pd, lb, xs, fs, r, c, N, e, s, b, rfl, _⟩ := h
    rfl
  obtain ⟨z, md, br, sc, sd, pd, lb, xs, fs, r, c, N, e, s, b, rfl, X, B, hd, hl, dl0, so, sh, hN, q1, q2, q3⟩ := h
  refine ⟨_, (pss_one (ps_for (passes_of rfl) rfl (plK K (pv 3)) (pg_name (i := 4) sc_execute_all.nd rfl (.inl rfl)) (pss_one (ps_expr (pe_callS he (hr.mono (by omega)) (by rfl) T.d_execute.m T.d_execute.F.kp T.d_execute.b (fun σ => passAt (takes_of rfl rfl rfl rfl) σ) (pa_cons (pv 0) (pa_cons (pv 1) (pa_cons (pv 2) (pa_cons (pv 4) pa_nil))))))))), ?_⟩
  have lx : xs.length = b.length := by rw [dpa_len dl0, List.length_map]
  obtain ⟨ne1, ne2, ne3⟩ := X.ne
  have kcl := callF_sb X.fo
  walk_at "r"
  refine r_L (ex_sl hl (dl_le _ _)) ?_
  refine lp_list (xs := xs) (fun i σ h => (∃ x4, σ = [some (.ref z), some (.ref pd), some (.ref sd), some (.ref lb), x4]) ∧ Kp (MX z md br sd) H h ∧ ∃ c' e' s', SA K T.C_State h z md br sc s' ∧ ScD h sd c' (N + i) ∧ ThSh s'.th ∧ ScSh s'.th c' e' ∧ SB s' ∧ shBlk r e' (b.drop i) ∧
      exs true (callF true r) c s b = exs true (callF true r) c' s' (b.drop i)) ⟨⟨_, rfl⟩, Kp.refl _ _, c, e, s, X.sa, X.dd, X.th, X.ss, B, sh, rfl⟩ (fun i σ h _ g => ex_sl (ex_sl hl (dl_kp g.2.1)) (dl_le _ _)) ?_ ?_
  · rintro i v σ h hi ⟨⟨x4, rfl⟩, kh, c', e', s', Sh, Dh, th, ss, B', shi, ei⟩
    obtain ⟨dd, hdd, dv⟩ := dpa_at dl0 hi
    rw [List.getElem?_map] at hdd
    cases hs : b[i]? with
    | none => rw [hs] at hdd; cases hdd
    | some st =>
    rw [hs] at hdd
    cases hdd
    have hi1 := at_lt hs
    have dr : b.drop i = st :: b.drop (i + 1) := by
      rw [List.drop_eq_getElem_cons hi1]
      rw [List.getElem?_eq_getElem hi1] at hs
      rw [Option.some.inj hs]
    rw [dr] at ei shi
    have ost := so st (List.mem_of_getElem? hs)
    walk_at "r"
    have X' : XC K T.C_State T.C_Function h z md br sc sd pd fs r c' (N + i) e' s' := ⟨Sh, Dh, X.fn.up (dl_kp kh), X.sub, X.sh, X.fo, th, ss, by omega⟩
    obtain ⟨g1, g2, g3⟩ := ex1_sh (lim := true) (call_sh X.sh) th ss shi.1
    have g4 := ex1_sb kcl (sc := c') ost B'
    simp only [exs] at ei
    refine ⟨z, md, br, sc, sd, pd, v, fs, r, c', N + i, e', s', st, rfl, X', B', hd, dp_ex (dl_kp kh) dv, ost, shi.1, fun g H1 k1 S1 D1 => ?_, fun g H1 k1 S1 => ?_, fun g dx H1 k1 f1 => ?_⟩
    · walk_at "r"
      refine ⟨⟨_, rfl⟩, kh.trans k1, _, envS e' st, _, S1, by rw [← Nat.add_assoc]; exact D1, g1, g3 g, g4 (by rw [g]; simp), shi.2, ?_⟩
      rw [ei]
      cases w : ex1 true (callF true r) c' s' st with
      | mk o p =>
      obtain ⟨s2, c2⟩ := p
      rw [w] at g
      have g : o = .go := g
      subst g
      rfl
    · refine q2 ?_ H1 (kh.trans k1) ?_
      · rw [ei]
        cases w : ex1 true (callF true r) c' s' st with
        | mk o p =>
        obtain ⟨s2, c2⟩ := p
        rw [w] at g
        have g : o = .stop := g
        subst g
        rfl
      · rw [ei]
        cases w : ex1 true (callF true r) c' s' st with
        | mk o p =>
        obtain ⟨s2, c2⟩ := p
        rw [w] at g S1
        have g : o = .stop := g
        subst g
        exact S1
    · refine q3 ?_ dx H1 (kh.trans k1) f1
      rw [ei]
      cases w : ex1 true (callF true r) c' s' st with
      | mk o p =>
      obtain ⟨s2, c2⟩ := p
      rw [w] at g
      have g : o = .long := g
      subst g
      rfl
  · rintro σ h ⟨⟨x4, rfl⟩, kh, c', e', s', Sh, Dh, th, ss, B', shi, ei⟩
    rw [lx, List.drop_length] at ei
    rw [ei] at q1
    rw [lx] at Dh
    walk_at "r"
    exact q1 rfl h kh Sh Dh

end
section
variable {P : Program} {w : World} {K : PySem.W.Frag} {mg : Str → Option Value} {base : Heap}
theorem shSrcs_at {e : Env} : ∀ {ps : List (Str × List R)} {ss : List Src}, shSrcs e ps ss → ∀ {i : Nat} {s : Src}, ss[i]? = some s → ∃ l, shSrc e l s
  | [], [], _, i, s, h => by simp at h
  | [], _ :: _, k, _, _, _ => k.elim
  | _ :: _, [], k, _, _, _ => k.elim
  | q :: ps, t :: ss, k, 0, s, h => by
    cases h
    exact ⟨_, k.1⟩
  | q :: ps, t :: ss, k, i + 1, s, h => shSrcs_at k.2 (i := i) h
theorem shSrcs_len {e : Env} : ∀ {ps : List (Str × List R)} {ss : List Src}, shSrcs e ps ss → ps.length = ss.length
  | [], [], _ => rfl
  | [], _ :: _, k => k.elim
  | _ :: _, [], k => k.elim
  | _ :: _, _ :: _, k => congrArg (· + 1) (shSrcs_len k.2)
theorem drop_at {α : Type} {xs : List α} {i : Nat} {x : α} (h : xs[i]? = some x) : xs.drop i = x :: xs.drop (i + 1) := by
  have hi := at_lt h
  rw [List.drop_eq_getElem_cons hi]
  rw [List.getElem?_eq_getElem hi] at h
  rw [Option.some.inj h]
theorem nt_pD (q : Str × List R) : ntD (pD q) = true := by
  show (true && (ntD (ru q.2) && true)) = true
  rw [nt_ru]
  rfl
theorem ok_call (T : Tx K mg) (d : Nat) (ha : FnOk P w K mg base (L2.CX P w) (d * 3 + 7) T.a_execute_all T.e_execute_all p_execute_all (pAll K T.C_State T.C_Function T.C_NullFollowed T.C_RightsError d)) :
    FnOk P w K mg base (L2.CX P w) (d * 3 + 8) T.a_call T.e_call p_call (pCl K T.C_State T.C_Function T.C_NullFollowed T.C_RightsError (d + 1)) := by
  refine T.d_call.F.okX sc_call (fun vs H Q E h => ?_) (fun cdv A outer s H vs Q E hr h => ?_)
  · obtain ⟨z, md, br, sc, sd, pd, v, fs, r, c, N, e, s, f, ss, rfl, _⟩ := h
    rfl
  obtain ⟨z, md, br, sc, sd, pd, v, fs, r, c, N, e, s, f, ss, rfl, X, B, hd, hv, so, sh, q1, q2, q3⟩ := h
  have hu := hu_of hr
  refine ⟨_, (pss_cons (ps_asg (pv 3) (pg_tup (by rfl) (pgs_cons (pg_name (i := 4) sc_call.nd rfl (.inl rfl)) (pgs_cons (pg_name (i := 5) sc_call.nd rfl (.inl rfl)) (pgs_cons (pg_name (i := 6) sc_call.nd rfl (.inl rfl)) pgs_nil)))))
    (pss_cons (ps_set (i := 7) sc_call.nd rfl (.inl rfl) (pe_dget hu (pv 1) (pv 5) (fun _ _ => rfl)))
    (pss_cons (ps_setLcX (i := 8) (own := [("source", 13)]) (g := gName 13) rfl rfl (takes_of rfl rfl rfl rfl) rfl sc_call.nd rfl rfl (sw_true rfl rfl rfl (by decide +kernel)) (plK K (pv 6)) (blkOk_by (own := [("source", 13)]) (N := n_call) (sc := defScope s_call) (by decide +kernel)) (fun _ _ _ _ _ => (pg_name (i := 13) sc_call.nd rfl (Or.inl rfl))) (fun _ _ _ _ _ => pts_nil) (fun _ _ _ _ _ _ _ _ px => (pe_callS (ok_looked_up T) (hr.mono (by omega)) (by rfl) T.d_looked_up.m T.d_looked_up.F.kp T.d_looked_up.b px (pa_cons (pv 0) (pa_cons (pv 2) (pa_cons (pv 13) pa_nil))))))
    (pss_cons (ps_set (i := 9) sc_call.nd rfl (.inl rfl) pe_dnewK)
    (pss_cons (ps_for (passes_of rfl) rfl (zpK K (by rfl) T.b_zip (pa_cons (by exact (fldK K (pv 7) rfl)) (pa_cons (pv 8) pa_nil))) (pg_tup (by rfl) (pgs_cons (pg_tup (by rfl) (pgs_cons (pg_name (i := 10) sc_call.nd rfl (.inl rfl)) (pgs_cons (pg_name (i := 11) sc_call.nd rfl (.inl rfl)) pgs_nil))) (pgs_cons (pg_name (i := 12) sc_call.nd rfl (.inl rfl)) pgs_nil))) (pss_one (ps_dput hu (pv 9) (pv 10) (pe_meth (pv 0) T.c_State T.h_State_make (ok_State_make T) (hr.mono (by omega)) T.d_State_make.b .nil pass0 (pa_cons (pv 10) (pa_cons (pv 11) (pa_cons (pv 12) pa_nil)))) rfl)))
    (pss_one (ps_expr (pe_callS ha (hr.mono (by omega)) (by rfl) T.d_execute_all.m T.d_execute_all.F.kp T.d_execute_all.b (fun σ => passAt (takes_of rfl rfl rfl rfl) σ) (pa_cons (pv 0) (pa_cons (pv 1) (pa_cons (pv 9) (pa_cons (by exact (fldK K (pv 7) rfl)) pa_nil)))))))))))), ?_⟩
  obtain ⟨g, hg, rfl, hs⟩ := sh
  obtain ⟨B1, B2, B3⟩ := B
  obtain ⟨ne1, ne2, ne3⟩ := X.ne
  have zm := X.sa.zm
  have zb := X.sa.zb
  have mb := X.sa.d
  obtain ⟨p, u1, u2, u3, rfl, hp, d1, d2, d3⟩ := dp_thr hv
  cases dp_str d1
  cases dp_str d2
  obtain ⟨lp, ys, rfl, hy, dy⟩ := dp_lst d3
  have ly : ys.length = ss.length := by rw [dpa_len dy, List.length_map]
  have ll := shSrcs_len hs
  have gk := X.fo g hg
  have p4 := gk.p4
  obtain ⟨kvs, k1, k2⟩ := X.fn.ex
  obtain ⟨a, g1, g2⟩ := k2 g (X.sub g hg)
  obtain ⟨dx, nv, l1, l2, o1, o2, o3, o4⟩ := g2.ex
  obtain ⟨pxs, p1, p2⟩ := o3.ex
  obtain ⟨bxs, b1, b2⟩ := o4.ex
  have lpx : pxs.length = g.p.length := by rw [dpa_len p2]; exact List.length_map _
  obtain ⟨r2, r21, r22, r23, r24, r25, r26⟩ := callF_at (lim := true) X.sh g hg
  walk_at "r"
  refine w_gtup (xs := [.str "call", .str g.n, .ref lp]) (ex_st hp (dl_le _ _)) rfl ?_
  walk_at "r"
  refine a_dget (dl_le _ _ _ _ k1) g1 ?_
  walk_at "r"
  refine c_L (ex_sl hy (dl_le _ _)) ?_
  have brH : ∃ o, H br = some o := by
    obtain ⟨xs, fb, _⟩ := X.sa.b
    exact ⟨_, fb⟩
  obtain ⟨obr, fbr⟩ := brH
  refine cp_list (xs := ys) (fun l i h => Kp [br] H h ∧ ∃ bi vsi acc, h l = some (.lst acc) ∧ DpAll K (Im h) acc (List.map vlD vsi) ∧ vsi.length = i ∧ SA K T.C_State h z md br sc ⟨s.th, s.br ++ bi, s.n⟩ ∧ bi.length ≤ 6 * i ∧
      gvs s.th c ss = (bi ++ (gvs s.th c (ss.drop i)).1, (gvs s.th c (ss.drop i)).2.map (vsi ++ ·)))
    (fun l n => ⟨Kp.of (Ex.new n), [], [], [], upd_same, .nil, rfl, by rw [List.append_nil]; exact X.sa.ex (Ex.new n), Nat.le_refl _, by
      rw [List.drop_zero]
      show gvs s.th c ss = ((gvs s.th c ss).1, (gvs s.th c ss).2.map fun x => x)
      rw [Option.map_id']⟩) (fun l i h nl _ gi => ex_sl (ex_sl hy (dl_kp (gi.1.mono (by simp)))) (dl_le _ _)) ?_ ?_
  · rintro l i v h nl hi ⟨kh, bi, vsi, acc, fl, da, lv, Sh, lb, eg⟩
    obtain ⟨dd, hdd, dv⟩ := dpa_at dy hi
    rw [List.getElem?_map] at hdd
    cases hsr : ss[i]? with
    | none => rw [hsr] at hdd; cases hdd
    | some src =>
    rw [hsr] at hdd
    cases hdd
    have hi1 := at_lt hsr
    have dr := drop_at hsr
    obtain ⟨sl, shl⟩ := shSrcs_at hs hsr
    have oso : sO src := so.2.2 src (List.mem_of_getElem? hsr)
    have lgv := gv_len (ths := s.th) (sc := c) oso
    have l4 := so.2.1
    have lbr : l ≠ br := (ne_old fbr nl).symm
    have la : acc.length = i := by rw [dpa_len da, List.length_map, lv]
    walk_at "r"
    refine ⟨rfl, ?_⟩
    walk_at "r"
    have Kl : Kp (MX z md br sd) H h := kh.mono (by simp)
    refine ⟨z, md, br, sc, _, sd, c, N, v, e, sl, src, rfl, Sh, X.dd.at kh (by simpa using ne3), dp_ex (dl_le _ _) (dp_ex (dl_kp Kl) dv), X.th, X.ss, shl, oso, by simp only [List.length_append]; omega, fun v2 u H1 ev k3 S3 du => ?_, fun H1 ev k3 S3 => ?_⟩
    · refine ⟨acc, k3.at (by simpa using lbr) fl, sz_lt (by omega), ((kh.trans k3).mut (k3.at (by simpa using lbr) fl) rfl nl), bi ++ (gv s.th c src).1, vsi ++ [v2], acc ++ [u], upd_same, ?_, by rw [List.length_append, lv]; rfl, ?_, by rw [List.length_append]; omega, ?_⟩
      · have i5 : Ex (Im H1) (Im (upd H1 l (.lst (acc ++ [u])))) := im_upd (k3.at (by simpa using lbr) fl) rfl
        rw [List.map_append]
        exact dpa_snoc (dpa_ex (k3.i.trans i5) da) (dp_ex i5 du)
      · rw [← List.append_assoc]
        refine S3.up (M := [l]) ((Kp.refl _ _).upd (k3.at (by simpa using lbr) fl) rfl (by simp)) ?_
        obtain ⟨_, z1⟩ := X.sa.o
        obtain ⟨_, z2, _⟩ := X.sa.m
        simpa using ⟨ne_old z1 nl, ne_old z2 nl, lbr.symm⟩
      · rw [eg, dr]
        cases w0 : gv s.th c src with
        | mk b o =>
        rw [w0] at ev
        have ev : o = some v2 := ev
        subst ev
        rw [gvs_snoc w0, List.append_assoc]
        simp only [Option.map_map]
        congr 1
        cases (gvs s.th c (ss.drop (i + 1))).2 with
        | none => rfl
        | some us => simp
    · have en : gvs s.th c ss = (bi ++ (gv s.th c src).1, none) := by
        rw [eg, dr]
        cases w0 : gv s.th c src with
        | mk b o =>
        rw [w0] at ev
        have ev : o = none := ev
        subst ev
        rw [gvs_none w0]
        rfl
      have ex : exC (callF true r) c s g.n ss = (.stop, ⟨s.th, s.br ++ (bi ++ (gv s.th c src).1), s.n⟩) := by
        unfold exC
        rw [en]
      rw [ex] at q2
      exact q2 rfl H1 ((kh.trans k3).mono (by simp)) (by rw [← List.append_assoc]; exact S3)
  · rintro l h nl ⟨kh, bi, vsi, acc, fl, da, lv, Sh, lb, eg⟩
    have eg2 : gvs s.th c ss = (bi, some vsi) := by
      rw [eg, ly, List.drop_length]
      simp [gvs]
    have ex : exC (callF true r) c s g.n ss = callF true r g.n vsi ⟨s.th, s.br ++ bi, s.n⟩ := by
      unfold exC
      rw [eg2]
    rw [ex, r26] at q1 q2 q3
    have gsh := gvs_sh X.th X.ss hs vsi (by rw [eg2])
    have la : acc.length = g.p.length := by rw [dpa_len da, List.length_map, lv, ly, ll]
    walk_at "r"
    refine new_dK fun sx H1 n1 e1 f1 => ?_
    walk_at "r"
    have nx : H sx = none := by
      refine ks_none kh.k n1 ?_
      obtain ⟨xs, fb, _⟩ := Sh.b
      simpa using (ne_old fb n1).symm
    have xl : sx ≠ l := (ne_old fl n1).symm
    have K1 : Kp [z, md, br] H H1 := (kh.mono (by simp)).trans (Kp.of e1)
    have G1 : Ex (dl (MX z md br sd) H) H1 := (dl_kp (K1.mono (by simp))).trans (dl_le _ _)
    refine a_get T.c_Function T.n_Function_params (G1 _ _ o1) (fn_params _ _ _) ?_
    walk_at "r"
    refine ⟨l1, l, pxs, acc, rfl, SqL.of (G1 _ _ p1), SqL.of (e1 _ _ fl), ?_⟩
    have Z := X.sa
    obtain ⟨_, oz⟩ := X.sa.o
    obtain ⟨_, om, _⟩ := X.sa.m
    refine lp_zip (xs := pxs) (ys := acc) (by omega) (fun j σ h2 => (∃ x10 x11 x12 x13, σ = [some (.ref z), some (.ref pd), some (.ref sd), some (.ref p), some (.str "call"), some (.str g.n), some (.ref lp), some (.ref a), some (.ref l), some (.ref sx), x10, x11, x12, x13]) ∧ Kp [z, md, br] H h2 ∧ Ex (Im H1) (Im h2) ∧ h2 l = some (.lst acc) ∧
        ∃ tj cj, SA K T.C_State h2 z md br sc ⟨tj, s.br ++ bi, s.n⟩ ∧ ScD h2 sx cj j ∧ tj.length = s.th.length + j ∧ bindP s.th sc0 g.p vsi = bindP tj cj (g.p.drop j) (vsi.drop j))
      ⟨⟨_, _, _, _, rfl⟩, K1, Ex.refl _, e1 _ _ fl, s.th, sc0, Sh.ex e1, ScD.nil f1, rfl, rfl⟩ (fun j σ h2 _ gj => ⟨ex_sl (SqL.of (dl_kp (gj.2.1.mono (by simp)) _ _ p1)) (dl_le (MX z md br sd) _), SqL.of gj.2.2.2.1⟩) ?_ ?_
    · rintro j u v σ h2 t hu hv2 ⟨⟨x10, x11, x12, x13, rfl⟩, kj, ij, flj, tj, cj, Sj, Dj, lj, ej⟩ nt
      obtain ⟨d0, hd0, du⟩ := dpa_at p2 hu
      obtain ⟨d0', hd0', dv⟩ := dpa_at da hv2
      have hd0 : (g.p.map pD)[j]? = some d0 := hd0
      rw [List.getElem?_map] at hd0 hd0'
      cases hq : g.p[j]? with
      | none => rw [hq] at hd0; cases hd0
      | some qq =>
      cases hvl : vsi[j]? with
      | none => rw [hvl] at hd0'; cases hd0'
      | some vl =>
      rw [hq] at hd0
      rw [hvl] at hd0'
      cases hd0
      cases hd0'
      have hj := at_lt hq
      have e2 : Ex h2 (upd h2 t (.tup [u, v])) := Ex.new nt
      have f2 : upd h2 t (.tup [u, v]) t = some (.tup [u, v]) := upd_same
      generalize upd h2 t (.tup [u, v]) = h3 at e2 f2 ⊢
      have k3 : Kp [z, md, br] H h3 := kj.trans (Kp.of e2)
      have i3 : Ex (Im H1) (Im h3) := ij.trans (im_ex e2)
      have du3 : Dp K (Im h3) u (pD qq) := dp_im (dp_ex (dl_le (MX z md br sd) _) (dp_ex (dl_kp (k3.mono (by simp))) du)) (nt_pD qq)
      obtain ⟨pp, w1, w2, rfl, hpp, dw1, dw2⟩ := dp_two du3
      cases dp_str dw1
      refine w_gtup (xs := [.ref pp, v]) (SqT.of f2) rfl ?_
      walk_at "r"
      refine w_gtup (xs := [.str qq.1, w2]) (ex_st hpp (im_le _)) rfl ?_
      walk_at "r"
      have S3 := Sj.ex e2
      obtain ⟨dz3, zo3⟩ := S3.o
      refine a_meth zo3 (lk_none _ _ _ _ (by decide +kernel)) ?_
      walk_at "r"
      refine ⟨z, md, br, sc, _, qq.1, qq.2, v, vl, _, rfl, S3, by simp only; omega, dw2, dp_ex i3 (dp_ex (im_ex e1) dv), fun H4 k4 S4 => ?_⟩
      walk_at "r"
      have sxm : sx ≠ md := (Dj.ne Sj).2.1
      refine ((Dj.ex e2).at k4 (by simpa using sxm)).put (by omega) fun H5 k5 D5 => ?_
      have l5 : H5 l = some (.lst acc) := k5.at (by simpa using xl.symm) (k4.at (by
        have := ne_old om nl
        simpa using this.symm) (e2 _ _ flj))
      refine ⟨⟨_, _, _, _, rfl⟩, ?_, (i3.trans k4.i).trans k5.i, l5, _, _, S4.up k5 (by
        obtain ⟨y1, y2, y3⟩ := Dj.ne Sj
        simpa using ⟨y1.symm, y2.symm, y3.symm⟩), D5, by rw [List.length_append, lj]; simp; omega, ?_⟩
      · have k34 : Kp [z, md, br] H H4 := k3.trans (k4.mono (by simp))
        exact Kp.drop (p := sx) ((k34.mono (by simp)).trans (k5.mono (by simp))) nx
      · rw [ej, drop_at hq, drop_at hvl]
        rfl
    · rintro σ h2 ⟨⟨x10, x11, x12, x13, rfl⟩, kj, ij, flj, tj, cj, Sj, Dj, lj, ej⟩
      rw [lpx, List.drop_length] at ej
      have ej2 : bindP s.th sc0 g.p vsi = (tj, cj) := ej
      rw [ej2] at q1 q2 q3
      obtain ⟨s1, s2, s3⟩ := bind_sh X.th (ScSh.nil _ sc0) r25 gsh
      rw [ej2] at s1 s2 s3
      have G2 : Ex (dl (MX z md br sd) H) h2 := (dl_kp (kj.mono (by simp))).trans (dl_le _ _)
      have GX := dl_to (sx := sx) (kj.mono (N := MX z md br sd) (by simp)) nx
      walk_at "r"
      refine a_get T.c_Function T.n_Function_body (G2 _ _ o1) (fn_body _ _ _) ?_
      walk_at "r"
      rw [lpx] at Dj lj
      have b12 := gk.b12
      refine ⟨z, md, br, sc, sx, pd, l2, bxs, fs, r2, cj, g.p.length, envP e0 g.p, ⟨tj, s.br ++ bi, s.n⟩, g.b, rfl, ⟨Sj, Dj, X.fn.up GX, fun q hq => X.sub q (r22 q hq), r23, fun q hq => X.fo q (r22 q hq), s1, s2, by omega⟩, ⟨by simp only; omega, by simp only [List.length_append]; omega, B3⟩, by omega, SqL.of (GX _ _ b1), dpa_ex GX b2, gk.bo, r24, by omega, fun go H3 k3 S3 _ => ?_, fun go H3 k3 S3 => ?_, fun go dx H3 k3 f3 => ?_⟩
      · walk_at "r"
        exact q1 go H3 (Kp.drop (p := sx) ((kj.mono (by simp)).trans (k3.mono (by simp))) nx) S3
      · exact q2 go H3 (Kp.drop (p := sx) ((kj.mono (by simp)).trans (k3.mono (by simp))) nx) S3
      · exact q3 go dx H3 (Kp.drop (p := sx) ((kj.mono (by simp)).trans (k3.mono (by simp))) nx) f3

end
section
variable {P : Program} {w : World} {K : PySem.W.Frag} {mg : Str → Option Value} {base : Heap}
/-! ### the program: bar, is_bar -/
def pBar (K : PySem.W.Frag) (n : Nat) : Sp := fun vs H Q _ => ∃ (a b : Addr) (xs ys : List R), vs = [.ref a, .ref b] ∧ SqT K H a (tv xs) ∧ SqT K H b (tv ys) ∧ xs.length = ys.length ∧ xs.length < n ∧ n ≤ 100 ∧
  (cv xs ys = true → RV1 .non H Q) ∧ (∀ (ls : List Bool) (c : Bool), ib xs ys ls c = true → ls.length < xs.length → ∀ p l H', Ex H H' → H' p = some (.tup [.ref l, .str (ltr c)]) → H' l = some (.lst (lv ls)) → Q (.ref p) H')
theorem ok_bar (T : Tx K mg) : ∀ n : Nat, FnOk P w K mg base CX0 (n + 1) T.a_bar T.e_bar p_bar (pBar K n)
  | 0 => fn_none fun vs H Q E h => by
    obtain ⟨a, b, xs, ys, _, _, _, _, h, _⟩ := h
    omega
  | n + 1 => by
    have ih : FnOk P w K mg base CX0 (n + 1) T.a_bar T.e_bar p_bar (pBar K n) := ok_bar T n
    refine T.d_bar.F.ok sc_bar (fun vs H Q E h => ?_) (fun cdv A outer s H vs Q E hr h => ?_)
    · obtain ⟨a, b, xs, ys, rfl, _⟩ := h
      rfl
    obtain ⟨a, b, xs, ys, rfl, ha, hb, hl, hn, h100, q1, q2⟩ := h
    refine ⟨_, (pss_cut (ps_if (PW.pt (pw_or (pt_cmpR op_ne (pe_callB (lenK K) (by rfl) T.b_len PySem.boot_len (pa_cons (pv 0) pa_nil)) (pe_callB (lenK K) (by rfl) T.b_len PySem.boot_len (pa_cons (pv 1) pa_nil)) (nomark _)) (pw_or1 (pt_cmpR op_eq (pe_callB (lenK K) (by rfl) T.b_len PySem.boot_len (pa_cons (pv 0) pa_nil)) pe_int (nomark _))))) (pss_one (ps_ret pe_non)) pss_nil)
    (pss_cons (ps_for PassesOwn.never rfl (ptK K (pe_glob (v := .ref T.a_LETTERS) (by rfl) T.m_LETTERS rfl)) (pg_name (i := 2) sc_bar.nd rfl (.inl rfl)) (pss_one (ps_if (PW.pt (pw_and (pt_cmpR k_inS (pv 2) (pe_ix (ixT K) (pv 1) pe_int (fun _ _ => rfl)) (by rfl)) (pw_and1 (pt_cmpR k_ninS (pv 2) (pe_ix (ixT K) (pv 0) pe_int (fun _ _ => rfl)) (by rfl))))) (pss_one (ps_ret (pe_tup (pa_cons (pe_lst pa_nil) (pa_cons (pv 2) pa_nil))))) pss_nil)))
    (pss_cons (ps_for PassesOwn.never rfl (ptK K (pe_glob (v := .ref T.a_LETTERS) (by rfl) T.m_LETTERS rfl)) (pg_name (i := 2) sc_bar.nd rfl (.inl rfl)) (pss_one (ps_if (pt_cmpR k_inS (pv 2) (pe_ix (ixT K) (pv 1) pe_int (fun _ _ => rfl)) (by rfl)) (pss_cons (ps_asg (pe_call (ok_behind T) (hr.mono (by omega)) (by rfl) T.d_behind.m T.d_behind.F.kp T.d_behind.b .nil pass0 (pa_cons (pv 0) (pa_cons (pv 1) (pa_cons (pv 2) pa_nil)))) (pg_tup (by rfl) (pgs_cons (pg_name (i := 3) sc_bar.nd rfl (.inl rfl)) (pgs_cons (pg_name (i := 4) sc_bar.nd rfl (.inl rfl)) pgs_nil))))
    (pss_cons (ps_set (i := 5) sc_bar.nd rfl (.inl rfl) (pe_call ih (hr.mono (by omega)) (by rfl) T.d_bar.m T.d_bar.F.kp T.d_bar.b .nil pass0 (pa_cons (pv 3) (pa_cons (pv 4) pa_nil))))
    (pss_one (ps_if (pt_cmpR k_notN (pv 5) pe_non (nomark _)) (pss_one (ps_ret (pe_tup (pa_cons (pe_op op_cat (pe_lst (pa_cons (pv 2) pa_nil)) (pe_ix (ixT K) (pv 5) pe_int (fun _ _ => rfl))) (pa_cons (pe_ix (ixT K) (pv 5) pe_int (fun _ _ => rfl)) pa_nil))))) pss_nil)))) pss_nil)))
    (pss_one (ps_ret pe_non))))), ?_⟩
    refine ⟨fun σ' h' => σ' = [some (.ref a), some (.ref b), none, none, none, none] ∧ h' = H ∧ xs ≠ [], ?_, ?_⟩
    · walk_at "r"
      refine a_lenT ha ?_
      walk_at "r"
      refine a_lenT hb ?_
      walk_at "r"
      refine ite2 (fun c => ?_) (fun c => ?_)
      · rw [tv_len, tv_len] at c
        simp at c
        omega
      walk_at "r"
      refine a_lenT ha ?_
      walk_at "r"
      refine ite2 (fun c => ?_) (fun c => ?_)
      · walk_at "r"
        have h0 : xs.length = 0 := by rw [tv_len] at c; simpa using c
        have e1 : xs = [] := List.eq_nil_of_length_eq_zero h0
        have e2 : ys = [] := List.eq_nil_of_length_eq_zero (by omega)
        subst e1 e2
        exact q1 cv_nil _ (Ex.refl _)
      · walk_at "r"
        exact ⟨rfl, rfl, fun e => by subst e; exact c (by rfl)⟩
    rintro σ h ⟨rfl, rfl, hne⟩
    match xs, ys, hl, ha, hb, hn, q1, q2, hne with
    | [], _, _, _, _, _, _, _, hne => exact absurd rfl hne
    | x :: xs, [], hl, _, _, _, _, _, _ => cases hl
    | x :: xs, y :: ys, hl, ha, hb, hn, q1, q2, _ =>
    have hl : xs.length = ys.length := by simpa using hl
    have hn : xs.length < n := by simpa using hn
    have ib0 : ∀ c, ib (x :: xs) (y :: ys) [] c = (y.has c && !x.has c) := fun _ => rfl
    walk_at "r"
    refine r_T (T.t_LETTERS _) ?_
    refine lp_two T.t_LETTERS (fun σ h' => (∃ u1 u2 u3 u4, σ = [some (.ref a), some (.ref b), u1, u2, u3, u4]) ∧ h' = h) (fun σ h' => (∃ u1 u2 u3 u4, σ = [some (.ref a), some (.ref b), u1, u2, u3, u4]) ∧ h' = h ∧ (!y.has true || x.has true) = true)
      (fun σ h' => (∃ u1 u2 u3 u4, σ = [some (.ref a), some (.ref b), u1, u2, u3, u4]) ∧ h' = h ∧ ((!y.has true || x.has true) && (!y.has false || x.has false)) = true) ⟨⟨_, _, _, _, rfl⟩, rfl⟩ ?_ ?_ ?_
    · rintro σ h' ⟨⟨u1, u2, u3, u4, rfl⟩, rfl⟩
      walk_at "r"
      refine a_ixT (v := .str y.s) hb (atI_nat (j := 0) rfl) ?_
      refine a_inS (in_l y true) ?_
      walk_at "r"
      refine ite2 (fun c => ?_) (fun c => ?_)
      · walk_at "r"
        refine a_ixT (v := .str x.s) ha (atI_nat (j := 0) rfl) ?_
        refine a_ninS (in_l x true) ?_
        walk_at "r"
        refine ite2 (fun d => ?_) (fun d => ?_)
        · walk_at "r"
          refine new_lst (xs := []) (by simp) fun l H1 n1 e1 f1 => ?_
          walk_at "r"
          refine new_tup (xs := [_, _]) (by simp) fun p H2 n2 e2 f2 => ?_
          exact q2 [] true (by rw [ib0, c, d]; rfl) (by simp) p l H2 (e1.trans e2) f2 (e2 _ _ f1)
        · walk_at "r"
          exact ⟨⟨_, _, _, _, rfl⟩, rfl, by rw [c, (by simpa using d : x.has true = true)]; rfl⟩
      · walk_at "r"
        exact ⟨⟨_, _, _, _, rfl⟩, rfl, by rw [Bool.eq_false_iff.mpr c]; rfl⟩
    · rintro σ h' ⟨⟨u1, u2, u3, u4, rfl⟩, rfl, g0⟩
      walk_at "r"
      refine a_ixT (v := .str y.s) hb (atI_nat (j := 0) rfl) ?_
      refine a_inS (in_l y false) ?_
      walk_at "r"
      refine ite2 (fun c => ?_) (fun c => ?_)
      · walk_at "r"
        refine a_ixT (v := .str x.s) ha (atI_nat (j := 0) rfl) ?_
        refine a_ninS (in_l x false) ?_
        walk_at "r"
        refine ite2 (fun d => ?_) (fun d => ?_)
        · walk_at "r"
          refine new_lst (xs := []) (by simp) fun l H1 n1 e1 f1 => ?_
          walk_at "r"
          refine new_tup (xs := [_, _]) (by simp) fun p H2 n2 e2 f2 => ?_
          exact q2 [] false (by rw [ib0, c, d]; rfl) (by simp) p l H2 (e1.trans e2) f2 (e2 _ _ f1)
        · walk_at "r"
          exact ⟨⟨_, _, _, _, rfl⟩, rfl, by rw [g0, c, (by simpa using d : x.has false = true)]; rfl⟩
      · walk_at "r"
        exact ⟨⟨_, _, _, _, rfl⟩, rfl, by rw [g0, Bool.eq_false_iff.mpr c]; rfl⟩
    rintro σ h' ⟨⟨u1, u2, u3, u4, rfl⟩, rfl, gw⟩
    walk_at "r"
    refine r_T (T.t_LETTERS _) ?_
    refine lp_two T.t_LETTERS (fun σ h => (∃ u1 u2 u3 u4, σ = [some (.ref a), some (.ref b), u1, u2, u3, u4]) ∧ Ex h' h) (fun σ h => (∃ u1 u2 u3 u4, σ = [some (.ref a), some (.ref b), u1, u2, u3, u4]) ∧ Ex h' h ∧ (!y.has true || cv xs ys) = true)
      (fun σ h => Ex h' h ∧ (!y.has true || cv xs ys) = true ∧ (!y.has false || cv ys xs) = true) ⟨⟨_, _, _, _, rfl⟩, Ex.refl _⟩ ?_ ?_ ?_
    · rintro σ h ⟨⟨u1, u2, u3, u4, rfl⟩, e0⟩
      have ha1 := ex_st ha e0
      have hb1 := ex_st hb e0
      walk_at "r"
      refine a_ixT (v := .str y.s) hb1 (atI_nat (j := 0) rfl) ?_
      refine a_inS (in_l y true) ?_
      walk_at "r"
      refine ite2 (fun c => ?_) (fun c => ?_)
      · walk_at "r"
        refine ⟨a, b, _, _, tv xs, tv ys, true, rfl, ha1, hb1, fun p s1 s2 H2 e2 f2 g1 g2 => ?_⟩
        walk_at "r"
        refine w_gtup (SqT.of f2) rfl ?_
        walk_at "r"
        refine ⟨s1, s2, xs, ys, rfl, g1, g2, hl, hn, by omega, fun d H3 e3 => ?_, fun ls c' d dl p2 l2 H3 e3 f3 f4 => ?_⟩
        · walk_at "r"
          exact ⟨⟨_, _, _, _, rfl⟩, by walk_at "ex", by rw [d]; simp⟩
        · walk_at "r"
          refine new_lst (xs := [_]) (by simp) fun l4 H4 n4 e4 f5 => ?_
          walk_at "r"
          refine a_ixT (v := .ref l2) (by walk_at "st" : SqT K H4 p2 [.ref l2, .str (ltr c')]) (atI_nat (j := 0) rfl) ?_
          refine a_cat f5 (by walk_at "tr" : H4 l2 = some (.lst (lv ls))) (by rw [lv_len]; simp; omega) fun l5 H5 n5 e5 f6 => ?_
          walk_at "r"
          refine a_ixT (v := .str (ltr c')) (by walk_at "st" : SqT K H5 p2 [.ref l2, .str (ltr c')]) (atI_nat (j := 1) rfl) ?_
          walk_at "r"
          refine new_tup (xs := [_, _]) (by simp) fun p6 H6 n6 e6 f7 => ?_
          exact q2 (true :: ls) c' (by show (y.has true && ib xs ys ls c') = true; rw [c, d]; rfl) (by simp; omega) p6 l5 H6 (by walk_at "ex") f7 (e6 _ _ f6)
      · walk_at "r"
        exact ⟨⟨_, _, _, _, rfl⟩, e0, by rw [Bool.eq_false_iff.mpr c]; rfl⟩
    · rintro σ h ⟨⟨u1, u2, u3, u4, rfl⟩, e0, g0⟩
      have ha1 := ex_st ha e0
      have hb1 := ex_st hb e0
      walk_at "r"
      refine a_ixT (v := .str y.s) hb1 (atI_nat (j := 0) rfl) ?_
      refine a_inS (in_l y false) ?_
      walk_at "r"
      refine ite2 (fun c => ?_) (fun c => ?_)
      · walk_at "r"
        refine ⟨a, b, _, _, tv xs, tv ys, false, rfl, ha1, hb1, fun p s1 s2 H2 e2 f2 g1 g2 => ?_⟩
        walk_at "r"
        refine w_gtup (SqT.of f2) rfl ?_
        walk_at "r"
        refine ⟨s1, s2, ys, xs, rfl, g1, g2, hl.symm, by omega, by omega, fun d H3 e3 => ?_, fun ls c' d dl p2 l2 H3 e3 f3 f4 => ?_⟩
        · walk_at "r"
          exact ⟨by walk_at "ex", g0, by rw [d]; simp⟩
        · walk_at "r"
          refine new_lst (xs := [_]) (by simp) fun l4 H4 n4 e4 f5 => ?_
          walk_at "r"
          refine a_ixT (v := .ref l2) (by walk_at "st" : SqT K H4 p2 [.ref l2, .str (ltr c')]) (atI_nat (j := 0) rfl) ?_
          refine a_cat f5 (by walk_at "tr" : H4 l2 = some (.lst (lv ls))) (by rw [lv_len]; simp; omega) fun l5 H5 n5 e5 f6 => ?_
          walk_at "r"
          refine a_ixT (v := .str (ltr c')) (by walk_at "st" : SqT K H5 p2 [.ref l2, .str (ltr c')]) (atI_nat (j := 1) rfl) ?_
          walk_at "r"
          refine new_tup (xs := [_, _]) (by simp) fun p6 H6 n6 e6 f7 => ?_
          exact q2 (false :: ls) c' (by show (y.has false && ib ys xs ls c') = true; rw [c, d]; rfl) (by simp; omega) p6 l5 H6 (by walk_at "ex") f7 (e6 _ _ f6)
      · walk_at "r"
        exact ⟨e0, g0, by rw [Bool.eq_false_iff.mpr c]; rfl⟩
    · rintro σ h ⟨e0, g0, g1⟩
      walk_at "r"
      exact q1 (by rw [cv_cons' hl, gw, g0, g1]; rfl) h e0
def pIsBar (K : PySem.W.Frag) : Sp := fun vs H Q _ => ∃ (a b l : Addr) (xs ys : List R) (ls : List Bool) (c : Bool), vs = [.ref a, .ref b, .ref l, .str (ltr c)] ∧ SqT K H a (tv xs) ∧ SqT K H b (tv ys) ∧ SqL K H l (lv ls) ∧ xs.length = ys.length ∧ RV1 (.bl (ib xs ys ls c)) H Q
theorem lv_get {ls : List Bool} {i : Nat} {v : V} (h : (lv ls)[i]? = some v) : ∃ b, ls[i]? = some b ∧ v = .str (ltr b) := by
  unfold lv at h
  rw [List.getElem?_map] at h
  cases e : ls[i]? with
  | none => rw [e] at h; cases h
  | some x => rw [e] at h; exact ⟨x, rfl, (Option.some.inj h).symm⟩
theorem drop_of {α : Type} {ls : List α} {i : Nat} {x : α} (h : ls[i]? = some x) : ls.drop i = x :: ls.drop (i + 1) := by
  obtain ⟨hi, e⟩ := List.getElem?_eq_some_iff.mp h
  rw [← e]
  exact List.drop_eq_getElem_cons hi

end
section
variable {P : Program} {w : World} {K : PySem.W.Frag} {mg : Str → Option Value} {base : Heap}
def pByN2 (K : PySem.W.Frag) (C : Addr) : Sp := fun vs H Q _ => ∃ p xs fs, vs = [.ref p] ∧ SqL K H p xs ∧ FnAll K C H xs (List.map TF.fd fs) ∧ (fs.map TF.n).Nodup ∧ fs.length ≤ 100 ∧
  ∀ m H1, H m = none → Ex H H1 → (∃ kvs : Kv, H1 m = some (.dK kvs) ∧ ∀ G, FnAll K C G xs (List.map TF.fd fs) → ∀ g ∈ fs, ∃ a, valV kvs (Sum.inr g.n) = some (.ref a) ∧ FnAt K C G a g.fd) → Q (.ref m) H1
theorem ok_by_name2 (T : Tx K mg) : FnOk P w K mg base CX0 1 T.a_by_name T.e_by_name p_by_name (pByN2 K T.C_Function) := by
  refine T.d_by_name.F.ok sc_by_name (fun vs H Q E h => ?_) (fun cdv A outer s H vs Q E hr h => ?_)
  · obtain ⟨p, xs, fs, rfl, _⟩ := h
    rfl
  obtain ⟨p, xs, fs, rfl, hp, hF, nd, hz, q⟩ := h
  refine ⟨_, (pss_one (ps_ret (pe_dc (own := [("function", 1)]) (g := gName 1) rfl sc_by_name.nd  (plK K (pv 0)) (blkOk_by (own := [("function", 1)]) (N := n_by_name) (sc := defScope s_by_name) (by decide +kernel)) (fun _ _ _ _ _ => (pg_name (i := 1) sc_by_name.nd rfl (Or.inl rfl))) (fun _ _ _ _ _ => pts_nil) (fun _ _ _ _ _ => (by exact (fldK K (pv 1) rfl))) (fun _ _ _ _ _ => (pv 1))))), ?_⟩
  walk_at "r"
  refine dc_L hp ?_
  have lx : xs.length = fs.length := by rw [hF.len, List.length_map]
  refine dcp_list (xs := xs) (fun D k h => Ex H h ∧ ∃ kvs : Kv, h D = some (.dK kvs) ∧ kvs.length ≤ k ∧ ∀ g ∈ fs.take k, ∃ a, valV kvs (Sum.inr g.n) = some (.ref a) ∧ ∀ G, FnAll K T.C_Function G xs (List.map TF.fd fs) → FnAt K T.C_Function G a g.fd)
    (fun D n => ⟨Ex.new n, [], upd_same, Nat.le_refl _, fun g hg => by simp at hg⟩) (fun D k h _ _ g => ex_sl hp g.1) ?_ ?_
  · rintro D k x h nD hx ⟨e1, kvs, f1, z1, g1⟩
    obtain ⟨a, fd, rfl, hfd, hA⟩ := hF.get hx
    rw [List.getElem?_map] at hfd
    cases hg : fs[k]? with
    | none => rw [hg] at hfd; cases hfd
    | some g =>
    rw [hg] at hfd
    cases hfd
    obtain ⟨dx, nv, q1, q2, o1, o2, o3, o4⟩ := hA.ex
    cases fd_name o2
    have hk := at_lt hg
    walk_at "r"
    refine ⟨rfl, ?_⟩
    walk_at "r"
    refine a_get T.c_Function T.n_Function_name (e1 _ _ o1) (fn_name _ _ _) ?_
    walk_at "r"
    refine ⟨kvs, Sum.inr g.n, rfl, f1, sz_lt (by omega), e1.mut nD, _, upd_same, Nat.le_trans (putK_le _ _ _) (Nat.succ_le_succ z1), fun g' hg' => ?_⟩
    rw [valV_put]
    rw [take_snoc hg] at hg'
    rcases List.mem_append.mp hg' with hg' | hg'
    · have ne : g'.n ≠ g.n := fun z => by
        obtain ⟨j, hj, ej⟩ := List.mem_iff_getElem.mp hg'
        have hj2 : j < k := by rw [List.length_take] at hj; omega
        have e1 : (fs.map TF.n)[j]? = some g'.n := by
          rw [List.getElem?_map]
          rw [List.getElem_take] at ej
          rw [List.getElem?_eq_getElem (by omega), ej]
          rfl
        have e2 : (fs.map TF.n)[k]? = some g.n := by rw [List.getElem?_map, hg]; rfl
        have hj3 := at_lt e1
        have hk3 := at_lt e2
        rw [List.getElem?_eq_getElem hj3] at e1
        rw [List.getElem?_eq_getElem hk3] at e2
        have := List.pairwise_iff_getElem.mp nd j k hj3 hk3 hj2
        exact this (by rw [Option.some.inj e1, Option.some.inj e2, z])
      rw [if_neg (fun z => ne (Sum.inr.inj z))]
      exact g1 g' hg'
    · rw [List.mem_singleton] at hg'
      subst hg'
      rw [if_pos rfl]
      refine ⟨a, rfl, fun G hG => ?_⟩
      obtain ⟨a', f', ea, hf', hA'⟩ := hG.get hx
      cases ea
      rw [List.getElem?_map, hg] at hf'
      cases hf'
      exact hA'
  · rintro D h nD ⟨e1, kvs, f1, z1, g1⟩
    rw [lx, List.take_length] at g1
    exact q D h nD e1 ⟨kvs, f1, fun G hG g hg => by
      obtain ⟨a, k1, k2⟩ := g1 g hg
      exact ⟨a, k1, k2 G hG⟩⟩
theorem fn_noneX {CX : CXT} {k : Nat} {f : Addr} {fd : FuncData} {ps : List Str} {sp : Sp} (no : ∀ vs H Q E, ¬ sp vs H Q E) : FnOk P w K mg base CX k f fd ps sp :=
  ⟨fun vs H Q E h => absurd h (no vs H Q E), fun _ _ _ _ _ _ _ _ _ _ _ _ _ h => absurd h (no _ _ _ _)⟩
theorem ok_callN (T : Tx K mg) : ∀ d : Nat, FnOk P w K mg base (L2.CX P w) (d * 3 + 5) T.a_call T.e_call p_call (pCl K T.C_State T.C_Function T.C_NullFollowed T.C_RightsError d)
  | 0 => fn_noneX fun vs H Q E h => by
    obtain ⟨z, md, br, sc, sd, pd, v, fs, r, c, N, e, s, f, ss, _, _, _, hd, _, _, ⟨g, hg, _⟩, _⟩ := h
    cases r with
    | nil => cases hg
    | cons a as => simp at hd
  | d + 1 => by
    rw [show (d + 1) * 3 + 5 = d * 3 + 8 by omega]
    exact ok_call T d (ok_execute_all T d (ok_execute T d (ok_callN T d)))
theorem ok_exN (T : Tx K mg) (d : Nat) : FnOk P w K mg base (L2.CX P w) (d * 3 + 6) T.a_execute T.e_execute p_execute (pEx K T.C_State T.C_Function T.C_NullFollowed T.C_RightsError d) := ok_execute T d (ok_callN T d)
theorem ok_allN (T : Tx K mg) (d : Nat) : FnOk P w K mg base (L2.CX P w) (d * 3 + 7) T.a_execute_all T.e_execute_all p_execute_all (pAll K T.C_State T.C_Function T.C_NullFollowed T.C_RightsError d) := ok_execute_all T d (ok_exN T d)
theorem kp_news {z md br sc : Addr} {H H1 H2 : Hp} (e : Ex H H1) (k : Kp (MX z md br sc) H1 H2) (n1 : H z = none) (n2 : H md = none) (n3 : H br = none) (n4 : H sc = none) : Ex H H2 := fun a o h => by
  refine k.at ?_ (e _ _ h)
  simp only [List.mem_cons, List.not_mem_nil, or_false, not_or]
  exact ⟨ne_of_none h n1, ne_of_none h n2, ne_of_none h n3, ne_of_none h n4⟩
def pRun (K : PySem.W.Frag) (CP CF CE : Addr) : Sp := fun vs H Q E => ∃ z c fs ss ex, vs = [.ref z, .ref c] ∧ PgAt K CP CF H z fs ss ∧ POk fs ss ∧ XL K H c ex ∧
  (jAll fs ss ex ≠ [] → ∀ d H1, Ex H H1 → H1 d = some (.xd [("reason", .str "not let by")]) → E (.ref CE) (some d) H1) ∧
  (jAll fs ss ex = [] → (runP true fs ss).1 = .long → ∀ d H1, Ex H H1 → H1 d = some (.xd [("reason", .str "too long")]) → E (.ref CE) (some d) H1) ∧
  (jAll fs ss ex = [] → (runP true fs ss).1 ≠ .long → ∀ p l1 l2 xs1 xs2 H1, Ex H H1 → H1 p = some (.tup [.str (if (runP true fs ss).1 = .go then "done" else "stopped"), .ref l1, .ref l2]) → H1 l1 = some (.lst xs1) → DpAll K (Im H1) xs1 ((runP true fs ss).2.1.br.map brD) →
    H1 l2 = some (.lst xs2) → DpAll K (Im H1) xs2 ((runP true fs ss).2.1.th.map thD) → Q (.ref p) H1)
theorem ok_run (T : Tx K mg) : FnOk P w K mg base (L2.CX P w) 21 T.a_run T.e_run p_run (pRun K T.C_Program T.C_Function T.C_RightsError) := by
  refine T.d_run.F.okX sc_run (fun vs H Q E h => ?_) (fun cdv A outer s H vs Q E hr h => ?_)
  · obtain ⟨z, c, fs, ss, ex, rfl, _⟩ := h
    rfl
  obtain ⟨z, c, fs, ss, ex, rfl, pg, ok, hx, qn, ql, q⟩ := h
  refine ⟨_, (pss_cons (ps_if (pt_not (pt_val (pe_call (ok_is_let_by T) (hr.mono (by omega)) (by rfl) T.d_is_let_by.m T.d_is_let_by.F.kp T.d_is_let_by.b .nil pass0 (pa_cons (pv 0) (pa_cons (pv 1) pa_nil))))) (pss_one (ps_raise rfl (takes_of rfl rfl rfl rfl) (pmk_oex T.o_RightsError T.i_RightsError T.t_RightsError (ok_RightsError_init T) (hr.mono (by omega)) T.d_RightsError_init.b .nil pass0 (by rfl) T.g_RightsError (pa_cons pe_str pa_nil)))) pss_nil)
    (pss_cons (ps_set (i := 2) sc_run.nd rfl (.inl rfl) (pe_make0 T.k_State (ok_State_init T) (hr.mono (by omega)) (by rfl) T.g_State T.d_State_init.b .nil pass0))
    (pss_cons (ps_set (i := 3) sc_run.nd rfl (.inl rfl) pe_str)
    (pss_cons (ps_try_only rfl rfl ⟨rfl, by decide, Or.inl T.g_NullFollowed⟩ (takes_of rfl rfl rfl rfl) (fun W pn xe tk po => (pss_one (ps_expr (pe_callS (ok_allN T 4) (hr.mono (by omega)) (by rfl) T.d_execute_all.m T.d_execute_all.F.kp T.d_execute_all.b (fun σ => passAt tk σ) (pa_cons (pv 2) (pa_cons (pe_call (ok_by_name2 T) (hr.mono (by omega)) (by rfl) T.d_by_name.m T.d_by_name.F.kp T.d_by_name.b .nil pass0 (pa_cons (by exact (fldK K (pv 0) rfl)) pa_nil)) (pa_cons (by exact (fldK K (pv 2) rfl)) (pa_cons (by exact (fldK K (pv 0) rfl)) pa_nil)))))))) (fun a oe cls d pn _ _ => (pss_one (ps_set (i := 3) sc_run.nd rfl (.inl rfl) pe_str))))
    (pss_one (ps_ret (pe_tup (pa_cons (pv 3) (pa_cons (by exact (fldK K (pv 2) rfl)) (pa_cons (by exact (fldK K (pv 2) rfl)) pa_nil)))))))))), ?_⟩
  have nd := (List.nodup_append.mp ok.nd).1
  have f4 := ok.f4
  walk_at "r"
  refine ⟨z, c, fs, ss, ex, rfl, pg, ok, hx, fun H1 e1 => ?_⟩
  walk_at "r"
  refine ite2 (fun y => ?_) (fun y => ?_)
  · have ne : jAll fs ss ex ≠ [] := fun c => by
      rw [c] at y
      simp at y
    walk_at "r"
    refine mko_re fun d H2 n2 e2 f2 => ?_
    exact qn ne d H2 (e1.trans e2) f2
  have je : jAll fs ss ex = [] := List.eq_nil_of_length_eq_zero (by simpa using y)
  obtain ⟨good, jg⟩ := prog_good ok je
  walk_at "r"
  refine a_new fun sx dsx H2 n2 n3 n4 e2 f2 f3 => ?_
  refine ⟨sx, dsx, rfl, f2, fun md br sc H3 k3 m1 m2 m3 g1 g2 g3 g4 g5 => ⟨rfl, ?_⟩⟩
  have E3 : Ex H H3 := fun a o h => k3.at (by simpa using ne_of_none (e1 _ _ h) n2) (e2 _ _ (e1 _ _ h))
  obtain ⟨dz, r1, r2, w1, w2, z1, z2, z3, z4, z5⟩ := pg.ex
  have S3 : SA K T.C_State H3 sx md br sc s0 := ⟨⟨dsx, g1⟩, ⟨[], g2, .nil⟩, ⟨[], g3, .nil⟩, g5⟩
  have nx := ex_none e1 n2
  have nmd := ex_none (e1.trans e2) m1
  have nbr := ex_none (e1.trans e2) m2
  have nsc := ex_none (e1.trans e2) m3
  walk_at "r"
  refine a_get T.c_Program T.n_Program_functions (E3 _ _ z1) (pg_fns _ _) ?_
  walk_at "r"
  refine ⟨r1, w1, fs, rfl, SqL.of (E3 _ _ z2), z3.up E3, nd, by omega, fun bn H4 n5 e4 hF => ?_⟩
  obtain ⟨kvs, fb, hkv⟩ := hF
  walk_at "r"
  have E4 := E3.trans e4
  have S4 := S3.ex e4
  obtain ⟨_, so4⟩ := S4.o
  have X4 : Ex H (dl (MX sx md br sc) H4) := fun a o h => by
    rw [dl_nin]
    · exact E4 _ _ h
    · simp only [List.mem_cons, List.not_mem_nil, or_false, not_or]
      exact ⟨ne_of_none h nx, ne_of_none h nmd, ne_of_none h nbr, ne_of_none h nsc⟩
  have fbX : (dl (MX sx md br sc) H4) bn = some (.dK kvs) := by
    rw [dl_nin]
    · exact fb
    · simp only [List.mem_cons, List.not_mem_nil, or_false, not_or]
      exact ⟨(ne_of_none g1 n5).symm, (ne_of_none g2 n5).symm, (ne_of_none g3 n5).symm, (ne_of_none g4 n5).symm⟩
  refine a_get T.c_State T.n_State_scope so4 (lk_scope _ _ _ _) ?_
  walk_at "r"
  refine a_get T.c_Program T.n_Program_statements (E4 _ _ z1) (pg_sts _ _) ?_
  walk_at "r"
  have sub : ∀ g ∈ fs.reverse, g ∈ fs := fun g hg => List.mem_reverse.mp hg
  have XX : XC K T.C_State T.C_Function H4 sx md br sc sc bn fs fs.reverse sc0 0 e0 s0 := ⟨S4, (ScD.nil g4).ex e4, ⟨kvs, fbX, fun g hg => hkv _ (z3.up X4) g hg⟩, sub, good.sh nd sub, fun g hg => ok.fo g (sub g hg), (fun t ht => by cases ht), ScSh.nil _ _, by omega⟩
  have s40 := ok.s40
  have fin : ∀ (e : Str) H5, Kp (MX sx md br sc) H4 H5 → SA K T.C_State H5 sx md br sc (runP true fs ss).2.1 → (runP true fs ss).1 ≠ .long → (if (runP true fs ss).1 = .go then ("done" : Str) else "stopped") = e → Ex H H5 ∧ ∃ dx xs1 xs2, H5 sx = some (.ins T.C_State dx (stF md br (runP true fs ss).2.1.n sc)) ∧ H5 br = some (.lst xs1) ∧ DpAll K (Im H5) xs1 ((runP true fs ss).2.1.br.map brD) ∧ H5 md = some (.lst xs2) ∧ DpAll K (Im H5) xs2 ((runP true fs ss).2.1.th.map thD) := fun e H5 k5 S5 _ _ => by
    obtain ⟨dx, h1⟩ := S5.o
    obtain ⟨xs2, h2, h3⟩ := S5.m
    obtain ⟨xs1, h4, h5⟩ := S5.b
    exact ⟨kp_news E4 k5 nx nmd nbr nsc, dx, xs1, xs2, h1, h4, h5, h2, h3⟩
  refine ⟨sx, md, br, sc, sc, bn, r2, w2, fs, fs.reverse, sc0, 0, e0, s0, ss, rfl, XX, ⟨by simp [s0], by simp [s0], by simp [s0]⟩, by rw [List.length_reverse]; exact f4, SqL.of (X4 _ _ z4), dpa_ex X4 z5, ok.so, good_sh nd sub jg, by omega, fun go H5 k5 S5 _ => ?_, fun go H5 k5 S5 => ?_, fun go d H5 k5 f5 => ?_⟩
  · have go' : (runP true fs ss).1 = .go := go
    obtain ⟨E5, dx, xs1, xs2, h1, h4, h5, h2, h3⟩ := fin "done" H5 k5 S5 (by rw [go']; simp) (by rw [go']; rfl)
    walk_at "r"
    refine a_get T.c_State T.n_State_broken h1 (lk_broken _ _ _ _) ?_
    walk_at "r"
    refine a_get T.c_State T.n_State_made h1 (lk_made _ _ _ _) ?_
    walk_at "r"
    refine new_tup (by simp) fun p H6 n6 e6 f6 => ?_
    exact q je (by rw [go']; simp) p br md xs1 xs2 H6 (E5.trans e6) (by rw [go', if_pos rfl]; exact f6) (e6 _ _ h4) (dpa_ex (im_ex e6) h5) (e6 _ _ h2) (dpa_ex (im_ex e6) h3)
  · have go' : (runP true fs ss).1 = .stop := go
    obtain ⟨E5, dx, xs1, xs2, h1, h4, h5, h2, h3⟩ := fin "stopped" H5 k5 S5 (by rw [go']; simp) (by rw [go']; rfl)
    refine ⟨true, T.s_NullFollowed, fun _ a na => ?_, fun y => by cases y⟩
    walk_at "r"
    refine a_get T.c_State T.n_State_broken h1 (lk_broken _ _ _ _) ?_
    walk_at "r"
    refine a_get T.c_State T.n_State_made h1 (lk_made _ _ _ _) ?_
    walk_at "r"
    refine new_tup (by simp) fun p H6 n6 e6 f6 => ?_
    exact q je (by rw [go']; simp) p br md xs1 xs2 H6 (E5.trans e6) (by rw [go', if_neg (by simp)]; exact f6) (e6 _ _ h4) (dpa_ex (im_ex e6) h5) (e6 _ _ h2) (dpa_ex (im_ex e6) h3)
  · exact ⟨false, T.u_RightsError_NullFollowed, (fun y => by cases y), fun _ => ql je go d H5 (kp_news E4 k5 nx nmd nbr nsc) f5⟩

end
section
variable {P : Program} {w : World} {K : PySem.W.Frag} {mg : Str → Option Value} {base : Heap}
def pFsrc (K : PySem.W.Frag) : Sp := fun vs H Q _ => ∃ (a : Addr) (T : List R), vs = [.ref a] ∧ SqT K H a (tv T) ∧ ∀ v H1, Ex H H1 → Dp K H1 v (sD (fsrc T)) → Q v H1
theorem ok_first_source (T : Tx K mg) : FnOk P w K mg base CX0 1 T.a_first_source T.e_first_source p_first_source (pFsrc K) := by
  refine T.d_first_source.F.ok sc_first_source (fun vs H Q E h => ?_) (fun cdv A outer s H vs Q E hr h => ?_)
  · obtain ⟨a, U, rfl, _⟩ := h
    rfl
  obtain ⟨a, U, rfl, ha, q⟩ := h
  refine ⟨_, (pss_cons (ps_if (pt_cmpR (eqDK K hr.units) (pv 0) (pe_tup pa_nil) (nomark _)) (pss_one (ps_ret (pe_tup (pa_cons pe_str (pa_cons pe_int pa_nil))))) pss_nil)
    (pss_one (ps_ret (pe_tup (pa_cons pe_str pa_nil))))), ?_⟩
  walk_at "r"
  refine new_tup (xs := []) (by simp) fun t H1 n1 e1 f1 => ?_
  refine a_eqU (xs := U) (ys := []) (ex_st ha e1) (SqT.of f1) ?_
  walk_at "r"
  refine ite2 (fun y => ?_) (fun y => ?_)
  · have e : U = [] := of_decide_eq_true y
    walk_at "r"
    refine new_tup (by simp) fun p H2 n2 e2 f2 => ?_
    refine q _ H2 (e1.trans e2) ?_
    unfold fsrc
    rw [if_pos e]
    exact .tup (SqT.of f2) (.cons (.str _) (.cons (.int _) .nil))
  · have e : U ≠ [] := of_decide_eq_false (nf y)
    walk_at "r"
    refine new_tup (by simp) fun p H2 n2 e2 f2 => ?_
    refine q _ H2 (e1.trans e2) ?_
    unfold fsrc
    rw [if_neg e]
    exact .tup (SqT.of f2) (.cons (.str _) .nil)
def pHold (K : PySem.W.Frag) : Sp := fun vs H Q _ => ∃ (nm : Str) (a : Addr) (v : V) (T : List R) (s : Src), vs = [.str nm, .ref a, v] ∧ SqT K H a (tv T) ∧ T.length ≤ 6 ∧ Dp K H v (sD s) ∧ ∀ u H1, Ex H H1 → Dp K H1 u (stD (.lt nm (.rw :: T) s)) → Q u H1
theorem ok_holding (T : Tx K mg) : FnOk P w K mg base CX0 1 T.a_holding T.e_holding p_holding (pHold K) := by
  refine T.d_holding.F.ok sc_holding (fun vs H Q E h => ?_) (fun cdv A outer s H vs Q E hr h => ?_)
  · obtain ⟨nm, a, v, U, s, rfl, _⟩ := h
    rfl
  obtain ⟨nm, a, v, U, s, rfl, ha, hz, hv, q⟩ := h
  refine ⟨_, (pss_one (ps_ret (pe_tup (pa_cons pe_str (pa_cons (pv 0) (pa_cons (pe_op (catAK K) (pe_tup (pa_cons pe_str pa_nil)) (pv 1)) (pa_cons (pv 2) pa_nil))))))), ?_⟩
  walk_at "r"
  refine new_tup (by simp) fun t H1 n1 e1 f1 => ?_
  walk_at "r"
  refine a_catA (SqT.of f1) (ex_st ha e1) (by rw [tv_len]; simp; omega) fun c H2 e2 f2 => ?_
  walk_at "r"
  refine new_tup (by simp) fun p H3 n3 e3 f3 => ?_
  exact q _ H3 ((e1.trans e2).trans e3) (.tup (SqT.of f3) (.cons (.str _) (.cons (.str _) (.cons (dp_ru (xs := .rw :: U) (ex_st f2 e3)) (.cons (dp_ex ((e1.trans e2).trans e3) hv) .nil)))))
def pBreach (K : PySem.W.Frag) : Sp := fun vs H Q _ => ∃ (c : Bool) (a : Addr) (y : R) (T : List R) (j : Nat), vs = [.str (ltr c), .ref a, .str (nmn j)] ∧ SqT K H a (tv (y :: T)) ∧ T.length ≤ 5 ∧ ∀ u H1, Ex H H1 → Dp K H1 u (stD (bEnd c (y :: T) j)) → Q u H1
theorem ok_breach (T : Tx K mg) : FnOk P w K mg base CX0 2 T.a_breach T.e_breach p_breach (pBreach K) := by
  refine T.d_breach.F.ok sc_breach (fun vs H Q E h => ?_) (fun cdv A outer s H vs Q E hr h => ?_)
  · obtain ⟨c, a, y, U, j, rfl, _⟩ := h
    rfl
  obtain ⟨c, a, y, U, j, rfl, ha, hz, q⟩ := h
  refine ⟨_, (pss_cons (ps_if (pt_cmpR op_eq (pv 0) pe_str (nomark _)) (pss_one (ps_ret (pe_call (ok_holding T) (hr.mono (by omega)) (by rfl) T.d_holding.m T.d_holding.F.kp T.d_holding.b .nil pass0 (pa_cons pe_str (pa_cons (pe_slice (slA K) (pv 1) (po_some pe_int) po_none) (pa_cons (pe_tup (pa_cons pe_str (pa_cons (pe_tup (pa_cons (pv 2) (pa_cons pe_int pa_nil))) pa_nil))) pa_nil)))))) pss_nil)
    (pss_one (ps_ret (pe_tup (pa_cons pe_str (pa_cons (pe_tup (pa_cons (pv 2) (pa_cons pe_int pa_nil))) (pa_cons (pe_call (ok_first_source T) (hr.mono (by omega)) (by rfl) T.d_first_source.m T.d_first_source.F.kp T.d_first_source.b .nil pass0 (pa_cons (pe_slice (slA K) (pv 1) (po_some pe_int) po_none) pa_nil)) pa_nil))))))), ?_⟩
  walk_at "r"
  cases c with
  | true =>
    refine ite2 (fun y => ?_) (fun y => absurd (show decide ((ltr true) = "r") = true from by decide) y)
    walk_at "r"
    refine a_slT1 ha fun d H1 n1 e1 f1 => ?_
    walk_at "r"
    refine new_tup (by simp) fun t H2 n2 e2 f2 => ?_
    walk_at "r"
    refine new_tup (by simp) fun t2 H3 n3 e3 f3 => ?_
    walk_at "r"
    refine ⟨_, d, .ref t2, U, .val (nmn j) 1, rfl, SqT.of ((e2.trans e3) _ _ f1), by omega, .tup (SqT.of f3) (.cons (.str _) (.cons (.tup (SqT.of (e3 _ _ f2)) (.cons (.str _) (.cons (.int _) .nil))) .nil)), fun u H4 e4 du => ?_⟩
    walk_at "r"
    exact q u H4 (((e1.trans e2).trans e3).trans e4) du
  | false =>
    refine ite2 (fun y => absurd (show decide ((ltr false) = "r") = true from y) (by decide)) (fun y => ?_)
    walk_at "r"
    refine new_tup (by simp) fun t H1 n1 e1 f1 => ?_
    walk_at "r"
    refine a_slT1 (ex_st ha e1) fun d H2 n2 e2 f2 => ?_
    walk_at "r"
    refine ⟨d, U, rfl, SqT.of f2, fun v H3 e3 dv => ?_⟩
    walk_at "r"
    refine new_tup (by simp) fun p H4 n4 e4 f4 => ?_
    refine q _ H4 (((e1.trans e2).trans e3).trans e4) (.tup (SqT.of f4) (.cons (.str _) (.cons (.tup (SqT.of (((e2.trans e3).trans e4) _ _ f1)) (.cons (.str _) (.cons (.int _) .nil))) (.cons (dp_ex e4 dv) .nil))))
/-! ### the pairs along the letters -/
def pairsOf (p0 : PR) (r : List (Bool × PR)) : List PR := p0 :: r.reverse.map Prod.snd
structure PrL (K : PySem.W.Frag) (H : Hp) (xs : List V) (ps : List PR) : Prop where
  len : xs.length = ps.length
  get : ∀ (i : Nat) (p : PR), ps[i]? = some p → ∃ a c d : Addr, xs[i]? = some (.ref a) ∧ H a = some (.tup [.ref c, .ref d]) ∧ SqT K H c (tv p.1) ∧ SqT K H d (tv p.2)
theorem PrL.up {H H1 : Hp} {xs : List V} {ps : List PR} (h : PrL K H xs ps) (e : Ex H H1) : PrL K H1 xs ps := ⟨h.len, fun i p hp => by
  obtain ⟨a, c, d, h1, h2, h3, h4⟩ := h.get i p hp
  exact ⟨a, c, d, h1, e _ _ h2, ex_st h3 e, ex_st h4 e⟩⟩
theorem PrL.snoc {H : Hp} {xs : List V} {ps : List PR} {p : PR} {a c d : Addr} (h : PrL K H xs ps) (h2 : H a = some (.tup [.ref c, .ref d])) (h3 : SqT K H c (tv p.1)) (h4 : SqT K H d (tv p.2)) : PrL K H (xs ++ [.ref a]) (ps ++ [p]) := ⟨by simp [h.len], fun i q hq => by
  by_cases z : i < ps.length
  · rw [List.getElem?_append_left z] at hq
    obtain ⟨a, c, d, g1, g2⟩ := h.get i q hq
    exact ⟨a, c, d, by rw [List.getElem?_append_left (by rw [h.len]; exact z)]; exact g1, g2⟩
  · have hi := at_lt hq
    rw [List.length_append, List.length_singleton] at hi
    have e : i = ps.length := by omega
    subst e
    rw [List.getElem?_append_right (Nat.le_refl _), Nat.sub_self] at hq
    cases hq
    exact ⟨a, c, d, by rw [← h.len, List.getElem?_append_right (Nat.le_refl _), Nat.sub_self]; rfl, h2, h3, h4⟩⟩
theorem pairs_last (p0 : PR) (r : List (Bool × PR)) : (pairsOf p0 r)[r.length]? = some (topP p0 r) ∧ (pairsOf p0 r).length = r.length + 1 := by
  cases r with
  | nil => exact ⟨rfl, rfl⟩
  | cons tp r =>
    unfold pairsOf
    rw [List.reverse_cons, List.map_append]
    refine ⟨?_, by simp⟩
    rw [← List.cons_append, List.getElem?_append_right (by simp)]
    simp [topP]
theorem rp_snoc (p0 : PR) (t : Bool) : ∀ (ls : List Bool) (acc : List (Bool × PR)), rp p0 acc (ls ++ [t]) = (t, bh t (topP p0 (rp p0 acc ls))) :: rp p0 acc ls
  | [], acc => rfl
  | l :: ls, acc => rp_snoc p0 t ls _
theorem rp_app (p0 : PR) : ∀ (a b : List Bool) (acc : List (Bool × PR)), rp p0 acc (a ++ b) = rp p0 (rp p0 acc a) b
  | [], b, acc => rfl
  | l :: a, b, acc => rp_app p0 a b _
theorem vp_pre {p0 : PR} : ∀ {b : List Bool} {acc : List (Bool × PR)}, VP p0 (rp p0 acc b) → VP p0 acc
  | [], acc, h => h
  | t :: b, acc, h => (vp_pre (b := b) h).1
theorem rp_len (p0 : PR) : ∀ (ls : List Bool) (acc : List (Bool × PR)), (rp p0 acc ls).length = acc.length + ls.length
  | [], acc => rfl
  | l :: ls, acc => by
    have := rp_len p0 ls ((l, bh l (topP p0 acc)) :: acc)
    show (rp p0 ((l, bh l (topP p0 acc)) :: acc) ls).length = _
    rw [this]
    simp only [List.length_cons]
    omega
theorem atI_m {α : Type} {xs : List α} {v : α} {n j : Nat} (l : j ≤ xs.length) (j1 : 1 ≤ j) (h : xs[xs.length - j]? = some v) : atI xs (-(j : Int)) = some v := by
  unfold atI ixN
  rw [if_neg (by omega), if_pos (by omega)]
  show xs[(-(j : Int) + (xs.length : Int)).toNat]? = some v
  rw [show (-(j : Int) + (xs.length : Int)).toNat = xs.length - j by omega]
  exact h
theorem st_inB {S : List Addr} {H1 : Hp} {q : Addr} {xs : List V} (hl : ∀ a ∈ S, ∃ vs, H1 a = some (.lst vs)) (f : SqT K H1 q xs) : SqT K (dl S H1) q xs := by
  have nq : ∀ o, H1 q = some o → (∀ vs, o ≠ .lst vs) → q ∉ S := fun o h n z => by
    obtain ⟨vs, e⟩ := hl q z
    rw [h] at e
    exact n vs (Option.some.inj e)
  rcases f with (f | ⟨o, f⟩) | f
  · exact .inl (.inl (by rw [dl_nin (nq _ f (fun _ z => by cases z))]; exact f))
  · exact .inl (.inr ⟨o, by rw [dl_nin (nq _ f (fun _ z => by cases z))]; exact f⟩)
  · exact .inr f
def pPal (K : PySem.W.Frag) : Sp := fun vs H Q _ => ∃ (a b l : Addr) (p0 : PR) (ls : List Bool), vs = [.ref a, .ref b, .ref l] ∧ SqT K H a (tv p0.1) ∧ SqT K H b (tv p0.2) ∧ SqL K H l (lv ls) ∧ VP p0 (rp p0 [] ls) ∧ ls.length ≤ 100 ∧ ∀ z xs H1, Ex H H1 → H1 z = some (.lst xs) → PrL K H1 xs (pairsOf p0 (rp p0 [] ls)) → Q (.ref z) H1
theorem ok_pairs_along (T : Tx K mg) : FnOk P w K mg base CX0 2 T.a_pairs_along T.e_pairs_along p_pairs_along (pPal K) := by
  refine T.d_pairs_along.F.ok sc_pairs_along (fun vs H Q E h => ?_) (fun cdv A outer s H vs Q E hr h => ?_)
  · obtain ⟨a, b, l, p0, ls, rfl, _⟩ := h
    rfl
  obtain ⟨a, b, l, p0, ls, rfl, ha, hb, hL, v, hz, q⟩ := h
  refine ⟨_, (pss_cons (ps_set (i := 3) sc_pairs_along.nd rfl (.inl rfl) (pe_lst (pa_cons (pe_tup (pa_cons (pv 0) (pa_cons (pv 1) pa_nil))) pa_nil)))
    (pss_cons (ps_for PassesOwn.never rfl (plK K (pv 2)) (pg_name (i := 4) sc_pairs_along.nd rfl (.inl rfl)) (pss_cons (ps_asg (pe_ix (ixL K) (pv 3) (pe_un un_neg pe_int) (fun _ _ => rfl)) (pg_tup (by rfl) (pgs_cons (pg_name (i := 5) sc_pairs_along.nd rfl (.inl rfl)) (pgs_cons (pg_name (i := 6) sc_pairs_along.nd rfl (.inl rfl)) pgs_nil))))
    (pss_one (ps_expr (pe_bm PySem.F.plainAttrs_list PySem.F.slot_list_append PySem.F.type_list_append mt_append (pv 3) (pa_cons (pe_call (ok_behind T) (hr.mono (by omega)) (by rfl) T.d_behind.m T.d_behind.F.kp T.d_behind.b .nil pass0 (pa_cons (pv 5) (pa_cons (pv 6) (pa_cons (pv 4) pa_nil)))) pa_nil))))))
    (pss_one (ps_ret (pv 3))))), ?_⟩
  walk_at "r"
  refine new_tup (by simp) fun t H1 n1 e1 f1 => ?_
  walk_at "r"
  refine new_lst (by simp) fun z H2 n2 e2 f2 => ?_
  walk_at "r"
  have e12 := e1.trans e2
  refine r_L (ex_sl hL e12) ?_
  have E1 : Ex H1 (dl [z] H2) := ex_one n2 e2
  refine lp_list (xs := lv ls) (fun k σ h => (∃ x4 x5 x6, σ = [some (.ref a), some (.ref b), some (.ref l), some (.ref z), x4, x5, x6]) ∧ Ex H h ∧ ∃ xs, h z = some (.lst xs) ∧ PrL K (dl [z] h) xs (pairsOf p0 (rp p0 [] (ls.take k))))
    ⟨⟨_, _, _, rfl⟩, e12, _, f2, PrL.up ⟨rfl, fun i p hp => by
      cases i with
      | zero =>
        cases hp
        exact ⟨t, a, b, rfl, f1, ex_st ha e1, ex_st hb e1⟩
      | succ i => cases hp⟩ E1⟩ (fun k σ h _ g => ex_sl hL g.2.1) ?_ ?_
  · rintro k x σ h hx ⟨⟨x4, x5, x6, rfl⟩, e, xs, fz, PL⟩
    obtain ⟨c, hc, rfl⟩ := lv_get hx
    have hk := at_lt hc
    obtain ⟨pl, pn⟩ := pairs_last p0 (rp p0 [] (ls.take k))
    have rl : (rp p0 [] (ls.take k)).length = k := by rw [rp_len, List.length_take]; simp; omega
    rw [rl] at pl pn
    obtain ⟨u, c1, d1, g1, g2, g3, g4⟩ := PL.get k _ pl
    have tk : ls.take (k + 1) = ls.take k ++ [c] := take_snoc hc
    have vk : VP p0 (rp p0 [] (ls.take (k + 1))) := by
      have := v
      rw [← List.take_append_drop (k + 1) ls, rp_app] at this
      exact vp_pre this
    rw [tk, rp_snoc] at vk
    have len := vp_len vk.1
    have zc : z ≠ u := fun y => by rw [y, dl_in (by simp)] at g2; cases g2
    have D0 := dl_le [z] h
    have lx := PL.len
    rw [pn] at lx
    walk_at "r"
    refine a_ixL (v := .ref u) (SqL.of fz) (atI_m (n := k) (j := 1) (by omega) (by omega) (by rw [lx, Nat.add_sub_cancel]; exact g1)) ?_
    refine w_gtup (xs := [.ref c1, .ref d1]) (SqT.of (D0 _ _ g2)) rfl ?_
    walk_at "r"
    refine ⟨a_ty fz, ?_⟩
    walk_at "r"
    have s3 := ex_st g3 D0
    have s4 := ex_st g4 D0
    have ne : (hdR (topP p0 (rp p0 [] (ls.take k))).2).has c = true := vk.2.2
    obtain ⟨x0, xr, ex⟩ : ∃ x0 xr, (topP p0 (rp p0 [] (ls.take k))).1 = x0 :: xr := by
      cases y : (topP p0 (rp p0 [] (ls.take k))).1 with
      | nil => rw [y] at len; have := has_ne ne; have := len.1; simp at this; omega
      | cons x0 xr => exact ⟨_, _, rfl⟩
    obtain ⟨y0, yr, ey⟩ : ∃ y0 yr, (topP p0 (rp p0 [] (ls.take k))).2 = y0 :: yr := by
      cases y : (topP p0 (rp p0 [] (ls.take k))).2 with
      | nil => rw [y] at ne; cases c <;> cases ne
      | cons y0 yr => exact ⟨_, _, rfl⟩
    rw [ex] at s3
    rw [ey] at s4
    refine ⟨c1, d1, .str x0.s, .str y0.s, tv xr, tv yr, c, rfl, s3, s4, fun p c2 d2 H3 e3 f3 g5 g6 => ?_⟩
    walk_at "r"
    refine a_app (e3 _ _ fz) (by omega) ?_
    have fz3 := e3 _ _ fz
    have pz : p ≠ z := fun y => by rw [y, fz3] at f3; cases f3
    have lz : ∀ a ∈ [z], ∃ vs, H3 a = some (.lst vs) := fun a ha => by
      rw [List.mem_singleton.mp ha]
      exact ⟨_, fz3⟩
    refine ⟨⟨_, _, _, rfl⟩, (e.trans e3).mut (ex_none e1 n2), xs ++ [.ref p], upd_same, ?_⟩
    rw [dl_upd (by simp), tk, rp_snoc]
    have e5 : pairsOf p0 ((c, bh c (topP p0 (rp p0 [] (ls.take k)))) :: rp p0 [] (ls.take k)) = pairsOf p0 (rp p0 [] (ls.take k)) ++ [bh c (topP p0 (rp p0 [] (ls.take k)))] := by
      unfold pairsOf
      rw [List.reverse_cons, List.map_append]
      rfl
    rw [e5]
    have b1 : (bh c (topP p0 (rp p0 [] (ls.take k)))).1 = if c then xr else yr := by
      unfold bh
      cases c
      · rw [if_neg (by simp), ey]; rfl
      · rw [if_pos rfl, ex]; rfl
    have b2 : (bh c (topP p0 (rp p0 [] (ls.take k)))).2 = if c then yr else xr := by
      unfold bh
      cases c
      · rw [if_neg (by simp), ex]; rfl
      · rw [if_pos rfl, ey]; rfl
    refine (PL.up (dl_ex e3)).snoc (dl_at (by simpa using pz) f3) (st_inB lz ?_) (st_inB lz ?_)
    · rw [b1]
      cases c
      · exact g5
      · exact g5
    · rw [b2]
      cases c
      · exact g6
      · exact g6
  · rintro σ h ⟨⟨x4, x5, x6, rfl⟩, e, xs, fz, PL⟩
    have ll : (lv ls).length = ls.length := by unfold lv; rw [List.length_map]
    rw [ll, List.take_length] at PL
    walk_at "r"
    exact q z xs h e fz (PL.up (dl_le [z] h))
/-! ### converting, level by level -/
def lettersOf (r : List (Bool × PR)) : List Bool := r.reverse.map Prod.fst
def sgn (k : Nat) : Str := ⟨#[("abcdefghijklmnopqrstuvwxyz" : Str).cps.toList.getD k 0]⟩
theorem sgn_at {k : Nat} (h : k ≤ 4) : atI ("abcdefghijklmnopqrstuvwxyz" : Str).cps.toList (k : Int) = some (("abcdefghijklmnopqrstuvwxyz" : Str).cps.toList.getD k 0) := by
  match k, h with
  | 0, _ => rfl
  | 1, _ => rfl
  | 2, _ => rfl
  | 3, _ => rfl
  | 4, _ => rfl
theorem nm_to {k : Nat} (h : k ≤ 4) : (("to" : Str) ++ sgn k) = nmn (3 * k) ∧ (("cell" : Str) ++ sgn k) = nmn (3 * k + 1) ∧ (("lent" : Str) ++ sgn k) = nmn (3 * k + 2) := by
  match k, h with
  | 0, _ => decide +kernel
  | 1, _ => decide +kernel
  | 2, _ => decide +kernel
  | 3, _ => decide +kernel
  | 4, _ => decide +kernel
theorem letters_len (r : List (Bool × PR)) : (lettersOf r).length = r.length := by
  unfold lettersOf
  rw [List.length_map, List.length_reverse]
theorem letters_last (t : Bool) (p : PR) (r : List (Bool × PR)) : lettersOf ((t, p) :: r) = lettersOf r ++ [t] := by
  unfold lettersOf
  rw [List.reverse_cons, List.map_append]
  rfl
theorem pairs_snoc (p0 : PR) (t : Bool) (p : PR) (r : List (Bool × PR)) : pairsOf p0 ((t, p) :: r) = pairsOf p0 r ++ [p] := by
  unfold pairsOf
  rw [List.reverse_cons, List.map_append]
  rfl
theorem sg_all {k : Nat} (h : k ≤ 4) : ∃ sg : Nat, atI ("abcdefghijklmnopqrstuvwxyz" : Str).cps.toList (k : Int) = some sg ∧ (("to" : Str) ++ (⟨#[sg]⟩ : Str)) = nmn (3 * k) ∧ (("cell" : Str) ++ (⟨#[sg]⟩ : Str)) = nmn (3 * k + 1) ∧ (("lent" : Str) ++ (⟨#[sg]⟩ : Str)) = nmn (3 * k + 2) :=
  ⟨_, sgn_at h, nm_to h⟩
theorem a_slLb {H : Hp} {Q : VK} {a : Addr} {xs : List V} {lo hi : Option Int} (h : SqL K H a xs) (k : ∀ q H1, H q = none → Ex H H1 → H1 q = some (.lst (cutV xs lo hi)) → Q (.ref q) H1) : rSlL K (.ref a) lo hi H Q := ⟨a, xs, rfl, h, fun p n => k p _ n (Ex.new n) upd_same⟩
theorem cut_m1 (xs : List V) (h : 1 ≤ xs.length) : cutV xs none (some (-1)) = xs.take (xs.length - 1) := by
  unfold cutV
  rw [HT.sIx_none]
  show (xs.drop 0).take ((if (-1 : Int) < 0 then ((-1 : Int) + (xs.length : Int)).toNat else min (-1 : Int).toNat xs.length) - 0) = _
  rw [if_pos (by decide), List.drop_zero, Nat.sub_zero]
  congr 1
  omega
theorem PrL.take {H : Hp} {xs : List V} {ps : List PR} (h : PrL K H xs ps) (n : Nat) : PrL K H (xs.take n) (ps.take n) := ⟨by rw [List.length_take, List.length_take, h.len], fun i p hp => by
  rw [List.getElem?_take] at hp
  by_cases z : i < n
  · rw [if_pos z] at hp
    obtain ⟨a, c, d, g1, g2⟩ := h.get i p hp
    exact ⟨a, c, d, by rw [List.getElem?_take, if_pos z]; exact g1, g2⟩
  · rw [if_neg z] at hp
    cases hp⟩
def pConv (K : PySem.W.Frag) (n : Nat) : Sp := fun vs H Q _ => ∃ (z l : Addr) (q : Nat) (p0 : PR) (r : List (Bool × PR)) (xs : List V), vs = [.ref z, .ref l, .str (nmn q)] ∧ SqL K H z xs ∧ PrL K H xs (pairsOf p0 r) ∧ SqL K H l (lv (lettersOf r)) ∧ VP p0 r ∧ r.length ≤ 4 ∧ r.length < n ∧ p0.1.length ≤ 5 ∧
  ∀ p l1 ws H1, Ex H H1 → H1 p = some (.tup [.ref l1, .str (nmn (cvt p0 r q).2)]) → H1 l1 = some (.lst ws) → DpAll K H1 ws ((cvt p0 r q).1.map stD) → Q (.ref p) H1
theorem ok_converting (T : Tx K mg) : ∀ n : Nat, FnOk P w K mg base CX0 (n + 2) T.a_converting T.e_converting p_converting (pConv K n)
  | 0 => fn_none fun vs H Q E h => by
    obtain ⟨z, l, q, p0, r, xs, _, _, _, _, _, _, h, _⟩ := h
    omega
  | n + 1 => by
    have ih := ok_converting T n
    refine T.d_converting.F.ok sc_converting (fun vs H Q E h => ?_) (fun cdv A outer s H vs Q E hr h => ?_)
    · obtain ⟨z, l, q, p0, r, xs, rfl, _⟩ := h
      rfl
    obtain ⟨z, l, q, p0, r, xs, rfl, hz, PL, hL, v, r4, rn, l5, qq⟩ := h
    refine ⟨_, (pss_cons (ps_set (i := 3) sc_converting.nd rfl (.inl rfl) (pe_ix ix_str (pe_glob (v := .str "abcdefghijklmnopqrstuvwxyz") (by rfl) T.m_SIGNS ⟨_, rfl⟩) (pe_callB (lenK K) (by rfl) T.b_len PySem.boot_len (pa_cons (pv 1) pa_nil)) (fun _ _ => rfl)))
    (pss_cons (ps_asg (pe_ix (ixL K) (pv 0) (pe_un un_neg pe_int) (fun _ _ => rfl)) (pg_tup (by rfl) (pgs_cons (pg_name (i := 4) sc_converting.nd rfl (.inl rfl)) (pgs_cons (pg_name (i := 5) sc_converting.nd rfl (.inl rfl)) pgs_nil))))
    (pss_cons (ps_if (pt_cmpR op_eq (pe_callB (lenK K) (by rfl) T.b_len PySem.boot_len (pa_cons (pv 1) pa_nil)) pe_int (nomark _)) (pss_one (ps_ret (pe_tup (pa_cons (pe_lst (pa_cons (pe_call (ok_holding T) (hr.mono (by omega)) (by rfl) T.d_holding.m T.d_holding.F.kp T.d_holding.b .nil pass0 (pa_cons (pe_op op_add_str pe_str (pv 3)) (pa_cons (pv 5) (pa_cons (pe_tup (pa_cons pe_str (pa_cons (pe_tup (pa_cons (pv 2) (pa_cons pe_int pa_nil))) pa_nil))) pa_nil)))) pa_nil)) (pa_cons (pe_op op_add_str pe_str (pv 3)) pa_nil))))) pss_nil)
    (pss_cons (ps_set (i := 6) sc_converting.nd rfl (.inl rfl) (pe_op op_add_str pe_str (pv 3)))
    (pss_cons (ps_asg (pe_ix (ixL K) (pv 0) (pe_un un_neg pe_int) (fun _ _ => rfl)) (pg_tup (by rfl) (pgs_cons (pg_name (i := 7) sc_converting.nd rfl (.inl rfl)) (pgs_cons (pg_name (i := 8) sc_converting.nd rfl (.inl rfl)) pgs_nil))))
    (pss_cons (ps_set (i := 9) sc_converting.nd rfl (.inl rfl) (pe_lst (pa_cons (pe_call (ok_holding T) (hr.mono (by omega)) (by rfl) T.d_holding.m T.d_holding.F.kp T.d_holding.b .nil pass0 (pa_cons (pe_op op_add_str pe_str (pv 3)) (pa_cons (pv 7) (pa_cons (pe_tup (pa_cons pe_str (pa_cons (pe_tup (pa_cons (pv 6) (pa_cons pe_int pa_nil))) pa_nil))) pa_nil)))) pa_nil)))
    (pss_cons (ps_asg (pe_call ih (hr.mono (by omega)) (by rfl) T.d_converting.m T.d_converting.F.kp T.d_converting.b .nil pass0 (pa_cons (pe_slice (slL K) (pv 0) po_none (po_some (pe_un un_neg pe_int))) (pa_cons (pe_slice (slL K) (pv 1) po_none (po_some (pe_un un_neg pe_int))) (pa_cons (pe_op op_add_str pe_str (pv 3)) pa_nil)))) (pg_tup (by rfl) (pgs_cons (pg_name (i := 10) sc_converting.nd rfl (.inl rfl)) (pgs_cons (pg_name (i := 11) sc_converting.nd rfl (.inl rfl)) pgs_nil))))
    (pss_cons (ps_if (pt_cmpR op_eq (pe_ix (ixL K) (pv 1) (pe_un un_neg pe_int) (fun _ _ => rfl)) pe_str (nomark _)) (pss_cons (ps_set (i := 12) sc_converting.nd rfl (.inl rfl) (pe_lst (pa_cons (pe_call (ok_holding T) (hr.mono (by omega)) (by rfl) T.d_holding.m T.d_holding.F.kp T.d_holding.b .nil pass0 (pa_cons (pv 6) (pa_cons (pv 4) (pa_cons (pe_tup (pa_cons pe_str (pa_cons (pe_tup (pa_cons (pv 2) (pa_cons pe_int pa_nil))) pa_nil))) pa_nil)))) pa_nil)))
    (pss_one (ps_ret (pe_tup (pa_cons (pe_op op_cat (pe_op op_cat (pe_op op_cat (pv 12) (pv 9)) (pv 10)) (pe_lst (pa_cons (pe_call (ok_holding T) (hr.mono (by omega)) (by rfl) T.d_holding.m T.d_holding.F.kp T.d_holding.b .nil pass0 (pa_cons (pe_op op_add_str pe_str (pv 3)) (pa_cons (pv 5) (pa_cons (pe_tup (pa_cons pe_str (pa_cons (pe_tup (pa_cons (pv 11) (pa_cons pe_int pa_nil))) pa_nil))) pa_nil)))) pa_nil))) (pa_cons (pe_op op_add_str pe_str (pv 3)) pa_nil)))))) pss_nil)
    (pss_cons (ps_set (i := 12) sc_converting.nd rfl (.inl rfl) (pe_lst (pa_cons (pe_call (ok_holding T) (hr.mono (by omega)) (by rfl) T.d_holding.m T.d_holding.F.kp T.d_holding.b .nil pass0 (pa_cons (pv 6) (pa_cons (pv 5) (pa_cons (pe_call (ok_first_source T) (hr.mono (by omega)) (by rfl) T.d_first_source.m T.d_first_source.F.kp T.d_first_source.b .nil pass0 (pa_cons (pv 5) pa_nil)) pa_nil)))) pa_nil)))
    (pss_one (ps_ret (pe_tup (pa_cons (pe_op op_cat (pe_op op_cat (pe_op op_cat (pv 12) (pv 9)) (pv 10)) (pe_lst (pa_cons (pe_tup (pa_cons pe_str (pa_cons (pe_tup (pa_cons (pv 11) (pa_cons pe_int pa_nil))) (pa_cons (pe_tup (pa_cons pe_str (pa_cons (pe_tup (pa_cons (pv 2) (pa_cons pe_int pa_nil))) pa_nil))) pa_nil)))) pa_nil))) (pa_cons (pv 6) pa_nil)))))))))))))), ?_⟩
    have len := vp_len v
    obtain ⟨pl, pn⟩ := pairs_last p0 r
    obtain ⟨u, c1, d1, g1, g2, g3, g4⟩ := PL.get _ _ pl
    have lx := PL.len
    rw [pn] at lx
    have ll : (lv (lettersOf r)).length = r.length := by unfold lv; rw [List.length_map, letters_len]
    obtain ⟨sg, hsg, nt, nc, nl⟩ := sg_all r4
    walk_at "r"
    refine a_lenL hL ?_
    rw [ll]
    refine ⟨_, _, _, rfl, rfl, sz_of (by decide), hsg, ?_⟩
    walk_at "r"
    refine a_ixL (v := .ref u) hz (atI_m (n := 0) (j := 1) (by omega) (by omega) (by rw [lx, Nat.add_sub_cancel]; exact g1)) ?_
    refine w_gtup (xs := [.ref c1, .ref d1]) (SqT.of g2) rfl ?_
    walk_at "r"
    refine a_lenL hL ?_
    rw [ll]
    walk_at "r"
    cases r with
    | nil =>
      refine ite2 (fun y => ?_) (fun y => absurd (show decide (((([] : List (Bool × PR)).length : Nat) : Int) = 0) = true from rfl) y)
      have nt0 : ("to" : Str) ++ (⟨#[sg]⟩ : Str) = nmn 0 := nt
      have pl0 : topP p0 [] = p0 := rfl
      rw [pl0] at g3 g4
      walk_at "r"
      refine ⟨_, _, rfl, rfl, sz_of (by show 2 + 1 ≤ 100000; decide), ?_⟩
      rw [nt0]
      walk_at "r"
      refine new_tup (by simp) fun t1 H1 n1 e1 f1 => ?_
      walk_at "r"
      refine new_tup (by simp) fun t2 H2 n2 e2 f2 => ?_
      walk_at "r"
      have e12 := e1.trans e2
      refine ⟨nmn 0, d1, .ref t2, p0.2, .val (nmn q) 0, rfl, ex_st g4 e12, by have v : p0.1.length = p0.2.length := v; omega, .tup (SqT.of f2) (.cons (.str _) (.cons (.tup (SqT.of (e2 _ _ f1)) (.cons (.str _) (.cons (.int _) .nil))) .nil)), fun uu H3 e3 du => ?_⟩
      walk_at "r"
      refine new_lst (by simp) fun l1 H4 n4 e4 f4 => ?_
      walk_at "r"
      refine ⟨_, _, rfl, rfl, sz_of (by show 2 + 1 ≤ 100000; decide), ?_⟩
      rw [nt0]
      walk_at "r"
      refine new_tup (by simp) fun pp H5 n5 e5 f5 => ?_
      exact qq pp l1 _ H5 ((((e12.trans e3).trans e4)).trans e5) f5 (e5 _ _ f4) (.cons (dp_ex (e4.trans e5) du) .nil)
    | cons tp r =>
      obtain ⟨t, p⟩ := tp
      refine ite2 (fun y => absurd (of_decide_eq_true y) (by simp only [List.length_cons]; omega)) (fun y => ?_)
      have nt1 : ("to" : Str) ++ (⟨#[sg]⟩ : Str) = nmn (3 * r.length + 3) := nt
      have nc1 : ("cell" : Str) ++ (⟨#[sg]⟩ : Str) = nmn (3 * r.length + 4) := nc
      have nl1 : ("lent" : Str) ++ (⟨#[sg]⟩ : Str) = nmn (3 * r.length + 5) := nl
      have hv1 := vp_len v.1
      have r4' : r.length + 1 ≤ 4 := r4
      have lp : p.1.length = p.2.length ∧ p.1.length + (r.length + 1) = p0.1.length := len
      obtain ⟨pl2, pn2⟩ := pairs_last p0 r
      have pl3 : (pairsOf p0 ((t, p) :: r))[r.length]? = some (topP p0 r) := by
        rw [pairs_snoc, List.getElem?_append_left (by omega)]
        exact pl2
      obtain ⟨u2, c2, d2, k1, k2, k3, k4⟩ := PL.get _ _ pl3
      have lx2 : xs.length = r.length + 2 := lx
      walk_at "r"
      refine ⟨_, _, rfl, rfl, sz_of (by show 4 + 1 ≤ 100000; decide), ?_⟩
      rw [nc1]
      walk_at "r"
      refine a_ixL (v := .ref u2) hz (atI_m (n := 0) (j := 2) (by omega) (by omega) (by rw [lx2, Nat.add_sub_cancel]; exact k1)) ?_
      refine w_gtup (xs := [.ref c2, .ref d2]) (SqT.of k2) rfl ?_
      walk_at "r"
      refine ⟨_, _, rfl, rfl, sz_of (by show 4 + 1 ≤ 100000; decide), ?_⟩
      rw [nl1]
      walk_at "r"
      refine new_tup (by simp) fun t1 H1 n1 e1 f1 => ?_
      walk_at "r"
      refine new_tup (by simp) fun t2 H2 n2 e2 f2 => ?_
      walk_at "r"
      have e12 := e1.trans e2
      refine ⟨nmn (3 * r.length + 5), c2, .ref t2, (topP p0 r).1, .adr (nmn (3 * r.length + 4)) 0, rfl, ex_st k3 e12, by omega, .tup (SqT.of f2) (.cons (.str _) (.cons (.tup (SqT.of (e2 _ _ f1)) (.cons (.str _) (.cons (.int _) .nil))) .nil)), fun u3 H3 e3 du3 => ?_⟩
      walk_at "r"
      refine new_lst (by simp) fun sh H4 n4 e4 f4 => ?_
      walk_at "r"
      have e14 := (e12.trans e3).trans e4
      refine a_slLb (ex_sl hz e14) fun z5 H5 n5 e5 f5 => ?_
      rw [cut_m1 xs (by omega)] at f5
      walk_at "r"
      have ll2 : (lv (lettersOf ((t, p) :: r))).length = r.length + 1 := ll
      refine a_slLb (ex_sl hL (e14.trans e5)) fun z6 H6 n6 e6 f6 => ?_
      rw [cut_m1 _ (by omega), ll2, Nat.add_sub_cancel] at f6
      walk_at "r"
      refine ⟨_, _, rfl, rfl, sz_of (by show 4 + 1 ≤ 100000; decide), ?_⟩
      rw [nl1]
      walk_at "r"
      have e16 := (e14.trans e5).trans e6
      have P6 : PrL K H6 (xs.take (xs.length - 1)) (pairsOf p0 r) := by
        have := (PL.up e16).take (xs.length - 1)
        rw [pairs_snoc, lx2, show r.length + 2 - 1 = (pairsOf p0 r).length by rw [pn2]; omega, List.take_left] at this
        rw [lx2, show r.length + 2 - 1 = (pairsOf p0 r).length by rw [pn2]; omega]
        exact this
      have L6 : lv ((lettersOf ((t, p) :: r))) = lv (lettersOf r) ++ [.str (ltr t)] := by
        rw [letters_last]
        unfold lv
        rw [List.map_append]
        rfl
      have lr : (lv (lettersOf r)).length = r.length := by unfold lv; rw [List.length_map, letters_len]
      have f6' : H6 z6 = some (.lst (lv (lettersOf r))) := by
        rw [L6, show r.length = (lv (lettersOf r)).length from lr.symm, List.take_left] at f6
        exact f6
      refine ⟨z5, z6, 3 * r.length + 5, p0, r, _, rfl, SqL.of (e6 _ _ f5), P6, SqL.of f6', v.1, by omega, (show r.length < n by have : r.length + 1 < n + 1 := rn; omega), l5, fun pp l1 ws H7 e7 f7 g7 D7 => ?_⟩
      refine w_gtup (xs := [.ref l1, .str (nmn (cvt p0 r (3 * r.length + 5)).2)]) (SqT.of f7) rfl ?_
      have e17 := e16.trans e7
      walk_at "r"
      refine a_ixL (v := .str (ltr t)) (ex_sl hL e17) (atI_m (n := 0) (j := 1) (by omega) (by omega) (by rw [ll2, Nat.add_sub_cancel, L6, List.getElem?_append_right (by omega), lr, Nat.sub_self]; rfl)) ?_
      walk_at "r"
      have du3' := dp_ex (((e4.trans e5).trans e6).trans e7) du3
      have f4' := ((e5.trans e6).trans e7) _ _ f4
      cases t with
      | true =>
        refine ite2 (fun y => ?_) (fun y => absurd (show decide ((ltr true) = "r") = true from by decide) y)
        walk_at "r"
        refine new_tup (by simp) fun t3 H8 n8 e8 f8 => ?_
        walk_at "r"
        refine new_tup (by simp) fun t4 H9 n9 e9 f9 => ?_
        walk_at "r"
        have e79 := e8.trans e9
        refine ⟨nmn (3 * r.length + 4), c1, .ref t4, p.1, .val (nmn q) 0, rfl, ex_st g3 (e17.trans e79), by omega, .tup (SqT.of f9) (.cons (.str _) (.cons (.tup (SqT.of (e9 _ _ f8)) (.cons (.str _) (.cons (.int _) .nil))) .nil)), fun u9 H10 e10 du9 => ?_⟩
        walk_at "r"
        refine new_lst (by simp) fun mk H11 n11 e11 f11 => ?_
        walk_at "r"
        have e711 := (e79.trans e10).trans e11
        refine a_cat f11 (e711 _ _ f4') (by simp) fun x1 H12 n12 e12' f12 => ?_
        walk_at "r"
        refine a_cat f12 ((e711.trans e12') _ _ g7) ?_ fun x2 H13 n13 e13 f13 => ?_
        · have := dpa_len D7
          rw [List.length_map, cvt_len] at this
          simp only [List.length_append, List.length_cons, List.length_nil]
          omega
        walk_at "r"
        refine ⟨_, _, rfl, rfl, sz_of (by show 2 + 1 ≤ 100000; decide), ?_⟩
        rw [nt1]
        walk_at "r"
        refine new_tup (by simp) fun t5 H14 n14 e14' f14 => ?_
        walk_at "r"
        refine new_tup (by simp) fun t6 H15 n15 e15 f15 => ?_
        walk_at "r"
        have e715 := (((e711.trans e12').trans e13).trans e14').trans e15
        refine ⟨nmn (3 * r.length + 3), d1, .ref t6, p.2, .val (nmn (cvt p0 r (3 * r.length + 5)).2) 1, rfl, ex_st g4 (e17.trans e715), by omega, .tup (SqT.of f15) (.cons (.str _) (.cons (.tup (SqT.of (e15 _ _ f14)) (.cons (.str _) (.cons (.int _) .nil))) .nil)), fun u10 H16 e16' du10 => ?_⟩
        walk_at "r"
        refine new_lst (by simp) fun l2 H17 n17 e17' f17 => ?_
        walk_at "r"
        refine a_cat ((((e14'.trans e15).trans e16').trans e17') _ _ f13) f17 ?_ fun x3 H18 n18 e18 f18 => ?_
        · have := dpa_len D7
          rw [List.length_map, cvt_len] at this
          simp only [List.length_append, List.length_cons, List.length_nil]
          omega
        walk_at "r"
        refine ⟨_, _, rfl, rfl, sz_of (by show 2 + 1 ≤ 100000; decide), ?_⟩
        rw [nt1]
        walk_at "r"
        refine new_tup (by simp) fun p9 H19 n19 e19 f19 => ?_
        have e719 := (((e715.trans e16').trans e17').trans e18).trans e19
        refine qq p9 x3 _ H19 (e17.trans e719) f19 (e19 _ _ f18) ?_
        show DpAll K H19 _ ((_ :: _ :: ((cvt p0 r (3 * r.length + 5)).1 ++ [_])).map stD)
        rw [List.map_cons, List.map_cons, List.map_append]
        show DpAll K H19 (u9 :: u3 :: (ws ++ [u10])) _
        exact .cons (dp_ex ((((((((e11.trans e12').trans e13).trans e14').trans e15).trans e16').trans e17').trans e18).trans e19) du9) (.cons (dp_ex e719 du3') (dpa_app (dpa_ex e719 D7) (.cons (dp_ex ((e17'.trans e18).trans e19) du10) .nil)))
      | false =>
        refine ite2 (fun y => absurd (show decide ((ltr false) = "r") = true from y) (by decide)) (fun y => ?_)
        walk_at "r"
        refine ⟨d1, p.2, rfl, ex_st g4 e17, fun v8 H8 e8 dv8 => ?_⟩
        walk_at "r"
        refine ⟨nmn (3 * r.length + 4), d1, v8, p.2, fsrc p.2, rfl, ex_st g4 (e17.trans e8), by omega, dv8, fun u9 H10 e10 du9 => ?_⟩
        walk_at "r"
        refine new_lst (by simp) fun mk H11 n11 e11 f11 => ?_
        walk_at "r"
        have e711 := (e8.trans e10).trans e11
        refine a_cat f11 (e711 _ _ f4') (by simp) fun x1 H12 n12 e12' f12 => ?_
        walk_at "r"
        refine a_cat f12 ((e711.trans e12') _ _ g7) ?_ fun x2 H13 n13 e13 f13 => ?_
        · have := dpa_len D7
          rw [List.length_map, cvt_len] at this
          simp only [List.length_append, List.length_cons, List.length_nil]
          omega
        walk_at "r"
        refine new_tup (by simp) fun t3 H14 n14 e14' f14 => ?_
        walk_at "r"
        refine new_tup (by simp) fun t4 H15 n15 e15 f15 => ?_
        walk_at "r"
        refine new_tup (by simp) fun t5 H16 n16 e16' f16 => ?_
        walk_at "r"
        refine new_tup (by simp) fun t6 H17 n17 e17' f17 => ?_
        walk_at "r"
        refine new_lst (by simp) fun l2 H18 n18 e18 f18 => ?_
        walk_at "r"
        have e1318 := (((e14'.trans e15).trans e16').trans e17').trans e18
        refine a_cat (e1318 _ _ f13) f18 ?_ fun x3 H19 n19 e19 f19 => ?_
        · have := dpa_len D7
          rw [List.length_map, cvt_len] at this
          simp only [List.length_append, List.length_cons, List.length_nil]
          omega
        walk_at "r"
        refine new_tup (by simp) fun p9 H20 n20 e20 f20 => ?_
        have e720 := ((((e711.trans e12').trans e13).trans e1318).trans e19).trans e20
        refine qq p9 x3 _ H20 (e17.trans e720) f20 (e20 _ _ f19) ?_
        show DpAll K H20 (u9 :: u3 :: (ws ++ [.ref t6])) ((_ :: _ :: ((cvt p0 r (3 * r.length + 5)).1 ++ [_])).map stD)
        rw [List.map_cons, List.map_cons, List.map_append]
        have e1720 := (e18.trans e19).trans e20
        have e1620 := e17'.trans e1720
        exact .cons (dp_ex (((((e11.trans e12').trans e13).trans e1318).trans e19).trans e20) du9) (.cons (dp_ex e720 du3') (dpa_app (dpa_ex e720 D7)
          (.cons (.tup (SqT.of (e1720 _ _ f17)) (.cons (.str _) (.cons (.tup (SqT.of ((e15.trans (e16'.trans e1620)) _ _ f14)) (.cons (.str _) (.cons (.int _) .nil))) (.cons (.tup (SqT.of (e1620 _ _ f16)) (.cons (.str _) (.cons (.tup (SqT.of ((e16'.trans e1620) _ _ f15)) (.cons (.str _) (.cons (.int _) .nil))) .nil))) .nil)))) .nil)))
theorem letters_rpA (p0 : PR) : ∀ (ls : List Bool) (acc : List (Bool × PR)), lettersOf (rp p0 acc ls) = lettersOf acc ++ ls
  | [], acc => by rw [List.append_nil]; rfl
  | l :: ls, acc => by
    show lettersOf (rp p0 ((l, bh l (topP p0 acc)) :: acc) ls) = _
    rw [letters_rpA p0 ls, letters_last, List.append_assoc]
    rfl
theorem letters_rp (p0 : PR) (ls : List Bool) : lettersOf (rp p0 [] ls) = ls := letters_rpA p0 ls []

end
section
variable {P : Program} {w : World} {K : PySem.W.Frag} {mg : Str → Option Value} {base : Heap}
theorem passF {X : Cx} : Passes (L2.CX X.prog X.w) X (fun _ _ _ => False) := fun pins σ H s e s' I c => by
  obtain ⟨_, _, _, _, _, _, _, _, _, _, _, _, z⟩ := c
  exact z.elim
theorem nm_names : ("from" : Str) = nmn 15 ∧ ("kept" : Str) = nmn 16 := by decide +kernel
def PgN (K : PySem.W.Frag) (CP CF : Addr) (H0 H : Hp) (z : Addr) (fs : List TF) (ss : List Stm) : Prop := ∃ (dz r1 r2 : Addr) (ws1 ws2 : List V), H0 r1 = none ∧ H0 r2 = none ∧ H z = some (.ins CP dz (pgF r1 r2)) ∧ H r1 = some (.lst ws1) ∧ FnAll K CF H ws1 (fs.map TF.fd) ∧ H r2 = some (.lst ws2) ∧ DpAll K H ws2 (ss.map stD)
theorem PgN.weak {CP CF : Addr} {H0 H1 H : Hp} {z : Addr} {fs : List TF} {ss : List Stm} (h : PgN K CP CF H1 H z fs ss) (e : Ex H0 H1) : PgN K CP CF H0 H z fs ss := by
  obtain ⟨dz, r1, r2, ws1, ws2, h1, h2, h3⟩ := h
  exact ⟨dz, r1, r2, ws1, ws2, ex_none e h1, ex_none e h2, h3⟩
theorem PgN.at {CP CF : Addr} {H0 H : Hp} {z : Addr} {fs : List TF} {ss : List Stm} (h : PgN K CP CF H0 H z fs ss) : PgAt K CP CF H z fs ss := by
  obtain ⟨dz, r1, r2, ws1, ws2, _, _, h1, h2, h3, h4, h5⟩ := h
  exact ⟨dz, r1, r2, ws1, ws2, h1, h2, h3, h4, h5⟩
theorem mk_pgN {CP CF CE : Addr} {H : Hp} {Q : VK} {E : XK} {fs : List TF} {ss : List Stm} {pf ps : Addr} {xs ys : List V} (ok : POk fs ss) (f1 : H pf = some (.lst xs)) (F : FnAll K CF H xs (fs.map TF.fd)) (f2 : H ps = some (.lst ys)) (D : DpAll K H ys (ss.map stD))
    (k : ∀ z H', H z = none → Ex H H' → PgN K CP CF H H' z fs ss → Q (.ref z) H') : NewI CP (pPi K CP CF CE) E [.ref pf, .ref ps] H Q := by
  refine a_new fun x dx H2 n2 n3 n4 e2 f2' f3 => ?_
  have N := ex_twoN n2 n3 e2
  have pok := prog_ok ok
  refine ⟨[x, dx], x, dx, pf, ps, xs, fs.map TF.fd, ss.map stD, rfl, (Al.nil.cons f3).cons f2', List.mem_cons_self .., f2', SqL.of (N _ _ f1), F.up N, by rw [List.length_map]; have := ok.f4; omega, ⟨⟨ys, SqL.of (N _ _ f2), dpa_ex N D⟩, sm_sts ok.so, by rw [List.length_map]; have := ok.s40; omega⟩, fun c q1 q2 w1 w2 H3 k3 m1 m2 c0 c1 A1 _ c2 B2 => ⟨rfl, ?_⟩, fun c => by rw [pok] at c; cases c⟩
  have E3 : Ex H H3 := fun b o z => k3 b o (fun y => ne_of_none z n2 (by simpa using y)) (e2 b o z)
  have O := dl_le [x, dx] H3
  exact k x H3 n2 E3 ⟨dx, q1, q2, w1, w2, ex_none e2 m1, ex_none e2 m2, c0, c1, A1.up O, c2, dpa_ex O B2⟩
def pBrk (K : PySem.W.Frag) (CP CF : Addr) : Sp := fun vs H Q _ => ∃ (a b : Addr) (xs ys : List R), vs = [.ref a, .ref b] ∧ SqT K H a (tv xs) ∧ SqT K H b (tv ys) ∧ xs.length = ys.length ∧ xs.length ≤ 5 ∧
  (cv xs ys = true → RV1 .non H Q) ∧ (∀ (ls : List Bool) (c : Bool), ib xs ys ls c = true → ls.length < xs.length → ∀ z H1, Ex H H1 → PgN K CP CF H H1 z [] (bprog (xs, ys) (rp (xs, ys) [] ls) c) → Q (.ref z) H1)
theorem ok_breaking (T : Tx K mg) : FnOk P w K mg base CX0 12 T.a_breaking T.e_breaking p_breaking (pBrk K T.C_Program T.C_Function) := by
  refine T.d_breaking.F.ok sc_breaking (fun vs H Q E h => ?_) (fun cdv A outer s H vs Q E hr h => ?_)
  · obtain ⟨a, b, xs, ys, rfl, _⟩ := h
    rfl
  obtain ⟨a, b, xs, ys, rfl, ha, hb, hl, h5, q1, q2⟩ := h
  refine ⟨_, (pss_cons (ps_set (i := 2) sc_breaking.nd rfl (.inl rfl) (pe_call (ok_bar T 6) (hr.mono (by omega)) (by rfl) T.d_bar.m T.d_bar.F.kp T.d_bar.b .nil pass0 (pa_cons (pv 0) (pa_cons (pv 1) pa_nil))))
    (pss_cons (ps_if (PW.pt (pw_or (pt_cmpR k_isN (pv 2) pe_non (nomark _)) (pw_or1 (pt_cmpR op_ge (pe_callB (lenK K) (by rfl) T.b_len PySem.boot_len (pa_cons (pv 0) pa_nil)) (pe_glob (v := .int 6) (by rfl) T.m_MOST_RIGHTS ⟨_, rfl⟩) (nomark _))))) (pss_one (ps_ret pe_non)) pss_nil)
    (pss_cons (ps_asg (pv 2) (pg_tup (by rfl) (pgs_cons (pg_name (i := 3) sc_breaking.nd rfl (.inl rfl)) (pgs_cons (pg_name (i := 4) sc_breaking.nd rfl (.inl rfl)) pgs_nil))))
    (pss_cons (ps_set (i := 5) sc_breaking.nd rfl (.inl rfl) (pe_call (ok_pairs_along T) (hr.mono (by omega)) (by rfl) T.d_pairs_along.m T.d_pairs_along.F.kp T.d_pairs_along.b .nil pass0 (pa_cons (pv 0) (pa_cons (pv 1) (pa_cons (pv 3) pa_nil)))))
    (pss_cons (ps_asg (pe_ix (ixL K) (pv 5) (pe_un un_neg pe_int) (fun _ _ => rfl)) (pg_tup (by rfl) (pgs_cons (pg_name (i := 6) sc_breaking.nd rfl (.inl rfl)) (pgs_cons (pg_name (i := 7) sc_breaking.nd rfl (.inl rfl)) pgs_nil))))
    (pss_cons (ps_set (i := 8) sc_breaking.nd rfl (.inl rfl) (pe_lst (pa_cons (pe_tup (pa_cons pe_str (pa_cons pe_str (pa_cons (pv 6) (pa_cons (pe_call (ok_first_source T) (hr.mono (by omega)) (by rfl) T.d_first_source.m T.d_first_source.F.kp T.d_first_source.b .nil pass0 (pa_cons (pe_slice (slA K) (pv 6) (po_some pe_int) po_none) pa_nil)) pa_nil))))) (pa_cons (pe_call (ok_holding T) (hr.mono (by omega)) (by rfl) T.d_holding.m T.d_holding.F.kp T.d_holding.b .nil pass0 (pa_cons pe_str (pa_cons (pv 6) (pa_cons (pe_tup (pa_cons pe_str (pa_cons (pe_tup (pa_cons pe_str (pa_cons pe_int pa_nil))) pa_nil))) pa_nil)))) pa_nil))))
    (pss_cons (ps_asg (pe_call (ok_converting T 5) (hr.mono (by omega)) (by rfl) T.d_converting.m T.d_converting.F.kp T.d_converting.b .nil pass0 (pa_cons (pv 5) (pa_cons (pv 3) (pa_cons pe_str pa_nil)))) (pg_tup (by rfl) (pgs_cons (pg_name (i := 9) sc_breaking.nd rfl (.inl rfl)) (pgs_cons (pg_name (i := 10) sc_breaking.nd rfl (.inl rfl)) pgs_nil))))
    (pss_one (ps_ret (pe_make T.k_Program (ok_Program_init T) (hr.mono (by omega)) (by rfl) T.g_Program T.d_Program_init.b .nil passF (pa_cons (pe_lst pa_nil) (pa_cons (pe_op op_cat (pe_op op_cat (pv 8) (pv 9)) (pe_lst (pa_cons (pe_call (ok_breach T) (hr.mono (by omega)) (by rfl) T.d_breach.m T.d_breach.F.kp T.d_breach.b .nil pass0 (pa_cons (pv 4) (pa_cons (pv 7) (pa_cons (pv 10) pa_nil)))) pa_nil))) pa_nil)))))))))))), ?_⟩
  walk_at "r"
  refine ⟨a, b, xs, ys, rfl, ha, hb, hl, by omega, by decide, fun cc => ?_, fun ls c hib hls p l H1 e1 f1 g1 => ?_⟩
  · intro H1 e1
    walk_at "r"
    exact q1 cc H1 e1
  walk_at "r"
  refine a_lenT (ex_st ha e1) ?_
  rw [tv_len]
  walk_at "r"
  refine ite2 (fun y => absurd (of_decide_eq_true y) (by omega)) (fun _ => ?_)
  walk_at "r"
  refine w_gtup (xs := [.ref l, .str (ltr c)]) (SqT.of f1) rfl ?_
  walk_at "r"
  obtain ⟨v, rl, h1, h2⟩ := rp_ok (p0 := (xs, ys)) (acc := []) (ls := ls) (c := c) hl hib
  generalize er : rp (xs, ys) [] ls = r at v rl h1 h2
  have rl : r.length = ls.length := by rw [rl]; simp
  have len := vp_len v
  refine ⟨a, b, l, (xs, ys), ls, rfl, ex_st ha e1, ex_st hb e1, SqL.of g1, by rw [er]; exact v, by omega, fun z zs H2 e2 f2 PL => ?_⟩
  rw [er] at PL
  obtain ⟨pl, pn⟩ := pairs_last (xs, ys) r
  obtain ⟨u, c1, d1, k1, k2, k3, k4⟩ := PL.get _ _ pl
  have lx := PL.len
  rw [pn] at lx
  walk_at "r"
  refine a_ixL (v := .ref u) (SqL.of f2) (atI_m (n := 0) (j := 1) (by omega) (by omega) (by rw [lx, Nat.add_sub_cancel]; exact k1)) ?_
  refine w_gtup (xs := [.ref c1, .ref d1]) (SqT.of k2) rfl ?_
  walk_at "r"
  have ll : (xs, ys).1.length = xs.length := rfl
  obtain ⟨x0, xr, ex⟩ : ∃ x0 xr, (topP (xs, ys) r).1 = x0 :: xr := by
    cases y : (topP (xs, ys) r).1 with
    | nil => rw [y] at len; have g1 := len.1; have g2 := has_ne h1; simp at g1; omega
    | cons x0 xr => exact ⟨_, _, rfl⟩
  obtain ⟨y0, yr, ey⟩ : ∃ y0 yr, (topP (xs, ys) r).2 = y0 :: yr := by
    cases y : (topP (xs, ys) r).2 with
    | nil => rw [y] at h1; cases c <;> cases h1
    | cons y0 yr => exact ⟨_, _, rfl⟩
  have k3' := k3
  have k4' := k4
  rw [ex] at k3'
  rw [ey] at k4'
  have lx0 : (topP (xs, ys) r).1.length = xr.length + 1 := by rw [ex]; rfl
  have ly0 : (topP (xs, ys) r).2.length = yr.length + 1 := by rw [ey]; rfl
  refine a_slT1 k3' fun s1 H3 n3 e3 f3 => ?_
  walk_at "r"
  refine ⟨s1, xr, rfl, SqT.of f3, fun v4 H4 e4 d4 => ?_⟩
  walk_at "r"
  refine new_tup (by simp) fun t5 H5 n5 e5 f5 => ?_
  walk_at "r"
  refine new_tup (by simp) fun t6 H6 n6 e6 f6 => ?_
  walk_at "r"
  refine new_tup (by simp) fun t7 H7 n7 e7 f7 => ?_
  walk_at "r"
  have e37 := (((e3.trans e4).trans e5).trans e6).trans e7
  refine ⟨_, c1, .ref t7, (topP (xs, ys) r).1, .adr (nmn 16) 0, rfl, ex_st k3 e37, by omega, ?_, fun u8 H8 e8 d8 => ?_⟩
  · rw [← nm_names.2]
    exact .tup (SqT.of f7) (.cons (.str _) (.cons (.tup (SqT.of (e7 _ _ f6)) (.cons (.str _) (.cons (.int _) .nil))) .nil))
  walk_at "r"
  refine new_lst (by simp) fun st H9 n9 e9 f9 => ?_
  walk_at "r"
  have e39 := (e37.trans e8).trans e9
  refine ⟨z, l, 15, (xs, ys), r, zs, by rw [← nm_names.1], SqL.of (e39 _ _ f2), PL.up e39, ?_, v, by omega, by omega, h5, fun pp l1 ws H10 e10 f10 g10 D10 => ?_⟩
  · have e : lettersOf r = ls := by
      rw [← er]
      exact letters_rp _ _
    rw [e]
    exact SqL.of ((e2.trans e39) _ _ g1)
  walk_at "r"
  refine w_gtup (xs := [.ref l1, .str (nmn (cvt (xs, ys) r 15).2)]) (SqT.of f10) rfl ?_
  walk_at "r"
  refine new_lst (xs := []) (by simp) fun fl H11 n11 e11 f11 => ?_
  walk_at "r"
  refine a_cat ((e10.trans e11) _ _ f9) (e11 _ _ g10) ?_ fun x1 H12 n12 e12 f12 => ?_
  · have := dpa_len D10
    rw [List.length_map, cvt_len] at this
    simp only [List.length_cons, List.length_nil]
    omega
  walk_at "r"
  have e312 := ((e39.trans e10).trans e11).trans e12
  refine ⟨c, d1, y0, yr, _, rfl, ex_st k4' e312, by omega, fun u13 H13 e13 d13 => ?_⟩
  walk_at "r"
  refine new_lst (by simp) fun x2 H14 n14 e14 f14 => ?_
  walk_at "r"
  refine a_cat ((e13.trans e14) _ _ f12) f14 ?_ fun x3 H15 n15 e15 f15 => ?_
  · have := dpa_len D10
    rw [List.length_map, cvt_len] at this
    simp only [List.length_append, List.length_cons, List.length_nil]
    omega
  walk_at "r"
  have e1115 := ((e12.trans e13).trans e14).trans e15
  refine mk_pgN (b_ok (p0 := (xs, ys)) (r := r) (c := c) h5 v (by omega) h1) (e1115 _ _ f11) .nil f15 ?_ fun zz H16 n16 e16 pg => ?_
  · have e1 : (bprog (xs, ys) r c) = Stm.lt (nmn 16) (topP (xs, ys) r).1 (fsrc ((topP (xs, ys) r).1.drop 1)) :: Stm.lt (nmn 15) (.rw :: (topP (xs, ys) r).1) (.adr (nmn 16) 0) :: ((cvt (xs, ys) r 15).1 ++ [bEnd c (topP (xs, ys) r).2 (cvt (xs, ys) r 15).2]) := rfl
    rw [e1, List.map_cons, List.map_cons, List.map_append]
    show DpAll K H15 (.ref t5 :: u8 :: (ws ++ [u13])) _
    have e515 := (((((e6.trans e7).trans e8).trans e9).trans e10).trans e11).trans e1115
    refine .cons (.tup (SqT.of (e515 _ _ f5)) ?_) (.cons (dp_ex (((e9.trans e10).trans e11).trans e1115) ?_) (dpa_app (dpa_ex (e11.trans e1115) D10) (.cons (dp_ex (e14.trans e15) ?_) .nil)))
    · rw [← nm_names.2]
      refine .cons (.str _) (.cons (.str _) (.cons (dp_ru (ex_st k3 ?_)) (.cons (dp_ex (e5.trans e515) ?_) .nil)))
      · exact e312.trans ((e13.trans e14).trans e15)
      · rw [ex]
        exact d4
    · rw [← nm_names.1] 
      exact d8
    · rw [ey]
      exact d13
  walk_at "r"
  refine q2 ls c hib hls zz H16 (((e1.trans e2).trans e312).trans (((e13.trans e14).trans e15).trans e16)) ?_
  rw [er]
  exact pg.weak (((e1.trans e2).trans e312).trans ((e13.trans e14).trans e15))

end
section
variable {P : Program} {w : World} {K : PySem.W.Frag} {mg : Str → Option Value} {base : Heap}
def isB (xs ys : List R) (fs : List TF) (ss : List Stm) : Bool := decide (jAll fs ss [(xs, ys)] = []) && decide ((runP true fs ss).1 ≠ .long) && decide ((runP true fs ss).2.1.br ≠ [])
def pIsBrk (K : PySem.W.Frag) (CP CF : Addr) : Sp := fun vs H Q _ => ∃ (a b z : Addr) (xs ys : List R) (fs : List TF) (ss : List Stm), vs = [.ref a, .ref b, .ref z] ∧ SqT K H a (tv xs) ∧ SqT K H b (tv ys) ∧ PgAt K CP CF H z fs ss ∧ POk fs ss ∧ RV1 (.bl (isB xs ys fs ss)) H Q
theorem ok_is_breaking (T : Tx K mg) : FnOk P w K mg base CX0 22 T.a_is_breaking T.e_is_breaking p_is_breaking (pIsBrk K T.C_Program T.C_Function) := by
  refine T.d_is_breaking.F.ok sc_is_breaking (fun vs H Q E h => ?_) (fun cdv A outer s H vs Q E hr h => ?_)
  · obtain ⟨a, b, z, xs, ys, fs, ss, rfl, _⟩ := h
    rfl
  obtain ⟨a, b, z, xs, ys, fs, ss, rfl, ha, hb, pg, ok, q⟩ := h
  refine ⟨_, (pss_cons (ps_try_only rfl rfl ⟨rfl, by decide, Or.inl T.g_RightsError⟩ takes0 (fun W pn xe tk po => (pss_one (ps_set (i := 3) sc_is_breaking.nd rfl (.inl rfl) (pe_ix (ixT K) (pe_callS (ok_run T) (hr.mono (by omega)) (by rfl) T.d_run.m T.d_run.F.kp T.d_run.b (fun σ => passAt tk σ) (pa_cons (pv 2) (pa_cons (pe_lst (pa_cons (pe_tup (pa_cons (pv 0) (pa_cons (pv 1) pa_nil))) pa_nil)) pa_nil))) pe_int (fun _ _ => rfl))))) (fun a oe cls d pn _ _ => (pss_one (ps_ret pe_bl))))
    (pss_one (ps_ret (pe_cmpR op_gt (pe_callB (lenK K) (by rfl) T.b_len PySem.boot_len (pa_cons (pv 3) pa_nil)) pe_int (nomark _))))), ?_⟩
  walk_at "r"
  refine new_tup (by simp) fun t H1 n1 e1 f1 => ?_
  walk_at "r"
  refine new_lst (by simp) fun c H2 n2 e2 f2 => ?_
  walk_at "r"
  have e12 := e1.trans e2
  have X : XL K H2 c [(xs, ys)] := ⟨[.ref t], SqL.of f2, .cons (.tup (SqT.of (e2 _ _ f1)) (.cons (dp_ru (ex_st ha e12)) (.cons (dp_ru (ex_st hb e12)) .nil))) .nil⟩
  refine ⟨z, c, fs, ss, [(xs, ys)], rfl, pg.up e12, ok, X, fun y d H3 e3 f3 => ?_, fun y y2 d H3 e3 f3 => ?_, fun y y2 p l1 l2 xs1 xs2 H3 e3 f3 g1 d1 g2 d2 => ?_⟩
  · refine ⟨true, T.s_RightsError, fun _ a na => ?_, fun z => by cases z⟩
    walk_at "r"
    have g := q H3 (e12.trans e3)
    rw [show isB xs ys fs ss = false by unfold isB; rw [decide_eq_false y]; rfl] at g
    exact g
  · refine ⟨true, T.s_RightsError, fun _ a na => ?_, fun z => by cases z⟩
    walk_at "r"
    have g := q H3 (e12.trans e3)
    rw [show isB xs ys fs ss = false by unfold isB; rw [decide_eq_false (p := (runP true fs ss).1 ≠ .long) (fun z => z y2), Bool.and_false, Bool.false_and]] at g
    exact g
  · walk_at "r"
    refine a_ixT (v := .ref l1) (SqT.of f3) (atI_nat (j := 1) rfl) ?_
    walk_at "r"
    refine a_lenL (SqL.of g1) ?_
    walk_at "r"
    have lx := dpa_len d1
    rw [List.length_map] at lx
    have g := q H3 (e12.trans e3)
    have e : isB xs ys fs ss = decide ((0 : Int) < (xs1.length : Nat)) := by
      unfold isB
      rw [decide_eq_true y, decide_eq_true y2, Bool.true_and, Bool.true_and, lx]
      cases (runP true fs ss).2.1.br with
      | nil => rfl
      | cons x r => simp
    rw [e] at g
    exact g

end
section
variable {P : Program} {w : World} {K : PySem.W.Frag} {mg : Str → Option Value} {base : Heap}
theorem LU.out {G H : Hp} {s t b : Addr} {us : List Addr} {r : RS} (h : LU K G H s t b us r) {a : Addr} {o : HO} (e : G a = some o) : a ∉ MS s t b us := fun m => by
  rw [h.ng m] at e
  cases e
theorem ScD.dl {H : Hp} {sd : Addr} {c : Sc} {N : Nat} {M : List Addr} (h : ScD H sd c N) (n : sd ∉ M) : ScD (dl M H) sd c N := by
  obtain ⟨kvs, e, q⟩ := h
  exact ⟨kvs, dl_at n e, q⟩
theorem ScD.nm {G H : Hp} {s t b sd : Addr} {us : List Addr} {r : RS} {c : Sc} {N : Nat} (h : ScD H sd c N) (S : LU K G H s t b us r) : sd ∉ MS s t b us := by
  obtain ⟨kvs, e, _⟩ := h
  exact S.dct e
theorem ok__law_look (T : Tx K mg) : FnOk P w K mg base CX0 2 T.a__law_look T.e__law_look p__law_look (pLk K) := by
  refine T.d__law_look.F.ok sc__law_look (fun vs H Q E h => ?_) (fun cdv A outer s H vs Q E hr h => ?_)
  · obtain ⟨G, s, t, b, r, sd, c, N, p0, x, k, n, q0, rfl, _⟩ := h
    rfl
  obtain ⟨G, s, t, b, r, sd, c, N, p0, x, k, n, q0, rfl, ⟨us, S⟩, D, hp0, th, hx, et, hk, k5, hz, q, qe⟩ := h
  have hu := hu_of hr
  refine ⟨_, (pss_cons (ps_set (i := 3) sc__law_look.nd rfl (.inl rfl) (pe_dget hu (pv 1) (pe_ix (ixT K) (pv 2) pe_int (fun _ _ => rfl)) (fun _ _ => rfl)))
    (pss_cons (ps_for PassesOwn.never rfl (pi_range1 (by rfl) T.b_range (pa_cons (pe_ix (ixT K) (pv 2) pe_int (fun _ _ => rfl)) pa_nil)) (pg_name (i := 4) sc__law_look.nd rfl (.inl rfl)) (pss_cons (ps_if (pt_cmpR k_ninS pe_str (pe_ix (ixT K) (pe_ix (ixL K) (pe_ix (ixL K) (pe_ix (ixL K) (pv 0) pe_int (fun _ _ => rfl)) (pv 3) (fun _ _ => rfl)) pe_int (fun _ _ => rfl)) pe_int (fun _ _ => rfl)) (by rfl)) (pss_one (ps_expr (pe_bm PySem.F.plainAttrs_list PySem.F.slot_list_append PySem.F.type_list_append mt_append (pe_ix (ixL K) (pv 0) pe_int (fun _ _ => rfl)) (pa_cons (pe_tup (pa_cons pe_str (pa_cons (pv 3) pa_nil))) pa_nil)))) pss_nil)
    (pss_cons (ps_if (pt_cmpR k_isN (pe_ix (ixL K) (pe_ix (ixL K) (pe_ix (ixL K) (pv 0) pe_int (fun _ _ => rfl)) (pv 3) (fun _ _ => rfl)) pe_int (fun _ _ => rfl)) pe_non (nomark _)) (pss_one (ps_ret pe_non)) pss_nil)
    (pss_one (ps_set (i := 3) sc__law_look.nd rfl (.inl rfl) (pe_ix (ixT K) (pe_ix (ixL K) (pe_ix (ixL K) (pe_ix (ixL K) (pv 0) pe_int (fun _ _ => rfl)) (pv 3) (fun _ _ => rfl)) pe_int (fun _ _ => rfl)) pe_int (fun _ _ => rfl)))))))
    (pss_one (ps_ret (pv 3))))), ?_⟩
  obtain ⟨p, rfl, hp⟩ := dp_pl hp0
  walk_at "r"
  refine a_ixT (v := .str x) (ex_st hp S.ex) (atI_nat (j := 0) rfl) ?_
  walk_at "r"
  refine (D.ex S.ex).get hx ?_
  walk_at "r"
  refine a_ixT (v := .int (k : Int)) (ex_st hp S.ex) (atI_nat (j := 1) rfl) ?_
  walk_at "r"
  refine r_R1 (by omega) ?_
  refine lp_range (fun i σ h => (∃ m x4 u acc, σ = [some (.ref s), some (.ref sd), some (.ref p), some (.int ((m : Nat) : Int)), x4] ∧ Ex (Im H) (Im h) ∧ LU K G h s t b us ⟨r.th, r.br ++ acc, r.n⟩ ∧ r.th[m]? = some u ∧ u.T.length + i = q0.T.length ∧ acc.length ≤ i ∧
      (fol r.th k n).1 = acc ++ (fol r.th (k - i) m).1 ∧ (fol r.th k n).2 = (fol r.th (k - i) m).2)) ⟨n, _, q0, [], rfl, Ex.refl _, by rw [List.append_nil]; exact S, et, rfl, Nat.le_refl _, rfl, rfl⟩ ?_ ?_
  · rintro i σ h hi ⟨m, x4, u, acc, rfl, ih, Sh, eu, lu, la, e1, e2⟩
    have hi : i < k := by simpa using hi
    have ki : k - i = (k - (i + 1)) + 1 := by omega
    rw [ki] at e1 e2
    have f1 : (fol r.th ((k - (i + 1)) + 1) m) = match u.v with
      | .th j => (rdB u m ++ (fol r.th (k - (i + 1)) j).1, (fol r.th (k - (i + 1)) j).2)
      | _ => (rdB u m, none) := by
      simp only [fol, eu] <;> (cases u.v <;> rfl)
    obtain ⟨a, p1, v1, ea, fu, hT, dT, dv⟩ := Sh.at eu
    walk_at "r"
    refine a_ixL (v := .ref t) (SqL.of Sh.o) (atI_nat (j := 0) rfl) ?_
    walk_at "r"
    refine a_ixL (v := .ref a) (SqL.of Sh.ls) (atI_nat (us_at ea)) ?_
    walk_at "r"
    refine a_ixL (v := .ref p1) (SqL.of fu) (atI_nat (j := 0) rfl) ?_
    walk_at "r"
    refine a_ixT (v := .str (hdR u.T).s) hT (atI_nat (j := 0) (hd_tv (by omega))) ?_
    walk_at "r"
    refine a_ninS (in_r (hdR u.T)) ?_
    walk_at "r"
    have last : ∀ h2, Ex (Im h) (Im h2) → LU K G h2 s t b us ⟨r.th, r.br ++ (acc ++ rdB u m), r.n⟩ → ∃ p2 v2, h2 a = some (.lst [.ref p2, v2, .str u.x]) ∧ Dp K (Im h2) v2 (vlD u.v) := fun h2 _ S2 => by
      obtain ⟨a', p2, v2, ea', fu', _, _, dv'⟩ := S2.at eu
      rw [ea] at ea'
      cases ea'
      exact ⟨p2, v2, fu', dv'⟩
    refine ite2 (fun y => ?A) (fun y => ?B)
    case' A =>
      have eb : rdB u m = [(true, m)] := by
        unfold rdB
        rw [if_neg (by simpa using y)]
      walk_at "r"
      refine a_ixL (v := .ref b) (SqL.of Sh.o) (atI_nat (j := 1) rfl) ?_
      walk_at "r"
      refine ⟨by
        obtain ⟨ys, fb, _⟩ := Sh.br
        exact a_ty fb, ?_⟩
      walk_at "r"
      refine new_tup (by simp) fun t1 h1 n1 g1 f2 => ?_
      walk_at "r"
      refine (Sh.exx g1).appB (q := (true, m)) (.tup (SqT.of (im_at f2 rfl)) (.cons (.str _) (.cons (.int _) .nil))) (by simp only [List.length_append]; omega) fun h2 k2 S2 => ?_
      walk_at "r"
      have i2 : Ex (Im h) (Im h2) := (im_ex g1).trans k2.i
      have S2 : LU K G h2 s t b us ⟨r.th, r.br ++ (acc ++ rdB u m), r.n⟩ := by
        rw [eb, ← List.append_assoc]
        exact S2
    case' B =>
      have eb : rdB u m = [] := by
        unfold rdB
        rw [if_pos (by simpa using y)]
      walk_at "r"
      have g0 : h = h := rfl
      generalize hh : h = h2 at g0
      have i2 : Ex (Im h) (Im h2) := by rw [hh]; exact Ex.refl _
      have S2 : LU K G h2 s t b us ⟨r.th, r.br ++ (acc ++ rdB u m), r.n⟩ := by
        rw [eb, List.append_nil, ← hh]
        exact Sh
    all_goals
      obtain ⟨p2, v2, fu2, dv2⟩ := last h2 i2 S2
      refine a_ixL (v := .ref t) (SqL.of S2.o) (atI_nat (j := 0) rfl) ?_
      walk_at "r"
      refine a_ixL (v := .ref a) (SqL.of S2.ls) (atI_nat (us_at ea)) ?_
      walk_at "r"
      rcases sh_step th eu (by omega) with z0 | ⟨j, w0, z0, e3, l3⟩
      · rw [z0] at dv2 f1
        cases dv2
        refine a_ixL (v := .non) (SqL.of fu2) (atI_nat (j := 1) rfl) ?_
        walk_at "r"
        refine qe h2 (by rw [e2, f1]) (ih.trans i2) ⟨us, ?_⟩
        rw [e1, f1]
        exact S2
      · rw [z0] at dv2 f1
        obtain ⟨p3, rfl, hv⟩ := dp_vl (dp_ex (im_le _) dv2)
        refine a_ixL (v := .ref p3) (SqL.of fu2) (atI_nat (j := 1) rfl) ?_
        walk_at "r"
        refine a_ixL (v := .ref t) (SqL.of S2.o) (atI_nat (j := 0) rfl) ?_
        walk_at "r"
        refine a_ixL (v := .ref a) (SqL.of S2.ls) (atI_nat (us_at ea)) ?_
        walk_at "r"
        refine a_ixL (v := .ref p3) (SqL.of fu2) (atI_nat (j := 1) rfl) ?_
        walk_at "r"
        refine a_ixT (v := .int (j : Nat)) hv (atI_nat (j := 1) rfl) ?_
        walk_at "r"
        have r1 := rdB_len u m
        refine ⟨j, _, w0, acc ++ rdB u m, rfl, ih.trans i2, S2, e3, by omega, by rw [List.length_append]; omega, ?_, ?_⟩
        · rw [e1, f1, List.append_assoc]
        · rw [e2, f1]
  · rintro σ h ⟨m, x4, u, acc, rfl, ih, Sh, eu, lu, la, e1, e2⟩
    have ki : k - (k : Int).toNat = 0 := by simp
    rw [ki] at e1 e2
    walk_at "r"
    refine q m h (by rw [e2]; rfl) ih ⟨us, ?_⟩
    rw [e1]
    show LU K G h s t b us ⟨r.th, r.br ++ (acc ++ []), r.n⟩
    rw [List.append_nil]
    exact Sh
theorem ok__law_give (T : Tx K mg) : FnOk P w K mg base CX0 3 T.a__law_give T.e__law_give p__law_give (pGv K) := by
  refine T.d__law_give.F.ok sc__law_give (fun vs H Q E h => ?_) (fun cdv A outer s H vs Q E hr h => ?_)
  · obtain ⟨G, s, t, b, r, sd, c, N, v, e, l, src, rfl, _⟩ := h
    rfl
  obtain ⟨G, s, t, b, r, sd, c, N, v, e, l, src, rfl, ⟨us, S⟩, D, hv, th, ss, sh, so, hz, q, qe⟩ := h
  refine ⟨_, (pss_cons (ps_if (pt_cmpR op_eq (pe_ix (ixT K) (pv 2) pe_int (fun _ _ => rfl)) pe_str (nomark _)) (pss_one (ps_ret (pe_lst (pa_cons (pe_ix (ixT K) (pv 2) pe_int (fun _ _ => rfl)) pa_nil)))) pss_nil)
    (pss_cons (ps_if (pt_cmpR op_eq (pe_ix (ixT K) (pv 2) pe_int (fun _ _ => rfl)) pe_str (nomark _)) (pss_one (ps_ret (pe_lst (pa_cons pe_non pa_nil)))) pss_nil)
    (pss_cons (ps_set (i := 3) sc__law_give.nd rfl (.inl rfl) (pe_call (ok__law_look T) (hr.mono (by omega)) (by rfl) T.d__law_look.m T.d__law_look.F.kp T.d__law_look.b .nil pass0 (pa_cons (pv 0) (pa_cons (pv 1) (pa_cons (pe_ix (ixT K) (pv 2) pe_int (fun _ _ => rfl)) pa_nil)))))
    (pss_cons (ps_if (pt_cmpR k_isN (pv 3) pe_non (nomark _)) (pss_one (ps_ret pe_non)) pss_nil)
    (pss_cons (ps_if (pt_cmpR op_eq (pe_ix (ixT K) (pv 2) pe_int (fun _ _ => rfl)) pe_str (nomark _)) (pss_one (ps_ret (pe_lst (pa_cons (pe_tup (pa_cons pe_str (pa_cons (pv 3) pa_nil))) pa_nil)))) pss_nil)
    (pss_cons (ps_if (pt_cmpR k_ninS pe_str (pe_ix (ixT K) (pe_ix (ixL K) (pe_ix (ixL K) (pe_ix (ixL K) (pv 0) pe_int (fun _ _ => rfl)) (pv 3) (fun _ _ => rfl)) pe_int (fun _ _ => rfl)) pe_int (fun _ _ => rfl)) (by rfl)) (pss_one (ps_expr (pe_bm PySem.F.plainAttrs_list PySem.F.slot_list_append PySem.F.type_list_append mt_append (pe_ix (ixL K) (pv 0) pe_int (fun _ _ => rfl)) (pa_cons (pe_tup (pa_cons pe_str (pa_cons (pv 3) pa_nil))) pa_nil)))) pss_nil)
    (pss_one (ps_ret (pe_lst (pa_cons (pe_ix (ixL K) (pe_ix (ixL K) (pe_ix (ixL K) (pv 0) pe_int (fun _ _ => rfl)) (pv 3) (fun _ _ => rfl)) pe_int (fun _ _ => rfl)) pa_nil)))))))))), ?_⟩
  cases src with
  | num n =>
    obtain ⟨p, u, u9, rfl, hp, d1, d2⟩ := dp_two hv
    cases dp_str d1
    cases dp_int d2
    have hp := ex_st hp S.ex
    walk_at "r"
    refine a_ixT (v := .str "number") hp (atI_nat (j := 0) rfl) ?_
    walk_at "r"
    refine ite2 (fun y => ?_) (fun y => absurd (show decide (("number" : Str) = "number") = true from by decide) y)
    walk_at "r"
    refine a_ixT (v := .int n) hp (atI_nat (j := 1) rfl) ?_
    walk_at "r"
    refine new_lst (by simp) fun lt H1 n1 e1 f1 => ?_
    exact q (.num n) lt (.int n) us H1 rfl (im_ex e1) (by rw [show (gv r.th _ (.num n)).1 = [] from rfl, List.append_nil]; exact S.exx e1) (S.nin n1) f1 (.int n)
  | null =>
    obtain ⟨p, u, rfl, hp, d1⟩ := dp_1 hv
    cases dp_str d1
    have hp := ex_st hp S.ex
    walk_at "r"
    refine a_ixT (v := .str "null") hp (atI_nat (j := 0) rfl) ?_
    walk_at "r"
    refine ite2 (fun y => absurd (show decide (("null" : Str) = "number") = true from y) (by decide)) (fun y => ?_)
    walk_at "r"
    refine a_ixT (v := .str "null") hp (atI_nat (j := 0) rfl) ?_
    walk_at "r"
    refine ite2 (fun y => ?_) (fun y => absurd (show decide (("null" : Str) = "null") = true from by decide) y)
    walk_at "r"
    refine new_lst (by simp) fun lt H1 n1 e1 f1 => ?_
    exact q .nul lt .non us H1 rfl (im_ex e1) (by rw [show (gv r.th _ .null).1 = [] from rfl, List.append_nil]; exact S.exx e1) (S.nin n1) f1 .non
  | adr x k =>
    obtain ⟨p, u, u9, rfl, hp0, d1, d2⟩ := dp_two hv
    cases dp_str d1
    have hp := ex_st hp0 S.ex
    obtain ⟨U, hU, lk, el⟩ := sh
    obtain ⟨n, q0, h1, h2, h3⟩ := ss x U hU
    have ef : folX r.th c x k = fol r.th k n := by
      unfold folX
      rw [h1]
    have l1 := fol_len r.th k n
    have k5 : k ≤ 5 := so.2
    walk_at "r"
    refine a_ixT (v := .str "address") hp (atI_nat (j := 0) rfl) ?_
    walk_at "r"
    refine ite2 (fun y => absurd (show decide (("address" : Str) = "number") = true from y) (by decide)) (fun y => ?_)
    walk_at "r"
    refine a_ixT (v := .str "address") hp (atI_nat (j := 0) rfl) ?_
    walk_at "r"
    refine ite2 (fun y => absurd (show decide (("address" : Str) = "null") = true from y) (by decide)) (fun y => ?_)
    walk_at "r"
    refine a_ixT (v := u9) hp (atI_nat (j := 1) rfl) ?_
    walk_at "r"
    refine ⟨dl (MS s t b us) H, s, t, b, r, sd, _, N, u9, x, k, n, q0, rfl, ⟨us, S.big _ (fun _ m => m)⟩, ?_, dp_ex (S.gb (fun _ m => .inl m)) d2, th, h1, h2, by rw [h3]; exact lk, k5, by omega, fun m H1 em i1 S1 => ?_, fun H1 em i1 S1 => ?_⟩
    · exact (D.ex (S.gb (fun _ m => .inl m)))
    · obtain ⟨us1, S1⟩ := S1
      have hp1 : SqT K H1 p [.str "address", u9] := ex_st (ex_st hp0 (S.gb (fun _ m => .inl m))) S1.ex
      walk_at "r"
      refine ⟨rfl, ?_⟩
      walk_at "r"
      refine ite2 (fun y => absurd (of_decide_eq_true y) (fun z => by cases z)) (fun _ => ?_)
      walk_at "r"
      refine a_ixT (v := .str "address") hp1 (atI_nat (j := 0) rfl) ?_
      walk_at "r"
      refine ite2 (fun y => ?_) (fun y => absurd (show decide (("address" : Str) = "address") = true from by decide) y)
      walk_at "r"
      refine new_tup (by simp) fun t1 H2 n2 e2 f2 => ?_
      walk_at "r"
      refine new_lst (by simp) fun lt H3 n3 e3 f3 => ?_
      have S3 := ((S1.sub (S.gb (fun _ m => .inl m))).exx e2)
      have g : (gv r.th c (.adr x k)) = ((fol r.th k n).1, some (.th m)) := by
        show ((folX r.th c x k).1, (folX r.th c x k).2.map Vl.th) = _
        rw [ef, em]
        rfl
      rw [g] at q
      exact q (.th m) lt (.ref t1) us1 H3 rfl ((i1.trans (im_ex e2)).trans (im_ex e3)) (S3.exx e3) (S3.nin n3) f3 (.tup (SqT.of (im_at (e3 _ _ f2) rfl)) (.cons (.str _) (.cons (.int _) .nil)))
    · walk_at "r"
      have g : (gv r.th c (.adr x k)) = ((fol r.th k n).1, none) := by
        show ((folX r.th c x k).1, (folX r.th c x k).2.map Vl.th) = _
        rw [ef, em]
        rfl
      rw [g] at qe
      obtain ⟨us1, S1⟩ := S1
      exact qe H1 rfl i1 ⟨us1, S1.sub (S.gb (fun _ m => .inl m))⟩
  | val x k =>
    obtain ⟨p, u, u9, rfl, hp0, d1, d2⟩ := dp_two hv
    cases dp_str d1
    have hp := ex_st hp0 S.ex
    obtain ⟨U, hU, lk, el⟩ := sh
    obtain ⟨n, q0, h1, h2, h3⟩ := ss x U hU
    have ef : folX r.th c x k = fol r.th k n := by
      unfold folX
      rw [h1]
    have l1 := fol_len r.th k n
    have k5 : k ≤ 5 := so.2
    walk_at "r"
    refine a_ixT (v := .str "value") hp (atI_nat (j := 0) rfl) ?_
    walk_at "r"
    refine ite2 (fun y => absurd (show decide (("value" : Str) = "number") = true from y) (by decide)) (fun y => ?_)
    walk_at "r"
    refine a_ixT (v := .str "value") hp (atI_nat (j := 0) rfl) ?_
    walk_at "r"
    refine ite2 (fun y => absurd (show decide (("value" : Str) = "null") = true from y) (by decide)) (fun y => ?_)
    walk_at "r"
    refine a_ixT (v := u9) hp (atI_nat (j := 1) rfl) ?_
    walk_at "r"
    refine ⟨dl (MS s t b us) H, s, t, b, r, sd, _, N, u9, x, k, n, q0, rfl, ⟨us, S.big _ (fun _ m => m)⟩, ?_, dp_ex (S.gb (fun _ m => .inl m)) d2, th, h1, h2, by rw [h3]; exact lk, k5, by omega, fun m H1 em i1 S1 => ?_, fun H1 em i1 S1 => ?_⟩
    · exact (D.ex (S.gb (fun _ m => .inl m)))
    · obtain ⟨us1, S1⟩ := S1
      have hp1 : SqT K H1 p [.str "value", u9] := ex_st (ex_st hp0 (S.gb (fun _ m => .inl m))) S1.ex
      obtain ⟨u0, e3, l3⟩ := fol_sh th k n q0 h2 (by rw [h3]; exact lk) m em
      have g : gv r.th c (.val x k) = ((fol r.th k n).1 ++ rdB u0 m, some u0.v) := by
        show rdV r.th (folX r.th c x k) = _
        rw [ef]
        cases w : fol r.th k n with
        | mk b1 o =>
        rw [w] at em
        have em : o = some m := em
        subst em
        simp only [rdV, e3]
      rw [g] at q
      have S1 := S1.sub (S.gb (fun _ m => .inl m))
      walk_at "r"
      refine ⟨rfl, ?_⟩
      walk_at "r"
      refine ite2 (fun y => absurd (of_decide_eq_true y) (fun z => by cases z)) (fun _ => ?_)
      walk_at "r"
      refine a_ixT (v := .str "value") hp1 (atI_nat (j := 0) rfl) ?_
      walk_at "r"
      refine ite2 (fun y => absurd (show decide (("value" : Str) = "address") = true from y) (by decide)) (fun y => ?_)
      walk_at "r"
      obtain ⟨a, p1, v1, ea, fu, hT, dT, dv⟩ := S1.at e3
      refine a_ixL (v := .ref t) (SqL.of S1.o) (atI_nat (j := 0) rfl) ?_
      walk_at "r"
      refine a_ixL (v := .ref a) (SqL.of S1.ls) (atI_nat (us_at ea)) ?_
      walk_at "r"
      refine a_ixL (v := .ref p1) (SqL.of fu) (atI_nat (j := 0) rfl) ?_
      walk_at "r"
      refine a_ixT (v := .str (hdR u0.T).s) hT (atI_nat (j := 0) (hd_tv (by rw [h3] at l3; omega))) ?_
      walk_at "r"
      refine a_ninS (in_r (hdR u0.T)) ?_
      walk_at "r"
      refine ite2 (fun y => ?A) (fun y => ?B)
      case' A =>
        have eb : rdB u0 m = [(true, m)] := by
          unfold rdB
          rw [if_neg (by simpa using y)]
        walk_at "r"
        refine a_ixL (v := .ref b) (SqL.of S1.o) (atI_nat (j := 1) rfl) ?_
        walk_at "r"
        refine ⟨by
          obtain ⟨ys, fb, _⟩ := S1.br
          exact a_ty fb, ?_⟩
        walk_at "r"
        refine new_tup (by simp) fun t1 h1 n1 g1 f2 => ?_
        walk_at "r"
        refine (S1.exx g1).appB (q := (true, m)) (.tup (SqT.of (im_at f2 rfl)) (.cons (.str _) (.cons (.int _) .nil))) (by simp only [List.length_append]; omega) fun h2 k2 S2 => ?_
        walk_at "r"
        have i2 : Ex (Im H1) (Im h2) := (im_ex g1).trans k2.i
        have S2 : LU K G h2 s t b us1 ⟨r.th, r.br ++ ((fol r.th k n).1 ++ rdB u0 m), r.n⟩ := by
          rw [eb, ← List.append_assoc]
          exact S2
      case' B =>
        have eb : rdB u0 m = [] := by
          unfold rdB
          rw [if_pos (by simpa using y)]
        walk_at "r"
        have S2 : LU K G H1 s t b us1 ⟨r.th, r.br ++ ((fol r.th k n).1 ++ rdB u0 m), r.n⟩ := by
          rw [eb, List.append_nil]
          exact S1
        revert S2
        generalize hh : H1 = h2
        intro S2
        have i2 : Ex (Im H1) (Im h2) := by rw [hh]; exact Ex.refl _
      all_goals
        obtain ⟨a', p2, v2, ea', fu2, _, _, dv2⟩ := S2.at e3
        rw [ea] at ea'
        cases ea'
        refine a_ixL (v := .ref t) (SqL.of S2.o) (atI_nat (j := 0) rfl) ?_
        walk_at "r"
        refine a_ixL (v := .ref a) (SqL.of S2.ls) (atI_nat (us_at ea)) ?_
        walk_at "r"
        refine a_ixL (v := v2) (SqL.of fu2) (atI_nat (j := 1) rfl) ?_
        walk_at "r"
        refine new_lst (by simp) fun lt H3 n3 e3' f3 => ?_
        exact q u0.v lt v2 us1 H3 rfl ((i1.trans i2).trans (im_ex e3')) (S2.exx e3') (S2.nin n3) f3 (dp_ex (im_ex e3') dv2)
    · walk_at "r"
      have g : gv r.th c (.val x k) = ((fol r.th k n).1, none) := by
        show rdV r.th (folX r.th c x k) = _
        rw [ef]
        cases w : fol r.th k n with
        | mk b1 o =>
        rw [w] at em
        have em : o = none := em
        subst em
        rfl
      rw [g] at qe
      obtain ⟨us1, S1⟩ := S1
      exact qe H1 rfl i1 ⟨us1, S1.sub (S.gb (fun _ m => .inl m))⟩
theorem ok__law_new (T : Tx K mg) : FnOk P w K mg base CX0 1 T.a__law_new T.e__law_new p__law_new (pNw K) := by
  refine T.d__law_new.F.ok sc__law_new (fun vs H Q E h => ?_) (fun cdv A outer s H vs Q E hr h => ?_)
  · obtain ⟨G, s, t, b, r, sd, c, N, x, p, U, v, w, rfl, _⟩ := h
    rfl
  obtain ⟨G, s, t, b, r, sd, c, N, x, p, U, v, w, rfl, ⟨us, S⟩, D, gd, hN, dU, dv, hz, q⟩ := h
  have hu := hu_of hr
  refine ⟨_, (pss_cons (ps_dput hu (pv 1) (pv 2) (pe_callB (lenK K) (by rfl) T.b_len PySem.boot_len (pa_cons (pe_ix (ixL K) (pv 0) pe_int (fun _ _ => rfl)) pa_nil)) rfl)
    (pss_one (ps_expr (pe_bm PySem.F.plainAttrs_list PySem.F.slot_list_append PySem.F.type_list_append mt_append (pe_ix (ixL K) (pv 0) pe_int (fun _ _ => rfl)) (pa_cons (pe_lst (pa_cons (pv 3) (pa_cons (pv 4) (pa_cons (pv 2) pa_nil)))) pa_nil))))), ?_⟩
  walk_at "r"
  refine a_ixL (v := .ref t) (SqL.of S.o) (atI_nat (j := 0) rfl) ?_
  walk_at "r"
  refine a_lenL (SqL.of S.ls) ?_
  walk_at "r"
  have lx : ((us.map V.ref).length : Int) = ((r.th.length : Nat) : Int) := by rw [List.length_map, S.len]
  rw [lx]
  have nm := D.nm S
  refine D.put (by omega) fun H1 k1 D1 => ?_
  have S1 := S.kp k1 (fun a m => by rw [List.mem_singleton.mp m]; exact ⟨gd, nm⟩)
  walk_at "r"
  refine a_ixL (v := .ref t) (SqL.of S1.o) (atI_nat (j := 0) rfl) ?_
  walk_at "r"
  refine ⟨a_ty S1.ls, ?_⟩
  walk_at "r"
  refine new_lst (by simp) fun u H2 n2 e2 f2 => ?_
  walk_at "r"
  have S2 := S1.exx e2
  refine S2.appT (q := ⟨x, U, w⟩) f2 (S1.nin n2) (ex_none S1.ex n2) (dp_ex (k1.i.trans (im_ex e2)) dU) (dp_ex (k1.i.trans (im_ex e2)) dv) (by omega) fun H3 k3 S3 => ?_
  walk_at "r"
  have nm3 : sd ∉ [t] := fun m => by
    rw [List.mem_singleton] at m
    exact nm (by simp [MS, m])
  exact q H3 ((k1.i.trans (im_ex e2)).trans k3.i) ⟨_, S3⟩ ((D1.ex e2).at k3 nm3)
theorem ok__law_put (T : Tx K mg) : FnOk P w K mg base CX0 4 T.a__law_put T.e__law_put p__law_put (pPt K) := by
  refine T.d__law_put.F.ok sc__law_put (fun vs H Q E h => ?_) (fun cdv A outer s H vs Q E hr h => ?_)
  · obtain ⟨G, s, t, b, r, sd, c, N, v, x, k, src, rr, e, rfl, _⟩ := h
    rfl
  obtain ⟨G, s, t, b, r, sd, c, N, v, x, k, src, rr, e, rfl, ⟨us, S⟩, D, hv, so, sh, th, ss, hz, q⟩ := h
  refine ⟨_, (pss_cons (ps_set (i := 3) sc__law_put.nd rfl (.inl rfl) (pe_call (ok__law_look T) (hr.mono (by omega)) (by rfl) T.d__law_look.m T.d__law_look.F.kp T.d__law_look.b .nil pass0 (pa_cons (pv 0) (pa_cons (pv 1) (pa_cons (pe_ix (ixT K) (pv 2) pe_int (fun _ _ => rfl)) pa_nil)))))
    (pss_cons (ps_if (pt_cmpR k_isN (pv 3) pe_non (nomark _)) (pss_one (ps_ret pe_bl)) pss_nil)
    (pss_cons (ps_set (i := 4) sc__law_put.nd rfl (.inl rfl) (pe_call (ok__law_give T) (hr.mono (by omega)) (by rfl) T.d__law_give.m T.d__law_give.F.kp T.d__law_give.b .nil pass0 (pa_cons (pv 0) (pa_cons (pv 1) (pa_cons (pe_ix (ixT K) (pv 2) pe_int (fun _ _ => rfl)) pa_nil)))))
    (pss_cons (ps_if (pt_cmpR k_isN (pv 4) pe_non (nomark _)) (pss_one (ps_ret pe_bl)) pss_nil)
    (pss_cons (ps_if (pt_cmpR k_ninS pe_str (pe_ix (ixT K) (pe_ix (ixL K) (pe_ix (ixL K) (pe_ix (ixL K) (pv 0) pe_int (fun _ _ => rfl)) (pv 3) (fun _ _ => rfl)) pe_int (fun _ _ => rfl)) pe_int (fun _ _ => rfl)) (by rfl)) (pss_one (ps_expr (pe_bm PySem.F.plainAttrs_list PySem.F.slot_list_append PySem.F.type_list_append mt_append (pe_ix (ixL K) (pv 0) pe_int (fun _ _ => rfl)) (pa_cons (pe_tup (pa_cons pe_str (pa_cons (pv 3) pa_nil))) pa_nil)))) pss_nil)
    (pss_cons (ps_asg (pe_ix (ixL K) (pv 4) pe_int (fun _ _ => rfl)) (pg_sub (pe_ix (ixL K) (pe_ix (ixL K) (pv 0) pe_int (fun _ _ => rfl)) (pv 3) (fun _ _ => rfl)) pe_int set_list))
    (pss_one (ps_ret pe_bl)))))))), ?_⟩
  obtain ⟨p, u1, u2, u3, rfl, hp0, d1, d2, d3⟩ := dp_thr hv
  cases dp_str d1
  have hp := ex_st hp0 S.ex
  obtain ⟨U, hU, lk, sh2⟩ := sh
  obtain ⟨n, q0, h1, h2, h3⟩ := ss x U hU
  have ef : folX r.th c x k = fol r.th k n := by
    unfold folX
    rw [h1]
  have l1 := fol_len r.th k n
  have l2 := gv_len (ths := r.th) (sc := c) so.2.2
  have k5 : k ≤ 5 := so.2.1
  obtain ⟨q1, q2⟩ := q fun _ _ s => (.go, s)
  walk_at "r"
  refine a_ixT (v := u2) hp (atI_nat (j := 1) rfl) ?_
  walk_at "r"
  have gb := S.gb (M := MS s t b us) (fun _ m => .inl m)
  refine ⟨dl (MS s t b us) H, s, t, b, _, sd, c, N, u2, x, k, n, q0, rfl, ⟨us, S.big _ (fun _ m => m)⟩, D.ex gb, dp_ex gb d2, th, h1, h2, by rw [h3]; exact lk, k5, by simp only; omega, fun m H1 em i1 S1 => ?_, fun H1 em i1 S1 => ?_⟩
  · obtain ⟨us1, S1⟩ := S1
    have S1 := S1.sub gb
    have gb1 := S1.gb (M := MS s t b us1) (fun _ m => .inl m)
    obtain ⟨u0, e3, l3⟩ := fol_sh th k n q0 h2 (by rw [h3]; exact lk) m em
    walk_at "r"
    refine ⟨rfl, ?_⟩
    walk_at "r"
    refine ite2 (fun y => absurd (of_decide_eq_true y) (fun z => by cases z)) (fun _ => ?_)
    walk_at "r"
    refine a_ixT (v := u3) (ex_st hp0 S1.ex) (atI_nat (j := 2) rfl) ?_
    walk_at "r"
    refine ⟨dl (MS s t b us1) H1, s, t, b, _, sd, c, N, u3, e, _, src, rfl, ⟨us1, S1.big _ (fun _ m => m)⟩, D.ex gb1, dp_ex gb1 d3, th, ss, sh2, so.2.2, by simp only [List.length_append]; omega, fun v2 lt u us2 H2 ev i2 S2 nlt flt du => ?_, fun H2 ev i2 S2 => ?_⟩
    · have S2 := S2.sub gb1
      have eq : ex1 false (fun _ _ s => (Out.go, s)) c r (.put x k src) = (.go, ⟨r.th.set m ⟨u0.x, u0.T, v2⟩, r.br ++ (fol r.th k n).1 ++ (gv r.th c src).1 ++ wrB u0 m, r.n + 1⟩, c) := by
        unfold ex1
        rw [if_neg (by simp)]
        dsimp only
        rw [ef]
        cases w : fol r.th k n with
        | mk b o =>
        rw [w] at em
        have em : o = some m := em
        subst em
        cases w2 : gv r.th c src with
        | mk b2 o =>
        rw [w2] at ev
        have ev : o = some v2 := ev
        subst ev
        dsimp only
        unfold putT
        rw [e3]
      rw [eq] at q1
      obtain ⟨a, p1, v1, ea, fu, hT, dT, dv⟩ := S2.at e3
      walk_at "r"
      refine a_ixL (v := .ref t) (SqL.of S2.o) (atI_nat (j := 0) rfl) ?_
      walk_at "r"
      refine a_ixL (v := .ref a) (SqL.of S2.ls) (atI_nat (us_at ea)) ?_
      walk_at "r"
      refine a_ixL (v := .ref p1) (SqL.of fu) (atI_nat (j := 0) rfl) ?_
      walk_at "r"
      refine a_ixT (v := .str (hdR u0.T).s) hT (atI_nat (j := 0) (hd_tv (by rw [h3] at l3; omega))) ?_
      walk_at "r"
      refine a_ninS (in_w (hdR u0.T)) ?_
      walk_at "r"
      refine ite2 (fun y => ?A) (fun y => ?B)
      case' A =>
        have eb : wrB u0 m = [(false, m)] := by
          unfold wrB
          rw [if_neg (by simpa using y)]
        walk_at "r"
        refine a_ixL (v := .ref b) (SqL.of S2.o) (atI_nat (j := 1) rfl) ?_
        walk_at "r"
        refine ⟨by
          obtain ⟨ys, fb, _⟩ := S2.br
          exact a_ty fb, ?_⟩
        walk_at "r"
        refine new_tup (by simp) fun t1 h3' n1 g1 f2 => ?_
        walk_at "r"
        refine (S2.exx g1).appB (q := (false, m)) (.tup (SqT.of (im_at f2 rfl)) (.cons (.str _) (.cons (.int _) .nil))) (by simp only [List.length_append]; omega) fun h4 k4 S4 => ?_
        walk_at "r"
        have i4 : Ex (Im H2) (Im h4) := (im_ex g1).trans k4.i
        have flt4 : h4 lt = some (.lst [u]) := k4.at (fun z => nlt (by rw [List.mem_singleton] at z; simp [MS, z])) (g1 _ _ flt)
        have S4 : LU K G h4 s t b us2 ⟨r.th, r.br ++ (fol r.th k n).1 ++ (gv r.th c src).1 ++ wrB u0 m, r.n + 1⟩ := by
          rw [eb]
          exact S4
      case' B =>
        have eb : wrB u0 m = [] := by
          unfold wrB
          rw [if_pos (by simpa using y)]
        walk_at "r"
        have S4 : LU K G H2 s t b us2 ⟨r.th, r.br ++ (fol r.th k n).1 ++ (gv r.th c src).1 ++ wrB u0 m, r.n + 1⟩ := by
          rw [eb, List.append_nil]
          exact S2
        have flt4 := flt
        revert S4 flt4
        generalize hh : H2 = h4
        intro S4 flt4
        have i4 : Ex (Im H2) (Im h4) := by rw [hh]; exact Ex.refl _
      all_goals
        obtain ⟨a', p2, v5, ea', fu2, _, _, _⟩ := S4.at e3
        rw [ea] at ea'
        cases ea'
        refine a_ixL (v := u) (SqL.of flt4) (atI_nat (j := 0) rfl) ?_
        walk_at "r"
        refine a_ixL (v := .ref t) (SqL.of S4.o) (atI_nat (j := 0) rfl) ?_
        walk_at "r"
        refine a_ixL (v := .ref a) (SqL.of S4.ls) (atI_nat (us_at ea)) ?_
        walk_at "r"
        refine S4.setV ea e3 (dp_ex i4 du) fun H5 k5 S5 => ?_
        walk_at "r"
        exact q1 rfl H5 (((i1.trans i2).trans i4).trans k5.i) ⟨_, S5⟩
    · walk_at "r"
      have eq : ex1 false (fun _ _ s => (Out.go, s)) c r (.put x k src) = (.stop, ⟨r.th, r.br ++ (fol r.th k n).1 ++ (gv r.th c src).1, r.n + 1⟩, c) := by
        unfold ex1
        rw [if_neg (by simp)]
        dsimp only
        rw [ef]
        cases w : fol r.th k n with
        | mk b o =>
        rw [w] at em
        have em : o = some m := em
        subst em
        cases w2 : gv r.th c src with
        | mk b2 o =>
        rw [w2] at ev
        have ev : o = none := ev
        subst ev
        rfl
      rw [eq] at q2
      obtain ⟨us2, S2⟩ := S2
      exact q2 rfl H2 (i1.trans i2) ⟨us2, S2.sub gb1⟩
  · walk_at "r"
    have eq : ex1 false (fun _ _ s => (Out.go, s)) c r (.put x k src) = (.stop, ⟨r.th, r.br ++ (fol r.th k n).1, r.n + 1⟩, c) := by
      unfold ex1
      rw [if_neg (by simp)]
      dsimp only
      rw [ef]
      cases w : fol r.th k n with
      | mk b o =>
      rw [w] at em
      have em : o = none := em
      subst em
      rfl
    rw [eq] at q2
    obtain ⟨us1, S1⟩ := S1
    exact q2 rfl H1 i1 ⟨us1, S1.sub gb⟩

end
section
variable {P : Program} {w : World} {K : PySem.W.Frag} {mg : Str → Option Value} {base : Heap}
theorem exs_stop {lim : Bool} {cl : CL} {c : Sc} {s s' : RS} {c' : Sc} {st : Stm} {rest : List Stm} (h : ex1 lim cl c s st = (.stop, s', c')) : exs lim cl c s (st :: rest) = (.stop, s', c') := by
  unfold exs
  rw [h]
theorem exs_long {lim : Bool} {cl : CL} {c : Sc} {s : RS} {st : Stm} {rest : List Stm} (h : (ex1 lim cl c s st).1 = .long) : (exs lim cl c s (st :: rest)).1 = .long := by
  unfold exs
  cases w : ex1 lim cl c s st with
  | mk o p =>
  obtain ⟨s2, c2⟩ := p
  rw [w] at h
  have h : o = .long := h
  subst h
  rfl
theorem exs_step {lim : Bool} {cl : CL} {c : Sc} {s : RS} {st : Stm} {rest : List Stm} (h : (ex1 lim cl c s st).1 = .go) : exs lim cl c s (st :: rest) = exs lim cl (ex1 lim cl c s st).2.2 (ex1 lim cl c s st).2.1 rest := by
  rw [exs]
  cases w : ex1 lim cl c s st with
  | mk o p =>
  obtain ⟨s2, c2⟩ := p
  rw [w] at h
  have h : o = .go := h
  subst h
  rfl
theorem exs_stop1 {lim : Bool} {cl : CL} {c : Sc} {s : RS} {st : Stm} {rest : List Stm} (h : (ex1 lim cl c s st).1 = .stop) : (exs lim cl c s (st :: rest)).1 = .stop ∧ (exs lim cl c s (st :: rest)).2.1 = (ex1 lim cl c s st).2.1 := by
  cases w : ex1 lim cl c s st with
  | mk o p =>
  obtain ⟨s2, c2⟩ := p
  rw [w] at h
  have h : o = .stop := h
  subst h
  rw [exs_stop w]
  exact ⟨rfl, rfl⟩
theorem ok__law_execute (T : Tx K mg) (d : Nat) (he : FnOk P w K mg base CX0 (d + 6) T.a__law_execute T.e__law_execute p__law_execute (pWx K d)) :
    FnOk P w K mg base CX0 (d + 7) T.a__law_execute T.e__law_execute p__law_execute (pWx K (d + 1)) := by
  refine T.d__law_execute.F.ok sc__law_execute (fun vs H Q E h => ?_) (fun cdv A outer s H vs Q E hr h => ?_)
  · obtain ⟨G, s, t, b, sd, pf, v, fs, rr, c, N, e, r, st, rfl, _⟩ := h
    rfl
  obtain ⟨G, s, t, b, sd, pf, v, fs, rr, c, N, e, r, st, rfl, X, B, hd, hv0, so, sh, hnl, q1, q2⟩ := h
  have hu := hu_of hr
  refine ⟨_, (pss_cons (ps_asg (pe_op op_add (pe_ix (ixL K) (pv 0) pe_int (fun _ _ => rfl)) pe_int) (pg_sub (pv 0) pe_int set_list))
    (pss_cons (ps_if (pt_cmpR op_eq (pe_ix (ixT K) (pv 3) pe_int (fun _ _ => rfl)) pe_str (nomark _)) (pss_one (ps_ret (pe_call (ok__law_put T) (hr.mono (by omega)) (by rfl) T.d__law_put.m T.d__law_put.F.kp T.d__law_put.b .nil pass0 (pa_cons (pv 0) (pa_cons (pv 1) (pa_cons (pv 3) pa_nil)))))) pss_nil)
    (pss_cons (ps_if (pt_cmpR op_eq (pe_ix (ixT K) (pv 3) pe_int (fun _ _ => rfl)) pe_str (nomark _)) (pss_cons (ps_set (i := 4) sc__law_execute.nd rfl (.inl rfl) (pe_call (ok__law_give T) (hr.mono (by omega)) (by rfl) T.d__law_give.m T.d__law_give.F.kp T.d__law_give.b .nil pass0 (pa_cons (pv 0) (pa_cons (pv 1) (pa_cons (pe_ix (ixT K) (pv 3) pe_int (fun _ _ => rfl)) pa_nil)))))
    (pss_cons (ps_if (pt_cmpR k_isN (pv 4) pe_non (nomark _)) (pss_one (ps_ret pe_bl)) pss_nil)
    (pss_cons (ps_expr (pe_call (ok__law_new T) (hr.mono (by omega)) (by rfl) T.d__law_new.m T.d__law_new.F.kp T.d__law_new.b .nil pass0 (pa_cons (pv 0) (pa_cons (pv 1) (pa_cons (pe_ix (ixT K) (pv 3) pe_int (fun _ _ => rfl)) (pa_cons (pe_ix (ixT K) (pv 3) pe_int (fun _ _ => rfl)) (pa_cons (pe_ix (ixL K) (pv 4) pe_int (fun _ _ => rfl)) pa_nil)))))))
    (pss_one (ps_ret pe_bl))))) pss_nil)
    (pss_cons (ps_set (i := 5) sc__law_execute.nd rfl (.inl rfl) (pe_lst pa_nil))
    (pss_cons (ps_for PassesOwn.never rfl (plK K (pe_ix (ixT K) (pv 3) pe_int (fun _ _ => rfl))) (pg_name (i := 6) sc__law_execute.nd rfl (.inl rfl)) (pss_cons (ps_set (i := 4) sc__law_execute.nd rfl (.inl rfl) (pe_call (ok__law_give T) (hr.mono (by omega)) (by rfl) T.d__law_give.m T.d__law_give.F.kp T.d__law_give.b .nil pass0 (pa_cons (pv 0) (pa_cons (pv 1) (pa_cons (pv 6) pa_nil)))))
    (pss_cons (ps_if (pt_cmpR k_isN (pv 4) pe_non (nomark _)) (pss_one (ps_ret pe_bl)) pss_nil)
    (pss_one (ps_expr (pe_bm PySem.F.plainAttrs_list PySem.F.slot_list_append PySem.F.type_list_append mt_append (pv 5) (pa_cons (pe_ix (ixL K) (pv 4) pe_int (fun _ _ => rfl)) pa_nil)))))))
    (pss_cons (ps_set (i := 7) sc__law_execute.nd rfl (.inl rfl) (pe_ix (ixL K) (pe_lc (own := [("g", 11)]) (g := gName 11) rfl sc__law_execute.nd  (plK K (pv 2)) (blkOk_by (own := [("g", 11)]) (N := n__law_execute) (sc := defScope s__law_execute) (by decide +kernel)) (fun _ _ _ _ _ => (pg_name (i := 11) sc__law_execute.nd rfl (Or.inl rfl))) (fun _ _ _ _ _ => (pts_one (pt_cmpR op_eq (pe_ix (ixL K) (pv 11) pe_int (fun _ _ => rfl)) (pe_ix (ixT K) (pv 3) pe_int (fun _ _ => rfl)) (nomark _)))) (fun _ _ _ _ _ => (pv 11))) pe_int (fun _ _ => rfl)))
    (pss_cons (ps_set (i := 8) sc__law_execute.nd rfl (.inl rfl) pe_dnewK)
    (pss_cons (ps_for PassesOwn.never rfl (pi_range1 (by rfl) T.b_range (pa_cons (pe_callB (lenK K) (by rfl) T.b_len PySem.boot_len (pa_cons (pv 5) pa_nil)) pa_nil)) (pg_name (i := 9) sc__law_execute.nd rfl (.inl rfl)) (pss_one (ps_expr (pe_call (ok__law_new T) (hr.mono (by omega)) (by rfl) T.d__law_new.m T.d__law_new.F.kp T.d__law_new.b .nil pass0 (pa_cons (pv 0) (pa_cons (pv 8) (pa_cons (pe_ix (ixT K) (pe_ix (ixL K) (pe_ix (ixL K) (pv 7) pe_int (fun _ _ => rfl)) (pv 9) (fun _ _ => rfl)) pe_int (fun _ _ => rfl)) (pa_cons (pe_ix (ixT K) (pe_ix (ixL K) (pe_ix (ixL K) (pv 7) pe_int (fun _ _ => rfl)) (pv 9) (fun _ _ => rfl)) pe_int (fun _ _ => rfl)) (pa_cons (pe_ix (ixL K) (pv 5) (pv 9) (fun _ _ => rfl)) pa_nil)))))))))
    (pss_cons (ps_for PassesOwn.never rfl (plK K (pe_ix (ixL K) (pv 7) pe_int (fun _ _ => rfl))) (pg_name (i := 10) sc__law_execute.nd rfl (.inl rfl)) (pss_one (ps_if (pt_not (pt_val (pe_call he (hr.mono (by omega)) (by rfl) T.d__law_execute.m T.d__law_execute.F.kp T.d__law_execute.b .nil pass0 (pa_cons (pv 0) (pa_cons (pv 8) (pa_cons (pv 2) (pa_cons (pv 10) pa_nil))))))) (pss_one (ps_ret pe_bl)) pss_nil)))
    (pss_one (ps_ret pe_bl))))))))))), ?_⟩
  obtain ⟨us, S⟩ := X.sa
  obtain ⟨B1, B2, B3⟩ := B
  have nl : ¬ (true = true ∧ 1000 ≤ r.n) := fun z => hnl (by unfold ex1; rw [if_pos z])
  have nmd := X.dd.nm S
  have n1000 : r.n < 1000 := Nat.lt_of_not_le fun z => nl ⟨rfl, z⟩
  walk_at "r"
  refine a_ixL (v := .int (r.n : Int)) (SqL.of S.o) (atI_nat (j := 2) rfl) ?_
  walk_at "r"
  refine S.cnt rfl fun H1 k1 S1 => ?_
  have D1 : ScD H1 sd c N := X.dd.at k1 (fun m => by
    rw [List.mem_singleton] at m
    exact nmd (by simp [MS, m]))
  have nmd1 := D1.nm S1
  have hv1 := dp_ex S1.ex hv0
  have gb := S1.gb (M := MS s t b us) (fun _ m => .inl m)
  walk_at "r"
  cases st with
  | lt x U src =>
    obtain ⟨p, u1, u2, u3, u4, rfl, hp0, d1, d2, d3, d4⟩ := dp_fou hv0
    cases dp_str d1
    cases dp_str d2
    obtain ⟨a, rfl, ha⟩ := dp_ruT d3
    have hp := ex_st hp0 S1.ex
    refine a_ixT (v := .str "let") hp (atI_nat (j := 0) rfl) ?_
    walk_at "r"
    refine ite2 (fun y => absurd (show decide (("let" : Str) = "put") = true from y) (by decide)) (fun y => ?_)
    walk_at "r"
    refine a_ixT (v := .str "let") hp (atI_nat (j := 0) rfl) ?_
    walk_at "r"
    refine ite2 (fun y => ?_) (fun y => absurd (show decide (("let" : Str) = "let") = true from by decide) y)
    walk_at "r"
    refine a_ixT (v := u4) hp (atI_nat (j := 3) rfl) ?_
    walk_at "r"
    have lg := gv_len (ths := r.th) (sc := c) so.2.2
    refine ⟨dl (MS s t b us) H1, s, t, b, _, sd, c, N, u4, e, _, src, rfl, ⟨us, S1.big _ (fun _ m => m)⟩, D1.dl nmd1, dp_ex gb d4, X.th, X.ss, sh.2, so.2.2, (by show r.br.length ≤ 70000; omega), fun v2 lt u us2 H2 ev i2 S2 nlt flt du => ?_, fun H2 ev i2 S2 => ?_⟩
    · have D2 : ScD H2 sd c N := (D1.dl nmd1).ex S2.ex
      have S2 := S2.sub gb
      have nmd2 := D2.nm S2
      have hp2 := ex_st hp0 S2.ex
      walk_at "r"
      refine a_ixT (v := .str x) hp2 (atI_nat (j := 1) rfl) ?_
      walk_at "r"
      refine a_ixT (v := .ref a) hp2 (atI_nat (j := 2) rfl) ?_
      walk_at "r"
      refine a_ixL (v := u) (SqL.of flt) (atI_nat (j := 0) rfl) ?_
      walk_at "r"
      refine ⟨G, s, t, b, _, sd, c, N, x, a, U, u, v2, rfl, ⟨us2, S2⟩, D2, X.gd, by have := X.nN; omega, ?_, du, by simp only; omega, fun H3 i3 S3 D3 => ?_⟩
      · exact dp_ex (im_ex S2.ex) (dp_im d3 (nt_ru U))
      walk_at "r"
      have eq : ex1 true (callF true rr) c r (.lt x U src) = (.go, ⟨r.th ++ [⟨x, U, v2⟩], r.br ++ (gv r.th c src).1, r.n + 1⟩, c.put x r.th.length) := by
        unfold ex1
        rw [if_neg nl]
        dsimp only
        cases w : gv r.th c src with
        | mk b o =>
        rw [w] at ev
        have ev : o = some v2 := ev
        rw [ev]
      rw [eq] at q1
      exact q1 rfl H3 ((k1.i.trans i2).trans i3) S3 D3
    · walk_at "r"
      have eq : ex1 true (callF true rr) c r (.lt x U src) = (.stop, ⟨r.th, r.br ++ (gv r.th c src).1, r.n + 1⟩, c) := by
        unfold ex1
        rw [if_neg nl]
        dsimp only
        cases w : gv r.th c src with
        | mk b o =>
        rw [w] at ev
        have ev : o = none := ev
        rw [ev]
      rw [eq] at q2
      obtain ⟨us2, S2⟩ := S2
      exact q2 rfl H2 (k1.i.trans i2) ⟨us2, S2.sub gb⟩
  | put x k src =>
    obtain ⟨p, u1, u2, u3, rfl, hp0, d1, d2, d3⟩ := dp_thr hv0
    cases dp_str d1
    have hp := ex_st hp0 S1.ex
    refine a_ixT (v := .str "put") hp (atI_nat (j := 0) rfl) ?_
    walk_at "r"
    refine ite2 (fun y => ?_) (fun y => absurd (show decide (("put" : Str) = "put") = true from by decide) y)
    walk_at "r"
    have eqf : ∀ cl, ex1 false cl c r (.put x k src) = ex1 true (callF true rr) c r (.put x k src) := fun cl => by
      unfold ex1
      rw [if_neg nl, if_neg (by simp)]
    have ec : (ex1 true (callF true rr) c r (.put x k src)).2.2 = c := by
      unfold ex1
      rw [if_neg nl]
      dsimp only
      cases folX r.th c x k with
      | mk b1 o =>
      cases o with
      | none => rfl
      | some m =>
      dsimp only
      cases gv r.th c src with
      | mk b2 o =>
      cases o with
      | none => rfl
      | some v2 =>
      dsimp only
      unfold putT
      cases r.th[m]? with
      | none => rfl
      | some t => rfl
    rw [ec] at q1
    refine ⟨dl (MS s t b us) H1, s, t, b, r, sd, c, N, .ref p, x, k, src, rr, e, rfl, ⟨us, S1.big _ (fun _ m => m)⟩, D1.dl nmd1, dp_ex gb hv0, so, sh, X.th, X.ss, by omega, fun cl => ?_⟩
    rw [eqf cl]
    refine ⟨fun g H2 i2 S2 => ?_, fun g H2 i2 S2 => ?_⟩
    · obtain ⟨us2, S2⟩ := S2
      have D2 : ScD H2 sd c N := (D1.dl nmd1).ex S2.ex
      exact q1 g H2 (k1.i.trans i2) ⟨us2, S2.sub gb⟩ (D2.mono (Nat.le_succ _))
    · obtain ⟨us2, S2⟩ := S2
      exact q2 g H2 (k1.i.trans i2) ⟨us2, S2.sub gb⟩
  | call f ss =>
    obtain ⟨p, u1, u2, u3, rfl, hp0, d1, d2, d3⟩ := dp_thr hv0
    cases dp_str d1
    cases dp_str d2
    obtain ⟨lp, ys, rfl, hy0, dy0⟩ := dp_lst d3
    have ly : ys.length = ss.length := by rw [dpa_len dy0, List.length_map]
    obtain ⟨g, hg, rfl, hs⟩ := sh
    have ll := shSrcs_len hs
    have gk := X.fo g hg
    have p4 := gk.p4
    have b12 := gk.b12
    obtain ⟨r2, r21, r22, r23, r24, r25, r26⟩ := callF_at (lim := true) X.sh g hg
    obtain ⟨xs, hf0, df0⟩ := X.fn
    have lx : xs.length = fs.length := by rw [dpa_len df0, List.length_map]
    obtain ⟨rr2, hflt⟩ := filt_prm X.nf (X.sub g hg) rfl
    have f4 := X.f4
    have hp := ex_st hp0 S1.ex
    rw [ex1_call nl] at q1 q2 hnl
    refine a_ixT (v := .str "call") hp (atI_nat (j := 0) rfl) ?_
    walk_at "r"
    refine ite2 (fun y => absurd (show decide (("call" : Str) = "put") = true from y) (by decide)) (fun y => ?_)
    walk_at "r"
    refine a_ixT (v := .str "call") hp (atI_nat (j := 0) rfl) ?_
    walk_at "r"
    refine ite2 (fun y => absurd (show decide (("call" : Str) = "let") = true from y) (by decide)) (fun y => ?_)
    walk_at "r"
    refine new_lst (xs := []) (by simp) fun l H2 n2 e2 f2 => ?_
    walk_at "r"
    have S2 := S1.exx e2
    have D2 := D1.ex e2
    have gl : G l = none := ex_none S1.ex n2
    have ld : l ≠ sd := by
      obtain ⟨kvs, fd, _⟩ := D1
      exact (ne_old fd n2).symm
    refine a_ixT (v := .ref lp) (ex_st hp0 S2.ex) (atI_nat (j := 2) rfl) ?_
    walk_at "r"
    refine r_L (ex_sl hy0 S2.ex) ?_
    refine lp_list (xs := ys) (fun i σ h => (∃ x4 x6 x7 x8 x9 x10 x11, σ = [some (.ref s), some (.ref sd), some (.ref pf), some (.ref p), x4, some (.ref l), x6, x7, x8, x9, x10, x11]) ∧ Ex (Im H) (Im h) ∧ ∃ bi vsi acc us', h l = some (.lst acc) ∧ DpAll K (Im h) acc (List.map vlD vsi) ∧ vsi.length = i ∧ LU K G h s t b us' ⟨r.th, r.br ++ bi, r.n + 1⟩ ∧ l ∉ MS s t b us' ∧ ScD h sd c N ∧ bi.length ≤ 6 * i ∧
        gvs r.th c ss = (bi ++ (gvs r.th c (ss.drop i)).1, (gvs r.th c (ss.drop i)).2.map (vsi ++ ·)))
      ⟨⟨_, _, _, _, _, _, _, rfl⟩, k1.i.trans (im_ex e2), [], [], [], us, f2, .nil, rfl, by rw [List.append_nil]; exact S2, S1.nin n2, D2, Nat.le_refl _, by
        rw [List.drop_zero]
        show gvs r.th c ss = ((gvs r.th c ss).1, (gvs r.th c ss).2.map fun x => x)
        rw [Option.map_id']⟩ (fun i σ h _ z => by
        obtain ⟨_, _, _, _, _, _, _, _, _, Sh, _⟩ := z
        exact ex_sl hy0 Sh.ex) ?_ ?_
    · rintro i v σ h hi ⟨⟨x4, x6, x7, x8, x9, x10, x11, rfl⟩, ih, bi, vsi, acc, us', fl, da, lv, Sh, nlh, Dh, lb, eg⟩
      obtain ⟨dd, hdd, dv⟩ := dpa_at dy0 hi
      rw [List.getElem?_map] at hdd
      cases hsr : ss[i]? with
      | none => rw [hsr] at hdd; cases hdd
      | some src =>
      rw [hsr] at hdd
      cases hdd
      have hi1 := at_lt hsr
      have dr := drop_at hsr
      obtain ⟨sl, shl⟩ := shSrcs_at hs hsr
      have oso : sO src := so.2.2 src (List.mem_of_getElem? hsr)
      have lgv := gv_len (ths := r.th) (sc := c) oso
      have l4 := so.2.1
      have la : acc.length = i := by rw [dpa_len da, List.length_map, lv]
      have gbh := Sh.gb (M := MS s t b us') (fun _ m => .inl m)
      walk_at "r"
      refine ⟨dl (MS s t b us') h, s, t, b, _, sd, c, N, v, e, sl, src, rfl, ⟨us', Sh.big _ (fun _ m => m)⟩, Dh.dl (Dh.nm Sh), dp_ex gbh dv, X.th, X.ss, shl, oso, by simp only [List.length_append]; omega, fun v2 lt u us2 H3 ev i3 S3 nlt flt du => ?_, fun H3 ev i3 S3 => ?_⟩
      · have fl3 : H3 l = some (.lst acc) := S3.ex _ _ (dl_at nlh fl)
        have nl3 := S3.out (dl_at nlh fl)
        have D3 : ScD H3 sd c N := (Dh.dl (Dh.nm Sh)).ex S3.ex
        have S3 := S3.sub gbh
        walk_at "r"
        refine ⟨a_ty fl3, ?_⟩
        walk_at "r"
        refine a_ixL (v := u) (SqL.of flt) (atI_nat (j := 0) rfl) ?_
        walk_at "r"
        refine a_appK fl3 (by omega) fun H4 k4 f4' => ?_
        have S4 := S3.kp k4 (fun a m => by rw [List.mem_singleton.mp m]; exact ⟨gl, nl3⟩)
        refine ⟨⟨_, _, _, _, _, _, _, rfl⟩, (ih.trans i3).trans k4.i, bi ++ (gv r.th c src).1, vsi ++ [v2], acc ++ [u], us2, f4', ?_, by rw [List.length_append, lv]; rfl, ?_, nl3, D3.at k4 (by simpa using ld.symm), by rw [List.length_append]; omega, ?_⟩
        · rw [List.map_append]
          exact dpa_snoc (dpa_ex (i3.trans k4.i) da) (dp_ex k4.i du)
        · rw [← List.append_assoc]
          exact S4
        · rw [eg, dr]
          cases w0 : gv r.th c src with
          | mk b o =>
          rw [w0] at ev
          have ev : o = some v2 := ev
          subst ev
          rw [gvs_snoc w0, List.append_assoc]
          simp only [Option.map_map]
          congr 1
          cases (gvs r.th c (ss.drop (i + 1))).2 with
          | none => rfl
          | some us => simp
      · walk_at "r"
        have en : gvs r.th c ss = (bi ++ (gv r.th c src).1, none) := by
          rw [eg, dr]
          cases w0 : gv r.th c src with
          | mk b o =>
          rw [w0] at ev
          have ev : o = none := ev
          subst ev
          rw [gvs_none w0]
          rfl
        have ex : exC (callF true rr) c ⟨r.th, r.br, r.n + 1⟩ g.n ss = (.stop, ⟨r.th, r.br ++ (bi ++ (gv r.th c src).1), r.n + 1⟩) := by
          unfold exC
          rw [en]
        rw [ex] at q2
        obtain ⟨us3, S3⟩ := S3
        exact q2 rfl H3 (ih.trans i3) ⟨us3, by rw [← List.append_assoc]; exact S3.sub gbh⟩
    · rintro σ h ⟨⟨x4, x6, x7, x8, x9, x10, x11, rfl⟩, ih, bi, vsi, acc, us', fl, da, lv, Sh, nlh, Dh, lb, eg⟩
      have eg2 : gvs r.th c ss = (bi, some vsi) := by
        rw [eg, ly, List.drop_length]
        simp [gvs]
      have ex : exC (callF true rr) c ⟨r.th, r.br, r.n + 1⟩ g.n ss = callF true rr g.n vsi ⟨r.th, r.br ++ bi, r.n + 1⟩ := by
        unfold exC
        rw [eg2]
      rw [ex, r26] at q1 q2 hnl
      have gsh := gvs_sh X.th X.ss hs vsi (by rw [eg2])
      have la : acc.length = g.p.length := by rw [dpa_len da, List.length_map, lv, ly, ll]
      have so2 := so.2.1
      walk_at "r"
      refine c_L (ex_sl hf0 Sh.ex) ?_
      refine cp_list (xs := xs) (fun l' k h' => Ex h h' ∧ ∃ acc', h' l' = some (.lst acc') ∧ DpAll K G acc' (((fs.take k).filter fun z => decide (z.n = g.n)).map tfD)) (fun l' n => ⟨Ex.new n, [], upd_same, .nil⟩) (fun l' k h' _ _ z => ex_sl (ex_sl hf0 Sh.ex) z.1) ?_ ?_
      · rintro l' k x h' nl' hk ⟨e1, acc', f1, D1'⟩
        obtain ⟨d', hd', dx⟩ := dpa_at df0 hk
        rw [List.getElem?_map] at hd'
        cases hz' : fs[k]? with
        | none => rw [hz'] at hd'; cases hd'
        | some z =>
        rw [hz'] at hd'
        cases hd'
        have dx0 := dx
        obtain ⟨pz, w1, w2, w3, rfl, hpz, g1, g2, g3⟩ := dp_l3 dx
        cases dp_str g1
        have hk2 := at_lt hz'
        have la' := dpa_len D1'
        have lf := List.length_filter_le (fun z : TF => decide (z.n = g.n)) (fs.take k)
        rw [List.length_map] at la'
        rw [List.length_take] at lf
        have E1 : Ex G h' := Sh.ex.trans e1
        walk_at "r"
        refine ⟨rfl, ?_⟩
        walk_at "r"
        refine a_ixL (v := .str z.n) (ex_sl hpz E1) (atI_nat (j := 0) rfl) ?_
        walk_at "r"
        refine a_ixT (v := .str g.n) (ex_st hp0 E1) (atI_nat (j := 1) rfl) ?_
        walk_at "r"
        refine ite2 (fun c => ?_) (fun c => ?_)
        · have cc := of_decide_eq_true c
          walk_at "r"
          refine ⟨acc', f1, sz_lt (by omega), e1.mut nl', _, upd_same, ?_⟩
          rw [take_snoc hz', List.filter_append, List.map_append, show [z].filter (fun z : TF => decide (z.n = g.n)) = [z] from by simp [cc]]
          exact dpa_snoc D1' dx0
        · refine ⟨e1, acc', f1, ?_⟩
          rw [take_snoc hz', List.filter_append, List.map_append, show [z].filter (fun z : TF => decide (z.n = g.n)) = [] from by simp at c; simp [c]]
          simpa using D1'
      rintro l' h2 nl' ⟨e1, acc', f1, D1'⟩
      rw [lx, List.take_length, hflt] at D1'
      cases D1' with
      | cons g1 g2 =>
      obtain ⟨pg, w1, w2, w3, rfl, hpg, gn1, gn2, gn3⟩ := dp_l3 g1
      cases dp_str gn1
      obtain ⟨pp, pxs, rfl, hpp, dpp⟩ := dp_lst gn2
      obtain ⟨pb, bxs, rfl, hpb, dpb⟩ := dp_lst gn3
      have lpx : pxs.length = g.p.length := by rw [dpa_len dpp, List.length_map]
      walk_at "r"
      refine a_ixL (v := .ref pg) (SqL.of f1) (atI_nat (j := 0) rfl) ?_
      walk_at "r"
      refine new_dK fun sx H3 n3 e3 f3 => ?_
      have Sh2 := (Sh.exx e1).exx e3
      have nx2 := (Sh.exx e1).nin n3
      have gx : G sx = none := ex_none (Sh.exx e1).ex n3
      have fl2 := e1 _ _ fl
      have Dh2 := Dh.ex e1
      have xl : sx ≠ l := (ne_old fl2 n3).symm
      have xd : sd ≠ sx := by
        obtain ⟨kvs, fd, _⟩ := Dh2
        exact ne_old fd n3
      have gb2 : Ex G (dl (sx :: MS s t b us') H3) := Sh2.gb (fun a m => by
        rcases List.mem_cons.mp m with rfl | m
        · exact .inr gx
        · exact .inl m)
      have D32 := Dh2.ex e3
      have Dn : ScD (dl (sx :: MS s t b us') H3) sd c N := D32.dl (fun m => by
        rcases List.mem_cons.mp m with m | m
        · exact xd m
        · exact D32.nm Sh2 m)
      have fln : dl (sx :: MS s t b us') H3 l = some (.lst acc) := dl_at (fun m => by
        rcases List.mem_cons.mp m with m | m
        · exact xl m.symm
        · exact nlh m) (e3 _ _ fl2)
      have SG := Sh2.big (sx :: MS s t b us') (fun a m => List.mem_cons_of_mem _ m)
      have GX : dl (sx :: MS s t b us') H3 sx = none := dl_in (List.mem_cons_self ..)
      have ih3 := (ih.trans (im_ex e1)).trans (im_ex e3)
      have da3 := dpa_ex ((im_ex e1).trans (im_ex e3)) da
      generalize dl (sx :: MS s t b us') H3 = G2 at gb2 Dn fln SG GX
      walk_at "r"
      refine a_lenL (SqL.of (e3 _ _ fl2)) ?_
      walk_at "r"
      refine r_R1 (by omega) ?_
      have Z := X.th
      refine lp_range (fun j σ h5 => (∃ x4 x6 x9 x10 x11, σ = [some (.ref s), some (.ref sd), some (.ref pf), some (.ref p), x4, some (.ref l), x6, some (.ref pg), some (.ref sx), x9, x10, x11]) ∧ Ex (Im H) (Im h5) ∧ Ex (Im H3) (Im h5) ∧
          ∃ tj cj, LS K G2 h5 s t b ⟨tj, r.br ++ bi, r.n + 1⟩ ∧ ScD h5 sx cj j ∧ tj.length = r.th.length + j ∧ bindP r.th sc0 g.p vsi = bindP tj cj (g.p.drop j) (vsi.drop j))
        ⟨⟨_, _, _, _, _, rfl⟩, ih3, Ex.refl _, r.th, sc0, ⟨us', SG⟩, ScD.nil f3, rfl, rfl⟩ ?_ ?_
      · rintro j σ h5 hj ⟨⟨x4, x6, x9, x10, x11, rfl⟩, i5, i35, tj, cj, ⟨us5, S5⟩, Dj, lj, ej⟩
        have hj1 : j < g.p.length := by omega
        have hj2 : j < vsi.length := by omega
        obtain ⟨qq, hq⟩ : ∃ qq, g.p[j]? = some qq := ⟨_, List.getElem?_eq_getElem hj1⟩
        obtain ⟨vl, hvl⟩ : ∃ vl, vsi[j]? = some vl := ⟨_, List.getElem?_eq_getElem hj2⟩
        obtain ⟨px, hpx⟩ : ∃ px, pxs[j]? = some px := ⟨_, List.getElem?_eq_getElem (by omega)⟩
        obtain ⟨vx, hvx⟩ : ∃ vx, acc[j]? = some vx := ⟨_, List.getElem?_eq_getElem (by omega)⟩
        obtain ⟨dd1, hdd1, dpx⟩ := dpa_at dpp hpx
        rw [List.getElem?_map, hq] at hdd1
        cases hdd1
        obtain ⟨dd2, hdd2, dvx⟩ := dpa_at da3 hvx
        rw [List.getElem?_map, hvl] at hdd2
        cases hdd2
        obtain ⟨pq, y1, y2, rfl, hpq, dq1, dq2⟩ := dp_two dpx
        cases dp_str dq1
        obtain ⟨tp, rfl, htp⟩ := dp_ruT dq2
        have E5 : Ex G h5 := gb2.trans S5.ex
        have k0 : (0 : Int) + (j : Int) = ((j : Nat) : Int) := Int.zero_add _
        rw [k0]
        walk_at "r"
        refine a_ixL (v := .ref pp) (ex_sl hpg E5) (atI_nat (j := 1) rfl) ?_
        walk_at "r"
        refine a_ixL (v := .ref pq) (ex_sl hpp E5) (atI_nat hpx) ?_
        walk_at "r"
        refine a_ixT (v := .str qq.1) (ex_st hpq E5) (atI_nat (j := 0) rfl) ?_
        walk_at "r"
        refine a_ixL (v := .ref pp) (ex_sl hpg E5) (atI_nat (j := 1) rfl) ?_
        walk_at "r"
        refine a_ixL (v := .ref pq) (ex_sl hpp E5) (atI_nat hpx) ?_
        walk_at "r"
        refine a_ixT (v := .ref tp) (ex_st hpq E5) (atI_nat (j := 1) rfl) ?_
        walk_at "r"
        refine a_ixL (v := vx) (SqL.of (S5.ex _ _ fln)) (atI_nat hvx) ?_
        walk_at "r"
        refine ⟨G2, s, t, b, _, sx, cj, j, qq.1, tp, qq.2, vx, vl, rfl, ⟨us5, S5⟩, Dj, GX, by omega, ?_, dp_ex i35 dvx, by simp only; omega, fun h6 i6 S6 D6 => ?_⟩
        · exact dp_ex (im_ex E5) (dp_im dq2 (nt_ru qq.2))
        walk_at "r"
        refine ⟨⟨_, _, _, _, _, rfl⟩, i5.trans i6, i35.trans i6, _, _, S6, D6, by rw [List.length_append, lj]; simp; omega, ?_⟩
        rw [ej, drop_at hq, drop_at hvl]
        rfl
      · rintro σ h5 ⟨⟨x4, x6, x9, x10, x11, rfl⟩, i5, i35, tj, cj, ⟨us5, S5⟩, Dj, lj, ej⟩
        have zz : ((acc.length : Nat) : Int).toNat = g.p.length := by omega
        rw [zz] at ej Dj lj
        rw [List.drop_length] at ej
        have ej2 : bindP r.th sc0 g.p vsi = (tj, cj) := ej
        rw [ej2] at q1 q2 hnl
        obtain ⟨s1, s2, s3⟩ := bind_sh X.th (ScSh.nil _ sc0) r25 gsh
        rw [ej2] at s1 s2 s3
        have E5 : Ex G h5 := gb2.trans S5.ex
        have kcl := callF_sb (fun q hq => X.fo q (r22 q hq))
        have lbx : bxs.length = g.b.length := by rw [dpa_len dpb, List.length_map]
        walk_at "r"
        refine a_ixL (v := .ref pb) (ex_sl hpg E5) (atI_nat (j := 2) rfl) ?_
        walk_at "r"
        refine r_L (ex_sl hpb E5) ?_
        refine lp_list (xs := bxs) (fun i σ h6 => (∃ x4 x6 x9 x10 x11, σ = [some (.ref s), some (.ref sd), some (.ref pf), some (.ref p), x4, some (.ref l), x6, some (.ref pg), some (.ref sx), x9, x10, x11]) ∧ Ex (Im H) (Im h6) ∧ ∃ c' e' s', LS K G2 h6 s t b s' ∧ ScD h6 sx c' (g.p.length + i) ∧ ThSh s'.th ∧ ScSh s'.th c' e' ∧ SB s' ∧ shBlk r2 e' (g.b.drop i) ∧
            exs true (callF true r2) cj ⟨tj, r.br ++ bi, r.n + 1⟩ g.b = exs true (callF true r2) c' s' (g.b.drop i)) ⟨⟨_, _, _, _, _, rfl⟩, i5, cj, _, ⟨tj, r.br ++ bi, r.n + 1⟩, ⟨us5, S5⟩, Dj, s1, s2, ⟨by simp only; omega, by simp only [List.length_append]; omega, by simp only; omega⟩, r24, rfl⟩ (fun i σ h6 _ g6 => by
            obtain ⟨_, _, _, _, _, ⟨us6, S6⟩, _⟩ := g6
            exact ex_sl hpb (gb2.trans S6.ex)) ?_ ?_
        · rintro i v σ h6 hi ⟨⟨x4, x6, x9, x10, x11, rfl⟩, i6, c', e', s', S6, D6, th6, ss6, B6, shi, ei⟩
          obtain ⟨dd, hdd, dv⟩ := dpa_at dpb hi
          rw [List.getElem?_map] at hdd
          cases hst : g.b[i]? with
          | none => rw [hst] at hdd; cases hdd
          | some st =>
          rw [hst] at hdd
          cases hdd
          have hi1 := at_lt hst
          have dr := drop_at hst
          rw [dr] at ei shi
          have ost := gk.bo st (List.mem_of_getElem? hst)
          have nl6 : (ex1 true (callF true r2) c' s' st).1 ≠ .long := fun z => hnl (by
            show (exs true (callF true r2) cj ⟨tj, r.br ++ bi, r.n + 1⟩ g.b).1 = .long
            rw [ei]
            exact exs_long z)
          walk_at "r"
          obtain ⟨g1', g2', g3'⟩ := ex1_sh (lim := true) (call_sh r23) th6 ss6 shi.1
          have g4' := ex1_sb kcl (sc := c') ost B6 nl6
          have X' : XW K G2 h6 s t b sx pf fs r2 c' (g.p.length + i) e' s' := ⟨S6, D6, GX, ⟨xs, ex_sl hf0 gb2, dpa_ex gb2 df0⟩, X.f4, X.nf, fun q hq => X.sub q (r22 q hq), r23, fun q hq => X.fo q (r22 q hq), th6, ss6, by omega⟩
          refine ⟨G2, s, t, b, sx, pf, v, fs, r2, c', g.p.length + i, e', s', st, rfl, X', B6, by omega, dp_ex gb2 dv, ost, shi.1, nl6, fun gg H7 i7 S7 D7 => ?_, fun gg H7 i7 S7 => ?_⟩
          · walk_at "r"
            refine ⟨⟨_, _, _, _, _, rfl⟩, i6.trans i7, _, envS e' st, _, S7, by rw [← Nat.add_assoc]; exact D7, g1', g3' gg, g4', shi.2, ?_⟩
            rw [ei]
            exact exs_step gg
          · walk_at "r"
            obtain ⟨z1, z2⟩ := exs_stop1 (rest := g.b.drop (i + 1)) gg
            rw [← ei] at z1 z2
            obtain ⟨us7, S7⟩ := S7
            refine q2 z1 H7 (i6.trans i7) ⟨us7, ?_⟩
            show LU K G H7 s t b us7 (exs true (callF true r2) cj ⟨tj, r.br ++ bi, r.n + 1⟩ g.b).2.1
            rw [z2]
            exact S7.sub gb2
        · rintro σ h6 ⟨⟨x4, x6, x9, x10, x11, rfl⟩, i6, c', e', s', ⟨us6, S6⟩, D6, th6, ss6, B6, shi, ei⟩
          rw [lbx, List.drop_length] at ei
          have ei2 : exs true (callF true r2) cj ⟨tj, r.br ++ bi, r.n + 1⟩ g.b = (.go, s', c') := ei
          walk_at "r"
          dsimp only at q1
          rw [ei2] at q1
          exact q1 rfl h6 i6 ⟨us6, S6.sub gb2⟩ ((Dn.ex S6.ex).mono (Nat.le_succ _))
theorem fn_noneW {CX : CXT} {k : Nat} {f : Addr} {fd : FuncData} {ps : List Str} {sp : Sp} (no : ∀ vs H Q E, ¬ sp vs H Q E) : FnOk P w K mg base CX k f fd ps sp :=
  ⟨fun vs H Q E h => absurd h (no vs H Q E), fun _ _ _ _ _ _ _ _ _ _ _ _ _ h => absurd h (no _ _ _ _)⟩
theorem ok_wxN (T : Tx K mg) : ∀ d : Nat, FnOk P w K mg base CX0 (d + 6) T.a__law_execute T.e__law_execute p__law_execute (pWx K d)
  | 0 => fn_noneW fun vs H Q E h => by
    obtain ⟨G, s, t, b, sd, pf, v, fs, rr, c, N, e, r, st, _, _, _, hd, _⟩ := h
    omega
  | d + 1 => ok__law_execute T d (ok_wxN T d)

end
section
variable {P : Program} {w : World} {K : PySem.W.Frag} {mg : Str → Option Value} {base : Heap}
/-- how the law's own run ends -/
def pWr (K : PySem.W.Frag) : Sp := fun vs H Q _ => ∃ p fs ss ex, vs = [.ref p] ∧ Dp K H (.ref p) (.list [.list (List.map tfD fs), .list (List.map stD ss)]) ∧ POk fs ss ∧ jAll fs ss ex = [] ∧ (runP true fs ss).1 ≠ .long ∧
  ∀ l s t b us H1, Ex H H1 → H l = none → H1 l = some (.lst [.str (if (runP true fs ss).1 = .go then "done" else "stopped"), .ref s]) → LU K H H1 s t b us (runP true fs ss).2.1 → Q (.ref l) H1
theorem ok__law_run (T : Tx K mg) : FnOk P w K mg base CX0 12 T.a__law_run T.e__law_run p__law_run (pWr K) := by
  refine T.d__law_run.F.ok sc__law_run (fun vs H Q E h => ?_) (fun cdv A outer s H vs Q E hr h => ?_)
  · obtain ⟨p, fs, ss, ex, rfl, _⟩ := h
    rfl
  obtain ⟨p, fs, ss, ex, rfl, hp, ok, je, hnl, q⟩ := h
  refine ⟨_, (pss_cons (ps_set (i := 1) sc__law_run.nd rfl (.inl rfl) (pe_lst (pa_cons (pe_lst pa_nil) (pa_cons (pe_lst pa_nil) (pa_cons pe_int pa_nil)))))
    (pss_cons (ps_set (i := 2) sc__law_run.nd rfl (.inl rfl) pe_dnewK)
    (pss_cons (ps_for PassesOwn.never rfl (plK K (pe_ix (ixL K) (pv 0) pe_int (fun _ _ => rfl))) (pg_name (i := 3) sc__law_run.nd rfl (.inl rfl)) (pss_one (ps_if (pt_not (pt_val (pe_call (ok_wxN T 5) (hr.mono (by omega)) (by rfl) T.d__law_execute.m T.d__law_execute.F.kp T.d__law_execute.b .nil pass0 (pa_cons (pv 1) (pa_cons (pv 2) (pa_cons (pe_ix (ixL K) (pv 0) pe_int (fun _ _ => rfl)) (pa_cons (pv 3) pa_nil))))))) (pss_one (ps_ret (pe_lst (pa_cons pe_str (pa_cons (pv 1) pa_nil))))) pss_nil)))
    (pss_one (ps_ret (pe_lst (pa_cons pe_str (pa_cons (pv 1) pa_nil)))))))), ?_⟩
  have nd := (List.nodup_append.mp ok.nd).1
  have f4 := ok.f4
  have s40 := ok.s40
  obtain ⟨good, jg⟩ := prog_good ok je
  obtain ⟨_, u1, u2, e, hp2, d1, d2⟩ := dp_l2 hp
  cases e
  obtain ⟨pf, xs, rfl, hf, df⟩ := dp_lst d1
  obtain ⟨pb, ys, rfl, hb, db⟩ := dp_lst d2
  have ly : ys.length = ss.length := by rw [dpa_len db, List.length_map]
  walk_at "r"
  refine new_lst (xs := []) (by simp) fun t H1 n1 e1 f1 => ?_
  walk_at "r"
  refine new_lst (xs := []) (by simp) fun b H2 n2 e2 f2 => ?_
  walk_at "r"
  refine new_lst (by simp) fun s H3 n3 e3 f3 => ?_
  walk_at "r"
  refine new_dK fun sd H4 n4 e4 f4' => ?_
  walk_at "r"
  have E3 := (e1.trans e2).trans e3
  have E4 := E3.trans e4
  have nt := n1
  have nb := ex_none e1 n2
  have ns := ex_none (e1.trans e2) n3
  have nsd := ex_none E3 n4
  have S4 : LU K H H4 s t b [] s0 := {
    ex := E4
    o := e4 _ _ f3
    ls := (e3.trans e4) _ _ (e2 _ _ f1)
    nd := by simp
    len := rfl
    th := fun i u q e1 => by simp at e1
    br := ⟨[], (e3.trans e4) _ _ f2, .nil⟩
    d := ⟨(ne_old (e2 _ _ f1) n3).symm, (ne_old f2 n3).symm, ne_old f1 n2⟩
    uf := fun u hu => by cases hu
    n := ⟨ns, nt, nb, fun u hu => by cases hu⟩ }
  refine a_ixL (v := .ref pb) (ex_sl hp2 E4) (atI_nat (j := 1) rfl) ?_
  walk_at "r"
  refine r_L (ex_sl hb E4) ?_
  have sub : ∀ g ∈ fs.reverse, g ∈ fs := fun g hg => List.mem_reverse.mp hg
  have fsh := good.sh nd sub
  have fok : ∀ g ∈ fs.reverse, FOk g := fun g hg => ok.fo g (sub g hg)
  have kcl := callF_sb fok
  have eP : runP true fs ss = exs true (callF true fs.reverse) sc0 s0 ss := rfl
  refine lp_list (xs := ys) (fun i σ h => (∃ x3, σ = [some (.ref p), some (.ref s), some (.ref sd), x3]) ∧ ∃ c' e' s', LS K H h s t b s' ∧ ScD h sd c' i ∧ ThSh s'.th ∧ ScSh s'.th c' e' ∧ SB s' ∧ shBlk fs.reverse e' (ss.drop i) ∧
      runP true fs ss = exs true (callF true fs.reverse) c' s' (ss.drop i)) ⟨⟨_, rfl⟩, sc0, e0, s0, ⟨[], S4⟩, ScD.nil f4', (fun t ht => by cases ht), ScSh.nil _ _, ⟨by simp [s0], by simp [s0], by simp [s0]⟩, good_sh nd sub jg, eP⟩ (fun i σ h _ z => by
      obtain ⟨_, _, _, _, ⟨us, S⟩, _⟩ := z
      exact ex_sl hb S.ex) ?_ ?_
  · rintro i v σ h hi ⟨⟨x3, rfl⟩, c', e', s', S6, D6, th6, ss6, B6, shi, ei⟩
    obtain ⟨dd, hdd, dv⟩ := dpa_at db hi
    rw [List.getElem?_map] at hdd
    cases hst : ss[i]? with
    | none => rw [hst] at hdd; cases hdd
    | some st =>
    rw [hst] at hdd
    cases hdd
    have hi1 := at_lt hst
    have dr := drop_at hst
    rw [dr] at ei shi
    have ost := ok.so st (List.mem_of_getElem? hst)
    have nl6 : (ex1 true (callF true fs.reverse) c' s' st).1 ≠ .long := fun z => hnl (by
      rw [ei]
      exact exs_long z)
    obtain ⟨us6, S6⟩ := S6
    walk_at "r"
    refine a_ixL (v := .ref pf) (ex_sl hp2 S6.ex) (atI_nat (j := 0) rfl) ?_
    walk_at "r"
    obtain ⟨g1', g2', g3'⟩ := ex1_sh (lim := true) (call_sh fsh) th6 ss6 shi.1
    have g4' := ex1_sb kcl (sc := c') ost B6 nl6
    have X' : XW K H h s t b sd pf fs fs.reverse c' i e' s' := ⟨⟨us6, S6⟩, D6, nsd, ⟨xs, hf, df⟩, f4, nd, sub, fsh, fok, th6, ss6, by omega⟩
    refine ⟨H, s, t, b, sd, pf, v, fs, fs.reverse, c', i, e', s', st, rfl, X', B6, by rw [List.length_reverse]; omega, dv, ost, shi.1, nl6, fun gg H7 i7 S7 D7 => ?_, fun gg H7 i7 S7 => ?_⟩
    · walk_at "r"
      refine ⟨⟨_, rfl⟩, _, envS e' st, _, S7, D7, g1', g3' gg, g4', shi.2, ?_⟩
      rw [ei]
      exact exs_step gg
    · walk_at "r"
      obtain ⟨z1, z2⟩ := exs_stop1 (rest := ss.drop (i + 1)) gg
      rw [← ei] at z1 z2
      obtain ⟨us7, S7⟩ := S7
      refine new_lst (by simp) fun l H8 n8 e8 f8 => ?_
      exact q l s t b us7 H8 (S7.ex.trans e8) (ex_none S7.ex n8) (by rw [z1, if_neg (by simp)]; exact f8) (by rw [z2]; exact S7.exx e8)
  · rintro σ h ⟨⟨x3, rfl⟩, c', e', s', ⟨us6, S6⟩, D6, th6, ss6, B6, shi, ei⟩
    rw [ly, List.drop_length] at ei
    have ei2 : runP true fs ss = (.go, s', c') := ei
    walk_at "r"
    refine new_lst (by simp) fun l H8 n8 e8 f8 => ?_
    exact q l s t b us6 H8 (S6.ex.trans e8) (ex_none S6.ex n8) (by rw [ei2, if_pos rfl]; exact f8) (by rw [ei2]; exact S6.exx e8)

end
section
variable {P : Program} {w : World} {K : PySem.W.Frag} {mg : Str → Option Value} {base : Heap}
def spLaw (K : PySem.W.Frag) : Sp := fun vs H Q _ => ∃ (a : Addr) (ns : List Int), vs = [.ref a] ∧ SqL K H a (ns.map V.int) ∧ ns.length ≤ 63 ∧ ∀ H', Q (.bl true) H'
theorem sg_small {c : Nat} (h : sgOk c = true) : c < 0x110000 := by
  unfold sgOk at h
  rw [PySem.StrLaws.found_one] at h
  have all : ∀ c ∈ signs.cps.toList, c < 0x110000 := by decide +kernel
  exact all c (of_decide_eq_true h)
theorem nm_strOk {x : Str} (h : nmO x) : PyData.canLay0 (.str x) = true := by
  have h' : (!decide (x = "null") && (decide (1 ≤ x.length) && decide (x.length ≤ 8)) && x.cps.toList.all sgOk) = true := h
  rw [Bool.and_eq_true] at h'
  have h2 := List.all_eq_true.mp h'.2
  simp only [PyData.canLay0, PyData.strOk]
  rw [← Array.all_toList, List.all_eq_true]
  exact fun c hc => decide_eq_true (sg_small (h2 c hc))
def FT (f : Str) : Prop := PyData.canLay0 (.str f) = true
theorem ft1 : FT "unknown name" := by unfold FT; decide +kernel
theorem ft2 : FT "too many stars" := by unfold FT; decide +kernel
theorem ft3 : FT "may not read" := by unfold FT; decide +kernel
theorem ft4 : FT "other depth" := by unfold FT; decide +kernel
theorem ft5 : FT "no conversion" := by unfold FT; decide +kernel
theorem ft6 : FT "may not write" := by unfold FT; decide +kernel
theorem ft0 : FT "" := by unfold FT; decide +kernel
theorem ft_place {e : Env} {x : Str} {k : Nat} {f : Str} (h : jPlace e x k = some f) : FT f := by
  unfold jPlace at h
  cases q : e x with
  | none =>
    rw [q] at h
    cases h
    exact ft1
  | some T =>
    rw [q] at h
    by_cases c : T.length ≤ k
    · simp only [if_pos c] at h
      cases h
      exact ft2
    · simp only [if_neg c] at h
      split at h
      · cases h
      · cases h
        exact ft3
theorem ft_conv {ex : List (List R × List R)} {a b : List R} {f : Str} (h : jConv ex a b = some f) : FT f := by
  unfold jConv at h
  split at h
  · cases h
    exact ft4
  · split at h
    · cases h
    · cases h
      exact ft5
theorem ft_src {e : Env} {ex : List (List R × List R)} {goal : List R} {s : Src} {f : Str} (h : jSrc e ex goal s = some f) : FT f := by
  cases s with
  | num n =>
    have h' : (if goal = [] then none else some ("other depth" : Str)) = some f := h
    split at h'
    · cases h'
    · cases h'
      exact ft4
  | null =>
    have h' : (if goal = [] then some ("other depth" : Str) else none) = some f := h
    split at h'
    · cases h'
      exact ft4
    · cases h'
  | adr x k =>
    have h' : (match jPlace e x k with | some f => some f | none => jConv ex (jSeen e x k) goal) = some f := h
    cases q : jPlace e x k with
    | some g =>
      rw [q] at h'
      cases h'
      exact ft_place q
    | none =>
      rw [q] at h'
      exact ft_conv h'
  | val x k =>
    have h' : (match jPlace e x k with | some f => some f | none => if (hdR (jSeen e x k)).hr then jConv ex ((jSeen e x k).drop 1) goal else some ("may not read" : Str)) = some f := h
    cases q : jPlace e x k with
    | some g =>
      rw [q] at h'
      cases h'
      exact ft_place q
    | none =>
      rw [q] at h'
      dsimp only at h'
      split at h'
      · exact ft_conv h'
      · cases h'
        exact ft3
theorem ft_call {e : Env} {ex : List (List R × List R)} {f : Str} : ∀ (ps : List (Str × List R)) (ss : List Src), jCall e ex ps ss = some f → FT f
  | [], _, h => by cases h
  | _ :: _, [], h => by cases h
  | q :: ps, s :: ss, h => by
    have h' : (match jSrc e ex (q.2.drop 1) s with | some f => some f | none => jCall e ex ps ss) = some f := h
    cases z : jSrc e ex (q.2.drop 1) s with
    | some g =>
      rw [z] at h'
      cases h'
      exact ft_src z
    | none =>
      rw [z] at h'
      exact ft_call ps ss h'
theorem ft_stm {fs : List TF} {e : Env} {ex : List (List R × List R)} {s : Stm} {f : Str} (h : jStm fs e ex s = some f) : FT f := by
  cases s with
  | lt x T s => exact ft_src (show jSrc e ex (T.drop 1) s = some f from h)
  | put x k s =>
    have h' : (match jPlace e x k with | some f => some f | none => if (hdR (jSeen e x k)).hw then jSrc e ex ((jSeen e x k).drop 1) s else some ("may not write" : Str)) = some f := h
    cases q : jPlace e x k with
    | some g =>
      rw [q] at h'
      cases h'
      exact ft_place q
    | none =>
      rw [q] at h'
      dsimp only at h'
      split at h'
      · exact ft_src h'
      · cases h'
        exact ft6
  | call g ss => exact ft_call _ _ (show jCall e ex (prm fs g) ss = some f from h)
theorem ft_blk {fs : List TF} {ex : List (List R × List R)} : ∀ (b : List Stm) (e : Env) (k : Nat), ∀ q ∈ jBlk fs ex e k b, FT q.2
  | [], _, _, q, h => by cases h
  | s :: b, e, k, q, h => by
    rw [jBlk_at'] at h
    rcases List.mem_append.mp h with h | h
    · cases z : jStm fs e ex s with
      | none => rw [z] at h; cases h
      | some f =>
        rw [z] at h
        rw [List.mem_singleton.mp h]
        exact ft_stm z
    · exact ft_blk b _ _ q h
theorem ft_all {fs : List TF} {ss : List Stm} {ex : List (List R × List R)} (ok : POk fs ss) : ∀ q ∈ jAll fs ss ex, FT q.1 ∧ FT q.2.2 := fun q h => by
  rcases List.mem_append.mp h with h | h
  · obtain ⟨f, hf, h⟩ := List.mem_flatMap.mp h
    obtain ⟨z, hz, rfl⟩ := List.mem_map.mp h
    exact ⟨nm_strOk (ok.fo f hf).n, ft_blk _ _ _ z hz⟩
  · obtain ⟨z, hz, rfl⟩ := List.mem_map.mp h
    exact ⟨ft0, ft_blk _ _ _ z hz⟩
theorem fa_all : ∀ (qs : List (Str × Nat × Str)), (∀ q ∈ qs, FT q.1 ∧ FT q.2.2) → PyData.canLayAll0 (qs.map faD) = true ∧ PyData.depthAll (qs.map faD) ≤ 3
  | [], _ => by simp [PyData.canLayAll0, PyData.depthAll]
  | q :: qs, h => by
    have ih := fa_all qs fun p hp => h p (List.mem_cons_of_mem _ hp)
    obtain ⟨h1, h2⟩ := h q (List.mem_cons_self ..)
    have e : PyData.canLay0 (faD q) = true := by
      unfold faD
      simp only [PyData.canLay0, PyData.canLayAll0, Bool.and_eq_true]
      exact ⟨by simpa [FT, PyData.canLay0] using h1, trivial, by simpa [FT, PyData.canLay0] using h2, trivial⟩
    have d : PyData.depth (faD q) ≤ 3 := by
      unfold faD
      simp only [PyData.depth, PyData.depthAll]
      omega
    rw [List.map_cons]
    simp only [PyData.canLayAll0, PyData.depthAll, Bool.and_eq_true]
    exact ⟨⟨e, ih.1⟩, by have := ih.2; omega⟩
theorem shp_fa {qs : List (Str × Nat × Str)} (h : ∀ q ∈ qs, FT q.1 ∧ FT q.2.2) : SeqAt.shaped (.list (qs.map faD)) = true ∧ PyData.eqv (.list (qs.map faD)) (.list (qs.map faD)) = true := by
  have z := fa_all qs h
  have c : PyData.canLay0 (.list (qs.map faD)) = true := by
    simp only [PyData.canLay0]
    exact z.1
  refine ⟨?_, PySem.SeqAt.eqv_refl _ c⟩
  unfold SeqAt.shaped
  rw [c]
  simp only [PyData.depth, Bool.true_and]
  exact decide_eq_true (by omega)
theorem eqv_nil (qs : List (Str × Nat × Str)) : PyData.eqv (.list (qs.map faD)) (.list []) = decide (qs.length = 0) := by
  cases qs with
  | nil => rfl
  | cons q qs => rfl
def pPair (K : PySem.W.Frag) : Sp := fun vs H Q _ => ∃ (b r : Addr) (m : Int), vs = [.ref b, .int m] ∧ Bx H b r ∧ 0 ≤ m ∧ m ≤ 100 ∧ ∀ p a c (xs ys : List R) H', Ks [b] H H' → Bx H' b r → H' p = some (.lst [.ref a, .ref c]) → SqT K H' a (tv xs) → SqT K H' c (tv ys) → xs.length = ys.length → (xs.length : Int) ≤ m → Q (.ref p) H'
theorem ok__law_pair (T : Tx K mg) : FnOk P w K mg base CX0 4 T.a__law_pair T.e__law_pair p__law_pair (pPair K) := by
  refine T.d__law_pair.F.ok sc__law_pair (fun vs H Q E h => ?_) (fun cdv A outer s H vs Q E hr h => ?_)
  · obtain ⟨b, r, m, rfl, _⟩ := h
    rfl
  obtain ⟨b, r, m, rfl, hb, h0, h1, q⟩ := h
  refine ⟨_, (pss_cons (ps_set (i := 2) sc__law_pair.nd rfl (.inl rfl) (pe_call (ok__law_draw T) (hr.mono (by omega)) (by rfl) T.d__law_draw.m T.d__law_draw.F.kp T.d__law_draw.b .nil pass0 (pa_cons (pv 0) (pa_cons (pe_op op_add (pv 1) pe_int) pa_nil))))
    (pss_cons (ps_set (i := 3) sc__law_pair.nd rfl (.inr rfl) (pe_call (ok__law_rights T) (hr.mono (by omega)) (by rfl) T.d__law_rights.m T.d__law_rights.F.kp T.d__law_rights.b .nil pass0 (pa_cons (pv 0) (pa_cons (pv 2) pa_nil))))
    (pss_cons (ps_set (i := 4) sc__law_pair.nd rfl (.inr rfl) (pe_call (ok__law_rights T) (hr.mono (by omega)) (by rfl) T.d__law_rights.m T.d__law_rights.F.kp T.d__law_rights.b .nil pass0 (pa_cons (pv 0) (pa_cons (pv 2) pa_nil))))
    (pss_cons (ps_if (pt_cmpR op_eq (pe_call (ok__law_draw T) (hr.mono (by omega)) (by rfl) T.d__law_draw.m T.d__law_draw.F.kp T.d__law_draw.b .nil pass0 (pa_cons (pv 0) (pa_cons pe_int pa_nil))) pe_int (nomark _)) (pss_one (ps_set (i := 4) sc__law_pair.nd rfl (.inr rfl) (pe_callTy (tupFK K) (by rfl) T.b_tuple (by decide +kernel) (pa_cons (pe_lc (own := [("k", 5)]) (g := gName 5) rfl sc__law_pair.nd  (pi_range1 (by rfl) T.b_range (pa_cons (pv 2) pa_nil)) (blkOk_by (own := [("k", 5)]) (N := n__law_pair) (sc := defScope s__law_pair) (by decide +kernel)) (fun _ _ _ _ _ => (pg_name (i := 5) sc__law_pair.nd rfl (Or.inl rfl))) (fun _ _ _ _ _ => pts_nil) (fun _ _ _ _ _ => (pe_ix (ixL K) (pe_lst (pa_cons (pe_ix (ixT K) (pv 4) (pv 5) (fun _ _ => rfl)) (pa_cons (pe_ix (ixT K) (pv 3) (pv 5) (fun _ _ => rfl)) pa_nil))) (pe_callTy k_int (by rfl) T.b_int (by decide +kernel) (pa_cons (pe_cmpR op_gt (pe_call (ok__law_draw T) (hr.mono (by omega)) (by rfl) T.d__law_draw.m T.d__law_draw.F.kp T.d__law_draw.b .nil pass0 (pa_cons (pv 0) (pa_cons pe_int pa_nil))) pe_int (nomark _)) pa_nil)) (fun _ _ => rfl)))) pa_nil)))) pss_nil)
    (pss_one (ps_ret (pe_lst (pa_cons (pv 3) (pa_cons (pv 4) pa_nil))))))))), ?_⟩
  walk_at "r"
  refine ap_draw hb (by omega) fun v1 H1 v10 v11 k1 b1 => ?_
  walk_at "r"
  refine ⟨b, r, v1, rfl, b1, v10, by omega, fun a xs H2 n2 ab ar lx k2 b2 tu2 => ?_⟩
  walk_at "r"
  refine ⟨b, r, v1, rfl, b2, v10, by omega, fun c ys H3 n3 cb cr ly k3 b3 tu3 => ?_⟩
  walk_at "r"
  have t2 : SqT K H3 a (tv xs) := ks_st tu2.st k3 (by simpa using ab)
  refine ap_draw b3 (by decide) fun v4 H4 v40 v41 k4 b4 => ?_
  have t2' : SqT K H4 a (tv xs) := ks_st t2 k4 (by simpa using ab)
  have t3' : SqT K H4 c (tv ys) := ks_st tu3.st k4 (by simpa using cb)
  have k14 := ((k1.trans k2).trans k3).trans k4
  walk_at "r"
  refine ite2 (fun y => ?_) (fun y => ?_)
  · walk_at "r"
    refine c_R1 (by omega) ?_
    refine cp_range (fun p k h => ∃ zs : List R, zs.length = k ∧ h p = some (.lst (tv zs)) ∧ Ks [b] H4 h ∧ Bx h b r) (fun p n => ⟨[], rfl, upd_same, Ks.of (Ex.new n), bx_ex b4 (Ex.new n)⟩) ?_ ?_
    · rintro p k h np hk ⟨zs, hl, f, e, b5⟩
      have nb : p ≠ b := (bx_nb b4 np).symm
      have kx : k < xs.length := by omega
      have ky : k < ys.length := by omega
      rw [show (0 : Int) + (k : Int) = ((k : Nat) : Int) from Int.zero_add _]
      walk_at "r"
      refine ⟨rfl, ?_⟩
      walk_at "r"
      refine a_ixT (v := .str (ys[k]).s) (ks_st t3' e (by simpa using cb)) (atI_nat (j := k) (by unfold tv; rw [List.getElem?_map, List.getElem?_eq_getElem ky]; rfl)) ?_
      walk_at "r"
      refine a_ixT (v := .str (xs[k]).s) (ks_st t2' e (by simpa using ab)) (atI_nat (j := k) (by unfold tv; rw [List.getElem?_map, List.getElem?_eq_getElem kx]; rfl)) ?_
      walk_at "r"
      refine new_lst (by simp) fun l5 H5 n5 e5 f5 => ?_
      walk_at "r"
      refine ap_draw (bx_ex b5 e5) (by decide) fun v6 H6 v60 v61 k6 b6 => ?_
      walk_at "r"
      have nl5 : l5 ≠ b := (bx_nb b5 n5).symm
      have f6 := k6 _ _ (by simpa using nl5) f5
      have fp6 := k6 _ _ (by simpa using nb) (e5 _ _ f)
      have fin : ∀ z : R, ∃ acc, H6 p = some (.lst acc) ∧ acc.length < sizeLine ∧ ∃ zs : List R, zs.length = k + 1 ∧ upd H6 p (.lst (acc ++ [.str z.s])) p = some (.lst (tv zs)) ∧ Ks [b] H4 (upd H6 p (.lst (acc ++ [.str z.s]))) ∧ Bx (upd H6 p (.lst (acc ++ [.str z.s]))) b r := fun z => by
        refine ⟨tv zs, fp6, sz_lt (by rw [tv_len]; omega), zs ++ [z], by simp [hl], by rw [upd_same, tv_snoc], ?_, ?_⟩
        · exact ((e.trans (Ks.of e5)).trans k6).mut np
        · exact bx_ks (S := [p]) b6 (fun a o n q => by rw [upd_ne (fun z => n (by rw [z]; simp))]; exact q) (nin_cons (bx_nb b4 np) nin_nil) (nin_cons (bx_nr b4 np) nin_nil)
      by_cases y6 : 0 < v6
      · rw [if_pos (decide_eq_true y6)]
        exact a_ixL (v := .str (xs[k]).s) (SqL.of f6) (atI_nat (j := 1) rfl) (fin _)
      · rw [if_neg (by simpa using y6)]
        exact a_ixL (v := .str (ys[k]).s) (SqL.of f6) (atI_nat (j := 0) rfl) (fin _)
    · rintro p h np ⟨zs, hl, f, e, b5⟩
      walk_at "r"
      refine a_tupFL (SqL.of f) fun p2 H5 n5 e5 f5 => ?_
      walk_at "r"
      refine new_lst (by simp) fun p3 H6 n6 e6 f6 => ?_
      exact q p3 a p2 xs zs H6 ((k14.trans e).trans (Ks.of (e5.trans e6))) (bx_ex b5 (e5.trans e6)) f6 (ex_st (ks_st t2' e (by simpa using ab)) (e5.trans e6)) (ex_st (Tu.st f5) e6) (by omega) (by omega)
  · walk_at "r"
    refine new_lst (by simp) fun p3 H6 n6 e6 f6 => ?_
    exact q p3 a c xs ys H6 (k14.trans (Ks.of e6)) (bx_ex b4 e6) f6 (ex_st t2' e6) (ex_st t3' e6) (by omega) (by omega)
def pLP (K : PySem.W.Frag) (CP CF : Addr) : Sp := fun vs H Q _ => ∃ z ss, vs = [.ref z] ∧ PgAt K CP CF H z [] ss ∧ ∀ p H1, Ex H H1 → Dp K H1 (.ref p) (.list [.list (List.map tfD []), .list (List.map stD ss)]) → Q (.ref p) H1
theorem ok__law_plain_program (T : Tx K mg) : FnOk P w K mg base CX0 1 T.a__law_plain_program T.e__law_plain_program p__law_plain_program (pLP K T.C_Program T.C_Function) := by
  refine T.d__law_plain_program.F.ok sc__law_plain_program (fun vs H Q E h => ?_) (fun cdv A outer s H vs Q E hr h => ?_)
  · obtain ⟨z, ss, rfl, _⟩ := h
    rfl
  obtain ⟨z, ss, rfl, pg, q⟩ := h
  refine ⟨_, (pss_one (ps_ret (pe_lst (pa_cons (pe_lc (own := [("f", 1)]) (g := gName 1) rfl sc__law_plain_program.nd  (plK K (by exact (fldK K (pv 0) rfl))) (blkOk_by (own := [("f", 1)]) (N := n__law_plain_program) (sc := defScope s__law_plain_program) (by decide +kernel)) (fun _ _ _ _ _ => (pg_name (i := 1) sc__law_plain_program.nd rfl (Or.inl rfl))) (fun _ _ _ _ _ => pts_nil) (fun _ _ _ _ _ => (pe_lst (pa_cons (by exact (fldK K (pv 1) rfl)) (pa_cons (pe_callTy (lstK K) (by rfl) T.b_list (by decide +kernel) (pa_cons (by exact (fldK K (pv 1) rfl)) pa_nil)) (pa_cons (pe_callTy (lstK K) (by rfl) T.b_list (by decide +kernel) (pa_cons (by exact (fldK K (pv 1) rfl)) pa_nil)) pa_nil)))))) (pa_cons (pe_callTy (lstK K) (by rfl) T.b_list (by decide +kernel) (pa_cons (by exact (fldK K (pv 0) rfl)) pa_nil)) pa_nil))))), ?_⟩
  obtain ⟨dz, r1, r2, w1, w2, z1, z2, z3, z4, z5⟩ := pg.ex
  cases z3
  walk_at "r"
  refine a_get T.c_Program T.n_Program_functions z1 (pg_fns _ _) ?_
  walk_at "r"
  refine c_L (SqL.of z2) ?_
  refine cp_list (xs := []) (fun l k h => Ex H h ∧ h l = some (.lst [])) (fun l n => ⟨Ex.new n, upd_same⟩) (fun l k h _ _ g => SqL.of (g.1 _ _ z2)) ?_ ?_
  · rintro l k x h nl hk _
    simp at hk
  · rintro l h nl ⟨e1, f1⟩
    walk_at "r"
    refine a_get T.c_Program T.n_Program_statements (e1 _ _ z1) (pg_sts _ _) ?_
    walk_at "r"
    refine a_lstL (SqL.of (e1 _ _ z4)) fun c H2 n2 e2 f2 => ?_
    walk_at "r"
    refine new_lst (by simp) fun p H3 n3 e3 f3 => ?_
    exact q p H3 ((e1.trans e2).trans e3) (.lst (SqL.of f3) (.cons (.lst (SqL.of ((e2.trans e3) _ _ f1)) .nil) (.cons (.lst (SqL.of (e3 _ _ f2)) (dpa_ex ((e1.trans e2).trans e3) z5)) .nil)))
theorem runP_sb {fs : List TF} {ss : List Stm} (ok : POk fs ss) (nl : (runP true fs ss).1 ≠ .long) : SB (runP true fs ss).2.1 :=
  exs_sb (callF_sb fun g hg => ok.fo g (List.mem_reverse.mp hg)) ok.so ⟨by simp [s0], by simp [s0], by simp [s0]⟩ nl
def pLB (K : PySem.W.Frag) (CP CF : Addr) : Sp := fun vs H Q _ => ∃ (a c z : Addr) (xs ys : List R) (ss : List Stm), vs = [.ref a, .ref c, .ref z] ∧ SqT K H a (tv xs) ∧ SqT K H c (tv ys) ∧ PgAt K CP CF H z [] ss ∧ POk [] ss ∧ jAll [] ss [(xs, ys)] = [] ∧ jAll [] ss [] ≠ [] ∧ (runP true [] ss).1 ≠ .long ∧ (runP true [] ss).2.1.br ≠ [] ∧ RV1 (.bl true) H Q
theorem ok__law_breaks (T : Tx K mg) : FnOk P w K mg base CX0 13 T.a__law_breaks T.e__law_breaks p__law_breaks (pLB K T.C_Program T.C_Function) := by
  refine T.d__law_breaks.F.ok sc__law_breaks (fun vs H Q E h => ?_) (fun cdv A outer s H vs Q E hr h => ?_)
  · obtain ⟨a, c, z, xs, ys, ss, rfl, _⟩ := h
    rfl
  obtain ⟨a, c, z, xs, ys, ss, rfl, ha, hc, pg, ok, j1, j2, nl, br, q⟩ := h
  refine ⟨_, (pss_cons (ps_if (pt_not (pt_val (pe_callB (isiK K) (by rfl) T.b_isinstance (by decide +kernel) (pa_cons (pv 2) (pa_cons (pe_glob (v := .ref T.C_Program) (by rfl) T.g_Program rfl) pa_nil))))) (pss_one (ps_ret pe_bl)) pss_nil)
    (pss_cons (ps_set (i := 3) sc__law_breaks.nd rfl (.inl rfl) (pe_call (ok__law_plain_program T) (hr.mono (by omega)) (by rfl) T.d__law_plain_program.m T.d__law_plain_program.F.kp T.d__law_plain_program.b .nil pass0 (pa_cons (pv 2) pa_nil)))
    (pss_cons (ps_if (PW.pt (pw_or (pt_cmpR (neDK K hr.units) (pe_call (ok__law_faults T) (hr.mono (by omega)) (by rfl) T.d__law_faults.m T.d__law_faults.F.kp T.d__law_faults.b .nil pass0 (pa_cons (pv 3) (pa_cons (pe_lst (pa_cons (pe_tup (pa_cons (pv 0) (pa_cons (pv 1) pa_nil))) pa_nil)) pa_nil))) (pe_lst pa_nil) (nomark _)) (pw_or1 (pt_cmpR (eqDK K hr.units) (pe_call (ok__law_faults T) (hr.mono (by omega)) (by rfl) T.d__law_faults.m T.d__law_faults.F.kp T.d__law_faults.b .nil pass0 (pa_cons (pv 3) (pa_cons (pe_lst pa_nil) pa_nil))) (pe_lst pa_nil) (nomark _))))) (pss_one (ps_ret pe_bl)) pss_nil)
    (pss_cons (ps_asg (pe_call (ok__law_run T) (hr.mono (by omega)) (by rfl) T.d__law_run.m T.d__law_run.F.kp T.d__law_run.b .nil pass0 (pa_cons (pv 3) pa_nil)) (pg_lst (by rfl) (pgs_cons (pg_name (i := 4) sc__law_breaks.nd rfl (.inl rfl)) (pgs_cons (pg_name (i := 5) sc__law_breaks.nd rfl (.inl rfl)) pgs_nil))))
    (pss_one (ps_ret (pe_and (pe_cmpR op_gt (pe_callB (lenK K) (by rfl) T.b_len PySem.boot_len (pa_cons (pe_ix (ixL K) (pv 5) pe_int (fun _ _ => rfl)) pa_nil)) pe_int (nomark _)) (pe_one (pe_cmpR op_le (pe_ix (ixL K) (pv 5) pe_int (fun _ _ => rfl)) pe_int (nomark _)))))))))), ?_⟩
  obtain ⟨dz, r1, r2, w1, w2, z1, z2, z3, z4, z5⟩ := pg.ex
  have I := T.i_Program
  walk_at "r"
  refine ⟨.ref z, .ref T.C_Program, .ref T.C_Program, .ref T.C_Program, true, rfl, .own _, .base (.ins z1 T.c_Program I.ha I.hn I.ht I.hm), kit_self, ?_⟩
  walk_at "r"
  refine ⟨z, ss, rfl, pg, fun p H1 e1 dp => ?_⟩
  walk_at "r"
  refine new_tup (by simp) fun t H2 n2 e2 f2 => ?_
  walk_at "r"
  refine new_lst (by simp) fun x H3 n3 e3 f3 => ?_
  walk_at "r"
  have e13 := (e1.trans e2).trans e3
  have X : XL K H3 x [(xs, ys)] := ⟨[.ref t], SqL.of f3, .cons (.tup (SqT.of (e3 _ _ f2)) (.cons (dp_ru (ex_st ha e13)) (.cons (dp_ru (ex_st hc e13)) .nil))) .nil⟩
  refine ⟨p, x, [], ss, [(xs, ys)], rfl, dp_ex (e2.trans e3) dp, ok, X, fun l vs H4 n4 e4 f4 d4 => ?_⟩
  rw [j1] at d4
  cases d4
  walk_at "r"
  refine new_lst (xs := []) (by simp) fun em H5 n5 e5 f5 => ?_
  have sh0 : SeqAt.shaped (.list []) = true := by decide +kernel
  refine ⟨_, _, .lst (SqL.of (e5 _ _ f4)) .nil, .lst (SqL.of f5) .nil, sh0, sh0, ?_⟩
  walk_at "r"
  refine ite2 (fun y => absurd y (by decide +kernel)) (fun _ => ?_)
  walk_at "r"
  refine new_lst (xs := []) (by simp) fun x2 H6 n6 e6 f6 => ?_
  walk_at "r"
  have e16 := ((e2.trans e3).trans e4).trans (e5.trans e6)
  refine ⟨p, x2, [], ss, [], rfl, dp_ex e16 dp, ok, ⟨[], SqL.of f6, .nil⟩, fun l2 vs2 H7 n7 e7 f7 d7 => ?_⟩
  walk_at "r"
  refine new_lst (xs := []) (by simp) fun em2 H8 n8 e8 f8 => ?_
  refine ⟨_, _, .lst (SqL.of (e8 _ _ f7)) (dpa_ex e8 d7), .lst (SqL.of f8) .nil, (shp_fa (ft_all (ex := []) ok)).1, sh0, ?_⟩
  rw [eqv_nil]
  walk_at "r"
  refine ite2 (fun y => absurd (List.eq_nil_of_length_eq_zero (of_decide_eq_true y)) j2) (fun _ => ?_)
  walk_at "r"
  have e18 := e16.trans (e7.trans e8)
  refine ⟨p, [], ss, [(xs, ys)], rfl, dp_ex e18 dp, ok, j1, nl, fun l9 s t b us H9 e9 n9 f9 S9 => ?_⟩
  refine ⟨l9, _, rfl, SqL.of f9, rfl, ?_⟩
  walk_at "r"
  refine a_ixL (v := .ref b) (SqL.of S9.o) (atI_nat (j := 1) rfl) ?_
  walk_at "r"
  obtain ⟨bs, fb, db⟩ := S9.br
  refine a_lenL (SqL.of fb) ?_
  walk_at "r"
  have lb : bs.length = (runP true [] ss).2.1.br.length := by rw [dpa_len db, List.length_map]
  have lb0 : 0 < bs.length := by
    rw [lb]
    exact List.length_pos_iff.mpr br
  refine ite2 (fun _ => ?_) (fun y => absurd (decide_eq_true (by omega)) y)
  walk_at "r"
  refine a_ixL (v := .int ((runP true [] ss).2.1.n : Int)) (SqL.of S9.o) (atI_nat (j := 2) rfl) ?_
  walk_at "r"
  have n3 := (runP_sb ok nl).n
  rw [decide_eq_true (show ((runP true [] ss).2.1.n : Int) ≤ 1000 by omega)]
  exact q H9 (e1.trans (e18.trans e9))
theorem ok_law {f : Addr} {fd : FuncData} (T : Tx K mg) (F : Fun K "law" "law" s_law f fd) : FnOk P w K mg base CX0 23 f fd ["script"] (spLaw K) := by
  refine F.ok sc_law (fun vs H Q E h => ?_) (fun cdv A outer s H vs Q E hr h => ?_)
  · obtain ⟨a, ns, rfl, _⟩ := h
    rfl
  obtain ⟨a, ns, rfl, hL, hz, q⟩ := h
  refine ⟨_, (pss_cons (ps_set (i := 1) sc_law.nd rfl (.inl rfl) (pe_lst (pa_cons (pe_call (ok__law_row T) (hr.mono (by omega)) (by rfl) T.d__law_row.m T.d__law_row.F.kp T.d__law_row.b .nil pass0 (pa_cons (pv 0) (pa_cons pe_int (pa_cons pe_int pa_nil)))) (pa_cons pe_int pa_nil))))
    (pss_cons (ps_for PassesOwn.never rfl (pi_range1 (by rfl) T.b_range (pa_cons pe_int pa_nil)) (pg_name (i := 2) sc_law.nd rfl (.inl rfl)) (pss_cons (ps_asg (pe_call (ok__law_pair T) (hr.mono (by omega)) (by rfl) T.d__law_pair.m T.d__law_pair.F.kp T.d__law_pair.b .nil pass0 (pa_cons (pv 1) (pa_cons pe_int pa_nil))) (pg_lst (by rfl) (pgs_cons (pg_name (i := 3) sc_law.nd rfl (.inl rfl)) (pgs_cons (pg_name (i := 4) sc_law.nd rfl (.inl rfl)) pgs_nil))))
    (pss_cons (ps_set (i := 5) sc_law.nd rfl (.inl rfl) (pe_call (ok_breaking T) (hr.mono (by omega)) (by rfl) T.d_breaking.m T.d_breaking.F.kp T.d_breaking.b .nil pass0 (pa_cons (pv 3) (pa_cons (pv 4) pa_nil))))
    (pss_cons (ps_if (pt_cmpR op_ne (pe_cmpR k_isN (pv 5) pe_non (nomark _)) (pe_call (ok__law_converts T 7) (hr.mono (by omega)) (by rfl) T.d__law_converts.m T.d__law_converts.F.kp T.d__law_converts.b .nil pass0 (pa_cons (pv 3) (pa_cons (pv 4) pa_nil))) (nomark _)) (pss_one (ps_ret pe_bl)) pss_nil)
    (pss_one (ps_if (pt_cmpR k_notN (pv 5) pe_non (nomark _)) (pss_one (ps_if (PW.pt (pw_or (pt_not (pt_val (pe_call (ok__law_breaks T) (hr.mono (by omega)) (by rfl) T.d__law_breaks.m T.d__law_breaks.F.kp T.d__law_breaks.b .nil pass0 (pa_cons (pv 3) (pa_cons (pv 4) (pa_cons (pv 5) pa_nil)))))) (pw_or1 (pt_cmpR op_notBl (pe_call (ok_is_breaking T) (hr.mono (by omega)) (by rfl) T.d_is_breaking.m T.d_is_breaking.F.kp T.d_is_breaking.b .nil pass0 (pa_cons (pv 3) (pa_cons (pv 4) (pa_cons (pv 5) pa_nil)))) pe_bl (nomark _))))) (pss_one (ps_ret pe_bl)) pss_nil)) pss_nil))))))
    (pss_one (ps_ret pe_bl)))), ?_⟩
  walk_at "r"
  refine ⟨a, ns, 40, rfl, hL, by omega, by omega, fun r H1 rs n1 e1 f1 z1 => ?_⟩
  walk_at "r"
  refine new_lst (by simp) fun b H2 n2 e2 f2 => ?_
  have hb : Bx H2 b r := ⟨0, rs, f2, e2 _ _ f1, z1⟩
  walk_at "r"
  refine r_R1 (by omega) ?_
  refine lp_range (fun k σ h => (∃ x2 x3 x4 x5, σ = [some (.ref a), some (.ref b), x2, x3, x4, x5]) ∧ Bx h b r) ⟨⟨_, _, _, _, rfl⟩, hb⟩ ?_ ?_
  · rintro k0 σ h hk ⟨⟨x2, x3, x4, x5, rfl⟩, bh⟩
    walk_at "r"
    refine ⟨b, r, 5, rfl, bh, by omega, by omega, fun p ax ay xs ys h1 k1 b1 fp sx sy lxy l5 => ?_⟩
    refine ⟨p, _, rfl, SqL.of fp, rfl, ?_⟩
    walk_at "r"
    refine ⟨ax, ay, xs, ys, rfl, sx, sy, lxy, by omega, fun cc h3 e3 => ?_, fun ls c hib hls z h3 e3 pg => ?_⟩
    · walk_at "r"
      refine ⟨ax, ay, xs, ys, rfl, ex_st sx e3, ex_st sy e3, by omega, fun h4 e4 => ?_⟩
      rw [cc]
      walk_at "r"
      refine ite2 (fun y => absurd y (by decide)) (fun _ => ?_)
      walk_at "r"
      exact ⟨⟨_, _, _, _, rfl⟩, bx_ex b1 (e3.trans e4)⟩
    · have cc := ib_cv ls xs ys c lxy hib
      walk_at "r"
      refine ⟨ax, ay, xs, ys, rfl, ex_st sx e3, ex_st sy e3, by omega, fun h4 e4 => ?_⟩
      rw [cc]
      walk_at "r"
      refine ite2 (fun y => absurd y (by decide)) (fun _ => ?_)
      walk_at "r"
      have e34 := e3.trans e4
      obtain ⟨v, rl, has2, no1⟩ := rp_ok (p0 := (xs, ys)) (acc := []) (ls := ls) (c := c) lxy hib
      have rl4 : (rp (xs, ys) [] ls).length ≤ 4 := by rw [rl]; simp; omega
      have okb := b_ok (p0 := (xs, ys)) (r := rp (xs, ys) [] ls) (c := c) (show xs.length ≤ 5 by omega) v rl4 has2
      obtain ⟨go, br⟩ := b_run (p0 := (xs, ys)) (r := rp (xs, ys) [] ls) (c := c) v rl4 has2 no1
      have jl := b_let (p0 := (xs, ys)) (c := c) (exB_own xs ys) v rl4 has2
      have jn := b_not (p0 := (xs, ys)) (ex := []) (c := c) rfl cc v
      have isb : isB xs ys [] (bprog (xs, ys) (rp (xs, ys) [] ls) c) = true := by
        unfold isB
        rw [jl, go, decide_eq_true br]
        rfl
      refine ⟨ax, ay, z, xs, ys, _, rfl, ex_st sx e34, ex_st sy e34, pg.at.up e4, okb, jl, jn, by rw [go]; simp, br, fun h5 e5 => ?_⟩
      walk_at "r"
      have e35 := e34.trans e5
      refine ⟨ax, ay, z, xs, ys, [], _, rfl, ex_st sx e35, ex_st sy e35, pg.at.up (e4.trans e5), okb, fun h6 e6 => ?_⟩
      rw [isb]
      walk_at "r"
      exact ⟨⟨_, _, _, _, rfl⟩, bx_ex b1 (e35.trans e6)⟩
  · rintro σ h ⟨⟨x2, x3, x4, x5, rfl⟩, _⟩
    walk_at "r"
    exact q h

end
section
variable {P : Program} {w : World} {K : PySem.W.Frag} {mg : Str → Option Value} {base : Heap}
/-- an own error is what a clause of its class catches -/
theorem own_caught {C : Addr} (q1 : PySem.W.subIn K (.ref C) (.type "BaseException") = some true) (q2 : PySem.W.isClsIn K C = true) (q3 : PySem.W.typeIn K (.ref C) = some (.type "type")) (q4 : PySem.W.subIn K (.ref C) (.ref C) = some true) : PySem.W.exmOne K (.ref C) (.ref C) = some true := by
  have q2' : (PySem.W.clsIn K C).isSome = true := q2
  unfold PySem.W.exmOne
  rw [if_pos (by rw [q1]; rfl)]
  show (if ((PySem.W.clsIn K C).isSome && PySem.W.typeIn K (.ref C) == some (.type "type")) = true then PySem.W.subIn K (.ref C) (.ref C) else none) = some true
  rw [if_pos (by rw [q2', q3]; rfl)]
  exact q4

end
theorem all_mk {l : PySem.W.OpenLaw} {w : World} {K : PySem.W.Frag} {h : Heap} {mg : Str → Option Value} {fa : Addr} (X : K.In h) (G : h.Ns mainGlobals mg) (hfa : mg "law" = some (.ref fa))
    {C_RightsError : Addr}
    {nm_RightsError qn_RightsError : Str} {N_RightsError : Addr} {bs_RightsError : List Value} {sn_RightsError : List Str} {sub_RightsError : List Value} {ab_RightsError : Bool} {col_RightsError : Option Bool} {dd_RightsError : Option Addr} {m0_RightsError m1_RightsError m2_RightsError m3_RightsError m5_RightsError : Option Value}
    {C_Function : Addr}
    {C_Program : Addr}
    {C_State : Addr}
    {C_NullFollowed : Addr}
    (aC_RightsError : PySem.W.nsIn K mainGlobals "RightsError" = some (some (.ref C_RightsError)))
    (n_RightsError_reason : PySem.W.findIn K (.ref C_RightsError) "reason" = some none)
    (xL_RightsError : K.lookup C_RightsError = some (excClassObj nm_RightsError qn_RightsError C_RightsError N_RightsError bs_RightsError [.type "ValueError", .type "Exception", .type "BaseException", .type "object"] true sn_RightsError sub_RightsError ab_RightsError col_RightsError dd_RightsError m0_RightsError m1_RightsError m2_RightsError m3_RightsError m5_RightsError "ValueError.__new__"))
    (sa_RightsError : PySem.W.findIn K (.ref C_RightsError) "__setattr__" = some (some (.builtin "object.__setattr__")))
    (ga_RightsError : PySem.W.findIn K (.ref C_RightsError) "__getattribute__" = some (some (.builtin "BaseException.__getattribute__")))
    (gg_RightsError : PySem.W.findIn K (.ref C_RightsError) "__getattr__" = some none)
    (eC_RightsError : PySem.W.subIn K (.ref C_RightsError) (.type "BaseException") = some true)
    (tC_RightsError : PySem.W.typeIn K (.ref C_RightsError) = some (.type "type"))
    (hC_RightsError : PySem.W.hasDictIn K C_RightsError = true)
    (iC_RightsError : PySem.W.isClsIn K C_RightsError = true)
    (sC_RightsError : PySem.W.subIn K (.ref C_RightsError) (.ref C_RightsError) = some true)
    (kC_RightsError : PySem.W.keepIn K (.ref C_RightsError) = true)
    (aC_Function : PySem.W.nsIn K mainGlobals "Function" = some (some (.ref C_Function)))
    (n_Function_name : PySem.W.findIn K (.ref C_Function) "name" = some none)
    (n_Function_params : PySem.W.findIn K (.ref C_Function) "params" = some none)
    (n_Function_body : PySem.W.findIn K (.ref C_Function) "body" = some none)
    (pg_Function : PySem.W.plainGet K C_Function Str.empty = true)
    (hd_Function : PySem.W.hasDictIn K C_Function = true)
    (po_Function : PySem.W.plainOver K C_Function = true)
    (sa_Function : PySem.W.findIn K (.ref C_Function) "__setattr__" = some (some (.builtin "object.__setattr__")))
    (mk_Function : PySem.W.makesIn K C_Function = true)
    (kc_Function : PySem.W.keepIn K (.ref C_Function) = true)
    (ha_Function : PySem.W.findIn K (.ref C_Function) "__class__" = some (some (.builtin "object.__class__")))
    (hm_Function : PySem.W.mroIn K C_Function (.type "object") = some true)
    (aC_Program : PySem.W.nsIn K mainGlobals "Program" = some (some (.ref C_Program)))
    (n_Program_functions : PySem.W.findIn K (.ref C_Program) "functions" = some none)
    (n_Program_statements : PySem.W.findIn K (.ref C_Program) "statements" = some none)
    (pg_Program : PySem.W.plainGet K C_Program Str.empty = true)
    (hd_Program : PySem.W.hasDictIn K C_Program = true)
    (po_Program : PySem.W.plainOver K C_Program = true)
    (sa_Program : PySem.W.findIn K (.ref C_Program) "__setattr__" = some (some (.builtin "object.__setattr__")))
    (mk_Program : PySem.W.makesIn K C_Program = true)
    (kc_Program : PySem.W.keepIn K (.ref C_Program) = true)
    (ha_Program : PySem.W.findIn K (.ref C_Program) "__class__" = some (some (.builtin "object.__class__")))
    (hm_Program : PySem.W.mroIn K C_Program (.type "object") = some true)
    (aC_State : PySem.W.nsIn K mainGlobals "State" = some (some (.ref C_State)))
    (n_State_made : PySem.W.findIn K (.ref C_State) "made" = some none)
    (n_State_broken : PySem.W.findIn K (.ref C_State) "broken" = some none)
    (n_State_executed : PySem.W.findIn K (.ref C_State) "executed" = some none)
    (n_State_scope : PySem.W.findIn K (.ref C_State) "scope" = some none)
    (pg_State : PySem.W.plainGet K C_State Str.empty = true)
    (hd_State : PySem.W.hasDictIn K C_State = true)
    (po_State : PySem.W.plainOver K C_State = true)
    (sa_State : PySem.W.findIn K (.ref C_State) "__setattr__" = some (some (.builtin "object.__setattr__")))
    (mk_State : PySem.W.makesIn K C_State = true)
    (kc_State : PySem.W.keepIn K (.ref C_State) = true)
    (ha_State : PySem.W.findIn K (.ref C_State) "__class__" = some (some (.builtin "object.__class__")))
    (hm_State : PySem.W.mroIn K C_State (.type "object") = some true)
    (aC_NullFollowed : PySem.W.nsIn K mainGlobals "NullFollowed" = some (some (.ref C_NullFollowed)))
    (q_NullFollowed : PySem.W.excIn K C_NullFollowed [.type "Exception", .type "BaseException", .type "object"] "Exception.__new__" = true)
    (kC_NullFollowed : PySem.W.keepIn K (.ref C_NullFollowed) = true)
    (eC_NullFollowed : PySem.W.subIn K (.ref C_NullFollowed) (.type "BaseException") = some true)
    (tC_NullFollowed : PySem.W.typeIn K (.ref C_NullFollowed) = some (.type "type"))
    (iC_NullFollowed : PySem.W.isClsIn K C_NullFollowed = true)
    (sC_NullFollowed : PySem.W.subIn K (.ref C_NullFollowed) (.ref C_NullFollowed) = some true)
    (uC_RightsError_NullFollowed : PySem.W.subIn K (.ref C_RightsError) (.ref C_NullFollowed) = some false)
    (hn_ : PySem.W.specialIn K (.builtin "object.__class__") "__get__" = some (some (.builtin "getset_descriptor.__get__")))
    (ht_ : PySem.W.takesIn K (.builtin "object.__class__") = some true)
    (vV : PySem.W.findCls K (.type "ValueError") (.type "type") "__init__" = some (.val (.builtin "ValueError.__init__")))
    {f0 : Addr} {od0 an0 : Option Addr} {sl0 : Array (Option Value)} {oc0 kV0 dc0 pm0 cd0 ct0 : Value}
    (a0 : PySem.W.nsIn K mainGlobals "_wall" = some (some (.ref f0)))
    (l0 : K.lookup f0 = some ⟨oc0, od0, .func (PySem.W.fnOf "_wall" "_wall" (defArgs s__wall) (defBody s__wall) (defScope s__wall) .none kV0 dc0 pm0 an0 cd0 ct0), sl0⟩) (c0 : PySem.W.codeIn K cd0 "_wall" = true) (k0 : PySem.W.keepIn K (.ref f0) = true)
    {f1 : Addr} {od1 an1 : Option Addr} {sl1 : Array (Option Value)} {oc1 kV1 dc1 pm1 cd1 ct1 : Value}
    (a1 : PySem.W.findIn K (.ref C_RightsError) "__init__" = some (some (.ref f1)))
    (i1 : PySem.W.typeIn K (.ref f1) = some (.type "function"))
    (l1 : K.lookup f1 = some ⟨oc1, od1, .func (PySem.W.fnOf "__init__" "RightsError.__init__" (defArgs s_RightsError_init) (defBody s_RightsError_init) (defScope s_RightsError_init) .none kV1 dc1 pm1 an1 cd1 ct1), sl1⟩) (c1 : PySem.W.codeIn K cd1 "RightsError.__init__" = true) (k1 : PySem.W.keepIn K (.ref f1) = true)
    {f2 : Addr} {od2 an2 : Option Addr} {sl2 : Array (Option Value)} {oc2 kV2 dc2 pm2 cd2 ct2 : Value}
    (a2 : PySem.W.nsIn K mainGlobals "is_right" = some (some (.ref f2)))
    (l2 : K.lookup f2 = some ⟨oc2, od2, .func (PySem.W.fnOf "is_right" "is_right" (defArgs s_is_right) (defBody s_is_right) (defScope s_is_right) .none kV2 dc2 pm2 an2 cd2 ct2), sl2⟩) (c2 : PySem.W.codeIn K cd2 "is_right" = true) (k2 : PySem.W.keepIn K (.ref f2) = true)
    {f3 : Addr} {od3 an3 : Option Addr} {sl3 : Array (Option Value)} {oc3 kV3 dc3 pm3 cd3 ct3 : Value}
    (a3 : PySem.W.nsIn K mainGlobals "is_type" = some (some (.ref f3)))
    (l3 : K.lookup f3 = some ⟨oc3, od3, .func (PySem.W.fnOf "is_type" "is_type" (defArgs s_is_type) (defBody s_is_type) (defScope s_is_type) .none kV3 dc3 pm3 an3 cd3 ct3), sl3⟩) (c3 : PySem.W.codeIn K cd3 "is_type" = true) (k3 : PySem.W.keepIn K (.ref f3) = true)
    {f4 : Addr} {od4 an4 : Option Addr} {sl4 : Array (Option Value)} {oc4 kV4 dc4 pm4 cd4 ct4 : Value}
    (a4 : PySem.W.nsIn K mainGlobals "is_value_type" = some (some (.ref f4)))
    (l4 : K.lookup f4 = some ⟨oc4, od4, .func (PySem.W.fnOf "is_value_type" "is_value_type" (defArgs s_is_value_type) (defBody s_is_value_type) (defScope s_is_value_type) .none kV4 dc4 pm4 an4 cd4 ct4), sl4⟩) (c4 : PySem.W.codeIn K cd4 "is_value_type" = true) (k4 : PySem.W.keepIn K (.ref f4) = true)
    {f5 : Addr} {od5 an5 : Option Addr} {sl5 : Array (Option Value)} {oc5 kV5 dc5 pm5 cd5 ct5 : Value}
    (a5 : PySem.W.nsIn K mainGlobals "has_letter" = some (some (.ref f5)))
    (l5 : K.lookup f5 = some ⟨oc5, od5, .func (PySem.W.fnOf "has_letter" "has_letter" (defArgs s_has_letter) (defBody s_has_letter) (defScope s_has_letter) .none kV5 dc5 pm5 an5 cd5 ct5), sl5⟩) (c5 : PySem.W.codeIn K cd5 "has_letter" = true) (k5 : PySem.W.keepIn K (.ref f5) = true)
    {f6 : Addr} {od6 an6 : Option Addr} {sl6 : Array (Option Value)} {oc6 kV6 dc6 pm6 cd6 ct6 : Value}
    (a6 : PySem.W.nsIn K mainGlobals "within" = some (some (.ref f6)))
    (l6 : K.lookup f6 = some ⟨oc6, od6, .func (PySem.W.fnOf "within" "within" (defArgs s_within) (defBody s_within) (defScope s_within) .none kV6 dc6 pm6 an6 cd6 ct6), sl6⟩) (c6 : PySem.W.codeIn K cd6 "within" = true) (k6 : PySem.W.keepIn K (.ref f6) = true)
    {f7 : Addr} {od7 an7 : Option Addr} {sl7 : Array (Option Value)} {oc7 kV7 dc7 pm7 cd7 ct7 : Value}
    (a7 : PySem.W.nsIn K mainGlobals "behind" = some (some (.ref f7)))
    (l7 : K.lookup f7 = some ⟨oc7, od7, .func (PySem.W.fnOf "behind" "behind" (defArgs s_behind) (defBody s_behind) (defScope s_behind) .none kV7 dc7 pm7 an7 cd7 ct7), sl7⟩) (c7 : PySem.W.codeIn K cd7 "behind" = true) (k7 : PySem.W.keepIn K (.ref f7) = true)
    {f8 : Addr} {od8 an8 : Option Addr} {sl8 : Array (Option Value)} {oc8 kV8 dc8 pm8 cd8 ct8 : Value}
    (a8 : PySem.W.nsIn K mainGlobals "converts" = some (some (.ref f8)))
    (l8 : K.lookup f8 = some ⟨oc8, od8, .func (PySem.W.fnOf "converts" "converts" (defArgs s_converts) (defBody s_converts) (defScope s_converts) .none kV8 dc8 pm8 an8 cd8 ct8), sl8⟩) (c8 : PySem.W.codeIn K cd8 "converts" = true) (k8 : PySem.W.keepIn K (.ref f8) = true)
    {f9 : Addr} {od9 an9 : Option Addr} {sl9 : Array (Option Value)} {oc9 kV9 dc9 pm9 cd9 ct9 : Value}
    (a9 : PySem.W.nsIn K mainGlobals "bar" = some (some (.ref f9)))
    (l9 : K.lookup f9 = some ⟨oc9, od9, .func (PySem.W.fnOf "bar" "bar" (defArgs s_bar) (defBody s_bar) (defScope s_bar) .none kV9 dc9 pm9 an9 cd9 ct9), sl9⟩) (c9 : PySem.W.codeIn K cd9 "bar" = true) (k9 : PySem.W.keepIn K (.ref f9) = true)
    {f10 : Addr} {od10 an10 : Option Addr} {sl10 : Array (Option Value)} {oc10 kV10 dc10 pm10 cd10 ct10 : Value}
    (a10 : PySem.W.nsIn K mainGlobals "is_number" = some (some (.ref f10)))
    (l10 : K.lookup f10 = some ⟨oc10, od10, .func (PySem.W.fnOf "is_number" "is_number" (defArgs s_is_number) (defBody s_is_number) (defScope s_is_number) .none kV10 dc10 pm10 an10 cd10 ct10), sl10⟩) (c10 : PySem.W.codeIn K cd10 "is_number" = true) (k10 : PySem.W.keepIn K (.ref f10) = true)
    {f11 : Addr} {od11 an11 : Option Addr} {sl11 : Array (Option Value)} {oc11 kV11 dc11 pm11 cd11 ct11 : Value}
    (a11 : PySem.W.nsIn K mainGlobals "is_name" = some (some (.ref f11)))
    (l11 : K.lookup f11 = some ⟨oc11, od11, .func (PySem.W.fnOf "is_name" "is_name" (defArgs s_is_name) (defBody s_is_name) (defScope s_is_name) .none kV11 dc11 pm11 an11 cd11 ct11), sl11⟩) (c11 : PySem.W.codeIn K cd11 "is_name" = true) (k11 : PySem.W.keepIn K (.ref f11) = true)
    {f12 : Addr} {od12 an12 : Option Addr} {sl12 : Array (Option Value)} {oc12 kV12 dc12 pm12 cd12 ct12 : Value}
    (a12 : PySem.W.nsIn K mainGlobals "is_depth" = some (some (.ref f12)))
    (l12 : K.lookup f12 = some ⟨oc12, od12, .func (PySem.W.fnOf "is_depth" "is_depth" (defArgs s_is_depth) (defBody s_is_depth) (defScope s_is_depth) .none kV12 dc12 pm12 an12 cd12 ct12), sl12⟩) (c12 : PySem.W.codeIn K cd12 "is_depth" = true) (k12 : PySem.W.keepIn K (.ref f12) = true)
    {f13 : Addr} {od13 an13 : Option Addr} {sl13 : Array (Option Value)} {oc13 kV13 dc13 pm13 cd13 ct13 : Value}
    (a13 : PySem.W.nsIn K mainGlobals "is_place" = some (some (.ref f13)))
    (l13 : K.lookup f13 = some ⟨oc13, od13, .func (PySem.W.fnOf "is_place" "is_place" (defArgs s_is_place) (defBody s_is_place) (defScope s_is_place) .none kV13 dc13 pm13 an13 cd13 ct13), sl13⟩) (c13 : PySem.W.codeIn K cd13 "is_place" = true) (k13 : PySem.W.keepIn K (.ref f13) = true)
    {f14 : Addr} {od14 an14 : Option Addr} {sl14 : Array (Option Value)} {oc14 kV14 dc14 pm14 cd14 ct14 : Value}
    (a14 : PySem.W.nsIn K mainGlobals "first_word" = some (some (.ref f14)))
    (l14 : K.lookup f14 = some ⟨oc14, od14, .func (PySem.W.fnOf "first_word" "first_word" (defArgs s_first_word) (defBody s_first_word) (defScope s_first_word) .none kV14 dc14 pm14 an14 cd14 ct14), sl14⟩) (c14 : PySem.W.codeIn K cd14 "first_word" = true) (k14 : PySem.W.keepIn K (.ref f14) = true)
    {f15 : Addr} {od15 an15 : Option Addr} {sl15 : Array (Option Value)} {oc15 kV15 dc15 pm15 cd15 ct15 : Value}
    (a15 : PySem.W.nsIn K mainGlobals "is_source" = some (some (.ref f15)))
    (l15 : K.lookup f15 = some ⟨oc15, od15, .func (PySem.W.fnOf "is_source" "is_source" (defArgs s_is_source) (defBody s_is_source) (defScope s_is_source) .none kV15 dc15 pm15 an15 cd15 ct15), sl15⟩) (c15 : PySem.W.codeIn K cd15 "is_source" = true) (k15 : PySem.W.keepIn K (.ref f15) = true)
    {f16 : Addr} {od16 an16 : Option Addr} {sl16 : Array (Option Value)} {oc16 kV16 dc16 pm16 cd16 ct16 : Value}
    (a16 : PySem.W.nsIn K mainGlobals "is_source_list" = some (some (.ref f16)))
    (l16 : K.lookup f16 = some ⟨oc16, od16, .func (PySem.W.fnOf "is_source_list" "is_source_list" (defArgs s_is_source_list) (defBody s_is_source_list) (defScope s_is_source_list) .none kV16 dc16 pm16 an16 cd16 ct16), sl16⟩) (c16 : PySem.W.codeIn K cd16 "is_source_list" = true) (k16 : PySem.W.keepIn K (.ref f16) = true)
    {f17 : Addr} {od17 an17 : Option Addr} {sl17 : Array (Option Value)} {oc17 kV17 dc17 pm17 cd17 ct17 : Value}
    (a17 : PySem.W.nsIn K mainGlobals "is_declared" = some (some (.ref f17)))
    (l17 : K.lookup f17 = some ⟨oc17, od17, .func (PySem.W.fnOf "is_declared" "is_declared" (defArgs s_is_declared) (defBody s_is_declared) (defScope s_is_declared) .none kV17 dc17 pm17 an17 cd17 ct17), sl17⟩) (c17 : PySem.W.codeIn K cd17 "is_declared" = true) (k17 : PySem.W.keepIn K (.ref f17) = true)
    {f18 : Addr} {od18 an18 : Option Addr} {sl18 : Array (Option Value)} {oc18 kV18 dc18 pm18 cd18 ct18 : Value}
    (a18 : PySem.W.nsIn K mainGlobals "is_statement" = some (some (.ref f18)))
    (l18 : K.lookup f18 = some ⟨oc18, od18, .func (PySem.W.fnOf "is_statement" "is_statement" (defArgs s_is_statement) (defBody s_is_statement) (defScope s_is_statement) .none kV18 dc18 pm18 an18 cd18 ct18), sl18⟩) (c18 : PySem.W.codeIn K cd18 "is_statement" = true) (k18 : PySem.W.keepIn K (.ref f18) = true)
    {f19 : Addr} {od19 an19 : Option Addr} {sl19 : Array (Option Value)} {oc19 kV19 dc19 pm19 cd19 ct19 : Value}
    (a19 : PySem.W.findIn K (.ref C_Function) "__init__" = some (some (.ref f19)))
    (i19 : PySem.W.isFn K (.ref f19) = true)
    (l19 : K.lookup f19 = some ⟨oc19, od19, .func (PySem.W.fnOf "__init__" "Function.__init__" (defArgs s_Function_init) (defBody s_Function_init) (defScope s_Function_init) .none kV19 dc19 pm19 an19 cd19 ct19), sl19⟩) (c19 : PySem.W.codeIn K cd19 "Function.__init__" = true) (k19 : PySem.W.keepIn K (.ref f19) = true)
    {f20 : Addr} {od20 an20 : Option Addr} {sl20 : Array (Option Value)} {oc20 kV20 dc20 pm20 cd20 ct20 : Value}
    (a20 : PySem.W.findIn K (.ref C_Program) "__init__" = some (some (.ref f20)))
    (i20 : PySem.W.isFn K (.ref f20) = true)
    (l20 : K.lookup f20 = some ⟨oc20, od20, .func (PySem.W.fnOf "__init__" "Program.__init__" (defArgs s_Program_init) (defBody s_Program_init) (defScope s_Program_init) .none kV20 dc20 pm20 an20 cd20 ct20), sl20⟩) (c20 : PySem.W.codeIn K cd20 "Program.__init__" = true) (k20 : PySem.W.keepIn K (.ref f20) = true)
    {f21 : Addr} {od21 an21 : Option Addr} {sl21 : Array (Option Value)} {oc21 kV21 dc21 pm21 cd21 ct21 : Value}
    (a21 : PySem.W.nsIn K mainGlobals "copied" = some (some (.ref f21)))
    (l21 : K.lookup f21 = some ⟨oc21, od21, .func (PySem.W.fnOf "copied" "copied" (defArgs s_copied) (defBody s_copied) (defScope s_copied) .none kV21 dc21 pm21 an21 cd21 ct21), sl21⟩) (c21 : PySem.W.codeIn K cd21 "copied" = true) (k21 : PySem.W.keepIn K (.ref f21) = true)
    {f22 : Addr} {od22 an22 : Option Addr} {sl22 : Array (Option Value)} {oc22 kV22 dc22 pm22 cd22 ct22 : Value}
    (a22 : PySem.W.nsIn K mainGlobals "copied_statement" = some (some (.ref f22)))
    (l22 : K.lookup f22 = some ⟨oc22, od22, .func (PySem.W.fnOf "copied_statement" "copied_statement" (defArgs s_copied_statement) (defBody s_copied_statement) (defScope s_copied_statement) .none kV22 dc22 pm22 an22 cd22 ct22), sl22⟩) (c22 : PySem.W.codeIn K cd22 "copied_statement" = true) (k22 : PySem.W.keepIn K (.ref f22) = true)
    {f23 : Addr} {od23 an23 : Option Addr} {sl23 : Array (Option Value)} {oc23 kV23 dc23 pm23 cd23 ct23 : Value}
    (a23 : PySem.W.nsIn K mainGlobals "copied_statements" = some (some (.ref f23)))
    (l23 : K.lookup f23 = some ⟨oc23, od23, .func (PySem.W.fnOf "copied_statements" "copied_statements" (defArgs s_copied_statements) (defBody s_copied_statements) (defScope s_copied_statements) .none kV23 dc23 pm23 an23 cd23 ct23), sl23⟩) (c23 : PySem.W.codeIn K cd23 "copied_statements" = true) (k23 : PySem.W.keepIn K (.ref f23) = true)
    {f24 : Addr} {od24 an24 : Option Addr} {sl24 : Array (Option Value)} {oc24 kV24 dc24 pm24 cd24 ct24 : Value}
    (a24 : PySem.W.nsIn K mainGlobals "copied_function" = some (some (.ref f24)))
    (l24 : K.lookup f24 = some ⟨oc24, od24, .func (PySem.W.fnOf "copied_function" "copied_function" (defArgs s_copied_function) (defBody s_copied_function) (defScope s_copied_function) .none kV24 dc24 pm24 an24 cd24 ct24), sl24⟩) (c24 : PySem.W.codeIn K cd24 "copied_function" = true) (k24 : PySem.W.keepIn K (.ref f24) = true)
    {f25 : Addr} {od25 an25 : Option Addr} {sl25 : Array (Option Value)} {oc25 kV25 dc25 pm25 cd25 ct25 : Value}
    (a25 : PySem.W.nsIn K mainGlobals "copied_functions" = some (some (.ref f25)))
    (l25 : K.lookup f25 = some ⟨oc25, od25, .func (PySem.W.fnOf "copied_functions" "copied_functions" (defArgs s_copied_functions) (defBody s_copied_functions) (defScope s_copied_functions) .none kV25 dc25 pm25 an25 cd25 ct25), sl25⟩) (c25 : PySem.W.codeIn K cd25 "copied_functions" = true) (k25 : PySem.W.keepIn K (.ref f25) = true)
    {f26 : Addr} {od26 an26 : Option Addr} {sl26 : Array (Option Value)} {oc26 kV26 dc26 pm26 cd26 ct26 : Value}
    (a26 : PySem.W.nsIn K mainGlobals "is_program" = some (some (.ref f26)))
    (l26 : K.lookup f26 = some ⟨oc26, od26, .func (PySem.W.fnOf "is_program" "is_program" (defArgs s_is_program) (defBody s_is_program) (defScope s_is_program) .none kV26 dc26 pm26 an26 cd26 ct26), sl26⟩) (c26 : PySem.W.codeIn K cd26 "is_program" = true) (k26 : PySem.W.keepIn K (.ref f26) = true)
    {f27 : Addr} {od27 an27 : Option Addr} {sl27 : Array (Option Value)} {oc27 kV27 dc27 pm27 cd27 ct27 : Value}
    (a27 : PySem.W.nsIn K mainGlobals "is_function" = some (some (.ref f27)))
    (l27 : K.lookup f27 = some ⟨oc27, od27, .func (PySem.W.fnOf "is_function" "is_function" (defArgs s_is_function) (defBody s_is_function) (defScope s_is_function) .none kV27 dc27 pm27 an27 cd27 ct27), sl27⟩) (c27 : PySem.W.codeIn K cd27 "is_function" = true) (k27 : PySem.W.keepIn K (.ref f27) = true)
    {f28 : Addr} {od28 an28 : Option Addr} {sl28 : Array (Option Value)} {oc28 kV28 dc28 pm28 cd28 ct28 : Value}
    (a28 : PySem.W.nsIn K mainGlobals "are_statements" = some (some (.ref f28)))
    (l28 : K.lookup f28 = some ⟨oc28, od28, .func (PySem.W.fnOf "are_statements" "are_statements" (defArgs s_are_statements) (defBody s_are_statements) (defScope s_are_statements) .none kV28 dc28 pm28 an28 cd28 ct28), sl28⟩) (c28 : PySem.W.codeIn K cd28 "are_statements" = true) (k28 : PySem.W.keepIn K (.ref f28) = true)
    {f29 : Addr} {od29 an29 : Option Addr} {sl29 : Array (Option Value)} {oc29 kV29 dc29 pm29 cd29 ct29 : Value}
    (a29 : PySem.W.nsIn K mainGlobals "declared" = some (some (.ref f29)))
    (l29 : K.lookup f29 = some ⟨oc29, od29, .func (PySem.W.fnOf "declared" "declared" (defArgs s_declared) (defBody s_declared) (defScope s_declared) .none kV29 dc29 pm29 an29 cd29 ct29), sl29⟩) (c29 : PySem.W.codeIn K cd29 "declared" = true) (k29 : PySem.W.keepIn K (.ref f29) = true)
    {f30 : Addr} {od30 an30 : Option Addr} {sl30 : Array (Option Value)} {oc30 kV30 dc30 pm30 cd30 ct30 : Value}
    (a30 : PySem.W.nsIn K mainGlobals "declared_by_lets" = some (some (.ref f30)))
    (l30 : K.lookup f30 = some ⟨oc30, od30, .func (PySem.W.fnOf "declared_by_lets" "declared_by_lets" (defArgs s_declared_by_lets) (defBody s_declared_by_lets) (defScope s_declared_by_lets) .none kV30 dc30 pm30 an30 cd30 ct30), sl30⟩) (c30 : PySem.W.codeIn K cd30 "declared_by_lets" = true) (k30 : PySem.W.keepIn K (.ref f30) = true)
    {f31 : Addr} {od31 an31 : Option Addr} {sl31 : Array (Option Value)} {oc31 kV31 dc31 pm31 cd31 ct31 : Value}
    (a31 : PySem.W.nsIn K mainGlobals "all_names" = some (some (.ref f31)))
    (l31 : K.lookup f31 = some ⟨oc31, od31, .func (PySem.W.fnOf "all_names" "all_names" (defArgs s_all_names) (defBody s_all_names) (defScope s_all_names) .none kV31 dc31 pm31 an31 cd31 ct31), sl31⟩) (c31 : PySem.W.codeIn K cd31 "all_names" = true) (k31 : PySem.W.keepIn K (.ref f31) = true)
    {f32 : Addr} {od32 an32 : Option Addr} {sl32 : Array (Option Value)} {oc32 kV32 dc32 pm32 cd32 ct32 : Value}
    (a32 : PySem.W.nsIn K mainGlobals "all_kinds" = some (some (.ref f32)))
    (l32 : K.lookup f32 = some ⟨oc32, od32, .func (PySem.W.fnOf "all_kinds" "all_kinds" (defArgs s_all_kinds) (defBody s_all_kinds) (defScope s_all_kinds) .none kV32 dc32 pm32 an32 cd32 ct32), sl32⟩) (c32 : PySem.W.codeIn K cd32 "all_kinds" = true) (k32 : PySem.W.keepIn K (.ref f32) = true)
    {f33 : Addr} {od33 an33 : Option Addr} {sl33 : Array (Option Value)} {oc33 kV33 dc33 pm33 cd33 ct33 : Value}
    (a33 : PySem.W.nsIn K mainGlobals "are_different" = some (some (.ref f33)))
    (l33 : K.lookup f33 = some ⟨oc33, od33, .func (PySem.W.fnOf "are_different" "are_different" (defArgs s_are_different) (defBody s_are_different) (defScope s_are_different) .none kV33 dc33 pm33 an33 cd33 ct33), sl33⟩) (c33 : PySem.W.codeIn K cd33 "are_different" = true) (k33 : PySem.W.keepIn K (.ref f33) = true)
    {f34 : Addr} {od34 an34 : Option Addr} {sl34 : Array (Option Value)} {oc34 kV34 dc34 pm34 cd34 ct34 : Value}
    (a34 : PySem.W.nsIn K mainGlobals "are_of_one_kind" = some (some (.ref f34)))
    (l34 : K.lookup f34 = some ⟨oc34, od34, .func (PySem.W.fnOf "are_of_one_kind" "are_of_one_kind" (defArgs s_are_of_one_kind) (defBody s_are_of_one_kind) (defScope s_are_of_one_kind) .none kV34 dc34 pm34 an34 cd34 ct34), sl34⟩) (c34 : PySem.W.codeIn K cd34 "are_of_one_kind" = true) (k34 : PySem.W.keepIn K (.ref f34) = true)
    {f35 : Addr} {od35 an35 : Option Addr} {sl35 : Array (Option Value)} {oc35 kV35 dc35 pm35 cd35 ct35 : Value}
    (a35 : PySem.W.nsIn K mainGlobals "all_calls_fit" = some (some (.ref f35)))
    (l35 : K.lookup f35 = some ⟨oc35, od35, .func (PySem.W.fnOf "all_calls_fit" "all_calls_fit" (defArgs s_all_calls_fit) (defBody s_all_calls_fit) (defScope s_all_calls_fit) .none kV35 dc35 pm35 an35 cd35 ct35), sl35⟩) (c35 : PySem.W.codeIn K cd35 "all_calls_fit" = true) (k35 : PySem.W.keepIn K (.ref f35) = true)
    {f36 : Addr} {od36 an36 : Option Addr} {sl36 : Array (Option Value)} {oc36 kV36 dc36 pm36 cd36 ct36 : Value}
    (a36 : PySem.W.nsIn K mainGlobals "calls_fit" = some (some (.ref f36)))
    (l36 : K.lookup f36 = some ⟨oc36, od36, .func (PySem.W.fnOf "calls_fit" "calls_fit" (defArgs s_calls_fit) (defBody s_calls_fit) (defScope s_calls_fit) .none kV36 dc36 pm36 an36 cd36 ct36), sl36⟩) (c36 : PySem.W.codeIn K cd36 "calls_fit" = true) (k36 : PySem.W.keepIn K (.ref f36) = true)
    {f37 : Addr} {od37 an37 : Option Addr} {sl37 : Array (Option Value)} {oc37 kV37 dc37 pm37 cd37 ct37 : Value}
    (a37 : PySem.W.nsIn K mainGlobals "by_name" = some (some (.ref f37)))
    (l37 : K.lookup f37 = some ⟨oc37, od37, .func (PySem.W.fnOf "by_name" "by_name" (defArgs s_by_name) (defBody s_by_name) (defScope s_by_name) .none kV37 dc37 pm37 an37 cd37 ct37), sl37⟩) (c37 : PySem.W.codeIn K cd37 "by_name" = true) (k37 : PySem.W.keepIn K (.ref f37) = true)
    {f38 : Addr} {od38 an38 : Option Addr} {sl38 : Array (Option Value)} {oc38 kV38 dc38 pm38 cd38 ct38 : Value}
    (a38 : PySem.W.nsIn K mainGlobals "place_fault" = some (some (.ref f38)))
    (l38 : K.lookup f38 = some ⟨oc38, od38, .func (PySem.W.fnOf "place_fault" "place_fault" (defArgs s_place_fault) (defBody s_place_fault) (defScope s_place_fault) .none kV38 dc38 pm38 an38 cd38 ct38), sl38⟩) (c38 : PySem.W.codeIn K cd38 "place_fault" = true) (k38 : PySem.W.keepIn K (.ref f38) = true)
    {f39 : Addr} {od39 an39 : Option Addr} {sl39 : Array (Option Value)} {oc39 kV39 dc39 pm39 cd39 ct39 : Value}
    (a39 : PySem.W.nsIn K mainGlobals "seen" = some (some (.ref f39)))
    (l39 : K.lookup f39 = some ⟨oc39, od39, .func (PySem.W.fnOf "seen" "seen" (defArgs s_seen) (defBody s_seen) (defScope s_seen) .none kV39 dc39 pm39 an39 cd39 ct39), sl39⟩) (c39 : PySem.W.codeIn K cd39 "seen" = true) (k39 : PySem.W.keepIn K (.ref f39) = true)
    {f40 : Addr} {od40 an40 : Option Addr} {sl40 : Array (Option Value)} {oc40 kV40 dc40 pm40 cd40 ct40 : Value}
    (a40 : PySem.W.nsIn K mainGlobals "conversion_fault" = some (some (.ref f40)))
    (l40 : K.lookup f40 = some ⟨oc40, od40, .func (PySem.W.fnOf "conversion_fault" "conversion_fault" (defArgs s_conversion_fault) (defBody s_conversion_fault) (defScope s_conversion_fault) .none kV40 dc40 pm40 an40 cd40 ct40), sl40⟩) (c40 : PySem.W.codeIn K cd40 "conversion_fault" = true) (k40 : PySem.W.keepIn K (.ref f40) = true)
    {f41 : Addr} {od41 an41 : Option Addr} {sl41 : Array (Option Value)} {oc41 kV41 dc41 pm41 cd41 ct41 : Value}
    (a41 : PySem.W.nsIn K mainGlobals "source_fault" = some (some (.ref f41)))
    (l41 : K.lookup f41 = some ⟨oc41, od41, .func (PySem.W.fnOf "source_fault" "source_fault" (defArgs s_source_fault) (defBody s_source_fault) (defScope s_source_fault) .none kV41 dc41 pm41 an41 cd41 ct41), sl41⟩) (c41 : PySem.W.codeIn K cd41 "source_fault" = true) (k41 : PySem.W.keepIn K (.ref f41) = true)
    {f42 : Addr} {od42 an42 : Option Addr} {sl42 : Array (Option Value)} {oc42 kV42 dc42 pm42 cd42 ct42 : Value}
    (a42 : PySem.W.nsIn K mainGlobals "put_fault" = some (some (.ref f42)))
    (l42 : K.lookup f42 = some ⟨oc42, od42, .func (PySem.W.fnOf "put_fault" "put_fault" (defArgs s_put_fault) (defBody s_put_fault) (defScope s_put_fault) .none kV42 dc42 pm42 an42 cd42 ct42), sl42⟩) (c42 : PySem.W.codeIn K cd42 "put_fault" = true) (k42 : PySem.W.keepIn K (.ref f42) = true)
    {f43 : Addr} {od43 an43 : Option Addr} {sl43 : Array (Option Value)} {oc43 kV43 dc43 pm43 cd43 ct43 : Value}
    (a43 : PySem.W.nsIn K mainGlobals "call_fault" = some (some (.ref f43)))
    (l43 : K.lookup f43 = some ⟨oc43, od43, .func (PySem.W.fnOf "call_fault" "call_fault" (defArgs s_call_fault) (defBody s_call_fault) (defScope s_call_fault) .none kV43 dc43 pm43 an43 cd43 ct43), sl43⟩) (c43 : PySem.W.codeIn K cd43 "call_fault" = true) (k43 : PySem.W.keepIn K (.ref f43) = true)
    {f44 : Addr} {od44 an44 : Option Addr} {sl44 : Array (Option Value)} {oc44 kV44 dc44 pm44 cd44 ct44 : Value}
    (a44 : PySem.W.nsIn K mainGlobals "statement_fault" = some (some (.ref f44)))
    (l44 : K.lookup f44 = some ⟨oc44, od44, .func (PySem.W.fnOf "statement_fault" "statement_fault" (defArgs s_statement_fault) (defBody s_statement_fault) (defScope s_statement_fault) .none kV44 dc44 pm44 an44 cd44 ct44), sl44⟩) (c44 : PySem.W.codeIn K cd44 "statement_fault" = true) (k44 : PySem.W.keepIn K (.ref f44) = true)
    {f45 : Addr} {od45 an45 : Option Addr} {sl45 : Array (Option Value)} {oc45 kV45 dc45 pm45 cd45 ct45 : Value}
    (a45 : PySem.W.nsIn K mainGlobals "block_faults" = some (some (.ref f45)))
    (l45 : K.lookup f45 = some ⟨oc45, od45, .func (PySem.W.fnOf "block_faults" "block_faults" (defArgs s_block_faults) (defBody s_block_faults) (defScope s_block_faults) .none kV45 dc45 pm45 an45 cd45 ct45), sl45⟩) (c45 : PySem.W.codeIn K cd45 "block_faults" = true) (k45 : PySem.W.keepIn K (.ref f45) = true)
    {f46 : Addr} {od46 an46 : Option Addr} {sl46 : Array (Option Value)} {oc46 kV46 dc46 pm46 cd46 ct46 : Value}
    (a46 : PySem.W.nsIn K mainGlobals "faults" = some (some (.ref f46)))
    (l46 : K.lookup f46 = some ⟨oc46, od46, .func (PySem.W.fnOf "faults" "faults" (defArgs s_faults) (defBody s_faults) (defScope s_faults) .none kV46 dc46 pm46 an46 cd46 ct46), sl46⟩) (c46 : PySem.W.codeIn K cd46 "faults" = true) (k46 : PySem.W.keepIn K (.ref f46) = true)
    {f47 : Addr} {od47 an47 : Option Addr} {sl47 : Array (Option Value)} {oc47 kV47 dc47 pm47 cd47 ct47 : Value}
    (a47 : PySem.W.nsIn K mainGlobals "is_let_by" = some (some (.ref f47)))
    (l47 : K.lookup f47 = some ⟨oc47, od47, .func (PySem.W.fnOf "is_let_by" "is_let_by" (defArgs s_is_let_by) (defBody s_is_let_by) (defScope s_is_let_by) .none kV47 dc47 pm47 an47 cd47 ct47), sl47⟩) (c47 : PySem.W.codeIn K cd47 "is_let_by" = true) (k47 : PySem.W.keepIn K (.ref f47) = true)
    {f48 : Addr} {od48 an48 : Option Addr} {sl48 : Array (Option Value)} {oc48 kV48 dc48 pm48 cd48 ct48 : Value}
    (a48 : PySem.W.findIn K (.ref C_State) "__init__" = some (some (.ref f48)))
    (i48 : PySem.W.isFn K (.ref f48) = true)
    (l48 : K.lookup f48 = some ⟨oc48, od48, .func (PySem.W.fnOf "__init__" "State.__init__" (defArgs s_State_init) (defBody s_State_init) (defScope s_State_init) .none kV48 dc48 pm48 an48 cd48 ct48), sl48⟩) (c48 : PySem.W.codeIn K cd48 "State.__init__" = true) (k48 : PySem.W.keepIn K (.ref f48) = true)
    {f49 : Addr} {od49 an49 : Option Addr} {sl49 : Array (Option Value)} {oc49 kV49 dc49 pm49 cd49 ct49 : Value}
    (a49 : PySem.W.findIn K (.ref C_State) "twin" = some (some (.ref f49)))
    (i49 : PySem.W.isFn K (.ref f49) = true)
    (l49 : K.lookup f49 = some ⟨oc49, od49, .func (PySem.W.fnOf "twin" "State.twin" (defArgs s_State_twin) (defBody s_State_twin) (defScope s_State_twin) .none kV49 dc49 pm49 an49 cd49 ct49), sl49⟩) (c49 : PySem.W.codeIn K cd49 "State.twin" = true) (k49 : PySem.W.keepIn K (.ref f49) = true)
    {f50 : Addr} {od50 an50 : Option Addr} {sl50 : Array (Option Value)} {oc50 kV50 dc50 pm50 cd50 ct50 : Value}
    (a50 : PySem.W.findIn K (.ref C_State) "begin" = some (some (.ref f50)))
    (i50 : PySem.W.isFn K (.ref f50) = true)
    (l50 : K.lookup f50 = some ⟨oc50, od50, .func (PySem.W.fnOf "begin" "State.begin" (defArgs s_State_begin) (defBody s_State_begin) (defScope s_State_begin) .none kV50 dc50 pm50 an50 cd50 ct50), sl50⟩) (c50 : PySem.W.codeIn K cd50 "State.begin" = true) (k50 : PySem.W.keepIn K (.ref f50) = true)
    {f51 : Addr} {od51 an51 : Option Addr} {sl51 : Array (Option Value)} {oc51 kV51 dc51 pm51 cd51 ct51 : Value}
    (a51 : PySem.W.findIn K (.ref C_State) "make" = some (some (.ref f51)))
    (i51 : PySem.W.isFn K (.ref f51) = true)
    (l51 : K.lookup f51 = some ⟨oc51, od51, .func (PySem.W.fnOf "make" "State.make" (defArgs s_State_make) (defBody s_State_make) (defScope s_State_make) .none kV51 dc51 pm51 an51 cd51 ct51), sl51⟩) (c51 : PySem.W.codeIn K cd51 "State.make" = true) (k51 : PySem.W.keepIn K (.ref f51) = true)
    {f52 : Addr} {od52 an52 : Option Addr} {sl52 : Array (Option Value)} {oc52 kV52 dc52 pm52 cd52 ct52 : Value}
    (a52 : PySem.W.findIn K (.ref C_State) "read" = some (some (.ref f52)))
    (i52 : PySem.W.isFn K (.ref f52) = true)
    (l52 : K.lookup f52 = some ⟨oc52, od52, .func (PySem.W.fnOf "read" "State.read" (defArgs s_State_read) (defBody s_State_read) (defScope s_State_read) .none kV52 dc52 pm52 an52 cd52 ct52), sl52⟩) (c52 : PySem.W.codeIn K cd52 "State.read" = true) (k52 : PySem.W.keepIn K (.ref f52) = true)
    {f53 : Addr} {od53 an53 : Option Addr} {sl53 : Array (Option Value)} {oc53 kV53 dc53 pm53 cd53 ct53 : Value}
    (a53 : PySem.W.findIn K (.ref C_State) "write" = some (some (.ref f53)))
    (i53 : PySem.W.isFn K (.ref f53) = true)
    (l53 : K.lookup f53 = some ⟨oc53, od53, .func (PySem.W.fnOf "write" "State.write" (defArgs s_State_write) (defBody s_State_write) (defScope s_State_write) .none kV53 dc53 pm53 an53 cd53 ct53), sl53⟩) (c53 : PySem.W.codeIn K cd53 "State.write" = true) (k53 : PySem.W.keepIn K (.ref f53) = true)
    {f54 : Addr} {od54 an54 : Option Addr} {sl54 : Array (Option Value)} {oc54 kV54 dc54 pm54 cd54 ct54 : Value}
    (a54 : PySem.W.nsIn K mainGlobals "thing_at" = some (some (.ref f54)))
    (l54 : K.lookup f54 = some ⟨oc54, od54, .func (PySem.W.fnOf "thing_at" "thing_at" (defArgs s_thing_at) (defBody s_thing_at) (defScope s_thing_at) .none kV54 dc54 pm54 an54 cd54 ct54), sl54⟩) (c54 : PySem.W.codeIn K cd54 "thing_at" = true) (k54 : PySem.W.keepIn K (.ref f54) = true)
    {f55 : Addr} {od55 an55 : Option Addr} {sl55 : Array (Option Value)} {oc55 kV55 dc55 pm55 cd55 ct55 : Value}
    (a55 : PySem.W.nsIn K mainGlobals "looked_up" = some (some (.ref f55)))
    (l55 : K.lookup f55 = some ⟨oc55, od55, .func (PySem.W.fnOf "looked_up" "looked_up" (defArgs s_looked_up) (defBody s_looked_up) (defScope s_looked_up) .none kV55 dc55 pm55 an55 cd55 ct55), sl55⟩) (c55 : PySem.W.codeIn K cd55 "looked_up" = true) (k55 : PySem.W.keepIn K (.ref f55) = true)
    {f56 : Addr} {od56 an56 : Option Addr} {sl56 : Array (Option Value)} {oc56 kV56 dc56 pm56 cd56 ct56 : Value}
    (a56 : PySem.W.nsIn K mainGlobals "call" = some (some (.ref f56)))
    (l56 : K.lookup f56 = some ⟨oc56, od56, .func (PySem.W.fnOf "call" "call" (defArgs s_call) (defBody s_call) (defScope s_call) .none kV56 dc56 pm56 an56 cd56 ct56), sl56⟩) (c56 : PySem.W.codeIn K cd56 "call" = true) (k56 : PySem.W.keepIn K (.ref f56) = true)
    {f57 : Addr} {od57 an57 : Option Addr} {sl57 : Array (Option Value)} {oc57 kV57 dc57 pm57 cd57 ct57 : Value}
    (a57 : PySem.W.nsIn K mainGlobals "execute" = some (some (.ref f57)))
    (l57 : K.lookup f57 = some ⟨oc57, od57, .func (PySem.W.fnOf "execute" "execute" (defArgs s_execute) (defBody s_execute) (defScope s_execute) .none kV57 dc57 pm57 an57 cd57 ct57), sl57⟩) (c57 : PySem.W.codeIn K cd57 "execute" = true) (k57 : PySem.W.keepIn K (.ref f57) = true)
    {f58 : Addr} {od58 an58 : Option Addr} {sl58 : Array (Option Value)} {oc58 kV58 dc58 pm58 cd58 ct58 : Value}
    (a58 : PySem.W.nsIn K mainGlobals "execute_all" = some (some (.ref f58)))
    (l58 : K.lookup f58 = some ⟨oc58, od58, .func (PySem.W.fnOf "execute_all" "execute_all" (defArgs s_execute_all) (defBody s_execute_all) (defScope s_execute_all) .none kV58 dc58 pm58 an58 cd58 ct58), sl58⟩) (c58 : PySem.W.codeIn K cd58 "execute_all" = true) (k58 : PySem.W.keepIn K (.ref f58) = true)
    {f59 : Addr} {od59 an59 : Option Addr} {sl59 : Array (Option Value)} {oc59 kV59 dc59 pm59 cd59 ct59 : Value}
    (a59 : PySem.W.nsIn K mainGlobals "run" = some (some (.ref f59)))
    (l59 : K.lookup f59 = some ⟨oc59, od59, .func (PySem.W.fnOf "run" "run" (defArgs s_run) (defBody s_run) (defScope s_run) .none kV59 dc59 pm59 an59 cd59 ct59), sl59⟩) (c59 : PySem.W.codeIn K cd59 "run" = true) (k59 : PySem.W.keepIn K (.ref f59) = true)
    {f60 : Addr} {od60 an60 : Option Addr} {sl60 : Array (Option Value)} {oc60 kV60 dc60 pm60 cd60 ct60 : Value}
    (a60 : PySem.W.nsIn K mainGlobals "breaking" = some (some (.ref f60)))
    (l60 : K.lookup f60 = some ⟨oc60, od60, .func (PySem.W.fnOf "breaking" "breaking" (defArgs s_breaking) (defBody s_breaking) (defScope s_breaking) .none kV60 dc60 pm60 an60 cd60 ct60), sl60⟩) (c60 : PySem.W.codeIn K cd60 "breaking" = true) (k60 : PySem.W.keepIn K (.ref f60) = true)
    {f61 : Addr} {od61 an61 : Option Addr} {sl61 : Array (Option Value)} {oc61 kV61 dc61 pm61 cd61 ct61 : Value}
    (a61 : PySem.W.nsIn K mainGlobals "is_breaking" = some (some (.ref f61)))
    (l61 : K.lookup f61 = some ⟨oc61, od61, .func (PySem.W.fnOf "is_breaking" "is_breaking" (defArgs s_is_breaking) (defBody s_is_breaking) (defScope s_is_breaking) .none kV61 dc61 pm61 an61 cd61 ct61), sl61⟩) (c61 : PySem.W.codeIn K cd61 "is_breaking" = true) (k61 : PySem.W.keepIn K (.ref f61) = true)
    {f62 : Addr} {od62 an62 : Option Addr} {sl62 : Array (Option Value)} {oc62 kV62 dc62 pm62 cd62 ct62 : Value}
    (a62 : PySem.W.nsIn K mainGlobals "pairs_along" = some (some (.ref f62)))
    (l62 : K.lookup f62 = some ⟨oc62, od62, .func (PySem.W.fnOf "pairs_along" "pairs_along" (defArgs s_pairs_along) (defBody s_pairs_along) (defScope s_pairs_along) .none kV62 dc62 pm62 an62 cd62 ct62), sl62⟩) (c62 : PySem.W.codeIn K cd62 "pairs_along" = true) (k62 : PySem.W.keepIn K (.ref f62) = true)
    {f63 : Addr} {od63 an63 : Option Addr} {sl63 : Array (Option Value)} {oc63 kV63 dc63 pm63 cd63 ct63 : Value}
    (a63 : PySem.W.nsIn K mainGlobals "first_source" = some (some (.ref f63)))
    (l63 : K.lookup f63 = some ⟨oc63, od63, .func (PySem.W.fnOf "first_source" "first_source" (defArgs s_first_source) (defBody s_first_source) (defScope s_first_source) .none kV63 dc63 pm63 an63 cd63 ct63), sl63⟩) (c63 : PySem.W.codeIn K cd63 "first_source" = true) (k63 : PySem.W.keepIn K (.ref f63) = true)
    {f64 : Addr} {od64 an64 : Option Addr} {sl64 : Array (Option Value)} {oc64 kV64 dc64 pm64 cd64 ct64 : Value}
    (a64 : PySem.W.nsIn K mainGlobals "holding" = some (some (.ref f64)))
    (l64 : K.lookup f64 = some ⟨oc64, od64, .func (PySem.W.fnOf "holding" "holding" (defArgs s_holding) (defBody s_holding) (defScope s_holding) .none kV64 dc64 pm64 an64 cd64 ct64), sl64⟩) (c64 : PySem.W.codeIn K cd64 "holding" = true) (k64 : PySem.W.keepIn K (.ref f64) = true)
    {f65 : Addr} {od65 an65 : Option Addr} {sl65 : Array (Option Value)} {oc65 kV65 dc65 pm65 cd65 ct65 : Value}
    (a65 : PySem.W.nsIn K mainGlobals "breach" = some (some (.ref f65)))
    (l65 : K.lookup f65 = some ⟨oc65, od65, .func (PySem.W.fnOf "breach" "breach" (defArgs s_breach) (defBody s_breach) (defScope s_breach) .none kV65 dc65 pm65 an65 cd65 ct65), sl65⟩) (c65 : PySem.W.codeIn K cd65 "breach" = true) (k65 : PySem.W.keepIn K (.ref f65) = true)
    {f66 : Addr} {od66 an66 : Option Addr} {sl66 : Array (Option Value)} {oc66 kV66 dc66 pm66 cd66 ct66 : Value}
    (a66 : PySem.W.nsIn K mainGlobals "converting" = some (some (.ref f66)))
    (l66 : K.lookup f66 = some ⟨oc66, od66, .func (PySem.W.fnOf "converting" "converting" (defArgs s_converting) (defBody s_converting) (defScope s_converting) .none kV66 dc66 pm66 an66 cd66 ct66), sl66⟩) (c66 : PySem.W.codeIn K cd66 "converting" = true) (k66 : PySem.W.keepIn K (.ref f66) = true)
    {f67 : Addr} {od67 an67 : Option Addr} {sl67 : Array (Option Value)} {oc67 kV67 dc67 pm67 cd67 ct67 : Value}
    (a67 : PySem.W.nsIn K mainGlobals "_law_cell" = some (some (.ref f67)))
    (l67 : K.lookup f67 = some ⟨oc67, od67, .func (PySem.W.fnOf "_law_cell" "_law_cell" (defArgs s__law_cell) (defBody s__law_cell) (defScope s__law_cell) .none kV67 dc67 pm67 an67 cd67 ct67), sl67⟩) (c67 : PySem.W.codeIn K cd67 "_law_cell" = true) (k67 : PySem.W.keepIn K (.ref f67) = true)
    {f68 : Addr} {od68 an68 : Option Addr} {sl68 : Array (Option Value)} {oc68 kV68 dc68 pm68 cd68 ct68 : Value}
    (a68 : PySem.W.nsIn K mainGlobals "_law_row" = some (some (.ref f68)))
    (l68 : K.lookup f68 = some ⟨oc68, od68, .func (PySem.W.fnOf "_law_row" "_law_row" (defArgs s__law_row) (defBody s__law_row) (defScope s__law_row) .none kV68 dc68 pm68 an68 cd68 ct68), sl68⟩) (c68 : PySem.W.codeIn K cd68 "_law_row" = true) (k68 : PySem.W.keepIn K (.ref f68) = true)
    {f69 : Addr} {od69 an69 : Option Addr} {sl69 : Array (Option Value)} {oc69 kV69 dc69 pm69 cd69 ct69 : Value}
    (a69 : PySem.W.nsIn K mainGlobals "_law_draw" = some (some (.ref f69)))
    (l69 : K.lookup f69 = some ⟨oc69, od69, .func (PySem.W.fnOf "_law_draw" "_law_draw" (defArgs s__law_draw) (defBody s__law_draw) (defScope s__law_draw) .none kV69 dc69 pm69 an69 cd69 ct69), sl69⟩) (c69 : PySem.W.codeIn K cd69 "_law_draw" = true) (k69 : PySem.W.keepIn K (.ref f69) = true)
    {f70 : Addr} {od70 an70 : Option Addr} {sl70 : Array (Option Value)} {oc70 kV70 dc70 pm70 cd70 ct70 : Value}
    (a70 : PySem.W.nsIn K mainGlobals "_law_right" = some (some (.ref f70)))
    (l70 : K.lookup f70 = some ⟨oc70, od70, .func (PySem.W.fnOf "_law_right" "_law_right" (defArgs s__law_right) (defBody s__law_right) (defScope s__law_right) .none kV70 dc70 pm70 an70 cd70 ct70), sl70⟩) (c70 : PySem.W.codeIn K cd70 "_law_right" = true) (k70 : PySem.W.keepIn K (.ref f70) = true)
    {f71 : Addr} {od71 an71 : Option Addr} {sl71 : Array (Option Value)} {oc71 kV71 dc71 pm71 cd71 ct71 : Value}
    (a71 : PySem.W.nsIn K mainGlobals "_law_rights" = some (some (.ref f71)))
    (l71 : K.lookup f71 = some ⟨oc71, od71, .func (PySem.W.fnOf "_law_rights" "_law_rights" (defArgs s__law_rights) (defBody s__law_rights) (defScope s__law_rights) .none kV71 dc71 pm71 an71 cd71 ct71), sl71⟩) (c71 : PySem.W.codeIn K cd71 "_law_rights" = true) (k71 : PySem.W.keepIn K (.ref f71) = true)
    {f72 : Addr} {od72 an72 : Option Addr} {sl72 : Array (Option Value)} {oc72 kV72 dc72 pm72 cd72 ct72 : Value}
    (a72 : PySem.W.nsIn K mainGlobals "_law_within" = some (some (.ref f72)))
    (l72 : K.lookup f72 = some ⟨oc72, od72, .func (PySem.W.fnOf "_law_within" "_law_within" (defArgs s__law_within) (defBody s__law_within) (defScope s__law_within) .none kV72 dc72 pm72 an72 cd72 ct72), sl72⟩) (c72 : PySem.W.codeIn K cd72 "_law_within" = true) (k72 : PySem.W.keepIn K (.ref f72) = true)
    {f73 : Addr} {od73 an73 : Option Addr} {sl73 : Array (Option Value)} {oc73 kV73 dc73 pm73 cd73 ct73 : Value}
    (a73 : PySem.W.nsIn K mainGlobals "_law_converts" = some (some (.ref f73)))
    (l73 : K.lookup f73 = some ⟨oc73, od73, .func (PySem.W.fnOf "_law_converts" "_law_converts" (defArgs s__law_converts) (defBody s__law_converts) (defScope s__law_converts) .none kV73 dc73 pm73 an73 cd73 ct73), sl73⟩) (c73 : PySem.W.codeIn K cd73 "_law_converts" = true) (k73 : PySem.W.keepIn K (.ref f73) = true)
    {f74 : Addr} {od74 an74 : Option Addr} {sl74 : Array (Option Value)} {oc74 kV74 dc74 pm74 cd74 ct74 : Value}
    (a74 : PySem.W.nsIn K mainGlobals "_law_reached" = some (some (.ref f74)))
    (l74 : K.lookup f74 = some ⟨oc74, od74, .func (PySem.W.fnOf "_law_reached" "_law_reached" (defArgs s__law_reached) (defBody s__law_reached) (defScope s__law_reached) .none kV74 dc74 pm74 an74 cd74 ct74), sl74⟩) (c74 : PySem.W.codeIn K cd74 "_law_reached" = true) (k74 : PySem.W.keepIn K (.ref f74) = true)
    {f75 : Addr} {od75 an75 : Option Addr} {sl75 : Array (Option Value)} {oc75 kV75 dc75 pm75 cd75 ct75 : Value}
    (a75 : PySem.W.nsIn K mainGlobals "_law_source_fault" = some (some (.ref f75)))
    (l75 : K.lookup f75 = some ⟨oc75, od75, .func (PySem.W.fnOf "_law_source_fault" "_law_source_fault" (defArgs s__law_source_fault) (defBody s__law_source_fault) (defScope s__law_source_fault) .none kV75 dc75 pm75 an75 cd75 ct75), sl75⟩) (c75 : PySem.W.codeIn K cd75 "_law_source_fault" = true) (k75 : PySem.W.keepIn K (.ref f75) = true)
    {f76 : Addr} {od76 an76 : Option Addr} {sl76 : Array (Option Value)} {oc76 kV76 dc76 pm76 cd76 ct76 : Value}
    (a76 : PySem.W.nsIn K mainGlobals "_law_fault" = some (some (.ref f76)))
    (l76 : K.lookup f76 = some ⟨oc76, od76, .func (PySem.W.fnOf "_law_fault" "_law_fault" (defArgs s__law_fault) (defBody s__law_fault) (defScope s__law_fault) .none kV76 dc76 pm76 an76 cd76 ct76), sl76⟩) (c76 : PySem.W.codeIn K cd76 "_law_fault" = true) (k76 : PySem.W.keepIn K (.ref f76) = true)
    {f77 : Addr} {od77 an77 : Option Addr} {sl77 : Array (Option Value)} {oc77 kV77 dc77 pm77 cd77 ct77 : Value}
    (a77 : PySem.W.nsIn K mainGlobals "_law_block_faults" = some (some (.ref f77)))
    (l77 : K.lookup f77 = some ⟨oc77, od77, .func (PySem.W.fnOf "_law_block_faults" "_law_block_faults" (defArgs s__law_block_faults) (defBody s__law_block_faults) (defScope s__law_block_faults) .none kV77 dc77 pm77 an77 cd77 ct77), sl77⟩) (c77 : PySem.W.codeIn K cd77 "_law_block_faults" = true) (k77 : PySem.W.keepIn K (.ref f77) = true)
    {f78 : Addr} {od78 an78 : Option Addr} {sl78 : Array (Option Value)} {oc78 kV78 dc78 pm78 cd78 ct78 : Value}
    (a78 : PySem.W.nsIn K mainGlobals "_law_faults" = some (some (.ref f78)))
    (l78 : K.lookup f78 = some ⟨oc78, od78, .func (PySem.W.fnOf "_law_faults" "_law_faults" (defArgs s__law_faults) (defBody s__law_faults) (defScope s__law_faults) .none kV78 dc78 pm78 an78 cd78 ct78), sl78⟩) (c78 : PySem.W.codeIn K cd78 "_law_faults" = true) (k78 : PySem.W.keepIn K (.ref f78) = true)
    {f79 : Addr} {od79 an79 : Option Addr} {sl79 : Array (Option Value)} {oc79 kV79 dc79 pm79 cd79 ct79 : Value}
    (a79 : PySem.W.nsIn K mainGlobals "_law_look" = some (some (.ref f79)))
    (l79 : K.lookup f79 = some ⟨oc79, od79, .func (PySem.W.fnOf "_law_look" "_law_look" (defArgs s__law_look) (defBody s__law_look) (defScope s__law_look) .none kV79 dc79 pm79 an79 cd79 ct79), sl79⟩) (c79 : PySem.W.codeIn K cd79 "_law_look" = true) (k79 : PySem.W.keepIn K (.ref f79) = true)
    {f80 : Addr} {od80 an80 : Option Addr} {sl80 : Array (Option Value)} {oc80 kV80 dc80 pm80 cd80 ct80 : Value}
    (a80 : PySem.W.nsIn K mainGlobals "_law_give" = some (some (.ref f80)))
    (l80 : K.lookup f80 = some ⟨oc80, od80, .func (PySem.W.fnOf "_law_give" "_law_give" (defArgs s__law_give) (defBody s__law_give) (defScope s__law_give) .none kV80 dc80 pm80 an80 cd80 ct80), sl80⟩) (c80 : PySem.W.codeIn K cd80 "_law_give" = true) (k80 : PySem.W.keepIn K (.ref f80) = true)
    {f81 : Addr} {od81 an81 : Option Addr} {sl81 : Array (Option Value)} {oc81 kV81 dc81 pm81 cd81 ct81 : Value}
    (a81 : PySem.W.nsIn K mainGlobals "_law_new" = some (some (.ref f81)))
    (l81 : K.lookup f81 = some ⟨oc81, od81, .func (PySem.W.fnOf "_law_new" "_law_new" (defArgs s__law_new) (defBody s__law_new) (defScope s__law_new) .none kV81 dc81 pm81 an81 cd81 ct81), sl81⟩) (c81 : PySem.W.codeIn K cd81 "_law_new" = true) (k81 : PySem.W.keepIn K (.ref f81) = true)
    {f82 : Addr} {od82 an82 : Option Addr} {sl82 : Array (Option Value)} {oc82 kV82 dc82 pm82 cd82 ct82 : Value}
    (a82 : PySem.W.nsIn K mainGlobals "_law_put" = some (some (.ref f82)))
    (l82 : K.lookup f82 = some ⟨oc82, od82, .func (PySem.W.fnOf "_law_put" "_law_put" (defArgs s__law_put) (defBody s__law_put) (defScope s__law_put) .none kV82 dc82 pm82 an82 cd82 ct82), sl82⟩) (c82 : PySem.W.codeIn K cd82 "_law_put" = true) (k82 : PySem.W.keepIn K (.ref f82) = true)
    {f83 : Addr} {od83 an83 : Option Addr} {sl83 : Array (Option Value)} {oc83 kV83 dc83 pm83 cd83 ct83 : Value}
    (a83 : PySem.W.nsIn K mainGlobals "_law_execute" = some (some (.ref f83)))
    (l83 : K.lookup f83 = some ⟨oc83, od83, .func (PySem.W.fnOf "_law_execute" "_law_execute" (defArgs s__law_execute) (defBody s__law_execute) (defScope s__law_execute) .none kV83 dc83 pm83 an83 cd83 ct83), sl83⟩) (c83 : PySem.W.codeIn K cd83 "_law_execute" = true) (k83 : PySem.W.keepIn K (.ref f83) = true)
    {f84 : Addr} {od84 an84 : Option Addr} {sl84 : Array (Option Value)} {oc84 kV84 dc84 pm84 cd84 ct84 : Value}
    (a84 : PySem.W.nsIn K mainGlobals "_law_run" = some (some (.ref f84)))
    (l84 : K.lookup f84 = some ⟨oc84, od84, .func (PySem.W.fnOf "_law_run" "_law_run" (defArgs s__law_run) (defBody s__law_run) (defScope s__law_run) .none kV84 dc84 pm84 an84 cd84 ct84), sl84⟩) (c84 : PySem.W.codeIn K cd84 "_law_run" = true) (k84 : PySem.W.keepIn K (.ref f84) = true)
    {f85 : Addr} {od85 an85 : Option Addr} {sl85 : Array (Option Value)} {oc85 kV85 dc85 pm85 cd85 ct85 : Value}
    (a85 : PySem.W.nsIn K mainGlobals "_law_plain_program" = some (some (.ref f85)))
    (l85 : K.lookup f85 = some ⟨oc85, od85, .func (PySem.W.fnOf "_law_plain_program" "_law_plain_program" (defArgs s__law_plain_program) (defBody s__law_plain_program) (defScope s__law_plain_program) .none kV85 dc85 pm85 an85 cd85 ct85), sl85⟩) (c85 : PySem.W.codeIn K cd85 "_law_plain_program" = true) (k85 : PySem.W.keepIn K (.ref f85) = true)
    {f86 : Addr} {od86 an86 : Option Addr} {sl86 : Array (Option Value)} {oc86 kV86 dc86 pm86 cd86 ct86 : Value}
    (a86 : PySem.W.nsIn K mainGlobals "_law_pair" = some (some (.ref f86)))
    (l86 : K.lookup f86 = some ⟨oc86, od86, .func (PySem.W.fnOf "_law_pair" "_law_pair" (defArgs s__law_pair) (defBody s__law_pair) (defScope s__law_pair) .none kV86 dc86 pm86 an86 cd86 ct86), sl86⟩) (c86 : PySem.W.codeIn K cd86 "_law_pair" = true) (k86 : PySem.W.keepIn K (.ref f86) = true)
    {f87 : Addr} {od87 an87 : Option Addr} {sl87 : Array (Option Value)} {oc87 kV87 dc87 pm87 cd87 ct87 : Value}
    (a87 : PySem.W.nsIn K mainGlobals "_law_breaks" = some (some (.ref f87)))
    (l87 : K.lookup f87 = some ⟨oc87, od87, .func (PySem.W.fnOf "_law_breaks" "_law_breaks" (defArgs s__law_breaks) (defBody s__law_breaks) (defScope s__law_breaks) .none kV87 dc87 pm87 an87 cd87 ct87), sl87⟩) (c87 : PySem.W.codeIn K cd87 "_law_breaks" = true) (k87 : PySem.W.keepIn K (.ref f87) = true)
    {f88 : Addr} {od88 an88 : Option Addr} {sl88 : Array (Option Value)} {oc88 kV88 dc88 pm88 cd88 ct88 : Value}
    (a88 : PySem.W.nsIn K mainGlobals "law" = some (some (.ref f88)))
    (l88 : K.lookup f88 = some ⟨oc88, od88, .func (PySem.W.fnOf "law" "law" (defArgs s_law) (defBody s_law) (defScope s_law) .none kV88 dc88 pm88 an88 cd88 ct88), sl88⟩) (c88 : PySem.W.codeIn K cd88 "law" = true) (k88 : PySem.W.keepIn K (.ref f88) = true)
    {q_RIGHTS : Addr} {oq_RIGHTS : Option Addr} {nq_RIGHTS : Nat} {sq_RIGHTS : Array (Option Value)} {tq_RIGHTS_0 tq_RIGHTS_1 tq_RIGHTS_2 tq_RIGHTS_3 : Tok}
    (u_RIGHTS : PySem.W.nsIn K mainGlobals "RIGHTS" = some (some (.ref q_RIGHTS))) (v_RIGHTS : K.lookup q_RIGHTS = some ⟨.type "tuple", oq_RIGHTS, .seq #[.str "rw" tq_RIGHTS_0, .str "r" tq_RIGHTS_1, .str "w" tq_RIGHTS_2, .str "-" tq_RIGHTS_3] nq_RIGHTS, sq_RIGHTS⟩)
    {q_LETTERS : Addr} {oq_LETTERS : Option Addr} {nq_LETTERS : Nat} {sq_LETTERS : Array (Option Value)} {tq_LETTERS_0 tq_LETTERS_1 : Tok}
    (u_LETTERS : PySem.W.nsIn K mainGlobals "LETTERS" = some (some (.ref q_LETTERS))) (v_LETTERS : K.lookup q_LETTERS = some ⟨.type "tuple", oq_LETTERS, .seq #[.str "r" tq_LETTERS_0, .str "w" tq_LETTERS_1] nq_LETTERS, sq_LETTERS⟩)
    {k_MOST_RIGHTS : Tok}
    (u_MOST_RIGHTS : PySem.W.nsIn K mainGlobals "MOST_RIGHTS" = some (some (.int 6 k_MOST_RIGHTS)))
    {k_SIGNS : Tok}
    (u_SIGNS : PySem.W.nsIn K mainGlobals "SIGNS" = some (some (.str "abcdefghijklmnopqrstuvwxyz" k_SIGNS)))
    {k_MOST_SIGNS : Tok}
    (u_MOST_SIGNS : PySem.W.nsIn K mainGlobals "MOST_SIGNS" = some (some (.int 8 k_MOST_SIGNS)))
    {k_MOST_STARS : Tok}
    (u_MOST_STARS : PySem.W.nsIn K mainGlobals "MOST_STARS" = some (some (.int 5 k_MOST_STARS)))
    {k_MOST_DEPTH : Tok}
    (u_MOST_DEPTH : PySem.W.nsIn K mainGlobals "MOST_DEPTH" = some (some (.int 5 k_MOST_DEPTH)))
    {k_MOST_NUMBER : Tok}
    (u_MOST_NUMBER : PySem.W.nsIn K mainGlobals "MOST_NUMBER" = some (some (.int 1000 k_MOST_NUMBER)))
    {k_MOST_FUNCTIONS : Tok}
    (u_MOST_FUNCTIONS : PySem.W.nsIn K mainGlobals "MOST_FUNCTIONS" = some (some (.int 4 k_MOST_FUNCTIONS)))
    {k_MOST_PARAMS : Tok}
    (u_MOST_PARAMS : PySem.W.nsIn K mainGlobals "MOST_PARAMS" = some (some (.int 4 k_MOST_PARAMS)))
    {k_MOST_IN_BODY : Tok}
    (u_MOST_IN_BODY : PySem.W.nsIn K mainGlobals "MOST_IN_BODY" = some (some (.int 12 k_MOST_IN_BODY)))
    {k_MOST_STATEMENTS : Tok}
    (u_MOST_STATEMENTS : PySem.W.nsIn K mainGlobals "MOST_STATEMENTS" = some (some (.int 40 k_MOST_STATEMENTS)))
    {k_MOST_EXECUTED : Tok}
    (u_MOST_EXECUTED : PySem.W.nsIn K mainGlobals "MOST_EXECUTED" = some (some (.int 1000 k_MOST_EXECUTED)))
    (z_ValueError : PySem.W.nsIn K mainGlobals "ValueError" = some none)
    (z_str : PySem.W.nsIn K mainGlobals "str" = some none)
    (z_type : PySem.W.nsIn K mainGlobals "type" = some none)
    (z_len : PySem.W.nsIn K mainGlobals "len" = some none)
    (z_all : PySem.W.nsIn K mainGlobals "all" = some none)
    (z_tuple : PySem.W.nsIn K mainGlobals "tuple" = some none)
    (z_int : PySem.W.nsIn K mainGlobals "int" = some none)
    (z_list : PySem.W.nsIn K mainGlobals "list" = some none)
    (z_isinstance : PySem.W.nsIn K mainGlobals "isinstance" = some none)
    (z_set : PySem.W.nsIn K mainGlobals "set" = some none)
    (z_zip : PySem.W.nsIn K mainGlobals "zip" = some none)
    (z_dict : PySem.W.nsIn K mainGlobals "dict" = some none)
    (z_enumerate : PySem.W.nsIn K mainGlobals "enumerate" = some none)
    (z_range : PySem.W.nsIn K mainGlobals "range" = some none)
    (z_abs : PySem.W.nsIn K mainGlobals "abs" = some none) :
    ∃ fd : FuncData, (∀ (s : Shared) (v : Value), BindsTo s fd ⟨[v], []⟩ [("script", v)]) ∧ ∀ base : Heap, K.In base → base.Ns mainGlobals mg → FnOk l.prog w K mg base CX0 23 fa fd ["script"] (spLaw K) := by
  have e := hfa.symm.trans (PySem.W.mg_of X G a88)
  cases e
  have F0 := fun_mk (st := s__wall) l0 c0 k0
  have F1 := fun_mk (st := s_RightsError_init) l1 c1 k1
  have F2 := fun_mk (st := s_is_right) l2 c2 k2
  have F3 := fun_mk (st := s_is_type) l3 c3 k3
  have F4 := fun_mk (st := s_is_value_type) l4 c4 k4
  have F5 := fun_mk (st := s_has_letter) l5 c5 k5
  have F6 := fun_mk (st := s_within) l6 c6 k6
  have F7 := fun_mk (st := s_behind) l7 c7 k7
  have F8 := fun_mk (st := s_converts) l8 c8 k8
  have F9 := fun_mk (st := s_bar) l9 c9 k9
  have F10 := fun_mk (st := s_is_number) l10 c10 k10
  have F11 := fun_mk (st := s_is_name) l11 c11 k11
  have F12 := fun_mk (st := s_is_depth) l12 c12 k12
  have F13 := fun_mk (st := s_is_place) l13 c13 k13
  have F14 := fun_mk (st := s_first_word) l14 c14 k14
  have F15 := fun_mk (st := s_is_source) l15 c15 k15
  have F16 := fun_mk (st := s_is_source_list) l16 c16 k16
  have F17 := fun_mk (st := s_is_declared) l17 c17 k17
  have F18 := fun_mk (st := s_is_statement) l18 c18 k18
  have F19 := fun_mk (st := s_Function_init) l19 c19 k19
  have F20 := fun_mk (st := s_Program_init) l20 c20 k20
  have F21 := fun_mk (st := s_copied) l21 c21 k21
  have F22 := fun_mk (st := s_copied_statement) l22 c22 k22
  have F23 := fun_mk (st := s_copied_statements) l23 c23 k23
  have F24 := fun_mk (st := s_copied_function) l24 c24 k24
  have F25 := fun_mk (st := s_copied_functions) l25 c25 k25
  have F26 := fun_mk (st := s_is_program) l26 c26 k26
  have F27 := fun_mk (st := s_is_function) l27 c27 k27
  have F28 := fun_mk (st := s_are_statements) l28 c28 k28
  have F29 := fun_mk (st := s_declared) l29 c29 k29
  have F30 := fun_mk (st := s_declared_by_lets) l30 c30 k30
  have F31 := fun_mk (st := s_all_names) l31 c31 k31
  have F32 := fun_mk (st := s_all_kinds) l32 c32 k32
  have F33 := fun_mk (st := s_are_different) l33 c33 k33
  have F34 := fun_mk (st := s_are_of_one_kind) l34 c34 k34
  have F35 := fun_mk (st := s_all_calls_fit) l35 c35 k35
  have F36 := fun_mk (st := s_calls_fit) l36 c36 k36
  have F37 := fun_mk (st := s_by_name) l37 c37 k37
  have F38 := fun_mk (st := s_place_fault) l38 c38 k38
  have F39 := fun_mk (st := s_seen) l39 c39 k39
  have F40 := fun_mk (st := s_conversion_fault) l40 c40 k40
  have F41 := fun_mk (st := s_source_fault) l41 c41 k41
  have F42 := fun_mk (st := s_put_fault) l42 c42 k42
  have F43 := fun_mk (st := s_call_fault) l43 c43 k43
  have F44 := fun_mk (st := s_statement_fault) l44 c44 k44
  have F45 := fun_mk (st := s_block_faults) l45 c45 k45
  have F46 := fun_mk (st := s_faults) l46 c46 k46
  have F47 := fun_mk (st := s_is_let_by) l47 c47 k47
  have F48 := fun_mk (st := s_State_init) l48 c48 k48
  have F49 := fun_mk (st := s_State_twin) l49 c49 k49
  have F50 := fun_mk (st := s_State_begin) l50 c50 k50
  have F51 := fun_mk (st := s_State_make) l51 c51 k51
  have F52 := fun_mk (st := s_State_read) l52 c52 k52
  have F53 := fun_mk (st := s_State_write) l53 c53 k53
  have F54 := fun_mk (st := s_thing_at) l54 c54 k54
  have F55 := fun_mk (st := s_looked_up) l55 c55 k55
  have F56 := fun_mk (st := s_call) l56 c56 k56
  have F57 := fun_mk (st := s_execute) l57 c57 k57
  have F58 := fun_mk (st := s_execute_all) l58 c58 k58
  have F59 := fun_mk (st := s_run) l59 c59 k59
  have F60 := fun_mk (st := s_breaking) l60 c60 k60
  have F61 := fun_mk (st := s_is_breaking) l61 c61 k61
  have F62 := fun_mk (st := s_pairs_along) l62 c62 k62
  have F63 := fun_mk (st := s_first_source) l63 c63 k63
  have F64 := fun_mk (st := s_holding) l64 c64 k64
  have F65 := fun_mk (st := s_breach) l65 c65 k65
  have F66 := fun_mk (st := s_converting) l66 c66 k66
  have F67 := fun_mk (st := s__law_cell) l67 c67 k67
  have F68 := fun_mk (st := s__law_row) l68 c68 k68
  have F69 := fun_mk (st := s__law_draw) l69 c69 k69
  have F70 := fun_mk (st := s__law_right) l70 c70 k70
  have F71 := fun_mk (st := s__law_rights) l71 c71 k71
  have F72 := fun_mk (st := s__law_within) l72 c72 k72
  have F73 := fun_mk (st := s__law_converts) l73 c73 k73
  have F74 := fun_mk (st := s__law_reached) l74 c74 k74
  have F75 := fun_mk (st := s__law_source_fault) l75 c75 k75
  have F76 := fun_mk (st := s__law_fault) l76 c76 k76
  have F77 := fun_mk (st := s__law_block_faults) l77 c77 k77
  have F78 := fun_mk (st := s__law_faults) l78 c78 k78
  have F79 := fun_mk (st := s__law_look) l79 c79 k79
  have F80 := fun_mk (st := s__law_give) l80 c80 k80
  have F81 := fun_mk (st := s__law_new) l81 c81 k81
  have F82 := fun_mk (st := s__law_put) l82 c82 k82
  have F83 := fun_mk (st := s__law_execute) l83 c83 k83
  have F84 := fun_mk (st := s__law_run) l84 c84 k84
  have F85 := fun_mk (st := s__law_plain_program) l85 c85 k85
  have F86 := fun_mk (st := s__law_pair) l86 c86 k86
  have F87 := fun_mk (st := s__law_breaks) l87 c87 k87
  have F88 := fun_mk (st := s_law) l88 c88 k88
  have B0 := F0.binds (ps := p__wall) fun _ _ _ _ _ _ us hl => match us, hl with | [_], _ => rfl
  have B1 := F1.binds (ps := p_RightsError_init) fun _ _ _ _ _ _ us hl => match us, hl with | [_, _], _ => rfl
  have B2 := F2.binds (ps := p_is_right) fun _ _ _ _ _ _ us hl => match us, hl with | [_], _ => rfl
  have B3 := F3.binds (ps := p_is_type) fun _ _ _ _ _ _ us hl => match us, hl with | [_], _ => rfl
  have B4 := F4.binds (ps := p_is_value_type) fun _ _ _ _ _ _ us hl => match us, hl with | [_], _ => rfl
  have B5 := F5.binds (ps := p_has_letter) fun _ _ _ _ _ _ us hl => match us, hl with | [_, _], _ => rfl
  have B6 := F6.binds (ps := p_within) fun _ _ _ _ _ _ us hl => match us, hl with | [_, _], _ => rfl
  have B7 := F7.binds (ps := p_behind) fun _ _ _ _ _ _ us hl => match us, hl with | [_, _, _], _ => rfl
  have B8 := F8.binds (ps := p_converts) fun _ _ _ _ _ _ us hl => match us, hl with | [_, _], _ => rfl
  have B9 := F9.binds (ps := p_bar) fun _ _ _ _ _ _ us hl => match us, hl with | [_, _], _ => rfl
  have B10 := F10.binds (ps := p_is_number) fun _ _ _ _ _ _ us hl => match us, hl with | [_, _], _ => rfl
  have B11 := F11.binds (ps := p_is_name) fun _ _ _ _ _ _ us hl => match us, hl with | [_], _ => rfl
  have B12 := F12.binds (ps := p_is_depth) fun _ _ _ _ _ _ us hl => match us, hl with | [_], _ => rfl
  have B13 := F13.binds (ps := p_is_place) fun _ _ _ _ _ _ us hl => match us, hl with | [_], _ => rfl
  have B14 := F14.binds (ps := p_first_word) fun _ _ _ _ _ _ us hl => match us, hl with | [_], _ => rfl
  have B15 := F15.binds (ps := p_is_source) fun _ _ _ _ _ _ us hl => match us, hl with | [_], _ => rfl
  have B16 := F16.binds (ps := p_is_source_list) fun _ _ _ _ _ _ us hl => match us, hl with | [_], _ => rfl
  have B17 := F17.binds (ps := p_is_declared) fun _ _ _ _ _ _ us hl => match us, hl with | [_], _ => rfl
  have B18 := F18.binds (ps := p_is_statement) fun _ _ _ _ _ _ us hl => match us, hl with | [_], _ => rfl
  have B19 := F19.binds (ps := p_Function_init) fun _ _ _ _ _ _ us hl => match us, hl with | [_, _, _, _], _ => rfl
  have B20 := F20.binds (ps := p_Program_init) fun _ _ _ _ _ _ us hl => match us, hl with | [_, _, _], _ => rfl
  have B21 := F21.binds (ps := p_copied) fun _ _ _ _ _ _ us hl => match us, hl with | [_], _ => rfl
  have B22 := F22.binds (ps := p_copied_statement) fun _ _ _ _ _ _ us hl => match us, hl with | [_], _ => rfl
  have B23 := F23.binds (ps := p_copied_statements) fun _ _ _ _ _ _ us hl => match us, hl with | [_], _ => rfl
  have B24 := F24.binds (ps := p_copied_function) fun _ _ _ _ _ _ us hl => match us, hl with | [_], _ => rfl
  have B25 := F25.binds (ps := p_copied_functions) fun _ _ _ _ _ _ us hl => match us, hl with | [_], _ => rfl
  have B26 := F26.binds (ps := p_is_program) fun _ _ _ _ _ _ us hl => match us, hl with | [_, _], _ => rfl
  have B27 := F27.binds (ps := p_is_function) fun _ _ _ _ _ _ us hl => match us, hl with | [_], _ => rfl
  have B28 := F28.binds (ps := p_are_statements) fun _ _ _ _ _ _ us hl => match us, hl with | [_, _], _ => rfl
  have B29 := F29.binds (ps := p_declared) fun _ _ _ _ _ _ us hl => match us, hl with | [_, _], _ => rfl
  have B30 := F30.binds (ps := p_declared_by_lets) fun _ _ _ _ _ _ us hl => match us, hl with | [_], _ => rfl
  have B31 := F31.binds (ps := p_all_names) fun _ _ _ _ _ _ us hl => match us, hl with | [_, _], _ => rfl
  have B32 := F32.binds (ps := p_all_kinds) fun _ _ _ _ _ _ us hl => match us, hl with | [_, _], _ => rfl
  have B33 := F33.binds (ps := p_are_different) fun _ _ _ _ _ _ us hl => match us, hl with | [_], _ => rfl
  have B34 := F34.binds (ps := p_are_of_one_kind) fun _ _ _ _ _ _ us hl => match us, hl with | [_], _ => rfl
  have B35 := F35.binds (ps := p_all_calls_fit) fun _ _ _ _ _ _ us hl => match us, hl with | [_, _], _ => rfl
  have B36 := F36.binds (ps := p_calls_fit) fun _ _ _ _ _ _ us hl => match us, hl with | [_, _], _ => rfl
  have B37 := F37.binds (ps := p_by_name) fun _ _ _ _ _ _ us hl => match us, hl with | [_], _ => rfl
  have B38 := F38.binds (ps := p_place_fault) fun _ _ _ _ _ _ us hl => match us, hl with | [_, _], _ => rfl
  have B39 := F39.binds (ps := p_seen) fun _ _ _ _ _ _ us hl => match us, hl with | [_, _], _ => rfl
  have B40 := F40.binds (ps := p_conversion_fault) fun _ _ _ _ _ _ us hl => match us, hl with | [_, _, _], _ => rfl
  have B41 := F41.binds (ps := p_source_fault) fun _ _ _ _ _ _ us hl => match us, hl with | [_, _, _, _], _ => rfl
  have B42 := F42.binds (ps := p_put_fault) fun _ _ _ _ _ _ us hl => match us, hl with | [_, _, _, _], _ => rfl
  have B43 := F43.binds (ps := p_call_fault) fun _ _ _ _ _ _ us hl => match us, hl with | [_, _, _, _], _ => rfl
  have B44 := F44.binds (ps := p_statement_fault) fun _ _ _ _ _ _ us hl => match us, hl with | [_, _, _, _], _ => rfl
  have B45 := F45.binds (ps := p_block_faults) fun _ _ _ _ _ _ us hl => match us, hl with | [_, _, _, _], _ => rfl
  have B46 := F46.binds (ps := p_faults) fun _ _ _ _ _ _ us hl => match us, hl with | [_, _], _ => rfl
  have B47 := F47.binds (ps := p_is_let_by) fun _ _ _ _ _ _ us hl => match us, hl with | [_, _], _ => rfl
  have B48 := F48.binds (ps := p_State_init) fun _ _ _ _ _ _ us hl => match us, hl with | [_], _ => rfl
  have B49 := F49.binds (ps := p_State_twin) fun _ _ _ _ _ _ us hl => match us, hl with | [_], _ => rfl
  have B50 := F50.binds (ps := p_State_begin) fun _ _ _ _ _ _ us hl => match us, hl with | [_], _ => rfl
  have B51 := F51.binds (ps := p_State_make) fun _ _ _ _ _ _ us hl => match us, hl with | [_, _, _, _], _ => rfl
  have B52 := F52.binds (ps := p_State_read) fun _ _ _ _ _ _ us hl => match us, hl with | [_, _], _ => rfl
  have B53 := F53.binds (ps := p_State_write) fun _ _ _ _ _ _ us hl => match us, hl with | [_, _, _], _ => rfl
  have B54 := F54.binds (ps := p_thing_at) fun _ _ _ _ _ _ us hl => match us, hl with | [_, _, _], _ => rfl
  have B55 := F55.binds (ps := p_looked_up) fun _ _ _ _ _ _ us hl => match us, hl with | [_, _, _], _ => rfl
  have B56 := F56.binds (ps := p_call) fun _ _ _ _ _ _ us hl => match us, hl with | [_, _, _, _], _ => rfl
  have B57 := F57.binds (ps := p_execute) fun _ _ _ _ _ _ us hl => match us, hl with | [_, _, _, _], _ => rfl
  have B58 := F58.binds (ps := p_execute_all) fun _ _ _ _ _ _ us hl => match us, hl with | [_, _, _, _], _ => rfl
  have B59 := F59.binds (ps := p_run) fun _ _ _ _ _ _ us hl => match us, hl with | [_, _], _ => rfl
  have B60 := F60.binds (ps := p_breaking) fun _ _ _ _ _ _ us hl => match us, hl with | [_, _], _ => rfl
  have B61 := F61.binds (ps := p_is_breaking) fun _ _ _ _ _ _ us hl => match us, hl with | [_, _, _], _ => rfl
  have B62 := F62.binds (ps := p_pairs_along) fun _ _ _ _ _ _ us hl => match us, hl with | [_, _, _], _ => rfl
  have B63 := F63.binds (ps := p_first_source) fun _ _ _ _ _ _ us hl => match us, hl with | [_], _ => rfl
  have B64 := F64.binds (ps := p_holding) fun _ _ _ _ _ _ us hl => match us, hl with | [_, _, _], _ => rfl
  have B65 := F65.binds (ps := p_breach) fun _ _ _ _ _ _ us hl => match us, hl with | [_, _, _], _ => rfl
  have B66 := F66.binds (ps := p_converting) fun _ _ _ _ _ _ us hl => match us, hl with | [_, _, _], _ => rfl
  have B67 := F67.binds (ps := p__law_cell) fun _ _ _ _ _ _ us hl => match us, hl with | [_, _], _ => rfl
  have B68 := F68.binds (ps := p__law_row) fun _ _ _ _ _ _ us hl => match us, hl with | [_, _, _], _ => rfl
  have B69 := F69.binds (ps := p__law_draw) fun _ _ _ _ _ _ us hl => match us, hl with | [_, _], _ => rfl
  have B70 := F70.binds (ps := p__law_right) fun _ _ _ _ _ _ us hl => match us, hl with | [_], _ => rfl
  have B71 := F71.binds (ps := p__law_rights) fun _ _ _ _ _ _ us hl => match us, hl with | [_, _], _ => rfl
  have B72 := F72.binds (ps := p__law_within) fun _ _ _ _ _ _ us hl => match us, hl with | [_, _], _ => rfl
  have B73 := F73.binds (ps := p__law_converts) fun _ _ _ _ _ _ us hl => match us, hl with | [_, _], _ => rfl
  have B74 := F74.binds (ps := p__law_reached) fun _ _ _ _ _ _ us hl => match us, hl with | [_, _], _ => rfl
  have B75 := F75.binds (ps := p__law_source_fault) fun _ _ _ _ _ _ us hl => match us, hl with | [_, _, _, _], _ => rfl
  have B76 := F76.binds (ps := p__law_fault) fun _ _ _ _ _ _ us hl => match us, hl with | [_, _, _, _], _ => rfl
  have B77 := F77.binds (ps := p__law_block_faults) fun _ _ _ _ _ _ us hl => match us, hl with | [_, _, _, _, _], _ => rfl
  have B78 := F78.binds (ps := p__law_faults) fun _ _ _ _ _ _ us hl => match us, hl with | [_, _], _ => rfl
  have B79 := F79.binds (ps := p__law_look) fun _ _ _ _ _ _ us hl => match us, hl with | [_, _, _], _ => rfl
  have B80 := F80.binds (ps := p__law_give) fun _ _ _ _ _ _ us hl => match us, hl with | [_, _, _], _ => rfl
  have B81 := F81.binds (ps := p__law_new) fun _ _ _ _ _ _ us hl => match us, hl with | [_, _, _, _, _], _ => rfl
  have B82 := F82.binds (ps := p__law_put) fun _ _ _ _ _ _ us hl => match us, hl with | [_, _, _], _ => rfl
  have B83 := F83.binds (ps := p__law_execute) fun _ _ _ _ _ _ us hl => match us, hl with | [_, _, _, _], _ => rfl
  have B84 := F84.binds (ps := p__law_run) fun _ _ _ _ _ _ us hl => match us, hl with | [_], _ => rfl
  have B85 := F85.binds (ps := p__law_plain_program) fun _ _ _ _ _ _ us hl => match us, hl with | [_], _ => rfl
  have B86 := F86.binds (ps := p__law_pair) fun _ _ _ _ _ _ us hl => match us, hl with | [_, _], _ => rfl
  have B87 := F87.binds (ps := p__law_breaks) fun _ _ _ _ _ _ us hl => match us, hl with | [_, _, _], _ => rfl
  let T : Tx K mg := {
    a__wall := _
    e__wall := _
    d__wall := ⟨F0, B0, PySem.W.mg_of X G a0⟩
    a_RightsError_init := _
    e_RightsError_init := _
    d_RightsError_init := ⟨F1, B1⟩
    a_is_right := _
    e_is_right := _
    d_is_right := ⟨F2, B2, PySem.W.mg_of X G a2⟩
    a_is_type := _
    e_is_type := _
    d_is_type := ⟨F3, B3, PySem.W.mg_of X G a3⟩
    a_is_value_type := _
    e_is_value_type := _
    d_is_value_type := ⟨F4, B4, PySem.W.mg_of X G a4⟩
    a_has_letter := _
    e_has_letter := _
    d_has_letter := ⟨F5, B5, PySem.W.mg_of X G a5⟩
    a_within := _
    e_within := _
    d_within := ⟨F6, B6, PySem.W.mg_of X G a6⟩
    a_behind := _
    e_behind := _
    d_behind := ⟨F7, B7, PySem.W.mg_of X G a7⟩
    a_converts := _
    e_converts := _
    d_converts := ⟨F8, B8, PySem.W.mg_of X G a8⟩
    a_bar := _
    e_bar := _
    d_bar := ⟨F9, B9, PySem.W.mg_of X G a9⟩
    a_is_number := _
    e_is_number := _
    d_is_number := ⟨F10, B10, PySem.W.mg_of X G a10⟩
    a_is_name := _
    e_is_name := _
    d_is_name := ⟨F11, B11, PySem.W.mg_of X G a11⟩
    a_is_depth := _
    e_is_depth := _
    d_is_depth := ⟨F12, B12, PySem.W.mg_of X G a12⟩
    a_is_place := _
    e_is_place := _
    d_is_place := ⟨F13, B13, PySem.W.mg_of X G a13⟩
    a_first_word := _
    e_first_word := _
    d_first_word := ⟨F14, B14, PySem.W.mg_of X G a14⟩
    a_is_source := _
    e_is_source := _
    d_is_source := ⟨F15, B15, PySem.W.mg_of X G a15⟩
    a_is_source_list := _
    e_is_source_list := _
    d_is_source_list := ⟨F16, B16, PySem.W.mg_of X G a16⟩
    a_is_declared := _
    e_is_declared := _
    d_is_declared := ⟨F17, B17, PySem.W.mg_of X G a17⟩
    a_is_statement := _
    e_is_statement := _
    d_is_statement := ⟨F18, B18, PySem.W.mg_of X G a18⟩
    a_Function_init := _
    e_Function_init := _
    d_Function_init := ⟨F19, B19⟩
    a_Program_init := _
    e_Program_init := _
    d_Program_init := ⟨F20, B20⟩
    a_copied := _
    e_copied := _
    d_copied := ⟨F21, B21, PySem.W.mg_of X G a21⟩
    a_copied_statement := _
    e_copied_statement := _
    d_copied_statement := ⟨F22, B22, PySem.W.mg_of X G a22⟩
    a_copied_statements := _
    e_copied_statements := _
    d_copied_statements := ⟨F23, B23, PySem.W.mg_of X G a23⟩
    a_copied_function := _
    e_copied_function := _
    d_copied_function := ⟨F24, B24, PySem.W.mg_of X G a24⟩
    a_copied_functions := _
    e_copied_functions := _
    d_copied_functions := ⟨F25, B25, PySem.W.mg_of X G a25⟩
    a_is_program := _
    e_is_program := _
    d_is_program := ⟨F26, B26, PySem.W.mg_of X G a26⟩
    a_is_function := _
    e_is_function := _
    d_is_function := ⟨F27, B27, PySem.W.mg_of X G a27⟩
    a_are_statements := _
    e_are_statements := _
    d_are_statements := ⟨F28, B28, PySem.W.mg_of X G a28⟩
    a_declared := _
    e_declared := _
    d_declared := ⟨F29, B29, PySem.W.mg_of X G a29⟩
    a_declared_by_lets := _
    e_declared_by_lets := _
    d_declared_by_lets := ⟨F30, B30, PySem.W.mg_of X G a30⟩
    a_all_names := _
    e_all_names := _
    d_all_names := ⟨F31, B31, PySem.W.mg_of X G a31⟩
    a_all_kinds := _
    e_all_kinds := _
    d_all_kinds := ⟨F32, B32, PySem.W.mg_of X G a32⟩
    a_are_different := _
    e_are_different := _
    d_are_different := ⟨F33, B33, PySem.W.mg_of X G a33⟩
    a_are_of_one_kind := _
    e_are_of_one_kind := _
    d_are_of_one_kind := ⟨F34, B34, PySem.W.mg_of X G a34⟩
    a_all_calls_fit := _
    e_all_calls_fit := _
    d_all_calls_fit := ⟨F35, B35, PySem.W.mg_of X G a35⟩
    a_calls_fit := _
    e_calls_fit := _
    d_calls_fit := ⟨F36, B36, PySem.W.mg_of X G a36⟩
    a_by_name := _
    e_by_name := _
    d_by_name := ⟨F37, B37, PySem.W.mg_of X G a37⟩
    a_place_fault := _
    e_place_fault := _
    d_place_fault := ⟨F38, B38, PySem.W.mg_of X G a38⟩
    a_seen := _
    e_seen := _
    d_seen := ⟨F39, B39, PySem.W.mg_of X G a39⟩
    a_conversion_fault := _
    e_conversion_fault := _
    d_conversion_fault := ⟨F40, B40, PySem.W.mg_of X G a40⟩
    a_source_fault := _
    e_source_fault := _
    d_source_fault := ⟨F41, B41, PySem.W.mg_of X G a41⟩
    a_put_fault := _
    e_put_fault := _
    d_put_fault := ⟨F42, B42, PySem.W.mg_of X G a42⟩
    a_call_fault := _
    e_call_fault := _
    d_call_fault := ⟨F43, B43, PySem.W.mg_of X G a43⟩
    a_statement_fault := _
    e_statement_fault := _
    d_statement_fault := ⟨F44, B44, PySem.W.mg_of X G a44⟩
    a_block_faults := _
    e_block_faults := _
    d_block_faults := ⟨F45, B45, PySem.W.mg_of X G a45⟩
    a_faults := _
    e_faults := _
    d_faults := ⟨F46, B46, PySem.W.mg_of X G a46⟩
    a_is_let_by := _
    e_is_let_by := _
    d_is_let_by := ⟨F47, B47, PySem.W.mg_of X G a47⟩
    a_State_init := _
    e_State_init := _
    d_State_init := ⟨F48, B48⟩
    a_State_twin := _
    e_State_twin := _
    d_State_twin := ⟨F49, B49⟩
    a_State_begin := _
    e_State_begin := _
    d_State_begin := ⟨F50, B50⟩
    a_State_make := _
    e_State_make := _
    d_State_make := ⟨F51, B51⟩
    a_State_read := _
    e_State_read := _
    d_State_read := ⟨F52, B52⟩
    a_State_write := _
    e_State_write := _
    d_State_write := ⟨F53, B53⟩
    a_thing_at := _
    e_thing_at := _
    d_thing_at := ⟨F54, B54, PySem.W.mg_of X G a54⟩
    a_looked_up := _
    e_looked_up := _
    d_looked_up := ⟨F55, B55, PySem.W.mg_of X G a55⟩
    a_call := _
    e_call := _
    d_call := ⟨F56, B56, PySem.W.mg_of X G a56⟩
    a_execute := _
    e_execute := _
    d_execute := ⟨F57, B57, PySem.W.mg_of X G a57⟩
    a_execute_all := _
    e_execute_all := _
    d_execute_all := ⟨F58, B58, PySem.W.mg_of X G a58⟩
    a_run := _
    e_run := _
    d_run := ⟨F59, B59, PySem.W.mg_of X G a59⟩
    a_breaking := _
    e_breaking := _
    d_breaking := ⟨F60, B60, PySem.W.mg_of X G a60⟩
    a_is_breaking := _
    e_is_breaking := _
    d_is_breaking := ⟨F61, B61, PySem.W.mg_of X G a61⟩
    a_pairs_along := _
    e_pairs_along := _
    d_pairs_along := ⟨F62, B62, PySem.W.mg_of X G a62⟩
    a_first_source := _
    e_first_source := _
    d_first_source := ⟨F63, B63, PySem.W.mg_of X G a63⟩
    a_holding := _
    e_holding := _
    d_holding := ⟨F64, B64, PySem.W.mg_of X G a64⟩
    a_breach := _
    e_breach := _
    d_breach := ⟨F65, B65, PySem.W.mg_of X G a65⟩
    a_converting := _
    e_converting := _
    d_converting := ⟨F66, B66, PySem.W.mg_of X G a66⟩
    a__law_cell := _
    e__law_cell := _
    d__law_cell := ⟨F67, B67, PySem.W.mg_of X G a67⟩
    a__law_row := _
    e__law_row := _
    d__law_row := ⟨F68, B68, PySem.W.mg_of X G a68⟩
    a__law_draw := _
    e__law_draw := _
    d__law_draw := ⟨F69, B69, PySem.W.mg_of X G a69⟩
    a__law_right := _
    e__law_right := _
    d__law_right := ⟨F70, B70, PySem.W.mg_of X G a70⟩
    a__law_rights := _
    e__law_rights := _
    d__law_rights := ⟨F71, B71, PySem.W.mg_of X G a71⟩
    a__law_within := _
    e__law_within := _
    d__law_within := ⟨F72, B72, PySem.W.mg_of X G a72⟩
    a__law_converts := _
    e__law_converts := _
    d__law_converts := ⟨F73, B73, PySem.W.mg_of X G a73⟩
    a__law_reached := _
    e__law_reached := _
    d__law_reached := ⟨F74, B74, PySem.W.mg_of X G a74⟩
    a__law_source_fault := _
    e__law_source_fault := _
    d__law_source_fault := ⟨F75, B75, PySem.W.mg_of X G a75⟩
    a__law_fault := _
    e__law_fault := _
    d__law_fault := ⟨F76, B76, PySem.W.mg_of X G a76⟩
    a__law_block_faults := _
    e__law_block_faults := _
    d__law_block_faults := ⟨F77, B77, PySem.W.mg_of X G a77⟩
    a__law_faults := _
    e__law_faults := _
    d__law_faults := ⟨F78, B78, PySem.W.mg_of X G a78⟩
    a__law_look := _
    e__law_look := _
    d__law_look := ⟨F79, B79, PySem.W.mg_of X G a79⟩
    a__law_give := _
    e__law_give := _
    d__law_give := ⟨F80, B80, PySem.W.mg_of X G a80⟩
    a__law_new := _
    e__law_new := _
    d__law_new := ⟨F81, B81, PySem.W.mg_of X G a81⟩
    a__law_put := _
    e__law_put := _
    d__law_put := ⟨F82, B82, PySem.W.mg_of X G a82⟩
    a__law_execute := _
    e__law_execute := _
    d__law_execute := ⟨F83, B83, PySem.W.mg_of X G a83⟩
    a__law_run := _
    e__law_run := _
    d__law_run := ⟨F84, B84, PySem.W.mg_of X G a84⟩
    a__law_plain_program := _
    e__law_plain_program := _
    d__law_plain_program := ⟨F85, B85, PySem.W.mg_of X G a85⟩
    a__law_pair := _
    e__law_pair := _
    d__law_pair := ⟨F86, B86, PySem.W.mg_of X G a86⟩
    a__law_breaks := _
    e__law_breaks := _
    d__law_breaks := ⟨F87, B87, PySem.W.mg_of X G a87⟩
    a_RIGHTS := q_RIGHTS
    m_RIGHTS := PySem.W.mg_of X G u_RIGHTS
    t_RIGHTS := fun H => .inr ⟨_, _, _, v_RIGHTS, rfl, rfl, (by show 4 ≤ sizeLine; decide), (.cons ⟨_, rfl⟩ (.cons ⟨_, rfl⟩ (.cons ⟨_, rfl⟩ (.cons ⟨_, rfl⟩ .nil))))⟩
    a_LETTERS := q_LETTERS
    m_LETTERS := PySem.W.mg_of X G u_LETTERS
    t_LETTERS := fun H => .inr ⟨_, _, _, v_LETTERS, rfl, rfl, (by show 2 ≤ sizeLine; decide), (.cons ⟨_, rfl⟩ (.cons ⟨_, rfl⟩ .nil))⟩
    k_MOST_RIGHTS := k_MOST_RIGHTS
    m_MOST_RIGHTS := PySem.W.mg_of X G u_MOST_RIGHTS
    k_SIGNS := k_SIGNS
    m_SIGNS := PySem.W.mg_of X G u_SIGNS
    k_MOST_SIGNS := k_MOST_SIGNS
    m_MOST_SIGNS := PySem.W.mg_of X G u_MOST_SIGNS
    k_MOST_STARS := k_MOST_STARS
    m_MOST_STARS := PySem.W.mg_of X G u_MOST_STARS
    k_MOST_DEPTH := k_MOST_DEPTH
    m_MOST_DEPTH := PySem.W.mg_of X G u_MOST_DEPTH
    k_MOST_NUMBER := k_MOST_NUMBER
    m_MOST_NUMBER := PySem.W.mg_of X G u_MOST_NUMBER
    k_MOST_FUNCTIONS := k_MOST_FUNCTIONS
    m_MOST_FUNCTIONS := PySem.W.mg_of X G u_MOST_FUNCTIONS
    k_MOST_PARAMS := k_MOST_PARAMS
    m_MOST_PARAMS := PySem.W.mg_of X G u_MOST_PARAMS
    k_MOST_IN_BODY := k_MOST_IN_BODY
    m_MOST_IN_BODY := PySem.W.mg_of X G u_MOST_IN_BODY
    k_MOST_STATEMENTS := k_MOST_STATEMENTS
    m_MOST_STATEMENTS := PySem.W.mg_of X G u_MOST_STATEMENTS
    k_MOST_EXECUTED := k_MOST_EXECUTED
    m_MOST_EXECUTED := PySem.W.mg_of X G u_MOST_EXECUTED
    b_ValueError := PySem.W.mg_none_of X G z_ValueError
    b_str := PySem.W.mg_none_of X G z_str
    b_type := PySem.W.mg_none_of X G z_type
    b_len := PySem.W.mg_none_of X G z_len
    b_all := PySem.W.mg_none_of X G z_all
    b_tuple := PySem.W.mg_none_of X G z_tuple
    b_int := PySem.W.mg_none_of X G z_int
    b_list := PySem.W.mg_none_of X G z_list
    b_isinstance := PySem.W.mg_none_of X G z_isinstance
    b_set := PySem.W.mg_none_of X G z_set
    b_zip := PySem.W.mg_none_of X G z_zip
    b_dict := PySem.W.mg_none_of X G z_dict
    b_enumerate := PySem.W.mg_none_of X G z_enumerate
    b_range := PySem.W.mg_none_of X G z_range
    b_abs := PySem.W.mg_none_of X G z_abs
    C_RightsError := C_RightsError
    g_RightsError := PySem.W.mg_of X G aC_RightsError
    n_RightsError_reason := n_RightsError_reason
    o_RightsError := { cls := ⟨nm_RightsError, qn_RightsError, N_RightsError, bs_RightsError, _, sn_RightsError, sub_RightsError, ab_RightsError, col_RightsError, dd_RightsError, m0_RightsError, m1_RightsError, m2_RightsError, m3_RightsError, m5_RightsError, xL_RightsError, by decide +kernel⟩, sa := sa_RightsError, exC := eC_RightsError, tyC := tC_RightsError, kC := kC_RightsError }
    x_RightsError := { ga := ga_RightsError, gg := gg_RightsError, exC := eC_RightsError, hdC := hC_RightsError }
    i_RightsError := a1
    t_RightsError := i1
    s_RightsError := own_caught eC_RightsError iC_RightsError tC_RightsError sC_RightsError
    C_Function := C_Function
    g_Function := PySem.W.mg_of X G aC_Function
    n_Function_name := n_Function_name
    n_Function_params := n_Function_params
    n_Function_body := n_Function_body
    c_Function := ⟨pg_Function, hd_Function, po_Function, sa_Function⟩
    k_Function := ⟨mk_Function, a19, i19, kc_Function⟩
    i_Function := ⟨ha_Function, hn_, ht_, hm_Function⟩
    C_Program := C_Program
    g_Program := PySem.W.mg_of X G aC_Program
    n_Program_functions := n_Program_functions
    n_Program_statements := n_Program_statements
    c_Program := ⟨pg_Program, hd_Program, po_Program, sa_Program⟩
    k_Program := ⟨mk_Program, a20, i20, kc_Program⟩
    i_Program := ⟨ha_Program, hn_, ht_, hm_Program⟩
    C_State := C_State
    g_State := PySem.W.mg_of X G aC_State
    n_State_made := n_State_made
    n_State_broken := n_State_broken
    n_State_executed := n_State_executed
    n_State_scope := n_State_scope
    c_State := ⟨pg_State, hd_State, po_State, sa_State⟩
    k_State := ⟨mk_State, a48, i48, kc_State⟩
    i_State := ⟨ha_State, hn_, ht_, hm_State⟩
    h_State_twin := ⟨a49, i49, k49⟩
    h_State_begin := ⟨a50, i50, k50⟩
    h_State_make := ⟨a51, i51, k51⟩
    h_State_read := ⟨a52, i52, k52⟩
    h_State_write := ⟨a53, i53, k53⟩
    C_NullFollowed := C_NullFollowed
    g_NullFollowed := PySem.W.mg_of X G aC_NullFollowed
    q_NullFollowed := q_NullFollowed
    kp_NullFollowed := kC_NullFollowed
    b_NullFollowed := eC_NullFollowed
    y_NullFollowed := tC_NullFollowed
    s_NullFollowed := own_exm eC_NullFollowed iC_NullFollowed tC_NullFollowed sC_NullFollowed
    u_RightsError_NullFollowed := own_exm eC_NullFollowed iC_NullFollowed tC_NullFollowed uC_RightsError_NullFollowed
    vV := vV }
  exact ⟨PySem.W.fnOf "law" "law" (defArgs s_law) (defBody s_law) (defScope s_law) .none kV88 dc88 pm88 an88 cd88 ct88, fun s v => .of_eq rfl, fun base _ _ => ok_law T F88⟩
end Ver
open PySem PySem.W PyProof.Rows
set_option maxRecDepth 100000 in
set_option maxHeartbeats 0 in
theorem PySem.Challenge.cw_rightskept_k30_breaking_programs_holds : PySem.Challenge.rw_rightskept_k30_breaking_programs.Holds := by
  w_on; o_law; k_head; (case hw => w_witness2)
  k_fill
  refine L2.walk_of (l := PySem.Challenge.rw_rightskept_k30_breaking_programs) (n := 63) (k := 23) (x := "script") (CX := fun _ => L2.CX0) (sp := fun w => Ver.spLaw _) rfl (by decide) rfl ⟨rfl, by decide, by decide⟩ (fun w h Y => PySem.W.kIn_of Y) ?F (fun _ _ a ns hl _ hS => ⟨a, ns, rfl, hS, hl, fun _ => rfl⟩) (fun _ _ _ _ _ h => h)
  case F =>
    intro w mg fa h KX G hmg
    refine' Ver.all_mk KX G hmg ?aC_RightsError ?n_RightsError_reason ?xL_RightsError ?sa_RightsError ?ga_RightsError ?gg_RightsError ?eC_RightsError ?tC_RightsError ?hC_RightsError ?iC_RightsError ?sC_RightsError ?kC_RightsError ?aC_Function ?n_Function_name ?n_Function_params ?n_Function_body ?pg_Function ?hd_Function ?po_Function ?sa_Function ?mk_Function ?kc_Function ?ha_Function ?hm_Function ?aC_Program ?n_Program_functions ?n_Program_statements ?pg_Program ?hd_Program ?po_Program ?sa_Program ?mk_Program ?kc_Program ?ha_Program ?hm_Program ?aC_State ?n_State_made ?n_State_broken ?n_State_executed ?n_State_scope ?pg_State ?hd_State ?po_State ?sa_State ?mk_State ?kc_State ?ha_State ?hm_State ?aC_NullFollowed ?q_NullFollowed ?kC_NullFollowed ?eC_NullFollowed ?tC_NullFollowed ?iC_NullFollowed ?sC_NullFollowed ?uC_RightsError_NullFollowed ?hn_ ?ht_ ?vV ?a0 ?l0 ?c0 ?k0 ?a1 ?i1 ?l1 ?c1 ?k1 ?a2 ?l2 ?c2 ?k2 ?a3 ?l3 ?c3 ?k3 ?a4 ?l4 ?c4 ?k4 ?a5 ?l5 ?c5 ?k5 ?a6 ?l6 ?c6 ?k6 ?a7 ?l7 ?c7 ?k7 ?a8 ?l8 ?c8 ?k8 ?a9 ?l9 ?c9 ?k9 ?a10 ?l10 ?c10 ?k10 ?a11 ?l11 ?c11 ?k11 ?a12 ?l12 ?c12 ?k12 ?a13 ?l13 ?c13 ?k13 ?a14 ?l14 ?c14 ?k14 ?a15 ?l15 ?c15 ?k15 ?a16 ?l16 ?c16 ?k16 ?a17 ?l17 ?c17 ?k17 ?a18 ?l18 ?c18 ?k18 ?a19 ?i19 ?l19 ?c19 ?k19 ?a20 ?i20 ?l20 ?c20 ?k20 ?a21 ?l21 ?c21 ?k21 ?a22 ?l22 ?c22 ?k22 ?a23 ?l23 ?c23 ?k23 ?a24 ?l24 ?c24 ?k24 ?a25 ?l25 ?c25 ?k25 ?a26 ?l26 ?c26 ?k26 ?a27 ?l27 ?c27 ?k27 ?a28 ?l28 ?c28 ?k28 ?a29 ?l29 ?c29 ?k29 ?a30 ?l30 ?c30 ?k30 ?a31 ?l31 ?c31 ?k31 ?a32 ?l32 ?c32 ?k32 ?a33 ?l33 ?c33 ?k33 ?a34 ?l34 ?c34 ?k34 ?a35 ?l35 ?c35 ?k35 ?a36 ?l36 ?c36 ?k36 ?a37 ?l37 ?c37 ?k37 ?a38 ?l38 ?c38 ?k38 ?a39 ?l39 ?c39 ?k39 ?a40 ?l40 ?c40 ?k40 ?a41 ?l41 ?c41 ?k41 ?a42 ?l42 ?c42 ?k42 ?a43 ?l43 ?c43 ?k43 ?a44 ?l44 ?c44 ?k44 ?a45 ?l45 ?c45 ?k45 ?a46 ?l46 ?c46 ?k46 ?a47 ?l47 ?c47 ?k47 ?a48 ?i48 ?l48 ?c48 ?k48 ?a49 ?i49 ?l49 ?c49 ?k49 ?a50 ?i50 ?l50 ?c50 ?k50 ?a51 ?i51 ?l51 ?c51 ?k51 ?a52 ?i52 ?l52 ?c52 ?k52 ?a53 ?i53 ?l53 ?c53 ?k53 ?a54 ?l54 ?c54 ?k54 ?a55 ?l55 ?c55 ?k55 ?a56 ?l56 ?c56 ?k56 ?a57 ?l57 ?c57 ?k57 ?a58 ?l58 ?c58 ?k58 ?a59 ?l59 ?c59 ?k59 ?a60 ?l60 ?c60 ?k60 ?a61 ?l61 ?c61 ?k61 ?a62 ?l62 ?c62 ?k62 ?a63 ?l63 ?c63 ?k63 ?a64 ?l64 ?c64 ?k64 ?a65 ?l65 ?c65 ?k65 ?a66 ?l66 ?c66 ?k66 ?a67 ?l67 ?c67 ?k67 ?a68 ?l68 ?c68 ?k68 ?a69 ?l69 ?c69 ?k69 ?a70 ?l70 ?c70 ?k70 ?a71 ?l71 ?c71 ?k71 ?a72 ?l72 ?c72 ?k72 ?a73 ?l73 ?c73 ?k73 ?a74 ?l74 ?c74 ?k74 ?a75 ?l75 ?c75 ?k75 ?a76 ?l76 ?c76 ?k76 ?a77 ?l77 ?c77 ?k77 ?a78 ?l78 ?c78 ?k78 ?a79 ?l79 ?c79 ?k79 ?a80 ?l80 ?c80 ?k80 ?a81 ?l81 ?c81 ?k81 ?a82 ?l82 ?c82 ?k82 ?a83 ?l83 ?c83 ?k83 ?a84 ?l84 ?c84 ?k84 ?a85 ?l85 ?c85 ?k85 ?a86 ?l86 ?c86 ?k86 ?a87 ?l87 ?c87 ?k87 ?a88 ?l88 ?c88 ?k88 ?u_RIGHTS ?v_RIGHTS ?u_LETTERS ?v_LETTERS ?u_MOST_RIGHTS ?u_SIGNS ?u_MOST_SIGNS ?u_MOST_STARS ?u_MOST_DEPTH ?u_MOST_NUMBER ?u_MOST_FUNCTIONS ?u_MOST_PARAMS ?u_MOST_IN_BODY ?u_MOST_STATEMENTS ?u_MOST_EXECUTED ?z_ValueError ?z_str ?z_type ?z_len ?z_all ?z_tuple ?z_int ?z_list ?z_isinstance ?z_set ?z_zip ?z_dict ?z_enumerate ?z_range ?z_abs
    (case aC_RightsError => k_is)
    (case n_RightsError_reason => k_is)
    (case xL_RightsError => k_is)
    (case sa_RightsError => k_is)
    (case ga_RightsError => k_is)
    (case gg_RightsError => k_is)
    (case eC_RightsError => k_is)
    (case tC_RightsError => k_is)
    (case hC_RightsError => k_is)
    (case iC_RightsError => k_is)
    (case sC_RightsError => first | rfl | k_is)
    (case kC_RightsError => k_is)
    (case aC_Function => k_is)
    (case n_Function_name => k_is)
    (case n_Function_params => k_is)
    (case n_Function_body => k_is)
    (case pg_Function => k_is)
    (case hd_Function => k_is)
    (case po_Function => k_is)
    (case sa_Function => k_is)
    (case mk_Function => k_is)
    (case kc_Function => k_is)
    (case ha_Function => k_is)
    (case hm_Function => k_is)
    (case aC_Program => k_is)
    (case n_Program_functions => k_is)
    (case n_Program_statements => k_is)
    (case pg_Program => k_is)
    (case hd_Program => k_is)
    (case po_Program => k_is)
    (case sa_Program => k_is)
    (case mk_Program => k_is)
    (case kc_Program => k_is)
    (case ha_Program => k_is)
    (case hm_Program => k_is)
    (case aC_State => k_is)
    (case n_State_made => k_is)
    (case n_State_broken => k_is)
    (case n_State_executed => k_is)
    (case n_State_scope => k_is)
    (case pg_State => k_is)
    (case hd_State => k_is)
    (case po_State => k_is)
    (case sa_State => k_is)
    (case mk_State => k_is)
    (case kc_State => k_is)
    (case ha_State => k_is)
    (case hm_State => k_is)
    (case aC_NullFollowed => k_is)
    (case q_NullFollowed => first | rfl | k_exc | k_is)
    (case kC_NullFollowed => k_is)
    (case eC_NullFollowed => k_is)
    (case tC_NullFollowed => k_is)
    (case iC_NullFollowed => k_is)
    (case sC_NullFollowed => first | rfl | k_is)
    (case uC_RightsError_NullFollowed => k_is)
    (case hn_ => k_is)
    (case ht_ => k_is)
    (case vV => k_is)
    (case a0 => k_is)
    (case l0 => k_is)
    (case c0 => k_is)
    (case k0 => k_is)
    (case a1 => k_is)
    (case i1 => k_is)
    (case l1 => k_is)
    (case c1 => k_is)
    (case k1 => k_is)
    (case a2 => k_is)
    (case l2 => k_is)
    (case c2 => k_is)
    (case k2 => k_is)
    (case a3 => k_is)
    (case l3 => k_is)
    (case c3 => k_is)
    (case k3 => k_is)
    (case a4 => k_is)
    (case l4 => k_is)
    (case c4 => k_is)
    (case k4 => k_is)
    (case a5 => k_is)
    (case l5 => k_is)
    (case c5 => k_is)
    (case k5 => k_is)
    (case a6 => k_is)
    (case l6 => k_is)
    (case c6 => k_is)
    (case k6 => k_is)
    (case a7 => k_is)
    (case l7 => k_is)
    (case c7 => k_is)
    (case k7 => k_is)
    (case a8 => k_is)
    (case l8 => k_is)
    (case c8 => k_is)
    (case k8 => k_is)
    (case a9 => k_is)
    (case l9 => k_is)
    (case c9 => k_is)
    (case k9 => k_is)
    (case a10 => k_is)
    (case l10 => k_is)
    (case c10 => k_is)
    (case k10 => k_is)
    (case a11 => k_is)
    (case l11 => k_is)
    (case c11 => k_is)
    (case k11 => k_is)
    (case a12 => k_is)
    (case l12 => k_is)
    (case c12 => k_is)
    (case k12 => k_is)
    (case a13 => k_is)
    (case l13 => k_is)
    (case c13 => k_is)
    (case k13 => k_is)
    (case a14 => k_is)
    (case l14 => k_is)
    (case c14 => k_is)
    (case k14 => k_is)
    (case a15 => k_is)
    (case l15 => k_is)
    (case c15 => k_is)
    (case k15 => k_is)
    (case a16 => k_is)
    (case l16 => k_is)
    (case c16 => k_is)
    (case k16 => k_is)
    (case a17 => k_is)
    (case l17 => k_is)
    (case c17 => k_is)
    (case k17 => k_is)
    (case a18 => k_is)
    (case l18 => k_is)
    (case c18 => k_is)
    (case k18 => k_is)
    (case a19 => k_is)
    (case i19 => k_is)
    (case l19 => k_is)
    (case c19 => k_is)
    (case k19 => k_is)
    (case a20 => k_is)
    (case i20 => k_is)
    (case l20 => k_is)
    (case c20 => k_is)
    (case k20 => k_is)
    (case a21 => k_is)
    (case l21 => k_is)
    (case c21 => k_is)
    (case k21 => k_is)
    (case a22 => k_is)
    (case l22 => k_is)
    (case c22 => k_is)
    (case k22 => k_is)
    (case a23 => k_is)
    (case l23 => k_is)
    (case c23 => k_is)
    (case k23 => k_is)
    (case a24 => k_is)
    (case l24 => k_is)
    (case c24 => k_is)
    (case k24 => k_is)
    (case a25 => k_is)
    (case l25 => k_is)
    (case c25 => k_is)
    (case k25 => k_is)
    (case a26 => k_is)
    (case l26 => k_is)
    (case c26 => k_is)
    (case k26 => k_is)
    (case a27 => k_is)
    (case l27 => k_is)
    (case c27 => k_is)
    (case k27 => k_is)
    (case a28 => k_is)
    (case l28 => k_is)
    (case c28 => k_is)
    (case k28 => k_is)
    (case a29 => k_is)
    (case l29 => k_is)
    (case c29 => k_is)
    (case k29 => k_is)
    (case a30 => k_is)
    (case l30 => k_is)
    (case c30 => k_is)
    (case k30 => k_is)
    (case a31 => k_is)
    (case l31 => k_is)
    (case c31 => k_is)
    (case k31 => k_is)
    (case a32 => k_is)
    (case l32 => k_is)
    (case c32 => k_is)
    (case k32 => k_is)
    (case a33 => k_is)
    (case l33 => k_is)
    (case c33 => k_is)
    (case k33 => k_is)
    (case a34 => k_is)
    (case l34 => k_is)
    (case c34 => k_is)
    (case k34 => k_is)
    (case a35 => k_is)
    (case l35 => k_is)
    (case c35 => k_is)
    (case k35 => k_is)
    (case a36 => k_is)
    (case l36 => k_is)
    (case c36 => k_is)
    (case k36 => k_is)
    (case a37 => k_is)
    (case l37 => k_is)
    (case c37 => k_is)
    (case k37 => k_is)
    (case a38 => k_is)
    (case l38 => k_is)
    (case c38 => k_is)
    (case k38 => k_is)
    (case a39 => k_is)
    (case l39 => k_is)
    (case c39 => k_is)
    (case k39 => k_is)
    (case a40 => k_is)
    (case l40 => k_is)
    (case c40 => k_is)
    (case k40 => k_is)
    (case a41 => k_is)
    (case l41 => k_is)
    (case c41 => k_is)
    (case k41 => k_is)
    (case a42 => k_is)
    (case l42 => k_is)
    (case c42 => k_is)
    (case k42 => k_is)
    (case a43 => k_is)
    (case l43 => k_is)
    (case c43 => k_is)
    (case k43 => k_is)
    (case a44 => k_is)
    (case l44 => k_is)
    (case c44 => k_is)
    (case k44 => k_is)
    (case a45 => k_is)
    (case l45 => k_is)
    (case c45 => k_is)
    (case k45 => k_is)
    (case a46 => k_is)
    (case l46 => k_is)
    (case c46 => k_is)
    (case k46 => k_is)
    (case a47 => k_is)
    (case l47 => k_is)
    (case c47 => k_is)
    (case k47 => k_is)
    (case a48 => k_is)
    (case i48 => k_is)
    (case l48 => k_is)
    (case c48 => k_is)
    (case k48 => k_is)
    (case a49 => k_is)
    (case i49 => k_is)
    (case l49 => k_is)
    (case c49 => k_is)
    (case k49 => k_is)
    (case a50 => k_is)
    (case i50 => k_is)
    (case l50 => k_is)
    (case c50 => k_is)
    (case k50 => k_is)
    (case a51 => k_is)
    (case i51 => k_is)
    (case l51 => k_is)
    (case c51 => k_is)
    (case k51 => k_is)
    (case a52 => k_is)
    (case i52 => k_is)
    (case l52 => k_is)
    (case c52 => k_is)
    (case k52 => k_is)
    (case a53 => k_is)
    (case i53 => k_is)
    (case l53 => k_is)
    (case c53 => k_is)
    (case k53 => k_is)
    (case a54 => k_is)
    (case l54 => k_is)
    (case c54 => k_is)
    (case k54 => k_is)
    (case a55 => k_is)
    (case l55 => k_is)
    (case c55 => k_is)
    (case k55 => k_is)
    (case a56 => k_is)
    (case l56 => k_is)
    (case c56 => k_is)
    (case k56 => k_is)
    (case a57 => k_is)
    (case l57 => k_is)
    (case c57 => k_is)
    (case k57 => k_is)
    (case a58 => k_is)
    (case l58 => k_is)
    (case c58 => k_is)
    (case k58 => k_is)
    (case a59 => k_is)
    (case l59 => k_is)
    (case c59 => k_is)
    (case k59 => k_is)
    (case a60 => k_is)
    (case l60 => k_is)
    (case c60 => k_is)
    (case k60 => k_is)
    (case a61 => k_is)
    (case l61 => k_is)
    (case c61 => k_is)
    (case k61 => k_is)
    (case a62 => k_is)
    (case l62 => k_is)
    (case c62 => k_is)
    (case k62 => k_is)
    (case a63 => k_is)
    (case l63 => k_is)
    (case c63 => k_is)
    (case k63 => k_is)
    (case a64 => k_is)
    (case l64 => k_is)
    (case c64 => k_is)
    (case k64 => k_is)
    (case a65 => k_is)
    (case l65 => k_is)
    (case c65 => k_is)
    (case k65 => k_is)
    (case a66 => k_is)
    (case l66 => k_is)
    (case c66 => k_is)
    (case k66 => k_is)
    (case a67 => k_is)
    (case l67 => k_is)
    (case c67 => k_is)
    (case k67 => k_is)
    (case a68 => k_is)
    (case l68 => k_is)
    (case c68 => k_is)
    (case k68 => k_is)
    (case a69 => k_is)
    (case l69 => k_is)
    (case c69 => k_is)
    (case k69 => k_is)
    (case a70 => k_is)
    (case l70 => k_is)
    (case c70 => k_is)
    (case k70 => k_is)
    (case a71 => k_is)
    (case l71 => k_is)
    (case c71 => k_is)
    (case k71 => k_is)
    (case a72 => k_is)
    (case l72 => k_is)
    (case c72 => k_is)
    (case k72 => k_is)
    (case a73 => k_is)
    (case l73 => k_is)
    (case c73 => k_is)
    (case k73 => k_is)
    (case a74 => k_is)
    (case l74 => k_is)
    (case c74 => k_is)
    (case k74 => k_is)
    (case a75 => k_is)
    (case l75 => k_is)
    (case c75 => k_is)
    (case k75 => k_is)
    (case a76 => k_is)
    (case l76 => k_is)
    (case c76 => k_is)
    (case k76 => k_is)
    (case a77 => k_is)
    (case l77 => k_is)
    (case c77 => k_is)
    (case k77 => k_is)
    (case a78 => k_is)
    (case l78 => k_is)
    (case c78 => k_is)
    (case k78 => k_is)
    (case a79 => k_is)
    (case l79 => k_is)
    (case c79 => k_is)
    (case k79 => k_is)
    (case a80 => k_is)
    (case l80 => k_is)
    (case c80 => k_is)
    (case k80 => k_is)
    (case a81 => k_is)
    (case l81 => k_is)
    (case c81 => k_is)
    (case k81 => k_is)
    (case a82 => k_is)
    (case l82 => k_is)
    (case c82 => k_is)
    (case k82 => k_is)
    (case a83 => k_is)
    (case l83 => k_is)
    (case c83 => k_is)
    (case k83 => k_is)
    (case a84 => k_is)
    (case l84 => k_is)
    (case c84 => k_is)
    (case k84 => k_is)
    (case a85 => k_is)
    (case l85 => k_is)
    (case c85 => k_is)
    (case k85 => k_is)
    (case a86 => k_is)
    (case l86 => k_is)
    (case c86 => k_is)
    (case k86 => k_is)
    (case a87 => k_is)
    (case l87 => k_is)
    (case c87 => k_is)
    (case k87 => k_is)
    (case a88 => k_is)
    (case l88 => k_is)
    (case c88 => k_is)
    (case k88 => k_is)
    (case u_RIGHTS => k_is)
    (case v_RIGHTS => k_is)
    (case u_LETTERS => k_is)
    (case v_LETTERS => k_is)
    (case u_MOST_RIGHTS => k_is)
    (case u_SIGNS => k_is)
    (case u_MOST_SIGNS => k_is)
    (case u_MOST_STARS => k_is)
    (case u_MOST_DEPTH => k_is)
    (case u_MOST_NUMBER => k_is)
    (case u_MOST_FUNCTIONS => k_is)
    (case u_MOST_PARAMS => k_is)
    (case u_MOST_IN_BODY => k_is)
    (case u_MOST_STATEMENTS => k_is)
    (case u_MOST_EXECUTED => k_is)
    (case z_ValueError => k_is)
    (case z_str => k_is)
    (case z_type => k_is)
    (case z_len => k_is)
    (case z_all => k_is)
    (case z_tuple => k_is)
    (case z_int => k_is)
    (case z_list => k_is)
    (case z_isinstance => k_is)
    (case z_set => k_is)
    (case z_zip => k_is)
    (case z_dict => k_is)
    (case z_enumerate => k_is)
    (case z_range => k_is)
    (case z_abs => k_is)
