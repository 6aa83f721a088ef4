import PyProof.Rows.All
import Wide.All
import OpenK.AllK
import Wide.FinOn
import HandS.ForMost
import HandS.Evl
import HandS.TupAny
import HandS.TupMul
import HandS.IsInst
import HandS.Zip
import HandS.Deep
import HandS.Style
import HandS.Strs
import HandS.More
import HandS.Exc
import HandS.ExcInit
import HandS.ExcOwn
import HandS.ExcField
import HandS.WordsExc
import HandS.Dict
import HandS.TryOnly
import PySem.Challenge.RW_rightskept_k12_programs_at_their_bounds
set_option Elab.async false
set_option linter.all false
set_option maxRecDepth 100000
set_option maxHeartbeats 4000000
namespace Ver
open PySem L2 Evl
/-- a new list, a new tuple -/
def NewL (xs : List V) (H : Hp) (Q : VK) : Prop := xs.length ≤ sizeLine ∧ ∀ p, H p = none → Q (.ref p) (upd H p (.lst xs))
def NewU (xs : List V) (H : Hp) (Q : VK) : Prop := xs.length ≤ sizeLine ∧ ∀ p, H p = none → Q (.ref p) (upd H p (.tup xs))
/-! ## a small executor over readings: one lemma a head -/
section
variable {K : PySem.W.Frag} {σ : L2.St} {H H' H1 : Hp} {ta tb te : TE} {t u c : TT} {ts us : TS} {x y z v : V} {r : R2} {D : Ends} {g : TG} {Q : VK} {i j : Nat}
theorem w_seq (h : ts { D with nx := us D } σ H) : tSeq ts us D σ H := h
theorem w_next (h : D.nx σ H) : tNext D σ H := h
theorem w_asg (h : te σ H fun a Ha => g a σ Ha D.nx) : tAsg te g D σ H := h
theorem w_name {N : L2.St → Hp → Prop} (h : N (σ.set i (some v)) H) : gName i v σ H N := h
theorem w_if (h : c σ H fun k Hk => if k = true then ts D σ Hk else us D σ Hk) : tIfS c ts us D σ H := h
theorem w_ret (h : te σ H D.rt) : tRet te D σ H := h
theorem w_drop (h : te σ H fun _ Ha => D.nx σ Ha) : tDrop te D σ H := h
theorem w_brk (h : D.bk σ H) : tBreak D σ H := h
theorem w_cont (h : D.ct σ H) : tCont D σ H := h
theorem w_var (e : σ[i]? = some (some v)) (h : Q v H) : tVar i σ H Q := ⟨v, e, h⟩
theorem w_c (h : Q v H) : tC v σ H Q := h
theorem w_op (h : ta σ H fun a Ha => tb σ Ha fun b Hb => r a b Hb Q) : tOp r ta tb σ H Q := h
theorem w_un {f : V → Hp → VK → Prop} (h : ta σ H fun a Ha => f a Ha Q) : tUn f ta σ H Q := h
theorem w_I0 {f : Int → Int → V} {a b : Int} (h : Q (f a b) H) : rI0 f (.int a) (.int b) H Q := ⟨a, b, rfl, rfl, h⟩
theorem w_I {C : Int → Int → Prop} {f : Int → Int → V} {a b : Int} (hc : C a b) (h : Q (f a b) H) : rI C f (.int a) (.int b) H Q := ⟨a, b, rfl, rfl, hc, h⟩
theorem w_neg {a : Int} (h : Q (.int (-a)) H) : rU (fun n => .int (-n)) (.int a) H Q := ⟨a, rfl, h⟩
theorem w_eq (e : scal x y = true) (h : Q (.bl (decide (x = y))) H) : rEq x y H Q := ⟨e, h⟩
theorem w_ne (e : scal x y = true) (h : Q (.bl (!decide (x = y))) H) : rNe x y H Q := ⟨e, h⟩
theorem w_eqI {a b : Int} (h : Q (.bl (decide (a = b))) H) : rEq (.int a) (.int b) H Q := ⟨rfl, by
  have e : decide (V.int a = V.int b) = decide (a = b) := by
    by_cases q : a = b
    · rw [q]; simp
    · rw [decide_eq_false q, decide_eq_false (fun z => q (V.int.inj z))]
  rw [e]; exact h⟩
theorem w_neI {a b : Int} (h : Q (.bl (!decide (a = b))) H) : rNe (.int a) (.int b) H Q := ⟨rfl, by
  have e : decide (V.int a = V.int b) = decide (a = b) := by
    by_cases q : a = b
    · rw [q]; simp
    · rw [decide_eq_false q, decide_eq_false (fun z => q (V.int.inj z))]
  rw [e]; exact h⟩
theorem w_eqS {a b : Str} (h : Q (.bl (decide (a = b))) H) : rEq (.str a) (.str b) H Q := ⟨rfl, by
  have e : decide (V.str a = V.str b) = decide (a = b) := by
    by_cases q : a = b
    · rw [q]; simp
    · rw [decide_eq_false q, decide_eq_false (fun z => q (V.str.inj z))]
  rw [e]; exact h⟩
theorem w_neS {a b : Str} (h : Q (.bl (!decide (a = b))) H) : rNe (.str a) (.str b) H Q := ⟨rfl, by
  have e : decide (V.str a = V.str b) = decide (a = b) := by
    by_cases q : a = b
    · rw [q]; simp
    · rw [decide_eq_false q, decide_eq_false (fun z => q (V.str.inj z))]
  rw [e]; exact h⟩
theorem w_eqB {a b : Bool} (h : Q (.bl (a == b)) H) : rEq (.bl a) (.bl b) H Q := ⟨rfl, by
  have e : decide (V.bl a = V.bl b) = (a == b) := by cases a <;> cases b <;> rfl
  rw [e]; exact h⟩
theorem w_neB {a b : Bool} (h : Q (.bl (a != b)) H) : rNe (.bl a) (.bl b) H Q := ⟨rfl, by
  have e : (!decide (V.bl a = V.bl b)) = (a != b) := by cases a <;> cases b <;> rfl
  rw [e]; exact h⟩
theorem w_test {N : Bool → Hp → Prop} (h : te σ H fun a Ha => ∃ k, a = .bl k ∧ N k Ha) : tTest te σ H N := h
theorem w_B {N : Bool → Hp → Prop} (h : te σ H fun a Ha => ∃ k, a = .bl k ∧ N k Ha) : tB te σ H N := h
theorem w_bl {N : Bool → Hp → Prop} {k : Bool} (h : N k H) : ∃ k', V.bl k = .bl k' ∧ N k' H := ⟨k, rfl, h⟩
theorem w_blV {N : Bool → Prop} {k : Bool} (h : N k) : ∃ k', V.bl k = .bl k' ∧ N k' := ⟨k, rfl, h⟩
theorem w_and {N : Bool → Hp → Prop} (h : t σ H fun k Hk => if k = true then u σ Hk N else N false Hk) : tAnd t u σ H N := h
theorem w_or {N : Bool → Hp → Prop} (h : t σ H fun k Hk => if k = true then N true Hk else u σ Hk N) : tOr t u σ H N := h
theorem w_not {N : Bool → Hp → Prop} (h : t σ H fun k Hk => N (!k) Hk) : tNot t σ H N := h
theorem w_andV (h : ta σ H fun a Ha => ∃ k, a = .bl k ∧ if k = true then tb σ Ha Q else Q (.bl false) Ha) : tAndV ta tb σ H Q := h
theorem w_orV (h : ta σ H fun a Ha => ∃ k, a = .bl k ∧ if k = true then Q (.bl true) Ha else tb σ Ha Q) : tOrV ta tb σ H Q := h
theorem w_notV (h : ta σ H fun a Ha => ∃ k, a = .bl k ∧ Q (.bl (!k)) Ha) : tNotV ta σ H Q := h
theorem w_ifE (h : c σ H fun k Hk => if k = true then ta σ Hk Q else tb σ Hk Q) : tIf c ta tb σ H Q := h
theorem w_yes {N : Bool → Hp → Prop} (h : N true H) : tYes σ H N := h
theorem w_nil {N : List V → Hp → Prop} (h : N [] H) : tNil σ H N := h
theorem w_cons {tr : TA} {N : List V → Hp → Prop} (h : ta σ H fun a Ha => tr σ Ha fun xs Hb => N (a :: xs) Hb) : tCons ta tr σ H N := h
theorem w_CB {f : List V → Hp → VK → Prop} {a : TA} (h : a σ H fun vs Ha => f vs Ha Q) : tCB f a σ H Q := h
theorem w_call {sp : Sp} {dvs : List V} {E : XK} {a : TA} (h : a σ H fun vs Ha => sp (vs ++ dvs) Ha Q E) : tCall sp dvs E a σ H Q := h
theorem w_callN {sp : Sp} {E : XK} {a : TA} (h : a σ H fun vs Ha => sp vs Ha Q E) : tCall sp [] E a σ H Q := by
  have e : (fun (vs : List V) Ha => sp (vs ++ []) Ha Q E) = fun vs Ha => sp vs Ha Q E := by
    funext vs Ha
    rw [List.append_nil]
  show a σ H fun vs Ha => sp (vs ++ []) Ha Q E
  rw [e]
  exact h
theorem w_BM {T : String} {f : V → List V → Hp → VK → Prop} {a : TA} (h : te σ H fun x Ha => tyV K T x Ha ∧ a σ Ha fun xs Hb => f x xs Hb Q) : tBM K T f te a σ H Q := h
theorem w_BM0 {T : String} {f : V → List V → Hp → VK → Prop} (h : te σ H fun x Ha => tyV K T x Ha ∧ f x [] Ha Q) : tBM0 K T f te σ H Q := h
theorem w_noPart {N : Option Int → Hp → Prop} (h : N none H) : tNoPart σ H N := h
theorem w_part {N : Option Int → Hp → Prop} (h : te σ H fun a Ha => ∃ k, a = .int k ∧ N (some k) Ha) : tPart te σ H N := h
theorem w_int {N : Option Int → Hp → Prop} {k : Int} (h : N (some k) H) : ∃ k', V.int k = .int k' ∧ N (some k') H := ⟨k, rfl, h⟩
theorem w_sl {f : V → Option Int → Option Int → Hp → VK → Prop} {tl th : TO} (h : te σ H fun a Ha => tl σ Ha fun l Hb => th σ Hb fun m Hc => f a l m Hc Q) : tSl f te tl th σ H Q := h
theorem w_tup {a : TA} (h : a σ H fun xs Ha => NewU xs Ha Q) : tTup a σ H Q := h
theorem w_lst {a : TA} (h : a σ H fun xs Ha => NewL xs Ha Q) : tLst a σ H Q := h
theorem w_subG {to ti : TE} {f : TSet} {N : L2.St → Hp → Prop} (h : to σ H fun o Ha => ti σ Ha fun k Hb => f o k v Hb fun Hc => N σ Hc) : gSub to ti f v σ H N := h
theorem w_gtup {n : Nat} {gs : TGs} {N : L2.St → Hp → Prop} {p : Addr} {xs : List V} (hx : SqT K H p xs) (hn : xs.length = n) (h : gs xs σ H N) : gTup K n gs (.ref p) σ H N := ⟨p, xs, rfl, hx, hn, h⟩
theorem w_gcons {gs : TGs} {xs : List V} {N : L2.St → Hp → Prop} (h : g v σ H fun σ' Ha => gs xs σ' Ha N) : gCons g gs (v :: xs) σ H N := ⟨v, xs, rfl, h⟩
theorem w_gnil {N : L2.St → Hp → Prop} (h : N σ H) : gNil [] σ H N := ⟨rfl, h⟩
theorem iteNT {A B : Prop} (h : B) : if (!true) = true then A else B := h
theorem iteNF {A B : Prop} (h : A) : if (!false) = true then A else B := h
theorem w_chain {r' : R2} {tc : TE} (h : ta σ H fun a Ha => tb σ Ha fun b Hb => r a b Hb fun z Hc => ∃ k, z = .bl k ∧ (if k = true then tc σ Hc fun c Hd => r' b c Hd Q else Q (.bl false) Hc)) : tChain r r' ta tb tc σ H Q := h
theorem w_lenS {a : Str} (hz : a.length ≤ 100000) (k : Q (.int a.length) H) : (∃ s, [V.str a] = [.str s] ∧ s.length ≤ sizeLine ∧ Q (.int s.length) H) := ⟨a, rfl, sz_of hz, k⟩
/-! loops -/
def LoopG (J : It) (g : TG) (b : TS) (D : Ends) (σ : L2.St) (H : Hp) : Prop := tFor (fun _ h R => R J h) g b D σ H
def CompG (J : It) (g : TG) (t : TT) (e : TE) (vs : List Nat) (σ : L2.St) (H : Hp) (Q : VK) : Prop := tLc (fun _ h R => R J h) g t e vs σ H Q
theorem w_for {wi : TI} (h : wi σ H fun J Ha => LoopG J g ts D σ Ha) : tFor wi g ts D σ H := h
theorem w_lc {wi : TI} {vs : List Nat} (h : wi σ H fun J Ha => CompG J g t te vs σ Ha Q) : tLc wi g t te vs σ H Q := h
theorem w_iR1 {a : TA} {R : It → Hp → Prop} (h : a σ H fun vs Ha => ∃ k : Int, vs = [.int k] ∧ -(2 ^ 62) ≤ k ∧ k < 2 ^ 62 ∧ R (Itr 0 k.toNat) Ha) : iRng1 a σ H R := h
theorem w_iR2 {a : TA} {R : It → Hp → Prop} (h : a σ H fun vs Ha => ∃ k l : Int, vs = [.int k, .int l] ∧ (-(2 ^ 62) ≤ k ∧ k < 2 ^ 62 ∧ -(2 ^ 62) ≤ l ∧ l < 2 ^ 62) ∧ R (Itr k (l - k).toNat) Ha) : iRng2 a σ H R := h
theorem w_iL {R : It → Hp → Prop} (h : te σ H fun a Ha => ∃ p, a = .ref p ∧ (∃ xs, SqL K Ha p xs) ∧ R (Itl K p) Ha) : iList K te σ H R := h
theorem w_iT {R : It → Hp → Prop} (h : te σ H fun a Ha => ∃ p, a = .ref p ∧ (∃ xs, SqT K Ha p xs) ∧ R (Itt K p) Ha) : iTup K te σ H R := h
theorem w_iS {R : It → Hp → Prop} (h : te σ H fun a Ha => ∃ s, a = .str s ∧ R (Its s) Ha) : iStr te σ H R := h
theorem r_R1 {k : Int} (hk : 0 ≤ k ∧ k ≤ 100000) (h : LoopG (Itr 0 k.toNat) g ts D σ H) : ∃ k' : Int, [V.int k] = [.int k'] ∧ -(2 ^ 62) ≤ k' ∧ k' < 2 ^ 62 ∧ LoopG (Itr 0 k'.toNat) g ts D σ H := ⟨k, rfl, by omega, by omega, h⟩
theorem c_R1 {k : Int} {vs : List Nat} (hk : 0 ≤ k ∧ k ≤ 100000) (h : CompG (Itr 0 k.toNat) g t te vs σ H Q) : ∃ k' : Int, [V.int k] = [.int k'] ∧ -(2 ^ 62) ≤ k' ∧ k' < 2 ^ 62 ∧ CompG (Itr 0 k'.toNat) g t te vs σ H Q := ⟨k, rfl, by omega, by omega, h⟩
theorem r_R2 {k l : Int} (hk : 0 ≤ k ∧ k ≤ 100000 ∧ -100000 ≤ l ∧ l ≤ 100000) (h : LoopG (Itr k (l - k).toNat) g ts D σ H) : ∃ k' l' : Int, [V.int k, V.int l] = [.int k', .int l'] ∧ (-(2 ^ 62) ≤ k' ∧ k' < 2 ^ 62 ∧ -(2 ^ 62) ≤ l' ∧ l' < 2 ^ 62) ∧ LoopG (Itr k' (l' - k').toNat) g ts D σ H := ⟨k, l, rfl, by omega, h⟩
theorem r_L {p : Addr} {xs : List V} (hx : SqL K H p xs) (h : LoopG (Itl K p) g ts D σ H) : ∃ q, V.ref p = .ref q ∧ (∃ xs, SqL K H q xs) ∧ LoopG (Itl K q) g ts D σ H := ⟨p, rfl, ⟨xs, hx⟩, h⟩
theorem c_L {p : Addr} {xs : List V} {vs : List Nat} (hx : SqL K H p xs) (h : CompG (Itl K p) g t te vs σ H Q) : ∃ q, V.ref p = .ref q ∧ (∃ xs, SqL K H q xs) ∧ CompG (Itl K q) g t te vs σ H Q := ⟨p, rfl, ⟨xs, hx⟩, h⟩
theorem r_T {p : Addr} {xs : List V} (hx : SqT K H p xs) (h : LoopG (Itt K p) g ts D σ H) : ∃ q, V.ref p = .ref q ∧ (∃ xs, SqT K H q xs) ∧ LoopG (Itt K q) g ts D σ H := ⟨p, rfl, ⟨xs, hx⟩, h⟩
theorem c_T {p : Addr} {xs : List V} {vs : List Nat} (hx : SqT K H p xs) (h : CompG (Itt K p) g t te vs σ H Q) : ∃ q, V.ref p = .ref q ∧ (∃ xs, SqT K H q xs) ∧ CompG (Itt K q) g t te vs σ H Q := ⟨p, rfl, ⟨xs, hx⟩, h⟩
theorem r_S {s : Str} (h : LoopG (Its s) g ts D σ H) : ∃ s', V.str s = .str s' ∧ LoopG (Its s') g ts D σ H := ⟨s, rfl, h⟩
theorem c_S {s : Str} {vs : List Nat} (h : CompG (Its s) g t te vs σ H Q) : ∃ s', V.str s = .str s' ∧ CompG (Its s') g t te vs σ H Q := ⟨s, rfl, h⟩
theorem lp_range {n : Nat} {lo : Int} (P : Nat → L2.St → Hp → Prop) (h0 : P 0 σ H)
    (hs : ∀ k s h, k < n → P k s h → g (.int (lo + k)) s h fun s2 h2 => ts { D with nx := P (k + 1), ct := P (k + 1), bk := D.nx } s2 h2)
    (hd : ∀ s h, P n s h → D.nx s h) : LoopG (Itr lo n) g ts D σ H := for_range P h0 hs hd
theorem lp_list {p : Addr} {xs : List V} (P : Nat → L2.St → Hp → Prop) (h0 : P 0 σ H) (hl : ∀ k s h, k ≤ xs.length → P k s h → SqL K h p xs)
    (hs : ∀ k a s h, xs[k]? = some a → P k s h → g a s h fun s2 h2 => ts { D with nx := P (k + 1), ct := P (k + 1), bk := D.nx } s2 h2)
    (hd : ∀ s h, P xs.length s h → D.nx s h) : LoopG (Itl K p) g ts D σ H := for_list P h0 hl hs hd
theorem lp_tup {p : Addr} {xs : List V} (P : Nat → L2.St → Hp → Prop) (h0 : P 0 σ H) (hl : ∀ k s h, k ≤ xs.length → P k s h → SqT K h p xs)
    (hs : ∀ k a s h, xs[k]? = some a → P k s h → g a s h fun s2 h2 => ts { D with nx := P (k + 1), ct := P (k + 1), bk := D.nx } s2 h2)
    (hd : ∀ s h, P xs.length s h → D.nx s h) : LoopG (Itt K p) g ts D σ H := for_tup P h0 hl hs hd
theorem cp_range {n : Nat} {lo : Int} {vs : List Nat} (P : Addr → Nat → Hp → Prop) (h0 : ∀ p, H p = none → P p 0 (upd H p (.lst [])))
    (hs : ∀ p k h, H p = none → k < n → P p k h → g (.int (lo + k)) (wipe σ vs) h fun s2 h2 => wipe s2 vs = wipe σ vs ∧ t s2 h2 fun b h3 =>
      if b = true then te s2 h3 fun a h4 => ∃ acc, h4 p = some (.lst acc) ∧ acc.length < sizeLine ∧ P p (k + 1) (upd h4 p (.lst (acc ++ [a]))) else P p (k + 1) h3)
    (hd : ∀ p h, H p = none → P p n h → Q (.ref p) h) : CompG (Itr lo n) g t te vs σ H Q := fun p hp => lc_range (P p) (h0 p hp) (fun k h hk => hs p k h hp hk) (fun h => hd p h hp)
theorem cp_list {a : Addr} {xs : List V} {vs : List Nat} (P : Addr → Nat → Hp → Prop) (h0 : ∀ p, H p = none → P p 0 (upd H p (.lst []))) (hl : ∀ p k h, H p = none → k ≤ xs.length → P p k h → SqL K h a xs)
    (hs : ∀ p k x h, H p = none → xs[k]? = some x → P p k h → g x (wipe σ vs) h fun s2 h2 => wipe s2 vs = wipe σ vs ∧ t s2 h2 fun b h3 =>
      if b = true then te s2 h3 fun a h4 => ∃ acc, h4 p = some (.lst acc) ∧ acc.length < sizeLine ∧ P p (k + 1) (upd h4 p (.lst (acc ++ [a]))) else P p (k + 1) h3)
    (hd : ∀ p h, H p = none → P p xs.length h → Q (.ref p) h) : CompG (Itl K a) g t te vs σ H Q := fun p hp => lc_list (P p) (h0 p hp) (fun k h hk => hl p k h hp hk) (fun k x h hk => hs p k x h hp hk) (fun h => hd p h hp)
theorem cp_tup {a : Addr} {xs : List V} {vs : List Nat} (P : Addr → Nat → Hp → Prop) (h0 : ∀ p, H p = none → P p 0 (upd H p (.lst []))) (hl : ∀ p k h, H p = none → k ≤ xs.length → P p k h → SqT K h a xs)
    (hs : ∀ p k x h, H p = none → xs[k]? = some x → P p k h → g x (wipe σ vs) h fun s2 h2 => wipe s2 vs = wipe σ vs ∧ t s2 h2 fun b h3 =>
      if b = true then te s2 h3 fun a h4 => ∃ acc, h4 p = some (.lst acc) ∧ acc.length < sizeLine ∧ P p (k + 1) (upd h4 p (.lst (acc ++ [a]))) else P p (k + 1) h3)
    (hd : ∀ p h, H p = none → P p xs.length h → Q (.ref p) h) : CompG (Itt K a) g t te vs σ H Q := fun p hp => lc_tup (P p) (h0 p hp) (fun k h hk => hl p k h hp hk) (fun k x h hk => hs p k x h hp hk) (fun h => hd p h hp)
end
/-! ## heaps: what an edge keeps -/
/-- all but S is kept -/
def Ks (S : List Addr) (H H' : Hp) : Prop := ∀ a o, a ∉ S → H a = some o → H' a = some o
theorem Ks.refl (S : List Addr) (H : Hp) : Ks S H H := fun _ _ _ h => h
theorem Ks.trans {S : List Addr} {H H1 H2 : Hp} (a : Ks S H H1) (b : Ks S H1 H2) : Ks S H H2 := fun x o n h => b x o n (a x o n h)
theorem Ks.of {S : List Addr} {H H' : Hp} (e : Ex H H') : Ks S H H' := fun a o _ h => e a o h
theorem Ks.upd {S : List Addr} {H H' : Hp} {p : Addr} {o : HO} (e : Ks S H H') (h : p ∈ S) : Ks S H (L2.upd H' p o) := fun a u n q => by
  rw [upd_ne (show a ≠ p from fun z => n (by rw [z]; exact h))]
  exact e a u n q
theorem Ks.mut {S : List Addr} {H H' : Hp} {p : Addr} {o : HO} (e : Ks S H H') (h : H p = none) : Ks S H (L2.upd H' p o) := fun a u n q => by
  rw [upd_ne (ne_of_none q h)]
  exact e a u n q
theorem Ks.drop {S : List Addr} {H H' : Hp} {p : Addr} (e : Ks (p :: S) H H') (h : H p = none) : Ks S H H' := fun a u n q =>
  e a u (fun z => (List.mem_cons.mp z).elim (ne_of_none q h) n) q
theorem Ks.mono {S S' : List Addr} {H H' : Hp} (e : Ks S H H') (h : ∀ a ∈ S, a ∈ S') : Ks S' H H' := fun a u n q => e a u (fun z => n (h a z)) q
theorem Ks.ex {H H' : Hp} (e : Ks [] H H') : Ex H H' := fun a u q => e a u (by simp) q
theorem ex_at {H H' : Hp} {a : Addr} {o : HO} (h : H a = some o) (e : Ex H H') : H' a = some o := e a o h
theorem ks_at {S : List Addr} {H H' : Hp} {a : Addr} {o : HO} (h : H a = some o) (e : Ks S H H') (n : a ∉ S) : H' a = some o := e a o n h
theorem ex_sl {K : PySem.W.Frag} {H H' : Hp} {a : Addr} {xs : List V} (h : SqL K H a xs) (e : Ex H H') : SqL K H' a xs := ex_l e h
theorem ex_st {K : PySem.W.Frag} {H H' : Hp} {a : Addr} {xs : List V} (h : SqT K H a xs) (e : Ex H H') : SqT K H' a xs := ex_t e h
theorem nin_nil {a : Addr} : a ∉ ([] : List Addr) := by simp
theorem nin_cons {a b : Addr} {S : List Addr} (h : a ≠ b) (k : a ∉ S) : a ∉ b :: S := fun z => (List.mem_cons.mp z).elim h k
theorem ne_old {H : Hp} {a p : Addr} {o : HO} (h : H a = some o) (n : H p = none) : a ≠ p := ne_of_none h n
/-- a new object -/
theorem new_lst {H : Hp} {xs : List V} {Q : VK} (hz : xs.length ≤ 100000) (k : ∀ p H1, H p = none → Ex H H1 → H1 p = some (.lst xs) → Q (.ref p) H1) :
    NewL xs H Q := ⟨sz_of hz, fun p n => k p _ n (Ex.new n) upd_same⟩
theorem new_tup {H : Hp} {xs : List V} {Q : VK} (hz : xs.length ≤ 100000) (k : ∀ p H1, H p = none → Ex H H1 → H1 p = some (.tup xs) → Q (.ref p) H1) :
    NewU xs H Q := ⟨sz_of hz, fun p n => k p _ n (Ex.new n) upd_same⟩
theorem new_any {H : Hp} {o : HO} {Q : VK} (k : ∀ p H1, H p = none → Ex H H1 → H1 p = some o → Q (.ref p) H1) : ∀ p, H p = none → Q (.ref p) (upd H p o) := fun p n => k p _ n (Ex.new n) upd_same
/-! ## built-ins by named relations -/
def qAbs : List V → Hp → VK → Prop := fun xs H Q => ∃ n, xs = [.int n] ∧ Q (.int (if n < 0 then -n else n)) H
def qInt : List V → Hp → VK → Prop := fun xs H Q => (∃ n, xs = [.int n] ∧ Q (.int n) H) ∨ ∃ k, xs = [.bl k] ∧ Q (.int (if k then 1 else 0)) H
def qTup (K : PySem.W.Frag) : List V → Hp → VK → Prop := fun xs H Q => ∃ p ys, xs = [.ref p] ∧ ((SqL K H p ys ∧ ∀ l, H l = none → Q (.ref l) (upd H l (.tup ys))) ∨ (SqT K H p ys ∧ Q (.ref p) H))
def qLenS : List V → Hp → VK → Prop := fun xs H Q => ∃ s, xs = [.str s] ∧ s.length ≤ sizeLine ∧ Q (.int s.length) H
def qInS (neg : Bool) : R2 := fun x y H Q => ∃ i j, x = .str i ∧ y = .str j ∧ Q (.bl (if neg then (!(!(Builtin.Str.occurrences j i 0 j.length 1).isEmpty)) else (!(Builtin.Str.occurrences j i 0 j.length 1).isEmpty))) H
section
variable {X : Cx}
theorem k_abs : CallR X (.builtin "abs") qAbs := call_abs
theorem k_int : CallR X (.type "int") qInt := call_int1
theorem k_tup : CallR X (.type "tuple") (qTup X.K) := call_tuple_of
theorem k_lst : CallR X (.type "list") (rListS X.K) := call_list_of
theorem k_len : CallR X (.builtin "len") (rLenS X.K) := call_len_seq
theorem k_lenS : CallR X (.builtin "len") qLenS := call_len_str
theorem k_inS : OpR X (compareOp .In) (qInS false) := op_in_str
theorem k_ninS : OpR X (compareOp .NotIn) (qInS true) := op_notin_str
end
section
variable {K : PySem.W.Frag} {H : Hp} {Q : VK} {p : Addr} {xs : List V}
theorem a_abs {n : Int} (k : Q (.int (if n < 0 then -n else n)) H) : qAbs [.int n] H Q := ⟨n, rfl, k⟩
theorem a_intI {n : Int} (k : Q (.int n) H) : qInt [.int n] H Q := .inl ⟨n, rfl, k⟩
theorem a_intB {b : Bool} (k : Q (.int (if b then 1 else 0)) H) : qInt [.bl b] H Q := .inr ⟨b, rfl, k⟩
theorem a_tupL (h : SqL K H p xs) (k : ∀ q H1, H q = none → Ex H H1 → H1 q = some (.tup xs) → Q (.ref q) H1) : qTup K [.ref p] H Q := ⟨p, xs, rfl, .inl ⟨h, fun q n => k q _ n (Ex.new n) upd_same⟩⟩
theorem a_tupT (h : SqT K H p xs) (k : Q (.ref p) H) : qTup K [.ref p] H Q := ⟨p, xs, rfl, .inr ⟨h, k⟩⟩
theorem a_lstL (h : SqL K H p xs) (k : ∀ q H1, H q = none → Ex H H1 → H1 q = some (.lst xs) → Q (.ref q) H1) : rListS K [.ref p] H Q := ⟨p, xs, rfl, .inl h, fun q n => k q _ n (Ex.new n) upd_same⟩
theorem a_lstT (h : SqT K H p xs) (k : ∀ q H1, H q = none → Ex H H1 → H1 q = some (.lst xs) → Q (.ref q) H1) : rListS K [.ref p] H Q := ⟨p, xs, rfl, .inr h, fun q n => k q _ n (Ex.new n) upd_same⟩
theorem a_lenS {s : Str} (hz : s.length ≤ 100000) (k : Q (.int s.length) H) : qLenS [.str s] H Q := ⟨s, rfl, sz_of hz, k⟩
theorem a_inS {i j : Str} {b : Bool} (e : (!(Builtin.Str.occurrences j i 0 j.length 1).isEmpty) = b) (k : Q (.bl b) H) : qInS false (.str i) (.str j) H Q := ⟨i, j, rfl, rfl, by rw [e]; exact k⟩
theorem a_ninS {i j : Str} {b : Bool} (e : (!(Builtin.Str.occurrences j i 0 j.length 1).isEmpty) = b) (k : Q (.bl (!b)) H) : qInS true (.str i) (.str j) H Q := ⟨i, j, rfl, rfl, by rw [e]; exact k⟩
end
/-! ## is, is not -/
def qIsN : R2 := fun x y H Q => y = .non ∧ Q (.bl (decide (x = .non))) H
def qNotN : R2 := fun x y H Q => y = .non ∧ Q (.bl (!decide (x = .non))) H
def qIsTy : R2 := fun x y H Q => ∃ m n, x = .ty m ∧ y = .ty n ∧ Q (.bl (decide (m = n))) H
def qNotTy : R2 := fun x y H Q => ∃ m n, x = .ty m ∧ y = .ty n ∧ Q (.bl (!decide (m = n))) H
section
variable {X : Cx}
theorem k_isN : OpR X (compareOp .Is) qIsN := op_isN
theorem k_notN : OpR X (compareOp .IsNot) qNotN := op_notN
theorem k_isTy : OpR X (compareOp .Is) qIsTy := op_isTy
theorem k_notTy : OpR X (compareOp .IsNot) qNotTy := op_isNotTy
end
section
variable {H : Hp} {Q : VK}
theorem a_isNn (k : Q (.bl true) H) : qIsN .non .non H Q := ⟨rfl, k⟩
theorem a_isNr {p : Addr} (k : Q (.bl false) H) : qIsN (.ref p) .non H Q := ⟨rfl, k⟩
theorem a_notNn (k : Q (.bl false) H) : qNotN .non .non H Q := ⟨rfl, k⟩
theorem a_notNr {p : Addr} (k : Q (.bl true) H) : qNotN (.ref p) .non H Q := ⟨rfl, k⟩
theorem a_isTy {m n : String} (k : Q (.bl (decide (m = n))) H) : qIsTy (.ty m) (.ty n) H Q := ⟨m, n, rfl, rfl, k⟩
theorem a_notTy {m n : String} (k : Q (.bl (!decide (m = n))) H) : qNotTy (.ty m) (.ty n) H Q := ⟨m, n, rfl, rfl, k⟩
theorem a_isBl {m n : Bool} (k : Q (.bl (m == n)) H) : rIsB (.bl m) (.bl n) H Q := ⟨m, n, rfl, rfl, by
  have e : decide (m = n) = (m == n) := by cases m <;> cases n <;> rfl
  rw [e]; exact k⟩
theorem a_notBl {m n : Bool} (k : Q (.bl (m != n)) H) : rNotB (.bl m) (.bl n) H Q := ⟨m, n, rfl, rfl, by
  have e : (!decide (m = n)) = (m != n) := by cases m <;> cases n <;> rfl
  rw [e]; exact k⟩
theorem w_par {i j : Nat} {a : TA} {D : Ends} {σ : L2.St} (h : a σ H fun vs Ha => ∃ v w, vs = [v, w] ∧ D.nx ((σ.set i (some v)).set j (some w)) Ha) : tPar i j a D σ H := h
theorem a_cat {p q : Addr} {xs ys : List V} (h1 : H p = some (.lst xs)) (h2 : H q = some (.lst ys)) (hz : xs.length + ys.length ≤ 100000) (k : ∀ l H1, H l = none → Ex H H1 → H1 l = some (.lst (xs ++ ys)) → Q (.ref l) H1) : rCat (.ref p) (.ref q) H Q :=
  ⟨p, q, xs, ys, rfl, rfl, h1, h2, sz_of hz, fun l n => k l _ n (Ex.new n) upd_same⟩
end
/-! ## the rules that name the written part, by its name -/
section
variable (K : PySem.W.Frag) {X : Cx}
theorem plK {tg l : Expr} {tl : TE} (hl : PE X l tl) (h : X.K = K := by rfl) : PI X tg l (iList K tl) := by subst h; exact pi_list hl
theorem ptK {tg l : Expr} {tl : TE} (hl : PE X l tl) (h : X.K = K := by rfl) : PI X tg l (iTup K tl) := by subst h; exact pi_tup hl
theorem ixL (h : X.K = K := by rfl) : IxR X (rIxL K) := by subst h; exact ix_list
theorem ixT (h : X.K = K := by rfl) : IxR X (rIxT K) := by subst h; exact ix_tup
theorem slA (h : X.K = K := by rfl) : SlR X (rSlA K) := by subst h; exact sl_tupA
theorem slL (h : X.K = K := by rfl) : SlR X (rSlL K) := by subst h; exact sl_list
theorem lenK (h : X.K = K := by rfl) : CallR X (.builtin "len") (rLenS K) := by subst h; exact k_len
theorem inK (h : X.K = K := by rfl) : OpR X (compareOp .In) (rIn K false) := by subst h; exact op_in_seq
theorem ninK (h : X.K = K := by rfl) : OpR X (compareOp .NotIn) (rIn K true) := by subst h; exact op_notIn_seq
theorem lstK (h : X.K = K := by rfl) : CallR X (.type "list") (rListS K) := by subst h; exact k_lst
theorem catAK (h : X.K = K := by rfl) : OpR X (binaryOp .Add) (rCatA K) := by subst h; exact op_catA
theorem eqDK (hu : X.A.units + 64 < cLine) (h : X.K = K := by rfl) : OpR X (compareOp .Eq) (rEqD K) := by subst h; exact op_eqD hu
theorem neDK (hu : X.A.units + 64 < cLine) (h : X.K = K := by rfl) : OpR X (compareOp .NotEq) (rNeD K) := by subst h; exact op_neD hu
theorem inDK (hu : X.A.units + 65 < cLine) (h : X.K = K := by rfl) : OpR X (compareOp .In) (rInD K) := by subst h; exact op_inD hu
theorem ninDK (hu : X.A.units + 65 < cLine) (h : X.K = K := by rfl) : OpR X (compareOp .NotIn) (rNotInD K) := by subst h; exact op_notInD hu
theorem allK (hc : X.calm = true := by rfl) (h : X.K = K := by rfl) : CallR X (.builtin "all") (rAll K) := by subst h; exact cr_all hc
theorem typK (h : X.K = K := by rfl) : CallR X (.type "type") (rTyp K) := by subst h; exact call_type1
theorem isiK (h : X.K = K := by rfl) : CallR X (.builtin "isinstance") (rIsi K) := by subst h; exact call_isi
end
theorem hd_of {A : Around} {k : Nat} (hr : Room k A) : A.units + 65 < cLine := by have := hr.un; omega
/-! ## operations by what is known of the heap -/
section
variable {K : PySem.W.Frag} {H : Hp} {Q : VK} {p q : Addr} {xs ys : List V} {v x : V} {n : Int}
theorem a_ixL (h : SqL K H p xs) (e : atI xs n = some v) (k : Q v H) : rIxL K (.ref p) (.int n) H Q := ⟨p, xs, n, v, rfl, rfl, h, e, k⟩
theorem a_ixT (h : SqT K H p xs) (e : atI xs n = some v) (k : Q v H) : rIxT K (.ref p) (.int n) H Q := ⟨p, xs, n, v, rfl, rfl, h, e, k⟩
theorem a_lenL (h : SqL K H p xs) (k : Q (.int xs.length) H) : rLenS K [.ref p] H Q := ⟨p, xs, rfl, .inl h, k⟩
theorem a_lenT (h : SqT K H p xs) (k : Q (.int xs.length) H) : rLenS K [.ref p] H Q := ⟨p, xs, rfl, .inr h, k⟩
theorem a_app (h : H p = some (.lst xs)) (hz : xs.length < 100000) (k : Q .non (upd H p (.lst (xs ++ [v])))) : rAppend (.ref p) [v] H Q := ⟨p, xs, v, rfl, rfl, h, sz_lt hz, k⟩
theorem a_ty (h : H p = some (.lst xs)) : tyV K "list" (.ref p) H := .inl ⟨rfl, xs, SqL.of h⟩
theorem a_setL {j : Nat} {N : Hp → Prop} (h : H p = some (.lst xs)) (hj : j < xs.length) (k : N (upd H p (.lst (xs.set j v)))) : rSetL (.ref p) (.int j) v H N := ⟨p, xs, j, j, rfl, rfl, h, ixN_nat hj, k⟩
theorem a_inL (h : SqL K H p xs) (hx : flatV x = true) (ha : xs.all flatV = true) (k : Q (.bl (inV x xs)) H) : rIn K false x (.ref p) H Q := ⟨p, xs, rfl, .inl h, hx, ha, k⟩
theorem a_inT (h : SqT K H p xs) (hx : flatV x = true) (ha : xs.all flatV = true) (k : Q (.bl (inV x xs)) H) : rIn K false x (.ref p) H Q := ⟨p, xs, rfl, .inr h, hx, ha, k⟩
theorem a_ninL (h : SqL K H p xs) (hx : flatV x = true) (ha : xs.all flatV = true) (k : Q (.bl (!inV x xs)) H) : rIn K true x (.ref p) H Q := ⟨p, xs, rfl, .inl h, hx, ha, k⟩
theorem a_ninT (h : SqT K H p xs) (hx : flatV x = true) (ha : xs.all flatV = true) (k : Q (.bl (!inV x xs)) H) : rIn K true x (.ref p) H Q := ⟨p, xs, rfl, .inr h, hx, ha, k⟩
end
def NewD (H : Hp) (Q : VK) : Prop := ∀ p, H p = none → Q (.ref p) (upd H p (.dK []))
theorem w_dK {σ : L2.St} {H : Hp} {Q : VK} (h : NewD H Q) : tDNewK σ H Q := h
theorem new_dK {H : Hp} {Q : VK} (k : ∀ p H1, H p = none → Ex H H1 → H1 p = some (.dK []) → Q (.ref p) H1) : NewD H Q := fun p n => k p _ n (Ex.new n) upd_same
/-! ## the box of draws: a list of a row and a place -/
def Bx (H : Hp) (b r : Addr) : Prop := ∃ (n : Nat) (ns : List Int), H b = some (.lst [.ref r, .int (n : Int)]) ∧ H r = some (.lst (ns.map V.int)) ∧ ns.length ≤ 100000
theorem bx_ex {H H' : Hp} {b r : Addr} (h : Bx H b r) (e : Ex H H') : Bx H' b r := by
  obtain ⟨n, ns, h1, h2, h3⟩ := h
  exact ⟨n, ns, e _ _ h1, e _ _ h2, h3⟩
theorem bx_ks {S : List Addr} {H H' : Hp} {b r : Addr} (h : Bx H b r) (e : Ks S H H') (nb : b ∉ S) (nr : r ∉ S) : Bx H' b r := by
  obtain ⟨n, ns, h1, h2, h3⟩ := h
  exact ⟨n, ns, e _ _ nb h1, e _ _ nr h2, h3⟩
theorem bx_nb {H : Hp} {b r p : Addr} (h : Bx H b r) (n : H p = none) : b ≠ p := by
  obtain ⟨_, _, h1, _⟩ := h
  exact ne_of_none h1 n
theorem bx_nr {H : Hp} {b r p : Addr} (h : Bx H b r) (n : H p = none) : r ≠ p := by
  obtain ⟨_, _, _, h2, _⟩ := h
  exact ne_of_none h2 n
theorem bx_rb {H : Hp} {b r : Addr} (h : Bx H b r) : r ≠ b := by
  obtain ⟨n, ns, h1, h2, _⟩ := h
  refine ne_of h2 h1 fun z => ?_
  cases ns with
  | nil => exact nomatch z
  | cons a as => exact nomatch z
theorem ks_st {K : PySem.W.Frag} {S : List Addr} {H H' : Hp} {a : Addr} {xs : List V} (h : SqT K H a xs) (e : Ks S H H') (n : a ∉ S) : SqT K H' a xs := by
  rcases h with (h | ⟨o, h⟩) | h
  · exact .inl (.inl (e _ _ n h))
  · exact .inl (.inr ⟨o, e _ _ n h⟩)
  · exact .inr h
theorem ks_sl {K : PySem.W.Frag} {S : List Addr} {H H' : Hp} {a : Addr} {xs : List V} (h : SqL K H a xs) (e : Ks S H H') (n : a ∉ S) : SqL K H' a xs := by
  rcases h with (h | ⟨o, h⟩) | h
  · exact .inl (.inl (e _ _ n h))
  · exact .inl (.inr ⟨o, e _ _ n h⟩)
  · exact .inr h
/-- a promise's two common ends -/
abbrev RV1 (v : V) (H : Hp) (Q : VK) : Prop := ∀ H2, Ex H H2 → Q v H2
abbrev RT1 (xs : List V) (H : Hp) (Q : VK) : Prop := ∀ p H2, Ex H H2 → H2 p = some (.tup xs) → Q (.ref p) H2
end Ver

set_option Elab.async false
set_option linter.all false
set_option maxRecDepth 100000
set_option maxHeartbeats 4000000
namespace Ver
open PySem PySem.Spec PyProof.Rows L2 Evl
/-! ## rights as data -/
inductive R | rw | r | w | n
  deriving DecidableEq
def R.s : R → Str
  | .rw => "rw"
  | .r => "r"
  | .w => "w"
  | .n => "-"
def R.hr : R → Bool
  | .rw => true
  | .r => true
  | _ => false
def R.hw : R → Bool
  | .rw => true
  | .w => true
  | _ => false
theorem R.s_inj {a b : R} (h : a.s = b.s) : a = b := by
  cases a <;> cases b <;> first | rfl | exact absurd h (by decide)
theorem dec_s (a b : R) : decide (a.s = b.s) = decide (a = b) := by
  cases a <;> cases b <;> decide
def tv (xs : List R) : List V := xs.map fun x => .str x.s
theorem tv_len (xs : List R) : (tv xs).length = xs.length := List.length_map _
theorem tv_at {xs : List R} {i : Nat} {x : R} (h : xs[i]? = some x) : (tv xs)[i]? = some (.str x.s) := by
  unfold tv
  rw [List.getElem?_map, h]
  rfl
theorem tv_get {xs : List R} {i : Nat} {v : V} (h : (tv xs)[i]? = some v) : ∃ x, xs[i]? = some x ∧ v = .str x.s := by
  unfold tv at h
  rw [List.getElem?_map] at h
  cases e : xs[i]? with
  | none => rw [e] at h; cases h
  | some x => rw [e] at h; exact ⟨x, rfl, (Option.some.inj h).symm⟩
theorem tv_flat (xs : List R) : (tv xs).all flatV = true := by
  unfold tv
  rw [List.all_map]
  exact List.all_eq_true.mpr fun _ _ => rfl
theorem tv_strs (xs : List R) : tv xs = (xs.map R.s).map V.str := by
  unfold tv
  rw [List.map_map]
  rfl
theorem tv_in (x : R) (xs : List R) : inV (.str x.s) (tv xs) = decide (x ∈ xs) := by
  induction xs with
  | nil => rfl
  | cons a as ih =>
    have e : inV (.str x.s) (tv (a :: as)) = (eqV (.str a.s) (.str x.s) || inV (.str x.s) (tv as)) := rfl
    have e2 : eqV (.str a.s) (.str x.s) = decide (x = a) := by cases a <;> cases x <;> rfl
    rw [e, ih, e2]
    by_cases h : x = a
    · subst h; simp
    · simp [h]
theorem in_r (a : R) : (!(Builtin.Str.occurrences a.s "r" 0 a.s.length 1).isEmpty) = a.hr := by cases a <;> decide +kernel
theorem in_w (a : R) : (!(Builtin.Str.occurrences a.s "w" 0 a.s.length 1).isEmpty) = a.hw := by cases a <;> decide +kernel
/-- each letter of a is one of b's -/
def wi (a b : R) : Bool := (!a.hr || b.hr) && (!a.hw || b.hw)
/-- converting, level by level, for equal lengths -/
def cw : List R → List R → Bool
  | a :: as, b :: bs => wi b a && (!b.hr || cw as bs) && (!b.hw || cw bs as)
  | _, _ => true
termination_by xs ys => xs.length + ys.length
def cv (xs ys : List R) : Bool := decide (xs.length = ys.length) && cw xs ys
theorem cw_nil : cw [] [] = true := by rw [cw]; all_goals (intros; contradiction)
theorem cw_cons (a b : R) (as bs : List R) : cw (a :: as) (b :: bs) = (wi b a && (!b.hr || cw as bs) && (!b.hw || cw bs as)) := by rw [cw]
theorem cv_ne {xs ys : List R} (h : xs.length ≠ ys.length) : cv xs ys = false := by
  unfold cv
  rw [decide_eq_false h]
  rfl
theorem cv_nil : cv [] [] = true := by
  unfold cv
  rw [cw_nil]
  rfl
theorem cv_cons {a b : R} {as bs : List R} (h : as.length = bs.length) : cv (a :: as) (b :: bs) = (wi b a && (!b.hr || cv as bs) && (!b.hw || cv bs as)) := by
  unfold cv
  rw [cw_cons, List.length_cons, List.length_cons, decide_eq_true (show as.length + 1 = bs.length + 1 by omega), decide_eq_true h, decide_eq_true h.symm]
  simp only [Bool.true_and]
theorem cw_refl : ∀ xs : List R, cw xs xs = true
  | [] => cw_nil
  | a :: as => by
    rw [cw_cons, cw_refl as]
    cases a <;> rfl
theorem cv_refl (xs : List R) : cv xs xs = true := by
  unfold cv
  rw [cw_refl, decide_eq_true rfl]
  rfl
theorem cw_trans : ∀ (n : Nat) (xs ys zs : List R), xs.length = n → ys.length = n → zs.length = n → cw xs ys = true → cw ys zs = true → cw xs zs = true
  | 0, [], [], [], _, _, _, _, _ => cw_nil
  | n + 1, a :: as, b :: bs, c :: cs, h1, h2, h3, p, q => by
    rw [cw_cons] at p q ⊢
    simp only [List.length_cons, Nat.add_right_cancel_iff] at h1 h2 h3
    have t1 := cw_trans n as bs cs h1 h2 h3
    have t2 := cw_trans n cs bs as h3 h2 h1
    generalize cw as bs = u1 at p t1
    generalize cw bs as = u2 at p t2
    generalize cw bs cs = u3 at q t1
    generalize cw cs bs = u4 at q t2
    generalize cw as cs = u5 at t1 ⊢
    generalize cw cs as = u6 at t2 ⊢
    revert p q t1 t2
    cases a <;> cases b <;> cases c <;> cases u1 <;> cases u2 <;> cases u3 <;> cases u4 <;> cases u5 <;> cases u6 <;> decide
theorem cv_trans {xs ys zs : List R} (p : cv xs ys = true) (q : cv ys zs = true) : cv xs zs = true := by
  unfold cv at *
  simp only [Bool.and_eq_true, decide_eq_true_eq] at *
  exact ⟨p.1.trans q.1, cw_trans xs.length xs ys zs rfl p.1.symm (p.1.trans q.1).symm p.2 q.2⟩
/-- the plain form -/
def pl : List R → List R
  | [] => []
  | x :: xs => if x = .n then .n :: xs.map (fun _ => .n) else x :: pl xs
theorem pl_len : ∀ xs : List R, (pl xs).length = xs.length
  | [] => rfl
  | x :: xs => by
    unfold pl
    by_cases h : x = .n
    · rw [if_pos h, List.length_cons, List.length_map, List.length_cons]
    · rw [if_neg h, List.length_cons, List.length_cons, pl_len xs]
theorem map_const {xs ys : List R} (h : xs.length = ys.length) : (xs.map fun _ => R.n) = ys.map fun _ => R.n := by
  rw [List.map_const', List.map_const', h]
theorem alike_pl : ∀ (xs ys : List R), (cv xs ys && cv ys xs) = decide (pl xs = pl ys)
  | [], [] => by rw [cv_nil]; rfl
  | [], b :: bs => by
    rw [cv_ne (by simp)]
    have h : pl [] ≠ pl (b :: bs) := fun e => by
      have := congrArg List.length e
      rw [pl_len, pl_len] at this
      simp at this
    rw [decide_eq_false h]
    rfl
  | a :: as, [] => by
    rw [cv_ne (by simp)]
    have h : pl (a :: as) ≠ pl [] := fun e => by
      have := congrArg List.length e
      rw [pl_len, pl_len] at this
      simp at this
    rw [decide_eq_false h]
    rfl
  | a :: as, b :: bs => by
    by_cases hl : as.length = bs.length
    · have ih := alike_pl as bs
      rw [cv_cons hl, cv_cons hl.symm]
      by_cases hab : a = b
      · subst hab
        by_cases hn : a = .n
        · subst hn
          have e : pl (R.n :: as) = pl (R.n :: bs) := by
            unfold pl
            rw [if_pos rfl, if_pos rfl, map_const hl]
          rw [decide_eq_true e]
          rfl
        · have e : decide (pl (a :: as) = pl (a :: bs)) = decide (pl as = pl bs) := by
            rw [show pl (a :: as) = a :: pl as by (conv => lhs; unfold pl); rw [if_neg hn], show pl (a :: bs) = a :: pl bs by (conv => lhs; unfold pl); rw [if_neg hn]]
            simp
          rw [e, ← ih]
          generalize cv as bs = u1
          generalize cv bs as = u2
          revert hn
          cases a <;> cases u1 <;> cases u2 <;> decide
      · have e : pl (a :: as) ≠ pl (b :: bs) := fun e => hab (by
          have q := congrArg List.head? e
          revert q
          unfold pl
          by_cases h1 : a = .n
          · by_cases h2 : b = .n
            · rw [h1, h2]; intro _; rfl
            · rw [if_pos h1, if_neg h2, h1]; intro q; exact Option.some.inj q
          · by_cases h2 : b = .n
            · rw [if_neg h1, if_pos h2, h2]; intro q; exact Option.some.inj q
            · rw [if_neg h1, if_neg h2]; intro q; exact Option.some.inj q)
        rw [decide_eq_false e]
        generalize cv as bs = u1
        generalize cv bs as = u2
        revert hab
        cases a <;> cases b <;> cases u1 <;> cases u2 <;> decide
    · rw [cv_ne (by simpa using hl)]
      have h : pl (a :: as) ≠ pl (b :: bs) := fun e => by
        have := congrArg List.length e
        rw [pl_len, pl_len] at this
        simp at this
        exact hl this
      rw [decide_eq_false h]
      rfl
/-! ## tuples of rights compared -/
def ru (xs : List R) : PyData := .tuple (xs.map fun x => .str x.s)
theorem dp_all {K : PySem.W.Frag} {H : Hp} : ∀ xs : List R, DpAll K H (tv xs) (xs.map fun x => .str x.s)
  | [] => .nil
  | x :: xs => .cons (.str x.s) (dp_all xs)
theorem dp_ru {K : PySem.W.Frag} {H : Hp} {a : Addr} {xs : List R} (h : SqT K H a (tv xs)) : Dp K H (.ref a) (ru xs) := .tup h (dp_all xs)
theorem eqv_rs : ∀ xs ys : List R, PyData.eqvAll (xs.map fun x => .str x.s) (ys.map fun x => .str x.s) = decide (xs = ys)
  | [], [] => rfl
  | [], y :: ys => rfl
  | x :: xs, [] => rfl
  | x :: xs, y :: ys => by
    show (PyData.eqv (.str x.s) (.str y.s) && PyData.eqvAll (xs.map fun x => .str x.s) (ys.map fun x => .str x.s)) = _
    rw [eqv_rs xs ys]
    have e : PyData.eqv (.str x.s) (.str y.s) = decide (x = y) := by cases x <;> cases y <;> rfl
    rw [e]
    by_cases h1 : x = y
    · subst h1; simp
    · simp [h1]
theorem eqv_ru (xs ys : List R) : PyData.eqv (ru xs) (ru ys) = decide (xs = ys) := eqv_rs xs ys
theorem depth_rs : ∀ xs : List R, PyData.depthAll (xs.map fun x => .str x.s) ≤ 1
  | [] => by simp [PyData.depthAll]
  | x :: xs => by
    have := depth_rs xs
    simp [PyData.depthAll, PyData.depth] at this ⊢
    try omega
theorem lay_rs : ∀ xs : List R, PyData.canLayAll0 (xs.map fun x => .str x.s) = true
  | [] => by simp [PyData.canLayAll0]
  | x :: xs => by
    have := lay_rs xs
    simp [PyData.canLayAll0, PyData.canLay0] at this ⊢
    exact ⟨by cases x <;> decide +kernel, this⟩
theorem shaped_ru (xs : List R) : SeqAt.shaped (ru xs) = true := by
  have d := depth_rs xs
  have l := lay_rs xs
  unfold SeqAt.shaped ru
  simp only [PyData.canLay0, PyData.depth, Bool.and_eq_true]
  exact ⟨l, decide_eq_true (by omega)⟩
theorem a_eqU {K : PySem.W.Frag} {H : Hp} {Q : VK} {a b : Addr} {xs ys : List R} (h1 : SqT K H a (tv xs)) (h2 : SqT K H b (tv ys)) (k : Q (.bl (decide (xs = ys))) H) : rEqD K (.ref a) (.ref b) H Q :=
  ⟨ru xs, ru ys, dp_ru h1, dp_ru h2, shaped_ru xs, shaped_ru ys, by rw [eqv_ru]; exact k⟩
theorem a_neU {K : PySem.W.Frag} {H : Hp} {Q : VK} {a b : Addr} {xs ys : List R} (h1 : SqT K H a (tv xs)) (h2 : SqT K H b (tv ys)) (k : Q (.bl (!decide (xs = ys))) H) : rNeD K (.ref a) (.ref b) H Q :=
  ⟨ru xs, ru ys, dp_ru h1, dp_ru h2, shaped_ru xs, shaped_ru ys, by rw [eqv_ru]; exact k⟩
/-! ## parts of tuples -/
theorem a_slT1 {K : PySem.W.Frag} {H : Hp} {Q : VK} {a : Addr} {v : V} {vs : List V} (h : SqT K H a (v :: vs)) (k : ∀ q H1, H q = none → Ex H H1 → H1 q = some (.tup vs) → Q (.ref q) H1) : rSlA K (.ref a) (some 1) none H Q := by
  have e1 : HT.sIx (v :: vs).length 0 (some 1) = 1 := by
    rw [show HT.sIx (v :: vs).length 0 (some 1) = min 1 (v :: vs).length from HT.sIx_nat (v :: vs).length 0 1, List.length_cons]
    omega
  refine ⟨a, v :: vs, rfl, h, fun z => ?_, fun _ p hp => ?_⟩
  · rw [e1] at z
    exact absurd z.1 (by decide)
  · have e : cutV (v :: vs) (some 1) none = vs := by
      unfold cutV
      rw [e1, HT.sIx_none, List.length_cons]
      show vs.take (vs.length + 1 - 1) = vs
      rw [Nat.add_sub_cancel]
      exact List.take_length
    rw [e]
    exact k p _ hp (Ex.new hp) upd_same
theorem a_slTo {K : PySem.W.Frag} {H : Hp} {Q : VK} {a : Addr} {vs : List V} {n : Nat} (h : SqT K H a vs) (hn : n < vs.length) (k : ∀ q H1, H q = none → Ex H H1 → H1 q = some (.tup (vs.take n)) → Q (.ref q) H1) : rSlA K (.ref a) none (some (n : Int)) H Q := by
  have e1 : HT.sIx vs.length vs.length (some (n : Int)) = n := by
    rw [HT.sIx_nat vs.length vs.length n]
    omega
  refine ⟨a, vs, rfl, h, fun z => ?_, fun _ p hp => ?_⟩
  · rw [e1] at z
    exact absurd z.2 (by omega)
  · have e : cutV vs none (some (n : Int)) = vs.take n := by
      unfold cutV
      rw [e1, HT.sIx_none]
      simp
    rw [e]
    exact k p _ hp (Ex.new hp) upd_same
theorem a_catA {K : PySem.W.Frag} {H : Hp} {Q : VK} {a b : Addr} {xs ys : List V} (h1 : SqT K H a xs) (h2 : SqT K H b ys) (hz : xs.length + ys.length ≤ 100000) (k : ∀ q H1, Ex H H1 → SqT K H1 q (xs ++ ys) → Q (.ref q) H1) : rCatA K (.ref a) (.ref b) H Q :=
  ⟨a, b, xs, ys, rfl, rfl, h1, h2, sz_of hz, fun e => k b H (Ex.refl H) (by rw [e]; exact h2), fun _ e => k a H (Ex.refl H) (by rw [e, List.append_nil]; exact h1), fun _ _ p hp => k p _ (Ex.new hp) (SqT.of upd_same)⟩
/-! ## t * n, n from 1 on -/
theorem tup_mul1 (l : Addr) (its : Array Value) (n : Nat) (dd : Option Addr) (sl : Array (Option Value)) (u : Tok) :
    Meets (Builtin.«tuple.__mul__» ⟨[.ref l, .int 1 u], []⟩) (fun _ R s => s.heap.get? l = some { cls := .type "tuple", dict := dd, data := .seq its n, slots := sl } ∧ R (.ok (.ret (Value.ref l))) s) :=
  .of_wp fun prog w A R s h => by
    obtain ⟨hp, g, d, tk, os⟩ := s
    obtain ⟨hl, h⟩ := h
    have f1 := AutoSeq1.idx_int
    wp_walk using wpAny_loadPart' hl
    exact ⟨_, rfl, h⟩
def rRepA (K : PySem.W.Frag) : R2 := fun x y H Q => ∃ l k xs, x = .ref l ∧ y = .int k ∧ SqT K H l xs ∧ xs ≠ [] ∧ 1 ≤ k ∧ k ≤ 1000 ∧ xs.length ≤ 1000 ∧ ∀ q H1, Ex H H1 → SqT K H1 q (List.replicate k.toNat xs).flatten → Q (.ref q) H1
theorem op_repA {X : Cx} : OpR X (binaryOp .Mult) (rRepA X.K) := by
  intro pins s σ H x y v u Q I rx ry h
  obtain ⟨l, k, xs, rfl, rfl, hT, hne, h1, h2, hz, q⟩ := h
  by_cases hk : 2 ≤ k
  · exact op_repT pins s σ H _ _ v u Q I rx ry ⟨l, k, xs, rfl, rfl, hT, hne, hk, h2, hz, fun p hp => q p _ (Ex.new hp) (SqT.of upd_same)⟩
  · have e : k = 1 := by omega
    subst e
    cases rx
    obtain ⟨t, rfl⟩ := ry
    have q' := q l H (Ex.refl H) (by simpa using hT)
    obtain ⟨its, r, ⟨⟨cls, dd, data, sl⟩, ho, hc, n, hd⟩, hs⟩ := I.tuple hT
    simp only at hc hd
    subst hc hd
    exact wpAny_binaryOp_repeat_ref (T := "tuple") (U := "int") (by decide) ⟨_, ho, rfl⟩ (fun s' => typeIs_int s' 1 t) noFill_tuple_mul F.fills_int_mul F.slot_int_rmul repeat_tuple F.slot_int_index.lookup
      (call_meets F.slot_int_rmul (typeIs_int s 1 t) F.entry_int_rmul (F.args_int_rmul_2 _ _) (int_rmul_tuple 1 t l its.toArray n dd sl)
        ⟨ho, rfl, ⟨_, ho, rfl⟩, call_meets F.slot_tuple_mul ⟨_, ho, rfl⟩ F.entry_tuple_mul (F.args_tuple_mul_2 _ _) (tup_mul1 l its.toArray n dd sl t) ⟨ho, ⟨.ref l, H, I, rfl, q'⟩⟩⟩)
/-! ## tuples whose very object is known: their methods -/
def Tu (H : Hp) (a : Addr) (xs : List V) : Prop := ∃ ob : Obj, ob.dict = none ∧ H a = some (.frz ob (.tup xs))
theorem Tu.st {K : PySem.W.Frag} {H : Hp} {a : Addr} {xs : List V} (h : Tu H a xs) : SqT K H a xs := by
  obtain ⟨ob, _, h⟩ := h
  exact .inl (.inr ⟨ob, h⟩)
theorem Tu.ex {H H' : Hp} {a : Addr} {xs : List V} (h : Tu H a xs) (e : Ex H H') : Tu H' a xs := by
  obtain ⟨ob, d, h⟩ := h
  exact ⟨ob, d, e _ _ h⟩
theorem Tu.ks {S : List Addr} {H H' : Hp} {a : Addr} {xs : List V} (h : Tu H a xs) (e : Ks S H H') (n : a ∉ S) : Tu H' a xs := by
  obtain ⟨ob, d, h⟩ := h
  exact ⟨ob, d, e _ _ n h⟩
theorem Tu.ne {H : Hp} {a b r : Addr} {xs : List V} (h : Tu H a xs) (g : Bx H b r) : a ≠ b ∧ a ≠ r := by
  obtain ⟨n, ns, h1, h2, _⟩ := g
  obtain ⟨ob, d, h⟩ := h
  exact ⟨ne_of h h1 (fun z => nomatch z), ne_of h h2 (fun z => nomatch z)⟩
def qTupF (K : PySem.W.Frag) : List V → Hp → VK → Prop := fun xs H Q => ∃ p ys, xs = [.ref p] ∧ ((SqL K H p ys ∧ ∀ l (ob : Obj), H l = none → ob.dict = none → Q (.ref l) (upd H l (.frz ob (.tup ys)))) ∨ (SqT K H p ys ∧ Q (.ref p) H))
theorem k_tupF {X : Cx} : CallR X (.type "tuple") (qTupF X.K) := by
  intro pins s σ H xs us Q I rs h
  obtain ⟨p, ys, rfl, h⟩ := h
  obtain ⟨u, rfl, ru⟩ := vals1 rs
  cases ru
  rcases h with ⟨hq, q⟩ | ⟨hq, q⟩
  · obtain ⟨its, rv, pls, hz⟩ := I.list hq
    have hlen := rv.length
    refine call_tuple_list pls.isList (fun g kp => ?_) (by rw [List.size_toArray]; omega)
    have J : Inv X pins σ H { s with heap := g } := I.kept (t' := s.toks) kp
    have J2 : Inv X pins σ (upd H g.objs.size (.frz { cls := .type "tuple", data := .seq its.toArray } (.tup ys))) { s with heap := g.push { cls := .type "tuple", data := .seq its.toArray } } :=
      J.laid (t' := s.toks) (fun c o z => Heap.get?_push_of_some _ z) (Nat.le_refl _) ⟨Heap.get?_push_size _ rfl, ⟨hz, its, rv, IsTup.new _ _⟩⟩
    exact ⟨.ref g.objs.size, _, J2, rfl, q _ _ (J.hok.fresh (Nat.le_refl _)) rfl⟩
  · obtain ⟨its, rv, pls, hz⟩ := I.tuple hq
    exact call_tuple_same pls ⟨.ref p, H, I, rfl, q⟩
theorem tupFK (K : PySem.W.Frag) {X : Cx} (h : X.K = K := by rfl) : CallR X (.type "tuple") (qTupF K) := by subst h; exact k_tupF
theorem repAK (K : PySem.W.Frag) {X : Cx} (h : X.K = K := by rfl) : OpR X (binaryOp .Mult) (rRepA K) := by subst h; exact op_repA
theorem a_tupFL {K : PySem.W.Frag} {H : Hp} {Q : VK} {p : Addr} {xs : List V} (h : SqL K H p xs) (k : ∀ q H1, H q = none → Ex H H1 → Tu H1 q xs → Q (.ref q) H1) : qTupF K [.ref p] H Q :=
  ⟨p, xs, rfl, .inl ⟨h, fun q _ n d => k q _ n (Ex.new n) ⟨_, d, upd_same⟩⟩⟩
def tBMT (f : V → List V → Hp → VK → Prop) (to : TE) (a : TA) : TE := fun σ H Q => to σ H fun x Ha => (∃ p ys, x = .ref p ∧ Tu Ha p ys) ∧ a σ Ha fun xs Hb => f x xs Hb Q
theorem w_BMT {f : V → List V → Hp → VK → Prop} {to : TE} {a : TA} {σ : L2.St} {H : Hp} {Q : VK} (h : to σ H fun x Ha => (∃ p ys, x = .ref p ∧ Tu Ha p ys) ∧ a σ Ha fun xs Hb => f x xs Hb Q) : tBMT f to a σ H Q := h
theorem pe_bmT {X : Cx} {o e : Expr} {es : List Expr} {to : TE} {t : TA} {nm : Str} {ap cp : Pos} {id : String} {f : V → List V → Hp → VK → Prop} (pa : PlainAttrs "tuple") (slot : Slot "tuple" nm id) (hty : typeOf (.builtin id) = pure (.type "method_descriptor")) (hm : MtR X id f) (ho : PE X o to) (ha : PA X (e :: es) t)
    (h1 : attributeBase o nm X.env (eval o X.env) = eval o X.env := by rfl)
    (h2 : ((backTo cp (starEach (e :: es) X.env)).all (fun z => !z.1) && (backToKw cp (keywordEach [] X.env)).all (fun z => z.1.isSome) && decide ((e :: es).length + ([] : List Keyword).length + (if ([] : List Keyword).isEmpty then 0 else 1) < 30)) = true := by rfl)
    (h3 : (ap.endLine == cp.line) = true := by rfl) (h4 : starEach (e :: es) X.env = (false, eval e X.env) :: starEach es X.env := by rfl) (h5 : (backTo cp (starEach es X.env)).any (·.1) = false := by rfl) :
    PE X (.Call (.Attribute o nm ap) (e :: es) [] cp) (tBMT f to t) := by
  refine ⟨fun pins s σ H Q I h => wpAny_Call_method_late h1 h2 h3 rfl (thn (ho.run pins s σ H _ I h) fun v s1 ⟨x, H1, I1, r1, ty, q1⟩ => ?_)⟩
  obtain ⟨p, ys, rfl, ob, hd, hp⟩ := ty
  cases r1
  obtain ⟨g1, _, its, _, g2⟩ := I1.hok p _ hp
  have A := ha.run cp pins s1 σ H1 _ I1 q1
  rw [h4] at A
  refine ⟨"tuple", id, pa, slot, hty, g2.typeIs, fun c z => ⟨ob, by cases z; exact g1, hd⟩, ?_⟩
  rw [h4]
  refine Calls.callWith_builtin (by show (false || (backTo cp (starEach es X.env)).any (·.1)) = false; rw [h5]; rfl) (Calls.evalArgs_plain ?_)
  exact thn A fun us s2 ⟨vs, H2, I2, r2, q2⟩ => hm pins s2 σ H2 (.ref p) vs _ us Q I2 rfl r2 q2
/-! ## bars -/
def ltr (b : Bool) : Str := if b then "r" else "w"
def lv (ls : List Bool) : List V := ls.map fun b => .str (ltr b)
theorem lv_len (ls : List Bool) : (lv ls).length = ls.length := List.length_map _
def R.has (x : R) (b : Bool) : Bool := if b then x.hr else x.hw
theorem in_l (x : R) (b : Bool) : (!(Builtin.Str.occurrences x.s (ltr b) 0 x.s.length 1).isEmpty) = x.has b := by
  cases b
  · exact in_w x
  · exact in_r x
/-- going down by letters, turning about at w, to a right that the second has and the first lacks -/
def ib : List R → List R → List Bool → Bool → Bool
  | x :: _, y :: _, [], b => y.has b && !x.has b
  | _ :: xs, y :: ys, l :: ls, b => y.has l && ib (if l then xs else ys) (if l then ys else xs) ls b
  | _, _, _, _ => false
theorem ib_long : ∀ (ls : List Bool) (xs ys : List R) (b : Bool), xs.length = ys.length → xs.length ≤ ls.length → ib xs ys ls b = false
  | [], xs, ys, b, _, h => by
    have e : xs = [] := List.eq_nil_of_length_eq_zero (by simpa using h)
    subst e
    cases ys <;> rfl
  | l :: ls, [], ys, b, _, _ => by cases ys <;> rfl
  | l :: ls, x :: xs, [], b, h, _ => by cases h
  | l :: ls, x :: xs, y :: ys, b, h, h2 => by
    have h' : xs.length = ys.length := by simpa using h
    have h2' : xs.length ≤ ls.length := by simpa using h2
    show (y.has l && ib (if l then xs else ys) (if l then ys else xs) ls b) = false
    cases l
    · rw [show ib (if false = true then xs else ys) (if false = true then ys else xs) ls b = ib ys xs ls b from rfl, ib_long ls ys xs b h'.symm (by omega), Bool.and_false]
    · rw [show ib (if true = true then xs else ys) (if true = true then ys else xs) ls b = ib xs ys ls b from rfl, ib_long ls xs ys b h' h2', Bool.and_false]
theorem cv_cons' {a b : R} {as bs : List R} (h : as.length = bs.length) : cv (a :: as) (b :: bs) = (((!b.has true || a.has true) && (!b.has false || a.has false)) && (!b.has true || cv as bs) && (!b.has false || cv bs as)) := cv_cons h
/-- converting and bars exclude one another -/
theorem ib_cv : ∀ (ls : List Bool) (xs ys : List R) (b : Bool), xs.length = ys.length → ib xs ys ls b = true → cv xs ys = false
  | [], [], ys, b, _, h => by cases ys <;> cases h
  | [], x :: xs, [], b, h, _ => by cases h
  | [], x :: xs, y :: ys, b, h, g => by
    rw [cv_cons' (by simpa using h)]
    have g' : (y.has b && !x.has b) = true := g
    revert g'
    generalize cv xs ys = u1
    generalize cv ys xs = u2
    cases b <;> cases x <;> cases y <;> cases u1 <;> cases u2 <;> decide
  | l :: ls, [], ys, b, _, h => by cases ys <;> cases h
  | l :: ls, x :: xs, [], b, h, _ => by cases h
  | l :: ls, x :: xs, y :: ys, b, h, g => by
    have h' : xs.length = ys.length := by simpa using h
    have g' : (y.has l && ib (if l then xs else ys) (if l then ys else xs) ls b) = true := g
    rw [Bool.and_eq_true] at g'
    rw [cv_cons' h']
    cases l
    · have c := ib_cv ls ys xs b h'.symm g'.2
      rw [c, g'.1]
      simp
    · have c := ib_cv ls xs ys b h' g'.2
      rw [c, g'.1]
      simp
end Ver

set_option Elab.async false
set_option linter.all false
set_option maxRecDepth 100000
set_option maxHeartbeats 4000000
namespace Ver
open PySem PySem.Spec PyProof.Rows L2 Evl
section
variable {K : PySem.W.Frag}
abbrev rs4 : List V := [.str "rw", .str "r", .str "w", .str "-"]
/-- which datum is a right -/
def irD : PyData → Bool
  | .str x => inV (.str x) rs4
  | _ => false
theorem dp_ty {H : Hp} {v : V} {d : PyData} (h : Dp K H v d) : ∃ T, TyB K H v T ∧ ((∃ x, v = .str x ∧ d = .str x ∧ T = "str") ∨ (T ≠ "str" ∧ irD d = false)) := by
  cases h with
  | non => exact ⟨_, .non, .inr ⟨by decide, rfl⟩⟩
  | bl b => exact ⟨_, .bl b, .inr ⟨by decide, rfl⟩⟩
  | int i => exact ⟨_, .int i, .inr ⟨by decide, rfl⟩⟩
  | str x => exact ⟨_, .str x, .inl ⟨x, rfl, rfl, rfl⟩⟩
  | lst h _ => exact ⟨_, .lst h, .inr ⟨by decide, rfl⟩⟩
  | tup h _ => exact ⟨_, .tup h, .inr ⟨by decide, rfl⟩⟩
def vtD (ds : List PyData) : Bool := decide (ds.length ≤ 6) && ds.all irD
theorem dpa_len {H : Hp} : ∀ {xs : List V} {ds : List PyData}, DpAll K H xs ds → xs.length = ds.length
  | _, _, .nil => rfl
  | _, _, .cons _ t => congrArg (· + 1) (dpa_len t)
theorem dpa_at {H : Hp} : ∀ {xs : List V} {ds : List PyData} {i : Nat} {v : V}, DpAll K H xs ds → xs[i]? = some v → ∃ d, ds[i]? = some d ∧ Dp K H v d
  | _, _, _, _, .nil, e => by simp at e
  | _, _, 0, _, .cons h _, e => by
    cases Option.some.inj e
    exact ⟨_, rfl, h⟩
  | _, _, i + 1, _, .cons _ t, e => dpa_at (i := i) t e
mutual
theorem dp_ex {H H' : Hp} (e : Ex H H') : ∀ {v : V} {d : PyData}, Dp K H v d → Dp K H' v d
  | _, _, .non => .non
  | _, _, .bl b => .bl b
  | _, _, .int i => .int i
  | _, _, .str x => .str x
  | _, _, .lst h t => .lst (ex_sl h e) (dpa_ex e t)
  | _, _, .tup h t => .tup (ex_st h e) (dpa_ex e t)
theorem dpa_ex {H H' : Hp} (e : Ex H H') : ∀ {xs : List V} {ds : List PyData}, DpAll K H xs ds → DpAll K H' xs ds
  | _, _, .nil => .nil
  | _, _, .cons h t => .cons (dp_ex e h) (dpa_ex e t)
end
theorem take_all {ds : List PyData} {k : Nat} {d : PyData} (h : ds[k]? = some d) : (ds.take (k + 1)).map irD = (ds.take k).map irD ++ [irD d] := by
  rw [List.take_add_one, h, List.map_append]
  rfl

def tyD (ds : List PyData) : Bool := vtD ds && decide (0 < ds.length)
/-! ## data by their kinds -/
def tagD : PyData → String
  | .none => "NoneType"
  | .bool _ => "bool"
  | .int _ => "int"
  | .str _ => "str"
  | .list _ => "list"
  | .tuple _ => "tuple"
  | .dict _ => "dict"
theorem dp_tag {H : Hp} {v : V} {d : PyData} (h : Dp K H v d) : TyB K H v (tagD d) := by
  cases h with
  | non => exact .non
  | bl b => exact .bl b
  | int i => exact .int i
  | str x => exact .str x
  | lst h _ => exact .lst h
  | tup h _ => exact .tup h
theorem tag_tup {d : PyData} (h : tagD d = "tuple") : ∃ ds, d = .tuple ds := by
  cases d <;> first | exact ⟨_, rfl⟩ | exact absurd h (by simp only [tagD]; decide)
theorem tag_lst {d : PyData} (h : tagD d = "list") : ∃ ds, d = .list ds := by
  cases d <;> first | exact ⟨_, rfl⟩ | exact absurd h (by simp only [tagD]; decide)
theorem tag_str {d : PyData} (h : tagD d = "str") : ∃ x, d = .str x := by
  cases d <;> first | exact ⟨_, rfl⟩ | exact absurd h (by simp only [tagD]; decide)
theorem tag_int {d : PyData} (h : tagD d = "int") : ∃ x, d = .int x := by
  cases d <;> first | exact ⟨_, rfl⟩ | exact absurd h (by simp only [tagD]; decide)
theorem dp_tup {H : Hp} {v : V} {ds : List PyData} (h : Dp K H v (.tuple ds)) : ∃ p xs, v = .ref p ∧ SqT K H p xs ∧ DpAll K H xs ds := by
  cases h with
  | tup h t => exact ⟨_, _, rfl, h, t⟩
theorem dp_lst {H : Hp} {v : V} {ds : List PyData} (h : Dp K H v (.list ds)) : ∃ p xs, v = .ref p ∧ SqL K H p xs ∧ DpAll K H xs ds := by
  cases h with
  | lst h t => exact ⟨_, _, rfl, h, t⟩
theorem dp_str {H : Hp} {v : V} {x : Str} (h : Dp K H v (.str x)) : v = .str x := by
  cases h with
  | str => rfl
theorem dp_int {H : Hp} {v : V} {x : Int} (h : Dp K H v (.int x)) : v = .int x := by
  cases h with
  | int => rfl
def lenD : PyData → Nat
  | .tuple ds => ds.length
  | _ => 0
def nthD : PyData → Nat → PyData
  | .tuple ds, i => ds.getD i .none
  | _, _ => .none
def numD : PyData → Int → Bool
  | .int i, m => decide (0 ≤ i) && decide (i ≤ m)
  | _, _ => false
abbrev signs : Str := "abcdefghijklmnopqrstuvwxyz"
def sgOk (c : Nat) : Bool := !(Builtin.Str.occurrences signs ⟨#[c]⟩ 0 signs.length 1).isEmpty
def nameD : PyData → Bool
  | .str s => !decide (s = "null") && (decide (1 ≤ s.length) && decide (s.length ≤ 8)) && s.cps.toList.all sgOk
  | _ => false
def placeD (d : PyData) : Bool := decide (tagD d = "tuple") && decide (lenD d = 2) && (nameD (nthD d 0) && numD (nthD d 1) 5)
def strD : PyData → Str
  | .str x => x
  | _ => ""
def fwD (d : PyData) : Str := if tagD d = "tuple" ∧ 0 < lenD d ∧ tagD (nthD d 0) = "str" then strD (nthD d 0) else ""
def srcD (d : PyData) : Bool := if fwD d = "null" then decide (lenD d = 1) else if fwD d = "number" then decide (lenD d = 2) && numD (nthD d 1) 1000 else
  inV (.str (fwD d)) [.str "value", .str "address"] && (decide (lenD d = 2) && placeD (nthD d 1))
def itemsD : PyData → List PyData
  | .list ds => ds
  | .tuple ds => ds
  | _ => []
def srcsD (d : PyData) : Bool := decide (tagD d = "list") && (itemsD d).all srcD
def typD : PyData → Bool
  | .tuple ds => tyD ds
  | _ => false
def declD (d : PyData) : Bool := decide (tagD d = "tuple") && decide (lenD d = 2) && (nameD (nthD d 0) && (typD (nthD d 1) || numD (nthD d 1) 5))
def cut13 (d : PyData) : PyData := .tuple (((itemsD d).drop 1).take 2)
def stmtD (d : PyData) : Bool := if fwD d = "let" then decide (lenD d = 4) && (declD (cut13 d) && srcD (nthD d 3)) else if fwD d = "put" then decide (lenD d = 3) && (placeD (nthD d 1) && srcD (nthD d 2)) else
  decide (fwD d = "call") && (decide (lenD d = 3) && (nameD (nthD d 1) && srcsD (nthD d 2)))
theorem fw_ne {d : PyData} (h : fwD d ≠ "") : ∃ ds, d = .tuple ds ∧ 0 < ds.length := by
  unfold fwD at h
  split at h
  · rename_i c
    obtain ⟨ds, rfl⟩ := tag_tup c.1
    exact ⟨ds, rfl, c.2.1⟩
  · exact absurd rfl h
theorem nth_dp {H : Hp} {xs : List V} {ds : List PyData} {i : Nat} (h : DpAll K H xs ds) (hi : i < ds.length) : ∃ v, xs[i]? = some v ∧ Dp K H v (nthD (.tuple ds) i) := by
  have hx : i < xs.length := by rw [dpa_len h]; exact hi
  refine ⟨xs[i], List.getElem?_eq_getElem hx, ?_⟩
  obtain ⟨d, hd, dp⟩ := dpa_at h (List.getElem?_eq_getElem hx)
  have e : nthD (.tuple ds) i = d := by
    show ds.getD i .none = d
    rw [List.getD_eq_getElem?_getD, hd]
    rfl
  rw [e]
  exact dp
/-- an item of a datum -/
theorem a_nth {H : Hp} {Q : VK} {p : Addr} {xs : List V} {ds : List PyData} {i : Nat} (hT : SqT K H p xs) (h : DpAll K H xs ds) (hi : i < ds.length) (k : ∀ v, Dp K H v (nthD (.tuple ds) i) → Q v H) : rIxT K (.ref p) (.int (i : Int)) H Q := by
  obtain ⟨v, hv, dp⟩ := nth_dp h hi
  exact a_ixT hT (atI_nat hv) (k v dp)
theorem dpa_drop {H : Hp} : ∀ {xs : List V} {ds : List PyData} (n : Nat), DpAll K H xs ds → DpAll K H (xs.drop n) (ds.drop n)
  | _, _, 0, h => h
  | _, _, _ + 1, .nil => .nil
  | _, _, n + 1, .cons _ t => dpa_drop n t
theorem dpa_take {H : Hp} : ∀ {xs : List V} {ds : List PyData} (n : Nat), DpAll K H xs ds → DpAll K H (xs.take n) (ds.take n)
  | _, _, 0, _ => .nil
  | _, _, _ + 1, .nil => .nil
  | _, _, n + 1, .cons h t => .cons h (dpa_take n t)
theorem dpa_app {H : Hp} : ∀ {xs ys : List V} {ds es : List PyData}, DpAll K H xs ds → DpAll K H ys es → DpAll K H (xs ++ ys) (ds ++ es)
  | _, _, _, _, .nil, g => g
  | _, _, _, _, .cons h t, g => .cons h (dpa_app t g)

/-! ## data of bounded size -/
mutual
def smD : PyData → Bool
  | .str x => decide (x.length ≤ 100000)
  | .list ds => decide (ds.length ≤ 100000) && smAll ds
  | .tuple ds => decide (ds.length ≤ 100000) && smAll ds
  | _ => true
def smAll : List PyData → Bool
  | [] => true
  | d :: ds => smD d && smAll ds
end
def Ds (K : PySem.W.Frag) (H : Hp) (v : V) (d : PyData) : Prop := Dp K H v d ∧ smD d = true
theorem ds_ex {H H' : Hp} {v : V} {d : PyData} (h : Ds K H v d) (e : Ex H H') : Ds K H' v d := ⟨dp_ex e h.1, h.2⟩
theorem sm_at : ∀ {ds : List PyData} {i : Nat} {d : PyData}, smAll ds = true → ds[i]? = some d → smD d = true
  | [], _, _, _, e => by simp at e
  | a :: as, 0, d, h, e => by
    cases Option.some.inj e
    exact (Bool.and_eq_true _ _ ▸ h).1
  | a :: as, i + 1, d, h, e => sm_at (ds := as) (i := i) (Bool.and_eq_true _ _ ▸ h).2 e
theorem nthD_get {ds : List PyData} {i : Nat} (hi : i < ds.length) : ds[i]? = some (nthD (.tuple ds) i) := by
  show _ = some (ds.getD i .none)
  rw [List.getD_eq_getElem?_getD, List.getElem?_eq_getElem hi]
  rfl
theorem ds_nth {H : Hp} {xs : List V} {ds : List PyData} {i : Nat} (h : DpAll K H xs ds) (s : smAll ds = true) (hi : i < ds.length) : ∃ v, xs[i]? = some v ∧ Ds K H v (nthD (.tuple ds) i) := by
  obtain ⟨v, hv, dv⟩ := nth_dp h hi
  exact ⟨v, hv, dv, sm_at s (nthD_get hi)⟩
/-- an item of a bounded datum -/
theorem a_nthS {H : Hp} {Q : VK} {p : Addr} {xs : List V} {ds : List PyData} {i : Nat} (hT : SqT K H p xs) (h : DpAll K H xs ds) (s : smAll ds = true) (hi : i < ds.length) (k : ∀ v, Ds K H v (nthD (.tuple ds) i) → Q v H) : rIxT K (.ref p) (.int (i : Int)) H Q := by
  obtain ⟨v, hv, dv⟩ := ds_nth h s hi
  exact a_ixT hT (atI_nat hv) (k v dv)
theorem ds_tupz {H : Hp} {v : V} {d : PyData} (h : Ds K H v d) (c : tagD d = "tuple") : ∃ p xs ds, v = .ref p ∧ d = .tuple ds ∧ SqT K H p xs ∧ DpAll K H xs ds ∧ smAll ds = true ∧ ds.length ≤ 100000 ∧ xs.length = ds.length := by
  obtain ⟨ds, rfl⟩ := tag_tup c
  obtain ⟨p, xs, rfl, h1, h2⟩ := dp_tup h.1
  have h3 : (decide (ds.length ≤ 100000) && smAll ds) = true := h.2
  rw [Bool.and_eq_true] at h3
  exact ⟨p, xs, ds, rfl, rfl, h1, h2, h3.2, of_decide_eq_true h3.1, dpa_len h2⟩
theorem ds_tup {H : Hp} {v : V} {d : PyData} (h : Ds K H v d) (c : tagD d = "tuple") : ∃ p xs ds, v = .ref p ∧ d = .tuple ds ∧ SqT K H p xs ∧ DpAll K H xs ds ∧ smAll ds = true ∧ xs.length = ds.length := by
  obtain ⟨p, xs, ds, e1, e2, h1, h2, h3, _, h4⟩ := ds_tupz h c
  exact ⟨p, xs, ds, e1, e2, h1, h2, h3, h4⟩
theorem sm_tup {ds : List PyData} (h : smAll ds = true) (z : ds.length ≤ 100000) : smD (.tuple ds) = true := by
  show (decide (ds.length ≤ 100000) && smAll ds) = true
  rw [decide_eq_true z, h]
  rfl
theorem sm_lst {ds : List PyData} (h : smAll ds = true) (z : ds.length ≤ 100000) : smD (.list ds) = true := by
  show (decide (ds.length ≤ 100000) && smAll ds) = true
  rw [decide_eq_true z, h]
  rfl
theorem ds_lst {H : Hp} {v : V} {d : PyData} (h : Ds K H v d) (c : tagD d = "list") : ∃ p xs ds, v = .ref p ∧ d = .list ds ∧ SqL K H p xs ∧ DpAll K H xs ds ∧ smAll ds = true ∧ ds.length ≤ 100000 ∧ xs.length = ds.length := by
  obtain ⟨ds, rfl⟩ := tag_lst c
  obtain ⟨p, xs, rfl, h1, h2⟩ := dp_lst h.1
  have h3 : (decide (ds.length ≤ 100000) && smAll ds) = true := h.2
  rw [Bool.and_eq_true] at h3
  exact ⟨p, xs, ds, rfl, rfl, h1, h2, h3.2, of_decide_eq_true h3.1, dpa_len h2⟩
theorem ds_str {H : Hp} {v : V} {d : PyData} (h : Ds K H v d) (c : tagD d = "str") : ∃ x, v = .str x ∧ d = .str x ∧ x.length ≤ 100000 := by
  obtain ⟨x, rfl⟩ := tag_str c
  exact ⟨x, dp_str h.1, rfl, of_decide_eq_true h.2⟩
theorem ds_int {H : Hp} {v : V} {d : PyData} (h : Ds K H v d) (c : tagD d = "int") : ∃ x, v = .int x ∧ d = .int x := by
  obtain ⟨x, rfl⟩ := tag_int c
  exact ⟨x, dp_int h.1, rfl⟩
theorem sm_drop : ∀ {ds : List PyData} (n : Nat), smAll ds = true → smAll (ds.drop n) = true
  | _, 0, h => h
  | [], _ + 1, h => h
  | _ :: ds, n + 1, h => sm_drop (ds := ds) n (Bool.and_eq_true _ _ ▸ h).2
theorem sm_take : ∀ {ds : List PyData} (n : Nat), smAll ds = true → smAll (ds.take n) = true
  | _, 0, _ => rfl
  | [], _ + 1, h => h
  | a :: ds, n + 1, h => by
    have h' := (Bool.and_eq_true _ _ ▸ h : smD a = true ∧ smAll ds = true)
    show (smD a && smAll (ds.take n)) = true
    rw [h'.1, sm_take n h'.2]
    rfl
/-- a promise of a question asked of one datum -/
def pF1 (K : PySem.W.Frag) (f : PyData → Bool) : Sp := fun vs H Q _ => ∃ v d, vs = [v] ∧ Ds K H v d ∧ RV1 (.bl (f d)) H Q
def pNum (K : PySem.W.Frag) : Sp := fun vs H Q _ => ∃ v d m, vs = [v, .int m] ∧ Ds K H v d ∧ RV1 (.bl (numD d m)) H Q
theorem not_tag {d : PyData} {s : String} (c : ¬ decide (tagD d = s) = true) : tagD d ≠ s := fun z => c (decide_eq_true z)
def vtyD : PyData → Bool
  | .tuple ds => vtD ds
  | _ => false
theorem typD_eq (d : PyData) : typD d = (vtyD d && decide (0 < lenD d)) := by
  cases d <;> rfl
theorem vtyD_tag {d : PyData} (h : tagD d ≠ "tuple") : vtyD d = false := by
  cases d <;> first | rfl | exact absurd rfl h
theorem typD_tag {d : PyData} (h : tagD d ≠ "tuple") : typD d = false := by
  cases d <;> first | rfl | exact absurd rfl h
theorem nameD_tag {d : PyData} (h : tagD d ≠ "str") : nameD d = false := by
  cases d <;> first | rfl | exact absurd rfl h
theorem numD_tag {d : PyData} {m : Int} (h : tagD d ≠ "int") : numD d m = false := by
  cases d <;> first | rfl | exact absurd rfl h
theorem irD_tag {d : PyData} (h : tagD d ≠ "str") : irD d = false := by
  cases d <;> first | rfl | exact absurd rfl h
theorem placeD_tag {d : PyData} (h : tagD d ≠ "tuple") : placeD d = false := by
  unfold placeD
  rw [decide_eq_false h]
  rfl
theorem declD_tag {d : PyData} (h : tagD d ≠ "tuple") : declD d = false := by
  unfold declD
  rw [decide_eq_false h]
  rfl
theorem srcsD_tag {d : PyData} (h : tagD d ≠ "list") : srcsD d = false := by
  unfold srcsD
  rw [decide_eq_false h]
  rfl
theorem nf {b : Bool} (c : ¬ b = true) : b = false := Bool.eq_false_iff.mpr c
theorem bools_snoc (f : PyData → Bool) {ds : List PyData} {k : Nat} {d : PyData} (h : ds[k]? = some d) : ((ds.take (k + 1)).map f).map V.bl = ((ds.take k).map f).map V.bl ++ [.bl (f d)] := by
  rw [List.take_add_one, h, List.map_append, List.map_append]
  rfl
theorem bools_len (f : PyData → Bool) (ds : List PyData) (k : Nat) : (((ds.take k).map f).map V.bl).length = min k ds.length := by
  rw [List.length_map, List.length_map, List.length_take]
theorem bools_all (f : PyData → Bool) (ds : List PyData) : (ds.map f).all id = ds.all f := by
  rw [List.all_map]
  rfl
theorem ds_at {H : Hp} {xs : List V} {ds : List PyData} {i : Nat} {v : V} (h : DpAll K H xs ds) (s : smAll ds = true) (e : xs[i]? = some v) : ∃ d, ds[i]? = some d ∧ Ds K H v d := by
  obtain ⟨d, hd, dv⟩ := dpa_at h e
  exact ⟨d, hd, dv, sm_at s hd⟩
theorem at_lt {α : Type} {xs : List α} {i : Nat} {v : α} (h : xs[i]? = some v) : i < xs.length := (List.getElem?_eq_some_iff.mp h).1
/-- a comprehension over characters -/
theorem cp_chars {σ : L2.St} {H : Hp} {g : TG} {t : TT} {te : TE} {Q : VK} {z : Str} {vs : List Nat} (J : Addr → Nat → Hp → Prop) (h0 : ∀ p, H p = none → J p 0 (upd H p (.lst [])))
    (hs : ∀ (p : Addr) (k : Nat) (c : Nat) (h : Hp), H p = none → z.cps[k]? = some c → J p k h → g (.str ⟨#[c]⟩) (wipe σ vs) h fun s2 h2 => wipe s2 vs = wipe σ vs ∧ t s2 h2 fun b h3 =>
      if b = true then te s2 h3 fun a h4 => ∃ acc, h4 p = some (.lst acc) ∧ acc.length < sizeLine ∧ J p (k + 1) (upd h4 p (.lst (acc ++ [a]))) else J p (k + 1) h3)
    (hd : ∀ p h, H p = none → J p z.cps.size h → Q (.ref p) h) : CompG (Its z) g t te vs σ H Q := fun p hp => by
  refine ⟨fun i m h => m = z.cps.size - i ∧ i ≤ z.cps.size ∧ J p i h, ⟨_, rfl, Nat.zero_le _, h0 p hp⟩, ?_⟩
  rintro i m h ⟨rfl, hi, q⟩
  by_cases hlt : i < z.cps.size
  · refine .inr ⟨hlt, J p (i + 1), fun h' q' => ⟨z.cps.size - (i + 1), by omega, rfl, hlt, q'⟩, fun x h' y => ?_⟩
    obtain ⟨e, c, y, e2⟩ := y
    subst e e2
    exact hs p i c _ hp y q
  · have e : i = z.cps.size := by omega
    subst e
    exact .inl ⟨Nat.le_refl _, hd p h hp q⟩
theorem chars_snoc {s : Str} {k c : Nat} (h : s.cps[k]? = some c) : ((s.cps.toList.take (k + 1)).map sgOk).map V.bl = ((s.cps.toList.take k).map sgOk).map V.bl ++ [.bl (sgOk c)] := by
  have h' : s.cps.toList[k]? = some c := by simpa using h
  rw [List.take_add_one, h', List.map_append, List.map_append]
  rfl
theorem fw_str {ds : List PyData} {x : Str} (h : 0 < ds.length) (e : nthD (.tuple ds) 0 = .str x) : fwD (.tuple ds) = x := by
  unfold fwD
  rw [if_pos ⟨rfl, h, by rw [e]; rfl⟩, e]
  rfl
theorem fw_no {d : PyData} (h : tagD d ≠ "tuple" ∨ lenD d = 0 ∨ tagD (nthD d 0) ≠ "str") : fwD d = "" := by
  unfold fwD
  refine if_neg fun z => ?_
  rcases h with h | h | h
  · exact h z.1
  · have := z.2.1; omega
  · exact h z.2.2
theorem vt_nil (ds : List PyData) (h : ¬ ds.length ≤ 6) : vtD ds = false := by
  unfold vtD
  rw [decide_eq_false h]
  rfl
theorem vt_all (ds : List PyData) (h : ds.length ≤ 6) : vtD ds = ds.all irD := by
  unfold vtD
  rw [decide_eq_true h]
  rfl
theorem a_sl13 {p : Addr} {xs : List V} {H : Hp} {Q : VK} (h : SqT K H p xs) (hn : 3 ≤ xs.length) (k : ∀ p H1, H p = none → Ex H H1 → H1 p = some (.tup ((xs.drop 1).take 2)) → Q (.ref p) H1) : rSlA K (.ref p) (some 1) (some 3) H Q := by
  have e1 : HT.sIx xs.length 0 (some 1) = 1 := by
    rw [show HT.sIx xs.length 0 (some 1) = min 1 xs.length from HT.sIx_nat xs.length 0 1]
    omega
  have e3 : HT.sIx xs.length xs.length (some 3) = 3 := by
    rw [show HT.sIx xs.length xs.length (some 3) = min 3 xs.length from HT.sIx_nat xs.length xs.length 3]
    omega
  refine ⟨p, xs, rfl, h, fun z => ?_, fun _ l hp => ?_⟩
  · rw [e1] at z
    exact absurd z.1 (by decide)
  · have e : cutV xs (some 1) (some 3) = (xs.drop 1).take 2 := by
      unfold cutV
      rw [e1, e3]
    rw [e]
    exact k l _ hp (Ex.new hp) upd_same
/-! ## the heap but for some places -/
def dl (S : List Addr) (H : Hp) : Hp := fun a => if a ∈ S then none else H a
theorem dl_nin {S : List Addr} {H : Hp} {a : Addr} (h : a ∉ S) : dl S H a = H a := if_neg h
theorem dl_in {S : List Addr} {H : Hp} {a : Addr} (h : a ∈ S) : dl S H a = none := if_pos h
theorem dl_le (S : List Addr) (H : Hp) : Ex (dl S H) H := fun a o e => by
  by_cases h : a ∈ S
  · rw [dl_in h] at e
    cases e
  · rw [dl_nin h] at e
    exact e
theorem dl_ex {S : List Addr} {H H1 : Hp} (e : Ex H H1) : Ex (dl S H) (dl S H1) := fun a o q => by
  by_cases h : a ∈ S
  · rw [dl_in h] at q
    cases q
  · rw [dl_nin h] at q ⊢
    exact e a o q
theorem dl_ks {S : List Addr} {H H1 : Hp} (e : Ks S H H1) : Ex (dl S H) (dl S H1) := fun a o q => by
  by_cases h : a ∈ S
  · rw [dl_in h] at q
    cases q
  · rw [dl_nin h] at q ⊢
    exact e a o h q
theorem dl_sub {S T : List Addr} {H : Hp} (h : ∀ a ∈ S, a ∈ T) : Ex (dl T H) (dl S H) := fun a o q => by
  by_cases k : a ∈ T
  · rw [dl_in k] at q
    cases q
  · rw [dl_nin k] at q
    rw [dl_nin fun z => k (h a z)]
    exact q
theorem dl_upd {S : List Addr} {H : Hp} {p : Addr} {o : HO} (h : p ∈ S) : dl S (upd H p o) = dl S H := by
  funext a
  by_cases k : a ∈ S
  · rw [dl_in k, dl_in k]
  · rw [dl_nin k, dl_nin k, upd_ne fun z => k (by rw [z]; exact h)]
/-- places of S are there -/
def Al (S : List Addr) (H : Hp) : Prop := ∀ a ∈ S, H a ≠ none
theorem Al.ex {S : List Addr} {H H1 : Hp} (h : Al S H) (e : Ex H H1) : Al S H1 := fun a k n => by
  cases q : H a with
  | none => exact h a k q
  | some o =>
    rw [e a o q] at n
    cases n
theorem Al.nil {H : Hp} : Al [] H := fun _ k => by cases k
theorem Al.cons {S : List Addr} {H : Hp} {p : Addr} {o : HO} (h : Al S H) (e : H p = some o) : Al (p :: S) H := fun a k => by
  rcases List.mem_cons.mp k with rfl | k
  · rw [e]
    exact fun z => by cases z
  · exact h a k
theorem Al.upd {S : List Addr} {H : Hp} {p : Addr} {o : HO} (h : Al S H) : Al S (L2.upd H p o) := fun a k => by
  by_cases z : a = p
  · rw [z, upd_same]
    exact fun z => by cases z
  · rw [upd_ne z]
    exact h a k
theorem ks_none {S : List Addr} {H H' : Hp} {q : Addr} (e : Ks S H H') (n : H' q = none) (h : q ∉ S) : H q = none := by
  cases z : H q with
  | none => rfl
  | some o =>
    rw [e q o h z] at n
    cases n
theorem Al.nin {S : List Addr} {H : Hp} {p : Addr} (h : Al S H) (n : H p = none) : p ∉ S := fun k => h p k n
/-- from the old heap to a new one without a place that is new -/
theorem dl_new {S : List Addr} {H H1 : Hp} {p : Addr} (n : H p = none) (e : Ex H H1) : Ex (dl S H) (dl (p :: S) H1) := fun a o q => by
  by_cases h : a ∈ S
  · rw [dl_in h] at q
    cases q
  · rw [dl_nin h] at q
    have k : a ≠ p := ne_of_none q n
    rw [dl_nin fun z => (List.mem_cons.mp z).elim k h]
    exact e a o q
theorem dl_at {S : List Addr} {H : Hp} {p : Addr} {o : HO} (h : p ∉ S) (e : H p = some o) : dl S H p = some o := by rw [dl_nin h]; exact e
theorem tu_dl {S : List Addr} {H : Hp} {p : Addr} {xs : List V} (h : p ∉ S) (e : Tu H p xs) : Tu (dl S H) p xs := by
  unfold Tu
  rw [dl_nin h]
  exact e
theorem dpa_snoc {H : Hp} {xs : List V} {ds : List PyData} {v : V} {d : PyData} (h : DpAll K H xs ds) (k : Dp K H v d) : DpAll K H (xs ++ [v]) (ds ++ [d]) := dpa_app h (.cons k .nil)
theorem take_snoc {α : Type} {ds : List α} {k : Nat} {d : α} (h : ds[k]? = some d) : ds.take (k + 1) = ds.take k ++ [d] := by
  rw [List.take_add_one, h]
  rfl
theorem take_len {α : Type} {ds : List α} {k : Nat} {d : α} (h : ds[k]? = some d) : (ds.take k).length = k := by
  have := at_lt h
  rw [List.length_take]
  omega
theorem sl_dl {S : List Addr} {H : Hp} {p : Addr} {xs : List V} (h : SqL K (dl S H) p xs) : SqL K H p xs := ex_sl h (dl_le S H)
theorem st_dl {S : List Addr} {H : Hp} {p : Addr} {xs : List V} (h : SqT K (dl S H) p xs) : SqT K H p xs := ex_st h (dl_le S H)
/-- a list of data that stands in a heap -/
structure Dl (K : PySem.W.Frag) (G : Hp) (p : Addr) (ds : List PyData) : Prop where
  ex : ∃ xs, SqL K G p xs ∧ DpAll K G xs ds
  sm : smAll ds = true
  le : ds.length ≤ 100000
theorem Dl.up {G G' : Hp} {p : Addr} {ds : List PyData} (h : Dl K G p ds) (e : Ex G G') : Dl K G' p ds := by
  obtain ⟨xs, h1, h2⟩ := h.ex
  exact ⟨⟨xs, ex_sl h1 e, dpa_ex e h2⟩, h.sm, h.le⟩
def pCop (K : PySem.W.Frag) : Sp := fun vs H Q _ => ∃ S v d, vs = [v] ∧ Al S H ∧ Ds K (dl S H) v d ∧ (tagD d ≠ "list" → Q v H) ∧
  (∀ ds, d = .list ds → ∀ q ys H1, H q = none → Ex H H1 → H1 q = some (.lst ys) → DpAll K (dl S H1) ys ds → Q (.ref q) H1)
def pCs (K : PySem.W.Frag) : Sp := fun vs H Q _ => ∃ S v d, vs = [v] ∧ Al S H ∧ Ds K (dl S H) v d ∧ ∀ v' H1, Ex H H1 → Dp K (dl S H1) v' d → Q v' H1
def pCss (K : PySem.W.Frag) : Sp := fun vs H Q _ => ∃ S p ds, vs = [.ref p] ∧ Al S H ∧ Dl K (dl S H) p ds ∧ ∀ q ys H1, H q = none → Ex H H1 → H1 q = some (.lst ys) → DpAll K (dl S H1) ys ds → Q (.ref q) H1
/-! ## instances -/
def GetF (K : PySem.W.Frag) (f : Str) (x : V) (H : Hp) (Q : VK) : Prop := ∃ a C dx fs v, x = .ref a ∧ H a = some (.ins C dx fs) ∧ Cls K C ∧ NoAttr K C f ∧ fs.lookup f = some v ∧ Q v H
def SetF (K : PySem.W.Frag) (f : Str) (x y : V) (H : Hp) (N : Hp → Prop) : Prop := ∃ a C dx fs, x = .ref a ∧ H a = some (.ins C dx fs) ∧ Cls K C ∧ NoAttr K C f ∧ fs.length < 1000 ∧ N (upd H a (.ins C dx (putF f y fs)))
def NewI (C : Addr) (sp : Sp) (E : XK) (vs : List V) (H : Hp) (Q : VK) : Prop := ∀ x dx, H x = none → H dx = none → dx ≠ x → sp (.ref x :: vs) (upd (upd H dx (.own x)) x (.ins C dx [])) (fun v H2 => v = .non ∧ Q (.ref x) H2) E
theorem w_getF {σ : L2.St} {H : Hp} {ta : TE} {f : Str} {Q : VK} (h : ta σ H fun x Ha => GetF K f x Ha Q) : tFld K ta f σ H Q := h
theorem fldK (K : PySem.W.Frag) {X : Cx} {e : Expr} {ta : TE} {f : Str} {pos : Pos} (he : PE X e ta) (hb : attributeBase e f X.env (eval e X.env) = eval e X.env) (h : X.K = K := by rfl) : PE X (.Attribute e f pos) (tFld K ta f) := by
  subst h
  exact pe_fld he hb
theorem w_setF {σ : L2.St} {H : Hp} {ta tv : TE} {f : Str} {D : Ends} (h : tv σ H fun y Ha => ta σ Ha fun x Hb => SetF K f x y Hb fun Hc => D.nx σ Hc) : sFld K ta tv f D σ H := h
theorem w_newI {σ : L2.St} {H : Hp} {C : Addr} {sp : Sp} {E : XK} {t : TA} {Q : VK} (h : t σ H fun vs Ha => NewI C sp E vs Ha Q) : tMake C sp [] E t σ H Q := by
  have e : (fun vs Ha => NewI C sp E vs Ha Q) = fun (vs : List V) H1 => ∀ x dx, H1 x = none → H1 dx = none → dx ≠ x → sp (.ref x :: (vs ++ [])) (upd (upd H1 dx (.own x)) x (.ins C dx [])) (fun v H2 => v = .non ∧ Q (.ref x) H2) E := by
    funext vs Ha
    rw [List.append_nil]
    rfl
  show t σ H fun vs H1 => ∀ x dx, H1 x = none → H1 dx = none → dx ≠ x → sp (.ref x :: (vs ++ [])) (upd (upd H1 dx (.own x)) x (.ins C dx [])) (fun v H2 => v = .non ∧ Q (.ref x) H2) E
  rw [← e]
  exact h
theorem w_callS {σ : L2.St} {H : Hp} {sp : Sp} {E : L2.St → XK} {t : TA} {Q : VK} (h : t σ H fun vs Ha => sp vs Ha Q (E σ)) : tCallS sp E t σ H Q := h
theorem a_get {H : Hp} {a C dx : Addr} {fs : List (Str × V)} {f : Str} {v : V} {Q : VK} (c : Cls K C) (n : PySem.W.findIn K (.ref C) f = some none) (e : H a = some (.ins C dx fs)) (l : fs.lookup f = some v) (k : Q v H) : GetF K f (.ref a) H Q := ⟨a, C, dx, fs, v, rfl, e, c, n, l, k⟩
theorem a_put {H : Hp} {a C dx : Addr} {fs : List (Str × V)} {f : Str} {y : V} {N : Hp → Prop} (c : Cls K C) (n : PySem.W.findIn K (.ref C) f = some none) (e : H a = some (.ins C dx fs)) (hl : fs.length < 1000) (k : N (upd H a (.ins C dx (putF f y fs)))) : SetF K f (.ref a) y H N := ⟨a, C, dx, fs, rfl, e, c, n, hl, k⟩
/-- a new instance: what is made, then __init__ -/
theorem a_new {H : Hp} {C : Addr} {sp : Sp} {E : XK} {vs : List V} {Q : VK} (k : ∀ x dx H1, H x = none → H dx = none → dx ≠ x → Ex H H1 → H1 x = some (.ins C dx []) → H1 dx = some (.own x) → sp (.ref x :: vs) H1 (fun v H2 => v = .non ∧ Q (.ref x) H2) E) : NewI C sp E vs H Q := fun x dx n1 n2 n3 =>
  k x dx _ n1 n2 n3 ((Ex.new n2).mut n1) upd_same (by rw [upd_ne n3, upd_same])
/-! ## the program's functions -/
def fnF (nv : V) (p b : Addr) : List (Str × V) := putF "body" (.ref b) (putF "params" (.ref p) (putF "name" nv []))
theorem fn_name (nv : V) (p b : Addr) : (fnF nv p b).lookup ("name" : Str) = some nv := by
  unfold fnF
  rw [lookup_putF, if_neg (by decide +kernel), lookup_putF, if_neg (by decide +kernel), lookup_putF, if_pos rfl]
theorem fn_params (nv : V) (p b : Addr) : (fnF nv p b).lookup ("params" : Str) = some (.ref p) := by
  unfold fnF
  rw [lookup_putF, if_neg (by decide +kernel), lookup_putF, if_pos rfl]
theorem fn_body (nv : V) (p b : Addr) : (fnF nv p b).lookup ("body" : Str) = some (.ref b) := by
  unfold fnF
  rw [lookup_putF, if_pos rfl]
theorem putF_le (f : Str) (v : V) : ∀ fs : List (Str × V), (putF f v fs).length ≤ fs.length + 1
  | [] => Nat.le_refl _
  | (g, x) :: r => by
    show (if g = f then (g, v) :: r else (g, x) :: putF f v r).length ≤ _
    by_cases h : g = f
    · rw [if_pos h]
      exact Nat.le_succ _
    · rw [if_neg h, List.length_cons, List.length_cons]
      exact Nat.succ_le_succ (putF_le f v r)
theorem put1_lt (f : Str) (v : V) : (putF f v []).length < 1000 := Nat.lt_of_le_of_lt (putF_le f v []) (by decide)
theorem put2_lt (f g : Str) (v u : V) : (putF f v (putF g u [])).length < 1000 := by
  have h1 := putF_le f v (putF g u [])
  have h2 := putF_le g u []
  have h3 : ([] : List (Str × V)).length = 0 := rfl
  omega
def pgF (f s : Addr) : List (Str × V) := putF "statements" (.ref s) (putF "functions" (.ref f) [])
theorem pg_fns (f s : Addr) : (pgF f s).lookup ("functions" : Str) = some (.ref f) := by
  unfold pgF
  rw [lookup_putF, if_neg (by decide +kernel), lookup_putF, if_pos rfl]
theorem pg_sts (f s : Addr) : (pgF f s).lookup ("statements" : Str) = some (.ref s) := by
  unfold pgF
  rw [lookup_putF, if_pos rfl]
/-- a list of data that can be changed -/
structure Dx (K : PySem.W.Frag) (G : Hp) (p : Addr) (ds : List PyData) : Prop where
  ex : ∃ xs, G p = some (.lst xs) ∧ DpAll K G xs ds
  sm : smAll ds = true
  le : ds.length ≤ 100000
theorem Dx.up {G G' : Hp} {p : Addr} {ds : List PyData} (h : Dx K G p ds) (e : Ex G G') : Dx K G' p ds := by
  obtain ⟨xs, h1, h2⟩ := h.ex
  exact ⟨⟨xs, e _ _ h1, dpa_ex e h2⟩, h.sm, h.le⟩
theorem Dx.dl {G : Hp} {p : Addr} {ds : List PyData} (h : Dx K G p ds) : Dl K G p ds := by
  obtain ⟨xs, h1, h2⟩ := h.ex
  exact ⟨⟨xs, SqL.of h1, h2⟩, h.sm, h.le⟩
structure FD where
  n : PyData
  p : List PyData
  b : List PyData
/-- a function as an object -/
structure FnAt (K : PySem.W.Frag) (C : Addr) (G : Hp) (a : Addr) (f : FD) : Prop where
  ex : ∃ dx nv q1 q2, G a = some (.ins C dx (fnF nv q1 q2)) ∧ Ds K G nv f.n ∧ Dx K G q1 f.p ∧ Dx K G q2 f.b
theorem FnAt.up {C : Addr} {G G' : Hp} {a : Addr} {f : FD} (h : FnAt K C G a f) (e : Ex G G') : FnAt K C G' a f := by
  obtain ⟨dx, nv, q1, q2, h1, h2, h3, h4⟩ := h.ex
  exact ⟨dx, nv, q1, q2, e _ _ h1, ds_ex h2 e, h3.up e, h4.up e⟩
inductive FnAll (K : PySem.W.Frag) (C : Addr) (G : Hp) : List V → List FD → Prop
  | nil : FnAll K C G [] []
  | cons {a : Addr} {f : FD} {xs : List V} {fs : List FD} : FnAt K C G a f → FnAll K C G xs fs → FnAll K C G (.ref a :: xs) (f :: fs)
theorem FnAll.up {C : Addr} {G G' : Hp} (e : Ex G G') : ∀ {xs : List V} {fs : List FD}, FnAll K C G xs fs → FnAll K C G' xs fs
  | _, _, .nil => .nil
  | _, _, .cons h t => .cons (h.up e) (t.up e)
theorem FnAll.len {C : Addr} {G : Hp} : ∀ {xs : List V} {fs : List FD}, FnAll K C G xs fs → xs.length = fs.length
  | _, _, .nil => rfl
  | _, _, .cons _ t => congrArg (· + 1) t.len
theorem FnAll.get {C : Addr} {G : Hp} : ∀ {xs : List V} {fs : List FD} {i : Nat} {v : V}, FnAll K C G xs fs → xs[i]? = some v → ∃ a f, v = .ref a ∧ fs[i]? = some f ∧ FnAt K C G a f
  | _, _, _, _, .nil, e => by simp at e
  | _, _, 0, _, .cons h _, e => by
    cases Option.some.inj e
    exact ⟨_, _, rfl, rfl, h⟩
  | _, _, i + 1, _, .cons _ t, e => FnAll.get (i := i) t e
theorem FnAll.snoc {C : Addr} {G : Hp} {a : Addr} {f : FD} (k : FnAt K C G a f) : ∀ {xs : List V} {fs : List FD}, FnAll K C G xs fs → FnAll K C G (xs ++ [.ref a]) (fs ++ [f])
  | _, _, .nil => .cons k .nil
  | _, _, .cons h t => .cons h (FnAll.snoc k t)
def stsD (m : Nat) (ds : List PyData) : Bool := decide (ds.length ≤ m) && ds.all stmtD
def fnD (f : FD) : Bool := nameD f.n && (decide (f.p.length ≤ 4) && f.p.all declD) && stsD 12 f.b
/-- a function object that is new, its lists too -/
def NewF (C : Addr) (H H1 : Hp) (v : V) : Prop := ∃ a dx nv q1 q2, v = .ref a ∧ H a = none ∧ H1 a = some (.ins C dx (fnF nv q1 q2)) ∧ H q1 = none ∧ H q2 = none
theorem ex_none {H H1 : Hp} {a : Addr} (e : Ex H H1) (n : H1 a = none) : H a = none := by
  cases z : H a with
  | none => rfl
  | some o =>
    rw [e _ _ z] at n
    cases n
theorem NewF.up {C : Addr} {H H1 H2 : Hp} {v : V} (h : NewF C H H1 v) (e : Ex H1 H2) : NewF C H H2 v := by
  obtain ⟨a, dx, nv, q1, q2, h1, h2, h3, h4, h5⟩ := h
  exact ⟨a, dx, nv, q1, q2, h1, h2, e _ _ h3, h4, h5⟩
theorem NewF.down {C : Addr} {H0 H H1 : Hp} {v : V} (h : NewF C H H1 v) (e : Ex H0 H) : NewF C H0 H1 v := by
  obtain ⟨a, dx, nv, q1, q2, h1, h2, h3, h4, h5⟩ := h
  exact ⟨a, dx, nv, q1, q2, h1, ex_none e h2, h3, ex_none e h4, ex_none e h5⟩
/-- .. also behind a change of another kind of thing -/
theorem NewF.mut {C : Addr} {H H1 : Hp} {v : V} {p : Addr} {xs : List V} {o : HO} (h : NewF C H H1 v) (f : H1 p = some (.lst xs)) : NewF C H (upd H1 p o) v := by
  obtain ⟨a, dx, nv, q1, q2, h1, h2, h3, h4, h5⟩ := h
  have z : a ≠ p := fun z => by
    rw [z, f] at h3
    cases h3
  exact ⟨a, dx, nv, q1, q2, h1, h2, by rw [upd_ne z]; exact h3, h4, h5⟩
theorem NewF.ks {C : Addr} {H H1 H2 : Hp} {v : V} {p : Addr} {o : HO} (h : NewF C H H1 v) (f : H p = some o) (k : Ks [p] H1 H2) : NewF C H H2 v := by
  obtain ⟨a, dx, nv, q1, q2, h1, h2, h3, h4, h5⟩ := h
  have z : a ≠ p := fun z => by
    rw [z, f] at h2
    cases h2
  exact ⟨a, dx, nv, q1, q2, h1, h2, k _ _ (by simpa using z) h3, h4, h5⟩
def pFi (K : PySem.W.Frag) (C : Addr) : Sp := fun vs H Q _ => ∃ S a dx nv pp bp, ∃ f : FD, vs = [.ref a, nv, .ref pp, .ref bp] ∧ Al S H ∧ a ∈ S ∧ H a = some (.ins C dx []) ∧ Ds K (dl S H) nv f.n ∧ Dl K (dl S H) pp f.p ∧ Dl K (dl S H) bp f.b ∧
  ∀ q1 q2 ys1 ys2 H1, Ks [a] H H1 → H q1 = none → H q2 = none → q1 ≠ q2 → H1 a = some (.ins C dx (fnF nv q1 q2)) → H1 q1 = some (.lst ys1) → H1 q2 = some (.lst ys2) → DpAll K (dl S H1) ys1 f.p → DpAll K (dl S H1) ys2 f.b → Q .non H1
def pCf (K : PySem.W.Frag) (C : Addr) : Sp := fun vs H Q _ => ∃ S a f, vs = [.ref a] ∧ Al S H ∧ FnAt K C (dl S H) a f ∧ ∀ b H1, H b = none → Ex H H1 → FnAt K C (dl S H1) b f → NewF C H H1 (.ref b) → Q (.ref b) H1
def pCfs (K : PySem.W.Frag) (C : Addr) : Sp := fun vs H Q _ => ∃ S p xs fs, vs = [.ref p] ∧ Al S H ∧ SqL K (dl S H) p xs ∧ FnAll K C (dl S H) xs fs ∧ fs.length ≤ 100000 ∧ ∀ q ys H1, H q = none → Ex H H1 → H1 q = some (.lst ys) → FnAll K C (dl S H1) ys fs → (∀ v ∈ ys, NewF C H H1 v) → Q (.ref q) H1
def pSts (K : PySem.W.Frag) : Sp := fun vs H Q _ => ∃ p ds m, vs = [.ref p, .int (m : Nat)] ∧ Dl K H p ds ∧ RV1 (.bl (stsD m ds)) H Q
def pIf (K : PySem.W.Frag) (C : Addr) : Sp := fun vs H Q _ => ∃ a f, vs = [.ref a] ∧ FnAt K C H a f ∧ RV1 (.bl (fnD f)) H Q
/-! ## what is declared -/
def letsD (ds : List PyData) : List PyData := (ds.filter fun d => decide (fwD d = "let")).map cut13
theorem lets_snoc (ds : List PyData) (d : PyData) : letsD (ds ++ [d]) = letsD ds ++ (if fwD d = "let" then [cut13 d] else []) := by
  unfold letsD
  rw [List.filter_append, List.map_append]
  by_cases h : fwD d = "let"
  · rw [if_pos h, List.filter_cons_of_pos (by simpa using h)]
    rfl
  · rw [if_neg h, List.filter_cons_of_neg (by simpa using h)]
    rfl
theorem lets_len (ds : List PyData) : (letsD ds).length ≤ ds.length := by
  unfold letsD
  rw [List.length_map]
  exact List.length_filter_le _ _
structure StOk (d : PyData) (ds : List PyData) : Prop where
  e : d = .tuple ds
  ne : 0 < ds.length
  w : nthD (.tuple ds) 0 = .str (fwD d)
  lt : fwD d = "let" → ds.length = 4 ∧ declD (cut13 d) = true
  cl : fwD d = "call" → ds.length = 3 ∧ nameD (nthD d 1) = true ∧ srcsD (nthD d 2) = true
theorem st_ok {d : PyData} (h : stmtD d = true) : ∃ ds, StOk d ds := by
  have hw : fwD d ≠ "" := fun z => by
    unfold stmtD at h
    rw [z, if_neg (by decide), if_neg (by decide)] at h
    rw [decide_eq_false (by decide)] at h
    cases h
  obtain ⟨ds, e, ne⟩ := fw_ne hw
  have hs : tagD (nthD d 0) = "str" := Decidable.byContradiction fun z => hw (fw_no (.inr (.inr z)))
  obtain ⟨x, ex⟩ := tag_str hs
  refine ⟨ds, e, ne, ?_, fun c => ?_, fun c => ?_⟩
  · subst e
    rw [ex, fw_str ne ex]
  · unfold stmtD at h
    rw [if_pos c, Bool.and_eq_true, Bool.and_eq_true] at h
    have h1 := of_decide_eq_true h.1
    subst e
    exact ⟨h1, h.2.1⟩
  · unfold stmtD at h
    rw [c, if_neg (by decide), if_neg (by decide), Bool.and_eq_true, Bool.and_eq_true, Bool.and_eq_true] at h
    have h1 := of_decide_eq_true h.2.1
    subst e
    exact ⟨h1, h.2.2.1, h.2.2.2⟩
structure PrOk (d : PyData) (ds : List PyData) : Prop where
  e : d = .tuple ds
  l : ds.length = 2
  n : nameD (nthD (.tuple ds) 0) = true
theorem pr_ok {d : PyData} (h : declD d = true) : ∃ ds, PrOk d ds := by
  unfold declD at h
  rw [Bool.and_eq_true, Bool.and_eq_true, Bool.and_eq_true] at h
  obtain ⟨ds, rfl⟩ := tag_tup (of_decide_eq_true h.1.1)
  exact ⟨ds, rfl, of_decide_eq_true h.1.2, h.2.1⟩
theorem name_str {d : PyData} (h : nameD d = true) : d = .str (strD d) ∧ (strD d).length ≤ 8 := by
  cases d with
  | str x =>
    refine ⟨rfl, ?_⟩
    have h' : (!decide (x = "null") && (decide (1 ≤ x.length) && decide (x.length ≤ 8)) && x.cps.toList.all sgOk) = true := h
    rw [Bool.and_eq_true, Bool.and_eq_true, Bool.and_eq_true] at h'
    exact of_decide_eq_true h'.1.2.2
  | _ => exact absurd h (by simp [nameD])
def declsF (fs : List FD) : List PyData := fs.flatMap fun f => f.p ++ letsD f.b
def declsD (fs : List FD) (ss : List PyData) : List PyData := declsF fs ++ letsD ss
theorem declsF_snoc (fs : List FD) (f : FD) : declsF (fs ++ [f]) = declsF fs ++ (f.p ++ letsD f.b) := by
  unfold declsF
  rw [List.flatMap_append]
  simp
theorem all_at {α : Type} {p : α → Bool} {xs : List α} {i : Nat} {x : α} (h : xs.all p = true) (e : xs[i]? = some x) : p x = true := List.all_eq_true.mp h x (List.mem_of_getElem? e)
theorem fn_le {f : FD} (h : fnD f = true) : f.p.length ≤ 4 ∧ f.b.length ≤ 12 ∧ nameD f.n = true ∧ f.p.all declD = true ∧ f.b.all stmtD = true := by
  unfold fnD stsD at h
  rw [Bool.and_eq_true, Bool.and_eq_true, Bool.and_eq_true, Bool.and_eq_true] at h
  exact ⟨of_decide_eq_true h.1.2.1, of_decide_eq_true h.2.1, h.1.1, h.1.2.2, h.2.2⟩
theorem lets_ok {ds : List PyData} (h : ds.all stmtD = true) : (letsD ds).all declD = true := by
  rw [List.all_eq_true] at h ⊢
  intro x hx
  unfold letsD at hx
  obtain ⟨d, hd, rfl⟩ := List.mem_map.mp hx
  obtain ⟨h1, h2⟩ := List.mem_filter.mp hd
  obtain ⟨_, o⟩ := st_ok (h d h1)
  exact (o.lt (of_decide_eq_true h2)).2
theorem declsF_le : ∀ {fs : List FD}, fs.all fnD = true → (declsF fs).length ≤ 16 * fs.length
  | [], _ => Nat.le_refl _
  | f :: fs, h => by
    rw [List.all_cons, Bool.and_eq_true] at h
    have h1 := fn_le h.1
    have h2 := declsF_le h.2
    have h3 := lets_len f.b
    unfold declsF at h2 ⊢
    rw [List.flatMap_cons, List.length_append, List.length_append, List.length_cons]
    omega
theorem declsF_ok {fs : List FD} (h : fs.all fnD = true) : (declsF fs).all declD = true := by
  rw [List.all_eq_true] at h ⊢
  intro x hx
  unfold declsF at hx
  obtain ⟨f, hf, hx⟩ := List.mem_flatMap.mp hx
  have h1 := fn_le (h f hf)
  rcases List.mem_append.mp hx with hx | hx
  · exact List.all_eq_true.mp h1.2.2.2.1 x hx
  · exact List.all_eq_true.mp (lets_ok h1.2.2.2.2) x hx
theorem decls_ok {fs : List FD} {ss : List PyData} (h : fs.all fnD = true) (k : ss.all stmtD = true) : (declsD fs ss).all declD = true := by
  unfold declsD
  rw [List.all_append, declsF_ok h, lets_ok k]
  rfl
theorem decls_le {fs : List FD} {ss : List PyData} (h : fs.all fnD = true) (h4 : fs.length ≤ 4) (h40 : ss.length ≤ 40) : (declsD fs ss).length ≤ 104 := by
  have h1 := declsF_le h
  have h2 := lets_len ss
  unfold declsD
  rw [List.length_append]
  omega
theorem a_extend {H : Hp} {Q : VK} {p b : Addr} {xs zs : List V} (h : H p = some (.lst xs)) (k : H b = some (.lst zs)) (hz : xs.length + zs.length ≤ 100000) (q : Q .non (upd H p (.lst (xs ++ zs)))) : rExtend (.ref p) [.ref b] H Q := ⟨p, b, xs, zs, rfl, rfl, h, k, sz_of hz, q⟩
def pLets (K : PySem.W.Frag) : Sp := fun vs H Q _ => ∃ S p ds, vs = [.ref p] ∧ Al S H ∧ Dl K (dl S H) p ds ∧ ds.all stmtD = true ∧ ∀ q ys H1, H q = none → Ex H H1 → H1 q = some (.lst ys) → DpAll K (dl S H1) ys (letsD ds) → Q (.ref q) H1
/-- the parts of a program -/
structure Pg (K : PySem.W.Frag) (C : Addr) (G : Hp) (pf ps : Addr) (fs : List FD) (ss : List PyData) : Prop where
  fx : ∃ xs, SqL K G pf xs ∧ FnAll K C G xs fs
  sx : Dl K G ps ss
  fo : fs.all fnD = true
  so : ss.all stmtD = true
  f4 : fs.length ≤ 4
  s40 : ss.length ≤ 40
theorem Pg.up {C : Addr} {G G' : Hp} {pf ps : Addr} {fs : List FD} {ss : List PyData} (h : Pg K C G pf ps fs ss) (e : Ex G G') : Pg K C G' pf ps fs ss := by
  obtain ⟨xs, h1, h2⟩ := h.fx
  exact ⟨⟨xs, ex_sl h1 e, h2.up e⟩, h.sx.up e, h.fo, h.so, h.f4, h.s40⟩
def pDecl (K : PySem.W.Frag) (C : Addr) : Sp := fun vs H Q _ => ∃ S pf ps fs ss, vs = [.ref pf, .ref ps] ∧ Al S H ∧ Pg K C (dl S H) pf ps fs ss ∧ ∀ q ys H1, H q = none → Ex H H1 → H1 q = some (.lst ys) → DpAll K (dl S H1) ys (declsD fs ss) → Q (.ref q) H1
def namesD (fs : List FD) (ss : List PyData) : List Str := (fs.map fun f => strD f.n) ++ (declsD fs ss).map fun d => strD (nthD d 0)
def kindsD (fs : List FD) (ss : List PyData) : List PyData := (declsD fs ss).map fun d => nthD d 1
def pNames (K : PySem.W.Frag) (C : Addr) : Sp := fun vs H Q _ => ∃ S pf ps fs ss, vs = [.ref pf, .ref ps] ∧ Al S H ∧ Pg K C (dl S H) pf ps fs ss ∧ ∀ q H1, H q = none → Ex H H1 → H1 q = some (.lst ((namesD fs ss).map V.str)) → Q (.ref q) H1
def pKinds (K : PySem.W.Frag) (C : Addr) : Sp := fun vs H Q _ => ∃ S pf ps fs ss, vs = [.ref pf, .ref ps] ∧ Al S H ∧ Pg K C (dl S H) pf ps fs ss ∧ ∀ q ys H1, H q = none → Ex H H1 → H1 q = some (.lst ys) → DpAll K (dl S H1) ys (kindsD fs ss) → Q (.ref q) H1
theorem w_gtupS {σ : L2.St} {H : Hp} {n : Nat} {gs : TGs} {N : L2.St → Hp → Prop} {p : Addr} {xs : List V} (hx : SqT K H p xs) (hn : xs.length = n) (h : gs xs σ H N) : gTup K n gs (.ref p) σ H N := ⟨p, xs, rfl, hx, hn, h⟩
theorem dpa_two {G : Hp} {xs : List V} {ds : List PyData} (h : DpAll K G xs ds) (l : ds.length = 2) : ∃ u v, xs = [u, v] ∧ Dp K G u (nthD (.tuple ds) 0) ∧ Dp K G v (nthD (.tuple ds) 1) := by
  match ds, l, h with
  | [_, _], _, .cons h1 (.cons h2 .nil) => exact ⟨_, _, rfl, h1, h2⟩
theorem ev_le {G : Hp} {xs : List V} {ds : List PyData} (h : DpAll K G xs ds) (l : ds.length ≤ 104) : xs.length ≤ 104 := by rw [dpa_len h]; exact l
def kindD (ds : List PyData) : Bool := ds.all typD || ds.all fun d => numD d 5
def pKind (K : PySem.W.Frag) : Sp := fun vs H Q _ => ∃ p ds, vs = [.ref p] ∧ Dl K H p ds ∧ RV1 (.bl (kindD ds)) H Q
/-! ## calls that fit -/
abbrev Kv := List (Key × V)
def IntK (kvs : Kv) : Prop := ∀ k v, valV kvs k = some v → ∃ i, v = .int i
def fit1 (kvs : Kv) (d : PyData) : Bool := !decide (fwD d = "call") || decide ((valV kvs (Sum.inr (strD (nthD d 1)))).getD .non = .int ((itemsD (nthD d 2)).length : Nat))
def fitD (kvs : Kv) (ss : List PyData) : Bool := ss.all (fit1 kvs)
def putN (kvs : Kv) (f : FD) : Kv := putK kvs (Sum.inr (strD f.n)) (.int (f.p.length : Nat))
def fitF (kvs : Kv) : List FD → List PyData → Bool
  | [], ss => fitD kvs ss
  | f :: fs, ss => fitD kvs f.b && fitF (putN kvs f) fs ss
theorem putN_le (kvs : Kv) (f : FD) : (putN kvs f).length ≤ kvs.length + 1 := by
  unfold putN putK
  split
  · rw [List.length_map]
    exact Nat.le_succ _
  · rw [List.length_append]
    exact Nat.le_refl _
theorem IntK.put {kvs : Kv} (h : IntK kvs) (f : FD) : IntK (putN kvs f) := fun k v e => by
  unfold putN at e
  rw [valV_put] at e
  by_cases z : k = Sum.inr (strD f.n)
  · rw [if_pos z] at e
    exact ⟨_, (Option.some.inj e).symm⟩
  · rw [if_neg z] at e
    exact h k v e
theorem int_scal {kvs : Kv} (h : IntK kvs) (k : Key) (n : Int) : scal ((valV kvs k).getD .non) (.int n) = true := by
  cases e : valV kvs k with
  | none => rfl
  | some v =>
    obtain ⟨i, rfl⟩ := h k v e
    rfl
def pFit (K : PySem.W.Frag) : Sp := fun vs H Q _ => ∃ ps ss m kvs, vs = [.ref ps, .ref m] ∧ Dl K H ps ss ∧ ss.all stmtD = true ∧ H m = some (.dK kvs) ∧ IntK kvs ∧ RV1 (.bl (fitD kvs ss)) H Q
def pFits (K : PySem.W.Frag) (C : Addr) : Sp := fun vs H Q _ => ∃ pf ps fs ss, vs = [.ref pf, .ref ps] ∧ Pg K C H pf ps fs ss ∧ RV1 (.bl (fitF [] fs ss)) H Q
def GetD (ty : TE) (x : V) (σ : L2.St) (H : Hp) (Q : VK) : Prop := ∃ a, x = .ref a ∧ IsD H a ∧ ty σ H fun y H2 => ∃ o, DGet H2 a y o ∧ Q (o.getD .non) H2
theorem w_getD1 {σ : L2.St} {H : Hp} {td ty : TE} {Q : VK} (h : td σ H fun x Ha => GetD ty x σ Ha Q) : tDGet1 td ty σ H Q := h
theorem a_getD {σ : L2.St} {H : Hp} {ty : TE} {Q : VK} {m : Addr} {kvs : Kv} (e : H m = some (.dK kvs)) (h : ty σ H fun y H2 => ∃ o, DGet H2 m y o ∧ Q (o.getD .non) H2) : GetD ty (.ref m) σ H Q := ⟨m, rfl, .inl ⟨kvs, .inl e⟩, h⟩
def PutD (x y v : V) (H : Hp) (N : Hp → Prop) : Prop := ∃ a H4, x = .ref a ∧ DPut H a y v H4 ∧ N H4
theorem w_putD {σ : L2.St} {H : Hp} {td ty tv : TE} {D : Ends} (h : tv σ H fun v Ha => td σ Ha fun x Hb => ty σ Hb fun y Hc => PutD x y v Hc fun Hd => D.nx σ Hd) : sDPut td ty tv D σ H := h
theorem a_putD {H : Hp} {m : Addr} {kvs : Kv} {x : Str} {v : V} {N : Hp → Prop} (e : H m = some (.dK kvs)) (hl : kvs.length < 100000) (k : N (upd H m (.dK (putK kvs (Sum.inr x) v)))) : PutD (.ref m) (.str x) v H N := ⟨m, _, rfl, DPut.k (k := Sum.inr x) e (sz_lt hl), k⟩
theorem dl_nil (H : Hp) : dl [] H = H := by
  funext a
  exact if_neg (by simp)
def nodupD (ss : List Str) : Bool := decide ss.Nodup
def pDiff (K : PySem.W.Frag) : Sp := fun vs H Q _ => ∃ p ss, vs = [.ref p] ∧ SqL K H p (ss.map V.str) ∧ ss.length ≤ 200 ∧ (∀ s ∈ ss, s.length ≤ 8) ∧ RV1 (.bl (nodupD ss)) H Q
def progD (fs : List FD) (ss : List PyData) : Bool := decide (fs.length ≤ 4) && fs.all fnD && stsD 40 ss && (nodupD (namesD fs ss) && kindD (kindsD fs ss) && fitF [] fs ss)
def pIp (K : PySem.W.Frag) (C : Addr) : Sp := fun vs H Q _ => ∃ pf ps xs fs ss, vs = [.ref pf, .ref ps] ∧ SqL K H pf xs ∧ FnAll K C H xs fs ∧ fs.length ≤ 100000 ∧ Dl K H ps ss ∧ RV1 (.bl (progD fs ss)) H Q
/-! ## the error -/
def pRe (C : Addr) : Sp := fun vs H Q _ => ∃ a r, vs = [.ref a, .str r] ∧ H a = some (exo a C none) ∧ ∀ dx, H dx = none → dx ≠ a → Q .non (upd (upd H dx (exd dx [("reason", .str r)])) a (exo a C (some dx)))
def VeI (K : PySem.W.Frag) (vs : List V) (H : Hp) (Q : VK) : Prop := ∃ (a C : Addr) (ws : List V), vs = .ref a :: ws ∧ ws.length ≤ 1000 ∧ OexC K C ∧ H a = some (exo a C none) ∧ Q .non H
theorem w_veI {σ : L2.St} {H : Hp} {ta : TA} {Q : VK} (h : ta σ H fun vs Ha => VeI K vs Ha Q) : tVeI K ta σ H Q := h
def OstI (K : PySem.W.Frag) (f : Str) (x y : V) (H : Hp) (N : Hp → Prop) : Prop := ∃ a C : Addr, x = .ref a ∧ OexC K C ∧ PySem.W.findIn K (.ref C) f = some none ∧
  ((H a = some (exo a C none) ∧ ∀ dx, H dx = none → dx ≠ a → N (upd (upd H dx (exd dx [(f, y)])) a (exo a C (some dx)))) ∨
    ∃ (dx : Addr) (fs : List (Str × V)), H a = some (exo a C (some dx)) ∧ H dx = some (exd dx fs) ∧ fs.length ≤ 900 ∧ N (upd H dx (exd dx ((f, y) :: fs))))
theorem w_ostI {σ : L2.St} {H : Hp} {f : Str} {to te : TE} {D : Ends} (h : te σ H fun y Ha => to σ Ha fun x Hb => OstI K f x y Hb fun Hc => D.nx σ Hc) : tOst K f to te D σ H := h
def MkO (C : Addr) (sp : Sp) (vs : List V) (H : Hp) (Q : XK) : Prop := vs.length ≤ 1000 ∧ ∀ a, H a = none → sp (.ref a :: vs) (upd H a (exo a C none))
  (fun v H2 => v = .non ∧ ∃ (d : Addr) (fs : List (Str × V)), H2 a = some (exo a C (some d)) ∧ H2 d = some (exd d fs) ∧ H d = none ∧ Q (.ref C) (some d) (upd (del H2 a) d (.xd fs))) (fun _ _ _ => False)
theorem w_mkO {σ : L2.St} {H : Hp} {C : Addr} {sp : Sp} {ta : TA} {Q : XK} (h : ta σ H fun vs Ha => MkO C sp vs Ha Q) : tMkO C sp [] ta σ H Q := by
  have e : (fun vs Ha => MkO C sp vs Ha Q) = fun (vs : List V) H1 => vs.length ≤ 1000 ∧ ∀ a, H1 a = none → sp (.ref a :: (vs ++ [])) (upd H1 a (exo a C none))
      (fun v H2 => v = .non ∧ ∃ (d : Addr) (fs : List (Str × V)), H2 a = some (exo a C (some d)) ∧ H2 d = some (exd d fs) ∧ H1 d = none ∧ Q (.ref C) (some d) (upd (del H2 a) d (.xd fs))) (fun _ _ _ => False) := by
    funext vs Ha
    rw [List.append_nil]
    rfl
  show ta σ H fun vs H1 => vs.length ≤ 1000 ∧ ∀ a, H1 a = none → sp (.ref a :: (vs ++ [])) (upd H1 a (exo a C none))
      (fun v H2 => v = .non ∧ ∃ (d : Addr) (fs : List (Str × V)), H2 a = some (exo a C (some d)) ∧ H2 d = some (exd d fs) ∧ H1 d = none ∧ Q (.ref C) (some d) (upd (del H2 a) d (.xd fs))) (fun _ _ _ => False)
  rw [← e]
  exact h
/-- what a made error leaves behind -/
theorem mko_re {C : Addr} {r : Str} {H : Hp} {Q : XK} (k : ∀ d H1, H d = none → Ex H H1 → H1 d = some (.xd [("reason", .str r)]) → Q (.ref C) (some d) H1) : MkO C (pRe C) [.str r] H Q := by
  refine ⟨(show 1 ≤ 1000 by decide), fun a na => ⟨a, r, rfl, upd_same, fun dx n ne => ⟨rfl, dx, [("reason", .str r)], upd_same, by rw [upd_ne ne, upd_same], by rw [upd_ne ne] at n; exact n, ?_⟩⟩⟩
  have nd : H dx = none := by rw [upd_ne ne] at n; exact n
  refine k dx _ nd (fun b o e => ?_) upd_same
  have b1 : b ≠ dx := ne_of_none e nd
  have b2 : b ≠ a := ne_of_none e na
  rw [upd_ne b1, del_ne b2, upd_ne b2, upd_ne b1, upd_ne b2]
  exact e
def pPi (K : PySem.W.Frag) (C CF CE : Addr) : Sp := fun vs H Q E => ∃ S a dx pf ps xs fs ss, vs = [.ref a, .ref pf, .ref ps] ∧ Al S H ∧ a ∈ S ∧ H a = some (.ins C dx []) ∧ SqL K (dl S H) pf xs ∧ FnAll K CF (dl S H) xs fs ∧ fs.length ≤ 100000 ∧ Dl K (dl S H) ps ss ∧
  (progD fs ss = true → ∀ q1 q2 ys1 ys2 H1, Ks [a] H H1 → H q1 = none → H q2 = none → H1 a = some (.ins C dx (pgF q1 q2)) → H1 q1 = some (.lst ys1) → FnAll K CF (dl S H1) ys1 fs → (∀ v ∈ ys1, NewF CF H H1 v) → H1 q2 = some (.lst ys2) → DpAll K (dl S H1) ys2 ss → Q .non H1) ∧
  (progD fs ss = false → ∀ d H1, Ks [a] H H1 → H d = none → H1 d = some (.xd [("reason", .str "no program")]) → E (.ref CE) (some d) H1)
theorem pi_keep {C : Addr} {n1 : Str} {H1 H2 : Hp} (S : List Addr) (e : Ex H1 H2) : Ex (dl S H1) (dl S H2) := dl_ex e
theorem sts_le {m : Nat} {ss : List PyData} (h : stsD m ss = true) : ss.length ≤ m ∧ ss.all stmtD = true := by
  unfold stsD at h
  rw [Bool.and_eq_true] at h
  exact ⟨of_decide_eq_true h.1, h.2⟩
theorem FnAll.ref {C : Addr} {G : Hp} {xs : List V} {fs : List FD} (h : FnAll K C G xs fs) : True := trivial
theorem kinds_sm {fs : List FD} {ss : List PyData} (h : smAll (declsD fs ss) = true) (o : (declsD fs ss).all declD = true) : smAll (kindsD fs ss) = true := by
  unfold kindsD
  revert h o
  induction declsD fs ss with
  | nil => intro _ _; rfl
  | cons d ds ih =>
    intro h o
    have h' := (Bool.and_eq_true _ _ ▸ h : smD d = true ∧ smAll ds = true)
    rw [List.all_cons, Bool.and_eq_true] at o
    obtain ⟨es, p⟩ := pr_ok o.1
    have h2 : smD d = true := h'.1
    rw [p.e] at h2
    have h3 := (Bool.and_eq_true _ _ ▸ h2 : decide (es.length ≤ 100000) = true ∧ smAll es = true)
    show (smD (nthD d 1) && smAll (ds.map fun d => nthD d 1)) = true
    rw [ih h'.2 o.2, p.e, sm_at h3.2 (nthD_get (by rw [p.l]; decide))]
    rfl
theorem sm_app : ∀ {xs ys : List PyData}, smAll xs = true → smAll ys = true → smAll (xs ++ ys) = true
  | [], _, _, h => h
  | a :: as, ys, h, g => by
    have h' := (Bool.and_eq_true _ _ ▸ h : smD a = true ∧ smAll as = true)
    show (smD a && smAll (as ++ ys)) = true
    rw [h'.1, sm_app h'.2 g]
    rfl
theorem sm_lets : ∀ {ss : List PyData}, smAll ss = true → ss.all stmtD = true → smAll (letsD ss) = true
  | [], _, _ => rfl
  | d :: ds, h, o => by
    have h' := (Bool.and_eq_true _ _ ▸ h : smD d = true ∧ smAll ds = true)
    rw [List.all_cons, Bool.and_eq_true] at o
    have ih := sm_lets h'.2 o.2
    unfold letsD at ih ⊢
    by_cases c : fwD d = "let"
    · rw [List.filter_cons_of_pos (by simpa using c), List.map_cons]
      obtain ⟨es, p⟩ := st_ok o.1
      have h2 : smD d = true := h'.1
      rw [p.e] at h2
      have h3 := (Bool.and_eq_true _ _ ▸ h2 : decide (es.length ≤ 100000) = true ∧ smAll es = true)
      show (smD (cut13 d) && smAll _) = true
      rw [ih, p.e]
      have : smD (cut13 (.tuple es)) = true := sm_tup (sm_take 2 (sm_drop 1 h3.2)) (by rw [List.length_take]; omega)
      rw [this]
      rfl
    · rw [List.filter_cons_of_neg (by simpa using c)]
      exact ih
theorem fn_sm {C : Addr} {G : Hp} : ∀ {xs : List V} {fs : List FD}, FnAll K C G xs fs → fs.all fnD = true → smAll (declsF fs) = true
  | _, _, .nil, _ => rfl
  | _, _, .cons (f := f) (fs := fs) h t, o => by
    rw [List.all_cons, Bool.and_eq_true] at o
    obtain ⟨_, _, _, _, _, _, hp, hb⟩ := h.ex
    have ih := fn_sm t o.2
    unfold declsF at ih ⊢
    rw [List.flatMap_cons]
    exact sm_app (sm_app hp.sm (sm_lets hb.sm (fn_le o.1).2.2.2.2)) ih
theorem names_le {fs : List FD} {ss : List PyData} (h : fs.all fnD = true) (h4 : fs.length ≤ 4) (h40 : ss.length ≤ 40) : (namesD fs ss).length ≤ 200 := by
  have h1 := decls_le h h4 h40
  unfold namesD
  rw [List.length_append, List.length_map, List.length_map]
  omega
theorem names_s {fs : List FD} {ss : List PyData} (h : fs.all fnD = true) (k : ss.all stmtD = true) : ∀ s ∈ namesD fs ss, s.length ≤ 8 := fun s hs => by
  unfold namesD at hs
  rcases List.mem_append.mp hs with hs | hs
  · obtain ⟨f, hf, rfl⟩ := List.mem_map.mp hs
    exact (name_str (fn_le (List.all_eq_true.mp h f hf)).2.2.1).2
  · obtain ⟨d, hd, rfl⟩ := List.mem_map.mp hs
    obtain ⟨es, o⟩ := pr_ok (List.all_eq_true.mp (decls_ok h k) d hd)
    rw [o.e]
    exact (name_str o.n).2
end
end Ver

set_option Elab.async false
set_option linter.all false
set_option maxRecDepth 100000
set_option maxHeartbeats 4000000
namespace Ver
open PySem PySem.Spec PyProof.Rows
/-! ## how many different texts a list has: len(set(xs)) -/
abbrev eS (b : Bool) : Obj := { cls := .type "set", dict := none, data := .set #[] 0 (.fresh 0 0 b) }
def nth (xs : List Str) (i : Nat) : Str := xs.getD i Str.empty
/-- the texts met before place i, each once -/
def fm (xs : List Str) : Nat → List Str
  | 0 => []
  | i + 1 => if nth xs i ∈ fm xs i then fm xs i else fm xs i ++ [nth xs i]
theorem fm_le (xs : List Str) : ∀ i, (fm xs i).length ≤ i
  | 0 => Nat.le_refl _
  | i + 1 => by
    have h := fm_le xs i
    unfold fm
    split
    · omega
    · rw [List.length_append, List.length_singleton]
      omega
theorem fm_mem (xs : List Str) (i : Nat) (k : Str) : decide (k ∈ fm xs (i + 1)) = (decide (k ∈ fm xs i) || decide (k = nth xs i)) := by
  have e : fm xs (i + 1) = if nth xs i ∈ fm xs i then fm xs i else fm xs i ++ [nth xs i] := rfl
  rw [e]
  by_cases h : nth xs i ∈ fm xs i
  · rw [if_pos h]
    by_cases z : k = nth xs i
    · subst z
      simp [h]
    · simp [z]
  · rw [if_neg h]
    simp [List.mem_append]
theorem fm_num (xs : List Str) (i : Nat) : (fm xs (i + 1)).length = if decide (nth xs i ∈ fm xs i) = true then (fm xs i).length else (fm xs i).length + 1 := by
  have e : fm xs (i + 1) = if nth xs i ∈ fm xs i then fm xs i else fm xs i ++ [nth xs i] := rfl
  rw [e]
  by_cases h : nth xs i ∈ fm xs i
  · rw [if_pos h, if_pos (decide_eq_true h)]
  · rw [if_neg h, if_neg (by simpa using h), List.length_append, List.length_singleton]
theorem nth_eq {xs : List Str} {i : Nat} (h : i < xs.length) : nth xs i = xs[i] := by
  unfold nth
  rw [List.getD_eq_getElem?_getD, List.getElem?_eq_getElem h]
  rfl
theorem fm_take (xs : List Str) : ∀ i, i ≤ xs.length → (∀ k, k ∈ fm xs i ↔ k ∈ xs.take i) ∧ ((fm xs i).length = i ↔ (xs.take i).Nodup)
  | 0, _ => ⟨fun k => by simp [fm], by simp [fm]⟩
  | i + 1, h => by
    have hi : i < xs.length := h
    obtain ⟨h1, h2⟩ := fm_take xs i (Nat.le_of_lt hi)
    have et : xs.take (i + 1) = xs.take i ++ [nth xs i] := by
      rw [nth_eq hi]
      exact take_snoc (List.getElem?_eq_getElem hi)
    have hl := fm_le xs i
    constructor
    · intro k
      have a := fm_mem xs i k
      have b : k ∈ fm xs (i + 1) ↔ (k ∈ fm xs i ∨ k = nth xs i) := by
        by_cases z : k ∈ fm xs (i + 1) <;> by_cases y : k ∈ fm xs i <;> by_cases x : k = nth xs i <;> simp_all
      rw [b, et, List.mem_append, List.mem_singleton, h1 k]
    · rw [fm_num, et, List.nodup_append]
      by_cases z : nth xs i ∈ fm xs i
      · rw [if_pos (decide_eq_true z)]
        constructor
        · intro y
          omega
        · intro y
          exact absurd rfl (y.2.2 _ ((h1 _).mp z) _ (by simp))
      · rw [if_neg (by simpa using z)]
        constructor
        · intro y
          refine ⟨h2.mp (by omega), by simp, fun a ha b hb e => ?_⟩
          rw [List.mem_singleton] at hb
          rw [e, hb] at ha
          exact z ((h1 _).mpr ha)
        · intro y
          have := h2.mpr y.1
          omega
theorem fm_nodup (xs : List Str) : decide (((fm xs xs.length).length : Int) = (xs.length : Int)) = nodupD xs := by
  have h := (fm_take xs xs.length (Nat.le_refl _)).2
  rw [List.take_length] at h
  unfold nodupD
  by_cases z : xs.Nodup
  · rw [decide_eq_true z, decide_eq_true (by have := h.mpr z; omega)]
  · rw [decide_eq_false z, decide_eq_false (fun y => z (h.mp (by omega)))]
section
variable {P : Program} {w : World} {B : Around} {R : Result → Shared → Prop} {J : Addr} {fp wr : List Addr} {G : Array GenState → Array GenState → Prop} {n : Nat} {Pv : Nat → Value → Prop} {St : Nat → Shared → Prop}
theorem loop_txt (W : WalksS P w B.in1 J fp wr G n Pv St) (D : Addr) (nf : D ∉ fp) (xs : List Str) (small : n + 1 < scanBound) (hv : ∀ i v, Pv i v → ∃ t, v = .str (nth xs i) t) :
    ∀ (m i : Nat) (s0 : Shared), n - i = m → i ≤ n → St i s0 → s0.heap.SetOf (strKind P w) D (fun k => decide (k ∈ fm xs i)) (fm xs i).length →
      (∀ s1, Moved (D :: wr) G s0 s1 → s1.heap.SetOf (strKind P w) D (fun k => decide (k ∈ fm xs n)) (fm xs n).length → R (.ok (.ret .none)) s1) →
      codeAny (model P w) B (.builtin "set.update.loop" ⟨[.ref D, .ref J], []⟩) R s0 := by
  have nw : D ∉ wr := fun z => nf (W.sub _ z)
  have up : ∀ b ∈ wr, b ∈ D :: wr := fun b z => List.mem_cons_of_mem _ z
  intro m
  induction m with
  | zero =>
    intro i s0 hm hi hst hD hR
    obtain rfl : i = n := by omega
    refine codeAny_builtin F.entry_set_update_loop ?_
    rw [Around.under_plainId F.plain_set_update_loop _]
    show wpAny _ B.in1 (pyNext (.ref J) >>= _) _ _ s0
    refine wpAny_bind (W.done s0 _ _ hst fun s1 mv => ?_)
    show wpAny _ B.in1 (ret Value.none) _ _ s1
    obtain ⟨o, es, ep, tb, ho, rest⟩ := hD
    exact wpAny_pure (hR s1 (mv.mono up) ⟨o, es, ep, tb, mv.heap D _ nw ho, rest⟩)
  | succ m ih =>
    intro i s0 hm hi hst hD hR
    have lt : i < n := by omega
    refine codeAny_builtin F.entry_set_update_loop ?_
    rw [Around.under_plainId F.plain_set_update_loop _]
    show wpAny _ B.in1 (pyNext (.ref J) >>= _) _ _ s0
    refine wpAny_bind (W.item i s0 _ _ lt hst fun v s1 pv st1 mv => ?_)
    obtain ⟨t, rfl⟩ := hv i v pv
    have hD1 : s1.heap.SetOf (strKind P w) D (fun k => decide (k ∈ fm xs i)) (fm xs i).length := by
      obtain ⟨o, es, ep, tb, ho, rest⟩ := hD
      exact ⟨o, es, ep, tb, mv.heap D _ nw ho, rest⟩
    show wpAny _ B.in1 (holding [Value.str (nth xs i) t] (setAdd D (.str (nth xs i) t)) >>= _) _ _ s1
    refine wpAny_bind (wpAny_holding ?_)
    unfold setAdd
    refine wpAny_holding (wpAny_bind ((strKind P w).pyHash (k := nth xs i) (strKind_is _ _ _ _) ?_))
    have room := fm_le xs i
    refine wpAny_setAddHashed_of (knd := strKind P w) (s := { s1 with toks := s1.toks + 1 }) (strKind_is _ _ _ _) rfl hD1 (by omega) fun h2 sb hD2 => ?_
    have hD3 : h2.SetOf (strKind P w) D (fun k => decide (k ∈ fm xs (i + 1))) (fm xs (i + 1)).length := SetOf_congr hD2 (fun k => (fm_mem xs i k).symm) (fm_num xs i).symm
    refine wpAny_pure ⟨plainId_quiet F.plain_set_update_loop _, ih (i + 1) _ (by omega) lt (W.frame _ s1 _ _ st1 (Nat.le_succ _) fun b hb o e => ?_) hD3 fun s2 mv2 hD4 => ?_⟩
    · rw [sb.2 b fun z : b = D => nf (by rw [← z]; exact hb)]
      exact e
    · refine hR s2 (Moved.trans W.gtrans ((mv.mono up).then_heap (Nat.le_succ _) fun b o hb e => ?_) mv2) hD4
      rw [sb.2 b fun z : b = D => hb (by rw [z]; exact List.mem_cons_self)]
      exact e
end
section
variable {P : Program} {w : World} {B : Around} {E : Value → Shared → Prop} {s0 : Shared}
set_option maxHeartbeats 8000000 in
theorem set_txt {l : Addr} {its : Array Value} {xs : List Str} {Q : Value → Shared → Prop} (nh : B.handled = none) (li : s0.heap.IsList l its) (ar : StrsAre its.toList xs) (small : its.size + 1 < scanBound)
    (k : ∀ (h1 : Heap) (tk : Nat), h1.SetOf (strKind P w) s0.heap.objs.size (fun x => decide (x ∈ fm xs its.size)) (fm xs its.size).length → (∀ b o, b < s0.heap.objs.size → s0.heap.get? b = some o → h1.get? b = some o) →
      Q (.ref s0.heap.objs.size) { s0 with heap := h1, toks := tk }) : wpAny (model P w) B (call (.type "set") [.ref l]) Q E s0 := by
  obtain ⟨c, tl, hmro⟩ := PySem.F.called_set.mro
  have m1 := PySem.F.called_set.made
  have m2 := PySem.F.called_set.sub
  refine wpAny_call (codeAny_of_tree ?_)
  show wpAny _ _ (callAny (.type "set") _) _ _ _
  refine wpAny_pure ⟨Code.quiet_builtin _ (by decide +kernel), codeAny_builtin PySem.F.entry_type_call ?_⟩
  rw [Around.under_plain (weight_type_call_type "set" [.ref l] []) rfl]
  have m3 := PySem.F.called_set.notType
  have m4 := PySem.F.called_set.canCreate
  have m5 := PySem.F.typeCall_set_1 (.ref l)
  repeat (any_goals (first | assumption | wp_step))
  refine codeAny_mono (code_set_new_1 (.ref l) (E := E) (Q₁ := fun v z => ∃ b : Bool, v = .ref s0.heap.objs.size ∧ z = { s0 with heap := s0.heap.push (eS b) }) fun b => ⟨b, rfl, rfl⟩) fun r z hz => ?_
  match r, hz with
  | .error e, hz => exact hz
  | .ok (.ret v), hz =>
    obtain ⟨b, rfl, rfl⟩ := hz
    have at0 : (s0.heap.push (eS b)).get? s0.heap.objs.size = some (eS b) := Heap.get?_push_size _ rfl
    have ty0 : Shared.TypeIs { s0 with heap := s0.heap.push (eS b) } (.ref s0.heap.objs.size) "set" := ⟨_, at0, rfl⟩
    have i1 := PySem.F.called_set.init.lookup
    have i2 := PySem.F.called_set.init.bind (.ref s0.heap.objs.size)
    repeat (any_goals (first | assumption | wp_step))
    refine codeAny_mono (codeAny_call_builtin (R := wants (fun r z => r = .none ∧ ∃ h1 tk, z = { s0 with heap := h1, toks := tk } ∧ h1.SetOf (strKind P w) s0.heap.objs.size (fun x => decide (x ∈ fm xs its.size)) (fm xs its.size).length ∧
      (∀ b o, b < s0.heap.objs.size → s0.heap.get? b = some o → h1.get? b = some o)) E) PySem.F.called_set.init.plain PySem.F.entry_set_init (check_set_init_1 ty0 ?_)) fun r2 z2 hz2 => ?_
    · obtain ⟨⟨lc, ld, lt, ls⟩, lo, c1, ln, c2⟩ := li
      simp only at c1 c2
      subst c1
      subst c2
      have lo' : (s0.heap.push (eS b)).get? l = some { cls := .type "list", dict := ld, data := .seq its ln, slots := ls } := Heap.get?_push_of_some _ lo
      have n1 := PySem.F.sub_list_set
      have n2 := PySem.F.sub_list_frozenset
      have n3 : (Value.type "list" == Value.type "dict") = false := by decide
      have li1 : (s0.heap.push (eS b)).IsList l its := ⟨_, lo', rfl, ln, rfl⟩
      unfold Builtin.«set.__init__» noKeywords Builtin.Frozenset.updateFrom
      generalize pz : pyIter = PZ
      wp_walk
      subst pz
      refine wpAny_pyIter_list li1 (wpAny_bind (wpAny_runValue ?_))
      have lLt : l < s0.heap.objs.size := Heap.lt_size lo
      have nh3 : B.in1.in1.in1.handled = none := by simp [nh]
      have lNe : l ≠ (s0.heap.push (eS b)).objs.size := by
        rw [Heap.size_push]
        exact Nat.ne_of_lt (Nat.lt_succ_of_lt lLt)
      have sNin : s0.heap.objs.size ∉ [(s0.heap.push (eS b)).objs.size, l] := by
        rw [Heap.size_push]
        simp only [List.mem_cons, List.mem_singleton, List.not_mem_nil, or_false, not_or]
        exact ⟨Nat.ne_of_lt (Nat.lt_succ_self _), Nat.ne_of_gt lLt⟩
      refine loop_txt ((Walks.list nh3 _ l lNe its).toS) s0.heap.objs.size sNin xs small (fun i v q => SS.strs_at ar i v (by rw [Array.getElem?_toList]; exact q)) (its.size - 0) 0 _ (by omega) (Nat.zero_le _) ⟨⟨_, Heap.get?_push_size _ rfl, rfl, rfl⟩, (li1.push _)⟩ ?setA ?setB
      case setA =>
        have at1 : ((s0.heap.push (eS b)).push { cls := .type "list_iterator", data := .fields #[.ref l, .int 0 0] }).get? s0.heap.objs.size = some (eS b) := Heap.get?_push_of_some _ at0
        exact SetOf_congr ((setObjOf_fresh (knd := strKind P w) b).setOf at1 (by unfold scanBound; omega)) (fun _ => by simp [fm]) rfl
      case setB =>
        rintro ⟨h1, g1, d1, tk1, os1⟩ mv hD
        obtain rfl : g1 = s0.gens := mv.gens
        obtain rfl : d1 = s0.drawn := mv.drawn
        obtain rfl : os1 = s0.os := mv.os
        show wpAny _ _ _ _ _ _
        refine wpAny_pure ?_
        show wpAny _ _ (ret Value.none) _ _ _
        refine wpAny_pure ⟨rfl, h1, tk1, rfl, hD, fun b o hb e => mv.heap b o ?_ (Heap.get?_push_of_some _ (Heap.get?_push_of_some _ e))⟩
        rw [Heap.size_push]
        simp only [List.mem_cons, List.mem_singleton, List.not_mem_nil, or_false, not_or]
        exact ⟨Nat.ne_of_lt hb, Nat.ne_of_lt (Nat.lt_succ_of_lt hb)⟩
    · match r2, hz2 with
      | .error e, hz2 => exact hz2
      | .ok (.ret v2), hz2 =>
        obtain ⟨rfl, h1, tk, rfl, hD, kp⟩ := hz2
        repeat (any_goals (first | assumption | wp_step))
        exact k _ _ hD kp
      | .ok .next, hz2 => exact hz2.elim
      | .ok .brk, hz2 => exact hz2.elim
      | .ok .cont, hz2 => exact hz2.elim
  | .ok .next, hz => exact hz.elim
  | .ok .brk, hz => exact hz.elim
  | .ok .cont, hz => exact hz.elim
end
end Ver
namespace L2
open PySem PySem.Spec PyProof.Rows
section
variable {X : Cx} {CX : CXT} {k : Nat} {f C : Addr} {fd : FuncData} {ps : List Str} {sp : Sp} {E : St → XK} {x : Str} {p1 p2 : Pos} {e : Expr} {es : List Expr} {t : TA}
/-- C(..) that may raise: the wish is taken at the slots -/
def tMakeS (C : Addr) (sp : Sp) (E : St → XK) (t : TA) : TE := fun σ H Q => t σ H fun vs Ha => ∀ y dy, Ha y = none → Ha dy = none → dy ≠ y →
  sp (.ref y :: vs) (upd (upd Ha dy (.own y)) y (.ins C dy [])) (fun v Hb => v = .non ∧ Q (.ref y) Hb) (E σ)
theorem run_mkS {pins : List (Addr × Obj)} {σ : St} {H : Hp} {s0 : Shared} {Q : VK} {us : List Value} {vs : List V} (M : Mk X.K C f) (F : FnOk X.prog X.w X.K X.mg X.base CX k f fd ps sp) (room : Room (k + 1) X.A) (bd : Binds X.K fd ps [])
    (out : PassesAt CX X σ (E σ)) (I : Inv X pins σ H s0) (rv : Vals vs us) (h : ∀ y dy, H y = none → H dy = none → dy ≠ y → sp (.ref y :: vs) (upd (upd H dy (.own y)) y (.ins C dy [])) (fun v Hb => v = .non ∧ Q (.ref y) Hb) (E σ)) :
    wpAny (model X.prog X.w) X.A (call (.ref C) us) (EP X pins σ Q) X.xe s0 := by
  have want := h (s0.heap.objs.size + 1) s0.heap.objs.size (I.hok.fresh (Nat.le_succ _)) (I.hok.fresh (Nat.le_refl _)) (Nat.ne_of_lt (Nat.lt_succ_self _))
  have Im := Inv.made (C := C) I
  have rv2 : Vals (V.ref (s0.heap.objs.size + 1) :: vs) (Value.ref (s0.heap.objs.size + 1) :: us) := .cons rfl rv
  have same : (Value.ref (s0.heap.objs.size + 1) :: us).length = ps.length := by
    have e := rv2.length
    rw [F.len _ _ _ _ want] at e
    exact e.symm
  have bd2 := bd _ (Value.ref (s0.heap.objs.size + 1) :: us) Im.kIn (by rw [List.append_nil]; exact same)
  rw [List.append_nil] at bd2
  refine wpAny_call (make_map (f := f) I.kIn M.makes M.init (beq_iff_eq.mp M.fn) (codeAny_mono (F.run _ X.stack _ _ ⟨Value.ref (s0.heap.objs.size + 1) :: us, []⟩ _ _ _ (E σ) (room.make C us []) (Im.env0.make C us []) bd2 rv2 want) fun r s1 got => ?_))
  match r, got with
  | .error er, got => exact out pins _ _ er s1 Im got
  | .ok (.ret u), got =>
    obtain ⟨v, Hb, I3, rz, ev, q⟩ := Im.after got
    subst ev
    exact ⟨rz, ⟨V.ref (s0.heap.objs.size + 1), Hb, I3, rfl, q⟩⟩
  | .ok .next, got => exact got.elim
  | .ok .brk, got => exact got.elim
  | .ok .cont, got => exact got.elim
theorem pe_makeS (M : Mk X.K C f) (F : FnOk X.prog X.w X.K X.mg X.base CX k f fd ps sp) (room : Room (k + 1) X.A) (gl : Gl X x) (mg : X.mg x = some (.ref C)) (bd : Binds X.K fd ps []) (out : ∀ σ, PassesAt CX X σ (E σ)) (ha : PA X (e :: es) t)
    (nd : (x == ("__debug__" : Str)) = false := by decide) (he : starEach (e :: es) X.env = (false, eval e X.env) :: starEach es X.env := by rfl) (hp : (backTo p2 (starEach es X.env)).any (·.1) = false := by rfl) :
    PE X (.Call (.Name x p1) (e :: es) [] p2) (tMakeS C sp E t) := by
  refine ⟨fun pins s0 σ H Q I h => wpAny_Call_Name_kw (ld_glob I gl mg ?_ nd)⟩
  refine PySem.W.callWith_K (h₀ := X.base) I.ok.mod.kin M.kp (thn (ha.run p2 pins s0 σ H _ I h) fun us s1 ⟨vs, Ha, I1, rv, q⟩ => ⟨I1.kIn, ?_⟩) he hp
  exact run_mkS M F room bd (out σ) I1 rv q
end
/-- len(set(xs)), xs a list of texts -/
def tSetN (K : PySem.W.Frag) (ta : TE) : TE := fun σ H Q => ta σ H fun x Ha => ∃ l, ∃ xs : List Str, x = .ref l ∧ SqL K Ha l (xs.map V.str) ∧ xs.length ≤ 1000 ∧ Q (.int (Ver.fm xs xs.length).length) Ha
theorem pe_setN {X : Cx} {a : Expr} {ta : TE} {p1 p2 p3 p4 : Pos} (hc : X.calm = true) (g1 : Gl X "len") (m1 : X.mg "len" = none) (g2 : Gl X "set") (m2 : X.mg "set" = none) (ha : PE X a ta)
    (na : starEach [a] X.env = (false, eval a X.env) :: starEach [] X.env := by rfl) : PE X (.Call (.Name "len" p1) [.Call (.Name "set" p2) [a] [] p3] [] p4) (tSetN X.K ta) := by
  refine ⟨fun pins s0 σ H Q I h => Call_ (ld_blt I g1 m1 boot_len ?_)⟩
  refine PyProof.Rows.callWith_builtin1 (PyProof.Rows.args_cons (Call_ (ld_blt I g2 m2 boot_set ?_)) rfl) rfl rfl
  refine PyProof.Rows.callWith_type1 (PyProof.Rows.args_cons (thn (ha.run pins s0 σ H _ I h) fun v s1 ⟨x, Ha, I1, rx, l, xs, ex, hL, hz, q⟩ => PyProof.Rows.args_nil ?_) na) na rfl
  subst ex
  cases rx
  obtain ⟨its, rv, li, _⟩ := I1.list hL
  have el : its.toArray.size = xs.length := by rw [List.size_toArray, ← rv.length, List.length_map]
  have sb : its.toArray.size + 1 < scanBound := by
    rw [el]
    unfold scanBound
    omega
  refine Ver.set_txt (I1.ok.hd hc) li.isList (by simpa using strsAre_of rv) sb fun h1 tk hD kp => PyProof.Rows.args_nil ?_
  rw [el] at hD
  obtain ⟨o, es, ep, t, ho, hx, hd, _, _, _, hf, hn⟩ := hD
  have I2 : Inv X pins σ Ha { s1 with heap := h1, toks := tk } := I1.kept fun b o e => kp b o (Heap.lt_size e) e
  have le := Ver.fm_le xs xs.length
  exact call_len_set ho hx hd hf (by rw [hn]; omega) ⟨.int (Ver.fm xs xs.length).length, Ha, I2.tok _, ⟨_, by rw [hn]⟩, q⟩
end L2
namespace Ver
open PySem PySem.Spec PyProof.Rows L2 Evl
theorem setNK (K : PySem.W.Frag) {X : Cx} {a : Expr} {ta : TE} {p1 p2 p3 p4 : Pos} (hc : X.calm = true) (g1 : Gl X "len") (m1 : X.mg "len" = none) (g2 : Gl X "set") (m2 : X.mg "set" = none) (ha : PE X a ta)
    (na : starEach [a] X.env = (false, eval a X.env) :: starEach [] X.env := by rfl) (h : X.K = K := by rfl) : PE X (.Call (.Name "len" p1) [.Call (.Name "set" p2) [a] [] p3] [] p4) (tSetN K ta) := by
  subst h
  exact pe_setN hc g1 m1 g2 m2 ha na
end Ver
namespace Ver
open PySem PySem.Spec PyProof.Rows L2 Evl
section
variable {K : PySem.W.Frag}
def NewS (C : Addr) (sp : Sp) (E : XK) (vs : List V) (H : Hp) (Q : VK) : Prop := ∀ y dy, H y = none → H dy = none → dy ≠ y → sp (.ref y :: vs) (upd (upd H dy (.own y)) y (.ins C dy [])) (fun v Hb => v = .non ∧ Q (.ref y) Hb) E
theorem w_newS {σ : L2.St} {H : Hp} {C : Addr} {sp : Sp} {E : L2.St → XK} {t : TA} {Q : VK} (h : t σ H fun vs Ha => NewS C sp (E σ) vs Ha Q) : tMakeS C sp E t σ H Q := h
theorem a_newS {H : Hp} {C : Addr} {sp : Sp} {E : XK} {vs : List V} {Q : VK} (k : ∀ x dx H1, H x = none → H dx = none → dx ≠ x → Ex H H1 → H1 x = some (.ins C dx []) → H1 dx = some (.own x) → sp (.ref x :: vs) H1 (fun v H2 => v = .non ∧ Q (.ref x) H2) E) : NewS C sp E vs H Q := fun x dx n1 n2 n3 =>
  k x dx _ n1 n2 n3 ((Ex.new n2).mut n1) upd_same (by rw [upd_ne n3, upd_same])
def Xf (a : Addr) (cls : Value) (d : Option Addr) (C : Addr) (f : Str) (x : V) (H : Hp) (Q : VK) : Prop := x = .ref a ∧ cls = .ref C ∧ ∃ (dd : Addr) (fs : List (Str × V)) (v : V), d = some dd ∧ H dd = some (.xd fs) ∧ fs.lookup f = some v ∧ Q v H
theorem w_xf {σ : L2.St} {H : Hp} {a C : Addr} {cls : Value} {d : Option Addr} {f : Str} {te : TE} {Q : VK} (h : te σ H fun x Ha => Xf a cls d C f x Ha Q) : tXf a cls d C f te σ H Q := h
/-- two new places of a heap, left out again -/
theorem ex_two {H H1 : Hp} {x y : Addr} (n1 : H x = none) (n2 : H y = none) (e : Ex H H1) : Ex H (dl [x, y] H1) := fun b o z => by
  rw [dl_nin (by
    intro k
    rcases List.mem_cons.mp k with k | k
    · rw [k, n1] at z; cases z
    rcases List.mem_cons.mp k with k | k
    · rw [k, n2] at z; cases z
    · cases k)]
  exact e b o z
/-- a function as the law tells it -/
def fdat (f : FD) : PyData := .list [f.n, .list f.p, .list f.b]
def pAcc (K : PySem.W.Frag) : Sp := fun vs H Q _ => ∃ v1 v2 fs ss, vs = [v1, v2] ∧ Ds K H v1 (.list (fs.map fdat)) ∧ Ds K H v2 (.list ss) ∧ RV1 (.bl (progD fs ss)) H Q
theorem dpa_three {G : Hp} {xs : List V} {a b c : PyData} (h : DpAll K G xs [a, b, c]) : ∃ u v w, xs = [u, v, w] ∧ Dp K G u a ∧ Dp K G v b ∧ Dp K G w c := by
  match h with
  | .cons h1 (.cons h2 (.cons h3 .nil)) => exact ⟨_, _, _, rfl, h1, h2, h3⟩
theorem ds_fdat {G : Hp} {v : V} {f : FD} (h : Ds K G v (fdat f)) : ∃ p u q r, v = .ref p ∧ SqL K G p [u, .ref q, .ref r] ∧ Ds K G u f.n ∧ Dl K G q f.p ∧ Dl K G r f.b := by
  obtain ⟨p, xs, ds, rfl, e, hL, hD, hs, _, _⟩ := ds_lst h rfl
  cases e
  obtain ⟨u, v, w, rfl, d1, d2, d3⟩ := dpa_three hD
  have s0 := sm_at (i := 0) hs rfl
  have s1 := sm_at (i := 1) hs rfl
  have s2 := sm_at (i := 2) hs rfl
  obtain ⟨q, x1, _, rfl, e1, l1, k1, m1, z1, _⟩ := ds_lst (⟨d2, s1⟩ : Ds K G v (.list f.p)) rfl
  cases e1
  obtain ⟨r, x2, _, rfl, e2, l2, k2, m2, z2, _⟩ := ds_lst (⟨d3, s2⟩ : Ds K G w (.list f.b)) rfl
  cases e2
  exact ⟨p, u, q, r, rfl, hL, ⟨d1, s0⟩, ⟨⟨x1, l1, k1⟩, m1, z1⟩, ⟨⟨x2, l2, k2⟩, m2, z2⟩⟩
end
end Ver

set_option Elab.async false
set_option linter.all false
set_option maxRecDepth 100000
set_option maxHeartbeats 4000000
namespace Ver
open PySem PySem.Spec PyProof.Rows L2 Evl
section
variable {K : PySem.W.Frag} {σ : L2.St} {H : Hp} {te ta tb : TE} {t : TA} {d : PyData} {ds es : List PyData} {i : Nat}
/-! ## expressions that come out as data (apart from the places S) -/
variable {S : List Addr}
def EvD (K : PySem.W.Frag) (S : List Addr) (σ : L2.St) (H : Hp) (te : TE) (d : PyData) : Prop := ∀ H0, Ex H H0 → ∀ Q : VK, (∀ v H1, Ex H0 H1 → Dp K (dl S H1) v d → Q v H1) → te σ H0 Q
def EvL (K : PySem.W.Frag) (S : List Addr) (σ : L2.St) (H : Hp) (te : TE) (ds : List PyData) : Prop := ∀ H0, Ex H H0 → ∀ Q : VK, (∀ p vs H1, Ex H0 H1 → p ∉ S → H1 p = some (.lst vs) → DpAll K (dl S H1) vs ds → Q (.ref p) H1) → te σ H0 Q
def EvA (K : PySem.W.Frag) (S : List Addr) (σ : L2.St) (H : Hp) (t : TA) (ds : List PyData) : Prop := ∀ H0, Ex H H0 → ∀ Q : List V → Hp → Prop, (∀ vs H1, Ex H0 H1 → DpAll K (dl S H1) vs ds → Q vs H1) → t σ H0 Q
theorem ev_var {v : V} (e : σ[i]? = some (some v)) (h : Dp K (dl S H) v d) : EvD K S σ H (tVar i) d := fun H0 e0 Q k => ⟨v, e, k v H0 (Ex.refl _) (dp_ex (dl_ex e0) h)⟩
theorem ev_str {x : Str} : EvD K S σ H (tC (.str x)) (.str x) := fun H0 _ Q k => k _ H0 (Ex.refl _) (.str x)
theorem ev_int {x : Int} : EvD K S σ H (tC (.int x)) (.int x) := fun H0 _ Q k => k _ H0 (Ex.refl _) (.int x)
theorem ev_bl {x : Bool} : EvD K S σ H (tC (.bl x)) (.bool x) := fun H0 _ Q k => k _ H0 (Ex.refl _) (.bl x)
theorem ev_non : EvD K S σ H (tC .non) .none := fun H0 _ Q k => k _ H0 (Ex.refl _) .non
theorem ev_nil : EvA K S σ H tNil [] := fun H0 _ Q k => k [] H0 (Ex.refl _) .nil
theorem ev_cons (h : EvD K S σ H te d) (g : EvA K S σ H t ds) : EvA K S σ H (tCons te t) (d :: ds) := fun H0 e0 Q k =>
  h H0 e0 _ fun v H1 e1 dv => g H1 (e0.trans e1) _ fun vs H2 e2 dvs => k (v :: vs) H2 (e1.trans e2) (.cons (dp_ex (dl_ex e2) dv) dvs)
theorem ev_lst (al : Al S H) (h : EvA K S σ H t ds) (z : ds.length ≤ 100000) : EvL K S σ H (tLst t) ds := fun H0 e0 Q k =>
  h H0 e0 _ fun vs H1 e1 dvs => new_lst (by rw [dpa_len dvs]; exact z) fun p H2 n e2 f => k p vs H2 (e1.trans e2) ((al.ex (e0.trans e1)).nin n) f (dpa_ex (dl_ex e2) dvs)
theorem ev_ll (h : EvL K S σ H te ds) : EvD K S σ H te (.list ds) := fun H0 e0 Q k => h H0 e0 _ fun p vs H1 e1 np f dvs => k _ H1 e1 (.lst (SqL.of (dl_at np f)) dvs)
theorem ev_tup (al : Al S H) (h : EvA K S σ H t ds) (z : ds.length ≤ 100000) : EvD K S σ H (tTup t) (.tuple ds) := fun H0 e0 Q k =>
  h H0 e0 _ fun vs H1 e1 dvs => new_tup (by rw [dpa_len dvs]; exact z) fun p H2 n e2 f => k _ H2 (e1.trans e2) (.tup (SqT.of (dl_at ((al.ex (e0.trans e1)).nin n) f)) (dpa_ex (dl_ex e2) dvs))
theorem ev_lvar {p : Addr} {vs : List V} (e : σ[i]? = some (some (.ref p))) (np : p ∉ S) (f : H p = some (.lst vs)) (h : DpAll K (dl S H) vs ds) : EvL K S σ H (tVar i) ds := fun H0 e0 Q k => ⟨.ref p, e, k p vs H0 (Ex.refl _) np (e0 _ _ f) (dpa_ex (dl_ex e0) h)⟩
theorem ev_cat (al : Al S H) (h : EvL K S σ H ta ds) (g : EvL K S σ H tb es) (z : ds.length + es.length ≤ 100000) : EvL K S σ H (tOp rCat ta tb) (ds ++ es) := fun H0 e0 Q k =>
  h H0 e0 _ fun p vs H1 e1 _ f1 d1 => g H1 (e0.trans e1) _ fun q ws H2 e2 _ f2 d2 => a_cat (e2 _ _ f1) f2 (by rw [dpa_len d1, dpa_len d2]; exact z) fun l H3 n e3 f3 =>
    k l _ H3 ((e1.trans e2).trans e3) ((al.ex ((e0.trans e1).trans e2)).nin n) f3 (dpa_app (dpa_ex (dl_ex (e2.trans e3)) d1) (dpa_ex (dl_ex e3) d2))
theorem dpa_rep {G : Hp} {vs : List V} (h : DpAll K G vs ds) : ∀ n : Nat, DpAll K G (List.replicate n vs).flatten (List.replicate n ds).flatten
  | 0 => .nil
  | n + 1 => by
    rw [List.replicate_succ, List.replicate_succ, List.flatten_cons, List.flatten_cons]
    exact dpa_app h (dpa_rep h n)
/-- [a] * n -/
theorem ev_rep {n : Nat} (al : Al S H) (h : EvL K S σ H ta [d]) (e : σ[i]? = some (some (.int n))) (z : n ≤ 1000) : EvL K S σ H (tOp rRep ta (tVar i)) (List.replicate n d) := fun H0 e0 Q k =>
  h H0 e0 _ fun p vs H1 e1 _ f1 d1 => ⟨.int n, e, p, n, vs, rfl, rfl, f1, by omega, by omega, by
    rw [dpa_len d1, Int.toNat_natCast]
    exact sz_of (by simp; omega), fun q nq => by
    rw [Int.toNat_natCast]
    have x := dpa_rep d1 n
    have y : (List.replicate n [d]).flatten = List.replicate n d := by
      rw [List.flatten_replicate_singleton]
    rw [y] at x
    exact k q _ _ (e1.trans (Ex.new nq)) ((al.ex (e0.trans e1)).nin nq) upd_same (dpa_ex (dl_ex (Ex.new nq)) x)⟩
/-- a value that needs no heap -/
theorem ev_b {b : Bool} (h : ∀ (H0 : Hp) (Q : VK), Q (.bl b) H0 → te σ H0 Q) : EvD K S σ H te (.bool b) := fun H0 _ Q k => h H0 Q (k _ H0 (Ex.refl _) (.bl b))
theorem ev_i {b : Int} (h : ∀ (H0 : Hp) (Q : VK), Q (.int b) H0 → te σ H0 Q) : EvD K S σ H te (.int b) := fun H0 _ Q k => h H0 Q (k _ H0 (Ex.refl _) (.int b))
/-- many < m -/
theorem ev_lt {a m : Int} (e : σ[i]? = some (some (.int a))) : EvD K S σ H (tOp (rI0 fun i j => .bl (decide (i < j))) (tVar i) (tC (.int m))) (.bool (decide (a < m))) := ev_b fun H0 Q q => ⟨.int a, e, a, m, rfl, rfl, q⟩
theorem ev_call {sp : Sp} {E : XK} (h : EvA K S σ H t ds) (al : Al S H) (c : ∀ (H0 : Hp) (vs : List V) (Q : VK), Al S H0 → DpAll K (dl S H0) vs ds → (∀ v H1, Ex H0 H1 → Dp K (dl S H1) v d → Q v H1) → sp vs H0 Q E) : EvD K S σ H (tCall sp [] E t) d := fun H0 e0 Q k =>
  w_callN (h H0 e0 _ fun vs H1 e1 dvs => c H1 vs Q (al.ex (e0.trans e1)) dvs fun v H2 e2 dv => k v H2 (e1.trans e2) dv)
theorem run_l (h : EvL K S σ H te ds) {Q : VK} (k : ∀ p vs H1, Ex H H1 → p ∉ S → H1 p = some (.lst vs) → DpAll K (dl S H1) vs ds → Q (.ref p) H1) : te σ H Q := h H (Ex.refl _) Q k
theorem run_d (h : EvD K S σ H te d) {Q : VK} (k : ∀ v H1, Ex H H1 → Dp K (dl S H1) v d → Q v H1) : te σ H Q := h H (Ex.refl _) Q k
theorem ex_one {H1 H2 : Hp} {l : Addr} (n : H1 l = none) (e : Ex H1 H2) : Ex H1 (dl [l] H2) := fun b o z => by
  rw [dl_nin (by simpa using ne_of_none z n)]
  exact e b o z
/-- out = out + X -/
theorem run_cat {po : Addr} {vs : List V} {Q : VK} (e : σ[i]? = some (some (.ref po))) (f : H po = some (.lst vs)) (D : DpAll K (dl [po] H) vs ds) (g : EvL K [po] σ H tb es) (z : ds.length + es.length ≤ 100000)
    (k : ∀ l ws H1, Ex H H1 → Ex (dl [po] H) (dl [l] H1) → H l = none → H1 l = some (.lst ws) → DpAll K (dl [l] H1) ws (ds ++ es) → Q (.ref l) H1) : tOp rCat (tVar i) tb σ H Q :=
  ⟨.ref po, e, g H (Ex.refl _) _ fun q ws H2 e2 _ f2 d2 => a_cat (e2 _ _ f) f2 (by rw [dpa_len D, dpa_len d2]; exact z) fun l H3 n e3 f3 => by
    have E := (dl_le [po] H2).trans (ex_one n e3)
    refine k l _ H3 (e2.trans e3) ((dl_ex e2).trans E) ?_ f3 (dpa_app (dpa_ex ((dl_ex e2).trans E) D) (dpa_ex E d2))
    cases y : H l with
    | none => rfl
    | some o => rw [e2 _ _ y] at n; cases n⟩
/-- the argument of out.append(..) -/
theorem run_app {po : Addr} {vs : List V} {Q : VK} (f : H po = some (.lst vs)) (D : DpAll K (dl [po] H) vs ds) (g : EvD K [po] σ H te d) (z : ds.length < 100000)
    (k : ∀ ws H1, Ks [po] H H1 → H1 po = some (.lst ws) → DpAll K (dl [po] H1) ws (ds ++ [d]) → Q .non H1) : tCons te tNil σ H fun xs Hb => rAppend (.ref po) xs Hb Q :=
  g H (Ex.refl _) _ fun v H1 e1 dv => a_app (e1 _ _ f) (by rw [dpa_len D]; exact z) (k (vs ++ [v]) _ ((Ks.of e1).upd (by simp)) upd_same (by
    rw [dl_upd (by simp)]
    exact dpa_snoc (dpa_ex (dl_ex e1) D) dv))
/-- an inner list of a heap, apart from out -/
def LsAt (K : PySem.W.Frag) (po : Addr) (H : Hp) (p : Addr) (ds : List PyData) : Prop := p ≠ po ∧ ∃ vs, H p = some (.lst vs) ∧ DpAll K (dl [po] H) vs ds
theorem LsAt.dp {po p : Addr} (h : LsAt K po H p ds) : Dp K (dl [po] H) (.ref p) (.list ds) := by
  obtain ⟨n, vs, f, D⟩ := h
  exact .lst (SqL.of (dl_at (by simpa using n) f)) D
/-- [f(k) for k in range(n)], the items by their data -/
theorem run_comp {po : Addr} {vo : List V} {Q : VK} {n : Nat} {f : Nat → PyData} (fo : H po = some (.lst vo)) (hn : n ≤ 1000) (hw : ∀ v, wipe ((wipe σ [i]).set i (some v)) [i] = wipe σ [i])
    (ev : ∀ l h k, k < n → Ex H h → Al [l, po] h → EvD K [l, po] ((wipe σ [i]).set i (some (.int (0 + (k : Int))))) h te (f k))
    (hd : ∀ l ws h, H l = none → Ex H h → h l = some (.lst ws) → LsAt K po h l ((List.range n).map f) → Q (.ref l) h) : CompG (Itr 0 n) (gName i) tYes te [i] σ H Q := by
  refine cp_range (fun l k h => Ex H h ∧ Al [l, po] h ∧ ∃ ws, h l = some (.lst ws) ∧ DpAll K (dl [l, po] h) ws ((List.range k).map f)) (fun l n => ?_) ?_ ?_
  · have e := Ex.new (o := .lst []) n
    exact ⟨e, (Al.nil.cons (e _ _ fo)).cons upd_same, [], upd_same, .nil⟩
  · rintro l k h nl hk ⟨e, al, ws, fl, D⟩
    have wl := dpa_len D
    rw [List.length_map, List.length_range] at wl
    refine ⟨hw _, ?_⟩
    refine ev l h k hk e al h (Ex.refl _) _ fun v H1 e1 dv => ⟨ws, e1 _ _ fl, sz_lt (by omega), (e.trans e1).mut nl, (al.ex e1).upd, ws ++ [v], upd_same, ?_⟩
    rw [dl_upd (by simp), List.range_succ, List.map_append]
    exact dpa_snoc (dpa_ex (dl_ex e1) D) dv
  · rintro l h nl ⟨e, al, ws, fl, D⟩
    exact hd l ws h nl e fl ⟨(fun z => by rw [z, fo] at nl; cases nl), ws, fl, dpa_ex (dl_sub fun a c => List.mem_cons_of_mem _ c) D⟩
/-- 'a' + 'z..'[k] -/
theorem ev_sx {a z : Str} {c : Nat} {k : Int} (e : σ[i]? = some (some (.int k))) (hz : z.length ≤ 1000) (ha : a.length ≤ 1000) (h : atI z.cps.toList k = some c) :
    EvD K S σ H (tOp (fun x y H Q => ∃ i j, x = V.str i ∧ y = V.str j ∧ i.length + j.length ≤ sizeLine ∧ Q (V.str (i ++ j)) H) (tC (.str a)) (tOp rIxS (tC (.str z)) (tVar i))) (.str (a ++ ⟨#[c]⟩)) := fun H0 e0 Q q =>
  ⟨.int k, e, z, k, c, rfl, rfl, sz_of (by omega), h, a, ⟨#[c]⟩, rfl, rfl, sz_of (by show a.length + 1 ≤ 100000; omega), q _ H0 (Ex.refl _) (.str _)⟩
theorem LsAt.up {po pq p : Addr} {H' : Hp} (h : LsAt K po H p ds) (e : Ex (dl [po] H) (dl [pq] H')) : LsAt K pq H' p ds := by
  obtain ⟨n, vs, f, D⟩ := h
  have g := e _ _ (dl_at (by simpa using n) f)
  by_cases z : p ∈ [pq]
  · rw [dl_in z] at g
    cases g
  · rw [dl_nin z] at g
    exact ⟨fun y => z (by rw [y]; simp), vs, g, dpa_ex e D⟩
/-! ### data that the box of draws is no part of -/
def bxL : List PyData → Bool
  | [_, .int _] => true
  | _ => false
mutual
def nbD : PyData → Bool
  | .list ds => !bxL ds && nbA ds
  | .tuple ds => nbA ds
  | _ => true
def nbA : List PyData → Bool
  | [] => true
  | d :: ds => nbD d && nbA ds
end
def snD (d : PyData) : Bool := smD d && nbD d
theorem sl_nb {H H' : Hp} {a b r : Addr} {xs : List V} (hb : Bx H b r) (k : Ks [b] H H') (f : SqL K H a xs) (D : DpAll K H xs ds) (nb : bxL ds = false) : SqL K H' a xs := by
  obtain ⟨n, ns, f1, _⟩ := hb
  rcases f with (f | ⟨o, f⟩) | f
  · by_cases z : a = b
    · subst z
      rw [f1] at f
      cases f
      match ds, D with
      | [_, _], .cons _ (.cons h2 .nil) =>
        cases h2
        cases nb
    · exact .inl (.inl (k _ _ (by simpa using z) f))
  · have z : a ≠ b := fun z => by
      rw [z, f1] at f
      cases f
    exact .inl (.inr ⟨o, k _ _ (by simpa using z) f⟩)
  · exact .inr f
theorem st_nb {H H' : Hp} {a b r : Addr} {xs : List V} (hb : Bx H b r) (k : Ks [b] H H') (f : SqT K H a xs) : SqT K H' a xs := by
  obtain ⟨n, ns, f1, _⟩ := hb
  rcases f with (f | ⟨o, f⟩) | f
  · have z : a ≠ b := fun z => by
      rw [z, f1] at f
      cases f
    exact .inl (.inl (k _ _ (by simpa using z) f))
  · have z : a ≠ b := fun z => by
      rw [z, f1] at f
      cases f
    exact .inl (.inr ⟨o, k _ _ (by simpa using z) f⟩)
  · exact .inr f
mutual
theorem dp_nb {H H' : Hp} {b r : Addr} (hb : Bx H b r) (k : Ks [b] H H') : ∀ {v : V} {d : PyData}, Dp K H v d → nbD d = true → Dp K H' v d
  | _, _, .non, _ => .non
  | _, _, .bl x, _ => .bl x
  | _, _, .int i, _ => .int i
  | _, _, .str x, _ => .str x
  | _, _, .lst h t, n => by
    have n' := (Bool.and_eq_true _ _ ▸ n : _ ∧ _)
    exact .lst (sl_nb hb k h t (by simpa using n'.1)) (dpa_nb hb k t n'.2)
  | _, _, .tup h t, n => .tup (st_nb hb k h) (dpa_nb hb k t n)
theorem dpa_nb {H H' : Hp} {b r : Addr} (hb : Bx H b r) (k : Ks [b] H H') : ∀ {xs : List V} {ds : List PyData}, DpAll K H xs ds → nbA ds = true → DpAll K H' xs ds
  | _, _, .nil, _ => .nil
  | _, _, .cons h t, n => by
    have n' := (Bool.and_eq_true _ _ ▸ n : _ ∧ _)
    exact .cons (dp_nb hb k h n'.1) (dpa_nb hb k t n'.2)
end
/-- one case of the law: functions, statements, what is due -/
def Case (d : PyData) : Prop := ∃ fs ss b, d = .list [.list (fs.map fdat), .list ss, .bool b] ∧ snD d = true ∧ progD fs ss = b
theorem case_of {fs : List FD} {ss : List PyData} {b : Bool} (s : snD (.list [.list (fs.map fdat), .list ss, .bool b]) = true) (p : progD fs ss = b) : Case (.list [.list (fs.map fdat), .list ss, .bool b]) := ⟨fs, ss, b, rfl, s, p⟩
end
theorem case_nb : ∀ {ds : List PyData}, (∀ d ∈ ds, Case d) → nbA ds = true
  | [], _ => rfl
  | d :: ds, h => by
    obtain ⟨fs, ss, b, _, s, _⟩ := h d (List.mem_cons_self ..)
    have s' := (Bool.and_eq_true _ _ ▸ s : smD d = true ∧ nbD d = true)
    show (nbD d && nbA ds) = true
    rw [s'.2, case_nb fun x hx => h x (List.mem_cons_of_mem _ hx)]
    rfl
/-- what _law_let makes -/
def letD (x T : PyData) : PyData := .tuple [.str "let", x, T, if (PyData.eqv T (.tuple [.str "rw"]) || PyData.eqv T (.int 0)) = true then .tuple [.str "number", .int 0] else .tuple [.str "null"]]
def pLet (K : PySem.W.Frag) : Sp := fun vs H Q _ => ∃ S x v T, vs = [.str x, v] ∧ Al S H ∧ Dp K (dl S H) v T ∧ SeqAt.shaped T = true ∧ ∀ u H1, Ex H H1 → Dp K (dl S H1) u (letD (.str x) T) → Q u H1
theorem ev_let {K : PySem.W.Frag} {S : List Addr} {σ : L2.St} {H : Hp} {t : TA} {x : Str} {T : PyData} {E : XK} (al : Al S H) (h : EvA K S σ H t [.str x, T]) (s : SeqAt.shaped T = true) : EvD K S σ H (tCall (pLet K) [] E t) (letD (.str x) T) := ev_call h al fun H0 vs Q al2 dvs k => by
  match vs, dvs with
  | [_, _], .cons h1 (.cons h2 .nil) =>
    cases dp_str h1
    exact ⟨S, x, _, T, rfl, al2, h2, s, k⟩
end Ver

set_option Elab.async false
set_option linter.all false
set_option maxRecDepth 100000
set_option maxHeartbeats 4000000
namespace Ver
open PySem PySem.Spec PyProof.Rows L2 Evl
/-! ### the text by its places -/
def topS (i : Nat) : Stmt := PySem.Challenge.pw_rightskept_k12_programs_at_their_bounds.main.body.getD i (.Pass ⟨0, 0, 0, 0⟩)
abbrev s_RightsError_init : Stmt := inClass (topS 1) 0
abbrev n_RightsError_init : List Str := ["self", "reason"]
abbrev p_RightsError_init : List Str := ["self", "reason"]
theorem sc_RightsError_init : FnScope n_RightsError_init p_RightsError_init (defScope s_RightsError_init) := ⟨rfl, rfl, rfl, by decide +kernel, rfl, by decide +kernel, by decide +kernel⟩
abbrev s_is_right : Stmt := topS 5
abbrev n_is_right : List Str := ["thing"]
abbrev p_is_right : List Str := ["thing"]
theorem sc_is_right : FnScope n_is_right p_is_right (defScope s_is_right) := ⟨rfl, rfl, rfl, by decide +kernel, rfl, by decide +kernel, by decide +kernel⟩
abbrev s_is_type : Stmt := topS 6
abbrev n_is_type : List Str := ["thing"]
abbrev p_is_type : List Str := ["thing"]
theorem sc_is_type : FnScope n_is_type p_is_type (defScope s_is_type) := ⟨rfl, rfl, rfl, by decide +kernel, rfl, by decide +kernel, by decide +kernel⟩
abbrev s_is_value_type : Stmt := topS 7
abbrev n_is_value_type : List Str := ["thing", "part"]
abbrev p_is_value_type : List Str := ["thing"]
theorem sc_is_value_type : FnScope n_is_value_type p_is_value_type (defScope s_is_value_type) := ⟨rfl, rfl, rfl, by decide +kernel, rfl, by decide +kernel, by decide +kernel⟩
abbrev s_is_number : Stmt := topS 14
abbrev n_is_number : List Str := ["thing", "most"]
abbrev p_is_number : List Str := ["thing", "most"]
theorem sc_is_number : FnScope n_is_number p_is_number (defScope s_is_number) := ⟨rfl, rfl, rfl, by decide +kernel, rfl, by decide +kernel, by decide +kernel⟩
abbrev s_is_name : Stmt := topS 15
abbrev n_is_name : List Str := ["thing", "sign"]
abbrev p_is_name : List Str := ["thing"]
theorem sc_is_name : FnScope n_is_name p_is_name (defScope s_is_name) := ⟨rfl, rfl, rfl, by decide +kernel, rfl, by decide +kernel, by decide +kernel⟩
abbrev s_is_depth : Stmt := topS 16
abbrev n_is_depth : List Str := ["thing"]
abbrev p_is_depth : List Str := ["thing"]
theorem sc_is_depth : FnScope n_is_depth p_is_depth (defScope s_is_depth) := ⟨rfl, rfl, rfl, by decide +kernel, rfl, by decide +kernel, by decide +kernel⟩
abbrev s_is_place : Stmt := topS 17
abbrev n_is_place : List Str := ["thing"]
abbrev p_is_place : List Str := ["thing"]
theorem sc_is_place : FnScope n_is_place p_is_place (defScope s_is_place) := ⟨rfl, rfl, rfl, by decide +kernel, rfl, by decide +kernel, by decide +kernel⟩
abbrev s_first_word : Stmt := topS 18
abbrev n_first_word : List Str := ["thing", "word"]
abbrev p_first_word : List Str := ["thing"]
theorem sc_first_word : FnScope n_first_word p_first_word (defScope s_first_word) := ⟨rfl, rfl, rfl, by decide +kernel, rfl, by decide +kernel, by decide +kernel⟩
abbrev s_is_source : Stmt := topS 19
abbrev n_is_source : List Str := ["thing", "word"]
abbrev p_is_source : List Str := ["thing"]
theorem sc_is_source : FnScope n_is_source p_is_source (defScope s_is_source) := ⟨rfl, rfl, rfl, by decide +kernel, rfl, by decide +kernel, by decide +kernel⟩
abbrev s_is_source_list : Stmt := topS 20
abbrev n_is_source_list : List Str := ["thing", "part"]
abbrev p_is_source_list : List Str := ["thing"]
theorem sc_is_source_list : FnScope n_is_source_list p_is_source_list (defScope s_is_source_list) := ⟨rfl, rfl, rfl, by decide +kernel, rfl, by decide +kernel, by decide +kernel⟩
abbrev s_is_declared : Stmt := topS 21
abbrev n_is_declared : List Str := ["thing"]
abbrev p_is_declared : List Str := ["thing"]
theorem sc_is_declared : FnScope n_is_declared p_is_declared (defScope s_is_declared) := ⟨rfl, rfl, rfl, by decide +kernel, rfl, by decide +kernel, by decide +kernel⟩
abbrev s_is_statement : Stmt := topS 22
abbrev n_is_statement : List Str := ["thing", "word"]
abbrev p_is_statement : List Str := ["thing"]
theorem sc_is_statement : FnScope n_is_statement p_is_statement (defScope s_is_statement) := ⟨rfl, rfl, rfl, by decide +kernel, rfl, by decide +kernel, by decide +kernel⟩
abbrev s_Function_init : Stmt := inClass (topS 28) 0
abbrev n_Function_init : List Str := ["self", "name", "params", "body"]
abbrev p_Function_init : List Str := ["self", "name", "params", "body"]
theorem sc_Function_init : FnScope n_Function_init p_Function_init (defScope s_Function_init) := ⟨rfl, rfl, rfl, by decide +kernel, rfl, by decide +kernel, by decide +kernel⟩
abbrev s_Program_init : Stmt := inClass (topS 29) 0
abbrev n_Program_init : List Str := ["self", "functions", "statements"]
abbrev p_Program_init : List Str := ["self", "functions", "statements"]
theorem sc_Program_init : FnScope n_Program_init p_Program_init (defScope s_Program_init) := ⟨rfl, rfl, rfl, by decide +kernel, rfl, by decide +kernel, by decide +kernel⟩
abbrev s_copied : Stmt := topS 30
abbrev n_copied : List Str := ["thing"]
abbrev p_copied : List Str := ["thing"]
theorem sc_copied : FnScope n_copied p_copied (defScope s_copied) := ⟨rfl, rfl, rfl, by decide +kernel, rfl, by decide +kernel, by decide +kernel⟩
abbrev s_copied_statement : Stmt := topS 31
abbrev n_copied_statement : List Str := ["statement", "part"]
abbrev p_copied_statement : List Str := ["statement"]
theorem sc_copied_statement : FnScope n_copied_statement p_copied_statement (defScope s_copied_statement) := ⟨rfl, rfl, rfl, by decide +kernel, rfl, by decide +kernel, by decide +kernel⟩
abbrev s_copied_statements : Stmt := topS 32
abbrev n_copied_statements : List Str := ["statements", "statement"]
abbrev p_copied_statements : List Str := ["statements"]
theorem sc_copied_statements : FnScope n_copied_statements p_copied_statements (defScope s_copied_statements) := ⟨rfl, rfl, rfl, by decide +kernel, rfl, by decide +kernel, by decide +kernel⟩
abbrev s_copied_function : Stmt := topS 33
abbrev n_copied_function : List Str := ["function"]
abbrev p_copied_function : List Str := ["function"]
theorem sc_copied_function : FnScope n_copied_function p_copied_function (defScope s_copied_function) := ⟨rfl, rfl, rfl, by decide +kernel, rfl, by decide +kernel, by decide +kernel⟩
abbrev s_copied_functions : Stmt := topS 34
abbrev n_copied_functions : List Str := ["functions", "function"]
abbrev p_copied_functions : List Str := ["functions"]
theorem sc_copied_functions : FnScope n_copied_functions p_copied_functions (defScope s_copied_functions) := ⟨rfl, rfl, rfl, by decide +kernel, rfl, by decide +kernel, by decide +kernel⟩
abbrev s_is_program : Stmt := topS 35
abbrev n_is_program : List Str := ["functions", "statements", "function"]
abbrev p_is_program : List Str := ["functions", "statements"]
theorem sc_is_program : FnScope n_is_program p_is_program (defScope s_is_program) := ⟨rfl, rfl, rfl, by decide +kernel, rfl, by decide +kernel, by decide +kernel⟩
abbrev s_is_function : Stmt := topS 36
abbrev n_is_function : List Str := ["thing", "param"]
abbrev p_is_function : List Str := ["thing"]
theorem sc_is_function : FnScope n_is_function p_is_function (defScope s_is_function) := ⟨rfl, rfl, rfl, by decide +kernel, rfl, by decide +kernel, by decide +kernel⟩
abbrev s_are_statements : Stmt := topS 37
abbrev n_are_statements : List Str := ["thing", "most", "part"]
abbrev p_are_statements : List Str := ["thing", "most"]
theorem sc_are_statements : FnScope n_are_statements p_are_statements (defScope s_are_statements) := ⟨rfl, rfl, rfl, by decide +kernel, rfl, by decide +kernel, by decide +kernel⟩
abbrev s_declared : Stmt := topS 38
abbrev n_declared : List Str := ["functions", "statements", "pairs", "function"]
abbrev p_declared : List Str := ["functions", "statements"]
theorem sc_declared : FnScope n_declared p_declared (defScope s_declared) := ⟨rfl, rfl, rfl, by decide +kernel, rfl, by decide +kernel, by decide +kernel⟩
abbrev s_declared_by_lets : Stmt := topS 39
abbrev n_declared_by_lets : List Str := ["statements", "statement"]
abbrev p_declared_by_lets : List Str := ["statements"]
theorem sc_declared_by_lets : FnScope n_declared_by_lets p_declared_by_lets (defScope s_declared_by_lets) := ⟨rfl, rfl, rfl, by decide +kernel, rfl, by decide +kernel, by decide +kernel⟩
abbrev s_all_names : Stmt := topS 40
abbrev n_all_names : List Str := ["functions", "statements", "names", "function", "name", "_"]
abbrev p_all_names : List Str := ["functions", "statements"]
theorem sc_all_names : FnScope n_all_names p_all_names (defScope s_all_names) := ⟨rfl, rfl, rfl, by decide +kernel, rfl, by decide +kernel, by decide +kernel⟩
abbrev s_all_kinds : Stmt := topS 41
abbrev n_all_kinds : List Str := ["functions", "statements", "_", "kind"]
abbrev p_all_kinds : List Str := ["functions", "statements"]
theorem sc_all_kinds : FnScope n_all_kinds p_all_kinds (defScope s_all_kinds) := ⟨rfl, rfl, rfl, by decide +kernel, rfl, by decide +kernel, by decide +kernel⟩
abbrev s_are_different : Stmt := topS 42
abbrev n_are_different : List Str := ["names"]
abbrev p_are_different : List Str := ["names"]
theorem sc_are_different : FnScope n_are_different p_are_different (defScope s_are_different) := ⟨rfl, rfl, rfl, by decide +kernel, rfl, by decide +kernel, by decide +kernel⟩
abbrev s_are_of_one_kind : Stmt := topS 43
abbrev n_are_of_one_kind : List Str := ["kinds", "kind"]
abbrev p_are_of_one_kind : List Str := ["kinds"]
theorem sc_are_of_one_kind : FnScope n_are_of_one_kind p_are_of_one_kind (defScope s_are_of_one_kind) := ⟨rfl, rfl, rfl, by decide +kernel, rfl, by decide +kernel, by decide +kernel⟩
abbrev s_all_calls_fit : Stmt := topS 44
abbrev n_all_calls_fit : List Str := ["functions", "statements", "many", "function"]
abbrev p_all_calls_fit : List Str := ["functions", "statements"]
theorem sc_all_calls_fit : FnScope n_all_calls_fit p_all_calls_fit (defScope s_all_calls_fit) := ⟨rfl, rfl, rfl, by decide +kernel, rfl, by decide +kernel, by decide +kernel⟩
abbrev s_calls_fit : Stmt := topS 45
abbrev n_calls_fit : List Str := ["statements", "many", "statement"]
abbrev p_calls_fit : List Str := ["statements", "many"]
theorem sc_calls_fit : FnScope n_calls_fit p_calls_fit (defScope s_calls_fit) := ⟨rfl, rfl, rfl, by decide +kernel, rfl, by decide +kernel, by decide +kernel⟩
abbrev s__law_cell : Stmt := topS 47
abbrev n__law_cell : List Str := ["script", "k"]
abbrev p__law_cell : List Str := ["script", "k"]
theorem sc__law_cell : FnScope n__law_cell p__law_cell (defScope s__law_cell) := ⟨rfl, rfl, rfl, by decide +kernel, rfl, by decide +kernel, by decide +kernel⟩
abbrev s__law_row : Stmt := topS 48
abbrev n__law_row : List Str := ["script", "first", "last", "row", "k", "cell", "turn"]
abbrev p__law_row : List Str := ["script", "first", "last"]
theorem sc__law_row : FnScope n__law_row p__law_row (defScope s__law_row) := ⟨rfl, rfl, rfl, by decide +kernel, rfl, by decide +kernel, by decide +kernel⟩
abbrev s__law_draw : Stmt := topS 49
abbrev n__law_draw : List Str := ["box", "many", "at"]
abbrev p__law_draw : List Str := ["box", "many"]
theorem sc__law_draw : FnScope n__law_draw p__law_draw (defScope s__law_draw) := ⟨rfl, rfl, rfl, by decide +kernel, rfl, by decide +kernel, by decide +kernel⟩
abbrev s__law_accepts : Stmt := topS 50
abbrev n__law_accepts : List Str := ["functions", "statements", "e", "f"]
abbrev p__law_accepts : List Str := ["functions", "statements"]
theorem sc__law_accepts : FnScope n__law_accepts p__law_accepts (defScope s__law_accepts) := ⟨rfl, rfl, rfl, by decide +kernel, rfl, by decide +kernel, by decide +kernel⟩
abbrev s__law_let : Stmt := topS 51
abbrev n__law_let : List Str := ["x", "T"]
abbrev p__law_let : List Str := ["x", "T"]
theorem sc__law_let : FnScope n__law_let p__law_let (defScope s__law_let) := ⟨rfl, rfl, rfl, by decide +kernel, rfl, by decide +kernel, by decide +kernel⟩
abbrev s__law_counts : Stmt := topS 52
abbrev n__law_counts : List Str := ["box", "x", "put", "out", "many", "functions", "params", "name", "rows", "k"]
abbrev p__law_counts : List Str := ["box"]
theorem sc__law_counts : FnScope n__law_counts p__law_counts (defScope s__law_counts) := ⟨rfl, rfl, rfl, by decide +kernel, rfl, by decide +kernel, by decide +kernel⟩
abbrev s__law_within_functions : Stmt := topS 53
abbrev n__law_within_functions : List Str := ["box", "T", "put", "out", "bad", "call", "first"]
abbrev p__law_within_functions : List Str := ["box"]
theorem sc__law_within_functions : FnScope n__law_within_functions p__law_within_functions (defScope s__law_within_functions) := ⟨rfl, rfl, rfl, by decide +kernel, rfl, by decide +kernel, by decide +kernel⟩
abbrev s_law : Stmt := topS 54
abbrev n_law : List Str := ["script", "box", "functions", "statements", "due", "told", "params", "body", "kept", "function", "program"]
abbrev p_law : List Str := ["script"]
theorem sc_law : FnScope n_law p_law (defScope s_law) := ⟨rfl, rfl, rfl, by decide +kernel, rfl, by decide +kernel, by decide +kernel⟩
/-- where each def stands, what names mean -/
structure Df (K : PySem.W.Frag) (mg : Str → Option Value) (x : Str) (st : Stmt) (ps : List Str) (a : Addr) (fd : FuncData) : Prop where
  F : Fun K x x st a fd
  b : Binds K fd ps []
  m : mg x = some (.ref a)
structure Dm (K : PySem.W.Frag) (x q : Str) (st : Stmt) (ps : List Str) (a : Addr) (fd : FuncData) : Prop where
  F : Fun K x q st a fd
  b : Binds K fd ps []
structure Ist (K : PySem.W.Frag) (C : Addr) : Prop where
  ha : PySem.W.findIn K (.ref C) "__class__" = some (some (.builtin "object.__class__"))
  hn : PySem.W.specialIn K (.builtin "object.__class__") "__get__" = some (some (.builtin "getset_descriptor.__get__"))
  ht : PySem.W.takesIn K (.builtin "object.__class__") = some true
  hm : PySem.W.mroIn K C (.type "object") = some true
structure Tx (K : PySem.W.Frag) (mg : Str → Option Value) where
  a_RightsError_init : Addr
  e_RightsError_init : FuncData
  d_RightsError_init : Dm K "__init__" "RightsError.__init__" s_RightsError_init p_RightsError_init a_RightsError_init e_RightsError_init
  a_is_right : Addr
  e_is_right : FuncData
  d_is_right : Df K mg "is_right" s_is_right p_is_right a_is_right e_is_right
  a_is_type : Addr
  e_is_type : FuncData
  d_is_type : Df K mg "is_type" s_is_type p_is_type a_is_type e_is_type
  a_is_value_type : Addr
  e_is_value_type : FuncData
  d_is_value_type : Df K mg "is_value_type" s_is_value_type p_is_value_type a_is_value_type e_is_value_type
  a_is_number : Addr
  e_is_number : FuncData
  d_is_number : Df K mg "is_number" s_is_number p_is_number a_is_number e_is_number
  a_is_name : Addr
  e_is_name : FuncData
  d_is_name : Df K mg "is_name" s_is_name p_is_name a_is_name e_is_name
  a_is_depth : Addr
  e_is_depth : FuncData
  d_is_depth : Df K mg "is_depth" s_is_depth p_is_depth a_is_depth e_is_depth
  a_is_place : Addr
  e_is_place : FuncData
  d_is_place : Df K mg "is_place" s_is_place p_is_place a_is_place e_is_place
  a_first_word : Addr
  e_first_word : FuncData
  d_first_word : Df K mg "first_word" s_first_word p_first_word a_first_word e_first_word
  a_is_source : Addr
  e_is_source : FuncData
  d_is_source : Df K mg "is_source" s_is_source p_is_source a_is_source e_is_source
  a_is_source_list : Addr
  e_is_source_list : FuncData
  d_is_source_list : Df K mg "is_source_list" s_is_source_list p_is_source_list a_is_source_list e_is_source_list
  a_is_declared : Addr
  e_is_declared : FuncData
  d_is_declared : Df K mg "is_declared" s_is_declared p_is_declared a_is_declared e_is_declared
  a_is_statement : Addr
  e_is_statement : FuncData
  d_is_statement : Df K mg "is_statement" s_is_statement p_is_statement a_is_statement e_is_statement
  a_Function_init : Addr
  e_Function_init : FuncData
  d_Function_init : Dm K "__init__" "Function.__init__" s_Function_init p_Function_init a_Function_init e_Function_init
  a_Program_init : Addr
  e_Program_init : FuncData
  d_Program_init : Dm K "__init__" "Program.__init__" s_Program_init p_Program_init a_Program_init e_Program_init
  a_copied : Addr
  e_copied : FuncData
  d_copied : Df K mg "copied" s_copied p_copied a_copied e_copied
  a_copied_statement : Addr
  e_copied_statement : FuncData
  d_copied_statement : Df K mg "copied_statement" s_copied_statement p_copied_statement a_copied_statement e_copied_statement
  a_copied_statements : Addr
  e_copied_statements : FuncData
  d_copied_statements : Df K mg "copied_statements" s_copied_statements p_copied_statements a_copied_statements e_copied_statements
  a_copied_function : Addr
  e_copied_function : FuncData
  d_copied_function : Df K mg "copied_function" s_copied_function p_copied_function a_copied_function e_copied_function
  a_copied_functions : Addr
  e_copied_functions : FuncData
  d_copied_functions : Df K mg "copied_functions" s_copied_functions p_copied_functions a_copied_functions e_copied_functions
  a_is_program : Addr
  e_is_program : FuncData
  d_is_program : Df K mg "is_program" s_is_program p_is_program a_is_program e_is_program
  a_is_function : Addr
  e_is_function : FuncData
  d_is_function : Df K mg "is_function" s_is_function p_is_function a_is_function e_is_function
  a_are_statements : Addr
  e_are_statements : FuncData
  d_are_statements : Df K mg "are_statements" s_are_statements p_are_statements a_are_statements e_are_statements
  a_declared : Addr
  e_declared : FuncData
  d_declared : Df K mg "declared" s_declared p_declared a_declared e_declared
  a_declared_by_lets : Addr
  e_declared_by_lets : FuncData
  d_declared_by_lets : Df K mg "declared_by_lets" s_declared_by_lets p_declared_by_lets a_declared_by_lets e_declared_by_lets
  a_all_names : Addr
  e_all_names : FuncData
  d_all_names : Df K mg "all_names" s_all_names p_all_names a_all_names e_all_names
  a_all_kinds : Addr
  e_all_kinds : FuncData
  d_all_kinds : Df K mg "all_kinds" s_all_kinds p_all_kinds a_all_kinds e_all_kinds
  a_are_different : Addr
  e_are_different : FuncData
  d_are_different : Df K mg "are_different" s_are_different p_are_different a_are_different e_are_different
  a_are_of_one_kind : Addr
  e_are_of_one_kind : FuncData
  d_are_of_one_kind : Df K mg "are_of_one_kind" s_are_of_one_kind p_are_of_one_kind a_are_of_one_kind e_are_of_one_kind
  a_all_calls_fit : Addr
  e_all_calls_fit : FuncData
  d_all_calls_fit : Df K mg "all_calls_fit" s_all_calls_fit p_all_calls_fit a_all_calls_fit e_all_calls_fit
  a_calls_fit : Addr
  e_calls_fit : FuncData
  d_calls_fit : Df K mg "calls_fit" s_calls_fit p_calls_fit a_calls_fit e_calls_fit
  a__law_cell : Addr
  e__law_cell : FuncData
  d__law_cell : Df K mg "_law_cell" s__law_cell p__law_cell a__law_cell e__law_cell
  a__law_row : Addr
  e__law_row : FuncData
  d__law_row : Df K mg "_law_row" s__law_row p__law_row a__law_row e__law_row
  a__law_draw : Addr
  e__law_draw : FuncData
  d__law_draw : Df K mg "_law_draw" s__law_draw p__law_draw a__law_draw e__law_draw
  a__law_accepts : Addr
  e__law_accepts : FuncData
  d__law_accepts : Df K mg "_law_accepts" s__law_accepts p__law_accepts a__law_accepts e__law_accepts
  a__law_let : Addr
  e__law_let : FuncData
  d__law_let : Df K mg "_law_let" s__law_let p__law_let a__law_let e__law_let
  a__law_counts : Addr
  e__law_counts : FuncData
  d__law_counts : Df K mg "_law_counts" s__law_counts p__law_counts a__law_counts e__law_counts
  a__law_within_functions : Addr
  e__law_within_functions : FuncData
  d__law_within_functions : Df K mg "_law_within_functions" s__law_within_functions p__law_within_functions a__law_within_functions e__law_within_functions
  C_RightsError : Addr
  g_RightsError : mg "RightsError" = some (.ref C_RightsError)
  n_RightsError_reason : PySem.W.findIn K (.ref C_RightsError) "reason" = some none
  o_RightsError : OexC K C_RightsError
  x_RightsError : XfC K C_RightsError
  i_RightsError : PySem.W.findIn K (.ref C_RightsError) "__init__" = some (some (.ref a_RightsError_init))
  t_RightsError : PySem.W.typeIn K (.ref a_RightsError_init) = some (.type "function")
  s_RightsError : PySem.W.exmOne K (.ref C_RightsError) (.ref C_RightsError) = some true
  C_Function : Addr
  g_Function : mg "Function" = some (.ref C_Function)
  n_Function_name : PySem.W.findIn K (.ref C_Function) "name" = some none
  n_Function_params : PySem.W.findIn K (.ref C_Function) "params" = some none
  n_Function_body : PySem.W.findIn K (.ref C_Function) "body" = some none
  c_Function : Cls K C_Function
  k_Function : Mk K C_Function a_Function_init
  i_Function : Ist K C_Function
  C_Program : Addr
  g_Program : mg "Program" = some (.ref C_Program)
  n_Program_functions : PySem.W.findIn K (.ref C_Program) "functions" = some none
  n_Program_statements : PySem.W.findIn K (.ref C_Program) "statements" = some none
  c_Program : Cls K C_Program
  k_Program : Mk K C_Program a_Program_init
  i_Program : Ist K C_Program
  vV : PySem.W.findCls K (.type "ValueError") (.type "type") "__init__" = some (.val (.builtin "ValueError.__init__"))
  a_RIGHTS : Addr
  m_RIGHTS : mg "RIGHTS" = some (.ref a_RIGHTS)
  t_RIGHTS : ∀ H, SqT K H a_RIGHTS [.str "rw", .str "r", .str "w", .str "-"]
  k_MOST_RIGHTS : Tok
  m_MOST_RIGHTS : mg "MOST_RIGHTS" = some (.int 6 k_MOST_RIGHTS)
  k_SIGNS : Tok
  m_SIGNS : mg "SIGNS" = some (.str "abcdefghijklmnopqrstuvwxyz" k_SIGNS)
  k_MOST_SIGNS : Tok
  m_MOST_SIGNS : mg "MOST_SIGNS" = some (.int 8 k_MOST_SIGNS)
  k_MOST_STARS : Tok
  m_MOST_STARS : mg "MOST_STARS" = some (.int 5 k_MOST_STARS)
  k_MOST_DEPTH : Tok
  m_MOST_DEPTH : mg "MOST_DEPTH" = some (.int 5 k_MOST_DEPTH)
  k_MOST_NUMBER : Tok
  m_MOST_NUMBER : mg "MOST_NUMBER" = some (.int 1000 k_MOST_NUMBER)
  k_MOST_FUNCTIONS : Tok
  m_MOST_FUNCTIONS : mg "MOST_FUNCTIONS" = some (.int 4 k_MOST_FUNCTIONS)
  k_MOST_PARAMS : Tok
  m_MOST_PARAMS : mg "MOST_PARAMS" = some (.int 4 k_MOST_PARAMS)
  k_MOST_IN_BODY : Tok
  m_MOST_IN_BODY : mg "MOST_IN_BODY" = some (.int 12 k_MOST_IN_BODY)
  k_MOST_STATEMENTS : Tok
  m_MOST_STATEMENTS : mg "MOST_STATEMENTS" = some (.int 40 k_MOST_STATEMENTS)
  b_ValueError : mg "ValueError" = none
  b_str : mg "str" = none
  b_type : mg "type" = none
  b_len : mg "len" = none
  b_all : mg "all" = none
  b_tuple : mg "tuple" = none
  b_int : mg "int" = none
  b_list : mg "list" = none
  b_isinstance : mg "isinstance" = none
  b_set : mg "set" = none
  b_range : mg "range" = none
  b_abs : mg "abs" = none
  b_bool : mg "bool" = none
local macro_rules | `(tactic| walk_at "s") => `(tactic| with_reducible first
  | refine w_seq ?_ | refine w_asg ?_ | refine w_name ?_ | refine w_if ?_ | refine w_ret ?_ | refine w_drop ?_ | refine w_next ?_ | refine w_brk ?_ | refine w_cont ?_
  | (refine w_var (v := ?vv) ?hh ?_; (case hh => with_unfolding_all exact rfl))
  | refine w_c ?_ | refine w_op ?_ | refine w_un ?_ | refine w_I0 ?_ | refine w_neg ?_ | refine w_eqI ?_ | refine w_neI ?_ | refine w_eqS ?_ | refine w_neS ?_ | refine w_eqB ?_ | refine w_neB ?_
  | refine w_test ?_ | refine w_B ?_ | refine w_and ?_ | refine w_or ?_ | refine w_not ?_ | refine w_andV ?_ | refine w_orV ?_ | refine w_notV ?_ | refine w_ifE ?_ | refine w_yes ?_
  | refine w_nil ?_ | refine w_cons ?_ | refine w_CB ?_ | refine w_callN ?_ | refine w_BM ?_ | refine w_BMT ?_ | refine w_BM0 ?_ | refine w_noPart ?_ | refine w_part ?_ | refine w_sl ?_ | refine w_tup ?_ | refine w_lst ?_
  | refine w_subG ?_ | refine w_gcons ?_ | refine w_gnil ?_ | refine w_for ?_ | refine w_lc ?_ | refine w_iR1 ?_ | refine w_iR2 ?_ | refine w_iL ?_ | refine w_iT ?_ | refine w_iS ?_
  | (show ∃ k, V.bl _ = V.bl k ∧ _; refine ⟨_, rfl, ?_⟩) | (show ∃ k, V.int _ = V.int k ∧ _; refine ⟨_, rfl, ?_⟩)
  | refine iteT ?_ | refine iteF ?_ | refine iteNT ?_ | refine iteNF ?_ | refine r_S ?_ | refine c_S ?_ | refine a_abs ?_ | refine a_intI ?_ | refine a_intB ?_ | refine w_par ?_ | refine w_dK ?_ | refine w_chain ?_ | (show ∃ v w, [_, _] = [v, w] ∧ _; refine ⟨_, _, rfl, ?_⟩)
  | refine w_getF ?_ | refine w_setF ?_ | refine w_newI ?_ | refine w_callS ?_ | refine w_getD1 ?_ | refine w_putD ?_ | refine w_veI ?_ | refine w_ostI ?_ | refine w_mkO ?_
  | refine a_isNn ?_ | refine a_isNr ?_ | refine a_notNn ?_ | refine a_notNr ?_ | refine a_isTy ?_ | refine a_notTy ?_ | refine a_isBl ?_ | refine a_notBl ?_)
local macro_rules | `(tactic| walk_at "r") => `(tactic| repeat walk_at "s")
local macro_rules | `(tactic| walk_at "tr") => `(tactic| first
  | assumption
  | (refine ex_at (H := ?H0) ?h1 ?h2; (case h2 => assumption); (case h1 => walk_at "tr"))
  | (refine ks_at (H := ?H0) (S := ?S0) ?h1 ?h2 ?h3; (case h2 => assumption); (case h3 => walk_at "nin"); (case h1 => walk_at "tr")))
local macro_rules | `(tactic| walk_at "nin") => `(tactic| first
  | exact nin_nil | (refine nin_cons ?h1 ?h2; (case h1 => walk_at "ne"); (case h2 => walk_at "nin")))
local macro_rules | `(tactic| walk_at "ne") => `(tactic| first
  | assumption | exact Ne.symm (by assumption)
  | (refine bx_nb (H := ?H0) (r := ?r0) ?h1 ?h2; (case h2 => assumption); (case h1 => walk_at "bx"))
  | (refine bx_nr (H := ?H0) (b := ?b0) ?h1 ?h2; (case h2 => assumption); (case h1 => walk_at "bx"))
  | (refine Ne.symm (bx_nb (H := ?H0) (r := ?r0) ?h1 ?h2); (case h2 => assumption); (case h1 => walk_at "bx"))
  | (refine ne_old (H := ?H0) (o := ?o0) ?h1 ?h2; (case h2 => assumption); (case h1 => walk_at "tr"))
  | (refine Ne.symm (ne_old (H := ?H0) (o := ?o0) ?h1 ?h2); (case h2 => assumption); (case h1 => walk_at "tr"))
  | exact (Tu.ne (by assumption) (by assumption)).1 | exact (Tu.ne (by assumption) (by assumption)).2
  | (refine bx_rb (H := ?H0) ?h1; (case h1 => walk_at "bx")))
local macro_rules | `(tactic| walk_at "tu") => `(tactic| first
  | assumption
  | (refine Tu.ex (H := ?H0) ?h1 ?h2; (case h2 => assumption); (case h1 => walk_at "tu"))
  | (refine Tu.ks (H := ?H0) (S := ?S0) ?h1 ?h2 ?h3; (case h2 => assumption); (case h3 => walk_at "nin"); (case h1 => walk_at "tu")))
local macro_rules | `(tactic| walk_at "bx") => `(tactic| first
  | assumption
  | (refine bx_ex (H := ?H0) ?h1 ?h2; (case h2 => assumption); (case h1 => walk_at "bx"))
  | (refine bx_ks (H := ?H0) (S := ?S0) ?h1 ?h2 ?h3 ?h4; (case h2 => assumption); (case h3 => walk_at "nin"); (case h4 => walk_at "nin"); (case h1 => walk_at "bx")))
local macro_rules | `(tactic| walk_at "sl") => `(tactic| first
  | assumption | (refine SqL.of ?h1; (case h1 => walk_at "tr"))
  | (refine ex_sl (H := ?H0) ?h1 ?h2; (case h2 => assumption); (case h1 => walk_at "sl"))
  | (refine ks_sl (H := ?H0) (S := ?S0) ?h1 ?h2 ?h3; (case h2 => assumption); (case h3 => walk_at "nin"); (case h1 => walk_at "sl")))
local macro_rules | `(tactic| walk_at "st") => `(tactic| first
  | assumption | (refine Tu.st ?h1; (case h1 => walk_at "tu")) | (refine SqT.of ?h1; (case h1 => walk_at "tr"))
  | (refine ex_st (H := ?H0) ?h1 ?h2; (case h2 => assumption); (case h1 => walk_at "st"))
  | (refine ks_st (H := ?H0) (S := ?S0) ?h1 ?h2 ?h3; (case h2 => assumption); (case h3 => walk_at "nin"); (case h1 => walk_at "st")))
local macro_rules | `(tactic| walk_at "ex") => `(tactic| first
  | exact Ex.refl _ | assumption | (refine Ex.trans (H1 := ?H0) ?h1 ?h2; (case h2 => assumption); (case h1 => walk_at "ex")))
local macro_rules | `(tactic| walk_at "ks") => `(tactic| first
  | exact Ks.refl _ _ | assumption | (refine Ks.of ?h1; (case h1 => assumption)) | (refine Ks.trans (H1 := ?H0) ?h1 ?h2; (case h2 => first | assumption | (refine Ks.of ?h3; (case h3 => assumption))); (case h1 => walk_at "ks")))

section
variable {P : Program} {w : World} {K : PySem.W.Frag} {mg : Str → Option Value} {base : Heap}
/-! ### the program: names, places, sources, statements -/
theorem ok_is_number (T : Tx K mg) : FnOk P w K mg base CX0 1 T.a_is_number T.e_is_number p_is_number (pNum K) := by
  refine T.d_is_number.F.ok sc_is_number (fun vs H Q E h => ?_) (fun cdv A outer s H vs Q E hr h => ?_)
  · obtain ⟨v, d, m, rfl, _⟩ := h
    rfl
  obtain ⟨v, d, m, rfl, hd, q⟩ := h
  refine ⟨_, (pss_one (ps_ret (pe_and (pe_cmpR k_isTy (pe_callTy (typK K) (by rfl) T.b_type (by decide +kernel) (pa_cons (pv 0) pa_nil)) (pe_bltn (v := .ty "int") (by rfl) T.b_int (by decide +kernel) rfl) (nomark _)) (pe_one (pe_chain op_le op_le pe_int (pv 0) (pv 1)))))), ?_⟩
  walk_at "r"
  refine ⟨v, _, rfl, dp_tag hd.1, ?_⟩
  walk_at "r"
  refine ite2 (fun c => ?_) (fun c => ?_)
  · obtain ⟨i, rfl, rfl⟩ := ds_int hd (of_decide_eq_true c)
    walk_at "r"
    refine ite2 (fun c1 => ?_) (fun c1 => ?_)
    · have g := q H (Ex.refl _)
      have e : numD (.int i) m = decide (i ≤ m) := by
        show (decide (0 ≤ i) && decide (i ≤ m)) = _
        rw [c1]
        rfl
      rw [e] at g
      walk_at "r"
      exact g
    · have g := q H (Ex.refl _)
      have e : numD (.int i) m = false := by
        show (decide (0 ≤ i) && decide (i ≤ m)) = _
        rw [Bool.eq_false_iff.mpr c1]
        rfl
      rw [e] at g
      exact g
  · have g := q H (Ex.refl _)
    have e : numD d m = false := by
      cases d <;> first | rfl | exact absurd rfl (not_tag c)
    rw [e] at g
    exact g
theorem ok_is_depth (T : Tx K mg) : FnOk P w K mg base CX0 2 T.a_is_depth T.e_is_depth p_is_depth (pF1 K fun d => numD d 5) := by
  refine T.d_is_depth.F.ok sc_is_depth (fun vs H Q E h => ?_) (fun cdv A outer s H vs Q E hr h => ?_)
  · obtain ⟨v, d, rfl, _⟩ := h
    rfl
  obtain ⟨v, d, rfl, hd, q⟩ := h
  refine ⟨_, (pss_one (ps_ret (pe_call (ok_is_number T) (hr.mono (by omega)) (by rfl) T.d_is_number.m T.d_is_number.F.kp T.d_is_number.b .nil pass0 (pa_cons (pv 0) (pa_cons (pe_glob (v := .int 5) (by rfl) T.m_MOST_DEPTH ⟨_, rfl⟩) pa_nil))))), ?_⟩
  walk_at "r"
  exact ⟨v, d, 5, rfl, hd, q⟩
theorem ok_is_right (T : Tx K mg) : FnOk P w K mg base CX0 1 T.a_is_right T.e_is_right p_is_right (pF1 K irD) := by
  refine T.d_is_right.F.ok sc_is_right (fun vs H Q E h => ?_) (fun cdv A outer s H vs Q E hr h => ?_)
  · obtain ⟨v, d, rfl, _⟩ := h
    rfl
  obtain ⟨v, d, rfl, hd, q⟩ := h
  refine ⟨_, (pss_one (ps_ret (pe_and (pe_cmpR k_isTy (pe_callTy (typK K) (by rfl) T.b_type (by decide +kernel) (pa_cons (pv 0) pa_nil)) (pe_bltn (v := .ty "str") (by rfl) T.b_str (by decide +kernel) rfl) (nomark _)) (pe_one (pe_cmpR (inK K) (pv 0) (pe_glob (v := .ref T.a_RIGHTS) (by rfl) T.m_RIGHTS rfl) (by rfl)))))), ?_⟩
  walk_at "r"
  refine ⟨v, _, rfl, dp_tag hd.1, ?_⟩
  walk_at "r"
  have g := q H (Ex.refl _)
  refine ite2 (fun c => ?_) (fun c => ?_)
  · obtain ⟨x, rfl, rfl, _⟩ := ds_str hd (of_decide_eq_true c)
    walk_at "r"
    exact a_inT (T.t_RIGHTS _) rfl rfl g
  · rw [irD_tag (not_tag c)] at g
    exact g
theorem ok_is_value_type (T : Tx K mg) : FnOk P w K mg base CX0 2 T.a_is_value_type T.e_is_value_type p_is_value_type (pF1 K vtyD) := by
  refine T.d_is_value_type.F.ok sc_is_value_type (fun vs H Q E h => ?_) (fun cdv A outer s H vs Q E hr h => ?_)
  · obtain ⟨v, d, rfl, _⟩ := h
    rfl
  obtain ⟨v, d, rfl, hd, q⟩ := h
  refine ⟨_, (pss_cons (ps_if (PW.pt (pw_or (pt_cmpR k_notTy (pe_callTy (typK K) (by rfl) T.b_type (by decide +kernel) (pa_cons (pv 0) pa_nil)) (pe_bltn (v := .ty "tuple") (by rfl) T.b_tuple (by decide +kernel) rfl) (nomark _)) (pw_or1 (pt_cmpR op_gt (pe_callB (lenK K) (by rfl) T.b_len PySem.boot_len (pa_cons (pv 0) pa_nil)) (pe_glob (v := .int 6) (by rfl) T.m_MOST_RIGHTS ⟨_, rfl⟩) (nomark _))))) (pss_one (ps_ret pe_bl)) pss_nil)
    (pss_one (ps_ret (pe_callB (allK K) (by rfl) T.b_all (by decide +kernel) (pa_cons (pe_lc (own := [("part", 1)]) (g := gName 1) rfl sc_is_value_type.nd  (ptK K (pv 0)) (blkOk_by (own := [("part", 1)]) (N := n_is_value_type) (sc := defScope s_is_value_type) (by decide +kernel)) (fun _ _ _ _ _ => (pg_name (i := 1) sc_is_value_type.nd rfl (Or.inl rfl))) (fun _ _ _ _ _ => pts_nil) (fun _ _ _ _ _ => (pe_call (ok_is_right T) (hr.mono (by omega)) (by rfl) T.d_is_right.m T.d_is_right.F.kp T.d_is_right.b .nil pass0 (pa_cons (pv 1) pa_nil)))) pa_nil))))), ?_⟩
  walk_at "r"
  refine ⟨v, _, rfl, dp_tag hd.1, ?_⟩
  walk_at "r"
  have g := q H (Ex.refl _)
  refine ite2 (fun c => ?_) (fun c => ?_)
  · rw [vtyD_tag (fun z => by rw [z] at c; exact absurd c (by decide))] at g
    walk_at "r"
    exact g
  · obtain ⟨p, xs, ds, rfl, rfl, hT, hD, hs, hl⟩ := ds_tup hd (Decidable.byContradiction fun z => c (by rw [decide_eq_false z]; rfl))
    change Q (.bl (vtD ds)) H at g
    walk_at "r"
    refine a_lenT hT ?_
    walk_at "r"
    refine ite2 (fun c => ?_) (fun c => ?_)
    · have := of_decide_eq_true c
      rw [vt_nil ds (by omega)] at g
      walk_at "r"
      exact g
    · have h6 : ds.length ≤ 6 := by
        have := of_decide_eq_false (nf c)
        omega
      walk_at "r"
      refine c_T hT ?_
      refine cp_tup (xs := xs) (fun l k h => Ex H h ∧ h l = some (.lst (((ds.take k).map irD).map V.bl))) (fun l n => ⟨Ex.new n, upd_same⟩) (fun l k h _ _ g => ex_st hT g.1) ?_ ?_
      · rintro l k x h nl hx ⟨e, f⟩
        obtain ⟨d, hd', dx⟩ := ds_at hD hs hx
        have hk := at_lt hx
        walk_at "r"
        refine ⟨rfl, ?_⟩
        walk_at "r"
        refine ⟨x, d, rfl, ds_ex dx e, fun H1 e1 => ?_⟩
        refine ⟨_, e1 _ _ f, sz_lt (by rw [bools_len]; omega), (e.trans e1).mut nl, ?_⟩
        rw [upd_same, bools_snoc irD hd']
      · rintro l h nl ⟨e, f⟩
        walk_at "r"
        rw [hl, List.take_length] at f
        refine ⟨l, _, rfl, SqL.of f, ?_⟩
        rw [bools_all, ← vt_all ds h6]
        exact q _ e
theorem ok_is_type (T : Tx K mg) : FnOk P w K mg base CX0 3 T.a_is_type T.e_is_type p_is_type (pF1 K typD) := by
  refine T.d_is_type.F.ok sc_is_type (fun vs H Q E h => ?_) (fun cdv A outer s H vs Q E hr h => ?_)
  · obtain ⟨v, d, rfl, _⟩ := h
    rfl
  obtain ⟨v, d, rfl, hd, q⟩ := h
  refine ⟨_, (pss_one (ps_ret (pe_and (pe_call (ok_is_value_type T) (hr.mono (by omega)) (by rfl) T.d_is_value_type.m T.d_is_value_type.F.kp T.d_is_value_type.b .nil pass0 (pa_cons (pv 0) pa_nil)) (pe_one (pe_cmpR op_gt (pe_callB (lenK K) (by rfl) T.b_len PySem.boot_len (pa_cons (pv 0) pa_nil)) pe_int (nomark _)))))), ?_⟩
  walk_at "r"
  refine ⟨v, d, rfl, hd, fun H1 e1 => ?_⟩
  have g := q H1 e1
  rw [typD_eq] at g
  walk_at "r"
  refine ite2 (fun c => ?_) (fun c => ?_)
  · obtain ⟨p, xs, ds, rfl, rfl, hT, hD, hs, hl⟩ := ds_tup hd (Decidable.byContradiction fun z => by rw [vtyD_tag z] at c; cases c)
    walk_at "r"
    refine a_lenT (ex_st hT e1) ?_
    walk_at "r"
    rw [c, Bool.true_and] at g
    have e2 : decide (0 < lenD (.tuple ds)) = decide ((0 : Int) < (xs.length : Int)) := by
      rw [hl]
      show decide (0 < ds.length) = _
      by_cases z : 0 < ds.length
      · rw [decide_eq_true z, decide_eq_true (by omega)]
      · rw [decide_eq_false z, decide_eq_false (by omega)]
    rw [e2] at g
    exact g
  · rw [nf c] at g
    exact g
theorem ok_is_name (T : Tx K mg) : FnOk P w K mg base CX0 1 T.a_is_name T.e_is_name p_is_name (pF1 K nameD) := by
  refine T.d_is_name.F.ok sc_is_name (fun vs H Q E h => ?_) (fun cdv A outer s H vs Q E hr h => ?_)
  · obtain ⟨v, d, rfl, _⟩ := h
    rfl
  obtain ⟨v, d, rfl, hd, q⟩ := h
  refine ⟨_, (pss_cons (ps_if (PW.pt (pw_or (pt_cmpR k_notTy (pe_callTy (typK K) (by rfl) T.b_type (by decide +kernel) (pa_cons (pv 0) pa_nil)) (pe_bltn (v := .ty "str") (by rfl) T.b_str (by decide +kernel) rfl) (nomark _)) (pw_or (pt_cmpR op_eq (pv 0) pe_str (nomark _)) (pw_or1 (pt_not (pt_chain op_le op_le pe_int (pe_callB k_lenS (by rfl) T.b_len PySem.boot_len (pa_cons (pv 0) pa_nil)) (pe_glob (v := .int 8) (by rfl) T.m_MOST_SIGNS ⟨_, rfl⟩))))))) (pss_one (ps_ret pe_bl)) pss_nil)
    (pss_one (ps_ret (pe_callB (allK K) (by rfl) T.b_all (by decide +kernel) (pa_cons (pe_lc (own := [("sign", 1)]) (g := gName 1) rfl sc_is_name.nd  (pi_str (pv 0)) (blkOk_by (own := [("sign", 1)]) (N := n_is_name) (sc := defScope s_is_name) (by decide +kernel)) (fun _ _ _ _ _ => (pg_name (i := 1) sc_is_name.nd rfl (Or.inl rfl))) (fun _ _ _ _ _ => pts_nil) (fun _ _ _ _ _ => (pe_cmpR k_inS (pv 1) (pe_glob (v := .str "abcdefghijklmnopqrstuvwxyz") (by rfl) T.m_SIGNS ⟨_, rfl⟩) (by rfl)))) pa_nil))))), ?_⟩
  walk_at "r"
  refine ⟨v, _, rfl, dp_tag hd.1, ?_⟩
  walk_at "r"
  have g := q H (Ex.refl _)
  refine ite2 (fun c => ?_) (fun c => ?_)
  · rw [nameD_tag (fun z => by rw [z] at c; exact absurd c (by decide))] at g
    walk_at "r"
    exact g
  · obtain ⟨x, rfl, rfl, hl⟩ := ds_str hd (Decidable.byContradiction fun z => c (by rw [decide_eq_false z]; rfl))
    change Q (.bl (!decide (x = "null") && (decide (1 ≤ x.length) && decide (x.length ≤ 8)) && x.cps.toList.all sgOk)) H at g
    walk_at "r"
    refine ite2 (fun c1 => ?_) (fun c1 => ?_)
    · walk_at "r"
      rw [c1] at g
      exact g
    · rw [nf c1] at g
      walk_at "r"
      refine a_lenS hl ?_
      walk_at "r"
      refine ite2 (fun c2 => ?_) (fun c2 => ?_)
      · walk_at "r"
        have c2' := of_decide_eq_true c2
        rw [decide_eq_true (show 1 ≤ x.length by omega)] at g
        refine ite2 (fun c3 => ?_) (fun c3 => ?_)
        · have c3' : ¬ x.length ≤ 8 := fun z => by
            rw [decide_eq_true (show (x.length : Int) ≤ 8 by omega)] at c3
            cases c3
          rw [decide_eq_false c3'] at g
          walk_at "r"
          exact g
        · have c3' : x.length ≤ 8 := Decidable.byContradiction fun z => c3 (by
            rw [decide_eq_false (show ¬ (x.length : Int) ≤ 8 by omega)]
            rfl)
          rw [decide_eq_true c3'] at g
          change Q (.bl (x.cps.toList.all sgOk)) H at g
          walk_at "r"
          refine cp_chars (z := x) (fun l k h => Ex H h ∧ h l = some (.lst (((x.cps.toList.take k).map sgOk).map V.bl))) (fun l n => ⟨Ex.new n, upd_same⟩) ?_ ?_
          · rintro l k ch h nl hx ⟨e, f⟩
            have hk : k < x.length := (Array.getElem?_eq_some_iff.mp hx).1
            walk_at "r"
            refine ⟨rfl, ?_⟩
            walk_at "r"
            refine a_inS (b := sgOk ch) rfl ?_
            refine ⟨_, f, sz_lt (by rw [List.length_map, List.length_map, List.length_take]; omega), e.mut nl, ?_⟩
            rw [upd_same, chars_snoc hx]
          · rintro l h nl ⟨e, f⟩
            walk_at "r"
            have e3 : x.cps.toList.take x.cps.size = x.cps.toList := List.take_of_length_le (by simp)
            rw [e3] at f
            refine ⟨l, _, rfl, SqL.of f, ?_⟩
            have e4 : (x.cps.toList.map sgOk).all id = x.cps.toList.all sgOk := by
              rw [List.all_map]
              rfl
            rw [e4]
            have g2 := q h e
            change Q (.bl (!decide (x = "null") && (decide (1 ≤ x.length) && decide (x.length ≤ 8)) && x.cps.toList.all sgOk)) h at g2
            rw [nf c1, decide_eq_true (show 1 ≤ x.length by omega), decide_eq_true c3'] at g2
            exact g2
      · rw [decide_eq_false (fun z : 1 ≤ x.length => c2 (decide_eq_true (by omega)))] at g
        walk_at "r"
        exact g
theorem ok_is_place (T : Tx K mg) : FnOk P w K mg base CX0 2 T.a_is_place T.e_is_place p_is_place (pF1 K placeD) := by
  refine T.d_is_place.F.ok sc_is_place (fun vs H Q E h => ?_) (fun cdv A outer s H vs Q E hr h => ?_)
  · obtain ⟨v, d, rfl, _⟩ := h
    rfl
  obtain ⟨v, d, rfl, hd, q⟩ := h
  refine ⟨_, (pss_cons (ps_if (PW.pt (pw_or (pt_cmpR k_notTy (pe_callTy (typK K) (by rfl) T.b_type (by decide +kernel) (pa_cons (pv 0) pa_nil)) (pe_bltn (v := .ty "tuple") (by rfl) T.b_tuple (by decide +kernel) rfl) (nomark _)) (pw_or1 (pt_cmpR op_ne (pe_callB (lenK K) (by rfl) T.b_len PySem.boot_len (pa_cons (pv 0) pa_nil)) pe_int (nomark _))))) (pss_one (ps_ret pe_bl)) pss_nil)
    (pss_one (ps_ret (pe_and (pe_call (ok_is_name T) (hr.mono (by omega)) (by rfl) T.d_is_name.m T.d_is_name.F.kp T.d_is_name.b .nil pass0 (pa_cons (pe_ix (ixT K) (pv 0) pe_int (fun _ _ => rfl)) pa_nil)) (pe_one (pe_call (ok_is_number T) (hr.mono (by omega)) (by rfl) T.d_is_number.m T.d_is_number.F.kp T.d_is_number.b .nil pass0 (pa_cons (pe_ix (ixT K) (pv 0) pe_int (fun _ _ => rfl)) (pa_cons (pe_glob (v := .int 5) (by rfl) T.m_MOST_STARS ⟨_, rfl⟩) pa_nil)))))))), ?_⟩
  walk_at "r"
  refine ⟨v, _, rfl, dp_tag hd.1, ?_⟩
  walk_at "r"
  have g := q H (Ex.refl _)
  refine ite2 (fun c => ?_) (fun c => ?_)
  · rw [placeD_tag (fun z => by rw [z] at c; exact absurd c (by decide))] at g
    walk_at "r"
    exact g
  · obtain ⟨p, xs, ds, rfl, rfl, hT, hD, hs, hl⟩ := ds_tup hd (Decidable.byContradiction fun z => c (by rw [decide_eq_false z]; rfl))
    have e0 : placeD (.tuple ds) = (decide (ds.length = 2) && (nameD (nthD (.tuple ds) 0) && numD (nthD (.tuple ds) 1) 5)) := rfl
    walk_at "r"
    refine a_lenT hT ?_
    walk_at "r"
    refine ite2 (fun c => ?_) (fun c => ?_)
    · have c' : ¬ ds.length = 2 := fun z => by
        rw [hl, decide_eq_true (show (ds.length : Int) = 2 by omega)] at c
        cases c
      rw [e0, decide_eq_false c'] at g
      walk_at "r"
      exact g
    · have c' : ds.length = 2 := Decidable.byContradiction fun z => c (by
        rw [hl, decide_eq_false (show ¬ (ds.length : Int) = 2 by omega)]
        rfl)
      rw [decide_eq_true c', Bool.true_and] at e0
      walk_at "r"
      refine a_nthS (i := 0) hT hD hs (by omega) fun v0 d0 => ?_
      walk_at "r"
      refine ⟨v0, _, rfl, d0, fun H1 e1 => ?_⟩
      have g1 := q H1 e1
      rw [e0] at g1
      walk_at "r"
      refine ite2 (fun k => ?_) (fun k => ?_)
      · walk_at "r"
        refine a_nthS (i := 1) (ex_st hT e1) (dpa_ex e1 hD) hs (by omega) fun v1 d1 => ?_
        walk_at "r"
        refine ⟨v1, _, 5, rfl, d1, fun H2 e2 => ?_⟩
        have g2 := q H2 (e1.trans e2)
        rw [e0, k] at g2
        exact g2
      · rw [nf k] at g1
        exact g1
def pFw (K : PySem.W.Frag) : Sp := fun vs H Q _ => ∃ v d, vs = [v] ∧ Ds K H v d ∧ RV1 (.str (fwD d)) H Q
theorem ok_first_word (T : Tx K mg) : FnOk P w K mg base CX0 1 T.a_first_word T.e_first_word p_first_word (pFw K) := by
  refine T.d_first_word.F.ok sc_first_word (fun vs H Q E h => ?_) (fun cdv A outer s H vs Q E hr h => ?_)
  · obtain ⟨v, d, rfl, _⟩ := h
    rfl
  obtain ⟨v, d, rfl, hd, q⟩ := h
  refine ⟨_, (pss_cons (ps_if (PW.pt (pw_or (pt_cmpR k_notTy (pe_callTy (typK K) (by rfl) T.b_type (by decide +kernel) (pa_cons (pv 0) pa_nil)) (pe_bltn (v := .ty "tuple") (by rfl) T.b_tuple (by decide +kernel) rfl) (nomark _)) (pw_or1 (pt_cmpR op_eq (pe_callB (lenK K) (by rfl) T.b_len PySem.boot_len (pa_cons (pv 0) pa_nil)) pe_int (nomark _))))) (pss_one (ps_ret pe_str)) pss_nil)
    (pss_cons (ps_set (i := 1) sc_first_word.nd rfl (.inl rfl) (pe_ix (ixT K) (pv 0) pe_int (fun _ _ => rfl)))
    (pss_cons (ps_if (pt_cmpR k_notTy (pe_callTy (typK K) (by rfl) T.b_type (by decide +kernel) (pa_cons (pv 1) pa_nil)) (pe_bltn (v := .ty "str") (by rfl) T.b_str (by decide +kernel) rfl) (nomark _)) (pss_one (ps_ret pe_str)) pss_nil)
    (pss_one (ps_ret (pv 1)))))), ?_⟩
  walk_at "r"
  refine ⟨v, _, rfl, dp_tag hd.1, ?_⟩
  walk_at "r"
  have g := q H (Ex.refl _)
  refine ite2 (fun c => ?_) (fun c => ?_)
  · rw [fw_no (.inl (fun z => by rw [z] at c; exact absurd c (by decide)))] at g
    walk_at "r"
    exact g
  · obtain ⟨p, xs, ds, rfl, rfl, hT, hD, hs, hl⟩ := ds_tup hd (Decidable.byContradiction fun z => c (by rw [decide_eq_false z]; rfl))
    walk_at "r"
    refine a_lenT hT ?_
    walk_at "r"
    refine ite2 (fun c => ?_) (fun c => ?_)
    · have c' := of_decide_eq_true c
      rw [fw_no (d := .tuple ds) (.inr (.inl (show ds.length = 0 by omega)))] at g
      walk_at "r"
      exact g
    · have c' : 0 < ds.length := by
        have := of_decide_eq_false (nf c)
        omega
      walk_at "r"
      refine a_nthS (i := 0) hT hD hs (by omega) fun v0 d0 => ?_
      walk_at "r"
      refine ⟨v0, _, rfl, dp_tag d0.1, ?_⟩
      walk_at "r"
      refine ite2 (fun c => ?_) (fun c => ?_)
      · rw [fw_no (.inr (.inr (fun z => by rw [z] at c; exact absurd c (by decide))))] at g
        walk_at "r"
        exact g
      · obtain ⟨x, rfl, ex, _⟩ := ds_str d0 (Decidable.byContradiction fun z => c (by rw [decide_eq_false z]; rfl))
        rw [fw_str c' ex] at g
        walk_at "r"
        exact g
theorem word_tup {H : Hp} {v : V} {d : PyData} (h : Ds K H v d) (n : fwD d ≠ "") : ∃ p xs ds, v = .ref p ∧ d = .tuple ds ∧ SqT K H p xs ∧ DpAll K H xs ds ∧ smAll ds = true ∧ xs.length = ds.length := by
  obtain ⟨ds, e, _⟩ := fw_ne n
  exact ds_tup h (by rw [e]; rfl)
theorem dec_len {xs : List V} {ds : List PyData} (h : xs.length = ds.length) (n : Nat) (m : Int) (e : m = (n : Int)) : decide ((xs.length : Int) = m) = decide (lenD (.tuple ds) = n) := by
  show _ = decide (ds.length = n)
  subst e
  rw [h]
  by_cases z : ds.length = n
  · rw [decide_eq_true z, decide_eq_true (by omega)]
  · rw [decide_eq_false z, decide_eq_false (by omega)]
theorem ok_is_source (T : Tx K mg) : FnOk P w K mg base CX0 3 T.a_is_source T.e_is_source p_is_source (pF1 K srcD) := by
  refine T.d_is_source.F.ok sc_is_source (fun vs H Q E h => ?_) (fun cdv A outer s H vs Q E hr h => ?_)
  · obtain ⟨v, d, rfl, _⟩ := h
    rfl
  obtain ⟨v, d, rfl, hd, q⟩ := h
  refine ⟨_, (pss_cons (ps_set (i := 1) sc_is_source.nd rfl (.inl rfl) (pe_call (ok_first_word T) (hr.mono (by omega)) (by rfl) T.d_first_word.m T.d_first_word.F.kp T.d_first_word.b .nil pass0 (pa_cons (pv 0) pa_nil)))
    (pss_cons (ps_if (pt_cmpR op_eq (pv 1) pe_str (nomark _)) (pss_one (ps_ret (pe_cmpR op_eq (pe_callB (lenK K) (by rfl) T.b_len PySem.boot_len (pa_cons (pv 0) pa_nil)) pe_int (nomark _)))) pss_nil)
    (pss_cons (ps_if (pt_cmpR op_eq (pv 1) pe_str (nomark _)) (pss_one (ps_ret (pe_and (pe_cmpR op_eq (pe_callB (lenK K) (by rfl) T.b_len PySem.boot_len (pa_cons (pv 0) pa_nil)) pe_int (nomark _)) (pe_one (pe_call (ok_is_number T) (hr.mono (by omega)) (by rfl) T.d_is_number.m T.d_is_number.F.kp T.d_is_number.b .nil pass0 (pa_cons (pe_ix (ixT K) (pv 0) pe_int (fun _ _ => rfl)) (pa_cons (pe_glob (v := .int 1000) (by rfl) T.m_MOST_NUMBER ⟨_, rfl⟩) pa_nil))))))) pss_nil)
    (pss_one (ps_ret (pe_and (pe_cmpR (inK K) (pv 1) (pe_tup (pa_cons pe_str (pa_cons pe_str pa_nil))) (by rfl)) (pe_and (pe_cmpR op_eq (pe_callB (lenK K) (by rfl) T.b_len PySem.boot_len (pa_cons (pv 0) pa_nil)) pe_int (nomark _)) (pe_one (pe_call (ok_is_place T) (hr.mono (by omega)) (by rfl) T.d_is_place.m T.d_is_place.F.kp T.d_is_place.b .nil pass0 (pa_cons (pe_ix (ixT K) (pv 0) pe_int (fun _ _ => rfl)) pa_nil)))))))))), ?_⟩
  walk_at "r"
  refine ⟨v, d, rfl, hd, fun H1 e1 => ?_⟩
  have g := q H1 e1
  unfold srcD at g
  walk_at "r"
  refine ite2 (fun c => ?_) (fun c => ?_)
  · have c' := of_decide_eq_true c
    obtain ⟨p, xs, ds, rfl, rfl, hT, hD, hs, hl⟩ := word_tup hd (by rw [c']; decide)
    rw [if_pos c'] at g
    walk_at "r"
    refine a_lenT (ex_st hT e1) ?_
    walk_at "r"
    rw [← dec_len hl 1 1 rfl] at g
    exact g
  have c' := of_decide_eq_false (nf c)
  rw [if_neg c'] at g
  walk_at "r"
  refine ite2 (fun c2 => ?_) (fun c2 => ?_)
  · have c2' := of_decide_eq_true c2
    obtain ⟨p, xs, ds, rfl, rfl, hT, hD, hs, hl⟩ := word_tup hd (by rw [c2']; decide)
    rw [if_pos c2', ← dec_len hl 2 2 rfl] at g
    walk_at "r"
    refine a_lenT (ex_st hT e1) ?_
    walk_at "r"
    refine ite2 (fun k => ?_) (fun k => ?_)
    · rw [k, Bool.true_and] at g
      have h2 : ds.length = 2 := by
        have := of_decide_eq_true k
        omega
      walk_at "r"
      refine a_nthS (i := 1) (ex_st hT e1) (dpa_ex e1 hD) hs (by omega) fun v1 d1 => ?_
      walk_at "r"
      refine ⟨v1, _, 1000, rfl, d1, fun H2 e2 => ?_⟩
      have g2 := q H2 (e1.trans e2)
      unfold srcD at g2
      rw [if_neg c', if_pos c2', ← dec_len hl 2 2 rfl, k, Bool.true_and] at g2
      exact g2
    · rw [nf k] at g
      exact g
  have c2' := of_decide_eq_false (nf c2)
  rw [if_neg c2'] at g
  walk_at "r"
  refine new_tup (by simp) fun t H2 n2 e2 f2 => ?_
  walk_at "r"
  refine a_inT (SqT.of f2) rfl rfl ?_
  have g2 := q H2 (e1.trans e2)
  unfold srcD at g2
  rw [if_neg c', if_neg c2'] at g2
  walk_at "r"
  refine ite2 (fun k => ?_) (fun k => ?_)
  · have n0 : fwD d ≠ "" := fun z => by
      rw [z] at k
      exact absurd k (by decide)
    obtain ⟨p, xs, ds, rfl, rfl, hT, hD, hs, hl⟩ := word_tup hd n0
    rw [k, Bool.true_and, ← dec_len hl 2 2 rfl] at g2
    walk_at "r"
    refine a_lenT (ex_st hT (e1.trans e2)) ?_
    walk_at "r"
    refine ite2 (fun k2 => ?_) (fun k2 => ?_)
    · have h2 : ds.length = 2 := by
        have := of_decide_eq_true k2
        omega
      walk_at "r"
      refine a_nthS (i := 1) (ex_st hT (e1.trans e2)) (dpa_ex (e1.trans e2) hD) hs (by omega) fun v1 d1 => ?_
      walk_at "r"
      refine ⟨v1, _, rfl, d1, fun H3 e3 => ?_⟩
      have g3 := q H3 ((e1.trans e2).trans e3)
      unfold srcD at g3
      rw [if_neg c', if_neg c2', k, Bool.true_and, ← dec_len hl 2 2 rfl, k2, Bool.true_and] at g3
      exact g3
    · rw [nf k2] at g2
      exact g2
  · rw [nf k] at g2
    exact g2
theorem ok_is_source_list (T : Tx K mg) : FnOk P w K mg base CX0 4 T.a_is_source_list T.e_is_source_list p_is_source_list (pF1 K srcsD) := by
  refine T.d_is_source_list.F.ok sc_is_source_list (fun vs H Q E h => ?_) (fun cdv A outer s H vs Q E hr h => ?_)
  · obtain ⟨v, d, rfl, _⟩ := h
    rfl
  obtain ⟨v, d, rfl, hd, q⟩ := h
  refine ⟨_, (pss_one (ps_ret (pe_and (pe_cmpR k_isTy (pe_callTy (typK K) (by rfl) T.b_type (by decide +kernel) (pa_cons (pv 0) pa_nil)) (pe_bltn (v := .ty "list") (by rfl) T.b_list (by decide +kernel) rfl) (nomark _)) (pe_one (pe_callB (allK K) (by rfl) T.b_all (by decide +kernel) (pa_cons (pe_lc (own := [("part", 1)]) (g := gName 1) rfl sc_is_source_list.nd  (plK K (pv 0)) (blkOk_by (own := [("part", 1)]) (N := n_is_source_list) (sc := defScope s_is_source_list) (by decide +kernel)) (fun _ _ _ _ _ => (pg_name (i := 1) sc_is_source_list.nd rfl (Or.inl rfl))) (fun _ _ _ _ _ => pts_nil) (fun _ _ _ _ _ => (pe_call (ok_is_source T) (hr.mono (by omega)) (by rfl) T.d_is_source.m T.d_is_source.F.kp T.d_is_source.b .nil pass0 (pa_cons (pv 1) pa_nil)))) pa_nil)))))), ?_⟩
  walk_at "r"
  refine ⟨v, _, rfl, dp_tag hd.1, ?_⟩
  walk_at "r"
  have g := q H (Ex.refl _)
  refine ite2 (fun c => ?_) (fun c => ?_)
  · obtain ⟨p, xs, ds, rfl, rfl, hL, hD, hs, hz, hl⟩ := ds_lst hd (of_decide_eq_true c)
    walk_at "r"
    refine c_L hL ?_
    refine cp_list (xs := xs) (fun l k h => Ex H h ∧ h l = some (.lst (((ds.take k).map srcD).map V.bl))) (fun l n => ⟨Ex.new n, upd_same⟩) (fun l k h _ _ g => ex_sl hL g.1) ?_ ?_
    · rintro l k x h nl hx ⟨e, f⟩
      obtain ⟨d, hd', dx⟩ := ds_at hD hs hx
      have hk := at_lt hx
      walk_at "r"
      refine ⟨rfl, ?_⟩
      walk_at "r"
      refine ⟨x, d, rfl, ds_ex dx e, fun H1 e1 => ?_⟩
      refine ⟨_, e1 _ _ f, sz_lt (by rw [bools_len]; omega), (e.trans e1).mut nl, ?_⟩
      rw [upd_same, bools_snoc srcD hd']
    · rintro l h nl ⟨e, f⟩
      walk_at "r"
      rw [hl, List.take_length] at f
      refine ⟨l, _, rfl, SqL.of f, ?_⟩
      rw [bools_all]
      exact q _ e
  · rw [srcsD_tag (not_tag c)] at g
    exact g
theorem ok_is_declared (T : Tx K mg) : FnOk P w K mg base CX0 4 T.a_is_declared T.e_is_declared p_is_declared (pF1 K declD) := by
  refine T.d_is_declared.F.ok sc_is_declared (fun vs H Q E h => ?_) (fun cdv A outer s H vs Q E hr h => ?_)
  · obtain ⟨v, d, rfl, _⟩ := h
    rfl
  obtain ⟨v, d, rfl, hd, q⟩ := h
  refine ⟨_, (pss_cons (ps_if (PW.pt (pw_or (pt_cmpR k_notTy (pe_callTy (typK K) (by rfl) T.b_type (by decide +kernel) (pa_cons (pv 0) pa_nil)) (pe_bltn (v := .ty "tuple") (by rfl) T.b_tuple (by decide +kernel) rfl) (nomark _)) (pw_or1 (pt_cmpR op_ne (pe_callB (lenK K) (by rfl) T.b_len PySem.boot_len (pa_cons (pv 0) pa_nil)) pe_int (nomark _))))) (pss_one (ps_ret pe_bl)) pss_nil)
    (pss_one (ps_ret (pe_and (pe_call (ok_is_name T) (hr.mono (by omega)) (by rfl) T.d_is_name.m T.d_is_name.F.kp T.d_is_name.b .nil pass0 (pa_cons (pe_ix (ixT K) (pv 0) pe_int (fun _ _ => rfl)) pa_nil)) (pe_one (pe_or (pe_call (ok_is_type T) (hr.mono (by omega)) (by rfl) T.d_is_type.m T.d_is_type.F.kp T.d_is_type.b .nil pass0 (pa_cons (pe_ix (ixT K) (pv 0) pe_int (fun _ _ => rfl)) pa_nil)) (pe_one (pe_call (ok_is_depth T) (hr.mono (by omega)) (by rfl) T.d_is_depth.m T.d_is_depth.F.kp T.d_is_depth.b .nil pass0 (pa_cons (pe_ix (ixT K) (pv 0) pe_int (fun _ _ => rfl)) pa_nil))))))))), ?_⟩
  walk_at "r"
  refine ⟨v, _, rfl, dp_tag hd.1, ?_⟩
  walk_at "r"
  have g := q H (Ex.refl _)
  refine ite2 (fun c => ?_) (fun c => ?_)
  · rw [declD_tag (fun z => by rw [z] at c; exact absurd c (by decide))] at g
    walk_at "r"
    exact g
  · obtain ⟨p, xs, ds, rfl, rfl, hT, hD, hs, hl⟩ := ds_tup hd (Decidable.byContradiction fun z => c (by rw [decide_eq_false z]; rfl))
    have e0 : declD (.tuple ds) = (decide (ds.length = 2) && (nameD (nthD (.tuple ds) 0) && (typD (nthD (.tuple ds) 1) || numD (nthD (.tuple ds) 1) 5))) := rfl
    walk_at "r"
    refine a_lenT hT ?_
    walk_at "r"
    refine ite2 (fun c => ?_) (fun c => ?_)
    · have c' : ¬ ds.length = 2 := fun z => by
        rw [hl, decide_eq_true (show (ds.length : Int) = 2 by omega)] at c
        cases c
      rw [e0, decide_eq_false c'] at g
      walk_at "r"
      exact g
    · have c' : ds.length = 2 := Decidable.byContradiction fun z => c (by
        rw [hl, decide_eq_false (show ¬ (ds.length : Int) = 2 by omega)]
        rfl)
      rw [decide_eq_true c', Bool.true_and] at e0
      walk_at "r"
      refine a_nthS (i := 0) hT hD hs (by omega) fun v0 d0 => ?_
      walk_at "r"
      refine ⟨v0, _, rfl, d0, fun H1 e1 => ?_⟩
      have g1 := q H1 e1
      rw [e0] at g1
      walk_at "r"
      refine ite2 (fun k => ?_) (fun k => ?_)
      · walk_at "r"
        refine a_nthS (i := 1) (ex_st hT e1) (dpa_ex e1 hD) hs (by omega) fun v1 d1 => ?_
        walk_at "r"
        refine ⟨v1, _, rfl, d1, fun H2 e2 => ?_⟩
        have g2 := q H2 (e1.trans e2)
        rw [e0, k] at g2
        walk_at "r"
        refine ite2 (fun k2 => ?_) (fun k2 => ?_)
        · rw [k2] at g2
          exact g2
        · rw [nf k2] at g2
          walk_at "r"
          refine a_nthS (i := 1) (ex_st hT (e1.trans e2)) (dpa_ex (e1.trans e2) hD) hs (by omega) fun v2 d2 => ?_
          walk_at "r"
          refine ⟨v2, _, rfl, d2, fun H3 e3 => ?_⟩
          have g3 := q H3 ((e1.trans e2).trans e3)
          rw [e0, k, nf k2] at g3
          exact g3
      · rw [nf k] at g1
        exact g1
theorem ok_is_statement (T : Tx K mg) : FnOk P w K mg base CX0 5 T.a_is_statement T.e_is_statement p_is_statement (pF1 K stmtD) := by
  refine T.d_is_statement.F.ok sc_is_statement (fun vs H Q E h => ?_) (fun cdv A outer s H vs Q E hr h => ?_)
  · obtain ⟨v, d, rfl, _⟩ := h
    rfl
  obtain ⟨v, d, rfl, hd, q⟩ := h
  refine ⟨_, (pss_cons (ps_set (i := 1) sc_is_statement.nd rfl (.inl rfl) (pe_call (ok_first_word T) (hr.mono (by omega)) (by rfl) T.d_first_word.m T.d_first_word.F.kp T.d_first_word.b .nil pass0 (pa_cons (pv 0) pa_nil)))
    (pss_cons (ps_if (pt_cmpR op_eq (pv 1) pe_str (nomark _)) (pss_one (ps_ret (pe_and (pe_cmpR op_eq (pe_callB (lenK K) (by rfl) T.b_len PySem.boot_len (pa_cons (pv 0) pa_nil)) pe_int (nomark _)) (pe_and (pe_call (ok_is_declared T) (hr.mono (by omega)) (by rfl) T.d_is_declared.m T.d_is_declared.F.kp T.d_is_declared.b .nil pass0 (pa_cons (pe_slice (slA K) (pv 0) (po_some pe_int) (po_some pe_int)) pa_nil)) (pe_one (pe_call (ok_is_source T) (hr.mono (by omega)) (by rfl) T.d_is_source.m T.d_is_source.F.kp T.d_is_source.b .nil pass0 (pa_cons (pe_ix (ixT K) (pv 0) pe_int (fun _ _ => rfl)) pa_nil))))))) pss_nil)
    (pss_cons (ps_if (pt_cmpR op_eq (pv 1) pe_str (nomark _)) (pss_one (ps_ret (pe_and (pe_cmpR op_eq (pe_callB (lenK K) (by rfl) T.b_len PySem.boot_len (pa_cons (pv 0) pa_nil)) pe_int (nomark _)) (pe_and (pe_call (ok_is_place T) (hr.mono (by omega)) (by rfl) T.d_is_place.m T.d_is_place.F.kp T.d_is_place.b .nil pass0 (pa_cons (pe_ix (ixT K) (pv 0) pe_int (fun _ _ => rfl)) pa_nil)) (pe_one (pe_call (ok_is_source T) (hr.mono (by omega)) (by rfl) T.d_is_source.m T.d_is_source.F.kp T.d_is_source.b .nil pass0 (pa_cons (pe_ix (ixT K) (pv 0) pe_int (fun _ _ => rfl)) pa_nil))))))) pss_nil)
    (pss_one (ps_ret (pe_and (pe_cmpR op_eq (pv 1) pe_str (nomark _)) (pe_and (pe_cmpR op_eq (pe_callB (lenK K) (by rfl) T.b_len PySem.boot_len (pa_cons (pv 0) pa_nil)) pe_int (nomark _)) (pe_and (pe_call (ok_is_name T) (hr.mono (by omega)) (by rfl) T.d_is_name.m T.d_is_name.F.kp T.d_is_name.b .nil pass0 (pa_cons (pe_ix (ixT K) (pv 0) pe_int (fun _ _ => rfl)) pa_nil)) (pe_one (pe_call (ok_is_source_list T) (hr.mono (by omega)) (by rfl) T.d_is_source_list.m T.d_is_source_list.F.kp T.d_is_source_list.b .nil pass0 (pa_cons (pe_ix (ixT K) (pv 0) pe_int (fun _ _ => rfl)) pa_nil))))))))))), ?_⟩
  walk_at "r"
  refine ⟨v, d, rfl, hd, fun H1 e1 => ?_⟩
  walk_at "r"
  have g := q H1 e1
  unfold stmtD at g
  refine ite2 (fun c => ?_) (fun c => ?_)
  · have c' := of_decide_eq_true c
    have es : stmtD d = (decide (lenD d = 4) && (declD (cut13 d) && srcD (nthD d 3))) := by
      unfold stmtD
      rw [if_pos c']
    rw [if_pos c'] at g
    obtain ⟨p, xs, ds, rfl, rfl, hT, hD, hs, hl⟩ := word_tup hd (by rw [c']; decide)
    walk_at "r"
    refine a_lenT (ex_st hT e1) ?_
    walk_at "r"
    rw [← dec_len hl 4 4 rfl] at g
    refine ite2 (fun k => ?_) (fun k => ?_)
    · rw [← dec_len hl 4 4 rfl, k, Bool.true_and] at es
      have h4 : ds.length = 4 := by
        have := of_decide_eq_true k
        omega
      walk_at "r"
      refine a_sl13 (ex_st hT e1) (by omega) fun t H2 _ e2 f2 => ?_
      walk_at "r"
      refine ⟨.ref t, cut13 (.tuple ds), rfl, ⟨.tup (SqT.of f2) (dpa_ex (e1.trans e2) (dpa_take 2 (dpa_drop 1 hD))), sm_tup (sm_take 2 (sm_drop 1 hs)) (by rw [List.length_take]; omega)⟩, fun H3 e3 => ?_⟩
      have e13 := (e1.trans e2).trans e3
      have g3 := q H3 e13
      rw [es] at g3
      walk_at "r"
      refine ite2 (fun k2 => ?_) (fun k2 => ?_)
      · walk_at "r"
        refine a_nthS (i := 3) (ex_st hT e13) (dpa_ex e13 hD) hs (by omega) fun v1 d1 => ?_
        walk_at "r"
        refine ⟨v1, _, rfl, d1, fun H4 e4 => ?_⟩
        have g4 := q H4 (e13.trans e4)
        rw [es, k2, Bool.true_and] at g4
        exact g4
      · rw [nf k2] at g3
        exact g3
    · rw [nf k] at g
      exact g
  have c' := of_decide_eq_false (nf c)
  rw [if_neg c'] at g
  walk_at "r"
  refine ite2 (fun c2 => ?_) (fun c2 => ?_)
  · have c2' := of_decide_eq_true c2
    have es : stmtD d = (decide (lenD d = 3) && (placeD (nthD d 1) && srcD (nthD d 2))) := by
      unfold stmtD
      rw [if_neg c', if_pos c2']
    rw [if_pos c2'] at g
    obtain ⟨p, xs, ds, rfl, rfl, hT, hD, hs, hl⟩ := word_tup hd (by rw [c2']; decide)
    walk_at "r"
    refine a_lenT (ex_st hT e1) ?_
    walk_at "r"
    rw [← dec_len hl 3 3 rfl] at g
    refine ite2 (fun k => ?_) (fun k => ?_)
    · rw [← dec_len hl 3 3 rfl, k, Bool.true_and] at es
      have h3 : ds.length = 3 := by
        have := of_decide_eq_true k
        omega
      walk_at "r"
      refine a_nthS (i := 1) (ex_st hT e1) (dpa_ex e1 hD) hs (by omega) fun v1 d1 => ?_
      walk_at "r"
      refine ⟨v1, _, rfl, d1, fun H2 e2 => ?_⟩
      have e12 := e1.trans e2
      have g2 := q H2 e12
      rw [es] at g2
      walk_at "r"
      refine ite2 (fun k2 => ?_) (fun k2 => ?_)
      · walk_at "r"
        refine a_nthS (i := 2) (ex_st hT e12) (dpa_ex e12 hD) hs (by omega) fun v2 d2 => ?_
        walk_at "r"
        refine ⟨v2, _, rfl, d2, fun H4 e4 => ?_⟩
        have g4 := q H4 (e12.trans e4)
        rw [es, k2, Bool.true_and] at g4
        exact g4
      · rw [nf k2] at g2
        exact g2
    · rw [nf k] at g
      exact g
  have c2' := of_decide_eq_false (nf c2)
  have es : stmtD d = (decide (fwD d = "call") && (decide (lenD d = 3) && (nameD (nthD d 1) && srcsD (nthD d 2)))) := by
    unfold stmtD
    rw [if_neg c', if_neg c2']
  rw [if_neg c2'] at g
  walk_at "r"
  refine ite2 (fun c3 => ?_) (fun c3 => ?_)
  · have c3' := of_decide_eq_true c3
    obtain ⟨p, xs, ds, rfl, rfl, hT, hD, hs, hl⟩ := word_tup hd (by rw [c3']; decide)
    rw [c3, Bool.true_and, ← dec_len hl 3 3 rfl] at es g
    walk_at "r"
    refine a_lenT (ex_st hT e1) ?_
    walk_at "r"
    refine ite2 (fun k => ?_) (fun k => ?_)
    · rw [k, Bool.true_and] at es
      have h3 : ds.length = 3 := by
        have := of_decide_eq_true k
        omega
      walk_at "r"
      refine a_nthS (i := 1) (ex_st hT e1) (dpa_ex e1 hD) hs (by omega) fun v1 d1 => ?_
      walk_at "r"
      refine ⟨v1, _, rfl, d1, fun H2 e2 => ?_⟩
      have e12 := e1.trans e2
      have g2 := q H2 e12
      rw [es] at g2
      walk_at "r"
      refine ite2 (fun k2 => ?_) (fun k2 => ?_)
      · walk_at "r"
        refine a_nthS (i := 2) (ex_st hT e12) (dpa_ex e12 hD) hs (by omega) fun v2 d2 => ?_
        walk_at "r"
        refine ⟨v2, _, rfl, d2, fun H4 e4 => ?_⟩
        have g4 := q H4 (e12.trans e4)
        rw [es, k2, Bool.true_and] at g4
        exact g4
      · rw [nf k2] at g2
        exact g2
    · rw [nf k] at g
      exact g
  · rw [nf c3] at g
    exact g

end
end Ver

set_option Elab.async false
set_option linter.all false
set_option maxRecDepth 100000
set_option maxHeartbeats 4000000
namespace Ver
open PySem PySem.Spec PyProof.Rows L2 Evl
local macro_rules | `(tactic| walk_at "s") => `(tactic| with_reducible first
  | refine w_seq ?_ | refine w_asg ?_ | refine w_name ?_ | refine w_if ?_ | refine w_ret ?_ | refine w_drop ?_ | refine w_next ?_ | refine w_brk ?_ | refine w_cont ?_
  | (refine w_var (v := ?vv) ?hh ?_; (case hh => with_unfolding_all exact rfl))
  | refine w_c ?_ | refine w_op ?_ | refine w_un ?_ | refine w_I0 ?_ | refine w_neg ?_ | refine w_eqI ?_ | refine w_neI ?_ | refine w_eqS ?_ | refine w_neS ?_ | refine w_eqB ?_ | refine w_neB ?_
  | refine w_test ?_ | refine w_B ?_ | refine w_and ?_ | refine w_or ?_ | refine w_not ?_ | refine w_andV ?_ | refine w_orV ?_ | refine w_notV ?_ | refine w_ifE ?_ | refine w_yes ?_
  | refine w_nil ?_ | refine w_cons ?_ | refine w_CB ?_ | refine w_callN ?_ | refine w_BM ?_ | refine w_BMT ?_ | refine w_BM0 ?_ | refine w_noPart ?_ | refine w_part ?_ | refine w_sl ?_ | refine w_tup ?_ | refine w_lst ?_
  | refine w_subG ?_ | refine w_gcons ?_ | refine w_gnil ?_ | refine w_for ?_ | refine w_lc ?_ | refine w_iR1 ?_ | refine w_iR2 ?_ | refine w_iL ?_ | refine w_iT ?_ | refine w_iS ?_
  | (show ∃ k, V.bl _ = V.bl k ∧ _; refine ⟨_, rfl, ?_⟩) | (show ∃ k, V.int _ = V.int k ∧ _; refine ⟨_, rfl, ?_⟩)
  | refine iteT ?_ | refine iteF ?_ | refine iteNT ?_ | refine iteNF ?_ | refine r_S ?_ | refine c_S ?_ | refine a_abs ?_ | refine a_intI ?_ | refine a_intB ?_ | refine w_par ?_ | refine w_dK ?_ | refine w_chain ?_ | (show ∃ v w, [_, _] = [v, w] ∧ _; refine ⟨_, _, rfl, ?_⟩)
  | refine w_getF ?_ | refine w_setF ?_ | refine w_newI ?_ | refine w_callS ?_ | refine w_getD1 ?_ | refine w_putD ?_ | refine w_veI ?_ | refine w_ostI ?_ | refine w_mkO ?_
  | refine a_isNn ?_ | refine a_isNr ?_ | refine a_notNn ?_ | refine a_notNr ?_ | refine a_isTy ?_ | refine a_notTy ?_ | refine a_isBl ?_ | refine a_notBl ?_)
local macro_rules | `(tactic| walk_at "r") => `(tactic| repeat walk_at "s")
local macro_rules | `(tactic| walk_at "tr") => `(tactic| first
  | assumption
  | (refine ex_at (H := ?H0) ?h1 ?h2; (case h2 => assumption); (case h1 => walk_at "tr"))
  | (refine ks_at (H := ?H0) (S := ?S0) ?h1 ?h2 ?h3; (case h2 => assumption); (case h3 => walk_at "nin"); (case h1 => walk_at "tr")))
local macro_rules | `(tactic| walk_at "nin") => `(tactic| first
  | exact nin_nil | (refine nin_cons ?h1 ?h2; (case h1 => walk_at "ne"); (case h2 => walk_at "nin")))
local macro_rules | `(tactic| walk_at "ne") => `(tactic| first
  | assumption | exact Ne.symm (by assumption)
  | (refine bx_nb (H := ?H0) (r := ?r0) ?h1 ?h2; (case h2 => assumption); (case h1 => walk_at "bx"))
  | (refine bx_nr (H := ?H0) (b := ?b0) ?h1 ?h2; (case h2 => assumption); (case h1 => walk_at "bx"))
  | (refine Ne.symm (bx_nb (H := ?H0) (r := ?r0) ?h1 ?h2); (case h2 => assumption); (case h1 => walk_at "bx"))
  | (refine ne_old (H := ?H0) (o := ?o0) ?h1 ?h2; (case h2 => assumption); (case h1 => walk_at "tr"))
  | (refine Ne.symm (ne_old (H := ?H0) (o := ?o0) ?h1 ?h2); (case h2 => assumption); (case h1 => walk_at "tr"))
  | exact (Tu.ne (by assumption) (by assumption)).1 | exact (Tu.ne (by assumption) (by assumption)).2
  | (refine bx_rb (H := ?H0) ?h1; (case h1 => walk_at "bx")))
local macro_rules | `(tactic| walk_at "tu") => `(tactic| first
  | assumption
  | (refine Tu.ex (H := ?H0) ?h1 ?h2; (case h2 => assumption); (case h1 => walk_at "tu"))
  | (refine Tu.ks (H := ?H0) (S := ?S0) ?h1 ?h2 ?h3; (case h2 => assumption); (case h3 => walk_at "nin"); (case h1 => walk_at "tu")))
local macro_rules | `(tactic| walk_at "bx") => `(tactic| first
  | assumption
  | (refine bx_ex (H := ?H0) ?h1 ?h2; (case h2 => assumption); (case h1 => walk_at "bx"))
  | (refine bx_ks (H := ?H0) (S := ?S0) ?h1 ?h2 ?h3 ?h4; (case h2 => assumption); (case h3 => walk_at "nin"); (case h4 => walk_at "nin"); (case h1 => walk_at "bx")))
local macro_rules | `(tactic| walk_at "sl") => `(tactic| first
  | assumption | (refine SqL.of ?h1; (case h1 => walk_at "tr"))
  | (refine ex_sl (H := ?H0) ?h1 ?h2; (case h2 => assumption); (case h1 => walk_at "sl"))
  | (refine ks_sl (H := ?H0) (S := ?S0) ?h1 ?h2 ?h3; (case h2 => assumption); (case h3 => walk_at "nin"); (case h1 => walk_at "sl")))
local macro_rules | `(tactic| walk_at "st") => `(tactic| first
  | assumption | (refine Tu.st ?h1; (case h1 => walk_at "tu")) | (refine SqT.of ?h1; (case h1 => walk_at "tr"))
  | (refine ex_st (H := ?H0) ?h1 ?h2; (case h2 => assumption); (case h1 => walk_at "st"))
  | (refine ks_st (H := ?H0) (S := ?S0) ?h1 ?h2 ?h3; (case h2 => assumption); (case h3 => walk_at "nin"); (case h1 => walk_at "st")))
local macro_rules | `(tactic| walk_at "ex") => `(tactic| first
  | exact Ex.refl _ | assumption | (refine Ex.trans (H1 := ?H0) ?h1 ?h2; (case h2 => assumption); (case h1 => walk_at "ex")))
local macro_rules | `(tactic| walk_at "ks") => `(tactic| first
  | exact Ks.refl _ _ | assumption | (refine Ks.of ?h1; (case h1 => assumption)) | (refine Ks.trans (H1 := ?H0) ?h1 ?h2; (case h2 => first | assumption | (refine Ks.of ?h3; (case h3 => assumption))); (case h1 => walk_at "ks")))

section
variable {P : Program} {w : World} {K : PySem.W.Frag} {mg : Str → Option Value} {base : Heap}
/-! ### the program: copies -/
theorem ok_copied (T : Tx K mg) : FnOk P w K mg base CX0 1 T.a_copied T.e_copied p_copied (pCop K) := by
  refine T.d_copied.F.ok sc_copied (fun vs H Q E h => ?_) (fun cdv A outer s H vs Q E hr h => ?_)
  · obtain ⟨S, v, d, rfl, _⟩ := h
    rfl
  obtain ⟨S, v, d, rfl, al, hd, q1, q2⟩ := h
  refine ⟨_, (pss_cons (ps_if (pt_cmpR k_isTy (pe_callTy (typK K) (by rfl) T.b_type (by decide +kernel) (pa_cons (pv 0) pa_nil)) (pe_bltn (v := .ty "list") (by rfl) T.b_list (by decide +kernel) rfl) (nomark _)) (pss_one (ps_ret (pe_callTy (lstK K) (by rfl) T.b_list (by decide +kernel) (pa_cons (pv 0) pa_nil)))) pss_nil)
    (pss_one (ps_ret (pv 0)))), ?_⟩
  walk_at "r"
  refine ⟨v, _, rfl, dp_tag (dp_ex (dl_le S H) hd.1), ?_⟩
  walk_at "r"
  refine ite2 (fun c => ?_) (fun c => ?_)
  · obtain ⟨p, xs, ds, rfl, rfl, hL, hD, hs, hz, hl⟩ := ds_lst hd (of_decide_eq_true c)
    walk_at "r"
    refine a_lstL (sl_dl hL) fun q H1 n1 e1 f1 => ?_
    exact q2 ds rfl q xs H1 n1 e1 f1 (dpa_ex (dl_ex e1) hD)
  · walk_at "r"
    exact q1 (not_tag c)
theorem ok_copied_statement (T : Tx K mg) : FnOk P w K mg base CX0 2 T.a_copied_statement T.e_copied_statement p_copied_statement (pCs K) := by
  refine T.d_copied_statement.F.ok sc_copied_statement (fun vs H Q E h => ?_) (fun cdv A outer s H vs Q E hr h => ?_)
  · obtain ⟨S, v, d, rfl, _⟩ := h
    rfl
  obtain ⟨S, v, d, rfl, al, hd, q⟩ := h
  refine ⟨_, (pss_cons (ps_if (pt_cmpR k_notTy (pe_callTy (typK K) (by rfl) T.b_type (by decide +kernel) (pa_cons (pv 0) pa_nil)) (pe_bltn (v := .ty "tuple") (by rfl) T.b_tuple (by decide +kernel) rfl) (nomark _)) (pss_one (ps_ret (pv 0))) pss_nil)
    (pss_one (ps_ret (pe_callTy (tupFK K) (by rfl) T.b_tuple (by decide +kernel) (pa_cons (pe_lc (own := [("part", 1)]) (g := gName 1) rfl sc_copied_statement.nd  (ptK K (pv 0)) (blkOk_by (own := [("part", 1)]) (N := n_copied_statement) (sc := defScope s_copied_statement) (by decide +kernel)) (fun _ _ _ _ _ => (pg_name (i := 1) sc_copied_statement.nd rfl (Or.inl rfl))) (fun _ _ _ _ _ => pts_nil) (fun _ _ _ _ _ => (pe_call (ok_copied T) (hr.mono (by omega)) (by rfl) T.d_copied.m T.d_copied.F.kp T.d_copied.b .nil pass0 (pa_cons (pv 1) pa_nil)))) pa_nil))))), ?_⟩
  walk_at "r"
  refine ⟨v, _, rfl, dp_tag (dp_ex (dl_le S H) hd.1), ?_⟩
  walk_at "r"
  refine ite2 (fun c => ?_) (fun c => ?_)
  · walk_at "r"
    exact q v H (Ex.refl _) hd.1
  · obtain ⟨p, xs, ds, rfl, rfl, hT, hD, hs, hz, hl⟩ := ds_tupz hd (Decidable.byContradiction fun z => c (by rw [decide_eq_false z]; rfl))
    walk_at "r"
    refine c_T (st_dl hT) ?_
    refine cp_tup (xs := xs) (fun l k h => Ex H h ∧ Al (l :: S) h ∧ ∃ ys, h l = some (.lst ys) ∧ DpAll K (dl (l :: S) h) ys (ds.take k))
      (fun l n => ⟨Ex.new n, (al.ex (Ex.new n)).cons upd_same, [], upd_same, .nil⟩) (fun l k h _ _ g => ex_st (st_dl hT) g.1) ?_ ?_
    · rintro l k x h nl hx ⟨e, al2, ys, f, fD⟩
      obtain ⟨d, hd', dx⟩ := ds_at hD hs hx
      have hk := at_lt hx
      have yl := dpa_len fD
      rw [take_len hd'] at yl
      walk_at "r"
      refine ⟨rfl, ?_⟩
      walk_at "r"
      have dx2 : Ds K (dl (l :: S) h) x d := ds_ex dx (dl_new nl e)
      refine ⟨l :: S, x, d, rfl, al2, dx2, fun _ => ?_, fun es ed q ys2 H1 n1 e1 f1 f2 => ?_⟩
      · refine ⟨ys, f, sz_lt (by omega), e.mut nl, ?_, ys ++ [x], upd_same, ?_⟩
        · exact Al.cons (fun a k => by
            by_cases z : a = l
            · rw [z, upd_same]; exact fun z => by cases z
            · rw [upd_ne z]; exact al2 a (List.mem_cons_of_mem _ k)) upd_same
        · rw [dl_upd (List.mem_cons_self ..), take_snoc hd']
          exact dpa_snoc fD dx2.1
      · refine ⟨ys, e1 _ _ f, sz_lt (by omega), (e.trans e1).mut nl, ?_, ys ++ [.ref q], upd_same, ?_⟩
        · exact Al.cons (fun a k => by
            by_cases z : a = l
            · rw [z, upd_same]; exact fun z => by cases z
            · rw [upd_ne z]; exact (al2.ex e1) a (List.mem_cons_of_mem _ k)) upd_same
        · rw [dl_upd (List.mem_cons_self ..), take_snoc hd']
          refine dpa_snoc (dpa_ex (dl_ex e1) fD) ?_
          rw [ed]
          exact .lst (SqL.of (dl_at (al2.nin n1) f1)) f2
    · rintro l h nl ⟨e, al2, ys, f, fD⟩
      rw [hl, List.take_length] at fD
      walk_at "r"
      refine a_tupFL (SqL.of f) fun t H1 n1 e1 f1 => ?_
      refine q _ H1 (e.trans e1) (.tup (Tu.st (tu_dl (fun k => al2.nin n1 (List.mem_cons_of_mem _ k)) f1)) (dpa_ex ((dl_sub (fun a k => List.mem_cons_of_mem _ k)).trans (dl_ex e1)) fD))
theorem ok_copied_statements (T : Tx K mg) : FnOk P w K mg base CX0 3 T.a_copied_statements T.e_copied_statements p_copied_statements (pCss K) := by
  refine T.d_copied_statements.F.ok sc_copied_statements (fun vs H Q E h => ?_) (fun cdv A outer s H vs Q E hr h => ?_)
  · obtain ⟨S, p, ds, rfl, _⟩ := h
    rfl
  obtain ⟨S, p, ds, rfl, al, ⟨⟨xs, hL, hD⟩, hs, hz⟩, q⟩ := h
  have hl := dpa_len hD
  refine ⟨_, (pss_cons (ps_if (pt_cmpR k_notTy (pe_callTy (typK K) (by rfl) T.b_type (by decide +kernel) (pa_cons (pv 0) pa_nil)) (pe_bltn (v := .ty "list") (by rfl) T.b_list (by decide +kernel) rfl) (nomark _)) (pss_one (ps_ret (pv 0))) pss_nil)
    (pss_one (ps_ret (pe_lc (own := [("statement", 1)]) (g := gName 1) rfl sc_copied_statements.nd  (plK K (pv 0)) (blkOk_by (own := [("statement", 1)]) (N := n_copied_statements) (sc := defScope s_copied_statements) (by decide +kernel)) (fun _ _ _ _ _ => (pg_name (i := 1) sc_copied_statements.nd rfl (Or.inl rfl))) (fun _ _ _ _ _ => pts_nil) (fun _ _ _ _ _ => (pe_call (ok_copied_statement T) (hr.mono (by omega)) (by rfl) T.d_copied_statement.m T.d_copied_statement.F.kp T.d_copied_statement.b .nil pass0 (pa_cons (pv 1) pa_nil))))))), ?_⟩
  walk_at "r"
  refine ⟨.ref p, _, rfl, .lst (sl_dl hL), ?_⟩
  walk_at "r"
  refine ite2 (fun c => absurd c (by decide)) (fun _ => ?_)
  walk_at "r"
  refine c_L (sl_dl hL) ?_
  refine cp_list (xs := xs) (fun l k h => Ex H h ∧ Al (l :: S) h ∧ ∃ ys, h l = some (.lst ys) ∧ DpAll K (dl (l :: S) h) ys (ds.take k))
    (fun l n => ⟨Ex.new n, (al.ex (Ex.new n)).cons upd_same, [], upd_same, .nil⟩) (fun l k h _ _ g => ex_sl (sl_dl hL) g.1) ?_ ?_
  · rintro l k x h nl hx ⟨e, al2, ys, f, fD⟩
    obtain ⟨d, hd', dx⟩ := ds_at hD hs hx
    have hk := at_lt hx
    have yl := dpa_len fD
    rw [take_len hd'] at yl
    walk_at "r"
    refine ⟨rfl, ?_⟩
    walk_at "r"
    refine ⟨l :: S, x, d, rfl, al2, ds_ex dx (dl_new nl e), fun v' H1 e1 f1 => ?_⟩
    refine ⟨ys, e1 _ _ f, sz_lt (by omega), (e.trans e1).mut nl, ?_, ys ++ [v'], upd_same, ?_⟩
    · exact Al.cons (fun a k => by
        by_cases z : a = l
        · rw [z, upd_same]; exact fun z => by cases z
        · rw [upd_ne z]; exact (al2.ex e1) a (List.mem_cons_of_mem _ k)) upd_same
    · rw [dl_upd (List.mem_cons_self ..), take_snoc hd']
      exact dpa_snoc (dpa_ex (dl_ex e1) fD) f1
  · rintro l h nl ⟨e, al2, ys, f, fD⟩
    rw [hl, List.take_length] at fD
    walk_at "r"
    exact q l ys h nl e f (dpa_ex (dl_sub (fun a k => List.mem_cons_of_mem _ k)) fD)

/-! ### the program: functions -/
theorem dl_lst {G : Hp} {p : Addr} {ds : List PyData} (h : Dl K G p ds) : Ds K G (.ref p) (.list ds) := by
  obtain ⟨xs, h1, h2⟩ := h.ex
  exact ⟨.lst h1 h2, sm_lst h.sm h.le⟩
theorem ok_Function_init (T : Tx K mg) : FnOk P w K mg base CX0 4 T.a_Function_init T.e_Function_init p_Function_init (pFi K T.C_Function) := by
  refine T.d_Function_init.F.ok sc_Function_init (fun vs H Q E h => ?_) (fun cdv A outer s H vs Q E hr h => ?_)
  · obtain ⟨S, a, dx, nv, pp, bp, f, rfl, _⟩ := h
    rfl
  obtain ⟨S, a, dx, nv, pp, bp, f, rfl, al, ha, fa, hn, hp, hb, q⟩ := h
  refine ⟨_, (pss_cons (ps_fld (pv 0) (pv 1) rfl)
    (pss_cons (ps_fld (pv 0) (pe_call (ok_copied T) (hr.mono (by omega)) (by rfl) T.d_copied.m T.d_copied.F.kp T.d_copied.b .nil pass0 (pa_cons (pv 2) pa_nil)) rfl)
    (pss_one (ps_fld (pv 0) (pe_call (ok_copied_statements T) (hr.mono (by omega)) (by rfl) T.d_copied_statements.m T.d_copied_statements.F.kp T.d_copied_statements.b .nil pass0 (pa_cons (pv 3) pa_nil)) rfl)))), ?_⟩
  walk_at "r"
  refine a_put T.c_Function T.n_Function_name fa (by decide) ?_
  have g1 : dl S (upd H a (.ins T.C_Function dx (putF "name" nv []))) = dl S H := dl_upd ha
  have al1 : Al S (upd H a (.ins T.C_Function dx (putF "name" nv []))) := al.upd
  have k1 : Ks [a] H (upd H a (.ins T.C_Function dx (putF "name" nv []))) := (Ks.refl _ _).upd (by simp)
  have f1 : (upd H a (.ins T.C_Function dx (putF "name" nv []))) a = some (.ins T.C_Function dx (putF "name" nv [])) := upd_same
  generalize upd H a (.ins T.C_Function dx (putF "name" nv [])) = H1 at g1 al1 k1 f1 ⊢
  rw [← g1] at hn hp hb
  walk_at "r"
  refine ⟨S, _, _, rfl, al1, dl_lst hp, fun z => absurd rfl z, fun ds ed q1 ys1 H2 n2 e2 f2 D2 => ?_⟩
  cases ed
  have na1 : q1 ≠ a := fun z => by rw [z, f1] at n2; cases n2
  walk_at "r"
  refine a_put T.c_Function T.n_Function_params (e2 _ _ f1) (put1_lt _ _) ?_
  have g3 : dl S (upd H2 a (.ins T.C_Function dx (putF "params" (.ref q1) (putF "name" nv [])))) = dl S H2 := dl_upd ha
  have al3 : Al S (upd H2 a (.ins T.C_Function dx (putF "params" (.ref q1) (putF "name" nv [])))) := (al1.ex e2).upd
  have k3 : Ks [a] H (upd H2 a (.ins T.C_Function dx (putF "params" (.ref q1) (putF "name" nv [])))) := (k1.trans (Ks.of e2)).upd (by simp)
  have f3 : (upd H2 a (.ins T.C_Function dx (putF "params" (.ref q1) (putF "name" nv [])))) a = some (.ins T.C_Function dx (putF "params" (.ref q1) (putF "name" nv []))) := upd_same
  have f3q : (upd H2 a (.ins T.C_Function dx (putF "params" (.ref q1) (putF "name" nv [])))) q1 = some (.lst ys1) := by rw [upd_ne na1]; exact f2
  generalize upd H2 a (.ins T.C_Function dx (putF "params" (.ref q1) (putF "name" nv []))) = H3 at g3 al3 k3 f3 f3q ⊢
  have e13 : Ex (dl S H1) (dl S H3) := by rw [g3]; exact dl_ex e2
  walk_at "r"
  refine ⟨S, _, _, rfl, al3, hb.up e13, fun q2 ys2 H4 n4 e4 f4 D4 => ?_⟩
  have na2 : q2 ≠ a := fun z => by rw [z, f3] at n4; cases n4
  have nq : q1 ≠ q2 := fun z => by rw [← z, f3q] at n4; cases n4
  walk_at "r"
  refine a_put T.c_Function T.n_Function_body (e4 _ _ f3) (put2_lt _ _ _ _) ?_
  walk_at "r"
  have e35 : Ex (dl S H2) (dl S (upd H4 a (.ins T.C_Function dx (fnF nv q1 q2)))) := by
    rw [dl_upd ha, ← g3]
    exact dl_ex e4
  refine q q1 q2 ys1 ys2 (upd H4 a (.ins T.C_Function dx (fnF nv q1 q2))) ((k3.trans (Ks.of e4)).upd (by simp)) (ks_none k1 n2 (by simpa using na1)) (ks_none k3 n4 (by simpa using na2)) nq upd_same (by rw [upd_ne na1]; exact e4 _ _ f3q) (by rw [upd_ne na2]; exact f4) (dpa_ex e35 D2) ?_
  rw [dl_upd ha]
  exact D4
theorem kit_self {C : Value} : PySem.W.kitOne K C C = some true := if_pos (beq_self_eq_true C)
theorem ok_copied_function (T : Tx K mg) : FnOk P w K mg base CX0 6 T.a_copied_function T.e_copied_function p_copied_function (pCf K T.C_Function) := by
  refine T.d_copied_function.F.ok sc_copied_function (fun vs H Q E h => ?_) (fun cdv A outer s H vs Q E hr h => ?_)
  · obtain ⟨S, a, f, rfl, _⟩ := h
    rfl
  obtain ⟨S, a, f, rfl, al, hf, q⟩ := h
  obtain ⟨dx, nv, p1, p2, fa, hn, hp, hb⟩ := hf.ex
  have fa' := dl_le S H _ _ fa
  have I := T.i_Function
  refine ⟨_, (pss_cons (ps_if (pt_not (pt_val (pe_callB (isiK K) (by rfl) T.b_isinstance (by decide +kernel) (pa_cons (pv 0) (pa_cons (pe_glob (v := .ref T.C_Function) (by rfl) T.g_Function rfl) pa_nil))))) (pss_one (ps_ret (pv 0))) pss_nil)
    (pss_one (ps_ret (pe_make T.k_Function (ok_Function_init T) (hr.mono (by omega)) (by rfl) T.g_Function T.d_Function_init.b .nil pass0 (pa_cons (by exact (fldK K (pv 0) rfl)) (pa_cons (by exact (fldK K (pv 0) rfl)) (pa_cons (by exact (fldK K (pv 0) rfl)) pa_nil))))))), ?_⟩
  walk_at "r"
  refine ⟨.ref a, .ref T.C_Function, .ref T.C_Function, .ref T.C_Function, true, rfl, .own _, .base (.ins fa' T.c_Function I.ha I.hn I.ht I.hm), kit_self, ?_⟩
  walk_at "r"
  refine a_get T.c_Function T.n_Function_name fa' (fn_name _ _ _) ?_
  walk_at "r"
  refine a_get T.c_Function T.n_Function_params fa' (fn_params _ _ _) ?_
  walk_at "r"
  refine a_get T.c_Function T.n_Function_body fa' (fn_body _ _ _) ?_
  walk_at "r"
  refine a_new fun x xd H1 n1 n2 n3 e1 f1 f2 => ?_
  have nx := al.nin n1
  have nd := al.nin n2
  have E1 : Ex (dl S H) (dl (x :: xd :: S) H1) := fun b o z => by
    by_cases h : b ∈ S
    · rw [dl_in h] at z
      cases z
    · rw [dl_nin h] at z
      rw [dl_nin (by
        intro k
        rcases List.mem_cons.mp k with k | k
        · rw [k, n1] at z; cases z
        rcases List.mem_cons.mp k with k | k
        · rw [k, n2] at z; cases z
        · exact h k)]
      exact e1 b o z
  refine ⟨x :: xd :: S, x, xd, nv, p1, p2, f, rfl, ((al.ex e1).cons f2).cons f1, List.mem_cons_self .., f1, ds_ex hn E1, hp.dl.up E1, hb.dl.up E1, fun q1 q2 ys1 ys2 H2 k2 m1 m2 nq g0 g1 g2 D1 D2 => ?_⟩
  have E2 : Ex (dl (x :: xd :: S) H2) (dl S H2) := dl_sub fun b k => List.mem_cons_of_mem _ (List.mem_cons_of_mem _ k)
  have E3 : Ex (dl (x :: xd :: S) H1) (dl (x :: xd :: S) H2) := dl_ks fun b o hb z => k2 b o (fun c => hb (by rw [List.mem_singleton] at c; rw [c]; exact List.mem_cons_self ..)) z
  have eH : Ex H H2 := fun b o z => k2 b o (fun c => by rw [List.mem_singleton] at c; rw [c, n1] at z; cases z) (e1 b o z)
  have al2 := al.ex e1
  refine ⟨rfl, q x H2 n1 eH ⟨xd, nv, q1, q2, dl_at nx g0, ds_ex hn (E1.trans (E3.trans E2)), ⟨⟨ys1, dl_at (al2.nin m1) g1, dpa_ex E2 D1⟩, hp.sm, hp.le⟩, ⟨⟨ys2, dl_at (al2.nin m2) g2, dpa_ex E2 D2⟩, hb.sm, hb.le⟩⟩ ⟨x, xd, nv, q1, q2, rfl, n1, g0, ex_none e1 m1, ex_none e1 m2⟩⟩
theorem ok_copied_functions (T : Tx K mg) : FnOk P w K mg base CX0 7 T.a_copied_functions T.e_copied_functions p_copied_functions (pCfs K T.C_Function) := by
  refine T.d_copied_functions.F.ok sc_copied_functions (fun vs H Q E h => ?_) (fun cdv A outer s H vs Q E hr h => ?_)
  · obtain ⟨S, p, xs, fs, rfl, _⟩ := h
    rfl
  obtain ⟨S, p, xs, fs, rfl, al, hL, hF, hz, q⟩ := h
  have hl := hF.len
  refine ⟨_, (pss_cons (ps_if (pt_cmpR k_notTy (pe_callTy (typK K) (by rfl) T.b_type (by decide +kernel) (pa_cons (pv 0) pa_nil)) (pe_bltn (v := .ty "list") (by rfl) T.b_list (by decide +kernel) rfl) (nomark _)) (pss_one (ps_ret (pv 0))) pss_nil)
    (pss_one (ps_ret (pe_lc (own := [("function", 1)]) (g := gName 1) rfl sc_copied_functions.nd  (plK K (pv 0)) (blkOk_by (own := [("function", 1)]) (N := n_copied_functions) (sc := defScope s_copied_functions) (by decide +kernel)) (fun _ _ _ _ _ => (pg_name (i := 1) sc_copied_functions.nd rfl (Or.inl rfl))) (fun _ _ _ _ _ => pts_nil) (fun _ _ _ _ _ => (pe_call (ok_copied_function T) (hr.mono (by omega)) (by rfl) T.d_copied_function.m T.d_copied_function.F.kp T.d_copied_function.b .nil pass0 (pa_cons (pv 1) pa_nil))))))), ?_⟩
  walk_at "r"
  refine ⟨.ref p, _, rfl, .lst (sl_dl hL), ?_⟩
  walk_at "r"
  refine ite2 (fun c => absurd c (by decide)) (fun _ => ?_)
  walk_at "r"
  refine c_L (sl_dl hL) ?_
  refine cp_list (xs := xs) (fun l k h => Ex H h ∧ Al (l :: S) h ∧ ∃ ys, h l = some (.lst ys) ∧ FnAll K T.C_Function (dl (l :: S) h) ys (fs.take k) ∧ ∀ v ∈ ys, NewF T.C_Function H h v)
    (fun l n => ⟨Ex.new n, (al.ex (Ex.new n)).cons upd_same, [], upd_same, .nil, fun v hv => by cases hv⟩) (fun l k h _ _ g => ex_sl (sl_dl hL) g.1) ?_ ?_
  · rintro l k x h nl hx ⟨e, al2, ys, f, fD, nw⟩
    obtain ⟨a, fd, rfl, hd', dx⟩ := hF.get hx
    have hk := at_lt hx
    have yl := fD.len
    rw [take_len hd'] at yl
    walk_at "r"
    refine ⟨rfl, ?_⟩
    walk_at "r"
    refine ⟨l :: S, a, fd, rfl, al2, dx.up (dl_new nl e), fun b H1 n1 e1 f1 nf => ?_⟩
    refine ⟨ys, e1 _ _ f, sz_lt (by omega), (e.trans e1).mut nl, (al2.ex e1).upd, ys ++ [.ref b], upd_same, ?_, fun v hv => ?_⟩
    · rw [dl_upd (List.mem_cons_self ..), take_snoc hd']
      exact FnAll.snoc f1 (fD.up (dl_ex e1))
    · rcases List.mem_append.mp hv with hv | hv
      · exact ((nw v hv).up e1).mut (e1 _ _ f)
      · rw [List.mem_singleton] at hv
        rw [hv]
        exact (nf.down e).mut (e1 _ _ f)
  · rintro l h nl ⟨e, al2, ys, f, fD, nw⟩
    rw [hl, List.take_length] at fD
    walk_at "r"
    exact q l ys h nl e f (fD.up (dl_sub (fun a k => List.mem_cons_of_mem _ k))) nw
theorem ok_are_statements (T : Tx K mg) : FnOk P w K mg base CX0 6 T.a_are_statements T.e_are_statements p_are_statements (pSts K) := by
  refine T.d_are_statements.F.ok sc_are_statements (fun vs H Q E h => ?_) (fun cdv A outer s H vs Q E hr h => ?_)
  · obtain ⟨p, ds, m, rfl, _⟩ := h
    rfl
  obtain ⟨p, ds, m, rfl, ⟨⟨xs, hL, hD⟩, hs, hz⟩, q⟩ := h
  have hl := dpa_len hD
  refine ⟨_, (pss_cons (ps_if (PW.pt (pw_or (pt_cmpR k_notTy (pe_callTy (typK K) (by rfl) T.b_type (by decide +kernel) (pa_cons (pv 0) pa_nil)) (pe_bltn (v := .ty "list") (by rfl) T.b_list (by decide +kernel) rfl) (nomark _)) (pw_or1 (pt_cmpR op_gt (pe_callB (lenK K) (by rfl) T.b_len PySem.boot_len (pa_cons (pv 0) pa_nil)) (pv 1) (nomark _))))) (pss_one (ps_ret pe_bl)) pss_nil)
    (pss_one (ps_ret (pe_callB (allK K) (by rfl) T.b_all (by decide +kernel) (pa_cons (pe_lc (own := [("part", 2)]) (g := gName 2) rfl sc_are_statements.nd  (plK K (pv 0)) (blkOk_by (own := [("part", 2)]) (N := n_are_statements) (sc := defScope s_are_statements) (by decide +kernel)) (fun _ _ _ _ _ => (pg_name (i := 2) sc_are_statements.nd rfl (Or.inl rfl))) (fun _ _ _ _ _ => pts_nil) (fun _ _ _ _ _ => (pe_call (ok_is_statement T) (hr.mono (by omega)) (by rfl) T.d_is_statement.m T.d_is_statement.F.kp T.d_is_statement.b .nil pass0 (pa_cons (pv 2) pa_nil)))) pa_nil))))), ?_⟩
  walk_at "r"
  refine ⟨.ref p, _, rfl, .lst hL, ?_⟩
  walk_at "r"
  refine ite2 (fun c => absurd c (by decide)) (fun _ => ?_)
  walk_at "r"
  refine a_lenL hL ?_
  walk_at "r"
  refine ite2 (fun c => ?_) (fun c => ?_)
  · have c' := of_decide_eq_true c
    have g := q H (Ex.refl _)
    unfold stsD at g
    rw [decide_eq_false (show ¬ ds.length ≤ m by omega)] at g
    walk_at "r"
    exact g
  have c' := of_decide_eq_false (nf c)
  walk_at "r"
  refine c_L hL ?_
  refine cp_list (xs := xs) (fun l k h => Ex H h ∧ h l = some (.lst (((ds.take k).map stmtD).map V.bl))) (fun l n => ⟨Ex.new n, upd_same⟩) (fun l k h _ _ g => ex_sl hL g.1) ?_ ?_
  · rintro l k x h nl hx ⟨e, f⟩
    obtain ⟨d, hd', dx⟩ := ds_at hD hs hx
    have hk := at_lt hx
    walk_at "r"
    refine ⟨rfl, ?_⟩
    walk_at "r"
    refine ⟨x, d, rfl, ds_ex dx e, fun H1 e1 => ?_⟩
    refine ⟨_, e1 _ _ f, sz_lt (by rw [bools_len]; omega), (e.trans e1).mut nl, ?_⟩
    rw [upd_same, bools_snoc stmtD hd']
  · rintro l h nl ⟨e, f⟩
    walk_at "r"
    rw [hl, List.take_length] at f
    refine ⟨l, _, rfl, SqL.of f, ?_⟩
    have g := q h e
    unfold stsD at g
    rw [decide_eq_true (show ds.length ≤ m by omega)] at g
    rw [bools_all]
    exact g
theorem ok_is_function (T : Tx K mg) : FnOk P w K mg base CX0 7 T.a_is_function T.e_is_function p_is_function (pIf K T.C_Function) := by
  refine T.d_is_function.F.ok sc_is_function (fun vs H Q E h => ?_) (fun cdv A outer s H vs Q E hr h => ?_)
  · obtain ⟨a, f, rfl, _⟩ := h
    rfl
  obtain ⟨a, f, rfl, hf, q⟩ := h
  obtain ⟨dx, nv, p1, p2, fa, hn, hp, hb⟩ := hf.ex
  obtain ⟨xs, hL, hD⟩ := hp.dl.ex
  have hl := dpa_len hD
  have I := T.i_Function
  have e0 : fnD f = (nameD f.n && (decide (f.p.length ≤ 4) && f.p.all declD) && stsD 12 f.b) := rfl
  refine ⟨_, (pss_cons (ps_if (PW.pt (pw_or (pt_not (pt_val (pe_callB (isiK K) (by rfl) T.b_isinstance (by decide +kernel) (pa_cons (pv 0) (pa_cons (pe_glob (v := .ref T.C_Function) (by rfl) T.g_Function rfl) pa_nil))))) (pw_or1 (pt_not (pt_val (pe_call (ok_is_name T) (hr.mono (by omega)) (by rfl) T.d_is_name.m T.d_is_name.F.kp T.d_is_name.b .nil pass0 (pa_cons (by exact (fldK K (pv 0) rfl)) pa_nil))))))) (pss_one (ps_ret pe_bl)) pss_nil)
    (pss_cons (ps_if (PW.pt (pw_or (pt_cmpR k_notTy (pe_callTy (typK K) (by rfl) T.b_type (by decide +kernel) (pa_cons (by exact (fldK K (pv 0) rfl)) pa_nil)) (pe_bltn (v := .ty "list") (by rfl) T.b_list (by decide +kernel) rfl) (nomark _)) (pw_or1 (pt_cmpR op_gt (pe_callB (lenK K) (by rfl) T.b_len PySem.boot_len (pa_cons (by exact (fldK K (pv 0) rfl)) pa_nil)) (pe_glob (v := .int 4) (by rfl) T.m_MOST_PARAMS ⟨_, rfl⟩) (nomark _))))) (pss_one (ps_ret pe_bl)) pss_nil)
    (pss_cons (ps_if (pt_not (pt_val (pe_callB (allK K) (by rfl) T.b_all (by decide +kernel) (pa_cons (pe_lc (own := [("param", 1)]) (g := gName 1) rfl sc_is_function.nd  (plK K (by exact (fldK K (pv 0) rfl))) (blkOk_by (own := [("param", 1)]) (N := n_is_function) (sc := defScope s_is_function) (by decide +kernel)) (fun _ _ _ _ _ => (pg_name (i := 1) sc_is_function.nd rfl (Or.inl rfl))) (fun _ _ _ _ _ => pts_nil) (fun _ _ _ _ _ => (pe_call (ok_is_declared T) (hr.mono (by omega)) (by rfl) T.d_is_declared.m T.d_is_declared.F.kp T.d_is_declared.b .nil pass0 (pa_cons (pv 1) pa_nil)))) pa_nil)))) (pss_one (ps_ret pe_bl)) pss_nil)
    (pss_one (ps_ret (pe_call (ok_are_statements T) (hr.mono (by omega)) (by rfl) T.d_are_statements.m T.d_are_statements.F.kp T.d_are_statements.b .nil pass0 (pa_cons (by exact (fldK K (pv 0) rfl)) (pa_cons (pe_glob (v := .int 12) (by rfl) T.m_MOST_IN_BODY ⟨_, rfl⟩) pa_nil)))))))), ?_⟩
  walk_at "r"
  refine ⟨.ref a, .ref T.C_Function, .ref T.C_Function, .ref T.C_Function, true, rfl, .own _, .base (.ins fa T.c_Function I.ha I.hn I.ht I.hm), kit_self, ?_⟩
  walk_at "r"
  refine a_get T.c_Function T.n_Function_name fa (fn_name _ _ _) ?_
  walk_at "r"
  refine ⟨nv, f.n, rfl, hn, fun H1 e1 => ?_⟩
  have g1 := q H1 e1
  rw [e0] at g1
  walk_at "r"
  refine ite2 (fun c => ?_) (fun c => ?_)
  · have c' : nameD f.n = false := by
      cases z : nameD f.n with
      | true => rw [z] at c; cases c
      | false => rfl
    rw [c'] at g1
    walk_at "r"
    exact g1
  have c1 : nameD f.n = true := by
    cases z : nameD f.n with
    | true => rfl
    | false => rw [z] at c; exact absurd rfl c
  rw [c1] at e0 g1
  walk_at "r"
  refine a_get T.c_Function T.n_Function_params (e1 _ _ fa) (fn_params _ _ _) ?_
  walk_at "r"
  refine ⟨.ref p1, _, rfl, .lst (ex_sl hL e1), ?_⟩
  walk_at "r"
  refine ite2 (fun c => absurd c (by decide)) (fun _ => ?_)
  walk_at "r"
  refine a_get T.c_Function T.n_Function_params (e1 _ _ fa) (fn_params _ _ _) ?_
  walk_at "r"
  refine a_lenL (ex_sl hL e1) ?_
  walk_at "r"
  refine ite2 (fun c => ?_) (fun c => ?_)
  · have c' := of_decide_eq_true c
    rw [decide_eq_false (show ¬ f.p.length ≤ 4 by omega)] at g1
    walk_at "r"
    exact g1
  have c2 := of_decide_eq_false (nf c)
  rw [decide_eq_true (show f.p.length ≤ 4 by omega)] at e0
  walk_at "r"
  refine a_get T.c_Function T.n_Function_params (e1 _ _ fa) (fn_params _ _ _) ?_
  walk_at "r"
  refine c_L (ex_sl hL e1) ?_
  refine cp_list (xs := xs) (fun l k h => Ex H1 h ∧ h l = some (.lst (((f.p.take k).map declD).map V.bl))) (fun l n => ⟨Ex.new n, upd_same⟩) (fun l k h _ _ g => ex_sl hL (e1.trans g.1)) ?_ ?_
  · rintro l k x h nl hx ⟨e, g⟩
    obtain ⟨d, hd', dx⟩ := ds_at hD hp.sm hx
    have hk := at_lt hx
    walk_at "r"
    refine ⟨rfl, ?_⟩
    walk_at "r"
    refine ⟨x, d, rfl, ds_ex dx (e1.trans e), fun H2 e2 => ?_⟩
    refine ⟨_, e2 _ _ g, sz_lt (by rw [bools_len]; omega), (e.trans e2).mut nl, ?_⟩
    rw [upd_same, bools_snoc declD hd']
  · rintro l h nl ⟨e, g⟩
    have eh := e1.trans e
    walk_at "r"
    rw [hl, List.take_length] at g
    refine ⟨l, _, rfl, SqL.of g, ?_⟩
    rw [bools_all]
    have g2 := q h eh
    rw [e0] at g2
    walk_at "r"
    refine ite2 (fun c => ?_) (fun c => ?_)
    · have c' : f.p.all declD = false := by
        cases z : f.p.all declD with
        | true => rw [z] at c; cases c
        | false => rfl
      rw [c'] at g2
      walk_at "r"
      exact g2
    have c3 : f.p.all declD = true := by
      cases z : f.p.all declD with
      | true => rfl
      | false => rw [z] at c; exact absurd rfl c
    rw [c3] at e0
    walk_at "r"
    refine a_get T.c_Function T.n_Function_body (eh _ _ fa) (fn_body _ _ _) ?_
    walk_at "r"
    refine ⟨p2, f.b, 12, rfl, hb.dl.up eh, fun H3 e3 => ?_⟩
    have g3 := q H3 (eh.trans e3)
    rw [e0] at g3
    exact g3

end
end Ver

set_option Elab.async false
set_option linter.all false
set_option maxRecDepth 100000
set_option maxHeartbeats 4000000
namespace Ver
open PySem PySem.Spec PyProof.Rows L2 Evl
local macro_rules | `(tactic| walk_at "s") => `(tactic| with_reducible first
  | refine w_seq ?_ | refine w_asg ?_ | refine w_name ?_ | refine w_if ?_ | refine w_ret ?_ | refine w_drop ?_ | refine w_next ?_ | refine w_brk ?_ | refine w_cont ?_
  | (refine w_var (v := ?vv) ?hh ?_; (case hh => with_unfolding_all exact rfl))
  | refine w_c ?_ | refine w_op ?_ | refine w_un ?_ | refine w_I0 ?_ | refine w_neg ?_ | refine w_eqI ?_ | refine w_neI ?_ | refine w_eqS ?_ | refine w_neS ?_ | refine w_eqB ?_ | refine w_neB ?_
  | refine w_test ?_ | refine w_B ?_ | refine w_and ?_ | refine w_or ?_ | refine w_not ?_ | refine w_andV ?_ | refine w_orV ?_ | refine w_notV ?_ | refine w_ifE ?_ | refine w_yes ?_
  | refine w_nil ?_ | refine w_cons ?_ | refine w_CB ?_ | refine w_callN ?_ | refine w_BM ?_ | refine w_BMT ?_ | refine w_BM0 ?_ | refine w_noPart ?_ | refine w_part ?_ | refine w_sl ?_ | refine w_tup ?_ | refine w_lst ?_
  | refine w_subG ?_ | refine w_gcons ?_ | refine w_gnil ?_ | refine w_for ?_ | refine w_lc ?_ | refine w_iR1 ?_ | refine w_iR2 ?_ | refine w_iL ?_ | refine w_iT ?_ | refine w_iS ?_
  | (show ∃ k, V.bl _ = V.bl k ∧ _; refine ⟨_, rfl, ?_⟩) | (show ∃ k, V.int _ = V.int k ∧ _; refine ⟨_, rfl, ?_⟩)
  | refine iteT ?_ | refine iteF ?_ | refine iteNT ?_ | refine iteNF ?_ | refine r_S ?_ | refine c_S ?_ | refine a_abs ?_ | refine a_intI ?_ | refine a_intB ?_ | refine w_par ?_ | refine w_dK ?_ | refine w_chain ?_ | (show ∃ v w, [_, _] = [v, w] ∧ _; refine ⟨_, _, rfl, ?_⟩)
  | refine w_getF ?_ | refine w_setF ?_ | refine w_newI ?_ | refine w_callS ?_ | refine w_getD1 ?_ | refine w_putD ?_ | refine w_veI ?_ | refine w_ostI ?_ | refine w_mkO ?_
  | refine a_isNn ?_ | refine a_isNr ?_ | refine a_notNn ?_ | refine a_notNr ?_ | refine a_isTy ?_ | refine a_notTy ?_ | refine a_isBl ?_ | refine a_notBl ?_)
local macro_rules | `(tactic| walk_at "r") => `(tactic| repeat walk_at "s")
local macro_rules | `(tactic| walk_at "tr") => `(tactic| first
  | assumption
  | (refine ex_at (H := ?H0) ?h1 ?h2; (case h2 => assumption); (case h1 => walk_at "tr"))
  | (refine ks_at (H := ?H0) (S := ?S0) ?h1 ?h2 ?h3; (case h2 => assumption); (case h3 => walk_at "nin"); (case h1 => walk_at "tr")))
local macro_rules | `(tactic| walk_at "nin") => `(tactic| first
  | exact nin_nil | (refine nin_cons ?h1 ?h2; (case h1 => walk_at "ne"); (case h2 => walk_at "nin")))
local macro_rules | `(tactic| walk_at "ne") => `(tactic| first
  | assumption | exact Ne.symm (by assumption)
  | (refine bx_nb (H := ?H0) (r := ?r0) ?h1 ?h2; (case h2 => assumption); (case h1 => walk_at "bx"))
  | (refine bx_nr (H := ?H0) (b := ?b0) ?h1 ?h2; (case h2 => assumption); (case h1 => walk_at "bx"))
  | (refine Ne.symm (bx_nb (H := ?H0) (r := ?r0) ?h1 ?h2); (case h2 => assumption); (case h1 => walk_at "bx"))
  | (refine ne_old (H := ?H0) (o := ?o0) ?h1 ?h2; (case h2 => assumption); (case h1 => walk_at "tr"))
  | (refine Ne.symm (ne_old (H := ?H0) (o := ?o0) ?h1 ?h2); (case h2 => assumption); (case h1 => walk_at "tr"))
  | exact (Tu.ne (by assumption) (by assumption)).1 | exact (Tu.ne (by assumption) (by assumption)).2
  | (refine bx_rb (H := ?H0) ?h1; (case h1 => walk_at "bx")))
local macro_rules | `(tactic| walk_at "tu") => `(tactic| first
  | assumption
  | (refine Tu.ex (H := ?H0) ?h1 ?h2; (case h2 => assumption); (case h1 => walk_at "tu"))
  | (refine Tu.ks (H := ?H0) (S := ?S0) ?h1 ?h2 ?h3; (case h2 => assumption); (case h3 => walk_at "nin"); (case h1 => walk_at "tu")))
local macro_rules | `(tactic| walk_at "bx") => `(tactic| first
  | assumption
  | (refine bx_ex (H := ?H0) ?h1 ?h2; (case h2 => assumption); (case h1 => walk_at "bx"))
  | (refine bx_ks (H := ?H0) (S := ?S0) ?h1 ?h2 ?h3 ?h4; (case h2 => assumption); (case h3 => walk_at "nin"); (case h4 => walk_at "nin"); (case h1 => walk_at "bx")))
local macro_rules | `(tactic| walk_at "sl") => `(tactic| first
  | assumption | (refine SqL.of ?h1; (case h1 => walk_at "tr"))
  | (refine ex_sl (H := ?H0) ?h1 ?h2; (case h2 => assumption); (case h1 => walk_at "sl"))
  | (refine ks_sl (H := ?H0) (S := ?S0) ?h1 ?h2 ?h3; (case h2 => assumption); (case h3 => walk_at "nin"); (case h1 => walk_at "sl")))
local macro_rules | `(tactic| walk_at "st") => `(tactic| first
  | assumption | (refine Tu.st ?h1; (case h1 => walk_at "tu")) | (refine SqT.of ?h1; (case h1 => walk_at "tr"))
  | (refine ex_st (H := ?H0) ?h1 ?h2; (case h2 => assumption); (case h1 => walk_at "st"))
  | (refine ks_st (H := ?H0) (S := ?S0) ?h1 ?h2 ?h3; (case h2 => assumption); (case h3 => walk_at "nin"); (case h1 => walk_at "st")))
local macro_rules | `(tactic| walk_at "ex") => `(tactic| first
  | exact Ex.refl _ | assumption | (refine Ex.trans (H1 := ?H0) ?h1 ?h2; (case h2 => assumption); (case h1 => walk_at "ex")))
local macro_rules | `(tactic| walk_at "ks") => `(tactic| first
  | exact Ks.refl _ _ | assumption | (refine Ks.of ?h1; (case h1 => assumption)) | (refine Ks.trans (H1 := ?H0) ?h1 ?h2; (case h2 => first | assumption | (refine Ks.of ?h3; (case h3 => assumption))); (case h1 => walk_at "ks")))

section
variable {P : Program} {w : World} {K : PySem.W.Frag} {mg : Str → Option Value} {base : Heap}
/-! ### the program: what is declared -/
theorem ok_declared_by_lets (T : Tx K mg) : FnOk P w K mg base CX0 1 T.a_declared_by_lets T.e_declared_by_lets p_declared_by_lets (pLets K) := by
  refine T.d_declared_by_lets.F.ok sc_declared_by_lets (fun vs H Q E h => ?_) (fun cdv A outer s H vs Q E hr h => ?_)
  · obtain ⟨S, p, ds, rfl, _⟩ := h
    rfl
  obtain ⟨S, p, ds, rfl, al, ⟨⟨xs, hL, hD⟩, hs, hz⟩, so, q⟩ := h
  have hl := dpa_len hD
  refine ⟨_, (pss_one (ps_ret (pe_lc (own := [("statement", 1)]) (g := gName 1) rfl sc_declared_by_lets.nd  (plK K (pv 0)) (blkOk_by (own := [("statement", 1)]) (N := n_declared_by_lets) (sc := defScope s_declared_by_lets) (by decide +kernel)) (fun _ _ _ _ _ => (pg_name (i := 1) sc_declared_by_lets.nd rfl (Or.inl rfl))) (fun _ _ _ _ _ => (pts_one (pt_cmpR op_eq (pe_ix (ixT K) (pv 1) pe_int (fun _ _ => rfl)) pe_str (nomark _)))) (fun _ _ _ _ _ => (pe_slice (slA K) (pv 1) (po_some pe_int) (po_some pe_int)))))), ?_⟩
  walk_at "r"
  refine c_L (sl_dl hL) ?_
  refine cp_list (xs := xs) (fun l k h => Ex H h ∧ Al (l :: S) h ∧ ∃ ys, h l = some (.lst ys) ∧ DpAll K (dl (l :: S) h) ys (letsD (ds.take k)))
    (fun l n => ⟨Ex.new n, (al.ex (Ex.new n)).cons upd_same, [], upd_same, .nil⟩) (fun l k h _ _ g => ex_sl (sl_dl hL) g.1) ?_ ?_
  · rintro l k x h nl hx ⟨e, al2, ys, f, fD⟩
    obtain ⟨d, hd', dx⟩ := ds_at hD hs hx
    have hk := at_lt hx
    have yl := dpa_len fD
    have yl2 := lets_len (ds.take k)
    rw [take_len hd'] at yl2
    obtain ⟨es, o⟩ := st_ok (all_at so hd')
    obtain ⟨p2, xs2, ds2, rfl, e2, hT, hD2, hs2, hl2⟩ := ds_tup dx (by rw [o.e]; rfl)
    cases o.e.symm.trans e2
    have ow := o.w
    have on := o.ne
    have ol := o.lt
    rw [← e2] at ow
    walk_at "r"
    refine ⟨rfl, ?_⟩
    walk_at "r"
    refine a_nthS (i := 0) (ex_st (st_dl hT) e) (dpa_ex ((dl_le S H).trans e) hD2) hs2 on fun v0 d0 => ?_
    rw [← e2, ow] at d0
    cases dp_str d0.1
    walk_at "r"
    refine ite2 (fun c => ?_) (fun c => ?_)
    · have c' := of_decide_eq_true c
      have h4 := (ol c').1
      walk_at "r"
      refine a_sl13 (ex_st (st_dl hT) e) (by omega) fun t H1 n1 e1 f1 => ?_
      refine ⟨ys, e1 _ _ f, sz_lt (by omega), (e.trans e1).mut nl, (al2.ex e1).upd, ys ++ [.ref t], upd_same, ?_⟩
      rw [dl_upd (List.mem_cons_self ..), take_snoc hd', lets_snoc, if_pos c']
      refine dpa_snoc (dpa_ex (dl_ex e1) fD) ?_
      rw [e2]
      exact .tup (SqT.of (dl_at (al2.nin n1) f1)) (dpa_ex ((dl_new nl e).trans (dl_ex e1)) (dpa_take 2 (dpa_drop 1 hD2)))
    · have c' := of_decide_eq_false (nf c)
      refine ⟨e, al2, ys, f, ?_⟩
      rw [take_snoc hd', lets_snoc, if_neg c', List.append_nil]
      exact fD
  · rintro l h nl ⟨e, al2, ys, f, fD⟩
    rw [hl, List.take_length] at fD
    walk_at "r"
    exact q l ys h nl e f (dpa_ex (dl_sub (fun a k => List.mem_cons_of_mem _ k)) fD)
theorem ok_declared (T : Tx K mg) : FnOk P w K mg base CX0 2 T.a_declared T.e_declared p_declared (pDecl K T.C_Function) := by
  refine T.d_declared.F.ok sc_declared (fun vs H Q E h => ?_) (fun cdv A outer s H vs Q E hr h => ?_)
  · obtain ⟨S, pf, ps, fs, ss, rfl, _⟩ := h
    rfl
  obtain ⟨S, pf, ps, fs, ss, rfl, al, ⟨⟨xs, hL, hF⟩, hsx, fo, so, f4, s40⟩, q⟩ := h
  have hl := hF.len
  refine ⟨_, (pss_cons (ps_set (i := 2) sc_declared.nd rfl (.inl rfl) (pe_lst pa_nil))
    (pss_cons (ps_for PassesOwn.never rfl (plK K (pv 0)) (pg_name (i := 3) sc_declared.nd rfl (.inl rfl)) (pss_cons (ps_expr (pe_bm PySem.F.plainAttrs_list PySem.F.slot_list_extend PySem.F.type_list_extend mt_extend (pv 2) (pa_cons (by exact (fldK K (pv 3) rfl)) pa_nil)))
    (pss_one (ps_expr (pe_bm PySem.F.plainAttrs_list PySem.F.slot_list_extend PySem.F.type_list_extend mt_extend (pv 2) (pa_cons (pe_call (ok_declared_by_lets T) (hr.mono (by omega)) (by rfl) T.d_declared_by_lets.m T.d_declared_by_lets.F.kp T.d_declared_by_lets.b .nil pass0 (pa_cons (by exact (fldK K (pv 3) rfl)) pa_nil)) pa_nil))))))
    (pss_cons (ps_expr (pe_bm PySem.F.plainAttrs_list PySem.F.slot_list_extend PySem.F.type_list_extend mt_extend (pv 2) (pa_cons (pe_call (ok_declared_by_lets T) (hr.mono (by omega)) (by rfl) T.d_declared_by_lets.m T.d_declared_by_lets.F.kp T.d_declared_by_lets.b .nil pass0 (pa_cons (pv 1) pa_nil)) pa_nil)))
    (pss_one (ps_ret (pv 2)))))), ?_⟩
  walk_at "r"
  refine new_lst (xs := []) (by simp) fun p H1 n1 e1 f1 => ?_
  have al1 := (al.ex e1).cons f1
  walk_at "r"
  refine r_L (ex_sl (sl_dl hL) e1) ?_
  refine lp_list (xs := xs) (fun k σ h => (∃ z, σ = [some (.ref pf), some (.ref ps), some (.ref p), z]) ∧ Ex H h ∧ Al (p :: S) h ∧ ∃ ys, h p = some (.lst ys) ∧ DpAll K (dl (p :: S) h) ys (declsF (fs.take k)))
    ⟨⟨_, rfl⟩, e1, al1, [], f1, .nil⟩ (fun k σ h _ g => ex_sl (sl_dl hL) g.2.1) ?_ ?_
  · rintro k x σ h hx ⟨⟨z, rfl⟩, e, al2, ys, f, fD⟩
    obtain ⟨a, fd, rfl, hd', hfx⟩ := hF.get hx
    obtain ⟨dx, nv, q1, q2, fa, hn, hp, hb⟩ := hfx.ex
    have hk := at_lt hx
    have fok := fn_le (all_at fo hd')
    have yl := dpa_len fD
    have yle : (declsF (fs.take k)).length ≤ 16 * (fs.take k).length := declsF_le (List.all_eq_true.mpr fun a b => List.all_eq_true.mp fo a (List.mem_of_mem_take b))
    rw [take_len hd'] at yle
    obtain ⟨zs, gq, gD⟩ := hp.ex
    have zl := dpa_len gD
    walk_at "r"
    refine ⟨a_ty f, ?_⟩
    walk_at "r"
    refine a_get T.c_Function T.n_Function_params (e _ _ (dl_le S H _ _ fa)) (fn_params _ _ _) ?_
    walk_at "r"
    refine a_extend f (e _ _ (dl_le S H _ _ gq)) (by omega) ?_
    have g2 : DpAll K (dl (p :: S) (upd h p (.lst (ys ++ zs)))) (ys ++ zs) (declsF (fs.take k) ++ fd.p) := by
      rw [dl_upd (List.mem_cons_self ..)]
      exact dpa_app fD (dpa_ex (dl_new n1 e) gD)
    have e2 : Ex H (upd h p (.lst (ys ++ zs))) := e.mut n1
    have al3 : Al (p :: S) (upd h p (.lst (ys ++ zs))) := al2.upd
    have f2 : (upd h p (.lst (ys ++ zs))) p = some (.lst (ys ++ zs)) := upd_same
    generalize upd h p (.lst (ys ++ zs)) = h2 at g2 e2 al3 f2 ⊢
    walk_at "r"
    refine ⟨a_ty f2, ?_⟩
    walk_at "r"
    refine a_get T.c_Function T.n_Function_body (e2 _ _ (dl_le S H _ _ fa)) (fn_body _ _ _) ?_
    walk_at "r"
    refine ⟨p :: S, q2, fd.b, rfl, al3, hb.dl.up (dl_new n1 e2), fok.2.2.2.2, fun t ts H3 n3 e3 f3 D3 => ?_⟩
    have tl := dpa_len D3
    have tl2 := lets_len fd.b
    walk_at "r"
    refine a_extend (e3 _ _ f2) f3 (by rw [List.length_append]; omega) ?_
    walk_at "r"
    refine ⟨⟨_, rfl⟩, (e2.trans e3).mut n1, (al3.ex e3).upd, _, upd_same, ?_⟩
    rw [dl_upd (List.mem_cons_self ..), take_snoc hd', declsF_snoc, List.append_assoc]
    rw [← List.append_assoc, List.append_assoc ys, ← List.append_assoc]
    rw [← List.append_assoc (declsF _)]
    exact dpa_app (dpa_ex (dl_ex e3) g2) D3
  · rintro σ h ⟨⟨z, rfl⟩, e, al2, ys, f, fD⟩
    rw [hl, List.take_length] at fD
    have yl := dpa_len fD
    have yle := declsF_le fo
    walk_at "r"
    refine ⟨a_ty f, ?_⟩
    walk_at "r"
    refine ⟨p :: S, ps, ss, rfl, al2, hsx.up (dl_new n1 e), so, fun t ts H3 n3 e3 f3 D3 => ?_⟩
    have tl := dpa_len D3
    have tl2 := lets_len ss
    walk_at "r"
    refine a_extend (e3 _ _ f) f3 (by omega) ?_
    walk_at "r"
    refine q p _ _ n1 ((e.trans e3).mut n1) upd_same ?_
    have E : Ex (dl (p :: S) (upd H3 p (.lst (ys ++ ts)))) (dl S (upd H3 p (.lst (ys ++ ts)))) := dl_sub fun a k => List.mem_cons_of_mem _ k
    refine dpa_ex E ?_
    rw [dl_upd (List.mem_cons_self ..)]
    exact dpa_app (dpa_ex (dl_ex e3) fD) D3
theorem ok_all_names (T : Tx K mg) : FnOk P w K mg base CX0 3 T.a_all_names T.e_all_names p_all_names (pNames K T.C_Function) := by
  refine T.d_all_names.F.ok sc_all_names (fun vs H Q E h => ?_) (fun cdv A outer s H vs Q E hr h => ?_)
  · obtain ⟨S, pf, ps, fs, ss, rfl, _⟩ := h
    rfl
  obtain ⟨S, pf, ps, fs, ss, rfl, al, hpg, q⟩ := h
  obtain ⟨⟨xs, hL, hF⟩, hsx, fo, so, f4, s40⟩ := id hpg
  have hl := hF.len
  refine ⟨_, (pss_cons (ps_setLc (i := 2) (own := [("function", 3)]) (g := gName 3) rfl sc_all_names.nd rfl rfl (sw_true rfl rfl rfl (by decide +kernel)) (plK K (pv 0)) (blkOk_by (own := [("function", 3)]) (N := n_all_names) (sc := defScope s_all_names) (by decide +kernel)) (fun _ _ _ _ _ => (pg_name (i := 3) sc_all_names.nd rfl (Or.inl rfl))) (fun _ _ _ _ _ => pts_nil) (fun _ _ _ _ _ => (by exact (fldK K (pv 3) rfl))))
    (pss_one (ps_ret (pe_op op_cat (pv 2) (pe_lc (own := [("name", 4), ("_", 5)]) (g := gTup K 2 (gCons (gName 4) (gCons (gName 5) (gNil)))) rfl sc_all_names.nd  (plK K (pe_call (ok_declared T) (hr.mono (by omega)) (by rfl) T.d_declared.m T.d_declared.F.kp T.d_declared.b .nil pass0 (pa_cons (pv 0) (pa_cons (pv 1) pa_nil)))) (blkOk_by (own := [("name", 4), ("_", 5)]) (N := n_all_names) (sc := defScope s_all_names) (by decide +kernel)) (fun _ _ _ _ _ => (pg_tup (by rfl) (pgs_cons (pg_name (i := 4) sc_all_names.nd rfl (Or.inl rfl)) (pgs_cons (pg_name (i := 5) sc_all_names.nd rfl (Or.inl rfl)) pgs_nil)))) (fun _ _ _ _ _ => pts_nil) (fun _ _ _ _ _ => (pv 4))))))), ?_⟩
  walk_at "r"
  refine c_L (sl_dl hL) ?_
  refine cp_list (xs := xs) (fun l k h => Ex H h ∧ h l = some (.lst (((fs.take k).map fun f => strD f.n).map V.str))) (fun l n => ⟨Ex.new n, upd_same⟩) (fun l k h _ _ g => ex_sl (sl_dl hL) g.1) ?_ ?_
  · rintro l k x h nl hx ⟨e, f⟩
    obtain ⟨a, fd, rfl, hd', hfx⟩ := hF.get hx
    obtain ⟨dx, nv, q1, q2, fa, hn, hp, hb⟩ := hfx.ex
    have hk := at_lt hx
    have nm := name_str (fn_le (all_at fo hd')).2.2.1
    rw [nm.1] at hn
    cases dp_str hn.1
    walk_at "r"
    refine ⟨rfl, ?_⟩
    walk_at "r"
    refine a_get T.c_Function T.n_Function_name (e _ _ (dl_le S H _ _ fa)) (fn_name _ _ _) ?_
    refine ⟨_, f, sz_lt (by rw [List.length_map, List.length_map, List.length_take]; omega), e.mut nl, ?_⟩
    rw [upd_same, take_snoc hd', List.map_append, List.map_append]
    rfl
  · rintro l h nl ⟨e, f⟩
    rw [hl, List.take_length] at f
    walk_at "r"
    refine ⟨S, pf, ps, fs, ss, rfl, al.ex e, hpg.up (dl_ex e), fun t ts H2 n2 e2 f2 D2 => ?_⟩
    have tl := dpa_len D2
    have tle := decls_le fo f4 s40
    have dok := decls_ok fo so
    walk_at "r"
    refine c_L (SqL.of f2) ?_
    refine cp_list (xs := ts) (fun l2 k h2 => Ex H2 h2 ∧ h2 l2 = some (.lst ((((declsD fs ss).take k).map fun d => strD (nthD d 0)).map V.str))) (fun l n => ⟨Ex.new n, upd_same⟩) (fun l k h _ _ g => SqL.of (g.1 _ _ f2)) ?_ ?_
    · rintro l2 k x h2 nl2 hx ⟨e3, f3⟩
      obtain ⟨d, hd', dx⟩ := dpa_at D2 hx
      have hk := at_lt hx
      obtain ⟨es, o⟩ := pr_ok (all_at dok hd')
      rw [o.e] at dx
      obtain ⟨p2, xs2, rfl, hT, hD2⟩ := dp_tup dx
      obtain ⟨u, v, rfl, du, dv⟩ := dpa_two hD2 o.l
      have nm := name_str o.n
      rw [nm.1] at du
      cases dp_str du
      refine w_gtup (ex_st (st_dl hT) e3) rfl ?_
      walk_at "r"
      refine ⟨rfl, ?_⟩
      walk_at "r"
      refine ⟨_, f3, sz_lt (by rw [List.length_map, List.length_map, List.length_take]; omega), e3.mut nl2, ?_⟩
      rw [upd_same, take_snoc hd', List.map_append, List.map_append, o.e]
      rfl
    · rintro l2 h2 nl2 ⟨e3, f3⟩
      rw [tl, List.take_length] at f3
      walk_at "r"
      refine a_cat ((e2.trans e3) _ _ f) f3 (by rw [List.length_map, List.length_map, List.length_map, List.length_map]; omega) fun r H4 n4 e4 f4' => ?_
      have eH : Ex H h2 := (e.trans e2).trans e3
      refine q r H4 ?_ (eH.trans e4) ?_
      · cases z : H r with
        | none => rfl
        | some o => rw [eH _ _ z] at n4; cases n4
      · rw [f4']
        unfold namesD
        rw [List.map_append]
theorem ok_all_kinds (T : Tx K mg) : FnOk P w K mg base CX0 3 T.a_all_kinds T.e_all_kinds p_all_kinds (pKinds K T.C_Function) := by
  refine T.d_all_kinds.F.ok sc_all_kinds (fun vs H Q E h => ?_) (fun cdv A outer s H vs Q E hr h => ?_)
  · obtain ⟨S, pf, ps, fs, ss, rfl, _⟩ := h
    rfl
  obtain ⟨S, pf, ps, fs, ss, rfl, al, hpg, q⟩ := h
  obtain ⟨⟨xs, hL, hF⟩, hsx, fo, so, f4, s40⟩ := id hpg
  refine ⟨_, (pss_one (ps_ret (pe_lc (own := [("_", 2), ("kind", 3)]) (g := gTup K 2 (gCons (gName 2) (gCons (gName 3) (gNil)))) rfl sc_all_kinds.nd  (plK K (pe_call (ok_declared T) (hr.mono (by omega)) (by rfl) T.d_declared.m T.d_declared.F.kp T.d_declared.b .nil pass0 (pa_cons (pv 0) (pa_cons (pv 1) pa_nil)))) (blkOk_by (own := [("_", 2), ("kind", 3)]) (N := n_all_kinds) (sc := defScope s_all_kinds) (by decide +kernel)) (fun _ _ _ _ _ => (pg_tup (by rfl) (pgs_cons (pg_name (i := 2) sc_all_kinds.nd rfl (Or.inl rfl)) (pgs_cons (pg_name (i := 3) sc_all_kinds.nd rfl (Or.inl rfl)) pgs_nil)))) (fun _ _ _ _ _ => pts_nil) (fun _ _ _ _ _ => (pv 3))))), ?_⟩
  walk_at "r"
  refine ⟨S, pf, ps, fs, ss, rfl, al, hpg, fun t ts H2 n2 e2 f2 D2 => ?_⟩
  have tl := dpa_len D2
  have tle := decls_le fo f4 s40
  have dok := decls_ok fo so
  walk_at "r"
  refine c_L (SqL.of f2) ?_
  refine cp_list (xs := ts) (fun l2 k h2 => Ex H2 h2 ∧ ∃ ys, h2 l2 = some (.lst ys) ∧ DpAll K (dl S H2) ys (((declsD fs ss).take k).map fun d => nthD d 1)) (fun l n => ⟨Ex.new n, [], upd_same, .nil⟩) (fun l k h _ _ g => SqL.of (g.1 _ _ f2)) ?_ ?_
  · rintro l2 k x h2 nl2 hx ⟨e3, ys, f3, fD⟩
    obtain ⟨d, hd', dx⟩ := dpa_at D2 hx
    have hk := at_lt hx
    have yl := dpa_len fD
    rw [List.length_map, take_len hd'] at yl
    obtain ⟨es, o⟩ := pr_ok (all_at dok hd')
    rw [o.e] at dx
    obtain ⟨p2, xs2, rfl, hT, hD2⟩ := dp_tup dx
    obtain ⟨u, v, rfl, du, dv⟩ := dpa_two hD2 o.l
    refine w_gtup (ex_st (st_dl hT) e3) rfl ?_
    walk_at "r"
    refine ⟨rfl, ?_⟩
    walk_at "r"
    refine ⟨ys, f3, sz_lt (by omega), e3.mut nl2, ys ++ [v], upd_same, ?_⟩
    rw [take_snoc hd', List.map_append, o.e]
    exact dpa_snoc fD dv
  · rintro l2 h2 nl2 ⟨e3, ys, f3, fD⟩
    rw [tl, List.take_length] at fD
    walk_at "r"
    refine q l2 ys h2 ?_ (e2.trans e3) f3 (dpa_ex (dl_ex e3) fD)
    cases z : H l2 with
    | none => rfl
    | some o => rw [e2 _ _ z] at nl2; cases nl2

end
end Ver

set_option Elab.async false
set_option linter.all false
set_option maxRecDepth 100000
set_option maxHeartbeats 4000000
namespace Ver
open PySem PySem.Spec PyProof.Rows L2 Evl
local macro_rules | `(tactic| walk_at "s") => `(tactic| with_reducible first
  | refine w_seq ?_ | refine w_asg ?_ | refine w_name ?_ | refine w_if ?_ | refine w_ret ?_ | refine w_drop ?_ | refine w_next ?_ | refine w_brk ?_ | refine w_cont ?_
  | (refine w_var (v := ?vv) ?hh ?_; (case hh => with_unfolding_all exact rfl))
  | refine w_c ?_ | refine w_op ?_ | refine w_un ?_ | refine w_I0 ?_ | refine w_neg ?_ | refine w_eqI ?_ | refine w_neI ?_ | refine w_eqS ?_ | refine w_neS ?_ | refine w_eqB ?_ | refine w_neB ?_
  | refine w_test ?_ | refine w_B ?_ | refine w_and ?_ | refine w_or ?_ | refine w_not ?_ | refine w_andV ?_ | refine w_orV ?_ | refine w_notV ?_ | refine w_ifE ?_ | refine w_yes ?_
  | refine w_nil ?_ | refine w_cons ?_ | refine w_CB ?_ | refine w_callN ?_ | refine w_BM ?_ | refine w_BMT ?_ | refine w_BM0 ?_ | refine w_noPart ?_ | refine w_part ?_ | refine w_sl ?_ | refine w_tup ?_ | refine w_lst ?_
  | refine w_subG ?_ | refine w_gcons ?_ | refine w_gnil ?_ | refine w_for ?_ | refine w_lc ?_ | refine w_iR1 ?_ | refine w_iR2 ?_ | refine w_iL ?_ | refine w_iT ?_ | refine w_iS ?_
  | (show ∃ k, V.bl _ = V.bl k ∧ _; refine ⟨_, rfl, ?_⟩) | (show ∃ k, V.int _ = V.int k ∧ _; refine ⟨_, rfl, ?_⟩)
  | refine iteT ?_ | refine iteF ?_ | refine iteNT ?_ | refine iteNF ?_ | refine r_S ?_ | refine c_S ?_ | refine a_abs ?_ | refine a_intI ?_ | refine a_intB ?_ | refine w_par ?_ | refine w_dK ?_ | refine w_chain ?_ | (show ∃ v w, [_, _] = [v, w] ∧ _; refine ⟨_, _, rfl, ?_⟩)
  | refine w_getF ?_ | refine w_setF ?_ | refine w_newI ?_ | refine w_callS ?_ | refine w_getD1 ?_ | refine w_putD ?_ | refine w_veI ?_ | refine w_ostI ?_ | refine w_mkO ?_
  | refine a_isNn ?_ | refine a_isNr ?_ | refine a_notNn ?_ | refine a_notNr ?_ | refine a_isTy ?_ | refine a_notTy ?_ | refine a_isBl ?_ | refine a_notBl ?_)
local macro_rules | `(tactic| walk_at "r") => `(tactic| repeat walk_at "s")
local macro_rules | `(tactic| walk_at "tr") => `(tactic| first
  | assumption
  | (refine ex_at (H := ?H0) ?h1 ?h2; (case h2 => assumption); (case h1 => walk_at "tr"))
  | (refine ks_at (H := ?H0) (S := ?S0) ?h1 ?h2 ?h3; (case h2 => assumption); (case h3 => walk_at "nin"); (case h1 => walk_at "tr")))
local macro_rules | `(tactic| walk_at "nin") => `(tactic| first
  | exact nin_nil | (refine nin_cons ?h1 ?h2; (case h1 => walk_at "ne"); (case h2 => walk_at "nin")))
local macro_rules | `(tactic| walk_at "ne") => `(tactic| first
  | assumption | exact Ne.symm (by assumption)
  | (refine bx_nb (H := ?H0) (r := ?r0) ?h1 ?h2; (case h2 => assumption); (case h1 => walk_at "bx"))
  | (refine bx_nr (H := ?H0) (b := ?b0) ?h1 ?h2; (case h2 => assumption); (case h1 => walk_at "bx"))
  | (refine Ne.symm (bx_nb (H := ?H0) (r := ?r0) ?h1 ?h2); (case h2 => assumption); (case h1 => walk_at "bx"))
  | (refine ne_old (H := ?H0) (o := ?o0) ?h1 ?h2; (case h2 => assumption); (case h1 => walk_at "tr"))
  | (refine Ne.symm (ne_old (H := ?H0) (o := ?o0) ?h1 ?h2); (case h2 => assumption); (case h1 => walk_at "tr"))
  | exact (Tu.ne (by assumption) (by assumption)).1 | exact (Tu.ne (by assumption) (by assumption)).2
  | (refine bx_rb (H := ?H0) ?h1; (case h1 => walk_at "bx")))
local macro_rules | `(tactic| walk_at "tu") => `(tactic| first
  | assumption
  | (refine Tu.ex (H := ?H0) ?h1 ?h2; (case h2 => assumption); (case h1 => walk_at "tu"))
  | (refine Tu.ks (H := ?H0) (S := ?S0) ?h1 ?h2 ?h3; (case h2 => assumption); (case h3 => walk_at "nin"); (case h1 => walk_at "tu")))
local macro_rules | `(tactic| walk_at "bx") => `(tactic| first
  | assumption
  | (refine bx_ex (H := ?H0) ?h1 ?h2; (case h2 => assumption); (case h1 => walk_at "bx"))
  | (refine bx_ks (H := ?H0) (S := ?S0) ?h1 ?h2 ?h3 ?h4; (case h2 => assumption); (case h3 => walk_at "nin"); (case h4 => walk_at "nin"); (case h1 => walk_at "bx")))
local macro_rules | `(tactic| walk_at "sl") => `(tactic| first
  | assumption | (refine SqL.of ?h1; (case h1 => walk_at "tr"))
  | (refine ex_sl (H := ?H0) ?h1 ?h2; (case h2 => assumption); (case h1 => walk_at "sl"))
  | (refine ks_sl (H := ?H0) (S := ?S0) ?h1 ?h2 ?h3; (case h2 => assumption); (case h3 => walk_at "nin"); (case h1 => walk_at "sl")))
local macro_rules | `(tactic| walk_at "st") => `(tactic| first
  | assumption | (refine Tu.st ?h1; (case h1 => walk_at "tu")) | (refine SqT.of ?h1; (case h1 => walk_at "tr"))
  | (refine ex_st (H := ?H0) ?h1 ?h2; (case h2 => assumption); (case h1 => walk_at "st"))
  | (refine ks_st (H := ?H0) (S := ?S0) ?h1 ?h2 ?h3; (case h2 => assumption); (case h3 => walk_at "nin"); (case h1 => walk_at "st")))
local macro_rules | `(tactic| walk_at "ex") => `(tactic| first
  | exact Ex.refl _ | assumption | (refine Ex.trans (H1 := ?H0) ?h1 ?h2; (case h2 => assumption); (case h1 => walk_at "ex")))
local macro_rules | `(tactic| walk_at "ks") => `(tactic| first
  | exact Ks.refl _ _ | assumption | (refine Ks.of ?h1; (case h1 => assumption)) | (refine Ks.trans (H1 := ?H0) ?h1 ?h2; (case h2 => first | assumption | (refine Ks.of ?h3; (case h3 => assumption))); (case h1 => walk_at "ks")))

section
variable {P : Program} {w : World} {K : PySem.W.Frag} {mg : Str → Option Value} {base : Heap}
/-! ### the program: whole programs -/
theorem ok_are_of_one_kind (T : Tx K mg) : FnOk P w K mg base CX0 4 T.a_are_of_one_kind T.e_are_of_one_kind p_are_of_one_kind (pKind K) := by
  refine T.d_are_of_one_kind.F.ok sc_are_of_one_kind (fun vs H Q E h => ?_) (fun cdv A outer s H vs Q E hr h => ?_)
  · obtain ⟨p, ds, rfl, _⟩ := h
    rfl
  obtain ⟨p, ds, rfl, ⟨⟨xs, hL, hD⟩, hs, hz⟩, q⟩ := h
  have hl := dpa_len hD
  refine ⟨_, (pss_one (ps_ret (pe_or (pe_callB (allK K) (by rfl) T.b_all (by decide +kernel) (pa_cons (pe_lc (own := [("kind", 1)]) (g := gName 1) rfl sc_are_of_one_kind.nd  (plK K (pv 0)) (blkOk_by (own := [("kind", 1)]) (N := n_are_of_one_kind) (sc := defScope s_are_of_one_kind) (by decide +kernel)) (fun _ _ _ _ _ => (pg_name (i := 1) sc_are_of_one_kind.nd rfl (Or.inl rfl))) (fun _ _ _ _ _ => pts_nil) (fun _ _ _ _ _ => (pe_call (ok_is_type T) (hr.mono (by omega)) (by rfl) T.d_is_type.m T.d_is_type.F.kp T.d_is_type.b .nil pass0 (pa_cons (pv 1) pa_nil)))) pa_nil)) (pe_one (pe_callB (allK K) (by rfl) T.b_all (by decide +kernel) (pa_cons (pe_lc (own := [("kind", 1)]) (g := gName 1) rfl sc_are_of_one_kind.nd  (plK K (pv 0)) (blkOk_by (own := [("kind", 1)]) (N := n_are_of_one_kind) (sc := defScope s_are_of_one_kind) (by decide +kernel)) (fun _ _ _ _ _ => (pg_name (i := 1) sc_are_of_one_kind.nd rfl (Or.inl rfl))) (fun _ _ _ _ _ => pts_nil) (fun _ _ _ _ _ => (pe_call (ok_is_depth T) (hr.mono (by omega)) (by rfl) T.d_is_depth.m T.d_is_depth.F.kp T.d_is_depth.b .nil pass0 (pa_cons (pv 1) pa_nil)))) pa_nil)))))), ?_⟩
  walk_at "r"
  refine c_L hL ?_
  refine cp_list (xs := xs) (fun l k h => Ex H h ∧ h l = some (.lst (((ds.take k).map typD).map V.bl))) (fun l n => ⟨Ex.new n, upd_same⟩) (fun l k h _ _ g => ex_sl hL g.1) ?_ ?_
  · rintro l k x h nl hx ⟨e, f⟩
    obtain ⟨d, hd', dx⟩ := ds_at hD hs hx
    have hk := at_lt hx
    walk_at "r"
    refine ⟨rfl, ?_⟩
    walk_at "r"
    refine ⟨x, d, rfl, ds_ex dx e, fun H1 e1 => ?_⟩
    refine ⟨_, e1 _ _ f, sz_lt (by rw [bools_len]; omega), (e.trans e1).mut nl, ?_⟩
    rw [upd_same, bools_snoc typD hd']
  rintro l h nl ⟨e, f⟩
  walk_at "r"
  rw [hl, List.take_length] at f
  refine ⟨l, _, rfl, SqL.of f, ?_⟩
  rw [bools_all]
  have g := q h e
  unfold kindD at g
  walk_at "r"
  refine ite2 (fun c => ?_) (fun c => ?_)
  · rw [c] at g
    exact g
  walk_at "r"
  refine c_L (ex_sl hL e) ?_
  refine cp_list (xs := xs) (fun l k h2 => Ex h h2 ∧ h2 l = some (.lst (((ds.take k).map fun d => numD d 5).map V.bl))) (fun l n => ⟨Ex.new n, upd_same⟩) (fun l k h _ _ g => ex_sl hL (e.trans g.1)) ?_ ?_
  · rintro l k x h2 nl hx ⟨e2, f2⟩
    obtain ⟨d, hd', dx⟩ := ds_at hD hs hx
    have hk := at_lt hx
    walk_at "r"
    refine ⟨rfl, ?_⟩
    walk_at "r"
    refine ⟨x, d, rfl, ds_ex dx (e.trans e2), fun H1 e1 => ?_⟩
    refine ⟨_, e1 _ _ f2, sz_lt (by rw [bools_len]; omega), (e2.trans e1).mut nl, ?_⟩
    rw [upd_same, bools_snoc (fun d => numD d 5) hd']
  rintro l2 h2 nl2 ⟨e2, f2⟩
  walk_at "r"
  rw [hl, List.take_length] at f2
  refine ⟨l2, _, rfl, SqL.of f2, ?_⟩
  rw [bools_all]
  have g2 := q h2 (e.trans e2)
  unfold kindD at g2
  rw [nf c] at g2
  exact g2
theorem ok_calls_fit (T : Tx K mg) : FnOk P w K mg base CX0 1 T.a_calls_fit T.e_calls_fit p_calls_fit (pFit K) := by
  refine T.d_calls_fit.F.ok sc_calls_fit (fun vs H Q E h => ?_) (fun cdv A outer s H vs Q E hr h => ?_)
  · obtain ⟨ps, ss, m, kvs, rfl, _⟩ := h
    rfl
  obtain ⟨ps, ss, m, kvs, rfl, ⟨⟨xs, hL, hD⟩, hs, hz⟩, so, fm, ik, q⟩ := h
  have hl := dpa_len hD
  have hu := hu_of hr
  refine ⟨_, (pss_cons (ps_for PassesOwn.never rfl (plK K (pv 0)) (pg_name (i := 2) sc_calls_fit.nd rfl (.inl rfl)) (pss_one (ps_if (PW.pt (pw_and (pt_cmpR op_eq (pe_ix (ixT K) (pv 2) pe_int (fun _ _ => rfl)) pe_str (nomark _)) (pw_and1 (pt_cmpR op_ne (pe_dget1 hu (pv 1) (pe_ix (ixT K) (pv 2) pe_int (fun _ _ => rfl)) ⟨rfl, rfl, rfl, rfl⟩) (pe_callB (lenK K) (by rfl) T.b_len PySem.boot_len (pa_cons (pe_ix (ixT K) (pv 2) pe_int (fun _ _ => rfl)) pa_nil)) (nomark _))))) (pss_one (ps_ret pe_bl)) pss_nil)))
    (pss_one (ps_ret pe_bl))), ?_⟩
  walk_at "r"
  refine r_L hL ?_
  refine lp_list (xs := xs) (fun k σ h => (∃ z, σ = [some (.ref ps), some (.ref m), z]) ∧ h = H ∧ (ss.take k).all (fit1 kvs) = true)
    ⟨⟨_, rfl⟩, rfl, rfl⟩ (fun k σ h _ g => by rw [g.2.1]; exact hL) ?_ ?_
  · rintro k x σ h hx ⟨⟨z, rfl⟩, rfl, fD⟩
    obtain ⟨d, hd', dx⟩ := ds_at hD hs hx
    have hk := at_lt hx
    obtain ⟨es, o⟩ := st_ok (all_at so hd')
    obtain ⟨p2, xs2, ds2, rfl, e2, hT, hD2, hs2, hl2⟩ := ds_tup dx (by rw [o.e]; rfl)
    cases o.e.symm.trans e2
    have ow := o.w
    have on := o.ne
    have ol := o.cl
    rw [← e2] at ow
    have nxt : fit1 kvs d = true → (ss.take (k + 1)).all (fit1 kvs) = true := fun z => by
      rw [take_snoc hd', List.all_append, fD, List.all_cons, z]
      rfl
    have bad : fit1 kvs d = false → Q (.bl false) h := fun z => by
      have g := q h (Ex.refl _)
      have e : fitD kvs ss = false := by
        cases y : fitD kvs ss with
        | false => rfl
        | true => rw [all_at y hd'] at z; cases z
      rw [e] at g
      exact g
    walk_at "r"
    refine a_nthS (i := 0) hT hD2 hs2 on fun v0 d0 => ?_
    rw [← e2, ow] at d0
    cases dp_str d0.1
    walk_at "r"
    refine ite2 (fun c => ?_) (fun c => ?_)
    · have c' := of_decide_eq_true c
      have h3 := ol c'
      have nm := name_str h3.2.1
      walk_at "r"
      refine a_getD fm ?_
      walk_at "r"
      refine a_nthS (i := 1) hT hD2 hs2 (by omega) fun v1 d1 => ?_
      rw [← e2, nm.1] at d1
      cases dp_str d1.1
      refine ⟨_, DGet.k (k := Sum.inr (strD (nthD d 1))) fm, ?_⟩
      walk_at "r"
      refine a_nthS (i := 2) hT hD2 hs2 (by omega) fun v2 d2 => ?_
      rw [← e2] at d2
      have tg : tagD (nthD d 2) = "list" := by
        have := h3.2.2
        unfold srcsD at this
        rw [Bool.and_eq_true] at this
        exact of_decide_eq_true this.1
      obtain ⟨p3, xs3, ds3, rfl, e3, hL3, _, _, _, hl3⟩ := ds_lst d2 tg
      walk_at "r"
      refine a_lenL hL3 ?_
      refine w_ne (int_scal ik _ _) ?_
      walk_at "r"
      have ef : fit1 kvs d = decide ((valV kvs (Sum.inr (strD (nthD d 1)))).getD .non = .int (xs3.length : Nat)) := by
        unfold fit1
        rw [c, e3, hl3]
        rfl
      refine ite2 (fun c2 => ?_) (fun c2 => ?_)
      · walk_at "r"
        refine bad ?_
        rw [ef]
        cases y : decide ((valV kvs (Sum.inr (strD (nthD d 1)))).getD .non = .int (xs3.length : Nat)) with
        | false => rfl
        | true => rw [y] at c2; cases c2
      · walk_at "r"
        refine ⟨⟨_, rfl⟩, rfl, nxt ?_⟩
        rw [ef]
        cases y : decide ((valV kvs (Sum.inr (strD (nthD d 1)))).getD .non = .int (xs3.length : Nat)) with
        | true => rfl
        | false => rw [y] at c2; exact absurd rfl c2
    · walk_at "r"
      refine ⟨⟨_, rfl⟩, rfl, nxt ?_⟩
      unfold fit1
      rw [nf c]
      rfl
  · rintro σ h ⟨⟨z, rfl⟩, rfl, fD⟩
    rw [hl, List.take_length] at fD
    walk_at "r"
    have g := q h (Ex.refl _)
    unfold fitD at g
    rw [fD] at g
    exact g
theorem ok_all_calls_fit (T : Tx K mg) : FnOk P w K mg base CX0 2 T.a_all_calls_fit T.e_all_calls_fit p_all_calls_fit (pFits K T.C_Function) := by
  refine T.d_all_calls_fit.F.ok sc_all_calls_fit (fun vs H Q E h => ?_) (fun cdv A outer s H vs Q E hr h => ?_)
  · obtain ⟨pf, ps, fs, ss, rfl, _⟩ := h
    rfl
  obtain ⟨pf, ps, fs, ss, rfl, ⟨⟨xs, hL, hF⟩, hsx, fo, so, f4, s40⟩, q⟩ := h
  have hl := hF.len
  have hu := hu_of hr
  refine ⟨_, (pss_cons (ps_set (i := 2) sc_all_calls_fit.nd rfl (.inl rfl) pe_dnewK)
    (pss_cons (ps_for PassesOwn.never rfl (plK K (pv 0)) (pg_name (i := 3) sc_all_calls_fit.nd rfl (.inl rfl)) (pss_cons (ps_if (pt_not (pt_val (pe_call (ok_calls_fit T) (hr.mono (by omega)) (by rfl) T.d_calls_fit.m T.d_calls_fit.F.kp T.d_calls_fit.b .nil pass0 (pa_cons (by exact (fldK K (pv 3) rfl)) (pa_cons (pv 2) pa_nil))))) (pss_one (ps_ret pe_bl)) pss_nil)
    (pss_one (ps_dput hu (pv 2) (by exact (fldK K (pv 3) rfl)) (pe_callB (lenK K) (by rfl) T.b_len PySem.boot_len (pa_cons (by exact (fldK K (pv 3) rfl)) pa_nil)) rfl))))
    (pss_one (ps_ret (pe_call (ok_calls_fit T) (hr.mono (by omega)) (by rfl) T.d_calls_fit.m T.d_calls_fit.F.kp T.d_calls_fit.b .nil pass0 (pa_cons (pv 1) (pa_cons (pv 2) pa_nil))))))), ?_⟩
  walk_at "r"
  refine new_dK fun m H1 n1 e1 f1 => ?_
  walk_at "r"
  refine r_L (ex_sl hL e1) ?_
  refine lp_list (xs := xs) (fun k σ h => (∃ z, σ = [some (.ref pf), some (.ref ps), some (.ref m), z]) ∧ Ex H h ∧ ∃ kvs, h m = some (.dK kvs) ∧ IntK kvs ∧ kvs.length ≤ k ∧ fitF [] fs ss = fitF kvs (fs.drop k) ss)
    ⟨⟨_, rfl⟩, e1, [], f1, (fun k v e => by cases e), Nat.le_refl _, rfl⟩ (fun k σ h _ g => ex_sl hL g.2.1) ?_ ?_
  · rintro k x σ h hx ⟨⟨z, rfl⟩, e, kvs, fm, ik, kl, ef⟩
    obtain ⟨a, fd, rfl, hd', hfx⟩ := hF.get hx
    obtain ⟨dx, nv, q1, q2, fa, hn, hp, hb⟩ := hfx.ex
    have hk := at_lt hx
    have fok := fn_le (all_at fo hd')
    have nm := name_str fok.2.2.1
    rw [nm.1] at hn
    cases dp_str hn.1
    obtain ⟨zs, gq, gD⟩ := hp.ex
    have zl := dpa_len gD
    have ed : fs.drop k = fd :: fs.drop (k + 1) := by
      rw [← List.getElem_cons_drop (h := by rw [← hl]; exact hk)]
      congr 1
      rw [List.getElem?_eq_getElem (by rw [← hl]; exact hk)] at hd'
      exact Option.some.inj hd'
    rw [ed] at ef
    have ef2 : fitF [] fs ss = (fitD kvs fd.b && fitF (putN kvs fd) (fs.drop (k + 1)) ss) := ef
    walk_at "r"
    refine a_get T.c_Function T.n_Function_body (e _ _ fa) (fn_body _ _ _) ?_
    walk_at "r"
    refine ⟨q2, fd.b, m, kvs, rfl, hb.dl.up e, fok.2.2.2.2, fm, ik, fun H2 e2 => ?_⟩
    walk_at "r"
    refine ite2 (fun c => ?_) (fun c => ?_)
    · have c' : fitD kvs fd.b = false := by
        cases y : fitD kvs fd.b with
        | false => rfl
        | true => rw [y] at c; cases c
      rw [c'] at ef2
      have g := q H2 (e.trans e2)
      rw [ef2] at g
      walk_at "r"
      exact g
    have c1 : fitD kvs fd.b = true := by
      cases y : fitD kvs fd.b with
      | true => rfl
      | false => rw [y] at c; exact absurd rfl c
    rw [c1, Bool.true_and] at ef2
    have e12 := e.trans e2
    walk_at "r"
    refine a_get T.c_Function T.n_Function_params (e12 _ _ fa) (fn_params _ _ _) ?_
    walk_at "r"
    refine a_lenL (SqL.of (e12 _ _ gq)) ?_
    walk_at "r"
    refine a_get T.c_Function T.n_Function_name (e12 _ _ fa) (fn_name _ _ _) ?_
    refine a_putD (e2 _ _ fm) (by omega) ?_
    walk_at "r"
    have pl := putN_le kvs fd
    refine ⟨⟨_, rfl⟩, e12.mut n1, putN kvs fd, ?_, ik.put fd, ?_, ef2⟩
    · rw [upd_same, zl]
      rfl
    · omega
  · rintro σ h ⟨⟨z, rfl⟩, e, kvs, fm, ik, kl, ef⟩
    rw [hl, List.drop_length] at ef
    walk_at "r"
    refine ⟨ps, ss, m, kvs, rfl, hsx.up e, so, fm, ik, fun H2 e2 => ?_⟩
    have g := q H2 (e.trans e2)
    rw [ef] at g
    exact g

end
end Ver

set_option Elab.async false
set_option linter.all false
set_option maxRecDepth 100000
set_option maxHeartbeats 4000000
namespace Ver
open PySem PySem.Spec PyProof.Rows L2 Evl
local macro_rules | `(tactic| walk_at "s") => `(tactic| with_reducible first
  | refine w_seq ?_ | refine w_asg ?_ | refine w_name ?_ | refine w_if ?_ | refine w_ret ?_ | refine w_drop ?_ | refine w_next ?_ | refine w_brk ?_ | refine w_cont ?_
  | (refine w_var (v := ?vv) ?hh ?_; (case hh => with_unfolding_all exact rfl))
  | refine w_c ?_ | refine w_op ?_ | refine w_un ?_ | refine w_I0 ?_ | refine w_neg ?_ | refine w_eqI ?_ | refine w_neI ?_ | refine w_eqS ?_ | refine w_neS ?_ | refine w_eqB ?_ | refine w_neB ?_
  | refine w_test ?_ | refine w_B ?_ | refine w_and ?_ | refine w_or ?_ | refine w_not ?_ | refine w_andV ?_ | refine w_orV ?_ | refine w_notV ?_ | refine w_ifE ?_ | refine w_yes ?_
  | refine w_nil ?_ | refine w_cons ?_ | refine w_CB ?_ | refine w_callN ?_ | refine w_BM ?_ | refine w_BMT ?_ | refine w_BM0 ?_ | refine w_noPart ?_ | refine w_part ?_ | refine w_sl ?_ | refine w_tup ?_ | refine w_lst ?_
  | refine w_subG ?_ | refine w_gcons ?_ | refine w_gnil ?_ | refine w_for ?_ | refine w_lc ?_ | refine w_iR1 ?_ | refine w_iR2 ?_ | refine w_iL ?_ | refine w_iT ?_ | refine w_iS ?_
  | (show ∃ k, V.bl _ = V.bl k ∧ _; refine ⟨_, rfl, ?_⟩) | (show ∃ k, V.int _ = V.int k ∧ _; refine ⟨_, rfl, ?_⟩)
  | refine iteT ?_ | refine iteF ?_ | refine iteNT ?_ | refine iteNF ?_ | refine r_S ?_ | refine c_S ?_ | refine a_abs ?_ | refine a_intI ?_ | refine a_intB ?_ | refine w_par ?_ | refine w_dK ?_ | refine w_chain ?_ | (show ∃ v w, [_, _] = [v, w] ∧ _; refine ⟨_, _, rfl, ?_⟩)
  | refine w_getF ?_ | refine w_setF ?_ | refine w_newI ?_ | refine w_callS ?_ | refine w_getD1 ?_ | refine w_putD ?_ | refine w_veI ?_ | refine w_ostI ?_ | refine w_mkO ?_
  | refine a_isNn ?_ | refine a_isNr ?_ | refine a_notNn ?_ | refine a_notNr ?_ | refine a_isTy ?_ | refine a_notTy ?_ | refine a_isBl ?_ | refine a_notBl ?_)
local macro_rules | `(tactic| walk_at "r") => `(tactic| repeat walk_at "s")
local macro_rules | `(tactic| walk_at "tr") => `(tactic| first
  | assumption
  | (refine ex_at (H := ?H0) ?h1 ?h2; (case h2 => assumption); (case h1 => walk_at "tr"))
  | (refine ks_at (H := ?H0) (S := ?S0) ?h1 ?h2 ?h3; (case h2 => assumption); (case h3 => walk_at "nin"); (case h1 => walk_at "tr")))
local macro_rules | `(tactic| walk_at "nin") => `(tactic| first
  | exact nin_nil | (refine nin_cons ?h1 ?h2; (case h1 => walk_at "ne"); (case h2 => walk_at "nin")))
local macro_rules | `(tactic| walk_at "ne") => `(tactic| first
  | assumption | exact Ne.symm (by assumption)
  | (refine bx_nb (H := ?H0) (r := ?r0) ?h1 ?h2; (case h2 => assumption); (case h1 => walk_at "bx"))
  | (refine bx_nr (H := ?H0) (b := ?b0) ?h1 ?h2; (case h2 => assumption); (case h1 => walk_at "bx"))
  | (refine Ne.symm (bx_nb (H := ?H0) (r := ?r0) ?h1 ?h2); (case h2 => assumption); (case h1 => walk_at "bx"))
  | (refine ne_old (H := ?H0) (o := ?o0) ?h1 ?h2; (case h2 => assumption); (case h1 => walk_at "tr"))
  | (refine Ne.symm (ne_old (H := ?H0) (o := ?o0) ?h1 ?h2); (case h2 => assumption); (case h1 => walk_at "tr"))
  | exact (Tu.ne (by assumption) (by assumption)).1 | exact (Tu.ne (by assumption) (by assumption)).2
  | (refine bx_rb (H := ?H0) ?h1; (case h1 => walk_at "bx")))
local macro_rules | `(tactic| walk_at "tu") => `(tactic| first
  | assumption
  | (refine Tu.ex (H := ?H0) ?h1 ?h2; (case h2 => assumption); (case h1 => walk_at "tu"))
  | (refine Tu.ks (H := ?H0) (S := ?S0) ?h1 ?h2 ?h3; (case h2 => assumption); (case h3 => walk_at "nin"); (case h1 => walk_at "tu")))
local macro_rules | `(tactic| walk_at "bx") => `(tactic| first
  | assumption
  | (refine bx_ex (H := ?H0) ?h1 ?h2; (case h2 => assumption); (case h1 => walk_at "bx"))
  | (refine bx_ks (H := ?H0) (S := ?S0) ?h1 ?h2 ?h3 ?h4; (case h2 => assumption); (case h3 => walk_at "nin"); (case h4 => walk_at "nin"); (case h1 => walk_at "bx")))
local macro_rules | `(tactic| walk_at "sl") => `(tactic| first
  | assumption | (refine SqL.of ?h1; (case h1 => walk_at "tr"))
  | (refine ex_sl (H := ?H0) ?h1 ?h2; (case h2 => assumption); (case h1 => walk_at "sl"))
  | (refine ks_sl (H := ?H0) (S := ?S0) ?h1 ?h2 ?h3; (case h2 => assumption); (case h3 => walk_at "nin"); (case h1 => walk_at "sl")))
local macro_rules | `(tactic| walk_at "st") => `(tactic| first
  | assumption | (refine Tu.st ?h1; (case h1 => walk_at "tu")) | (refine SqT.of ?h1; (case h1 => walk_at "tr"))
  | (refine ex_st (H := ?H0) ?h1 ?h2; (case h2 => assumption); (case h1 => walk_at "st"))
  | (refine ks_st (H := ?H0) (S := ?S0) ?h1 ?h2 ?h3; (case h2 => assumption); (case h3 => walk_at "nin"); (case h1 => walk_at "st")))
local macro_rules | `(tactic| walk_at "ex") => `(tactic| first
  | exact Ex.refl _ | assumption | (refine Ex.trans (H1 := ?H0) ?h1 ?h2; (case h2 => assumption); (case h1 => walk_at "ex")))
local macro_rules | `(tactic| walk_at "ks") => `(tactic| first
  | exact Ks.refl _ _ | assumption | (refine Ks.of ?h1; (case h1 => assumption)) | (refine Ks.trans (H1 := ?H0) ?h1 ?h2; (case h2 => first | assumption | (refine Ks.of ?h3; (case h3 => assumption))); (case h1 => walk_at "ks")))

section
variable {P : Program} {w : World} {K : PySem.W.Frag} {mg : Str → Option Value} {base : Heap}
/-! ### the program: what is one -/
theorem ok_are_different (T : Tx K mg) : FnOk P w K mg base CX0 1 T.a_are_different T.e_are_different p_are_different (pDiff K) := by
  refine T.d_are_different.F.ok sc_are_different (fun vs H Q E h => ?_) (fun cdv A outer s H vs Q E hr h => ?_)
  · obtain ⟨p, ss, rfl, _⟩ := h
    rfl
  obtain ⟨p, ss, rfl, hL, hz, hs, q⟩ := h
  refine ⟨_, (pss_one (ps_ret (pe_cmpR op_eq (setNK K rfl (by rfl) T.b_len (by rfl) T.b_set (pv 0)) (pe_callB (lenK K) (by rfl) T.b_len PySem.boot_len (pa_cons (pv 0) pa_nil)) (nomark _)))), ?_⟩
  walk_at "r"
  refine ⟨.ref p, rfl, p, ss, rfl, hL, by omega, ?_⟩
  walk_at "r"
  refine a_lenL hL ?_
  walk_at "r"
  have g := q H (Ex.refl _)
  rw [← fm_nodup] at g
  rw [List.length_map]
  exact g
theorem ok_is_program (T : Tx K mg) : FnOk P w K mg base CX0 8 T.a_is_program T.e_is_program p_is_program (pIp K T.C_Function) := by
  refine T.d_is_program.F.ok sc_is_program (fun vs H Q E h => ?_) (fun cdv A outer s H vs Q E hr h => ?_)
  · obtain ⟨pf, ps, xs, fs, ss, rfl, _⟩ := h
    rfl
  obtain ⟨pf, ps, xs, fs, ss, rfl, hL, hF, hz, hsx, q⟩ := h
  have hl := hF.len
  have e0 : progD fs ss = (decide (fs.length ≤ 4) && fs.all fnD && stsD 40 ss && (nodupD (namesD fs ss) && kindD (kindsD fs ss) && fitF [] fs ss)) := rfl
  refine ⟨_, (pss_cons (ps_if (PW.pt (pw_or (pt_cmpR k_notTy (pe_callTy (typK K) (by rfl) T.b_type (by decide +kernel) (pa_cons (pv 0) pa_nil)) (pe_bltn (v := .ty "list") (by rfl) T.b_list (by decide +kernel) rfl) (nomark _)) (pw_or1 (pt_cmpR op_gt (pe_callB (lenK K) (by rfl) T.b_len PySem.boot_len (pa_cons (pv 0) pa_nil)) (pe_glob (v := .int 4) (by rfl) T.m_MOST_FUNCTIONS ⟨_, rfl⟩) (nomark _))))) (pss_one (ps_ret pe_bl)) pss_nil)
    (pss_cons (ps_if (pt_not (pt_val (pe_callB (allK K) (by rfl) T.b_all (by decide +kernel) (pa_cons (pe_lc (own := [("function", 2)]) (g := gName 2) rfl sc_is_program.nd  (plK K (pv 0)) (blkOk_by (own := [("function", 2)]) (N := n_is_program) (sc := defScope s_is_program) (by decide +kernel)) (fun _ _ _ _ _ => (pg_name (i := 2) sc_is_program.nd rfl (Or.inl rfl))) (fun _ _ _ _ _ => pts_nil) (fun _ _ _ _ _ => (pe_call (ok_is_function T) (hr.mono (by omega)) (by rfl) T.d_is_function.m T.d_is_function.F.kp T.d_is_function.b .nil pass0 (pa_cons (pv 2) pa_nil)))) pa_nil)))) (pss_one (ps_ret pe_bl)) pss_nil)
    (pss_cons (ps_if (pt_not (pt_val (pe_call (ok_are_statements T) (hr.mono (by omega)) (by rfl) T.d_are_statements.m T.d_are_statements.F.kp T.d_are_statements.b .nil pass0 (pa_cons (pv 1) (pa_cons (pe_glob (v := .int 40) (by rfl) T.m_MOST_STATEMENTS ⟨_, rfl⟩) pa_nil))))) (pss_one (ps_ret pe_bl)) pss_nil)
    (pss_one (ps_ret (pe_and (pe_call (ok_are_different T) (hr.mono (by omega)) (by rfl) T.d_are_different.m T.d_are_different.F.kp T.d_are_different.b .nil pass0 (pa_cons (pe_call (ok_all_names T) (hr.mono (by omega)) (by rfl) T.d_all_names.m T.d_all_names.F.kp T.d_all_names.b .nil pass0 (pa_cons (pv 0) (pa_cons (pv 1) pa_nil))) pa_nil)) (pe_and (pe_call (ok_are_of_one_kind T) (hr.mono (by omega)) (by rfl) T.d_are_of_one_kind.m T.d_are_of_one_kind.F.kp T.d_are_of_one_kind.b .nil pass0 (pa_cons (pe_call (ok_all_kinds T) (hr.mono (by omega)) (by rfl) T.d_all_kinds.m T.d_all_kinds.F.kp T.d_all_kinds.b .nil pass0 (pa_cons (pv 0) (pa_cons (pv 1) pa_nil))) pa_nil)) (pe_one (pe_call (ok_all_calls_fit T) (hr.mono (by omega)) (by rfl) T.d_all_calls_fit.m T.d_all_calls_fit.F.kp T.d_all_calls_fit.b .nil pass0 (pa_cons (pv 0) (pa_cons (pv 1) pa_nil))))))))))), ?_⟩
  walk_at "r"
  refine ⟨.ref pf, _, rfl, .lst hL, ?_⟩
  walk_at "r"
  refine ite2 (fun c => absurd c (by decide)) (fun _ => ?_)
  walk_at "r"
  refine a_lenL hL ?_
  walk_at "r"
  refine ite2 (fun c => ?_) (fun c => ?_)
  · have c' := of_decide_eq_true c
    have g := q H (Ex.refl _)
    rw [e0, decide_eq_false (show ¬ fs.length ≤ 4 by omega)] at g
    walk_at "r"
    exact g
  have c1 : fs.length ≤ 4 := by
    have := of_decide_eq_false (nf c)
    omega
  rw [decide_eq_true c1, Bool.true_and] at e0
  walk_at "r"
  refine c_L hL ?_
  refine cp_list (xs := xs) (fun l k h => Ex H h ∧ h l = some (.lst (((fs.take k).map fnD).map V.bl))) (fun l n => ⟨Ex.new n, upd_same⟩) (fun l k h _ _ g => ex_sl hL g.1) ?_ ?_
  · rintro l k x h nl hx ⟨e, f⟩
    obtain ⟨a, fd, rfl, hd', hfx⟩ := hF.get hx
    have hk := at_lt hx
    walk_at "r"
    refine ⟨rfl, ?_⟩
    walk_at "r"
    refine ⟨a, fd, rfl, hfx.up e, fun H1 e1 => ?_⟩
    refine ⟨_, e1 _ _ f, sz_lt (by rw [List.length_map, List.length_map, List.length_take]; omega), (e.trans e1).mut nl, ?_⟩
    rw [upd_same, take_snoc hd', List.map_append, List.map_append]
    rfl
  rintro l h nl ⟨e, f⟩
  walk_at "r"
  rw [hl, List.take_length] at f
  refine ⟨l, _, rfl, SqL.of f, ?_⟩
  have ea : (fs.map fnD).all id = fs.all fnD := by
    rw [List.all_map]
    rfl
  rw [ea]
  walk_at "r"
  refine ite2 (fun c => ?_) (fun c => ?_)
  · have c' : fs.all fnD = false := by
      cases y : fs.all fnD with
      | false => rfl
      | true => rw [y] at c; cases c
    have g := q h e
    rw [e0, c'] at g
    walk_at "r"
    exact g
  have fo : fs.all fnD = true := by
    cases y : fs.all fnD with
    | true => rfl
    | false => rw [y] at c; exact absurd rfl c
  rw [fo, Bool.true_and] at e0
  walk_at "r"
  refine ⟨ps, ss, 40, rfl, hsx.up e, fun H1 e1 => ?_⟩
  have E1 := e.trans e1
  walk_at "r"
  refine ite2 (fun c => ?_) (fun c => ?_)
  · have c' : stsD 40 ss = false := by
      cases y : stsD 40 ss with
      | false => rfl
      | true => rw [y] at c; cases c
    have g := q H1 E1
    rw [e0, c'] at g
    walk_at "r"
    exact g
  have so' : stsD 40 ss = true := by
    cases y : stsD 40 ss with
    | true => rfl
    | false => rw [y] at c; exact absurd rfl c
  have so := sts_le so'
  rw [so', Bool.true_and] at e0
  have hpg : Pg K T.C_Function H pf ps fs ss := ⟨⟨xs, hL, hF⟩, hsx, fo, so.2, c1, so.1⟩
  walk_at "r"
  refine ⟨[], pf, ps, fs, ss, rfl, Al.nil, by rw [dl_nil]; exact hpg.up E1, fun t H2 n2 e2 f2 => ?_⟩
  have E2 := E1.trans e2
  walk_at "r"
  refine ⟨t, _, rfl, SqL.of f2, names_le fo c1 so.1, names_s fo so.2, fun H3 e3 => ?_⟩
  have E3 := E2.trans e3
  have g3 := q H3 E3
  rw [e0] at g3
  walk_at "r"
  refine ite2 (fun c => ?_) (fun c => ?_)
  rotate_left
  · rw [nf c] at g3
    exact g3
  rw [c, Bool.true_and] at e0
  walk_at "r"
  refine ⟨[], pf, ps, fs, ss, rfl, Al.nil, by rw [dl_nil]; exact hpg.up E3, fun t4 ys4 H4 n4 e4 f4 D4 => ?_⟩
  have E4 := E3.trans e4
  rw [dl_nil] at D4
  walk_at "r"
  have dle := decls_le fo c1 so.1
  refine ⟨t4, _, rfl, ⟨⟨ys4, SqL.of f4, D4⟩, kinds_sm (sm_app (fn_sm hF fo) (sm_lets hsx.sm so.2)) (decls_ok fo so.2), by unfold kindsD; rw [List.length_map]; omega⟩, fun H5 e5 => ?_⟩
  have E5 := E4.trans e5
  have g5 := q H5 E5
  rw [e0] at g5
  walk_at "r"
  refine ite2 (fun c => ?_) (fun c => ?_)
  rotate_left
  · rw [nf c] at g5
    exact g5
  rw [c, Bool.true_and] at e0
  walk_at "r"
  refine ⟨pf, ps, fs, ss, rfl, hpg.up E5, fun H6 e6 => ?_⟩
  have g6 := q H6 (E5.trans e6)
  rw [e0] at g6
  exact g6
theorem ok_RightsError_init (T : Tx K mg) : FnOk P w K mg base CX0 1 T.a_RightsError_init T.e_RightsError_init p_RightsError_init (pRe T.C_RightsError) := by
  refine T.d_RightsError_init.F.ok sc_RightsError_init (fun vs H Q E h => ?_) (fun cdv A outer s H vs Q E hr h => ?_)
  · obtain ⟨a, r, rfl, _⟩ := h
    rfl
  obtain ⟨a, r, rfl, fa, q⟩ := h
  refine ⟨_, (pss_cons (ps_expr (pe_veinit (by rfl) T.b_ValueError T.vV (pa_cons (pv 0) (pa_cons (pv 1) pa_nil))))
    (pss_one (ps_ost (pv 0) (pv 1)))), ?_⟩
  walk_at "r"
  refine ⟨a, T.C_RightsError, [.str r], rfl, (show 1 ≤ 1000 by decide), T.o_RightsError, fa, ?_⟩
  walk_at "r"
  refine ⟨a, T.C_RightsError, rfl, T.o_RightsError, T.n_RightsError_reason, .inl ⟨fa, fun dx n ne => ?_⟩⟩
  walk_at "r"
  exact q dx n ne
theorem ok_Program_init (T : Tx K mg) : FnOk P w K mg base (L2.CX P w) 9 T.a_Program_init T.e_Program_init p_Program_init (pPi K T.C_Program T.C_Function T.C_RightsError) := by
  refine T.d_Program_init.F.okX sc_Program_init (fun vs H Q E h => ?_) (fun cdv A outer s H vs Q E hr h => ?_)
  · obtain ⟨S, a, dx, pf, ps, xs, fs, ss, rfl, _⟩ := h
    rfl
  obtain ⟨S, a, dx, pf, ps, xs, fs, ss, rfl, al, ha, fa, hL, hF, hz, hsx, q1, q2⟩ := h
  refine ⟨_, (pss_cons (ps_fld (pv 0) (pe_call (ok_copied_functions T) (hr.mono (by omega)) (by rfl) T.d_copied_functions.m T.d_copied_functions.F.kp T.d_copied_functions.b .nil pass0 (pa_cons (pv 1) pa_nil)) rfl)
    (pss_cons (ps_fld (pv 0) (pe_call (ok_copied_statements T) (hr.mono (by omega)) (by rfl) T.d_copied_statements.m T.d_copied_statements.F.kp T.d_copied_statements.b .nil pass0 (pa_cons (pv 2) pa_nil)) rfl)
    (pss_one (ps_if (pt_not (pt_val (pe_call (ok_is_program T) (hr.mono (by omega)) (by rfl) T.d_is_program.m T.d_is_program.F.kp T.d_is_program.b .nil pass0 (pa_cons (by exact (fldK K (pv 0) rfl)) (pa_cons (by exact (fldK K (pv 0) rfl)) pa_nil))))) (pss_one (ps_raise rfl (takes_of rfl rfl rfl rfl) (pmk_oex T.o_RightsError T.i_RightsError T.t_RightsError (ok_RightsError_init T) (hr.mono (by omega)) T.d_RightsError_init.b .nil pass0 (by rfl) T.g_RightsError (pa_cons pe_str pa_nil)))) pss_nil)))), ?_⟩
  walk_at "r"
  refine ⟨S, pf, xs, fs, rfl, al, hL, hF, hz, fun p1 ys1 H1 n1 e1 f1 D1 nw => ?_⟩
  have na1 : p1 ≠ a := fun z => by rw [z, fa] at n1; cases n1
  walk_at "r"
  refine a_put T.c_Program T.n_Program_functions (e1 _ _ fa) (by decide) ?_
  have g2 : dl S (upd H1 a (.ins T.C_Program dx (putF "functions" (.ref p1) []))) = dl S H1 := dl_upd ha
  have al2 : Al S (upd H1 a (.ins T.C_Program dx (putF "functions" (.ref p1) []))) := (al.ex e1).upd
  have k2 : Ks [a] H (upd H1 a (.ins T.C_Program dx (putF "functions" (.ref p1) []))) := (Ks.of e1).upd (by simp)
  have k02 : Ks [a] H1 (upd H1 a (.ins T.C_Program dx (putF "functions" (.ref p1) []))) := (Ks.refl _ _).upd (by simp)
  have f2 : (upd H1 a (.ins T.C_Program dx (putF "functions" (.ref p1) []))) a = some (.ins T.C_Program dx (putF "functions" (.ref p1) [])) := upd_same
  have f2p : (upd H1 a (.ins T.C_Program dx (putF "functions" (.ref p1) []))) p1 = some (.lst ys1) := by rw [upd_ne na1]; exact f1
  generalize upd H1 a (.ins T.C_Program dx (putF "functions" (.ref p1) [])) = H2 at g2 al2 k2 k02 f2 f2p ⊢
  have e02 : Ex (dl S H) (dl S H2) := by rw [g2]; exact dl_ex e1
  rw [← g2] at D1
  walk_at "r"
  refine ⟨S, ps, ss, rfl, al2, hsx.up e02, fun p2 ys2 H3 n3 e3 f3 D3 => ?_⟩
  have na2 : p2 ≠ a := fun z => by rw [z, f2] at n3; cases n3
  walk_at "r"
  refine a_put T.c_Program T.n_Program_statements (e3 _ _ f2) (put1_lt _ _) ?_
  have g4 : dl S (upd H3 a (.ins T.C_Program dx (pgF p1 p2))) = dl S H3 := dl_upd ha
  have k4 : Ks [a] H (upd H3 a (.ins T.C_Program dx (pgF p1 p2))) := (k2.trans (Ks.of e3)).upd (by simp)
  have k24 : Ks [a] H2 (upd H3 a (.ins T.C_Program dx (pgF p1 p2))) := (Ks.of e3).upd (by simp)
  have f4 : (upd H3 a (.ins T.C_Program dx (pgF p1 p2))) a = some (.ins T.C_Program dx (pgF p1 p2)) := upd_same
  have f4p : (upd H3 a (.ins T.C_Program dx (pgF p1 p2))) p1 = some (.lst ys1) := by rw [upd_ne na1]; exact e3 _ _ f2p
  have f4q : (upd H3 a (.ins T.C_Program dx (pgF p1 p2))) p2 = some (.lst ys2) := by rw [upd_ne na2]; exact f3
  change (fun Hc => _) (upd H3 a (.ins T.C_Program dx (pgF p1 p2)))
  generalize upd H3 a (.ins T.C_Program dx (pgF p1 p2)) = H4 at g4 k4 k24 f4 f4p f4q ⊢
  rw [← g4] at D3
  have D1' : FnAll K T.C_Function (dl S H4) ys1 fs := D1.up (by rw [g4]; exact dl_ex e3)
  walk_at "r"
  refine a_get T.c_Program T.n_Program_functions f4 (pg_fns _ _) ?_
  walk_at "r"
  refine a_get T.c_Program T.n_Program_statements f4 (pg_sts _ _) ?_
  walk_at "r"
  refine ⟨p1, p2, ys1, fs, ss, rfl, SqL.of f4p, D1'.up (dl_le S H4), hz, ⟨⟨ys2, SqL.of f4q, dpa_ex (dl_le S H4) D3⟩, hsx.sm, hsx.le⟩, fun H5 e5 => ?_⟩
  walk_at "r"
  refine ite2 (fun c => ?_) (fun c => ?_)
  · have c' : progD fs ss = false := by
      cases y : progD fs ss with
      | false => rfl
      | true => rw [y] at c; cases c
    walk_at "r"
    refine mko_re fun d H6 n6 e6 f6 => ?_
    refine q2 c' d H6 ((k4.trans (Ks.of e5)).trans (Ks.of e6)) ?_ f6
    refine ks_none (k4.trans (Ks.of e5)) n6 ?_
    have := e5 _ _ f4
    rw [List.mem_singleton]
    rintro rfl
    rw [this] at n6
    cases n6
  · have c' : progD fs ss = true := by
      cases y : progD fs ss with
      | true => rfl
      | false => rw [y] at c; exact absurd rfl c
    walk_at "r"
    have KH : Ks [a] H1 H5 := (k02.trans k24).trans (Ks.of e5)
    exact q1 c' p1 p2 ys1 ys2 H5 (k4.trans (Ks.of e5)) n1 (ks_none k2 n3 (by simpa using na2)) (e5 _ _ f4) (e5 _ _ f4p) (D1'.up (dl_ex e5)) (fun v hv => (nw v hv).ks fa KH) (e5 _ _ f4q) (dpa_ex (dl_ex e5) D3)

end
end Ver

set_option Elab.async false
set_option linter.all false
set_option maxRecDepth 100000
set_option maxHeartbeats 4000000
namespace Ver
open PySem PySem.Spec PyProof.Rows L2 Evl
local macro_rules | `(tactic| walk_at "s") => `(tactic| with_reducible first
  | refine w_seq ?_ | refine w_asg ?_ | refine w_name ?_ | refine w_if ?_ | refine w_ret ?_ | refine w_drop ?_ | refine w_next ?_ | refine w_brk ?_ | refine w_cont ?_
  | (refine w_var (v := ?vv) ?hh ?_; (case hh => with_unfolding_all exact rfl))
  | refine w_c ?_ | refine w_op ?_ | refine w_un ?_ | refine w_I0 ?_ | refine w_neg ?_ | refine w_eqI ?_ | refine w_neI ?_ | refine w_eqS ?_ | refine w_neS ?_ | refine w_eqB ?_ | refine w_neB ?_
  | refine w_test ?_ | refine w_B ?_ | refine w_and ?_ | refine w_or ?_ | refine w_not ?_ | refine w_andV ?_ | refine w_orV ?_ | refine w_notV ?_ | refine w_ifE ?_ | refine w_yes ?_
  | refine w_nil ?_ | refine w_cons ?_ | refine w_CB ?_ | refine w_callN ?_ | refine w_BM ?_ | refine w_BMT ?_ | refine w_BM0 ?_ | refine w_noPart ?_ | refine w_part ?_ | refine w_sl ?_ | refine w_tup ?_ | refine w_lst ?_
  | refine w_subG ?_ | refine w_gcons ?_ | refine w_gnil ?_ | refine w_for ?_ | refine w_lc ?_ | refine w_iR1 ?_ | refine w_iR2 ?_ | refine w_iL ?_ | refine w_iT ?_ | refine w_iS ?_
  | (show ∃ k, V.bl _ = V.bl k ∧ _; refine ⟨_, rfl, ?_⟩) | (show ∃ k, V.int _ = V.int k ∧ _; refine ⟨_, rfl, ?_⟩)
  | refine iteT ?_ | refine iteF ?_ | refine iteNT ?_ | refine iteNF ?_ | refine r_S ?_ | refine c_S ?_ | refine a_abs ?_ | refine a_intI ?_ | refine a_intB ?_ | refine w_par ?_ | refine w_dK ?_ | refine w_chain ?_ | (show ∃ v w, [_, _] = [v, w] ∧ _; refine ⟨_, _, rfl, ?_⟩)
  | refine w_getF ?_ | refine w_setF ?_ | refine w_newI ?_ | refine w_callS ?_ | refine w_getD1 ?_ | refine w_putD ?_ | refine w_veI ?_ | refine w_ostI ?_ | refine w_mkO ?_ | refine w_newS ?_ | refine w_xf ?_
  | refine a_isNn ?_ | refine a_isNr ?_ | refine a_notNn ?_ | refine a_notNr ?_ | refine a_isTy ?_ | refine a_notTy ?_ | refine a_isBl ?_ | refine a_notBl ?_)
local macro_rules | `(tactic| walk_at "r") => `(tactic| repeat walk_at "s")
local macro_rules | `(tactic| walk_at "tr") => `(tactic| first
  | assumption
  | (refine ex_at (H := ?H0) ?h1 ?h2; (case h2 => assumption); (case h1 => walk_at "tr"))
  | (refine ks_at (H := ?H0) (S := ?S0) ?h1 ?h2 ?h3; (case h2 => assumption); (case h3 => walk_at "nin"); (case h1 => walk_at "tr")))
local macro_rules | `(tactic| walk_at "nin") => `(tactic| first
  | exact nin_nil | (refine nin_cons ?h1 ?h2; (case h1 => walk_at "ne"); (case h2 => walk_at "nin")))
local macro_rules | `(tactic| walk_at "ne") => `(tactic| first
  | assumption | exact Ne.symm (by assumption)
  | (refine bx_nb (H := ?H0) (r := ?r0) ?h1 ?h2; (case h2 => assumption); (case h1 => walk_at "bx"))
  | (refine bx_nr (H := ?H0) (b := ?b0) ?h1 ?h2; (case h2 => assumption); (case h1 => walk_at "bx"))
  | (refine Ne.symm (bx_nb (H := ?H0) (r := ?r0) ?h1 ?h2); (case h2 => assumption); (case h1 => walk_at "bx"))
  | (refine ne_old (H := ?H0) (o := ?o0) ?h1 ?h2; (case h2 => assumption); (case h1 => walk_at "tr"))
  | (refine Ne.symm (ne_old (H := ?H0) (o := ?o0) ?h1 ?h2); (case h2 => assumption); (case h1 => walk_at "tr"))
  | exact (Tu.ne (by assumption) (by assumption)).1 | exact (Tu.ne (by assumption) (by assumption)).2
  | (refine bx_rb (H := ?H0) ?h1; (case h1 => walk_at "bx")))
local macro_rules | `(tactic| walk_at "tu") => `(tactic| first
  | assumption
  | (refine Tu.ex (H := ?H0) ?h1 ?h2; (case h2 => assumption); (case h1 => walk_at "tu"))
  | (refine Tu.ks (H := ?H0) (S := ?S0) ?h1 ?h2 ?h3; (case h2 => assumption); (case h3 => walk_at "nin"); (case h1 => walk_at "tu")))
local macro_rules | `(tactic| walk_at "bx") => `(tactic| first
  | assumption
  | (refine bx_ex (H := ?H0) ?h1 ?h2; (case h2 => assumption); (case h1 => walk_at "bx"))
  | (refine bx_ks (H := ?H0) (S := ?S0) ?h1 ?h2 ?h3 ?h4; (case h2 => assumption); (case h3 => walk_at "nin"); (case h4 => walk_at "nin"); (case h1 => walk_at "bx")))
local macro_rules | `(tactic| walk_at "sl") => `(tactic| first
  | assumption | (refine SqL.of ?h1; (case h1 => walk_at "tr"))
  | (refine ex_sl (H := ?H0) ?h1 ?h2; (case h2 => assumption); (case h1 => walk_at "sl"))
  | (refine ks_sl (H := ?H0) (S := ?S0) ?h1 ?h2 ?h3; (case h2 => assumption); (case h3 => walk_at "nin"); (case h1 => walk_at "sl")))
local macro_rules | `(tactic| walk_at "st") => `(tactic| first
  | assumption | (refine Tu.st ?h1; (case h1 => walk_at "tu")) | (refine SqT.of ?h1; (case h1 => walk_at "tr"))
  | (refine ex_st (H := ?H0) ?h1 ?h2; (case h2 => assumption); (case h1 => walk_at "st"))
  | (refine ks_st (H := ?H0) (S := ?S0) ?h1 ?h2 ?h3; (case h2 => assumption); (case h3 => walk_at "nin"); (case h1 => walk_at "st")))
local macro_rules | `(tactic| walk_at "ex") => `(tactic| first
  | exact Ex.refl _ | assumption | (refine Ex.trans (H1 := ?H0) ?h1 ?h2; (case h2 => assumption); (case h1 => walk_at "ex")))
local macro_rules | `(tactic| walk_at "ks") => `(tactic| first
  | exact Ks.refl _ _ | assumption | (refine Ks.of ?h1; (case h1 => assumption)) | (refine Ks.trans (H1 := ?H0) ?h1 ?h2; (case h2 => first | assumption | (refine Ks.of ?h3; (case h3 => assumption))); (case h1 => walk_at "ks")))

section
variable {P : Program} {w : World} {K : PySem.W.Frag} {mg : Str → Option Value} {base : Heap}
theorem fdat_at {fs : List FD} {k : Nat} {d : PyData} (h : (fs.map fdat)[k]? = some d) : ∃ f, fs[k]? = some f ∧ d = fdat f := by
  rw [List.getElem?_map] at h
  cases e : fs[k]? with
  | none => rw [e] at h; cases h
  | some f => rw [e] at h; exact ⟨f, rfl, (Option.some.inj h).symm⟩
theorem ok__law_accepts (T : Tx K mg) : FnOk P w K mg base CX0 11 T.a__law_accepts T.e__law_accepts p__law_accepts (pAcc K) := by
  refine T.d__law_accepts.F.ok sc__law_accepts (fun vs H Q E h => ?_) (fun cdv A outer s H vs Q E hr h => ?_)
  · obtain ⟨v1, v2, fs, ss, rfl, _⟩ := h
    rfl
  obtain ⟨v1, v2, fs, ss, rfl, hf, hs, q⟩ := h
  refine ⟨_, (pss_cons (ps_try_as (i := 2) (Wout := fun _ _ _ _ => False) rfl rfl sc__law_accepts.nd rfl rfl ⟨rfl, by decide, Or.inl T.g_RightsError⟩ takes0 (fun W pn xe tk _ => (pss_one (ps_expr (pe_makeS T.k_Program (ok_Program_init T) (hr.mono (by omega)) (by rfl) T.g_Program T.d_Program_init.b (fun σ => passAt tk σ) (pa_cons (pe_lc (own := [("f", 3)]) (g := gName 3) rfl sc__law_accepts.nd  (plK K (pv 0)) (blkOk_by (own := [("f", 3)]) (N := n__law_accepts) (sc := defScope s__law_accepts) (by decide +kernel)) (fun _ _ _ _ _ => (pg_name (i := 3) sc__law_accepts.nd rfl (Or.inl rfl))) (fun _ _ _ _ _ => pts_nil) (fun _ _ _ _ _ => (pe_make T.k_Function (ok_Function_init T) (hr.mono (by omega)) (by rfl) T.g_Function T.d_Function_init.b .nil pass0 (pa_cons (pe_ix (ixL K) (pv 3) pe_int (fun _ _ => rfl)) (pa_cons (pe_callTy (lstK K) (by rfl) T.b_list (by decide +kernel) (pa_cons (pe_ix (ixL K) (pv 3) pe_int (fun _ _ => rfl)) pa_nil)) (pa_cons (pe_callTy (lstK K) (by rfl) T.b_list (by decide +kernel) (pa_cons (pe_ix (ixL K) (pv 3) pe_int (fun _ _ => rfl)) pa_nil)) pa_nil)))))) (pa_cons (pe_callTy (lstK K) (by rfl) T.b_list (by decide +kernel) (pa_cons (pv 1) pa_nil)) pa_nil)))))) (fun a oe cls d pn hz hf => (pss_one (ps_ret (pe_ix (ixL K) (pe_lst (pa_cons pe_non (pa_cons pe_bl pa_nil))) (pe_callTy k_int (by rfl) T.b_int (by decide +kernel) (pa_cons (pe_cmpR op_eq (by exact (pe_xf T.x_RightsError T.n_RightsError_reason hz hf (pv 2))) pe_str (nomark _)) pa_nil)) (fun _ _ => rfl))))))
    (pss_one (ps_ret pe_bl))), ?_⟩
  obtain ⟨p, xs, _, rfl, e1, hL, hD, hm, hz, hl⟩ := ds_lst hf rfl
  cases e1
  obtain ⟨ps, xt, _, rfl, e2, hL2, hD2, hm2, hz2, hl2⟩ := ds_lst hs rfl
  cases e2
  rw [List.length_map] at hl hz
  walk_at "r"
  refine c_L hL ?_
  refine cp_list (xs := xs) (fun l k h => Ex H h ∧ Al [l] h ∧ ∃ ys, h l = some (.lst ys) ∧ FnAll K T.C_Function (dl [l] h) ys (fs.take k))
    (fun l n => ⟨Ex.new n, Al.nil.cons upd_same, [], upd_same, .nil⟩) (fun l k h _ _ g => ex_sl hL g.1) ?_ ?_
  · rintro l k x h nl hx ⟨e, al, ys, f, fD⟩
    obtain ⟨d, hd', dx⟩ := ds_at hD hm hx
    obtain ⟨fd, hd2, rfl⟩ := fdat_at hd'
    obtain ⟨p0, u, q1, q2, rfl, g0, gu, g1, g2⟩ := ds_fdat dx
    obtain ⟨z1, i1, j1⟩ := g1.ex
    obtain ⟨z2, i2, j2⟩ := g2.ex
    have hk := at_lt hx
    have yl := fD.len
    rw [take_len hd2] at yl
    walk_at "r"
    refine ⟨rfl, ?_⟩
    walk_at "r"
    refine a_ixL (v := u) (ex_sl g0 e) rfl ?_
    walk_at "r"
    refine a_ixL (v := .ref q1) (ex_sl g0 e) rfl ?_
    walk_at "r"
    refine a_lstL (ex_sl i1 e) fun r1 H1 n1 e1 f1 => ?_
    walk_at "r"
    refine a_ixL (v := .ref q2) (ex_sl g0 (e.trans e1)) rfl ?_
    walk_at "r"
    refine a_lstL (ex_sl i2 (e.trans e1)) fun r2 H2 n2 e2 f2 => ?_
    walk_at "r"
    have E2 := (e.trans e1).trans e2
    refine a_new fun y dy H3 n3 n4 n5 e3 f3 f4 => ?_
    have L0 : Ex H (dl [l] H2) := fun b o z => by
      have nb : b ≠ l := ne_of_none z nl
      rw [dl_nin (by simpa using nb)]
      exact E2 b o z
    have al2 := (al.ex e1).ex e2
    have ny := al2.nin n3
    have nd := al2.nin n4
    have M : Ex (dl [l] H2) (dl [y, dy, l] H3) := fun b o z => by
      by_cases hb : b ∈ [l]
      · rw [dl_in hb] at z
        cases z
      · rw [dl_nin hb] at z
        rw [dl_nin (by
          intro c
          rcases List.mem_cons.mp c with c | c
          · rw [c, n3] at z; cases z
          rcases List.mem_cons.mp c with c | c
          · rw [c, n4] at z; cases z
          · exact hb c)]
        exact e3 b o z
    have N := L0.trans M
    have r1n : r1 ∉ [l] := al.nin n1
    have r2n : r2 ∉ [l] := (al.ex e1).nin n2
    have D1 : Dl K (dl [y, dy, l] H3) r1 fd.p := ⟨⟨z1, SqL.of (M _ _ (dl_at r1n (e2 _ _ f1))), dpa_ex N j1⟩, g1.sm, g1.le⟩
    have D2 : Dl K (dl [y, dy, l] H3) r2 fd.b := ⟨⟨z2, SqL.of (M _ _ (dl_at r2n f2)), dpa_ex N j2⟩, g2.sm, g2.le⟩
    refine ⟨[y, dy, l], y, dy, u, r1, r2, fd, rfl, ((al2.ex e3).cons f4).cons f3, List.mem_cons_self .., f3, ds_ex gu N, D1, D2, fun s1 s2 w1 w2 H4 k4 m1 m2 nq c0 c1 c2 B1 B2 => ⟨rfl, ?_⟩⟩
    have E24 : Ex H2 H4 := fun b o z => k4 b o (fun c => by rw [List.mem_singleton] at c; rw [c, n3] at z; cases z) (e3 b o z)
    have O : Ex (dl [y, dy, l] H4) (dl [l] H4) := dl_sub fun b c => List.mem_cons_of_mem _ (List.mem_cons_of_mem _ c)
    have U : Ex (dl [y, dy, l] H3) (dl [y, dy, l] H4) := dl_ks fun b o hb z => k4 b o (fun c => hb (by rw [List.mem_singleton] at c; rw [c]; exact List.mem_cons_self ..)) z
    have al3 : Al [l] H3 := al2.ex e3
    have s1n : s1 ∉ [l] := al3.nin m1
    have s2n : s2 ∉ [l] := al3.nin m2
    have E04 : Ex h H4 := (e1.trans e2).trans E24
    refine ⟨ys, E04 _ _ f, sz_lt (by omega), (E2.trans E24).mut nl, (al.ex E04).upd, ys ++ [.ref y], upd_same, ?_⟩
    rw [dl_upd (by simp), take_snoc hd2]
    refine FnAll.snoc ⟨dy, u, s1, s2, dl_at ny c0, ds_ex gu ((N.trans U).trans O), ⟨⟨w1, dl_at s1n c1, dpa_ex O B1⟩, g1.sm, g1.le⟩, ⟨⟨w2, dl_at s2n c2, dpa_ex O B2⟩, g2.sm, g2.le⟩⟩ (fD.up (dl_ex E04))
  · rintro l h nl ⟨e, al, ys, f, fD⟩
    rw [hl, List.take_length] at fD
    walk_at "r"
    refine a_lstL (ex_sl hL2 e) fun r1 H1 n1 e1 f1 => ?_
    walk_at "r"
    refine a_newS fun x dx H2 n2 n3 n4 e2 f2 f3 => ?_
    have N := ex_two n2 n3 e2
    have G1 : FnAll K T.C_Function (dl [x, dx] H2) ys fs := fD.up (((dl_le [l] h).trans e1).trans N)
    refine ⟨[x, dx], x, dx, l, r1, ys, fs, ss, rfl, (Al.nil.cons f3).cons f2, List.mem_cons_self .., f2, SqL.of (N _ _ (e1 _ _ f)), G1, hz, ⟨⟨xt, SqL.of (N _ _ f1), dpa_ex ((e.trans e1).trans N) hD2⟩, hm2, hz2⟩, fun c q1 q2 w1 w2 H3 k3 m1 m2 c0 c1 _ _ c2 _ => ?_, fun c d H3 k3 m1 c1 => ?_⟩
    · refine ⟨rfl, ?_⟩
      have E3 : Ex H H3 := fun b o z => k3 b o (fun y => ne_of_none ((e.trans e1) b o z) n2 (by simpa using y)) (e2 b o ((e.trans e1) b o z))
      walk_at "r"
      have g := q H3 E3
      rw [c] at g
      exact g
    · have E3 : Ex H H3 := fun b o z => k3 b o (fun y => ne_of_none ((e.trans e1) b o z) n2 (by simpa using y)) (e2 b o ((e.trans e1) b o z))
      refine ⟨true, T.s_RightsError, fun _ a na => ?_, fun z => by cases z⟩
      walk_at "r"
      refine new_lst (by simp) fun t H4 n4 e4 f4 => ?_
      walk_at "r"
      refine ⟨rfl, rfl, d, _, .str "no program", rfl, e4 _ _ c1, rfl, ?_⟩
      walk_at "r"
      refine a_ixL (v := .bl false) (SqL.of f4) rfl ?_
      have g := q H4 (E3.trans e4)
      rw [c] at g
      exact g

end
end Ver

set_option Elab.async false
set_option linter.all false
set_option maxRecDepth 100000
set_option maxHeartbeats 4000000
namespace Ver
open PySem PySem.Spec PyProof.Rows L2 Evl
local macro_rules | `(tactic| walk_at "s") => `(tactic| with_reducible first
  | refine w_seq ?_ | refine w_asg ?_ | refine w_name ?_ | refine w_if ?_ | refine w_ret ?_ | refine w_drop ?_ | refine w_next ?_ | refine w_brk ?_ | refine w_cont ?_
  | (refine w_var (v := ?vv) ?hh ?_; (case hh => with_unfolding_all exact rfl))
  | refine w_c ?_ | refine w_op ?_ | refine w_un ?_ | refine w_I0 ?_ | refine w_neg ?_ | refine w_eqI ?_ | refine w_neI ?_ | refine w_eqS ?_ | refine w_neS ?_ | refine w_eqB ?_ | refine w_neB ?_
  | refine w_test ?_ | refine w_B ?_ | refine w_and ?_ | refine w_or ?_ | refine w_not ?_ | refine w_andV ?_ | refine w_orV ?_ | refine w_notV ?_ | refine w_ifE ?_ | refine w_yes ?_
  | refine w_nil ?_ | refine w_cons ?_ | refine w_CB ?_ | refine w_callN ?_ | refine w_BM ?_ | refine w_BMT ?_ | refine w_BM0 ?_ | refine w_noPart ?_ | refine w_part ?_ | refine w_sl ?_ | refine w_tup ?_ | refine w_lst ?_
  | refine w_subG ?_ | refine w_gcons ?_ | refine w_gnil ?_ | refine w_for ?_ | refine w_lc ?_ | refine w_iR1 ?_ | refine w_iR2 ?_ | refine w_iL ?_ | refine w_iT ?_ | refine w_iS ?_
  | (show ∃ k, V.bl _ = V.bl k ∧ _; refine ⟨_, rfl, ?_⟩) | (show ∃ k, V.int _ = V.int k ∧ _; refine ⟨_, rfl, ?_⟩)
  | refine iteT ?_ | refine iteF ?_ | refine iteNT ?_ | refine iteNF ?_ | refine r_S ?_ | refine c_S ?_ | refine a_abs ?_ | refine a_intI ?_ | refine a_intB ?_ | refine w_par ?_ | refine w_dK ?_ | refine w_chain ?_ | (show ∃ v w, [_, _] = [v, w] ∧ _; refine ⟨_, _, rfl, ?_⟩)
  | refine w_getF ?_ | refine w_setF ?_ | refine w_newI ?_ | refine w_callS ?_ | refine w_getD1 ?_ | refine w_putD ?_ | refine w_veI ?_ | refine w_ostI ?_ | refine w_mkO ?_ | refine w_newS ?_ | refine w_xf ?_
  | refine a_isNn ?_ | refine a_isNr ?_ | refine a_notNn ?_ | refine a_notNr ?_ | refine a_isTy ?_ | refine a_notTy ?_ | refine a_isBl ?_ | refine a_notBl ?_)
local macro_rules | `(tactic| walk_at "r") => `(tactic| repeat walk_at "s")
local macro_rules | `(tactic| walk_at "tr") => `(tactic| first
  | assumption
  | (refine ex_at (H := ?H0) ?h1 ?h2; (case h2 => assumption); (case h1 => walk_at "tr"))
  | (refine ks_at (H := ?H0) (S := ?S0) ?h1 ?h2 ?h3; (case h2 => assumption); (case h3 => walk_at "nin"); (case h1 => walk_at "tr")))
local macro_rules | `(tactic| walk_at "nin") => `(tactic| first
  | exact nin_nil | (refine nin_cons ?h1 ?h2; (case h1 => walk_at "ne"); (case h2 => walk_at "nin")))
local macro_rules | `(tactic| walk_at "ne") => `(tactic| first
  | assumption | exact Ne.symm (by assumption)
  | (refine bx_nb (H := ?H0) (r := ?r0) ?h1 ?h2; (case h2 => assumption); (case h1 => walk_at "bx"))
  | (refine bx_nr (H := ?H0) (b := ?b0) ?h1 ?h2; (case h2 => assumption); (case h1 => walk_at "bx"))
  | (refine Ne.symm (bx_nb (H := ?H0) (r := ?r0) ?h1 ?h2); (case h2 => assumption); (case h1 => walk_at "bx"))
  | (refine ne_old (H := ?H0) (o := ?o0) ?h1 ?h2; (case h2 => assumption); (case h1 => walk_at "tr"))
  | (refine Ne.symm (ne_old (H := ?H0) (o := ?o0) ?h1 ?h2); (case h2 => assumption); (case h1 => walk_at "tr"))
  | exact (Tu.ne (by assumption) (by assumption)).1 | exact (Tu.ne (by assumption) (by assumption)).2
  | (refine bx_rb (H := ?H0) ?h1; (case h1 => walk_at "bx")))
local macro_rules | `(tactic| walk_at "tu") => `(tactic| first
  | assumption
  | (refine Tu.ex (H := ?H0) ?h1 ?h2; (case h2 => assumption); (case h1 => walk_at "tu"))
  | (refine Tu.ks (H := ?H0) (S := ?S0) ?h1 ?h2 ?h3; (case h2 => assumption); (case h3 => walk_at "nin"); (case h1 => walk_at "tu")))
local macro_rules | `(tactic| walk_at "bx") => `(tactic| first
  | assumption
  | (refine bx_ex (H := ?H0) ?h1 ?h2; (case h2 => assumption); (case h1 => walk_at "bx"))
  | (refine bx_ks (H := ?H0) (S := ?S0) ?h1 ?h2 ?h3 ?h4; (case h2 => assumption); (case h3 => walk_at "nin"); (case h4 => walk_at "nin"); (case h1 => walk_at "bx")))
local macro_rules | `(tactic| walk_at "sl") => `(tactic| first
  | assumption | (refine SqL.of ?h1; (case h1 => walk_at "tr"))
  | (refine ex_sl (H := ?H0) ?h1 ?h2; (case h2 => assumption); (case h1 => walk_at "sl"))
  | (refine ks_sl (H := ?H0) (S := ?S0) ?h1 ?h2 ?h3; (case h2 => assumption); (case h3 => walk_at "nin"); (case h1 => walk_at "sl")))
local macro_rules | `(tactic| walk_at "st") => `(tactic| first
  | assumption | (refine Tu.st ?h1; (case h1 => walk_at "tu")) | (refine SqT.of ?h1; (case h1 => walk_at "tr"))
  | (refine ex_st (H := ?H0) ?h1 ?h2; (case h2 => assumption); (case h1 => walk_at "st"))
  | (refine ks_st (H := ?H0) (S := ?S0) ?h1 ?h2 ?h3; (case h2 => assumption); (case h3 => walk_at "nin"); (case h1 => walk_at "st")))
local macro_rules | `(tactic| walk_at "ex") => `(tactic| first
  | exact Ex.refl _ | assumption | (refine Ex.trans (H1 := ?H0) ?h1 ?h2; (case h2 => assumption); (case h1 => walk_at "ex")))
local macro_rules | `(tactic| walk_at "ks") => `(tactic| first
  | exact Ks.refl _ _ | assumption | (refine Ks.of ?h1; (case h1 => assumption)) | (refine Ks.trans (H1 := ?H0) ?h1 ?h2; (case h2 => first | assumption | (refine Ks.of ?h3; (case h3 => assumption))); (case h1 => walk_at "ks")))

section
variable {P : Program} {w : World} {K : PySem.W.Frag} {mg : Str → Option Value} {base : Heap}
/-! ### the row and the draws -/
def pCell (K : PySem.W.Frag) : Sp := fun vs H Q _ => ∃ (a : Addr) (ns : List Int) (k : Int), vs = [.ref a, .int k] ∧ SqL K H a (ns.map V.int) ∧ 0 ≤ k ∧ ∀ v : Int, Q (.int v) H
theorem ok__law_cell (T : Tx K mg) : FnOk P w K mg base CX0 1 T.a__law_cell T.e__law_cell p__law_cell (pCell K) := by
  refine T.d__law_cell.F.ok sc__law_cell (fun vs H Q E h => ?_) (fun cdv A outer s H vs Q E hr h => ?_)
  · obtain ⟨a, ns, k, rfl, _⟩ := h
    rfl
  obtain ⟨a, ns, k, rfl, hS, h0, q⟩ := h
  refine ⟨_, (pss_cons (ps_if (pt_cmpR op_lt (pv 1) (pe_callB (lenK K) (by rfl) T.b_len PySem.boot_len (pa_cons (pv 0) pa_nil)) (nomark _)) (pss_one (ps_ret (pe_ix (ixL K) (pv 0) (pv 1) (fun _ _ => rfl)))) pss_nil)
    (pss_one (ps_ret pe_int))), ?_⟩
  walk_at "r"
  refine a_lenL hS ?_
  walk_at "r"
  refine ite2 (fun c => ?_) (fun c => ?_)
  · have c' : k < ((ns.map V.int).length : Int) := of_decide_eq_true c
    walk_at "r"
    have hk : k.toNat < ns.length := by rw [List.length_map] at c'; omega
    have ek : k = ((k.toNat : Nat) : Int) := by omega
    refine a_ixL (v := .int ns[k.toNat]) hS ?_ (q _)
    have g : atI (ns.map V.int) ((k.toNat : Nat) : Int) = some (.int ns[k.toNat]) := atI_nat (by rw [List.getElem?_map]; simp [hk])
    rw [← ek] at g
    exact g
  · walk_at "r"
    exact q _
def pRow (K : PySem.W.Frag) : Sp := fun vs H Q _ => ∃ (a : Addr) (ns : List Int) (l : Int), vs = [.ref a, .int 0, .int l] ∧ SqL K H a (ns.map V.int) ∧ 0 ≤ l ∧ l ≤ 63 ∧
  ∀ p H' (rs : List Int), H p = none → Ex H H' → H' p = some (.lst (rs.map V.int)) → rs.length ≤ 100000 → Q (.ref p) H'
theorem map_snoc (rs : List Int) (v : Int) : rs.map V.int ++ [.int v] = (rs ++ [v]).map V.int := by rw [List.map_append]; rfl
theorem ok__law_row (T : Tx K mg) : FnOk P w K mg base CX0 2 T.a__law_row T.e__law_row p__law_row (pRow K) := by
  refine T.d__law_row.F.ok sc__law_row (fun vs H Q E h => ?_) (fun cdv A outer s H vs Q E hr h => ?_)
  · obtain ⟨a, ns, l, rfl, _⟩ := h
    rfl
  obtain ⟨a, ns, l, rfl, hS, h0, h1, q⟩ := h
  refine ⟨_, (pss_cons (ps_set (i := 3) sc__law_row.nd rfl (.inl rfl) (pe_lst pa_nil))
    (pss_cons (ps_for PassesOwn.never rfl (pi_range2 (by rfl) T.b_range (pa_cons (pv 1) (pa_cons (pv 2) pa_nil))) (pg_name (i := 4) sc__law_row.nd rfl (.inl rfl)) (pss_cons (ps_set (i := 5) sc__law_row.nd rfl (.inl rfl) (pe_call (ok__law_cell T) (hr.mono (by omega)) (by rfl) T.d__law_cell.m T.d__law_cell.F.kp T.d__law_cell.b .nil pass0 (pa_cons (pv 0) (pa_cons (pv 4) pa_nil))))
    (pss_cons (ps_set (i := 5) sc__law_row.nd rfl (.inl rfl) (pe_op op_add (pe_callB k_abs (by rfl) T.b_abs (by decide +kernel) (pa_cons (pe_op op_mul pe_int (pv 5)) pa_nil)) (pe_callTy k_int (by rfl) T.b_int (by decide +kernel) (pa_cons (pe_cmpR op_lt (pv 5) pe_int (nomark _)) pa_nil))))
    (pss_one (ps_if (pt_cmpR op_gt (pv 5) (pe_op op_pow pe_int pe_int) (nomark _)) (pss_one (ps_for PassesOwn.never rfl (pi_range1 (by rfl) T.b_range (pa_cons pe_int pa_nil)) (pg_name (i := 6) sc__law_row.nd rfl (.inl rfl)) (pss_one (ps_if (pt_cmpR op_gt (pv 5) pe_int (nomark _)) (pss_cons (ps_expr (pe_bm PySem.F.plainAttrs_list PySem.F.slot_list_append PySem.F.type_list_append mt_append (pv 3) (pa_cons (pe_op op_mod (pe_callTy k_int (by rfl) T.b_int (by decide +kernel) (pa_cons (pv 5) pa_nil)) pe_int) pa_nil)))
    (pss_one (ps_set (i := 5) sc__law_row.nd rfl (.inl rfl) (pe_op op_fdiv (pv 5) pe_int)))) pss_nil)))) (pss_one (ps_for PassesOwn.never rfl (pi_range1 (by rfl) T.b_range (pa_cons pe_int pa_nil)) (pg_name (i := 6) sc__law_row.nd rfl (.inl rfl)) (pss_cons (ps_set (i := 5) sc__law_row.nd rfl (.inl rfl) (pe_op op_mod (pe_callTy k_int (by rfl) T.b_int (by decide +kernel) (pa_cons (pe_op op_add (pe_op op_add (pe_op op_mul (pv 5) pe_int) (pe_op op_mul pe_int (pe_op op_add (pv 4) (pv 6)))) pe_int) pa_nil)) pe_int))
    (pss_one (ps_expr (pe_bm PySem.F.plainAttrs_list PySem.F.slot_list_append PySem.F.type_list_append mt_append (pv 3) (pa_cons (pe_op op_mod (pe_callTy k_int (by rfl) T.b_int (by decide +kernel) (pa_cons (pe_op op_fdiv (pv 5) pe_int) pa_nil)) pe_int) pa_nil))))))))))))
    (pss_one (ps_ret (pv 3))))), ?_⟩
  walk_at "r"
  refine new_lst (xs := []) (by simp) fun p H1 n1 e1 f1 => ?_
  walk_at "r"
  refine r_R2 (by omega) ?_
  refine lp_range (fun k σ h => ∃ x y z, ∃ rs : List Int, σ = [some (.ref a), some (.int 0), some (.int l), some (.ref p), x, y, z] ∧ Ex H h ∧ h p = some (.lst (rs.map V.int)) ∧ rs.length ≤ 100 * k)
    ⟨_, _, _, [], rfl, e1, f1, by simp⟩ ?_ ?_
  · rintro k σ h hk ⟨x, y, z, rs, rfl, e2, f2, z2⟩
    walk_at "r"
    refine ⟨a, ns, _, rfl, ex_sl hS e2, by omega, fun v => ?_⟩
    walk_at "r"
    refine w_I (.inl ⟨by decide, by decide⟩) ?_
    walk_at "r"
    generalize (if 2 * v < 0 then -(2 * v) else 2 * v) + (if decide (v < 0) = true then 1 else 0) = c0
    refine w_I ⟨by decide, by decide, by decide⟩ ?_
    walk_at "r"
    refine ite2 (fun _ => ?_) (fun _ => ?_)
    · walk_at "r"
      refine r_R1 (by omega) ?_
      refine lp_range (fun m σ h' => ∃ z, ∃ rs' : List Int, ∃ c : Int, σ = [some (.ref a), some (.int 0), some (.int l), some (.ref p), some (.int (0 + (k : Int))), some (.int c), z] ∧ Ex H h' ∧ h' p = some (.lst (rs'.map V.int)) ∧ rs'.length ≤ 100 * k + m)
        ⟨_, rs, c0, rfl, e2, f2, by omega⟩ ?_ ?_
      · rintro m σ h' hm ⟨z', rs', c, rfl, e3, f3, z3⟩
        walk_at "r"
        refine ite2 (fun _ => ?_) (fun _ => ?_)
        · walk_at "r"
          refine ⟨a_ty f3, ?_⟩
          walk_at "r"
          walk_at "r"
          refine w_I (by decide) ?_
          walk_at "r"
          have hm' : m < 60 := hm
          have hk' : k < 63 := by omega
          refine a_app f3 (by rw [List.length_map]; omega) ?_
          walk_at "r"
          refine w_I ⟨by decide, by decide⟩ ?_
          walk_at "r"
          refine ⟨_, rs' ++ [c % 840], _, rfl, e3.mut n1, by rw [upd_same, map_snoc], by rw [List.length_append]; simp; omega⟩
        · walk_at "r"
          exact ⟨_, rs', c, rfl, e3, f3, by omega⟩
      · rintro σ h' ⟨z', rs', c, rfl, e3, f3, z3⟩
        have z4 : rs'.length ≤ 100 * k + 60 := z3
        exact ⟨_, _, _, rs', rfl, e3, f3, by omega⟩
    · walk_at "r"
      refine r_R1 (by omega) ?_
      refine lp_range (fun m σ h' => ∃ z, ∃ rs' : List Int, ∃ c : Int, σ = [some (.ref a), some (.int 0), some (.int l), some (.ref p), some (.int (0 + (k : Int))), some (.int c), z] ∧ Ex H h' ∧ h' p = some (.lst (rs'.map V.int)) ∧ rs'.length ≤ 100 * k + m)
        ⟨_, rs, c0, rfl, e2, f2, by omega⟩ ?_ ?_
      · rintro m σ h' hm ⟨z', rs', c, rfl, e3, f3, z3⟩
        walk_at "r"
        refine w_I (.inr ⟨by decide, by decide⟩) ?_
        walk_at "r"
        refine w_I (.inl ⟨by decide, by decide⟩) ?_
        walk_at "r"
        walk_at "r"
        refine w_I (by decide) ?_
        walk_at "r"
        refine ⟨a_ty f3, ?_⟩
        walk_at "r"
        refine w_I ⟨by decide, by decide⟩ ?_
        walk_at "r"
        refine w_I (by decide) ?_
        walk_at "r"
        have hm' : m < 10 := hm
        have hk' : k < 63 := by omega
        refine a_app f3 (by rw [List.length_map]; omega) ?_
        walk_at "r"
        exact ⟨_, rs' ++ [_], _, rfl, e3.mut n1, by rw [upd_same, map_snoc], by rw [List.length_append]; simp; omega⟩
      · rintro σ h' ⟨z', rs', c, rfl, e3, f3, z3⟩
        have z4 : rs'.length ≤ 100 * k + 10 := z3
        exact ⟨_, _, _, rs', rfl, e3, f3, by omega⟩
  · rintro σ h ⟨x, y, z, rs, rfl, e2, f2, z2⟩
    walk_at "r"
    exact q p h rs n1 e2 f2 (by omega)
def pDraw : Sp := fun vs H Q _ => ∃ (b r : Addr) (m : Int), vs = [.ref b, .int m] ∧ Bx H b r ∧ 0 < m ∧ ∀ v H', 0 ≤ v → v < m → Ks [b] H H' → Bx H' b r → Q (.int v) H'
theorem ap_draw {H : Hp} {Q : VK} {E : XK} {b r : Addr} {m : Int} (h : Bx H b r) (hm : 0 < m) (k : ∀ v H', 0 ≤ v → v < m → Ks [b] H H' → Bx H' b r → Q (.int v) H') : pDraw [.ref b, .int m] H Q E := ⟨b, r, m, rfl, h, hm, k⟩
theorem ok__law_draw (T : Tx K mg) : FnOk P w K mg base CX0 1 T.a__law_draw T.e__law_draw p__law_draw pDraw := by
  refine T.d__law_draw.F.ok sc__law_draw (fun vs H Q E h => ?_) (fun cdv A outer s H vs Q E hr h => ?_)
  · obtain ⟨b, r, m, rfl, _⟩ := h
    rfl
  obtain ⟨b, r, m, rfl, hb, hm, q⟩ := h
  have nrb := bx_rb hb
  obtain ⟨n, ns, hb, hR, hz⟩ := hb
  refine ⟨_, (pss_cons (ps_set (i := 2) sc__law_draw.nd rfl (.inl rfl) (pe_ix (ixL K) (pv 0) pe_int (fun _ _ => rfl)))
    (pss_cons (ps_asg (pe_op op_add (pv 2) pe_int) (pg_sub (pv 0) pe_int set_list))
    (pss_cons (ps_if (pt_cmpR op_lt (pv 2) (pe_callB (lenK K) (by rfl) T.b_len PySem.boot_len (pa_cons (pe_ix (ixL K) (pv 0) pe_int (fun _ _ => rfl)) pa_nil)) (nomark _)) (pss_one (ps_ret (pe_op op_mod (pe_callTy k_int (by rfl) T.b_int (by decide +kernel) (pa_cons (pe_ix (ixL K) (pe_ix (ixL K) (pv 0) pe_int (fun _ _ => rfl)) (pv 2) (fun _ _ => rfl)) pa_nil)) (pv 1)))) pss_nil)
    (pss_one (ps_ret (pe_op op_mod (pe_callTy k_int (by rfl) T.b_int (by decide +kernel) (pa_cons (pe_op op_add (pe_op op_mul (pv 2) pe_int) pe_int) pa_nil)) (pv 1))))))), ?_⟩
  walk_at "r"
  refine a_ixL (v := .int n) (SqL.of hb) rfl ?_
  walk_at "r"
  refine a_setL (j := 1) hb (show 1 < 2 by decide) ?_
  have fb : upd H b (.lst [.ref r, .int ((n : Int) + 1)]) b = some (.lst [.ref r, .int (((n + 1 : Nat)) : Int)]) := by rw [upd_same]; simp
  have fr : upd H b (.lst [.ref r, .int ((n : Int) + 1)]) r = some (.lst (ns.map V.int)) := by rw [upd_ne nrb]; exact hR
  have ek : Ks [b] H (upd H b (.lst [.ref r, .int ((n : Int) + 1)])) := (Ks.refl _ _).upd (by simp)
  change tSeq _ _ _ _ (upd H b (.lst [.ref r, .int ((n : Int) + 1)]))
  generalize upd H b (.lst [.ref r, .int ((n : Int) + 1)]) = H1 at fb fr ek ⊢
  have hB : Bx H1 b r := ⟨n + 1, ns, fb, fr, hz⟩
  walk_at "r"
  refine a_ixL (v := .ref r) (SqL.of fb) rfl ?_
  walk_at "r"
  refine a_lenL (SqL.of fr) ?_
  walk_at "r"
  refine ite2 (fun c => ?_) (fun c => ?_)
  · have c' : (n : Int) < ((ns.map V.int).length : Int) := of_decide_eq_true c
    rw [List.length_map] at c'
    have hn : n < ns.length := by omega
    walk_at "r"
    refine a_ixL (v := .ref r) (SqL.of fb) rfl ?_
    walk_at "r"
    refine a_ixL (v := .int ns[n]) (SqL.of fr) (atI_nat (by rw [List.getElem?_map]; simp [hn])) ?_
    walk_at "r"
    refine w_I hm ?_
    exact q _ H1 (Int.emod_nonneg _ (by omega)) (Int.emod_lt_of_pos _ hm) ek hB
  · walk_at "r"
    refine w_I (.inr ⟨by decide, by decide⟩) ?_
    walk_at "r"
    walk_at "r"
    refine w_I hm ?_
    exact q _ H1 (Int.emod_nonneg _ (by omega)) (Int.emod_lt_of_pos _ hm) ek hB

theorem ok__law_let (T : Tx K mg) : FnOk P w K mg base CX0 1 T.a__law_let T.e__law_let p__law_let (pLet K) := by
  refine T.d__law_let.F.ok sc__law_let (fun vs H Q E h => ?_) (fun cdv A outer s H vs Q E hr h => ?_)
  · obtain ⟨S, x, v, D, rfl, _⟩ := h
    rfl
  obtain ⟨S, x, v, D, rfl, al, hD, sh, q⟩ := h
  have hD0 := dp_ex (dl_le S H) hD
  refine ⟨_, (pss_cons (ps_if (PW.pt (pw_or (pt_cmpR (eqDK K hr.units) (pv 1) (pe_tup (pa_cons pe_str pa_nil)) (nomark _)) (pw_or1 (pt_cmpR (eqDK K hr.units) (pv 1) pe_int (nomark _))))) (pss_one (ps_ret (pe_tup (pa_cons pe_str (pa_cons (pv 0) (pa_cons (pv 1) (pa_cons (pe_tup (pa_cons pe_str (pa_cons pe_int pa_nil))) pa_nil))))))) pss_nil)
    (pss_one (ps_ret (pe_tup (pa_cons pe_str (pa_cons (pv 0) (pa_cons (pv 1) (pa_cons (pe_tup (pa_cons pe_str pa_nil)) pa_nil)))))))), ?_⟩
  walk_at "r"
  refine new_tup (by simp) fun t H1 n1 e1 f1 => ?_
  have D1 : Dp K H1 (.ref t) (.tuple [.str "rw"]) := .tup (SqT.of f1) (.cons (.str _) .nil)
  refine ⟨D, .tuple [.str "rw"], dp_ex e1 hD0, D1, sh, by decide +kernel, ?_⟩
  walk_at "r"
  have yes : (PyData.eqv D (.tuple [.str "rw"]) || PyData.eqv D (.int 0)) = true → ∀ H2, Ex H1 H2 → ∀ r1 r2 H3, Ex H2 H3 → r1 ∉ S → r2 ∉ S → H3 r1 = some (.tup [.str "number", .int 0]) → H3 r2 = some (.tup [.str "let", .str x, v, .ref r1]) → Q (.ref r2) H3 := fun c H2 e2 r1 r2 H3 e3 m1 m2 g1 g2 => by
    have E := (e1.trans e2).trans e3
    refine q _ H3 E ?_
    unfold letD
    rw [if_pos c]
    exact .tup (SqT.of (dl_at m2 g2)) (.cons (.str _) (.cons (.str _) (.cons (dp_ex (dl_ex E) hD) (.cons (.tup (SqT.of (dl_at m1 g1)) (.cons (.str _) (.cons (.int _) .nil))) .nil))))
  refine ite2 (fun c => ?_) (fun c => ?_)
  · walk_at "r"
    refine new_tup (by simp) fun r1 H3 n3 e3 g3 => ?_
    walk_at "r"
    refine new_tup (by simp) fun r2 H4 n4 e4 g4 => ?_
    exact yes (by rw [c]; rfl) H1 (Ex.refl _) r1 r2 H4 (e3.trans e4) ((al.ex e1).nin n3) ((al.ex (e1.trans e3)).nin n4) (e4 _ _ g3) g4
  walk_at "r"
  refine ⟨D, .int 0, dp_ex e1 hD0, .int 0, sh, by decide +kernel, ?_⟩
  walk_at "r"
  refine ite2 (fun c2 => ?_) (fun c2 => ?_)
  · walk_at "r"
    refine new_tup (by simp) fun r1 H3 n3 e3 g3 => ?_
    walk_at "r"
    refine new_tup (by simp) fun r2 H4 n4 e4 g4 => ?_
    exact yes (by rw [c2, Bool.or_true]) H1 (Ex.refl _) r1 r2 H4 (e3.trans e4) ((al.ex e1).nin n3) ((al.ex (e1.trans e3)).nin n4) (e4 _ _ g3) g4
  walk_at "r"
  refine new_tup (by simp) fun r1 H3 n3 e3 g3 => ?_
  walk_at "r"
  refine new_tup (by simp) fun r2 H4 n4 e4 g4 => ?_
  have E := (e1.trans e3).trans e4
  refine q _ H4 E ?_
  unfold letD
  rw [nf c, nf c2, if_neg (by decide)]
  exact .tup (SqT.of (dl_at ((al.ex (e1.trans e3)).nin n4) g4)) (.cons (.str _) (.cons (.str _) (.cons (dp_ex (dl_ex E) hD) (.cons (.tup (SqT.of (dl_at ((al.ex e1).nin n3) (e4 _ _ g3))) (.cons (.str _) .nil)) .nil))))

end
end Ver

set_option Elab.async false
set_option linter.all false
set_option maxRecDepth 100000
set_option maxHeartbeats 4000000
namespace Ver
open PySem PySem.Spec PyProof.Rows L2 Evl
local macro_rules | `(tactic| walk_at "s") => `(tactic| with_reducible first
  | refine w_seq ?_ | refine w_asg ?_ | refine w_name ?_ | refine w_if ?_ | refine w_ret ?_ | refine w_drop ?_ | refine w_next ?_ | refine w_brk ?_ | refine w_cont ?_
  | (refine w_var (v := ?vv) ?hh ?_; (case hh => with_unfolding_all exact rfl))
  | refine w_c ?_ | refine w_op ?_ | refine w_un ?_ | refine w_I0 ?_ | refine w_neg ?_ | refine w_eqI ?_ | refine w_neI ?_ | refine w_eqS ?_ | refine w_neS ?_ | refine w_eqB ?_ | refine w_neB ?_
  | refine w_test ?_ | refine w_B ?_ | refine w_and ?_ | refine w_or ?_ | refine w_not ?_ | refine w_andV ?_ | refine w_orV ?_ | refine w_notV ?_ | refine w_ifE ?_ | refine w_yes ?_
  | refine w_nil ?_ | refine w_cons ?_ | refine w_CB ?_ | refine w_callN ?_ | refine w_BM ?_ | refine w_BMT ?_ | refine w_BM0 ?_ | refine w_noPart ?_ | refine w_part ?_ | refine w_sl ?_ | refine w_tup ?_ | refine w_lst ?_
  | refine w_subG ?_ | refine w_gcons ?_ | refine w_gnil ?_ | refine w_for ?_ | refine w_lc ?_ | refine w_iR1 ?_ | refine w_iR2 ?_ | refine w_iL ?_ | refine w_iT ?_ | refine w_iS ?_
  | (show ∃ k, V.bl _ = V.bl k ∧ _; refine ⟨_, rfl, ?_⟩) | (show ∃ k, V.int _ = V.int k ∧ _; refine ⟨_, rfl, ?_⟩)
  | refine iteT ?_ | refine iteF ?_ | refine iteNT ?_ | refine iteNF ?_ | refine r_S ?_ | refine c_S ?_ | refine a_abs ?_ | refine a_intI ?_ | refine a_intB ?_ | refine w_par ?_ | refine w_dK ?_ | refine w_chain ?_ | (show ∃ v w, [_, _] = [v, w] ∧ _; refine ⟨_, _, rfl, ?_⟩)
  | refine w_getF ?_ | refine w_setF ?_ | refine w_newI ?_ | refine w_callS ?_ | refine w_getD1 ?_ | refine w_putD ?_ | refine w_veI ?_ | refine w_ostI ?_ | refine w_mkO ?_ | refine w_newS ?_ | refine w_xf ?_
  | refine a_isNn ?_ | refine a_isNr ?_ | refine a_notNn ?_ | refine a_notNr ?_ | refine a_isTy ?_ | refine a_notTy ?_ | refine a_isBl ?_ | refine a_notBl ?_)
local macro_rules | `(tactic| walk_at "r") => `(tactic| repeat walk_at "s")
local macro_rules | `(tactic| walk_at "tr") => `(tactic| first
  | assumption
  | (refine ex_at (H := ?H0) ?h1 ?h2; (case h2 => assumption); (case h1 => walk_at "tr"))
  | (refine ks_at (H := ?H0) (S := ?S0) ?h1 ?h2 ?h3; (case h2 => assumption); (case h3 => walk_at "nin"); (case h1 => walk_at "tr")))
local macro_rules | `(tactic| walk_at "nin") => `(tactic| first
  | exact nin_nil | (refine nin_cons ?h1 ?h2; (case h1 => walk_at "ne"); (case h2 => walk_at "nin")))
local macro_rules | `(tactic| walk_at "ne") => `(tactic| first
  | assumption | exact Ne.symm (by assumption)
  | (refine bx_nb (H := ?H0) (r := ?r0) ?h1 ?h2; (case h2 => assumption); (case h1 => walk_at "bx"))
  | (refine bx_nr (H := ?H0) (b := ?b0) ?h1 ?h2; (case h2 => assumption); (case h1 => walk_at "bx"))
  | (refine Ne.symm (bx_nb (H := ?H0) (r := ?r0) ?h1 ?h2); (case h2 => assumption); (case h1 => walk_at "bx"))
  | (refine ne_old (H := ?H0) (o := ?o0) ?h1 ?h2; (case h2 => assumption); (case h1 => walk_at "tr"))
  | (refine Ne.symm (ne_old (H := ?H0) (o := ?o0) ?h1 ?h2); (case h2 => assumption); (case h1 => walk_at "tr"))
  | exact (Tu.ne (by assumption) (by assumption)).1 | exact (Tu.ne (by assumption) (by assumption)).2
  | (refine bx_rb (H := ?H0) ?h1; (case h1 => walk_at "bx")))
local macro_rules | `(tactic| walk_at "tu") => `(tactic| first
  | assumption
  | (refine Tu.ex (H := ?H0) ?h1 ?h2; (case h2 => assumption); (case h1 => walk_at "tu"))
  | (refine Tu.ks (H := ?H0) (S := ?S0) ?h1 ?h2 ?h3; (case h2 => assumption); (case h3 => walk_at "nin"); (case h1 => walk_at "tu")))
local macro_rules | `(tactic| walk_at "bx") => `(tactic| first
  | assumption
  | (refine bx_ex (H := ?H0) ?h1 ?h2; (case h2 => assumption); (case h1 => walk_at "bx"))
  | (refine bx_ks (H := ?H0) (S := ?S0) ?h1 ?h2 ?h3 ?h4; (case h2 => assumption); (case h3 => walk_at "nin"); (case h4 => walk_at "nin"); (case h1 => walk_at "bx")))
local macro_rules | `(tactic| walk_at "sl") => `(tactic| first
  | assumption | (refine SqL.of ?h1; (case h1 => walk_at "tr"))
  | (refine ex_sl (H := ?H0) ?h1 ?h2; (case h2 => assumption); (case h1 => walk_at "sl"))
  | (refine ks_sl (H := ?H0) (S := ?S0) ?h1 ?h2 ?h3; (case h2 => assumption); (case h3 => walk_at "nin"); (case h1 => walk_at "sl")))
local macro_rules | `(tactic| walk_at "st") => `(tactic| first
  | assumption | (refine Tu.st ?h1; (case h1 => walk_at "tu")) | (refine SqT.of ?h1; (case h1 => walk_at "tr"))
  | (refine ex_st (H := ?H0) ?h1 ?h2; (case h2 => assumption); (case h1 => walk_at "st"))
  | (refine ks_st (H := ?H0) (S := ?S0) ?h1 ?h2 ?h3; (case h2 => assumption); (case h3 => walk_at "nin"); (case h1 => walk_at "st")))
local macro_rules | `(tactic| walk_at "ex") => `(tactic| first
  | exact Ex.refl _ | assumption | (refine Ex.trans (H1 := ?H0) ?h1 ?h2; (case h2 => assumption); (case h1 => walk_at "ex")))
local macro_rules | `(tactic| walk_at "ks") => `(tactic| first
  | exact Ks.refl _ _ | assumption | (refine Ks.of ?h1; (case h1 => assumption)) | (refine Ks.trans (H1 := ?H0) ?h1 ?h2; (case h2 => first | assumption | (refine Ks.of ?h3; (case h3 => assumption))); (case h1 => walk_at "ks")))
local macro_rules | `(tactic| walk_at "dp") => `(tactic| first
  | exact Dp.str _ | exact Dp.int _ | exact Dp.bl _ | exact Dp.non | assumption | exact LsAt.dp (by assumption)
  | (refine dp_ex (H := ?H0) ?h1 ?h2; (case h1 => assumption); (case h2 => walk_at "dp")))
local macro_rules | `(tactic| walk_at "ev") => `(tactic| with_reducible first
  | exact ev_nil | refine ev_cons ?_ ?_ | exact ev_str | exact ev_int | exact ev_bl | exact ev_non
  | (refine ev_tup ?hal ?_ ?hle; (case hal => assumption); (case hle => with_unfolding_all exact Nat.le_of_ble_eq_true rfl))
  | (refine ev_ll (ev_lst ?hal ?_ ?hle); (case hal => assumption); (case hle => with_unfolding_all exact Nat.le_of_ble_eq_true rfl))
  | (refine ev_ll (ev_rep (n := ?nn) ?hal ?_ ?he ?hz); (case he => with_unfolding_all exact rfl); (case hal => assumption); (case hz => with_unfolding_all omega))
  | (refine ev_lst ?hal ?_ ?hle; (case hal => assumption); (case hle => with_unfolding_all exact Nat.le_of_ble_eq_true rfl))
  | (refine ev_lt ?he; (case he => with_unfolding_all exact rfl))
  | (refine ev_let ?hal ?_ ?hs; (case hal => assumption); (case hs => with_unfolding_all first | decide +kernel | rfl))
  | (refine ev_var (v := ?vv) ?he ?hd; (case he => with_unfolding_all exact rfl); (case hd => with_unfolding_all walk_at "dp")))

section
variable {P : Program} {w : World} {K : PySem.W.Frag} {mg : Str → Option Value} {base : Heap}
def pCnt (K : PySem.W.Frag) : Sp := fun vs H Q _ => ∃ b r, vs = [.ref b] ∧ Bx H b r ∧ ∀ p vs ds H1, Ks [b] H H1 → Bx H1 b r → H1 p = some (.lst vs) → DpAll K H1 vs ds → (∀ d ∈ ds, Case d) → ds.length ≤ 1000 → Q (.ref p) H1
/-- where the law is: out, put -/
structure Cn (K : PySem.W.Frag) (H0 H : Hp) (po : Addr) (pv : V) (pd : PyData) (n : Nat) : Prop where
  e : Ex H0 H
  new : H0 po = none
  out : ∃ vs ds, H po = some (.lst vs) ∧ DpAll K (dl [po] H) vs ds ∧ (∀ d ∈ ds, Case d) ∧ ds.length ≤ n
  put : Dp K (dl [po] H) pv pd
def fns (a : Str) (k : Nat) : FD := ⟨.str (a ++ ⟨#[("abcde" : Str).cps.toList.getD k 0]⟩), [], []⟩
theorem at_abcde {k : Nat} (h : k < 5) : atI ("abcde" : Str).cps.toList (0 + (k : Int)) = some (("abcde" : Str).cps.toList.getD k 0) := by
  match k, h with
  | 0, _ => rfl
  | 1, _ => rfl
  | 2, _ => rfl
  | 3, _ => rfl
  | 4, _ => rfl
def prm (k : Nat) : PyData := .tuple [.str ("p" ++ ⟨#[("abcde" : Str).cps.toList.getD k 0]⟩), .tuple [.str "rw"]]
abbrev fnsL (m : Nat) : List FD := (List.range m).map (fns "f")
abbrev prmF (m : Nat) : FD := ⟨.str "fa", (List.range m).map prm, []⟩
theorem case_f {m : Nat} (h : m = 4 ∨ m = 5) : Case (.list [.list ((List.range m).map fun k => fdat (fns "f" k)), .list [], .bool (decide ((m : Int) < 5))]) := by
  rcases h with rfl | rfl
  · exact ⟨fnsL 4, [], true, rfl, by decide +kernel, by decide +kernel⟩
  · exact ⟨fnsL 5, [], false, rfl, by decide +kernel, by decide +kernel⟩
theorem case_p {m : Nat} (h : m = 4 ∨ m = 5) : Case (.list [.list [.list [.str "fa", .list ((List.range m).map prm), .list []]], .list [], .bool (decide ((m : Int) < 5))]) := by
  rcases h with rfl | rfl
  · exact ⟨[prmF 4], [], true, rfl, by decide +kernel, by decide +kernel⟩
  · exact ⟨[prmF 5], [], false, rfl, by decide +kernel, by decide +kernel⟩
abbrev putD (c : Nat) : PyData := .tuple [.str "put", .tuple [.str ⟨#[c]⟩, .int 0], .tuple [.str "null"]]
theorem case_b {m c : Nat} (hc : c ∈ ("abcdefgh" : Str).cps.toList) (h : m = 12 ∨ m = 13) : Case (.list [.list [.list [.str "fa", .list [], .list (List.replicate m (putD c))]], .list [], .bool (decide ((m : Int) < 13))]) := by
  rcases h with rfl | rfl
  · have z : ∀ c ∈ ("abcdefgh" : Str).cps.toList, snD (.list [.list [.list [.str "fa", .list [], .list (List.replicate 12 (putD c))]], .list [], .bool true]) = true ∧ progD [⟨.str "fa", [], List.replicate 12 (putD c)⟩] [] = true := by decide +kernel
    exact ⟨[⟨.str "fa", [], List.replicate 12 (putD c)⟩], [], true, rfl, (z c hc).1, (z c hc).2⟩
  · have z : ∀ c ∈ ("abcdefgh" : Str).cps.toList, snD (.list [.list [.list [.str "fa", .list [], .list (List.replicate 13 (putD c))]], .list [], .bool false]) = true ∧ progD [⟨.str "fa", [], List.replicate 13 (putD c)⟩] [] = false := by decide +kernel
    exact ⟨[⟨.str "fa", [], List.replicate 13 (putD c)⟩], [], false, rfl, (z c hc).1, (z c hc).2⟩
theorem case_s {m c : Nat} (hc : c ∈ ("abcdefgh" : Str).cps.toList) (h : m = 40 ∨ m = 41) : Case (.list [.list [], .list (List.replicate m (putD c)), .bool (decide ((m : Int) < 41))]) := by
  rcases h with rfl | rfl
  · have z : ∀ c ∈ ("abcdefgh" : Str).cps.toList, snD (.list [.list [], .list (List.replicate 40 (putD c)), .bool true]) = true ∧ progD [] (List.replicate 40 (putD c)) = true := by decide +kernel
    exact ⟨[], List.replicate 40 (putD c), true, rfl, (z c hc).1, (z c hc).2⟩
  · have z : ∀ c ∈ ("abcdefgh" : Str).cps.toList, snD (.list [.list [], .list (List.replicate 41 (putD c)), .bool false]) = true ∧ progD [] (List.replicate 41 (putD c)) = false := by decide +kernel
    exact ⟨[], List.replicate 41 (putD c), false, rfl, (z c hc).1, (z c hc).2⟩
theorem Cn.app {H0 H H' : Hp} {po : Addr} {pv : V} {pd d : PyData} {n : Nat} (h : Cn K H0 H po pv pd n) {ws : List V} {ds : List PyData} (k : Ks [po] H H') (f : H' po = some (.lst ws)) (D : DpAll K (dl [po] H') ws (ds ++ [d])) (c : ∀ d ∈ ds, Case d) (c1 : Case d) (l : ds.length ≤ n) :
    Cn K H0 H' po pv pd (n + 1) := by
  refine ⟨fun a o z => k a o (by simpa using ne_of_none z h.new) (h.e a o z), h.new, ⟨ws, _, f, D, fun x hx => ?_, by rw [List.length_append]; simp; omega⟩, dp_ex (dl_ks k) h.put⟩
  rcases List.mem_append.mp hx with hx | hx
  · exact c x hx
  · rw [List.mem_singleton] at hx
    rw [hx]
    exact c1
abbrev nmN (m : Nat) : Str := cutS ("abcdefghi" : Str) none (some (m : Int))
abbrev rwT : PyData := .tuple [.str "rw"]
theorem case_n1 {m : Nat} (h : m = 8 ∨ m = 9) : Case (.list [.list [], .list [letD (.str (nmN m)) rwT], .bool (decide ((m : Int) < 9))]) := by
  rcases h with rfl | rfl
  · exact ⟨[], [letD (.str (nmN 8)) rwT], true, rfl, by decide +kernel, by decide +kernel⟩
  · exact ⟨[], [letD (.str (nmN 9)) rwT], false, rfl, by decide +kernel, by decide +kernel⟩
theorem case_n2 {m : Nat} (h : m = 8 ∨ m = 9) : Case (.list [.list [.list [.str (nmN m), .list [], .list []]], .list [.tuple [.str "call", .str (nmN m), .list []]], .bool (decide ((m : Int) < 9))]) := by
  rcases h with rfl | rfl
  · exact ⟨[⟨.str (nmN 8), [], []⟩], [.tuple [.str "call", .str (nmN 8), .list []]], true, rfl, by decide +kernel, by decide +kernel⟩
  · exact ⟨[⟨.str (nmN 9), [], []⟩], [.tuple [.str "call", .str (nmN 9), .list []]], false, rfl, by decide +kernel, by decide +kernel⟩
theorem case_n3 {m : Nat} (h : m = 8 ∨ m = 9) : Case (.list [.list [.list [.str "fa", .list [.tuple [.str (nmN m), rwT]], .list []]], .list [], .bool (decide ((m : Int) < 9))]) := by
  rcases h with rfl | rfl
  · exact ⟨[⟨.str "fa", [.tuple [.str (nmN 8), rwT]], []⟩], [], true, rfl, by decide +kernel, by decide +kernel⟩
  · exact ⟨[⟨.str "fa", [.tuple [.str (nmN 9), rwT]], []⟩], [], false, rfl, by decide +kernel, by decide +kernel⟩
theorem case_n4 {m : Nat} (h : m = 8 ∨ m = 9) : Case (.list [.list [], .list [.tuple [.str "let", .str "q", rwT, .tuple [.str "number", .int (1000 + (m : Int) - 8)]]], .bool (decide ((m : Int) < 9))]) := by
  rcases h with rfl | rfl
  · exact ⟨[], [.tuple [.str "let", .str "q", rwT, .tuple [.str "number", .int 1000]]], true, rfl, by decide +kernel, by decide +kernel⟩
  · exact ⟨[], [.tuple [.str "let", .str "q", rwT, .tuple [.str "number", .int 1001]]], false, rfl, by decide +kernel, by decide +kernel⟩
theorem Cn.cat {H0 H H' : Hp} {po pq : Addr} {pv : V} {pd : PyData} {n k : Nat} (h : Cn K H0 H po pv pd n) {ws : List V} {ds es : List PyData} (e : Ex H H') (E : Ex (dl [po] H) (dl [pq] H')) (nq : H pq = none) (f : H' pq = some (.lst ws)) (D : DpAll K (dl [pq] H') ws (ds ++ es)) (c : ∀ d ∈ ds, Case d) (c1 : ∀ d ∈ es, Case d) (l : ds.length ≤ n) (l2 : es.length = k) :
    Cn K H0 H' pq pv pd (n + k) := by
  refine ⟨h.e.trans e, ?_, ⟨ws, _, f, D, fun x hx => ?_, by rw [List.length_append]; omega⟩, dp_ex E h.put⟩
  · cases z : H0 pq with
    | none => rfl
    | some o => rw [h.e _ _ z] at nq; cases nq
  · rcases List.mem_append.mp hx with hx | hx
    · exact c x hx
    · exact c1 x hx
theorem case_d1 {m c : Nat} (hc : c ∈ ("abcdefgh" : Str).cps.toList) (h : m = 5 ∨ m = 6) : Case (.list [.list [], .list [.tuple [.str "put", .tuple [.str ⟨#[c]⟩, .int (m : Int)], .tuple [.str "null"]]], .bool (decide ((m : Int) < 6))]) := by
  rcases h with rfl | rfl
  · have z : ∀ c ∈ ("abcdefgh" : Str).cps.toList, snD (.list [.list [], .list [.tuple [.str "put", .tuple [.str ⟨#[c]⟩, .int 5], .tuple [.str "null"]]], .bool true]) = true ∧ progD [] [.tuple [.str "put", .tuple [.str ⟨#[c]⟩, .int 5], .tuple [.str "null"]]] = true := by decide +kernel
    exact ⟨[], [.tuple [.str "put", .tuple [.str ⟨#[c]⟩, .int 5], .tuple [.str "null"]]], true, rfl, (z c hc).1, (z c hc).2⟩
  · have z : ∀ c ∈ ("abcdefgh" : Str).cps.toList, snD (.list [.list [], .list [.tuple [.str "put", .tuple [.str ⟨#[c]⟩, .int 6], .tuple [.str "null"]]], .bool false]) = true ∧ progD [] [.tuple [.str "put", .tuple [.str ⟨#[c]⟩, .int 6], .tuple [.str "null"]]] = false := by decide +kernel
    exact ⟨[], [.tuple [.str "put", .tuple [.str ⟨#[c]⟩, .int 6], .tuple [.str "null"]]], false, rfl, (z c hc).1, (z c hc).2⟩
theorem case_d2 {m c : Nat} (hc : c ∈ ("abcdefgh" : Str).cps.toList) (h : m = 5 ∨ m = 6) : Case (.list [.list [], .list [.tuple [.str "put", .tuple [.str ⟨#[c]⟩, .int 0], .tuple [.str "value", .tuple [.str ⟨#[c]⟩, .int (m : Int)]]]], .bool (decide ((m : Int) < 6))]) := by
  rcases h with rfl | rfl
  · have z : ∀ c ∈ ("abcdefgh" : Str).cps.toList, snD (.list [.list [], .list [.tuple [.str "put", .tuple [.str ⟨#[c]⟩, .int 0], .tuple [.str "value", .tuple [.str ⟨#[c]⟩, .int 5]]]], .bool true]) = true ∧ progD [] [.tuple [.str "put", .tuple [.str ⟨#[c]⟩, .int 0], .tuple [.str "value", .tuple [.str ⟨#[c]⟩, .int 5]]]] = true := by decide +kernel
    exact ⟨[], [.tuple [.str "put", .tuple [.str ⟨#[c]⟩, .int 0], .tuple [.str "value", .tuple [.str ⟨#[c]⟩, .int 5]]]], true, rfl, (z c hc).1, (z c hc).2⟩
  · have z : ∀ c ∈ ("abcdefgh" : Str).cps.toList, snD (.list [.list [], .list [.tuple [.str "put", .tuple [.str ⟨#[c]⟩, .int 0], .tuple [.str "value", .tuple [.str ⟨#[c]⟩, .int 6]]]], .bool false]) = true ∧ progD [] [.tuple [.str "put", .tuple [.str ⟨#[c]⟩, .int 0], .tuple [.str "value", .tuple [.str ⟨#[c]⟩, .int 6]]]] = false := by decide +kernel
    exact ⟨[], [.tuple [.str "put", .tuple [.str ⟨#[c]⟩, .int 0], .tuple [.str "value", .tuple [.str ⟨#[c]⟩, .int 6]]]], false, rfl, (z c hc).1, (z c hc).2⟩
theorem case_d3 {m c : Nat} (hc : c ∈ ("abcdefgh" : Str).cps.toList) (h : m = 5 ∨ m = 6) : Case (.list [.list [], .list [.tuple [.str "put", .tuple [.str ⟨#[c]⟩, .int 0], .tuple [.str "address", .tuple [.str ⟨#[c]⟩, .int (m : Int)]]]], .bool (decide ((m : Int) < 6))]) := by
  rcases h with rfl | rfl
  · have z : ∀ c ∈ ("abcdefgh" : Str).cps.toList, snD (.list [.list [], .list [.tuple [.str "put", .tuple [.str ⟨#[c]⟩, .int 0], .tuple [.str "address", .tuple [.str ⟨#[c]⟩, .int 5]]]], .bool true]) = true ∧ progD [] [.tuple [.str "put", .tuple [.str ⟨#[c]⟩, .int 0], .tuple [.str "address", .tuple [.str ⟨#[c]⟩, .int 5]]]] = true := by decide +kernel
    exact ⟨[], [.tuple [.str "put", .tuple [.str ⟨#[c]⟩, .int 0], .tuple [.str "address", .tuple [.str ⟨#[c]⟩, .int 5]]]], true, rfl, (z c hc).1, (z c hc).2⟩
  · have z : ∀ c ∈ ("abcdefgh" : Str).cps.toList, snD (.list [.list [], .list [.tuple [.str "put", .tuple [.str ⟨#[c]⟩, .int 0], .tuple [.str "address", .tuple [.str ⟨#[c]⟩, .int 6]]]], .bool false]) = true ∧ progD [] [.tuple [.str "put", .tuple [.str ⟨#[c]⟩, .int 0], .tuple [.str "address", .tuple [.str ⟨#[c]⟩, .int 6]]]] = false := by decide +kernel
    exact ⟨[], [.tuple [.str "put", .tuple [.str ⟨#[c]⟩, .int 0], .tuple [.str "address", .tuple [.str ⟨#[c]⟩, .int 6]]]], false, rfl, (z c hc).1, (z c hc).2⟩
theorem case_d4 {m c : Nat} (hc : c ∈ ("abcdefgh" : Str).cps.toList) (h : m = 5 ∨ m = 6) : Case (.list [.list [], .list [letD (.str "q") (.int (m : Int))], .bool (decide ((m : Int) < 6))]) := by
  rcases h with rfl | rfl
  · have z : ∀ c ∈ ("abcdefgh" : Str).cps.toList, snD (.list [.list [], .list [letD (.str "q") (.int 5)], .bool true]) = true ∧ progD [] [letD (.str "q") (.int 5)] = true := by decide +kernel
    exact ⟨[], [letD (.str "q") (.int 5)], true, rfl, (z c hc).1, (z c hc).2⟩
  · have z : ∀ c ∈ ("abcdefgh" : Str).cps.toList, snD (.list [.list [], .list [letD (.str "q") (.int 6)], .bool false]) = true ∧ progD [] [letD (.str "q") (.int 6)] = false := by decide +kernel
    exact ⟨[], [letD (.str "q") (.int 6)], false, rfl, (z c hc).1, (z c hc).2⟩
theorem case_d5 {m c : Nat} (hc : c ∈ ("abcdefgh" : Str).cps.toList) (h : m = 5 ∨ m = 6) : Case (.list [.list [.list [.str "fa", .list [.tuple [.str "q", .int (m : Int)]], .list []]], .list [], .bool (decide ((m : Int) < 6))]) := by
  rcases h with rfl | rfl
  · have z : ∀ c ∈ ("abcdefgh" : Str).cps.toList, snD (.list [.list [.list [.str "fa", .list [.tuple [.str "q", .int 5]], .list []]], .list [], .bool true]) = true ∧ progD [⟨.str "fa", [.tuple [.str "q", .int 5]], []⟩] [] = true := by decide +kernel
    exact ⟨[⟨.str "fa", [.tuple [.str "q", .int 5]], []⟩], [], true, rfl, (z c hc).1, (z c hc).2⟩
  · have z : ∀ c ∈ ("abcdefgh" : Str).cps.toList, snD (.list [.list [.list [.str "fa", .list [.tuple [.str "q", .int 6]], .list []]], .list [], .bool false]) = true ∧ progD [⟨.str "fa", [.tuple [.str "q", .int 6]], []⟩] [] = false := by decide +kernel
    exact ⟨[⟨.str "fa", [.tuple [.str "q", .int 6]], []⟩], [], false, rfl, (z c hc).1, (z c hc).2⟩
theorem case_e1 {m c : Nat} (hc : c ∈ ("abcdefgh" : Str).cps.toList) (h : m = 6 ∨ m = 7) : Case (.list [.list [], .list [letD (.str "q") (.tuple (List.replicate m (.str "rw")))], .bool (decide ((m : Int) < 7))]) := by
  rcases h with rfl | rfl
  · have z : ∀ c ∈ ("abcdefgh" : Str).cps.toList, snD (.list [.list [], .list [letD (.str "q") (.tuple (List.replicate 6 (.str "rw")))], .bool true]) = true ∧ progD [] [letD (.str "q") (.tuple (List.replicate 6 (.str "rw")))] = true := by decide +kernel
    exact ⟨[], [letD (.str "q") (.tuple (List.replicate 6 (.str "rw")))], true, rfl, (z c hc).1, (z c hc).2⟩
  · have z : ∀ c ∈ ("abcdefgh" : Str).cps.toList, snD (.list [.list [], .list [letD (.str "q") (.tuple (List.replicate 7 (.str "rw")))], .bool false]) = true ∧ progD [] [letD (.str "q") (.tuple (List.replicate 7 (.str "rw")))] = false := by decide +kernel
    exact ⟨[], [letD (.str "q") (.tuple (List.replicate 7 (.str "rw")))], false, rfl, (z c hc).1, (z c hc).2⟩
theorem case_e2 {m c : Nat} (hc : c ∈ ("abcdefgh" : Str).cps.toList) (h : m = 6 ∨ m = 7) : Case (.list [.list [.list [.str "fa", .list [.tuple [.str "q", .tuple (List.replicate m (.str "r"))]], .list []]], .list [], .bool (decide ((m : Int) < 7))]) := by
  rcases h with rfl | rfl
  · have z : ∀ c ∈ ("abcdefgh" : Str).cps.toList, snD (.list [.list [.list [.str "fa", .list [.tuple [.str "q", .tuple (List.replicate 6 (.str "r"))]], .list []]], .list [], .bool true]) = true ∧ progD [⟨.str "fa", [.tuple [.str "q", .tuple (List.replicate 6 (.str "r"))]], []⟩] [] = true := by decide +kernel
    exact ⟨[⟨.str "fa", [.tuple [.str "q", .tuple (List.replicate 6 (.str "r"))]], []⟩], [], true, rfl, (z c hc).1, (z c hc).2⟩
  · have z : ∀ c ∈ ("abcdefgh" : Str).cps.toList, snD (.list [.list [.list [.str "fa", .list [.tuple [.str "q", .tuple (List.replicate 7 (.str "r"))]], .list []]], .list [], .bool false]) = true ∧ progD [⟨.str "fa", [.tuple [.str "q", .tuple (List.replicate 7 (.str "r"))]], []⟩] [] = false := by decide +kernel
    exact ⟨[⟨.str "fa", [.tuple [.str "q", .tuple (List.replicate 7 (.str "r"))]], []⟩], [], false, rfl, (z c hc).1, (z c hc).2⟩
theorem ev_repT {po : Addr} {σ : L2.St} {H : Hp} {ta : TE} {i n : Nat} {d : PyData} {vo : List V} (fo : H po = some (.lst vo)) (h : EvD K [po] σ H ta (.tuple [d])) (e : σ[i]? = some (some (.int (n : Nat)))) (z1 : 1 ≤ n) (z : n ≤ 1000) : EvD K [po] σ H (tOp (rRepA K) ta (tVar i)) (.tuple (List.replicate n d)) := fun H0 e0 Q k =>
  h H0 e0 _ fun v H1 e1 dv => by
    obtain ⟨p, xs, rfl, hT, hD⟩ := dp_tup dv
    have l1 := dpa_len hD
    refine ⟨.int n, e, p, n, xs, rfl, rfl, st_dl hT, (fun z => by rw [z] at l1; cases l1), by omega, by omega, by rw [l1]; exact Nat.le_of_ble_eq_true rfl, fun q H2 e2 hq => ?_⟩
    rw [Int.toNat_natCast] at hq
    have x := dpa_rep hD n
    rw [List.flatten_replicate_singleton] at x
    refine k _ H2 (e1.trans e2) (.tup ?_ (dpa_ex (dl_ex e2) x))
    have f2 := e2 _ _ (e1 _ _ (e0 _ _ fo))
    rcases hq with (hq | ⟨o, hq⟩) | hq
    · exact .inl (.inl (dl_at (fun y => by rw [List.mem_singleton] at y; rw [y, f2] at hq; cases hq) hq))
    · exact .inl (.inr ⟨o, dl_at (fun y => by rw [List.mem_singleton] at y; rw [y, f2] at hq; cases hq) hq⟩)
    · exact .inr hq
theorem two_c {a b : PyData} (h : Case a) (k : Case b) : ∀ d ∈ [a, b], Case d := fun d hd => by
  rcases List.mem_cons.mp hd with rfl | hd
  · exact h
  rcases List.mem_cons.mp hd with rfl | hd
  · exact k
  · cases hd
theorem Cn.al {H0 H : Hp} {po : Addr} {pv : V} {pd : PyData} {n : Nat} (h : Cn K H0 H po pv pd n) : Al [po] H := by
  obtain ⟨vs, ds, f, _⟩ := h.out
  exact Al.nil.cons f
theorem Cn.mono {H0 H : Hp} {po : Addr} {pv : V} {pd : PyData} {n : Nat} {H' : Hp} (h : Cn K H0 H po pv pd n) (e : Ex H H') : Cn K H0 H' po pv pd n := by
  obtain ⟨vs, ds, f, D, c, l⟩ := h.out
  exact ⟨h.e.trans e, h.new, ⟨vs, ds, e _ _ f, dpa_ex (dl_ex e) D, c, l⟩, dp_ex (dl_ex e) h.put⟩
theorem ok__law_counts (T : Tx K mg) : FnOk P w K mg base CX0 2 T.a__law_counts T.e__law_counts p__law_counts (pCnt K) := by
  refine T.d__law_counts.F.ok sc__law_counts (fun vs H Q E h => ?_) (fun cdv A outer s H vs Q E hr h => ?_)
  · obtain ⟨b, r, rfl, _⟩ := h
    rfl
  obtain ⟨b, r, rfl, hb, q⟩ := h
  refine ⟨_, (pss_cons (ps_set (i := 1) sc__law_counts.nd rfl (.inl rfl) (pe_ix ix_str pe_str (pe_call (ok__law_draw T) (hr.mono (by omega)) (by rfl) T.d__law_draw.m T.d__law_draw.F.kp T.d__law_draw.b .nil pass0 (pa_cons (pv 0) (pa_cons pe_int pa_nil))) (fun _ _ => rfl)))
    (pss_cons (ps_set (i := 2) sc__law_counts.nd rfl (.inl rfl) (pe_tup (pa_cons pe_str (pa_cons (pe_tup (pa_cons (pv 1) (pa_cons pe_int pa_nil))) (pa_cons (pe_tup (pa_cons pe_str pa_nil)) pa_nil)))))
    (pss_cons (ps_set (i := 3) sc__law_counts.nd rfl (.inl rfl) (pe_lst pa_nil))
    (pss_cons (ps_for PassesOwn.never rfl (plK K (pe_lst (pa_cons pe_int (pa_cons pe_int pa_nil)))) (pg_name (i := 4) sc__law_counts.nd rfl (.inl rfl)) (pss_cons (ps_setLc (i := 5) (own := [("k", 9)]) (g := gName 9) rfl sc__law_counts.nd rfl rfl (sw_true rfl rfl rfl (by decide +kernel)) (pi_range1 (by rfl) T.b_range (pa_cons (pv 4) pa_nil)) (blkOk_by (own := [("k", 9)]) (N := n__law_counts) (sc := defScope s__law_counts) (by decide +kernel)) (fun _ _ _ _ _ => (pg_name (i := 9) sc__law_counts.nd rfl (Or.inl rfl))) (fun _ _ _ _ _ => pts_nil) (fun _ _ _ _ _ => (pe_lst (pa_cons (pe_op op_add_str pe_str (pe_ix ix_str pe_str (pv 9) (fun _ _ => rfl))) (pa_cons (pe_lst pa_nil) (pa_cons (pe_lst pa_nil) pa_nil))))))
    (pss_cons (ps_setLc (i := 6) (own := [("k", 9)]) (g := gName 9) rfl sc__law_counts.nd rfl rfl (sw_true rfl rfl rfl (by decide +kernel)) (pi_range1 (by rfl) T.b_range (pa_cons (pv 4) pa_nil)) (blkOk_by (own := [("k", 9)]) (N := n__law_counts) (sc := defScope s__law_counts) (by decide +kernel)) (fun _ _ _ _ _ => (pg_name (i := 9) sc__law_counts.nd rfl (Or.inl rfl))) (fun _ _ _ _ _ => pts_nil) (fun _ _ _ _ _ => (pe_tup (pa_cons (pe_op op_add_str pe_str (pe_ix ix_str pe_str (pv 9) (fun _ _ => rfl))) (pa_cons (pe_tup (pa_cons pe_str pa_nil)) pa_nil)))))
    (pss_one (ps_set (i := 3) sc__law_counts.nd rfl (.inl rfl) (pe_op op_cat (pv 3) (pe_lst (pa_cons (pe_lst (pa_cons (pv 5) (pa_cons (pe_lst pa_nil) (pa_cons (pe_cmpR op_lt (pv 4) pe_int (nomark _)) pa_nil)))) (pa_cons (pe_lst (pa_cons (pe_lst (pa_cons (pe_lst (pa_cons pe_str (pa_cons (pv 6) (pa_cons (pe_lst pa_nil) pa_nil)))) pa_nil)) (pa_cons (pe_lst pa_nil) (pa_cons (pe_cmpR op_lt (pv 4) pe_int (nomark _)) pa_nil)))) pa_nil)))))))))
    (pss_cons (ps_for PassesOwn.never rfl (plK K (pe_lst (pa_cons pe_int (pa_cons pe_int pa_nil)))) (pg_name (i := 4) sc__law_counts.nd rfl (.inl rfl)) (pss_one (ps_expr (pe_bm PySem.F.plainAttrs_list PySem.F.slot_list_append PySem.F.type_list_append mt_append (pv 3) (pa_cons (pe_lst (pa_cons (pe_lst (pa_cons (pe_lst (pa_cons pe_str (pa_cons (pe_lst pa_nil) (pa_cons (pe_op op_rep (pe_lst (pa_cons (pv 2) pa_nil)) (pv 4)) pa_nil)))) pa_nil)) (pa_cons (pe_lst pa_nil) (pa_cons (pe_cmpR op_lt (pv 4) pe_int (nomark _)) pa_nil)))) pa_nil)))))
    (pss_cons (ps_for PassesOwn.never rfl (plK K (pe_lst (pa_cons pe_int (pa_cons pe_int pa_nil)))) (pg_name (i := 4) sc__law_counts.nd rfl (.inl rfl)) (pss_one (ps_expr (pe_bm PySem.F.plainAttrs_list PySem.F.slot_list_append PySem.F.type_list_append mt_append (pv 3) (pa_cons (pe_lst (pa_cons (pe_lst pa_nil) (pa_cons (pe_op op_rep (pe_lst (pa_cons (pv 2) pa_nil)) (pv 4)) (pa_cons (pe_cmpR op_lt (pv 4) pe_int (nomark _)) pa_nil)))) pa_nil)))))
    (pss_cons (ps_for PassesOwn.never rfl (plK K (pe_lst (pa_cons pe_int (pa_cons pe_int pa_nil)))) (pg_name (i := 4) sc__law_counts.nd rfl (.inl rfl)) (pss_cons (ps_set (i := 7) sc__law_counts.nd rfl (.inl rfl) (pe_slice sl_str pe_str po_none (po_some (pv 4))))
    (pss_cons (ps_set (i := 8) sc__law_counts.nd rfl (.inl rfl) (pe_lst (pa_cons (pe_tup (pa_cons pe_str (pa_cons (pv 7) (pa_cons (pe_tup (pa_cons pe_str pa_nil)) (pa_cons (pe_tup (pa_cons pe_str (pa_cons (pe_op op_sub (pe_op op_add pe_int (pv 4)) pe_int) pa_nil))) pa_nil))))) pa_nil)))
    (pss_cons (ps_set (i := 3) sc__law_counts.nd rfl (.inl rfl) (pe_op op_cat (pv 3) (pe_lst (pa_cons (pe_lst (pa_cons (pe_lst pa_nil) (pa_cons (pe_lst (pa_cons (pe_call (ok__law_let T) (hr.mono (by omega)) (by rfl) T.d__law_let.m T.d__law_let.F.kp T.d__law_let.b .nil pass0 (pa_cons (pv 7) (pa_cons (pe_tup (pa_cons pe_str pa_nil)) pa_nil))) pa_nil)) (pa_cons (pe_cmpR op_lt (pv 4) pe_int (nomark _)) pa_nil)))) (pa_cons (pe_lst (pa_cons (pe_lst (pa_cons (pe_lst (pa_cons (pv 7) (pa_cons (pe_lst pa_nil) (pa_cons (pe_lst pa_nil) pa_nil)))) pa_nil)) (pa_cons (pe_lst (pa_cons (pe_tup (pa_cons pe_str (pa_cons (pv 7) (pa_cons (pe_lst pa_nil) pa_nil)))) pa_nil)) (pa_cons (pe_cmpR op_lt (pv 4) pe_int (nomark _)) pa_nil)))) pa_nil)))))
    (pss_one (ps_set (i := 3) sc__law_counts.nd rfl (.inl rfl) (pe_op op_cat (pv 3) (pe_lst (pa_cons (pe_lst (pa_cons (pe_lst (pa_cons (pe_lst (pa_cons pe_str (pa_cons (pe_lst (pa_cons (pe_tup (pa_cons (pv 7) (pa_cons (pe_tup (pa_cons pe_str pa_nil)) pa_nil))) pa_nil)) (pa_cons (pe_lst pa_nil) pa_nil)))) pa_nil)) (pa_cons (pe_lst pa_nil) (pa_cons (pe_cmpR op_lt (pv 4) pe_int (nomark _)) pa_nil)))) (pa_cons (pe_lst (pa_cons (pe_lst pa_nil) (pa_cons (pe_lst (pa_cons (pe_tup (pa_cons pe_str (pa_cons pe_str (pa_cons (pe_tup (pa_cons pe_str pa_nil)) (pa_cons (pe_ix (ixT K) (pe_ix (ixL K) (pv 8) pe_int (fun _ _ => rfl)) pe_int (fun _ _ => rfl)) pa_nil))))) pa_nil)) (pa_cons (pe_cmpR op_lt (pv 4) pe_int (nomark _)) pa_nil)))) pa_nil))))))))))
    (pss_cons (ps_for PassesOwn.never rfl (plK K (pe_lst (pa_cons pe_int (pa_cons pe_int pa_nil)))) (pg_name (i := 4) sc__law_counts.nd rfl (.inl rfl)) (pss_cons (ps_set (i := 3) sc__law_counts.nd rfl (.inl rfl) (pe_op op_cat (pv 3) (pe_lst (pa_cons (pe_lst (pa_cons (pe_lst pa_nil) (pa_cons (pe_lst (pa_cons (pe_tup (pa_cons pe_str (pa_cons (pe_tup (pa_cons (pv 1) (pa_cons (pv 4) pa_nil))) (pa_cons (pe_tup (pa_cons pe_str pa_nil)) pa_nil)))) pa_nil)) (pa_cons (pe_cmpR op_lt (pv 4) pe_int (nomark _)) pa_nil)))) (pa_cons (pe_lst (pa_cons (pe_lst pa_nil) (pa_cons (pe_lst (pa_cons (pe_tup (pa_cons pe_str (pa_cons (pe_tup (pa_cons (pv 1) (pa_cons pe_int pa_nil))) (pa_cons (pe_tup (pa_cons pe_str (pa_cons (pe_tup (pa_cons (pv 1) (pa_cons (pv 4) pa_nil))) pa_nil))) pa_nil)))) pa_nil)) (pa_cons (pe_cmpR op_lt (pv 4) pe_int (nomark _)) pa_nil)))) pa_nil)))))
    (pss_cons (ps_set (i := 3) sc__law_counts.nd rfl (.inl rfl) (pe_op op_cat (pv 3) (pe_lst (pa_cons (pe_lst (pa_cons (pe_lst pa_nil) (pa_cons (pe_lst (pa_cons (pe_tup (pa_cons pe_str (pa_cons (pe_tup (pa_cons (pv 1) (pa_cons pe_int pa_nil))) (pa_cons (pe_tup (pa_cons pe_str (pa_cons (pe_tup (pa_cons (pv 1) (pa_cons (pv 4) pa_nil))) pa_nil))) pa_nil)))) pa_nil)) (pa_cons (pe_cmpR op_lt (pv 4) pe_int (nomark _)) pa_nil)))) (pa_cons (pe_lst (pa_cons (pe_lst pa_nil) (pa_cons (pe_lst (pa_cons (pe_call (ok__law_let T) (hr.mono (by omega)) (by rfl) T.d__law_let.m T.d__law_let.F.kp T.d__law_let.b .nil pass0 (pa_cons pe_str (pa_cons (pv 4) pa_nil))) pa_nil)) (pa_cons (pe_cmpR op_lt (pv 4) pe_int (nomark _)) pa_nil)))) pa_nil)))))
    (pss_one (ps_expr (pe_bm PySem.F.plainAttrs_list PySem.F.slot_list_append PySem.F.type_list_append mt_append (pv 3) (pa_cons (pe_lst (pa_cons (pe_lst (pa_cons (pe_lst (pa_cons pe_str (pa_cons (pe_lst (pa_cons (pe_tup (pa_cons pe_str (pa_cons (pv 4) pa_nil))) pa_nil)) (pa_cons (pe_lst pa_nil) pa_nil)))) pa_nil)) (pa_cons (pe_lst pa_nil) (pa_cons (pe_cmpR op_lt (pv 4) pe_int (nomark _)) pa_nil)))) pa_nil)))))))
    (pss_cons (ps_for PassesOwn.never rfl (plK K (pe_lst (pa_cons pe_int (pa_cons pe_int pa_nil)))) (pg_name (i := 4) sc__law_counts.nd rfl (.inl rfl)) (pss_one (ps_set (i := 3) sc__law_counts.nd rfl (.inl rfl) (pe_op op_cat (pv 3) (pe_lst (pa_cons (pe_lst (pa_cons (pe_lst pa_nil) (pa_cons (pe_lst (pa_cons (pe_call (ok__law_let T) (hr.mono (by omega)) (by rfl) T.d__law_let.m T.d__law_let.F.kp T.d__law_let.b .nil pass0 (pa_cons pe_str (pa_cons (pe_op (repAK K) (pe_tup (pa_cons pe_str pa_nil)) (pv 4)) pa_nil))) pa_nil)) (pa_cons (pe_cmpR op_lt (pv 4) pe_int (nomark _)) pa_nil)))) (pa_cons (pe_lst (pa_cons (pe_lst (pa_cons (pe_lst (pa_cons pe_str (pa_cons (pe_lst (pa_cons (pe_tup (pa_cons pe_str (pa_cons (pe_op (repAK K) (pe_tup (pa_cons pe_str pa_nil)) (pv 4)) pa_nil))) pa_nil)) (pa_cons (pe_lst pa_nil) pa_nil)))) pa_nil)) (pa_cons (pe_lst pa_nil) (pa_cons (pe_cmpR op_lt (pv 4) pe_int (nomark _)) pa_nil)))) pa_nil)))))))
    (pss_one (ps_ret (pv 3)))))))))))), ?_⟩
  walk_at "r"
  refine ap_draw hb (by decide) fun v H0 v0 v1 k0 hb0 => ?_
  obtain ⟨c, hc, at_c⟩ : ∃ c, c ∈ ("abcdefgh" : Str).cps.toList ∧ atI ("abcdefgh" : Str).cps.toList v = some c := by
    have : v = 0 ∨ v = 1 ∨ v = 2 ∨ v = 3 ∨ v = 4 ∨ v = 5 ∨ v = 6 ∨ v = 7 := by omega
    rcases this with rfl | rfl | rfl | rfl | rfl | rfl | rfl | rfl <;> exact ⟨_, by decide +kernel, rfl⟩
  refine ⟨_, v, c, rfl, rfl, sz_of (by decide), at_c, ?_⟩
  walk_at "r"
  refine new_tup (by simp) fun t1 H1 n1 e1 f1 => ?_
  walk_at "r"
  refine new_tup (by simp) fun t2 H2 n2 e2 f2 => ?_
  walk_at "r"
  refine new_tup (by simp) fun t3 H3 n3 e3 f3 => ?_
  walk_at "r"
  refine new_lst (xs := []) (by simp) fun po H4 n4 e4 f4 => ?_
  have E03 := (e1.trans e2).trans e3
  have C4 : Cn K H0 H4 po (.ref t3) (.tuple [.str "put", .tuple [.str ⟨#[c]⟩, .int 0], .tuple [.str "null"]]) 0 := {
    e := E03.trans e4
    new := by
      cases z : H0 po with
      | none => rfl
      | some o => rw [E03 _ _ z] at n4; cases n4
    out := ⟨[], [], f4, .nil, (fun d hd => by cases hd), Nat.le_refl _⟩
    put := dp_ex (ex_one n4 e4) (.tup (SqT.of f3) (.cons (.str _) (.cons (.tup (SqT.of (e3 _ _ (e2 _ _ f1))) (.cons (.str _) (.cons (.int _) .nil))) (.cons (.tup (SqT.of (e3 _ _ f2)) (.cons (.str _) .nil)) .nil)))) }
  walk_at "r"
  refine new_lst (by simp) fun p5 H5 n5 e5 f5 => ?_
  walk_at "r"
  refine r_L (SqL.of f5) ?_
  refine lp_list (xs := [.int 4, .int 5]) (fun k σ h => ∃ po a4 a5 a6 a9, σ = [some (.ref b), some (.str ⟨#[c]⟩), some (.ref t3), some (.ref po), a4, a5, a6, none, none, a9] ∧ Ex H5 h ∧ Cn K H0 h po (.ref t3) (.tuple [.str "put", .tuple [.str ⟨#[c]⟩, .int 0], .tuple [.str "null"]]) (2 * k))
    ⟨po, _, _, _, _, rfl, Ex.refl _, C4.mono e5⟩ (fun k σ h _ g => by
      obtain ⟨_, _, _, _, _, _, e, _⟩ := g
      exact SqL.of (e _ _ f5)) ?_ ?_
  · rintro k x σ h hx ⟨po, a4, a5, a6, a9, rfl, e, cn⟩
    obtain ⟨m, hm, rfl⟩ : ∃ m : Nat, (m = 4 ∨ m = 5) ∧ x = .int (m : Nat) := by
      match k, hx with
      | 0, hx => exact ⟨4, .inl rfl, (Option.some.inj hx).symm⟩
      | 1, hx => exact ⟨5, .inr rfl, (Option.some.inj hx).symm⟩
    have hk2 : k < 2 := at_lt hx
    have hm5 : m ≤ 5 := by omega
    have al := cn.al
    obtain ⟨vs, ds, fo, D, cs, dl⟩ := cn.out
    walk_at "r"
    refine c_R1 (by omega) ?_
    rw [Int.toNat_natCast]
    refine run_comp (K := K) (f := fun k => fdat (fns "f" k)) fo (by omega) (fun _ => rfl) (fun l h k hk e al => ?_) fun l7 ws7 h7 n7 e7 f7 L7 => ?_
    · refine (show EvD K [l, po] _ h _ (.list [.str ("f" ++ ⟨#[("abcde" : Str).cps.toList.getD k 0]⟩), .list [], .list []]) from ?_)
      refine ev_ll (ev_lst al (ev_cons (ev_sx rfl (by decide) (by decide) (at_abcde (by omega))) ?_) (Nat.le_of_ble_eq_true rfl))
      repeat walk_at "ev"
    have cn7 := cn.mono e7
    have al7 := cn7.al
    obtain ⟨vs, ds, fo7, D7, cs7, dl7⟩ := cn7.out
    walk_at "r"
    refine c_R1 (by omega) ?_
    rw [Int.toNat_natCast]
    refine run_comp (K := K) (f := prm) fo7 (by omega) (fun _ => rfl) (fun l h k hk e al => ?_) fun l8 ws8 h8 n8 e8 f8 L8 => ?_
    · refine ev_tup al (ev_cons (ev_sx rfl (by decide) (by decide) (at_abcde (by omega))) ?_) (Nat.le_of_ble_eq_true rfl)
      repeat walk_at "ev"
    have cn8 := cn7.mono e8
    have al8 := cn8.al
    obtain ⟨vs, ds, fo8, D8, cs8, dl8⟩ := cn8.out
    have L7' := L7.up (dl_ex e8)
    with_reducible refine w_name ?_
    with_reducible refine w_asg ?_
    refine run_cat (K := K) (es := [.list [.list ((List.range m).map fun k => fdat (fns "f" k)), .list [], .bool (decide ((m : Int) < 5))], .list [.list [.list [.str "fa", .list ((List.range m).map prm), .list []]], .list [], .bool (decide ((m : Int) < 5))]]) (by rfl) fo8 D8 ?_ (by simp; omega) fun l ws h9 e9 E9 n9 f9 D9 => ?_
    · repeat walk_at "ev"
    walk_at "r"
    refine ⟨l, _, _, _, _, rfl, ((e.trans e7).trans e8).trans e9, ⟨cn8.e.trans e9, ?_, ⟨ws, _, f9, D9, ?_, ?_⟩, dp_ex E9 cn8.put⟩⟩
    · cases z : H0 l with
      | none => rfl
      | some o => rw [cn8.e _ _ z] at n9; cases n9
    · intro d hd
      rcases List.mem_append.mp hd with hd | hd
      · exact cs8 d hd
      rcases List.mem_cons.mp hd with rfl | hd
      · exact case_f hm
      rcases List.mem_cons.mp hd with rfl | hd
      · exact case_p hm
      · cases hd
    · rw [List.length_append]
      simp
      omega
  · rintro σ h ⟨po, a4, a5, a6, a9, rfl, e, cn⟩
    walk_at "r"
    refine new_lst (by simp) fun p10 H10 n10 e10 f10 => ?_
    walk_at "r"
    refine r_L (SqL.of f10) ?_
    refine lp_list (xs := [.int 12, .int 13]) (fun k σ h => ∃ a4 a9, σ = [some (.ref b), some (.str ⟨#[c]⟩), some (.ref t3), some (.ref po), a4, a5, a6, none, none, a9] ∧ p10 ≠ po ∧ h p10 = some (.lst [.int 12, .int 13]) ∧ Cn K H0 h po (.ref t3) (putD c) (4 + k))
      ⟨_, _, rfl, (fun z => by obtain ⟨_, _, g, _⟩ := cn.out; rw [← z, n10] at g; cases g), f10, cn.mono e10⟩ (fun k σ h _ g => by
        obtain ⟨_, _, _, _, g, _⟩ := g
        exact SqL.of g) ?_ ?_
    · rintro k x σ h hx ⟨a4, a9, rfl, np, fp, cn⟩
      obtain ⟨m, hm, rfl⟩ : ∃ m : Nat, (m = 12 ∨ m = 13) ∧ x = .int (m : Nat) := by
        match k, hx with
        | 0, hx => exact ⟨12, .inl rfl, (Option.some.inj hx).symm⟩
        | 1, hx => exact ⟨13, .inr rfl, (Option.some.inj hx).symm⟩
      have hk2 : k < 2 := at_lt hx
      have al := cn.al
      obtain ⟨vs, ds, fo, D, cs, dl⟩ := cn.out
      have pD := cn.put
      walk_at "r"
      refine ⟨a_ty fo, ?_⟩
      refine run_app (K := K) (d := .list [.list [.list [.str "fa", .list [], .list (List.replicate m (putD c))]], .list [], .bool (decide ((m : Int) < 13))]) fo D ?_ (by omega) fun ws h9 k9 f9 D9 => ?_
      · repeat walk_at "ev"
        refine ev_ll (ev_rep (n := m) al ?_ (by rfl) (by omega))
        repeat walk_at "ev"
      walk_at "r"
      exact ⟨_, _, rfl, np, k9 _ _ (by simpa using np) fp, cn.app k9 f9 D9 cs (case_b hc hm) dl⟩
    rintro σ h ⟨a4, a9, rfl, np, fp, cn⟩
    walk_at "r"
    refine new_lst (by simp) fun p11 H11 n11 e11 f11 => ?_
    walk_at "r"
    refine r_L (SqL.of f11) ?_
    refine lp_list (xs := [.int 40, .int 41]) (fun k σ h => ∃ a4 a9, σ = [some (.ref b), some (.str ⟨#[c]⟩), some (.ref t3), some (.ref po), a4, a5, a6, none, none, a9] ∧ p11 ≠ po ∧ h p11 = some (.lst [.int 40, .int 41]) ∧ Cn K H0 h po (.ref t3) (putD c) (6 + k))
      ⟨_, _, rfl, (fun z => by obtain ⟨_, _, g, _⟩ := cn.out; rw [← z, n11] at g; cases g), f11, cn.mono e11⟩ (fun k σ h _ g => by
        obtain ⟨_, _, _, _, g, _⟩ := g
        exact SqL.of g) ?_ ?_
    · rintro k x σ h hx ⟨a4, a9, rfl, np, fp, cn⟩
      obtain ⟨m, hm, rfl⟩ : ∃ m : Nat, (m = 40 ∨ m = 41) ∧ x = .int (m : Nat) := by
        match k, hx with
        | 0, hx => exact ⟨40, .inl rfl, (Option.some.inj hx).symm⟩
        | 1, hx => exact ⟨41, .inr rfl, (Option.some.inj hx).symm⟩
      have hk2 : k < 2 := at_lt hx
      have al := cn.al
      obtain ⟨vs, ds, fo, D, cs, dl⟩ := cn.out
      have pD := cn.put
      walk_at "r"
      refine ⟨a_ty fo, ?_⟩
      refine run_app (K := K) (d := .list [.list [], .list (List.replicate m (putD c)), .bool (decide ((m : Int) < 41))]) fo D ?_ (by omega) fun ws h9 k9 f9 D9 => ?_
      · repeat walk_at "ev"
        refine ev_ll (ev_rep (n := m) al ?_ (by rfl) (by omega))
        repeat walk_at "ev"
      walk_at "r"
      exact ⟨_, _, rfl, np, k9 _ _ (by simpa using np) fp, cn.app k9 f9 D9 cs (case_s hc hm) dl⟩
    rintro σ h ⟨a4, a9, rfl, np, fp, cn⟩
    walk_at "r"
    refine new_lst (by simp) fun p12 H12 n12 e12 f12 => ?_
    walk_at "r"
    refine r_L (SqL.of f12) ?_
    refine lp_list (xs := [.int 8, .int 9]) (fun k σ h => ∃ po a4 a7 a8 a9, σ = [some (.ref b), some (.str ⟨#[c]⟩), some (.ref t3), some (.ref po), a4, a5, a6, a7, a8, a9] ∧ Ex H12 h ∧ Cn K H0 h po (.ref t3) (putD c) (8 + 4 * k))
      ⟨po, _, _, _, _, rfl, Ex.refl _, cn.mono e12⟩ (fun k σ h _ g => by
        obtain ⟨_, _, _, _, _, _, g, _⟩ := g
        exact SqL.of (g _ _ f12)) ?_ ?_
    · rintro k x σ h hx ⟨po, a4, a7, a8, a9, rfl, e, cn⟩
      obtain ⟨m, hm, rfl⟩ : ∃ m : Nat, (m = 8 ∨ m = 9) ∧ x = .int (m : Nat) := by
        match k, hx with
        | 0, hx => exact ⟨8, .inl rfl, (Option.some.inj hx).symm⟩
        | 1, hx => exact ⟨9, .inr rfl, (Option.some.inj hx).symm⟩
      have hk2 : k < 2 := at_lt hx
      walk_at "r"
      refine ⟨_, rfl, sz_of (by decide), ?_⟩
      walk_at "r"
      refine new_tup (by simp) fun u1 h1 m1 g1 q1 => ?_
      walk_at "r"
      refine new_tup (by simp) fun u2 h2 m2 g2 q2 => ?_
      walk_at "r"
      refine new_tup (by simp) fun u3 h3 m3 g3 q3 => ?_
      walk_at "r"
      refine new_lst (by simp) fun u4 h4 m4 g4 q4 => ?_
      have cn4 := ((cn.mono g1).mono g2).mono (g3.trans g4)
      have al4 := cn4.al
      obtain ⟨vs, ds, fo, D, cs, dl⟩ := cn4.out
      with_reducible refine w_name ?_
      with_reducible refine w_seq ?_
      with_reducible refine w_asg ?_
      refine run_cat (K := K) (es := [.list [.list [], .list [letD (.str (nmN m)) rwT], .bool (decide ((m : Int) < 9))], .list [.list [.list [.str (nmN m), .list [], .list []]], .list [.tuple [.str "call", .str (nmN m), .list []]], .bool (decide ((m : Int) < 9))]]) (by rfl) fo D ?_ (by simp; omega) fun l ws h5 e5 E5 n5 f5 D5 => ?_
      · repeat walk_at "ev"
      have cn5 := cn4.cat (k := 2) e5 E5 n5 f5 D5 cs (two_c (case_n1 hm) (case_n2 hm)) dl rfl
      have al5 := cn5.al
      have dN : Dp K (Ver.dl [po] h4) (.ref u2) (.tuple [.str "number", .int (1000 + (m : Int) - 8)]) := .tup (SqT.of (dl_at ((cn.mono g1).al.nin m2) (g4 _ _ (g3 _ _ q2)))) (.cons (.str _) (.cons (.int _) .nil))
      have dN5 := dp_ex E5 dN
      obtain ⟨vs, ds, fo, D, cs, dl⟩ := cn5.out
      with_reducible refine w_name ?_
      with_reducible refine w_asg ?_
      refine run_cat (K := K) (es := [.list [.list [.list [.str "fa", .list [.tuple [.str (nmN m), rwT]], .list []]], .list [], .bool (decide ((m : Int) < 9))], .list [.list [], .list [.tuple [.str "let", .str "q", rwT, .tuple [.str "number", .int (1000 + (m : Int) - 8)]]], .bool (decide ((m : Int) < 9))]]) (by rfl) fo D ?_ (by show _ + 2 ≤ 100000; omega) fun l ws h6 e6 E6 n6 f6 D6 => ?_
      · repeat walk_at "ev"
        · intro Ha ea Q k
          walk_at "r"
          refine a_ixL (v := .ref u3) (SqL.of (ea _ _ (e5 _ _ q4))) rfl ?_
          walk_at "r"
          refine a_ixT (v := .ref u2) (SqT.of (ea _ _ (e5 _ _ (g4 _ _ q3)))) rfl ?_
          exact k _ _ (Ex.refl _) (dp_ex (dl_ex ea) dN5)
        repeat walk_at "ev"
      have cn6 := cn5.cat (k := 2) e6 E6 n6 f6 D6 cs (two_c (case_n3 hm) (case_n4 hm)) dl rfl
      walk_at "r"
      exact ⟨l, _, _, _, _, rfl, ((((e.trans g1).trans g2).trans (g3.trans g4)).trans e5).trans e6, cn6⟩
    rintro σ h ⟨po, a4, a7, a8, a9, rfl, e, cn⟩
    walk_at "r"
    refine new_lst (by simp) fun p13 H13 n13 e13 f13 => ?_
    walk_at "r"
    refine r_L (SqL.of f13) ?_
    refine lp_list (xs := [.int 5, .int 6]) (fun k σ h => ∃ po a4, σ = [some (.ref b), some (.str ⟨#[c]⟩), some (.ref t3), some (.ref po), a4, a5, a6, a7, a8, a9] ∧ po ≠ p13 ∧ h p13 = some (.lst [.int 5, .int 6]) ∧ Cn K H0 h po (.ref t3) (putD c) (16 + 5 * k))
      ⟨po, _, rfl, (fun z => by obtain ⟨_, _, g, _⟩ := cn.out; rw [z, n13] at g; cases g), f13, cn.mono e13⟩ (fun k σ h _ g => by
        obtain ⟨_, _, _, _, g, _⟩ := g
        exact SqL.of g) ?_ ?_
    · rintro k x σ h hx ⟨po, a4, rfl, np, fp, cn⟩
      obtain ⟨m, hm, rfl⟩ : ∃ m : Nat, (m = 5 ∨ m = 6) ∧ x = .int (m : Nat) := by
        match k, hx with
        | 0, hx => exact ⟨5, .inl rfl, (Option.some.inj hx).symm⟩
        | 1, hx => exact ⟨6, .inr rfl, (Option.some.inj hx).symm⟩
      have hk2 : k < 2 := at_lt hx
      have al := cn.al
      obtain ⟨vs, ds, fo, D, cs, dl⟩ := cn.out
      with_reducible refine w_name ?_
      with_reducible refine w_seq ?_
      with_reducible refine w_asg ?_
      refine run_cat (K := K) (es := [.list [.list [], .list [.tuple [.str "put", .tuple [.str ⟨#[c]⟩, .int (m : Int)], .tuple [.str "null"]]], .bool (decide ((m : Int) < 6))], .list [.list [], .list [.tuple [.str "put", .tuple [.str ⟨#[c]⟩, .int 0], .tuple [.str "value", .tuple [.str ⟨#[c]⟩, .int (m : Int)]]]], .bool (decide ((m : Int) < 6))]]) (by rfl) fo D ?_ (by show _ + 2 ≤ 100000; omega) fun l ws h5 e5 E5 n5 f5 D5 => ?_
      · repeat walk_at "ev"
      have cn5 := cn.cat (k := 2) e5 E5 n5 f5 D5 cs (two_c (case_d1 hc hm) (case_d2 hc hm)) dl rfl
      have al5 := cn5.al
      have np5 : l ≠ p13 := fun z => by rw [z, fp] at n5; cases n5
      obtain ⟨vs, ds, fo, D, cs, dl⟩ := cn5.out
      with_reducible refine w_name ?_
      with_reducible refine w_seq ?_
      with_reducible refine w_asg ?_
      refine run_cat (K := K) (es := [.list [.list [], .list [.tuple [.str "put", .tuple [.str ⟨#[c]⟩, .int 0], .tuple [.str "address", .tuple [.str ⟨#[c]⟩, .int (m : Int)]]]], .bool (decide ((m : Int) < 6))], .list [.list [], .list [letD (.str "q") (.int (m : Int))], .bool (decide ((m : Int) < 6))]]) (by rfl) fo D ?_ (by show _ + 2 ≤ 100000; omega) fun l2 ws h6 e6 E6 n6 f6 D6 => ?_
      · repeat walk_at "ev"
      have cn6 := cn5.cat (k := 2) e6 E6 n6 f6 D6 cs (two_c (case_d3 hc hm) (case_d4 hc hm)) dl rfl
      have al6 := cn6.al
      have fp6 := e6 _ _ (e5 _ _ fp)
      have np6 : l2 ≠ p13 := fun z => by rw [z, e5 _ _ fp] at n6; cases n6
      obtain ⟨vs, ds, fo, D, cs, dl⟩ := cn6.out
      walk_at "r"
      refine ⟨a_ty fo, ?_⟩
      refine run_app (K := K) (d := .list [.list [.list [.str "fa", .list [.tuple [.str "q", .int (m : Int)]], .list []]], .list [], .bool (decide ((m : Int) < 6))]) fo D ?_ (by omega) fun ws h7 k7 f7 D7 => ?_
      · repeat walk_at "ev"
      walk_at "r"
      exact ⟨l2, _, rfl, np6, k7 _ _ (by simpa using Ne.symm np6) fp6, cn6.app k7 f7 D7 cs (case_d5 hc hm) dl⟩
    rintro σ h ⟨po, a4, rfl, np, fp, cn⟩
    walk_at "r"
    refine new_lst (by simp) fun p14 H14 n14 e14 f14 => ?_
    walk_at "r"
    refine r_L (SqL.of f14) ?_
    refine lp_list (xs := [.int 6, .int 7]) (fun k σ h => ∃ po a4, σ = [some (.ref b), some (.str ⟨#[c]⟩), some (.ref t3), some (.ref po), a4, a5, a6, a7, a8, a9] ∧ po ≠ p14 ∧ h p14 = some (.lst [.int 6, .int 7]) ∧ Cn K H0 h po (.ref t3) (putD c) (26 + 2 * k))
      ⟨po, _, rfl, (fun z => by obtain ⟨_, _, g, _⟩ := cn.out; rw [z, n14] at g; cases g), f14, cn.mono e14⟩ (fun k σ h _ g => by
        obtain ⟨_, _, _, _, g, _⟩ := g
        exact SqL.of g) ?_ ?_
    · rintro k x σ h hx ⟨po, a4, rfl, np, fp, cn⟩
      obtain ⟨m, hm, rfl⟩ : ∃ m : Nat, (m = 6 ∨ m = 7) ∧ x = .int (m : Nat) := by
        match k, hx with
        | 0, hx => exact ⟨6, .inl rfl, (Option.some.inj hx).symm⟩
        | 1, hx => exact ⟨7, .inr rfl, (Option.some.inj hx).symm⟩
      have hk2 : k < 2 := at_lt hx
      have al := cn.al
      obtain ⟨vs, ds, fo, D, cs, dl⟩ := cn.out
      with_reducible refine w_name ?_
      with_reducible refine w_asg ?_
      refine run_cat (K := K) (es := [.list [.list [], .list [letD (.str "q") (.tuple (List.replicate m (.str "rw")))], .bool (decide ((m : Int) < 7))], .list [.list [.list [.str "fa", .list [.tuple [.str "q", .tuple (List.replicate m (.str "r"))]], .list []]], .list [], .bool (decide ((m : Int) < 7))]]) (by rfl) fo D ?_ (by show _ + 2 ≤ 100000; omega) fun l ws h5 e5 E5 n5 f5 D5 => ?_
      · repeat walk_at "ev"
        · refine ev_let al (ev_cons ev_str (ev_cons (ev_repT fo ?_ (by rfl) (by omega) (by omega)) ev_nil)) (by rcases hm with rfl | rfl <;> decide +kernel)
          repeat walk_at "ev"
        repeat walk_at "ev"
        · refine ev_repT fo ?_ (by rfl) (by omega) (by omega)
          repeat walk_at "ev"
        repeat walk_at "ev"
      have cn5 := cn.cat (k := 2) e5 E5 n5 f5 D5 cs (two_c (case_e1 hc hm) (case_e2 hc hm)) dl rfl
      have np5 : l ≠ p14 := fun z => by rw [z, fp] at n5; cases n5
      walk_at "r"
      exact ⟨l, _, rfl, np5, e5 _ _ fp, cn5⟩
    rintro σ h ⟨po, a4, rfl, np, fp, cn⟩
    walk_at "r"
    obtain ⟨vs, ds, fo, D, cs, dl⟩ := cn.out
    exact q po vs ds h (k0.trans (Ks.of cn.e)) (bx_ex hb0 cn.e) fo (dpa_ex (dl_le _ _) D) cs (Nat.le_trans dl (by decide))

end
end Ver

set_option Elab.async false
set_option linter.all false
set_option maxRecDepth 100000
set_option maxHeartbeats 4000000
namespace Ver
open PySem PySem.Spec PyProof.Rows L2 Evl
local macro_rules | `(tactic| walk_at "s") => `(tactic| with_reducible first
  | refine w_seq ?_ | refine w_asg ?_ | refine w_name ?_ | refine w_if ?_ | refine w_ret ?_ | refine w_drop ?_ | refine w_next ?_ | refine w_brk ?_ | refine w_cont ?_
  | (refine w_var (v := ?vv) ?hh ?_; (case hh => with_unfolding_all exact rfl))
  | refine w_c ?_ | refine w_op ?_ | refine w_un ?_ | refine w_I0 ?_ | refine w_neg ?_ | refine w_eqI ?_ | refine w_neI ?_ | refine w_eqS ?_ | refine w_neS ?_ | refine w_eqB ?_ | refine w_neB ?_
  | refine w_test ?_ | refine w_B ?_ | refine w_and ?_ | refine w_or ?_ | refine w_not ?_ | refine w_andV ?_ | refine w_orV ?_ | refine w_notV ?_ | refine w_ifE ?_ | refine w_yes ?_
  | refine w_nil ?_ | refine w_cons ?_ | refine w_CB ?_ | refine w_callN ?_ | refine w_BM ?_ | refine w_BMT ?_ | refine w_BM0 ?_ | refine w_noPart ?_ | refine w_part ?_ | refine w_sl ?_ | refine w_tup ?_ | refine w_lst ?_
  | refine w_subG ?_ | refine w_gcons ?_ | refine w_gnil ?_ | refine w_for ?_ | refine w_lc ?_ | refine w_iR1 ?_ | refine w_iR2 ?_ | refine w_iL ?_ | refine w_iT ?_ | refine w_iS ?_
  | (show ∃ k, V.bl _ = V.bl k ∧ _; refine ⟨_, rfl, ?_⟩) | (show ∃ k, V.int _ = V.int k ∧ _; refine ⟨_, rfl, ?_⟩)
  | refine iteT ?_ | refine iteF ?_ | refine iteNT ?_ | refine iteNF ?_ | refine r_S ?_ | refine c_S ?_ | refine a_abs ?_ | refine a_intI ?_ | refine a_intB ?_ | refine w_par ?_ | refine w_dK ?_ | refine w_chain ?_ | (show ∃ v w, [_, _] = [v, w] ∧ _; refine ⟨_, _, rfl, ?_⟩)
  | refine w_getF ?_ | refine w_setF ?_ | refine w_newI ?_ | refine w_callS ?_ | refine w_getD1 ?_ | refine w_putD ?_ | refine w_veI ?_ | refine w_ostI ?_ | refine w_mkO ?_ | refine w_newS ?_ | refine w_xf ?_
  | refine a_isNn ?_ | refine a_isNr ?_ | refine a_notNn ?_ | refine a_notNr ?_ | refine a_isTy ?_ | refine a_notTy ?_ | refine a_isBl ?_ | refine a_notBl ?_)
local macro_rules | `(tactic| walk_at "r") => `(tactic| repeat walk_at "s")
local macro_rules | `(tactic| walk_at "tr") => `(tactic| first
  | assumption
  | (refine ex_at (H := ?H0) ?h1 ?h2; (case h2 => assumption); (case h1 => walk_at "tr"))
  | (refine ks_at (H := ?H0) (S := ?S0) ?h1 ?h2 ?h3; (case h2 => assumption); (case h3 => walk_at "nin"); (case h1 => walk_at "tr")))
local macro_rules | `(tactic| walk_at "nin") => `(tactic| first
  | exact nin_nil | (refine nin_cons ?h1 ?h2; (case h1 => walk_at "ne"); (case h2 => walk_at "nin")))
local macro_rules | `(tactic| walk_at "ne") => `(tactic| first
  | assumption | exact Ne.symm (by assumption)
  | (refine bx_nb (H := ?H0) (r := ?r0) ?h1 ?h2; (case h2 => assumption); (case h1 => walk_at "bx"))
  | (refine bx_nr (H := ?H0) (b := ?b0) ?h1 ?h2; (case h2 => assumption); (case h1 => walk_at "bx"))
  | (refine Ne.symm (bx_nb (H := ?H0) (r := ?r0) ?h1 ?h2); (case h2 => assumption); (case h1 => walk_at "bx"))
  | (refine ne_old (H := ?H0) (o := ?o0) ?h1 ?h2; (case h2 => assumption); (case h1 => walk_at "tr"))
  | (refine Ne.symm (ne_old (H := ?H0) (o := ?o0) ?h1 ?h2); (case h2 => assumption); (case h1 => walk_at "tr"))
  | exact (Tu.ne (by assumption) (by assumption)).1 | exact (Tu.ne (by assumption) (by assumption)).2
  | (refine bx_rb (H := ?H0) ?h1; (case h1 => walk_at "bx")))
local macro_rules | `(tactic| walk_at "tu") => `(tactic| first
  | assumption
  | (refine Tu.ex (H := ?H0) ?h1 ?h2; (case h2 => assumption); (case h1 => walk_at "tu"))
  | (refine Tu.ks (H := ?H0) (S := ?S0) ?h1 ?h2 ?h3; (case h2 => assumption); (case h3 => walk_at "nin"); (case h1 => walk_at "tu")))
local macro_rules | `(tactic| walk_at "bx") => `(tactic| first
  | assumption
  | (refine bx_ex (H := ?H0) ?h1 ?h2; (case h2 => assumption); (case h1 => walk_at "bx"))
  | (refine bx_ks (H := ?H0) (S := ?S0) ?h1 ?h2 ?h3 ?h4; (case h2 => assumption); (case h3 => walk_at "nin"); (case h4 => walk_at "nin"); (case h1 => walk_at "bx")))
local macro_rules | `(tactic| walk_at "sl") => `(tactic| first
  | assumption | (refine SqL.of ?h1; (case h1 => walk_at "tr"))
  | (refine ex_sl (H := ?H0) ?h1 ?h2; (case h2 => assumption); (case h1 => walk_at "sl"))
  | (refine ks_sl (H := ?H0) (S := ?S0) ?h1 ?h2 ?h3; (case h2 => assumption); (case h3 => walk_at "nin"); (case h1 => walk_at "sl")))
local macro_rules | `(tactic| walk_at "st") => `(tactic| first
  | assumption | (refine Tu.st ?h1; (case h1 => walk_at "tu")) | (refine SqT.of ?h1; (case h1 => walk_at "tr"))
  | (refine ex_st (H := ?H0) ?h1 ?h2; (case h2 => assumption); (case h1 => walk_at "st"))
  | (refine ks_st (H := ?H0) (S := ?S0) ?h1 ?h2 ?h3; (case h2 => assumption); (case h3 => walk_at "nin"); (case h1 => walk_at "st")))
local macro_rules | `(tactic| walk_at "ex") => `(tactic| first
  | exact Ex.refl _ | assumption | (refine Ex.trans (H1 := ?H0) ?h1 ?h2; (case h2 => assumption); (case h1 => walk_at "ex")))
local macro_rules | `(tactic| walk_at "ks") => `(tactic| first
  | exact Ks.refl _ _ | assumption | (refine Ks.of ?h1; (case h1 => assumption)) | (refine Ks.trans (H1 := ?H0) ?h1 ?h2; (case h2 => first | assumption | (refine Ks.of ?h3; (case h3 => assumption))); (case h1 => walk_at "ks")))
local macro_rules | `(tactic| walk_at "dp") => `(tactic| first
  | exact Dp.str _ | exact Dp.int _ | exact Dp.bl _ | exact Dp.non | assumption | exact LsAt.dp (by assumption)
  | (refine dp_ex (H := ?H0) ?h1 ?h2; (case h1 => assumption); (case h2 => walk_at "dp")))
local macro_rules | `(tactic| walk_at "ev") => `(tactic| with_reducible first
  | exact ev_nil | refine ev_cons ?_ ?_ | exact ev_str | exact ev_int | exact ev_bl | exact ev_non
  | (refine ev_tup ?hal ?_ ?hle; (case hal => assumption); (case hle => with_unfolding_all exact Nat.le_of_ble_eq_true rfl))
  | (refine ev_ll (ev_lst ?hal ?_ ?hle); (case hal => assumption); (case hle => with_unfolding_all exact Nat.le_of_ble_eq_true rfl))
  | (refine ev_ll (ev_rep (n := ?nn) ?hal ?_ ?he ?hz); (case he => with_unfolding_all exact rfl); (case hal => assumption); (case hz => with_unfolding_all omega))
  | (refine ev_lst ?hal ?_ ?hle; (case hal => assumption); (case hle => with_unfolding_all exact Nat.le_of_ble_eq_true rfl))
  | (refine ev_lt ?he; (case he => with_unfolding_all exact rfl))
  | (refine ev_let ?hal ?_ ?hs; (case hal => assumption); (case hs => with_unfolding_all first | decide +kernel | rfl))
  | (refine ev_var (v := ?vv) ?he ?hd; (case he => with_unfolding_all exact rfl); (case hd => with_unfolding_all walk_at "dp")))

section
variable {P : Program} {w : World} {K : PySem.W.Frag} {mg : Str → Option Value} {base : Heap}
abbrev pt (n : Int) : PyData := .tuple [.str "put", .tuple [.str "x", .int n], .tuple [.str "null"]]
abbrev badT : List PyData := [.tuple [], .tuple [.str "x"], .str "rw", .list [.str "rw"], .none]
abbrev badS : List PyData := [.tuple [.str "drop", .str "x"], .tuple [.str "put", .tuple [.str "x", .int 0]], .tuple [], .list [.str "put", .tuple [.str "x", .int 0], .tuple [.str "null"]], .tuple [.str "put", .tuple [.str "X", .int 0], .tuple [.str "null"]]]
abbrev wA (d : PyData) : PyData := .list [.list [.list [.str "fa", .list [.tuple [.str "q", d]], .list []]], .list [], .bool false]
abbrev wB (d : PyData) : PyData := .list [.list [.list [.str "fa", .list [], .list [.tuple [.str "let", .str "q", d, .tuple [.str "null"]]]]], .list [], .bool false]
abbrev wC (n : Int) (d : PyData) : PyData := .list [.list [.list [.str "fa", .list [], .list [pt n, d]]], .list [], .bool false]
theorem case_wA {k : Nat} {d : PyData} (h : badT[k]? = some d) : Case (wA d) := by
  have hk := at_lt h
  match k, h, hk with
  | 0, h, _ => cases Option.some.inj h; exact ⟨[⟨.str "fa", [.tuple [.str "q", _]], []⟩], [], false, rfl, by decide +kernel, by decide +kernel⟩
  | 1, h, _ => cases Option.some.inj h; exact ⟨[⟨.str "fa", [.tuple [.str "q", _]], []⟩], [], false, rfl, by decide +kernel, by decide +kernel⟩
  | 2, h, _ => cases Option.some.inj h; exact ⟨[⟨.str "fa", [.tuple [.str "q", _]], []⟩], [], false, rfl, by decide +kernel, by decide +kernel⟩
  | 3, h, _ => cases Option.some.inj h; exact ⟨[⟨.str "fa", [.tuple [.str "q", _]], []⟩], [], false, rfl, by decide +kernel, by decide +kernel⟩
  | 4, h, _ => cases Option.some.inj h; exact ⟨[⟨.str "fa", [.tuple [.str "q", _]], []⟩], [], false, rfl, by decide +kernel, by decide +kernel⟩
theorem case_wB {k : Nat} {d : PyData} (h : badT[k]? = some d) : Case (wB d) := by
  have hk := at_lt h
  match k, h, hk with
  | 0, h, _ => cases Option.some.inj h; exact ⟨[⟨.str "fa", [], [.tuple [.str "let", .str "q", _, .tuple [.str "null"]]]⟩], [], false, rfl, by decide +kernel, by decide +kernel⟩
  | 1, h, _ => cases Option.some.inj h; exact ⟨[⟨.str "fa", [], [.tuple [.str "let", .str "q", _, .tuple [.str "null"]]]⟩], [], false, rfl, by decide +kernel, by decide +kernel⟩
  | 2, h, _ => cases Option.some.inj h; exact ⟨[⟨.str "fa", [], [.tuple [.str "let", .str "q", _, .tuple [.str "null"]]]⟩], [], false, rfl, by decide +kernel, by decide +kernel⟩
  | 3, h, _ => cases Option.some.inj h; exact ⟨[⟨.str "fa", [], [.tuple [.str "let", .str "q", _, .tuple [.str "null"]]]⟩], [], false, rfl, by decide +kernel, by decide +kernel⟩
  | 4, h, _ => cases Option.some.inj h; exact ⟨[⟨.str "fa", [], [.tuple [.str "let", .str "q", _, .tuple [.str "null"]]]⟩], [], false, rfl, by decide +kernel, by decide +kernel⟩
theorem case_wC {k : Nat} {d : PyData} {n : Int} (hn : n = 0 ∨ n = 1 ∨ n = 2) (h : badS[k]? = some d) : Case (wC n d) := by
  have hk := at_lt h
  match k, h, hk with
  | 0, h, _ => cases Option.some.inj h; rcases hn with rfl | rfl | rfl <;> exact ⟨[⟨.str "fa", [], [pt _, _]⟩], [], false, rfl, by decide +kernel, by decide +kernel⟩
  | 1, h, _ => cases Option.some.inj h; rcases hn with rfl | rfl | rfl <;> exact ⟨[⟨.str "fa", [], [pt _, _]⟩], [], false, rfl, by decide +kernel, by decide +kernel⟩
  | 2, h, _ => cases Option.some.inj h; rcases hn with rfl | rfl | rfl <;> exact ⟨[⟨.str "fa", [], [pt _, _]⟩], [], false, rfl, by decide +kernel, by decide +kernel⟩
  | 3, h, _ => cases Option.some.inj h; rcases hn with rfl | rfl | rfl <;> exact ⟨[⟨.str "fa", [], [pt _, _]⟩], [], false, rfl, by decide +kernel, by decide +kernel⟩
  | 4, h, _ => cases Option.some.inj h; rcases hn with rfl | rfl | rfl <;> exact ⟨[⟨.str "fa", [], [pt _, _]⟩], [], false, rfl, by decide +kernel, by decide +kernel⟩
theorem case_w1 : Case (.list [.list [.list [.str "fa", .list [.tuple [.str "q", rwT]], .list []]], .list [letD (.str "q") rwT], .bool false]) := ⟨[⟨.str "fa", [.tuple [.str "q", rwT]], []⟩], [letD (.str "q") rwT], false, rfl, by decide +kernel, by decide +kernel⟩
theorem case_w2 : Case (.list [.list [.list [.str "fa", .list [], .list []]], .list [letD (.str "fa") rwT], .bool false]) := ⟨[⟨.str "fa", [], []⟩], [letD (.str "fa") rwT], false, rfl, by decide +kernel, by decide +kernel⟩
theorem case_w3 : Case (.list [.list [.list [.str "fa", .list [], .list [letD (.str "q") rwT]], .list [.str "fb", .list [], .list [letD (.str "q") rwT]]], .list [], .bool false]) := ⟨[⟨.str "fa", [], [letD (.str "q") rwT]⟩, ⟨.str "fb", [], [letD (.str "q") rwT]⟩], [], false, rfl, by decide +kernel, by decide +kernel⟩
theorem case_w4 : Case (.list [.list [.list [.str "fa", .list [.tuple [.str "q", rwT], .tuple [.str "q", rwT]], .list []]], .list [], .bool false]) := ⟨[⟨.str "fa", [.tuple [.str "q", rwT], .tuple [.str "q", rwT]], []⟩], [], false, rfl, by decide +kernel, by decide +kernel⟩
theorem case_w5 : Case (.list [.list [.list [.str "fa", .list [], .list []], .list [.str "fa", .list [], .list []]], .list [], .bool false]) := ⟨[⟨.str "fa", [], []⟩, ⟨.str "fa", [], []⟩], [], false, rfl, by decide +kernel, by decide +kernel⟩
theorem case_w6 : Case (.list [.list [.list [.str "fa", .list [.tuple [.str "fa", rwT]], .list []]], .list [], .bool false]) := ⟨[⟨.str "fa", [.tuple [.str "fa", rwT]], []⟩], [], false, rfl, by decide +kernel, by decide +kernel⟩
theorem case_w7 : Case (.list [.list [.list [.str "fa", .list [.tuple [.str "q", .int 2]], .list []]], .list [letD (.str "z") rwT], .bool false]) := ⟨[⟨.str "fa", [.tuple [.str "q", .int 2]], []⟩], [letD (.str "z") rwT], false, rfl, by decide +kernel, by decide +kernel⟩
theorem case_w8 : Case (.list [.list [.list [.str "fa", .list [.tuple [.str "q", .int 2]], .list []]], .list [letD (.str "z") (.int 0)], .bool true]) := ⟨[⟨.str "fa", [.tuple [.str "q", .int 2]], []⟩], [letD (.str "z") (.int 0)], true, rfl, by decide +kernel, by decide +kernel⟩
theorem case_w9 {n : Int} (hn : n = 0 ∨ n = 1 ∨ n = 2) : Case (.list [.list [.list [.str "fa", .list [.tuple [.str "q", rwT]], .list [pt n]]], .list [letD (.str "z") rwT], .bool true]) := by
  rcases hn with rfl | rfl | rfl <;> exact ⟨[⟨.str "fa", [.tuple [.str "q", rwT]], [pt _]⟩], [letD (.str "z") rwT], true, rfl, by decide +kernel, by decide +kernel⟩
theorem case_w10 : Case (.list [.list [.list [.str "fa", .list [.tuple [.str "q", rwT]], .list []], .list [.str "fb", .list [], .list [.tuple [.str "call", .str "fa", .list [.tuple [.str "null"]]]]]], .list [], .bool true]) := ⟨[⟨.str "fa", [.tuple [.str "q", rwT]], []⟩, ⟨.str "fb", [], [.tuple [.str "call", .str "fa", .list [.tuple [.str "null"]]]]⟩], [], true, rfl, by decide +kernel, by decide +kernel⟩
theorem case_w11 : Case (.list [.list [.list [.str "fb", .list [], .list [.tuple [.str "call", .str "fa", .list [.tuple [.str "null"]]]]], .list [.str "fa", .list [.tuple [.str "q", rwT]], .list []]], .list [], .bool false]) := ⟨[⟨.str "fb", [], [.tuple [.str "call", .str "fa", .list [.tuple [.str "null"]]]]⟩, ⟨.str "fa", [.tuple [.str "q", rwT]], []⟩], [], false, rfl, by decide +kernel, by decide +kernel⟩
theorem case_w12 : Case (.list [.list [.list [.str "fa", .list [.tuple [.str "q", rwT]], .list [.tuple [.str "call", .str "fa", .list [.tuple [.str "null"]]]]]], .list [], .bool false]) := ⟨[⟨.str "fa", [.tuple [.str "q", rwT]], [.tuple [.str "call", .str "fa", .list [.tuple [.str "null"]]]]⟩], [], false, rfl, by decide +kernel, by decide +kernel⟩
theorem case_w13 : Case (.list [.list [.list [.str "fa", .list [.tuple [.str "q", rwT]], .list []], .list [.str "fb", .list [], .list [.tuple [.str "call", .str "fa", .list []]]]], .list [], .bool false]) := ⟨[⟨.str "fa", [.tuple [.str "q", rwT]], []⟩, ⟨.str "fb", [], [.tuple [.str "call", .str "fa", .list []]]⟩], [], false, rfl, by decide +kernel, by decide +kernel⟩
theorem one_c {a : PyData} (h : Case a) : ∀ d ∈ [a], Case d := fun d hd => by
  rw [List.mem_singleton] at hd
  rw [hd]
  exact h
theorem ok__law_within_functions (T : Tx K mg) : FnOk P w K mg base CX0 2 T.a__law_within_functions T.e__law_within_functions p__law_within_functions (pCnt K) := by
  refine T.d__law_within_functions.F.ok sc__law_within_functions (fun vs H Q E h => ?_) (fun cdv A outer s H vs Q E hr h => ?_)
  · obtain ⟨b, r, rfl, _⟩ := h
    rfl
  obtain ⟨b, r, rfl, hb, q⟩ := h
  refine ⟨_, (pss_cons (ps_set (i := 1) sc__law_within_functions.nd rfl (.inl rfl) (pe_tup (pa_cons pe_str pa_nil)))
    (pss_cons (ps_set (i := 2) sc__law_within_functions.nd rfl (.inl rfl) (pe_tup (pa_cons pe_str (pa_cons (pe_tup (pa_cons pe_str (pa_cons (pe_call (ok__law_draw T) (hr.mono (by omega)) (by rfl) T.d__law_draw.m T.d__law_draw.F.kp T.d__law_draw.b .nil pass0 (pa_cons (pv 0) (pa_cons pe_int pa_nil))) pa_nil))) (pa_cons (pe_tup (pa_cons pe_str pa_nil)) pa_nil)))))
    (pss_cons (ps_set (i := 3) sc__law_within_functions.nd rfl (.inl rfl) (pe_lst pa_nil))
    (pss_cons (ps_for PassesOwn.never rfl (plK K (pe_lst (pa_cons (pe_tup pa_nil) (pa_cons (pe_tup (pa_cons pe_str pa_nil)) (pa_cons pe_str (pa_cons (pe_lst (pa_cons pe_str pa_nil)) (pa_cons pe_non pa_nil))))))) (pg_name (i := 4) sc__law_within_functions.nd rfl (.inl rfl)) (pss_one (ps_set (i := 3) sc__law_within_functions.nd rfl (.inl rfl) (pe_op op_cat (pv 3) (pe_lst (pa_cons (pe_lst (pa_cons (pe_lst (pa_cons (pe_lst (pa_cons pe_str (pa_cons (pe_lst (pa_cons (pe_tup (pa_cons pe_str (pa_cons (pv 4) pa_nil))) pa_nil)) (pa_cons (pe_lst pa_nil) pa_nil)))) pa_nil)) (pa_cons (pe_lst pa_nil) (pa_cons pe_bl pa_nil)))) (pa_cons (pe_lst (pa_cons (pe_lst (pa_cons (pe_lst (pa_cons pe_str (pa_cons (pe_lst pa_nil) (pa_cons (pe_lst (pa_cons (pe_tup (pa_cons pe_str (pa_cons pe_str (pa_cons (pv 4) (pa_cons (pe_tup (pa_cons pe_str pa_nil)) pa_nil))))) pa_nil)) pa_nil)))) pa_nil)) (pa_cons (pe_lst pa_nil) (pa_cons pe_bl pa_nil)))) pa_nil)))))))
    (pss_cons (ps_for PassesOwn.never rfl (plK K (pe_lst (pa_cons (pe_tup (pa_cons pe_str (pa_cons pe_str pa_nil))) (pa_cons (pe_tup (pa_cons pe_str (pa_cons (pe_tup (pa_cons pe_str (pa_cons pe_int pa_nil))) pa_nil))) (pa_cons (pe_tup pa_nil) (pa_cons (pe_lst (pa_cons pe_str (pa_cons (pe_tup (pa_cons pe_str (pa_cons pe_int pa_nil))) (pa_cons (pe_tup (pa_cons pe_str pa_nil)) pa_nil)))) (pa_cons (pe_tup (pa_cons pe_str (pa_cons (pe_tup (pa_cons pe_str (pa_cons pe_int pa_nil))) (pa_cons (pe_tup (pa_cons pe_str pa_nil)) pa_nil)))) pa_nil))))))) (pg_name (i := 4) sc__law_within_functions.nd rfl (.inl rfl)) (pss_one (ps_expr (pe_bm PySem.F.plainAttrs_list PySem.F.slot_list_append PySem.F.type_list_append mt_append (pv 3) (pa_cons (pe_lst (pa_cons (pe_lst (pa_cons (pe_lst (pa_cons pe_str (pa_cons (pe_lst pa_nil) (pa_cons (pe_lst (pa_cons (pv 2) (pa_cons (pv 4) pa_nil))) pa_nil)))) pa_nil)) (pa_cons (pe_lst pa_nil) (pa_cons pe_bl pa_nil)))) pa_nil)))))
    (pss_cons (ps_set (i := 3) sc__law_within_functions.nd rfl (.inl rfl) (pe_op op_cat (pv 3) (pe_lst (pa_cons (pe_lst (pa_cons (pe_lst (pa_cons (pe_lst (pa_cons pe_str (pa_cons (pe_lst (pa_cons (pe_tup (pa_cons pe_str (pa_cons (pv 1) pa_nil))) pa_nil)) (pa_cons (pe_lst pa_nil) pa_nil)))) pa_nil)) (pa_cons (pe_lst (pa_cons (pe_call (ok__law_let T) (hr.mono (by omega)) (by rfl) T.d__law_let.m T.d__law_let.F.kp T.d__law_let.b .nil pass0 (pa_cons pe_str (pa_cons (pv 1) pa_nil))) pa_nil)) (pa_cons pe_bl pa_nil)))) (pa_cons (pe_lst (pa_cons (pe_lst (pa_cons (pe_lst (pa_cons pe_str (pa_cons (pe_lst pa_nil) (pa_cons (pe_lst pa_nil) pa_nil)))) pa_nil)) (pa_cons (pe_lst (pa_cons (pe_call (ok__law_let T) (hr.mono (by omega)) (by rfl) T.d__law_let.m T.d__law_let.F.kp T.d__law_let.b .nil pass0 (pa_cons pe_str (pa_cons (pv 1) pa_nil))) pa_nil)) (pa_cons pe_bl pa_nil)))) pa_nil)))))
    (pss_cons (ps_set (i := 3) sc__law_within_functions.nd rfl (.inl rfl) (pe_op op_cat (pv 3) (pe_lst (pa_cons (pe_lst (pa_cons (pe_lst (pa_cons (pe_lst (pa_cons pe_str (pa_cons (pe_lst pa_nil) (pa_cons (pe_lst (pa_cons (pe_call (ok__law_let T) (hr.mono (by omega)) (by rfl) T.d__law_let.m T.d__law_let.F.kp T.d__law_let.b .nil pass0 (pa_cons pe_str (pa_cons (pv 1) pa_nil))) pa_nil)) pa_nil)))) (pa_cons (pe_lst (pa_cons pe_str (pa_cons (pe_lst pa_nil) (pa_cons (pe_lst (pa_cons (pe_call (ok__law_let T) (hr.mono (by omega)) (by rfl) T.d__law_let.m T.d__law_let.F.kp T.d__law_let.b .nil pass0 (pa_cons pe_str (pa_cons (pv 1) pa_nil))) pa_nil)) pa_nil)))) pa_nil))) (pa_cons (pe_lst pa_nil) (pa_cons pe_bl pa_nil)))) pa_nil))))
    (pss_cons (ps_set (i := 3) sc__law_within_functions.nd rfl (.inl rfl) (pe_op op_cat (pv 3) (pe_lst (pa_cons (pe_lst (pa_cons (pe_lst (pa_cons (pe_lst (pa_cons pe_str (pa_cons (pe_lst (pa_cons (pe_tup (pa_cons pe_str (pa_cons (pv 1) pa_nil))) (pa_cons (pe_tup (pa_cons pe_str (pa_cons (pv 1) pa_nil))) pa_nil))) (pa_cons (pe_lst pa_nil) pa_nil)))) pa_nil)) (pa_cons (pe_lst pa_nil) (pa_cons pe_bl pa_nil)))) (pa_cons (pe_lst (pa_cons (pe_lst (pa_cons (pe_lst (pa_cons pe_str (pa_cons (pe_lst pa_nil) (pa_cons (pe_lst pa_nil) pa_nil)))) (pa_cons (pe_lst (pa_cons pe_str (pa_cons (pe_lst pa_nil) (pa_cons (pe_lst pa_nil) pa_nil)))) pa_nil))) (pa_cons (pe_lst pa_nil) (pa_cons pe_bl pa_nil)))) pa_nil)))))
    (pss_cons (ps_set (i := 3) sc__law_within_functions.nd rfl (.inl rfl) (pe_op op_cat (pv 3) (pe_lst (pa_cons (pe_lst (pa_cons (pe_lst (pa_cons (pe_lst (pa_cons pe_str (pa_cons (pe_lst (pa_cons (pe_tup (pa_cons pe_str (pa_cons (pv 1) pa_nil))) pa_nil)) (pa_cons (pe_lst pa_nil) pa_nil)))) pa_nil)) (pa_cons (pe_lst pa_nil) (pa_cons pe_bl pa_nil)))) (pa_cons (pe_lst (pa_cons (pe_lst (pa_cons (pe_lst (pa_cons pe_str (pa_cons (pe_lst (pa_cons (pe_tup (pa_cons pe_str (pa_cons pe_int pa_nil))) pa_nil)) (pa_cons (pe_lst pa_nil) pa_nil)))) pa_nil)) (pa_cons (pe_lst (pa_cons (pe_call (ok__law_let T) (hr.mono (by omega)) (by rfl) T.d__law_let.m T.d__law_let.F.kp T.d__law_let.b .nil pass0 (pa_cons pe_str (pa_cons (pv 1) pa_nil))) pa_nil)) (pa_cons pe_bl pa_nil)))) pa_nil)))))
    (pss_cons (ps_set (i := 3) sc__law_within_functions.nd rfl (.inl rfl) (pe_op op_cat (pv 3) (pe_lst (pa_cons (pe_lst (pa_cons (pe_lst (pa_cons (pe_lst (pa_cons pe_str (pa_cons (pe_lst (pa_cons (pe_tup (pa_cons pe_str (pa_cons pe_int pa_nil))) pa_nil)) (pa_cons (pe_lst pa_nil) pa_nil)))) pa_nil)) (pa_cons (pe_lst (pa_cons (pe_call (ok__law_let T) (hr.mono (by omega)) (by rfl) T.d__law_let.m T.d__law_let.F.kp T.d__law_let.b .nil pass0 (pa_cons pe_str (pa_cons pe_int pa_nil))) pa_nil)) (pa_cons pe_bl pa_nil)))) (pa_cons (pe_lst (pa_cons (pe_lst (pa_cons (pe_lst (pa_cons pe_str (pa_cons (pe_lst (pa_cons (pe_tup (pa_cons pe_str (pa_cons (pv 1) pa_nil))) pa_nil)) (pa_cons (pe_lst (pa_cons (pv 2) pa_nil)) pa_nil)))) pa_nil)) (pa_cons (pe_lst (pa_cons (pe_call (ok__law_let T) (hr.mono (by omega)) (by rfl) T.d__law_let.m T.d__law_let.F.kp T.d__law_let.b .nil pass0 (pa_cons pe_str (pa_cons (pv 1) pa_nil))) pa_nil)) (pa_cons pe_bl pa_nil)))) pa_nil)))))
    (pss_cons (ps_set (i := 5) sc__law_within_functions.nd rfl (.inl rfl) (pe_lst (pa_cons (pe_tup (pa_cons pe_str (pa_cons pe_str (pa_cons (pe_lst (pa_cons (pe_tup (pa_cons pe_str pa_nil)) pa_nil)) pa_nil)))) pa_nil)))
    (pss_cons (ps_set (i := 6) sc__law_within_functions.nd rfl (.inl rfl) (pe_lst (pa_cons pe_str (pa_cons (pe_lst (pa_cons (pe_tup (pa_cons pe_str (pa_cons (pv 1) pa_nil))) pa_nil)) (pa_cons (pe_lst pa_nil) pa_nil)))))
    (pss_cons (ps_set (i := 3) sc__law_within_functions.nd rfl (.inl rfl) (pe_op op_cat (pv 3) (pe_lst (pa_cons (pe_lst (pa_cons (pe_lst (pa_cons (pv 6) (pa_cons (pe_lst (pa_cons pe_str (pa_cons (pe_lst pa_nil) (pa_cons (pv 5) pa_nil)))) pa_nil))) (pa_cons (pe_lst pa_nil) (pa_cons pe_bl pa_nil)))) (pa_cons (pe_lst (pa_cons (pe_lst (pa_cons (pe_lst (pa_cons pe_str (pa_cons (pe_lst pa_nil) (pa_cons (pv 5) pa_nil)))) (pa_cons (pv 6) pa_nil))) (pa_cons (pe_lst pa_nil) (pa_cons pe_bl pa_nil)))) pa_nil)))))
    (pss_cons (ps_set (i := 3) sc__law_within_functions.nd rfl (.inl rfl) (pe_op op_cat (pv 3) (pe_lst (pa_cons (pe_lst (pa_cons (pe_lst (pa_cons (pe_lst (pa_cons pe_str (pa_cons (pe_lst (pa_cons (pe_tup (pa_cons pe_str (pa_cons (pv 1) pa_nil))) pa_nil)) (pa_cons (pv 5) pa_nil)))) pa_nil)) (pa_cons (pe_lst pa_nil) (pa_cons pe_bl pa_nil)))) (pa_cons (pe_lst (pa_cons (pe_lst (pa_cons (pv 6) (pa_cons (pe_lst (pa_cons pe_str (pa_cons (pe_lst pa_nil) (pa_cons (pe_lst (pa_cons (pe_tup (pa_cons pe_str (pa_cons pe_str (pa_cons (pe_lst pa_nil) pa_nil)))) pa_nil)) pa_nil)))) pa_nil))) (pa_cons (pe_lst pa_nil) (pa_cons pe_bl pa_nil)))) pa_nil)))))
    (pss_one (ps_ret (pv 3))))))))))))))))), ?_⟩
  walk_at "r"
  refine new_tup (by simp) fun t0 Hz nz ez fz => ?_
  walk_at "r"
  refine ap_draw (bx_ex hb ez) (by decide) fun d H0 v0 v1 k0 hb0 => ?_
  have hd : d = 0 ∨ d = 1 ∨ d = 2 := by omega
  have fz0 := k0 _ _ (by simpa using Ne.symm (bx_nb hb nz)) fz
  walk_at "r"
  refine new_tup (by simp) fun t1 H1 n1 e1 f1 => ?_
  walk_at "r"
  refine new_tup (by simp) fun t2 H2 n2 e2 f2 => ?_
  walk_at "r"
  refine new_tup (by simp) fun t3 H3 n3 e3 f3 => ?_
  with_reducible refine w_name ?_
  with_reducible refine w_seq ?_
  with_reducible refine w_asg ?_
  with_reducible refine w_lst ?_
  with_reducible refine w_nil ?_
  refine new_lst (xs := []) (by simp) fun po H4 n4 e4 f4 => ?_
  have E03 := (e1.trans e2).trans e3
  have O4 := ex_one n4 e4
  obtain ⟨pv, epv⟩ : ∃ pv, pv = V.ref t3 := ⟨_, rfl⟩
  have cn : Cn K H0 H4 po pv (pt d) 0 := {
    e := E03.trans e4
    new := by
      cases z : H0 po with
      | none => rfl
      | some o => rw [E03 _ _ z] at n4; cases n4
    out := ⟨[], [], f4, .nil, (fun d hd => by cases hd), Nat.le_refl _⟩
    put := by
      rw [epv]
      exact dp_ex O4 (.tup (SqT.of f3) (.cons (.str _) (.cons (.tup (SqT.of (e3 _ _ (e2 _ _ f1))) (.cons (.str _) (.cons (.int _) .nil))) (.cons (.tup (SqT.of (e3 _ _ f2)) (.cons (.str _) .nil)) .nil)))) }
  have tD : Dp K (dl [po] H4) (.ref t0) rwT := dp_ex O4 (.tup (SqT.of (E03 _ _ fz0)) (.cons (.str _) .nil))
  rw [← epv]
  with_reducible refine w_name ?_
  with_reducible refine w_seq ?_
  refine w_for ?_
  refine w_iL ?_
  have al := cn.al
  refine run_l (K := K) (S := [po]) (ds := badT) ?_ fun p10 vs10 H10 e10 np10 f10 D10 => ?_
  · repeat walk_at "ev"
  refine r_L (SqL.of f10) ?_
  have l10 := dpa_len D10
  have tD10 := dp_ex (dl_ex e10) tD
  refine lp_list (xs := vs10) (fun k σ h => ∃ po a4, σ = [some (.ref b), some (.ref t0), some pv, some (.ref po), a4, none, none] ∧ p10 ≠ po ∧ h p10 = some (.lst vs10) ∧ DpAll K (dl [po] h) vs10 badT ∧ Dp K (dl [po] h) (.ref t0) rwT ∧ Cn K H0 h po pv (pt d) (0 + 2 * k))
    ⟨po, _, rfl, by simpa using np10, f10, D10, tD10, cn.mono e10⟩ (fun k σ h _ g => by
      obtain ⟨_, _, _, _, g, _⟩ := g
      exact SqL.of g) ?_ ?_
  · rintro k x σ h hx ⟨po, a4, rfl, np, fp, D, tD, cn⟩
    have hk5 : k < 5 := by have := at_lt hx; rw [l10] at this; exact this
    obtain ⟨y, hy, dy⟩ := dpa_at D hx
    have al := cn.al
    obtain ⟨vs, ds, fo, Do, cs, le⟩ := cn.out
    have pD := cn.put
    with_reducible refine w_name ?_
    with_reducible refine w_asg ?_
    refine run_cat (K := K) (es := [wA y, wB y]) (by rfl) fo Do ?_ (by show _ + 2 ≤ 100000; omega) fun l ws h5 e5 E5 n5 f5 D5 => ?_
    · repeat walk_at "ev"
    walk_at "r"
    exact ⟨l, _, rfl, (fun z => by rw [← z, fp] at n5; cases n5), e5 _ _ fp, dpa_ex E5 D, dp_ex E5 tD, cn.cat (k := 2) e5 E5 n5 f5 D5 cs (two_c (case_wA hy) (case_wB hy)) le rfl⟩
  rintro σ h ⟨po, a4, rfl, np, fp, D, tD, cn⟩
  rw [l10] at cn
  have cn : Cn K H0 h po pv (pt d) 10 := cn
  with_reducible refine w_seq ?_
  refine w_for ?_
  refine w_iL ?_
  have al := cn.al
  refine run_l (K := K) (S := [po]) (ds := badS) ?_ fun p11 vs11 H11 e11 np11 f11 D11 => ?_
  · repeat walk_at "ev"
  refine r_L (SqL.of f11) ?_
  have l11 := dpa_len D11
  have tD11 := dp_ex (dl_ex e11) tD
  refine lp_list (xs := vs11) (fun k σ h => ∃ po a4, σ = [some (.ref b), some (.ref t0), some pv, some (.ref po), a4, none, none] ∧ p11 ≠ po ∧ h p11 = some (.lst vs11) ∧ DpAll K (dl [po] h) vs11 badS ∧ Dp K (dl [po] h) (.ref t0) rwT ∧ Cn K H0 h po pv (pt d) (10 + 1 * k))
    ⟨po, _, rfl, by simpa using np11, f11, D11, tD11, cn.mono e11⟩ (fun k σ h _ g => by
      obtain ⟨_, _, _, _, g, _⟩ := g
      exact SqL.of g) ?_ ?_
  · rintro k x σ h hx ⟨po, a4, rfl, np, fp, D, tD, cn⟩
    have hk5 : k < 5 := by have := at_lt hx; rw [l11] at this; exact this
    obtain ⟨y, hy, dy⟩ := dpa_at D hx
    have al := cn.al
    obtain ⟨vs, ds, fo, Do, cs, le⟩ := cn.out
    have pD := cn.put
    walk_at "r"
    refine ⟨a_ty fo, ?_⟩
    refine run_app (K := K) (d := wC d y) fo Do ?_ (by omega) fun ws h7 k7 f7 D7 => ?_
    · repeat walk_at "ev"
    walk_at "r"
    exact ⟨po, _, rfl, np, k7 _ _ (by simpa using np) fp, dpa_ex (dl_ks k7) D, dp_ex (dl_ks k7) tD, cn.app k7 f7 D7 cs (case_wC hd hy) le⟩
  rintro σ h ⟨po, a4, rfl, np, fp, D, tD, cn⟩
  rw [l11] at cn
  have cn : Cn K H0 h po pv (pt d) 15 := cn
  with_reducible refine w_seq ?_
  with_reducible refine w_asg ?_
  have al := cn.al
  have pD := cn.put
  obtain ⟨vs, ds, fo, Do, cs, le⟩ := cn.out
  refine run_cat (K := K) (es := [.list [.list [.list [.str "fa", .list [.tuple [.str "q", rwT]], .list []]], .list [letD (.str "q") rwT], .bool false], .list [.list [.list [.str "fa", .list [], .list []]], .list [letD (.str "fa") rwT], .bool false]]) (by rfl) fo Do ?_ (by show _ + 2 ≤ 100000; omega) fun o20 ws x20 y20 z20 u20 f20 D20 => ?_
  · repeat walk_at "ev"
  have cn := cn.cat (k := 2) y20 z20 u20 f20 D20 cs (two_c case_w1 case_w2) le rfl
  have tD := dp_ex z20 tD
  with_reducible refine w_name ?_
  with_reducible refine w_seq ?_
  with_reducible refine w_asg ?_
  have al := cn.al
  have pD := cn.put
  obtain ⟨vs, ds, fo, Do, cs, le⟩ := cn.out
  refine run_cat (K := K) (es := [.list [.list [.list [.str "fa", .list [], .list [letD (.str "q") rwT]], .list [.str "fb", .list [], .list [letD (.str "q") rwT]]], .list [], .bool false]]) (by rfl) fo Do ?_ (by show _ + 1 ≤ 100000; omega) fun o21 ws x21 y21 z21 u21 f21 D21 => ?_
  · repeat walk_at "ev"
  have cn := cn.cat (k := 1) y21 z21 u21 f21 D21 cs (one_c case_w3) le rfl
  have tD := dp_ex z21 tD
  with_reducible refine w_name ?_
  with_reducible refine w_seq ?_
  with_reducible refine w_asg ?_
  have al := cn.al
  have pD := cn.put
  obtain ⟨vs, ds, fo, Do, cs, le⟩ := cn.out
  refine run_cat (K := K) (es := [.list [.list [.list [.str "fa", .list [.tuple [.str "q", rwT], .tuple [.str "q", rwT]], .list []]], .list [], .bool false], .list [.list [.list [.str "fa", .list [], .list []], .list [.str "fa", .list [], .list []]], .list [], .bool false]]) (by rfl) fo Do ?_ (by show _ + 2 ≤ 100000; omega) fun o22 ws x22 y22 z22 u22 f22 D22 => ?_
  · repeat walk_at "ev"
  have cn := cn.cat (k := 2) y22 z22 u22 f22 D22 cs (two_c case_w4 case_w5) le rfl
  have tD := dp_ex z22 tD
  with_reducible refine w_name ?_
  with_reducible refine w_seq ?_
  with_reducible refine w_asg ?_
  have al := cn.al
  have pD := cn.put
  obtain ⟨vs, ds, fo, Do, cs, le⟩ := cn.out
  refine run_cat (K := K) (es := [.list [.list [.list [.str "fa", .list [.tuple [.str "fa", rwT]], .list []]], .list [], .bool false], .list [.list [.list [.str "fa", .list [.tuple [.str "q", .int 2]], .list []]], .list [letD (.str "z") rwT], .bool false]]) (by rfl) fo Do ?_ (by show _ + 2 ≤ 100000; omega) fun o23 ws x23 y23 z23 u23 f23 D23 => ?_
  · repeat walk_at "ev"
  have cn := cn.cat (k := 2) y23 z23 u23 f23 D23 cs (two_c case_w6 case_w7) le rfl
  have tD := dp_ex z23 tD
  with_reducible refine w_name ?_
  with_reducible refine w_seq ?_
  with_reducible refine w_asg ?_
  have al := cn.al
  have pD := cn.put
  obtain ⟨vs, ds, fo, Do, cs, le⟩ := cn.out
  refine run_cat (K := K) (es := [.list [.list [.list [.str "fa", .list [.tuple [.str "q", .int 2]], .list []]], .list [letD (.str "z") (.int 0)], .bool true], .list [.list [.list [.str "fa", .list [.tuple [.str "q", rwT]], .list [pt d]]], .list [letD (.str "z") rwT], .bool true]]) (by rfl) fo Do ?_ (by show _ + 2 ≤ 100000; omega) fun o24 ws x24 y24 z24 u24 f24 D24 => ?_
  · repeat walk_at "ev"
  have cn := cn.cat (k := 2) y24 z24 u24 f24 D24 cs (two_c case_w8 (case_w9 hd)) le rfl
  have tD := dp_ex z24 tD
  with_reducible refine w_name ?_
  with_reducible refine w_seq ?_
  with_reducible refine w_asg ?_
  have al := cn.al
  refine run_l (K := K) (S := [o24]) (ds := [.tuple [.str "call", .str "fa", .list [.tuple [.str "null"]]]]) ?_ fun l30 ws x30 y30 np30 f30 D30 => ?_
  · repeat walk_at "ev"
  have cn := cn.mono y30
  have tD := dp_ex (dl_ex y30) tD
  have Lc : LsAt K o24 x30 l30 [.tuple [.str "call", .str "fa", .list [.tuple [.str "null"]]]] := ⟨by simpa using np30, ws, f30, D30⟩
  with_reducible refine w_name ?_
  with_reducible refine w_seq ?_
  with_reducible refine w_asg ?_
  have al := cn.al
  refine run_l (K := K) (S := [o24]) (ds := [.str "fa", .list [.tuple [.str "q", rwT]], .list []]) ?_ fun l31 ws x31 y31 np31 f31 D31 => ?_
  · repeat walk_at "ev"
  have cn := cn.mono y31
  have tD := dp_ex (dl_ex y31) tD
  have Lc := Lc.up (dl_ex y31)
  have Lf : LsAt K o24 x31 l31 [.str "fa", .list [.tuple [.str "q", rwT]], .list []] := ⟨by simpa using np31, ws, f31, D31⟩
  with_reducible refine w_name ?_
  with_reducible refine w_seq ?_
  with_reducible refine w_asg ?_
  have al := cn.al
  have pD := cn.put
  obtain ⟨vs, ds, fo, Do, cs, le⟩ := cn.out
  refine run_cat (K := K) (es := [.list [.list [.list [.str "fa", .list [.tuple [.str "q", rwT]], .list []], .list [.str "fb", .list [], .list [.tuple [.str "call", .str "fa", .list [.tuple [.str "null"]]]]]], .list [], .bool true], .list [.list [.list [.str "fb", .list [], .list [.tuple [.str "call", .str "fa", .list [.tuple [.str "null"]]]]], .list [.str "fa", .list [.tuple [.str "q", rwT]], .list []]], .list [], .bool false]]) (by rfl) fo Do ?_ (by show _ + 2 ≤ 100000; omega) fun o25 ws x25 y25 z25 u25 f25 D25 => ?_
  · repeat walk_at "ev"
  have cn := cn.cat (k := 2) y25 z25 u25 f25 D25 cs (two_c case_w10 case_w11) le rfl
  have tD := dp_ex z25 tD
  have Lc := Lc.up z25
  have Lf := Lf.up z25
  with_reducible refine w_name ?_
  with_reducible refine w_seq ?_
  with_reducible refine w_asg ?_
  have al := cn.al
  have pD := cn.put
  obtain ⟨vs, ds, fo, Do, cs, le⟩ := cn.out
  refine run_cat (K := K) (es := [.list [.list [.list [.str "fa", .list [.tuple [.str "q", rwT]], .list [.tuple [.str "call", .str "fa", .list [.tuple [.str "null"]]]]]], .list [], .bool false], .list [.list [.list [.str "fa", .list [.tuple [.str "q", rwT]], .list []], .list [.str "fb", .list [], .list [.tuple [.str "call", .str "fa", .list []]]]], .list [], .bool false]]) (by rfl) fo Do ?_ (by show _ + 2 ≤ 100000; omega) fun o26 ws x26 y26 z26 u26 f26 D26 => ?_
  · repeat walk_at "ev"
  have cn := cn.cat (k := 2) y26 z26 u26 f26 D26 cs (two_c case_w12 case_w13) le rfl
  have tD := dp_ex z26 tD
  have Lc := Lc.up z26
  have Lf := Lf.up z26
  with_reducible refine w_name ?_
  walk_at "r"
  obtain ⟨vs, ds, fo, Do, cs, le⟩ := cn.out
  exact q o26 vs ds x26 (((Ks.of ez).trans k0).trans (Ks.of cn.e)) (bx_ex hb0 cn.e) fo (dpa_ex (dl_le _ _) Do) cs (Nat.le_trans le (by decide))

end
end Ver

set_option Elab.async false
set_option linter.all false
set_option maxRecDepth 100000
set_option maxHeartbeats 4000000
namespace Ver
open PySem PySem.Spec PyProof.Rows L2 Evl
local macro_rules | `(tactic| walk_at "s") => `(tactic| with_reducible first
  | refine w_seq ?_ | refine w_asg ?_ | refine w_name ?_ | refine w_if ?_ | refine w_ret ?_ | refine w_drop ?_ | refine w_next ?_ | refine w_brk ?_ | refine w_cont ?_
  | (refine w_var (v := ?vv) ?hh ?_; (case hh => with_unfolding_all exact rfl))
  | refine w_c ?_ | refine w_op ?_ | refine w_un ?_ | refine w_I0 ?_ | refine w_neg ?_ | refine w_eqI ?_ | refine w_neI ?_ | refine w_eqS ?_ | refine w_neS ?_ | refine w_eqB ?_ | refine w_neB ?_
  | refine w_test ?_ | refine w_B ?_ | refine w_and ?_ | refine w_or ?_ | refine w_not ?_ | refine w_andV ?_ | refine w_orV ?_ | refine w_notV ?_ | refine w_ifE ?_ | refine w_yes ?_
  | refine w_nil ?_ | refine w_cons ?_ | refine w_CB ?_ | refine w_callN ?_ | refine w_BM ?_ | refine w_BMT ?_ | refine w_BM0 ?_ | refine w_noPart ?_ | refine w_part ?_ | refine w_sl ?_ | refine w_tup ?_ | refine w_lst ?_
  | refine w_subG ?_ | refine w_gcons ?_ | refine w_gnil ?_ | refine w_for ?_ | refine w_lc ?_ | refine w_iR1 ?_ | refine w_iR2 ?_ | refine w_iL ?_ | refine w_iT ?_ | refine w_iS ?_
  | (show ∃ k, V.bl _ = V.bl k ∧ _; refine ⟨_, rfl, ?_⟩) | (show ∃ k, V.int _ = V.int k ∧ _; refine ⟨_, rfl, ?_⟩)
  | refine iteT ?_ | refine iteF ?_ | refine iteNT ?_ | refine iteNF ?_ | refine r_S ?_ | refine c_S ?_ | refine a_abs ?_ | refine a_intI ?_ | refine a_intB ?_ | refine w_par ?_ | refine w_dK ?_ | refine w_chain ?_ | (show ∃ v w, [_, _] = [v, w] ∧ _; refine ⟨_, _, rfl, ?_⟩)
  | refine w_getF ?_ | refine w_setF ?_ | refine w_newI ?_ | refine w_callS ?_ | refine w_getD1 ?_ | refine w_putD ?_ | refine w_veI ?_ | refine w_ostI ?_ | refine w_mkO ?_ | refine w_newS ?_ | refine w_xf ?_
  | refine a_isNn ?_ | refine a_isNr ?_ | refine a_notNn ?_ | refine a_notNr ?_ | refine a_isTy ?_ | refine a_notTy ?_ | refine a_isBl ?_ | refine a_notBl ?_)
local macro_rules | `(tactic| walk_at "r") => `(tactic| repeat walk_at "s")
local macro_rules | `(tactic| walk_at "tr") => `(tactic| first
  | assumption
  | (refine ex_at (H := ?H0) ?h1 ?h2; (case h2 => assumption); (case h1 => walk_at "tr"))
  | (refine ks_at (H := ?H0) (S := ?S0) ?h1 ?h2 ?h3; (case h2 => assumption); (case h3 => walk_at "nin"); (case h1 => walk_at "tr")))
local macro_rules | `(tactic| walk_at "nin") => `(tactic| first
  | exact nin_nil | (refine nin_cons ?h1 ?h2; (case h1 => walk_at "ne"); (case h2 => walk_at "nin")))
local macro_rules | `(tactic| walk_at "ne") => `(tactic| first
  | assumption | exact Ne.symm (by assumption)
  | (refine bx_nb (H := ?H0) (r := ?r0) ?h1 ?h2; (case h2 => assumption); (case h1 => walk_at "bx"))
  | (refine bx_nr (H := ?H0) (b := ?b0) ?h1 ?h2; (case h2 => assumption); (case h1 => walk_at "bx"))
  | (refine Ne.symm (bx_nb (H := ?H0) (r := ?r0) ?h1 ?h2); (case h2 => assumption); (case h1 => walk_at "bx"))
  | (refine ne_old (H := ?H0) (o := ?o0) ?h1 ?h2; (case h2 => assumption); (case h1 => walk_at "tr"))
  | (refine Ne.symm (ne_old (H := ?H0) (o := ?o0) ?h1 ?h2); (case h2 => assumption); (case h1 => walk_at "tr"))
  | exact (Tu.ne (by assumption) (by assumption)).1 | exact (Tu.ne (by assumption) (by assumption)).2
  | (refine bx_rb (H := ?H0) ?h1; (case h1 => walk_at "bx")))
local macro_rules | `(tactic| walk_at "tu") => `(tactic| first
  | assumption
  | (refine Tu.ex (H := ?H0) ?h1 ?h2; (case h2 => assumption); (case h1 => walk_at "tu"))
  | (refine Tu.ks (H := ?H0) (S := ?S0) ?h1 ?h2 ?h3; (case h2 => assumption); (case h3 => walk_at "nin"); (case h1 => walk_at "tu")))
local macro_rules | `(tactic| walk_at "bx") => `(tactic| first
  | assumption
  | (refine bx_ex (H := ?H0) ?h1 ?h2; (case h2 => assumption); (case h1 => walk_at "bx"))
  | (refine bx_ks (H := ?H0) (S := ?S0) ?h1 ?h2 ?h3 ?h4; (case h2 => assumption); (case h3 => walk_at "nin"); (case h4 => walk_at "nin"); (case h1 => walk_at "bx")))
local macro_rules | `(tactic| walk_at "sl") => `(tactic| first
  | assumption | (refine SqL.of ?h1; (case h1 => walk_at "tr"))
  | (refine ex_sl (H := ?H0) ?h1 ?h2; (case h2 => assumption); (case h1 => walk_at "sl"))
  | (refine ks_sl (H := ?H0) (S := ?S0) ?h1 ?h2 ?h3; (case h2 => assumption); (case h3 => walk_at "nin"); (case h1 => walk_at "sl")))
local macro_rules | `(tactic| walk_at "st") => `(tactic| first
  | assumption | (refine Tu.st ?h1; (case h1 => walk_at "tu")) | (refine SqT.of ?h1; (case h1 => walk_at "tr"))
  | (refine ex_st (H := ?H0) ?h1 ?h2; (case h2 => assumption); (case h1 => walk_at "st"))
  | (refine ks_st (H := ?H0) (S := ?S0) ?h1 ?h2 ?h3; (case h2 => assumption); (case h3 => walk_at "nin"); (case h1 => walk_at "st")))
local macro_rules | `(tactic| walk_at "ex") => `(tactic| first
  | exact Ex.refl _ | assumption | (refine Ex.trans (H1 := ?H0) ?h1 ?h2; (case h2 => assumption); (case h1 => walk_at "ex")))
local macro_rules | `(tactic| walk_at "ks") => `(tactic| first
  | exact Ks.refl _ _ | assumption | (refine Ks.of ?h1; (case h1 => assumption)) | (refine Ks.trans (H1 := ?H0) ?h1 ?h2; (case h2 => first | assumption | (refine Ks.of ?h3; (case h3 => assumption))); (case h1 => walk_at "ks")))
local macro_rules | `(tactic| walk_at "dp") => `(tactic| first
  | exact Dp.str _ | exact Dp.int _ | exact Dp.bl _ | exact Dp.non | assumption | exact LsAt.dp (by assumption)
  | (refine dp_ex (H := ?H0) ?h1 ?h2; (case h1 => assumption); (case h2 => walk_at "dp")))
local macro_rules | `(tactic| walk_at "ev") => `(tactic| with_reducible first
  | exact ev_nil | refine ev_cons ?_ ?_ | exact ev_str | exact ev_int | exact ev_bl | exact ev_non
  | (refine ev_tup ?hal ?_ ?hle; (case hal => assumption); (case hle => with_unfolding_all exact Nat.le_of_ble_eq_true rfl))
  | (refine ev_ll (ev_lst ?hal ?_ ?hle); (case hal => assumption); (case hle => with_unfolding_all exact Nat.le_of_ble_eq_true rfl))
  | (refine ev_ll (ev_rep (n := ?nn) ?hal ?_ ?he ?hz); (case he => with_unfolding_all exact rfl); (case hal => assumption); (case hz => with_unfolding_all omega))
  | (refine ev_lst ?hal ?_ ?hle; (case hal => assumption); (case hle => with_unfolding_all exact Nat.le_of_ble_eq_true rfl))
  | (refine ev_lt ?he; (case he => with_unfolding_all exact rfl))
  | (refine ev_let ?hal ?_ ?hs; (case hal => assumption); (case hs => with_unfolding_all first | decide +kernel | rfl))
  | (refine ev_var (v := ?vv) ?he ?hd; (case he => with_unfolding_all exact rfl); (case hd => with_unfolding_all walk_at "dp")))

section
variable {P : Program} {w : World} {K : PySem.W.Frag} {mg : Str → Option Value} {base : Heap}
/-- an own error is what a clause of its class catches -/
theorem own_caught {C : Addr} (q1 : PySem.W.subIn K (.ref C) (.type "BaseException") = some true) (q2 : PySem.W.isClsIn K C = true) (q3 : PySem.W.typeIn K (.ref C) = some (.type "type")) (q4 : PySem.W.subIn K (.ref C) (.ref C) = some true) : PySem.W.exmOne K (.ref C) (.ref C) = some true := by
  have q2' : (PySem.W.clsIn K C).isSome = true := q2
  unfold PySem.W.exmOne
  rw [if_pos (by rw [q1]; rfl)]
  show (if ((PySem.W.clsIn K C).isSome && PySem.W.typeIn K (.ref C) == some (.type "type")) = true then PySem.W.subIn K (.ref C) (.ref C) else none) = some true
  rw [if_pos (by rw [q2', q3]; rfl)]
  exact q4

theorem passF {X : Cx} : Passes (L2.CX X.prog X.w) X (fun _ _ _ => False) := fun pins σ H s e s' I c => by
  obtain ⟨_, _, _, _, _, _, _, _, _, _, _, _, z⟩ := c
  exact z.elim
mutual
def ntD : PyData → Bool
  | .list _ => false
  | .tuple ds => ntA ds
  | _ => true
def ntA : List PyData → Bool
  | [] => true
  | d :: ds => ntD d && ntA ds
end
/-- all that is no list is kept -/
def Kt (H H' : Hp) : Prop := ∀ a o, H a = some o → (∀ xs, o ≠ .lst xs) → H' a = some o
theorem Kt.ex {H H' : Hp} (e : Ex H H') : Kt H H' := fun a o h _ => e a o h
theorem Kt.trans {H H1 H2 : Hp} (a : Kt H H1) (b : Kt H1 H2) : Kt H H2 := fun x o h n => b x o (a x o h n) n
theorem Kt.mut {H : Hp} {p : Addr} {xs : List V} {o : HO} (f : H p = some (.lst xs)) : Kt H (upd H p o) := fun a u h n => by
  rw [upd_ne (fun z => by rw [z, f] at h; exact n xs (Option.some.inj h).symm)]
  exact h
theorem st_kt {H H' : Hp} {a : Addr} {xs : List V} (k : Kt H H') (f : SqT K H a xs) : SqT K H' a xs := by
  rcases f with (f | ⟨o, f⟩) | f
  · exact .inl (.inl (k _ _ f (fun _ z => by cases z)))
  · exact .inl (.inr ⟨o, k _ _ f (fun _ z => by cases z)⟩)
  · exact .inr f
mutual
theorem dp_kt {H H' : Hp} (k : Kt H H') : ∀ {v : V} {d : PyData}, Dp K H v d → ntD d = true → Dp K H' v d
  | _, _, .non, _ => .non
  | _, _, .bl x, _ => .bl x
  | _, _, .int i, _ => .int i
  | _, _, .str x, _ => .str x
  | _, _, .lst h t, n => by cases n
  | _, _, .tup h t, n => .tup (st_kt k h) (dpa_kt k t n)
theorem dpa_kt {H H' : Hp} (k : Kt H H') : ∀ {xs : List V} {ds : List PyData}, DpAll K H xs ds → ntA ds = true → DpAll K H' xs ds
  | _, _, .nil, _ => .nil
  | _, _, .cons h t, n => by
    have n' := (Bool.and_eq_true _ _ ▸ n : _ ∧ _)
    exact .cons (dp_kt k h n'.1) (dpa_kt k t n'.2)
end
abbrev qT : PyData := .tuple [.str "q", .tuple [.str "rw"]]
abbrev bT (d : Int) : PyData := .tuple [.str "put", .tuple [.str "q", .int 0], .tuple [.str "number", .int d]]
abbrev f0 (d : Int) : FD := ⟨.str "fa", [qT], [bT d]⟩
theorem prog_f0 {d : Int} (h0 : 0 ≤ d) (h1 : d < 1000) : progD [f0 d] [] = true := by
  have all : ∀ n ∈ List.range 1000, progD [f0 (n : Int)] [] = true := by decide +kernel
  have := all d.toNat (List.mem_range.mpr (by omega))
  rwa [Int.toNat_of_nonneg h0] at this
abbrev kT (d : Int) : PyData := .list [.list [qT], .list [bT d]]
abbrev lT (d : Int) : PyData := .list [.str "fa", .list [qT], .list [bT d]]
theorem eqv_k {d : Int} (h0 : 0 ≤ d) (h1 : d < 1000) : (SeqAt.shaped (kT d) && PyData.eqv (kT d) (kT d)) = true ∧ (SeqAt.shaped (lT d) && PyData.eqv (lT d) (lT d)) = true := by
  have all : ∀ n ∈ List.range 1000, (SeqAt.shaped (kT (n : Int)) && PyData.eqv (kT (n : Int)) (kT (n : Int))) = true ∧ (SeqAt.shaped (lT (n : Int)) && PyData.eqv (lT (n : Int)) (lT (n : Int))) = true := by decide +kernel
  have := all d.toNat (List.mem_range.mpr (by omega))
  rwa [Int.toNat_of_nonneg h0] at this
def spLaw (K : PySem.W.Frag) : Sp := fun vs H Q _ => ∃ (a : Addr) (ns : List Int), vs = [.ref a] ∧ SqL K H a (ns.map V.int) ∧ ns.length ≤ 63 ∧ ∀ H', Q (.bl true) H'
theorem ok_law {f : Addr} {fd : FuncData} (T : Tx K mg) (F : Fun K "law" "law" s_law f fd) : FnOk P w K mg base CX0 12 f fd ["script"] (spLaw K) := by
  refine F.ok sc_law (fun vs H Q E h => ?_) (fun cdv A outer s H vs Q E hr h => ?_)
  · obtain ⟨a, ns, rfl, _⟩ := h
    rfl
  obtain ⟨a, ns, rfl, hL, hz, q⟩ := h
  refine ⟨_, (pss_cons (ps_set (i := 1) sc_law.nd rfl (.inl rfl) (pe_lst (pa_cons (pe_call (ok__law_row T) (hr.mono (by omega)) (by rfl) T.d__law_row.m T.d__law_row.F.kp T.d__law_row.b .nil pass0 (pa_cons (pv 0) (pa_cons pe_int (pa_cons pe_int pa_nil)))) (pa_cons pe_int pa_nil))))
    (pss_cons (ps_for PassesOwn.never rfl (plK K (pe_op op_cat (pe_call (ok__law_counts T) (hr.mono (by omega)) (by rfl) T.d__law_counts.m T.d__law_counts.F.kp T.d__law_counts.b .nil pass0 (pa_cons (pv 1) pa_nil)) (pe_call (ok__law_within_functions T) (hr.mono (by omega)) (by rfl) T.d__law_within_functions.m T.d__law_within_functions.F.kp T.d__law_within_functions.b .nil pass0 (pa_cons (pv 1) pa_nil)))) (pg_lst rfl (pgs_cons (pg_name (i := 2) sc_law.nd rfl (.inl rfl)) (pgs_cons (pg_name (i := 3) sc_law.nd rfl (.inl rfl)) (pgs_cons (pg_name (i := 4) sc_law.nd rfl (.inl rfl)) pgs_nil)))) (pss_cons (ps_set (i := 5) sc_law.nd rfl (.inl rfl) (pe_call (ok__law_accepts T) (hr.mono (by omega)) (by rfl) T.d__law_accepts.m T.d__law_accepts.F.kp T.d__law_accepts.b .nil pass0 (pa_cons (pv 2) (pa_cons (pv 3) pa_nil))))
    (pss_one (ps_if (PW.pt (pw_or (pt_not (pt_val (pe_callB (isiK K) (by rfl) T.b_isinstance (by decide +kernel) (pa_cons (pv 5) (pa_cons (pe_bltn (v := .ty "bool") (by rfl) T.b_bool (by decide +kernel) rfl) pa_nil))))) (pw_or1 (pt_cmpR op_ne (pv 5) (pv 4) (nomark _))))) (pss_one (ps_ret pe_bl)) pss_nil))))
    (pss_cons (ps_set (i := 6) sc_law.nd rfl (.inl rfl) (pe_lst (pa_cons (pe_tup (pa_cons pe_str (pa_cons (pe_tup (pa_cons pe_str pa_nil)) pa_nil))) pa_nil)))
    (pss_cons (ps_set (i := 7) sc_law.nd rfl (.inl rfl) (pe_lst (pa_cons (pe_tup (pa_cons pe_str (pa_cons (pe_tup (pa_cons pe_str (pa_cons pe_int pa_nil))) (pa_cons (pe_tup (pa_cons pe_str (pa_cons (pe_call (ok__law_draw T) (hr.mono (by omega)) (by rfl) T.d__law_draw.m T.d__law_draw.F.kp T.d__law_draw.b .nil pass0 (pa_cons (pv 1) (pa_cons pe_int pa_nil))) pa_nil))) pa_nil)))) pa_nil)))
    (pss_cons (ps_set (i := 8) sc_law.nd rfl (.inl rfl) (pe_lst (pa_cons (pe_callTy (lstK K) (by rfl) T.b_list (by decide +kernel) (pa_cons (pv 6) pa_nil)) (pa_cons (pe_callTy (lstK K) (by rfl) T.b_list (by decide +kernel) (pa_cons (pv 7) pa_nil)) pa_nil))))
    (pss_cons (ps_set (i := 9) sc_law.nd rfl (.inl rfl) (pe_make T.k_Function (ok_Function_init T) (hr.mono (by omega)) (by rfl) T.g_Function T.d_Function_init.b .nil pass0 (pa_cons pe_str (pa_cons (pv 6) (pa_cons (pv 7) pa_nil)))))
    (pss_cons (ps_set (i := 10) sc_law.nd rfl (.inl rfl) (pe_make T.k_Program (ok_Program_init T) (hr.mono (by omega)) (by rfl) T.g_Program T.d_Program_init.b .nil passF (pa_cons (pe_lst (pa_cons (pv 9) pa_nil)) (pa_cons (pe_lst pa_nil) pa_nil))))
    (pss_cons (ps_expr (pe_bm PySem.F.plainAttrs_list PySem.F.slot_list_append PySem.F.type_list_append mt_append (pv 6) (pa_cons (pe_tup (pa_cons pe_str (pa_cons (pe_tup (pa_cons pe_str pa_nil)) pa_nil))) pa_nil)))
    (pss_cons (ps_expr (pe_bm PySem.F.plainAttrs_list PySem.F.slot_list_append PySem.F.type_list_append mt_append (pv 7) (pa_cons (pe_tup (pa_cons pe_str (pa_cons (pe_tup (pa_cons pe_str (pa_cons pe_int pa_nil))) (pa_cons (pe_tup (pa_cons pe_str pa_nil)) pa_nil)))) pa_nil)))
    (pss_cons (ps_if (pt_cmpR (neDK K hr.units) (pe_lst (pa_cons (by exact (fldK K (pv 9) rfl)) (pa_cons (by exact (fldK K (pv 9) rfl)) pa_nil))) (pv 8) (nomark _)) (pss_one (ps_ret pe_bl)) pss_nil)
    (pss_cons (ps_expr (pe_bm PySem.F.plainAttrs_list PySem.F.slot_list_append PySem.F.type_list_append mt_append (by exact (fldK K (pv 9) rfl)) (pa_cons (pe_tup (pa_cons pe_str (pa_cons (pe_tup (pa_cons pe_str pa_nil)) pa_nil))) pa_nil)))
    (pss_cons (ps_expr (pe_bm PySem.F.plainAttrs_list PySem.F.slot_list_append PySem.F.type_list_append mt_append (by exact (fldK K (pv 9) rfl)) (pa_cons (pe_tup (pa_cons pe_str (pa_cons (pe_tup (pa_cons pe_str (pa_cons pe_int pa_nil))) (pa_cons (pe_tup (pa_cons pe_str pa_nil)) pa_nil)))) pa_nil)))
    (pss_one (ps_ret (pe_cmpR (eqDK K hr.units) (pe_lst (pa_cons (by exact (fldK K (pe_ix (ixL K) (by exact (fldK K (pv 10) rfl)) pe_int (fun _ _ => rfl)) rfl)) (pa_cons (by exact (fldK K (pe_ix (ixL K) (by exact (fldK K (pv 10) rfl)) pe_int (fun _ _ => rfl)) rfl)) (pa_cons (by exact (fldK K (pe_ix (ixL K) (by exact (fldK K (pv 10) rfl)) pe_int (fun _ _ => rfl)) rfl)) pa_nil)))) (pe_op op_cat (pe_lst (pa_cons pe_str pa_nil)) (pv 8)) (nomark _)))))))))))))))), ?_⟩
  walk_at "r"
  refine ⟨a, ns, 20, rfl, hL, by omega, by omega, fun r H1 rs n1 e1 f1 z1 => ?_⟩
  walk_at "r"
  refine new_lst (by simp) fun b H2 n2 e2 f2 => ?_
  have hb : Bx H2 b r := ⟨0, rs, f2, e2 _ _ f1, z1⟩
  walk_at "r"
  refine ⟨b, r, rfl, hb, fun p1 vs1 ds1 H3 k3 hb3 f3 D3 c3 l3 => ?_⟩
  walk_at "r"
  refine ⟨b, r, rfl, hb3, fun p2 vs2 ds2 H4 k4 hb4 f4 D4 c4 l4 => ?_⟩
  walk_at "r"
  have np : p1 ≠ b := by
    rintro rfl
    obtain ⟨n, nn, g, _⟩ := hb3
    rw [g] at f3
    cases f3
    match ds1, D3, c3 with
    | [_, _], .cons _ (.cons h2 .nil), c3 =>
      cases h2
      obtain ⟨_, _, _, e, _⟩ := c3 (.int n) (by simp)
      cases e
  refine a_cat (k4 _ _ (by simpa using np) f3) f4 (by rw [dpa_len D3, dpa_len D4]; omega) fun l H5 n5 e5 f5 => ?_
  have D5 : DpAll K H5 (vs1 ++ vs2) (ds1 ++ ds2) := dpa_ex e5 (dpa_app (dpa_nb hb3 k4 D3 (case_nb c3)) D4)
  have c5 : ∀ d ∈ ds1 ++ ds2, Case d := fun d hd => (List.mem_append.mp hd).elim (c3 d) (c4 d)
  walk_at "r"
  refine r_L (SqL.of f5) ?_
  refine lp_list (xs := vs1 ++ vs2) (fun k σ h => (∃ x2 x3 x4 x5, σ = [some (.ref a), some (.ref b), x2, x3, x4, x5, none, none, none, none, none]) ∧ Ex H5 h) ⟨⟨_, _, _, _, rfl⟩, Ex.refl _⟩ (fun k σ h _ g => SqL.of (g.2 _ _ f5)) ?_ ?_
  · rintro k x σ h hx ⟨⟨x2, x3, x4, x5, rfl⟩, e⟩
    obtain ⟨d, hd, dx⟩ := dpa_at D5 hx
    obtain ⟨fs, ss, due, rfl, sn, pr⟩ := c5 d (List.mem_of_getElem? hd)
    have sn' := (Bool.and_eq_true _ _ ▸ sn : smD (.list [.list (fs.map fdat), .list ss, .bool due]) = true ∧ _)
    obtain ⟨p, xs, _, rfl, eD, hL3, hD3, hm, _, hl⟩ := ds_lst (⟨dp_ex e dx, sn'.1⟩ : Ds K h x _) rfl
    cases eD
    obtain ⟨u, v, w, rfl, d1, d2, d3⟩ := dpa_three hD3
    cases d3
    refine ⟨p, _, rfl, hL3, rfl, ?_⟩
    walk_at "r"
    refine ⟨u, v, fs, ss, rfl, ⟨d1, sm_at (i := 0) hm rfl⟩, ⟨d2, sm_at (i := 1) hm rfl⟩, fun H6 e6 => ?_⟩
    walk_at "r"
    refine ⟨.bl (progD fs ss), .ty "bool", .type "bool", .type "bool", true, rfl, .ty "bool", .base (.bl _), kit_self, ?_⟩
    walk_at "r"
    rw [pr]
    refine ite2 (fun c => ?_) (fun c => ?_)
    · cases due <;> cases c
    walk_at "r"
    exact ⟨⟨_, _, _, _, rfl⟩, e.trans e6⟩
  rintro σ h ⟨⟨x2, x3, x4, x5, rfl⟩, e⟩
  have hb5 : Bx h b r := bx_ex (bx_ex hb4 e5) e
  walk_at "r"
  refine new_tup (by simp) fun t1 Ha na ea fa => ?_
  walk_at "r"
  refine new_tup (by simp) fun t2 Hb nb eb fb => ?_
  walk_at "r"
  refine new_lst (by simp) fun pp Hc nc ec fc => ?_
  walk_at "r"
  refine new_tup (by simp) fun t3 Hd nd ed fd => ?_
  walk_at "r"
  have hbd : Bx Hd b r := bx_ex (bx_ex (bx_ex (bx_ex hb5 ea) eb) ec) ed
  refine ap_draw hbd (by decide) fun d He d0 d1 ke hbe => ?_
  walk_at "r"
  refine new_tup (by simp) fun t4 Hf nf ef ff => ?_
  walk_at "r"
  refine new_tup (by simp) fun t5 Hg ng eg fg => ?_
  walk_at "r"
  refine new_lst (by simp) fun bb Hh nh eh fh => ?_
  have gpp : Hh pp = some (.lst [.ref t2]) := by walk_at "tr"
  have g1 : Hh t1 = some (.tup [.str "rw"]) := by walk_at "tr"
  have g2 : Hh t2 = some (.tup [.str "q", .ref t1]) := by walk_at "tr"
  have g3 : Hh t3 = some (.tup [.str "q", .int 0]) := by walk_at "tr"
  have g4 : Hh t4 = some (.tup [.str "number", .int d]) := by walk_at "tr"
  have g5 : Hh t5 = some (.tup [.str "put", .ref t3, .ref t4]) := by walk_at "tr"
  have dq : Dp K Hh (.ref t2) qT := .tup (SqT.of g2) (.cons (.str _) (.cons (.tup (SqT.of g1) (.cons (.str _) .nil)) .nil))
  have db : Dp K Hh (.ref t5) (bT d) := .tup (SqT.of g5) (.cons (.str _) (.cons (.tup (SqT.of g3) (.cons (.str _) (.cons (.int _) .nil))) (.cons (.tup (SqT.of g4) (.cons (.str _) (.cons (.int _) .nil))) .nil)))
  have npb : pp ≠ bb := ne_old (show Hg pp = some (.lst [.ref t2]) by walk_at "tr") nh
  walk_at "r"
  refine a_lstL (SqL.of gpp) fun k1 Hi ni ei fi => ?_
  walk_at "r"
  refine a_lstL (SqL.of (ei _ _ fh)) fun k2 Hj nj ej fj => ?_
  walk_at "r"
  refine new_lst (by simp) fun kk Hk nk ek fk => ?_
  walk_at "r"
  have ehk := (ei.trans ej).trans ek
  refine a_new fun y dy Hm m1 m2 m3 em fy fdy => ?_
  have N := ex_two m1 m2 em
  refine ⟨[y, dy], y, dy, .str "fa", pp, bb, f0 d, rfl, (Al.nil.cons fdy).cons fy, List.mem_cons_self .., fy, ⟨.str _, rfl⟩, ⟨⟨[.ref t2], SqL.of (N _ _ (ehk _ _ gpp)), .cons (dp_ex (ehk.trans N) dq) .nil⟩, rfl, Nat.le_of_ble_eq_true rfl⟩, ⟨⟨[.ref t5], SqL.of (N _ _ (ehk _ _ fh)), .cons (dp_ex (ehk.trans N) db) .nil⟩, rfl, Nat.le_of_ble_eq_true rfl⟩, fun q1 q2 ys1 ys2 Hn kn u1 u2 nq c0 c1 c2 B1 B2 => ⟨rfl, ?_⟩⟩
  have ekn : Ex Hk Hn := fun a o z => kn a o (fun c => by rw [List.mem_singleton] at c; rw [c, m1] at z; cases z) (em a o z)
  have B1n := dpa_ex (dl_le [y, dy] Hn) B1
  have B2n := dpa_ex (dl_le [y, dy] Hn) B2
  walk_at "r"
  refine new_lst (by simp) fun pf Ho no eo fo => ?_
  walk_at "r"
  refine new_lst (xs := []) (by simp) fun ps Hp np2 ep fp => ?_
  walk_at "r"
  refine a_new fun z dz Hq v1 v2 v3 eq fz fdz => ?_
  have M := ex_two v1 v2 eq
  have enp := eo.trans ep
  have NF : FnAt K T.C_Function (dl [z, dz] Hq) y (f0 d) := ⟨dy, .str "fa", q1, q2, M _ _ (enp _ _ c0), ⟨.str _, rfl⟩, ⟨⟨ys1, M _ _ (enp _ _ c1), dpa_ex (enp.trans M) B1n⟩, rfl, Nat.le_of_ble_eq_true rfl⟩, ⟨⟨ys2, M _ _ (enp _ _ c2), dpa_ex (enp.trans M) B2n⟩, rfl, Nat.le_of_ble_eq_true rfl⟩⟩
  refine ⟨[z, dz], z, dz, pf, ps, [.ref y], [f0 d], [], rfl, (Al.nil.cons fdz).cons fz, List.mem_cons_self .., fz, SqL.of (M _ _ (ep _ _ fo)), .cons NF .nil, Nat.le_of_ble_eq_true rfl, ⟨⟨[], SqL.of (M _ _ fp), .nil⟩, rfl, by decide⟩, fun _ r1 r2 ws1 ws2 Hr kr w1 w2 g0 h1 A nw h2 _ => ⟨rfl, ?_⟩, fun c => by rw [prog_f0 d0 d1] at c; cases c⟩
  obtain ⟨v, rfl, Av⟩ : ∃ v, ws1 = [.ref v] ∧ FnAt K T.C_Function (dl [z, dz] Hr) v (f0 d) := by
    cases A with
    | cons h t =>
      cases t
      exact ⟨_, rfl, h⟩
  obtain ⟨dv, nv, s1, s2, gv, hn, hs1, hs2⟩ := Av.ex
  cases dp_str hn.1
  obtain ⟨zs1, gs1, Z1⟩ := hs1.ex
  obtain ⟨zs2, gs2, Z2⟩ := hs2.ex
  have R := dl_le [z, dz] Hr
  replace gv := R _ _ gv
  replace gs1 := R _ _ gs1
  replace gs2 := R _ _ gs2
  replace Z1 := dpa_ex R Z1
  replace Z2 := dpa_ex R Z2
  obtain ⟨v', dv', nv', s1', s2', x0, x1, x2', x3', x4'⟩ := nw (.ref v) (by simp)
  cases x0
  rw [gv] at x2'
  have ef : fnF (.str "fa") s1 s2 = fnF nv' s1' s2' := by injection Option.some.inj x2'
  have es1 : s1 = s1' := by
    have := congrArg (fun l => List.lookup ("params" : Str) l) ef
    simp only [fn_params] at this
    injection Option.some.inj this
  have es2 : s2 = s2' := by
    have := congrArg (fun l => List.lookup ("body" : Str) l) ef
    simp only [fn_body] at this
    injection Option.some.inj this
  subst es1 es2
  have epr : Ex Hp Hr := fun a o zz => kr a o (fun c => by rw [List.mem_singleton] at c; rw [c, v1] at zz; cases zz) (eq a o zz)
  clear nw ef x2' Av A hs1 hs2 NF
  walk_at "r"
  have ehr : Ex Hh Hr := ((ehk.trans ekn).trans enp).trans epr
  have bpp : Hr pp = some (.lst [.ref t2]) := ehr _ _ gpp
  have bbb : Hr bb = some (.lst [.ref t5]) := ehr _ _ fh
  have bkk : Hr kk = some (.lst [.ref k1, .ref k2]) := epr _ _ (enp _ _ (ekn _ _ fk))
  have bk1 : Hr k1 = some (.lst [.ref t2]) := epr _ _ (enp _ _ (ekn _ _ (ek _ _ (ej _ _ fi))))
  have bk2 : Hr k2 = some (.lst [.ref t5]) := epr _ _ (enp _ _ (ekn _ _ (ek _ _ fj)))
  have bq1 : Hr q1 = some (.lst ys1) := epr _ _ (enp _ _ c1)
  have bq2 : Hr q2 = some (.lst ys2) := epr _ _ (enp _ _ c2)
  have by' : Hr y = some (.ins T.C_Function dy (fnF (.str "fa") q1 q2)) := epr _ _ (enp _ _ c0)
  have dqr := dp_ex ehr dq
  have dbr := dp_ex ehr db
  have B1r := dpa_ex (enp.trans epr) B1n
  have B2r := dpa_ex (enp.trans epr) B2n
  have hpk : ∀ {p : Addr} {o : HO}, Hk p = some o → p ≠ q1 ∧ p ≠ q2 ∧ p ≠ y := fun {p o} g => ⟨ne_old (em _ _ g) u1, ne_old (em _ _ g) u2, ne_old g m1⟩
  have qpp := hpk (ehk _ _ gpp)
  have qbb := hpk (ehk _ _ fh)
  have qkk := hpk fk
  have qk1 := hpk (ek _ _ (ej _ _ fi))
  have qk2 := hpk (ek _ _ fj)
  have kpp : k1 ≠ pp ∧ k2 ≠ pp ∧ kk ≠ pp := ⟨(ne_old gpp ni).symm, (ne_old (ei _ _ gpp) nj).symm, (ne_old (ej _ _ (ei _ _ gpp)) nk).symm⟩
  have kbb : k1 ≠ bb ∧ k2 ≠ bb ∧ kk ≠ bb := ⟨(ne_old fh ni).symm, (ne_old (ei _ _ fh) nj).symm, (ne_old (ej _ _ (ei _ _ fh)) nk).symm⟩
  have yq1 : y ≠ q1 := ne_old fy u1
  have yq2 : y ≠ q2 := ne_old fy u2
  have hpp' : Hp pp = some (.lst [.ref t2]) := enp _ _ (ekn _ _ (ehk _ _ gpp))
  have hbb' : Hp bb = some (.lst [.ref t5]) := enp _ _ (ekn _ _ (ehk _ _ fh))
  have new4 : ∀ {p : Addr}, Hp p = none → p ≠ pp ∧ p ≠ bb ∧ p ≠ q1 ∧ p ≠ q2 := fun {p} n => ⟨(ne_old hpp' n).symm, (ne_old hbb' n).symm, (ne_old (enp _ _ c1) n).symm, (ne_old (enp _ _ c2) n).symm⟩
  have ns1 := new4 (ex_none eq x3')
  have ns2 := new4 (ex_none eq x4')
  have nv' := new4 (ex_none eq x1)
  have nz := new4 v1
  have nr1 := new4 (ex_none eq w1)
  refine ⟨a_ty bpp, ?_⟩
  walk_at "r"
  refine new_tup (by simp) fun t6 Hs n6 es f6 => ?_
  walk_at "r"
  refine new_tup (by simp) fun t7 Ht n7 et f7 => ?_
  walk_at "r"
  refine a_app (et _ _ (es _ _ bpp)) (by simp) ?_
  have kA : Ks [pp] Hr (upd Ht pp (.lst ([.ref t2] ++ [.ref t7]))) := (Ks.of (es.trans et)).upd (by simp)
  have tA : Kt Hr (upd Ht pp (.lst ([.ref t2] ++ [.ref t7]))) := (Kt.ex (es.trans et)).trans (Kt.mut (et _ _ (es _ _ bpp)))
  generalize upd Ht pp (.lst ([.ref t2] ++ [.ref t7])) = Hu at kA tA ⊢
  walk_at "r"
  have ubb : Hu bb = some (.lst [.ref t5]) := kA _ _ (by simpa using npb.symm) bbb
  refine ⟨a_ty ubb, ?_⟩
  walk_at "r"
  refine new_tup (by simp) fun t8 Hs2 n8 es2 f8 => ?_
  walk_at "r"
  refine new_tup (by simp) fun t9 Ht2 n9 et2 f9 => ?_
  walk_at "r"
  refine new_tup (by simp) fun t10 Ht3 n10 et3 f10 => ?_
  have e3 := (es2.trans et2).trans et3
  walk_at "r"
  refine a_app (e3 _ _ ubb) (by simp) ?_
  have kB : Ks [bb] Hu (upd Ht3 bb (.lst ([.ref t5] ++ [.ref t10]))) := (Ks.of e3).upd (by simp)
  have tB : Kt Hu (upd Ht3 bb (.lst ([.ref t5] ++ [.ref t10]))) := (Kt.ex e3).trans (Kt.mut (e3 _ _ ubb))
  generalize upd Ht3 bb (.lst ([.ref t5] ++ [.ref t10])) = Hx at kB tB ⊢
  have tX := tA.trans tB
  have kX : ∀ {p : Addr} {o : HO}, p ≠ pp → p ≠ bb → Hr p = some o → Hx p = some o := fun {p o} n m g => kB _ _ (by simpa using m) (kA _ _ (by simpa using n) g)
  walk_at "r"
  have xy := kX qpp.2.2.symm qbb.2.2.symm by'
  have xq1 := kX qpp.1.symm qbb.1.symm bq1
  have xq2 := kX qpp.2.1.symm qbb.2.1.symm bq2
  have xkk := kX kpp.2.2 kbb.2.2 bkk
  have xk1 := kX kpp.1 kbb.1 bk1
  have xk2 := kX kpp.2.1 kbb.2.1 bk2
  refine a_get T.c_Function T.n_Function_params xy (fn_params _ _ _) ?_
  walk_at "r"
  refine a_get T.c_Function T.n_Function_body xy (fn_body _ _ _) ?_
  walk_at "r"
  refine new_lst (by simp) fun l1 Hy ny ey fy1 => ?_
  walk_at "r"
  have ev := eqv_k d0 d1
  have ev1 := (Bool.and_eq_true _ _ ▸ ev.1 : _ ∧ _)
  have ev2 := (Bool.and_eq_true _ _ ▸ ev.2 : _ ∧ _)
  have tY := tX.trans (Kt.ex ey)
  refine ⟨kT d, kT d, .lst (SqL.of fy1) (.cons (.lst (SqL.of (ey _ _ xq1)) (dpa_kt tY B1r rfl)) (.cons (.lst (SqL.of (ey _ _ xq2)) (dpa_kt tY B2r rfl)) .nil)), .lst (SqL.of (ey _ _ xkk)) (.cons (.lst (SqL.of (ey _ _ xk1)) (.cons (dp_kt tY dqr rfl) .nil)) (.cons (.lst (SqL.of (ey _ _ xk2)) (.cons (dp_kt tY dbr rfl) .nil)) .nil)), ev1.1, ev1.1, ?_⟩
  rw [ev1.2]
  walk_at "r"
  refine a_get T.c_Function T.n_Function_params (ey _ _ xy) (fn_params _ _ _) ?_
  walk_at "r"
  refine ⟨a_ty (ey _ _ xq1), ?_⟩
  walk_at "r"
  refine new_tup (by simp) fun t11 Hz1 n11 e11 f11 => ?_
  walk_at "r"
  refine new_tup (by simp) fun t12 Hz2 n12 e12 f12 => ?_
  have e6 := e11.trans e12
  have yl1 : ys1.length < 100000 := by rw [dpa_len B1]; exact Nat.lt_of_succ_le (Nat.le_of_ble_eq_true rfl)
  have yl2 : ys2.length < 100000 := by rw [dpa_len B2]; exact Nat.lt_of_succ_le (Nat.le_of_ble_eq_true rfl)
  walk_at "r"
  refine a_app (e6 _ _ (ey _ _ xq1)) yl1 ?_
  have kC : Ks [q1] Hy (upd Hz2 q1 (.lst (ys1 ++ [.ref t12]))) := (Ks.of e6).upd (by simp)
  have tC : Kt Hy (upd Hz2 q1 (.lst (ys1 ++ [.ref t12]))) := (Kt.ex e6).trans (Kt.mut (e6 _ _ (ey _ _ xq1)))
  generalize upd Hz2 q1 (.lst (ys1 ++ [.ref t12])) = Hz3 at kC tC ⊢
  walk_at "r"
  have zy := kC _ _ (by simpa using yq1) (ey _ _ xy)
  have zq2 := kC _ _ (by simpa using nq.symm) (ey _ _ xq2)
  refine a_get T.c_Function T.n_Function_body zy (fn_body _ _ _) ?_
  walk_at "r"
  refine ⟨a_ty zq2, ?_⟩
  walk_at "r"
  refine new_tup (by simp) fun t13 Hw1 n13 e13 f13 => ?_
  walk_at "r"
  refine new_tup (by simp) fun t14 Hw2 n14 e14 f14 => ?_
  walk_at "r"
  refine new_tup (by simp) fun t15 Hw3 n15 e15 f15 => ?_
  have e7 := (e13.trans e14).trans e15
  walk_at "r"
  refine a_app (e7 _ _ zq2) yl2 ?_
  have kD : Ks [q2] Hz3 (upd Hw3 q2 (.lst (ys2 ++ [.ref t15]))) := (Ks.of e7).upd (by simp)
  have tD : Kt Hz3 (upd Hw3 q2 (.lst (ys2 ++ [.ref t15]))) := (Kt.ex e7).trans (Kt.mut (e7 _ _ zq2))
  generalize upd Hw3 q2 (.lst (ys2 ++ [.ref t15])) = Hw at kD tD ⊢
  have tW := (tY.trans tC).trans tD
  have kW : ∀ {p : Addr} {o : HO}, p ≠ pp → p ≠ bb → p ≠ q1 → p ≠ q2 → Hr p = some o → Hw p = some o := fun {p o} n1 n2 n3 n4 g => kD _ _ (by simpa using n4) (kC _ _ (by simpa using n3) (ey _ _ (kX n1 n2 g)))
  have yz := kW nz.1 nz.2.1 nz.2.2.1 nz.2.2.2 g0
  have yr1 := kW nr1.1 nr1.2.1 nr1.2.2.1 nr1.2.2.2 h1
  have yv := kW nv'.1 nv'.2.1 nv'.2.2.1 nv'.2.2.2 gv
  have yz1 := kW ns1.1 ns1.2.1 ns1.2.2.1 ns1.2.2.2 gs1
  have yz2 := kW ns2.1 ns2.2.1 ns2.2.2.1 ns2.2.2.2 gs2
  have ykk := kW kpp.2.2 kbb.2.2 qkk.1 qkk.2.1 bkk
  have yk1 := kW kpp.1 kbb.1 qk1.1 qk1.2.1 bk1
  have yk2 := kW kpp.2.1 kbb.2.1 qk2.1 qk2.2.1 bk2
  walk_at "r"
  refine a_get T.c_Program T.n_Program_functions yz (pg_fns _ _) ?_
  walk_at "r"
  refine a_ixL (SqL.of yr1) rfl ?_
  walk_at "r"
  refine a_get T.c_Function T.n_Function_name yv (fn_name _ _ _) ?_
  walk_at "r"
  refine a_get T.c_Program T.n_Program_functions yz (pg_fns _ _) ?_
  walk_at "r"
  refine a_ixL (SqL.of yr1) rfl ?_
  walk_at "r"
  refine a_get T.c_Function T.n_Function_params yv (fn_params _ _ _) ?_
  walk_at "r"
  refine a_get T.c_Program T.n_Program_functions yz (pg_fns _ _) ?_
  walk_at "r"
  refine a_ixL (SqL.of yr1) rfl ?_
  walk_at "r"
  refine a_get T.c_Function T.n_Function_body yv (fn_body _ _ _) ?_
  walk_at "r"
  refine new_lst (by simp) fun l2 HA nA eA fA => ?_
  walk_at "r"
  refine new_lst (by simp) fun l3 HB nB eB fB => ?_
  walk_at "r"
  have eAB := eA.trans eB
  refine a_cat fB (eAB _ _ ykk) (by simp) fun l4 HC nC eC fC => ?_
  have eAC := eAB.trans eC
  walk_at "r"
  have tV := tW.trans (Kt.ex eAC)
  refine ⟨lT d, lT d, .lst (SqL.of ((eB.trans eC) _ _ fA)) (.cons (.str _) (.cons (.lst (SqL.of (eAC _ _ yz1)) (dpa_kt tV Z1 rfl)) (.cons (.lst (SqL.of (eAC _ _ yz2)) (dpa_kt tV Z2 rfl)) .nil))), .lst (SqL.of fC) (.cons (.str _) (.cons (.lst (SqL.of (eAC _ _ yk1)) (.cons (dp_kt tV dqr rfl) .nil)) (.cons (.lst (SqL.of (eAC _ _ yk2)) (.cons (dp_kt tV dbr rfl) .nil)) .nil))), ev2.1, ev2.1, ?_⟩
  rw [ev2.2]
  walk_at "r"
  exact q _

end
theorem all_mk {l : PySem.W.OpenLaw} {w : World} {K : PySem.W.Frag} {h : Heap} {mg : Str → Option Value} {fa : Addr} (X : K.In h) (G : h.Ns mainGlobals mg) (hfa : mg "law" = some (.ref fa))
    {C_RightsError : Addr}
    {nm_RightsError qn_RightsError : Str} {N_RightsError : Addr} {bs_RightsError : List Value} {sn_RightsError : List Str} {sub_RightsError : List Value} {ab_RightsError : Bool} {col_RightsError : Option Bool} {dd_RightsError : Option Addr} {m0_RightsError m1_RightsError m2_RightsError m3_RightsError m5_RightsError : Option Value}
    {C_Function : Addr}
    {C_Program : Addr}
    (aC_RightsError : PySem.W.nsIn K mainGlobals "RightsError" = some (some (.ref C_RightsError)))
    (n_RightsError_reason : PySem.W.findIn K (.ref C_RightsError) "reason" = some none)
    (xL_RightsError : K.lookup C_RightsError = some (excClassObj nm_RightsError qn_RightsError C_RightsError N_RightsError bs_RightsError [.type "ValueError", .type "Exception", .type "BaseException", .type "object"] true sn_RightsError sub_RightsError ab_RightsError col_RightsError dd_RightsError m0_RightsError m1_RightsError m2_RightsError m3_RightsError m5_RightsError "ValueError.__new__"))
    (sa_RightsError : PySem.W.findIn K (.ref C_RightsError) "__setattr__" = some (some (.builtin "object.__setattr__")))
    (ga_RightsError : PySem.W.findIn K (.ref C_RightsError) "__getattribute__" = some (some (.builtin "BaseException.__getattribute__")))
    (gg_RightsError : PySem.W.findIn K (.ref C_RightsError) "__getattr__" = some none)
    (eC_RightsError : PySem.W.subIn K (.ref C_RightsError) (.type "BaseException") = some true)
    (tC_RightsError : PySem.W.typeIn K (.ref C_RightsError) = some (.type "type"))
    (hC_RightsError : PySem.W.hasDictIn K C_RightsError = true)
    (iC_RightsError : PySem.W.isClsIn K C_RightsError = true)
    (sC_RightsError : PySem.W.subIn K (.ref C_RightsError) (.ref C_RightsError) = some true)
    (kC_RightsError : PySem.W.keepIn K (.ref C_RightsError) = true)
    (aC_Function : PySem.W.nsIn K mainGlobals "Function" = some (some (.ref C_Function)))
    (n_Function_name : PySem.W.findIn K (.ref C_Function) "name" = some none)
    (n_Function_params : PySem.W.findIn K (.ref C_Function) "params" = some none)
    (n_Function_body : PySem.W.findIn K (.ref C_Function) "body" = some none)
    (pg_Function : PySem.W.plainGet K C_Function Str.empty = true)
    (hd_Function : PySem.W.hasDictIn K C_Function = true)
    (po_Function : PySem.W.plainOver K C_Function = true)
    (sa_Function : PySem.W.findIn K (.ref C_Function) "__setattr__" = some (some (.builtin "object.__setattr__")))
    (mk_Function : PySem.W.makesIn K C_Function = true)
    (kc_Function : PySem.W.keepIn K (.ref C_Function) = true)
    (ha_Function : PySem.W.findIn K (.ref C_Function) "__class__" = some (some (.builtin "object.__class__")))
    (hm_Function : PySem.W.mroIn K C_Function (.type "object") = some true)
    (aC_Program : PySem.W.nsIn K mainGlobals "Program" = some (some (.ref C_Program)))
    (n_Program_functions : PySem.W.findIn K (.ref C_Program) "functions" = some none)
    (n_Program_statements : PySem.W.findIn K (.ref C_Program) "statements" = some none)
    (pg_Program : PySem.W.plainGet K C_Program Str.empty = true)
    (hd_Program : PySem.W.hasDictIn K C_Program = true)
    (po_Program : PySem.W.plainOver K C_Program = true)
    (sa_Program : PySem.W.findIn K (.ref C_Program) "__setattr__" = some (some (.builtin "object.__setattr__")))
    (mk_Program : PySem.W.makesIn K C_Program = true)
    (kc_Program : PySem.W.keepIn K (.ref C_Program) = true)
    (ha_Program : PySem.W.findIn K (.ref C_Program) "__class__" = some (some (.builtin "object.__class__")))
    (hm_Program : PySem.W.mroIn K C_Program (.type "object") = some true)
    (hn_ : PySem.W.specialIn K (.builtin "object.__class__") "__get__" = some (some (.builtin "getset_descriptor.__get__")))
    (ht_ : PySem.W.takesIn K (.builtin "object.__class__") = some true)
    (vV : PySem.W.findCls K (.type "ValueError") (.type "type") "__init__" = some (.val (.builtin "ValueError.__init__")))
    {f0 : Addr} {od0 an0 : Option Addr} {sl0 : Array (Option Value)} {oc0 kV0 dc0 pm0 cd0 ct0 : Value}
    (a0 : PySem.W.findIn K (.ref C_RightsError) "__init__" = some (some (.ref f0)))
    (i0 : PySem.W.typeIn K (.ref f0) = some (.type "function"))
    (l0 : K.lookup f0 = some ⟨oc0, od0, .func (PySem.W.fnOf "__init__" "RightsError.__init__" (defArgs s_RightsError_init) (defBody s_RightsError_init) (defScope s_RightsError_init) .none kV0 dc0 pm0 an0 cd0 ct0), sl0⟩) (c0 : PySem.W.codeIn K cd0 "RightsError.__init__" = true) (k0 : PySem.W.keepIn K (.ref f0) = true)
    {f1 : Addr} {od1 an1 : Option Addr} {sl1 : Array (Option Value)} {oc1 kV1 dc1 pm1 cd1 ct1 : Value}
    (a1 : PySem.W.nsIn K mainGlobals "is_right" = some (some (.ref f1)))
    (l1 : K.lookup f1 = some ⟨oc1, od1, .func (PySem.W.fnOf "is_right" "is_right" (defArgs s_is_right) (defBody s_is_right) (defScope s_is_right) .none kV1 dc1 pm1 an1 cd1 ct1), sl1⟩) (c1 : PySem.W.codeIn K cd1 "is_right" = true) (k1 : PySem.W.keepIn K (.ref f1) = true)
    {f2 : Addr} {od2 an2 : Option Addr} {sl2 : Array (Option Value)} {oc2 kV2 dc2 pm2 cd2 ct2 : Value}
    (a2 : PySem.W.nsIn K mainGlobals "is_type" = some (some (.ref f2)))
    (l2 : K.lookup f2 = some ⟨oc2, od2, .func (PySem.W.fnOf "is_type" "is_type" (defArgs s_is_type) (defBody s_is_type) (defScope s_is_type) .none kV2 dc2 pm2 an2 cd2 ct2), sl2⟩) (c2 : PySem.W.codeIn K cd2 "is_type" = true) (k2 : PySem.W.keepIn K (.ref f2) = true)
    {f3 : Addr} {od3 an3 : Option Addr} {sl3 : Array (Option Value)} {oc3 kV3 dc3 pm3 cd3 ct3 : Value}
    (a3 : PySem.W.nsIn K mainGlobals "is_value_type" = some (some (.ref f3)))
    (l3 : K.lookup f3 = some ⟨oc3, od3, .func (PySem.W.fnOf "is_value_type" "is_value_type" (defArgs s_is_value_type) (defBody s_is_value_type) (defScope s_is_value_type) .none kV3 dc3 pm3 an3 cd3 ct3), sl3⟩) (c3 : PySem.W.codeIn K cd3 "is_value_type" = true) (k3 : PySem.W.keepIn K (.ref f3) = true)
    {f4 : Addr} {od4 an4 : Option Addr} {sl4 : Array (Option Value)} {oc4 kV4 dc4 pm4 cd4 ct4 : Value}
    (a4 : PySem.W.nsIn K mainGlobals "is_number" = some (some (.ref f4)))
    (l4 : K.lookup f4 = some ⟨oc4, od4, .func (PySem.W.fnOf "is_number" "is_number" (defArgs s_is_number) (defBody s_is_number) (defScope s_is_number) .none kV4 dc4 pm4 an4 cd4 ct4), sl4⟩) (c4 : PySem.W.codeIn K cd4 "is_number" = true) (k4 : PySem.W.keepIn K (.ref f4) = true)
    {f5 : Addr} {od5 an5 : Option Addr} {sl5 : Array (Option Value)} {oc5 kV5 dc5 pm5 cd5 ct5 : Value}
    (a5 : PySem.W.nsIn K mainGlobals "is_name" = some (some (.ref f5)))
    (l5 : K.lookup f5 = some ⟨oc5, od5, .func (PySem.W.fnOf "is_name" "is_name" (defArgs s_is_name) (defBody s_is_name) (defScope s_is_name) .none kV5 dc5 pm5 an5 cd5 ct5), sl5⟩) (c5 : PySem.W.codeIn K cd5 "is_name" = true) (k5 : PySem.W.keepIn K (.ref f5) = true)
    {f6 : Addr} {od6 an6 : Option Addr} {sl6 : Array (Option Value)} {oc6 kV6 dc6 pm6 cd6 ct6 : Value}
    (a6 : PySem.W.nsIn K mainGlobals "is_depth" = some (some (.ref f6)))
    (l6 : K.lookup f6 = some ⟨oc6, od6, .func (PySem.W.fnOf "is_depth" "is_depth" (defArgs s_is_depth) (defBody s_is_depth) (defScope s_is_depth) .none kV6 dc6 pm6 an6 cd6 ct6), sl6⟩) (c6 : PySem.W.codeIn K cd6 "is_depth" = true) (k6 : PySem.W.keepIn K (.ref f6) = true)
    {f7 : Addr} {od7 an7 : Option Addr} {sl7 : Array (Option Value)} {oc7 kV7 dc7 pm7 cd7 ct7 : Value}
    (a7 : PySem.W.nsIn K mainGlobals "is_place" = some (some (.ref f7)))
    (l7 : K.lookup f7 = some ⟨oc7, od7, .func (PySem.W.fnOf "is_place" "is_place" (defArgs s_is_place) (defBody s_is_place) (defScope s_is_place) .none kV7 dc7 pm7 an7 cd7 ct7), sl7⟩) (c7 : PySem.W.codeIn K cd7 "is_place" = true) (k7 : PySem.W.keepIn K (.ref f7) = true)
    {f8 : Addr} {od8 an8 : Option Addr} {sl8 : Array (Option Value)} {oc8 kV8 dc8 pm8 cd8 ct8 : Value}
    (a8 : PySem.W.nsIn K mainGlobals "first_word" = some (some (.ref f8)))
    (l8 : K.lookup f8 = some ⟨oc8, od8, .func (PySem.W.fnOf "first_word" "first_word" (defArgs s_first_word) (defBody s_first_word) (defScope s_first_word) .none kV8 dc8 pm8 an8 cd8 ct8), sl8⟩) (c8 : PySem.W.codeIn K cd8 "first_word" = true) (k8 : PySem.W.keepIn K (.ref f8) = true)
    {f9 : Addr} {od9 an9 : Option Addr} {sl9 : Array (Option Value)} {oc9 kV9 dc9 pm9 cd9 ct9 : Value}
    (a9 : PySem.W.nsIn K mainGlobals "is_source" = some (some (.ref f9)))
    (l9 : K.lookup f9 = some ⟨oc9, od9, .func (PySem.W.fnOf "is_source" "is_source" (defArgs s_is_source) (defBody s_is_source) (defScope s_is_source) .none kV9 dc9 pm9 an9 cd9 ct9), sl9⟩) (c9 : PySem.W.codeIn K cd9 "is_source" = true) (k9 : PySem.W.keepIn K (.ref f9) = true)
    {f10 : Addr} {od10 an10 : Option Addr} {sl10 : Array (Option Value)} {oc10 kV10 dc10 pm10 cd10 ct10 : Value}
    (a10 : PySem.W.nsIn K mainGlobals "is_source_list" = some (some (.ref f10)))
    (l10 : K.lookup f10 = some ⟨oc10, od10, .func (PySem.W.fnOf "is_source_list" "is_source_list" (defArgs s_is_source_list) (defBody s_is_source_list) (defScope s_is_source_list) .none kV10 dc10 pm10 an10 cd10 ct10), sl10⟩) (c10 : PySem.W.codeIn K cd10 "is_source_list" = true) (k10 : PySem.W.keepIn K (.ref f10) = true)
    {f11 : Addr} {od11 an11 : Option Addr} {sl11 : Array (Option Value)} {oc11 kV11 dc11 pm11 cd11 ct11 : Value}
    (a11 : PySem.W.nsIn K mainGlobals "is_declared" = some (some (.ref f11)))
    (l11 : K.lookup f11 = some ⟨oc11, od11, .func (PySem.W.fnOf "is_declared" "is_declared" (defArgs s_is_declared) (defBody s_is_declared) (defScope s_is_declared) .none kV11 dc11 pm11 an11 cd11 ct11), sl11⟩) (c11 : PySem.W.codeIn K cd11 "is_declared" = true) (k11 : PySem.W.keepIn K (.ref f11) = true)
    {f12 : Addr} {od12 an12 : Option Addr} {sl12 : Array (Option Value)} {oc12 kV12 dc12 pm12 cd12 ct12 : Value}
    (a12 : PySem.W.nsIn K mainGlobals "is_statement" = some (some (.ref f12)))
    (l12 : K.lookup f12 = some ⟨oc12, od12, .func (PySem.W.fnOf "is_statement" "is_statement" (defArgs s_is_statement) (defBody s_is_statement) (defScope s_is_statement) .none kV12 dc12 pm12 an12 cd12 ct12), sl12⟩) (c12 : PySem.W.codeIn K cd12 "is_statement" = true) (k12 : PySem.W.keepIn K (.ref f12) = true)
    {f13 : Addr} {od13 an13 : Option Addr} {sl13 : Array (Option Value)} {oc13 kV13 dc13 pm13 cd13 ct13 : Value}
    (a13 : PySem.W.findIn K (.ref C_Function) "__init__" = some (some (.ref f13)))
    (i13 : PySem.W.isFn K (.ref f13) = true)
    (l13 : K.lookup f13 = some ⟨oc13, od13, .func (PySem.W.fnOf "__init__" "Function.__init__" (defArgs s_Function_init) (defBody s_Function_init) (defScope s_Function_init) .none kV13 dc13 pm13 an13 cd13 ct13), sl13⟩) (c13 : PySem.W.codeIn K cd13 "Function.__init__" = true) (k13 : PySem.W.keepIn K (.ref f13) = true)
    {f14 : Addr} {od14 an14 : Option Addr} {sl14 : Array (Option Value)} {oc14 kV14 dc14 pm14 cd14 ct14 : Value}
    (a14 : PySem.W.findIn K (.ref C_Program) "__init__" = some (some (.ref f14)))
    (i14 : PySem.W.isFn K (.ref f14) = true)
    (l14 : K.lookup f14 = some ⟨oc14, od14, .func (PySem.W.fnOf "__init__" "Program.__init__" (defArgs s_Program_init) (defBody s_Program_init) (defScope s_Program_init) .none kV14 dc14 pm14 an14 cd14 ct14), sl14⟩) (c14 : PySem.W.codeIn K cd14 "Program.__init__" = true) (k14 : PySem.W.keepIn K (.ref f14) = true)
    {f15 : Addr} {od15 an15 : Option Addr} {sl15 : Array (Option Value)} {oc15 kV15 dc15 pm15 cd15 ct15 : Value}
    (a15 : PySem.W.nsIn K mainGlobals "copied" = some (some (.ref f15)))
    (l15 : K.lookup f15 = some ⟨oc15, od15, .func (PySem.W.fnOf "copied" "copied" (defArgs s_copied) (defBody s_copied) (defScope s_copied) .none kV15 dc15 pm15 an15 cd15 ct15), sl15⟩) (c15 : PySem.W.codeIn K cd15 "copied" = true) (k15 : PySem.W.keepIn K (.ref f15) = true)
    {f16 : Addr} {od16 an16 : Option Addr} {sl16 : Array (Option Value)} {oc16 kV16 dc16 pm16 cd16 ct16 : Value}
    (a16 : PySem.W.nsIn K mainGlobals "copied_statement" = some (some (.ref f16)))
    (l16 : K.lookup f16 = some ⟨oc16, od16, .func (PySem.W.fnOf "copied_statement" "copied_statement" (defArgs s_copied_statement) (defBody s_copied_statement) (defScope s_copied_statement) .none kV16 dc16 pm16 an16 cd16 ct16), sl16⟩) (c16 : PySem.W.codeIn K cd16 "copied_statement" = true) (k16 : PySem.W.keepIn K (.ref f16) = true)
    {f17 : Addr} {od17 an17 : Option Addr} {sl17 : Array (Option Value)} {oc17 kV17 dc17 pm17 cd17 ct17 : Value}
    (a17 : PySem.W.nsIn K mainGlobals "copied_statements" = some (some (.ref f17)))
    (l17 : K.lookup f17 = some ⟨oc17, od17, .func (PySem.W.fnOf "copied_statements" "copied_statements" (defArgs s_copied_statements) (defBody s_copied_statements) (defScope s_copied_statements) .none kV17 dc17 pm17 an17 cd17 ct17), sl17⟩) (c17 : PySem.W.codeIn K cd17 "copied_statements" = true) (k17 : PySem.W.keepIn K (.ref f17) = true)
    {f18 : Addr} {od18 an18 : Option Addr} {sl18 : Array (Option Value)} {oc18 kV18 dc18 pm18 cd18 ct18 : Value}
    (a18 : PySem.W.nsIn K mainGlobals "copied_function" = some (some (.ref f18)))
    (l18 : K.lookup f18 = some ⟨oc18, od18, .func (PySem.W.fnOf "copied_function" "copied_function" (defArgs s_copied_function) (defBody s_copied_function) (defScope s_copied_function) .none kV18 dc18 pm18 an18 cd18 ct18), sl18⟩) (c18 : PySem.W.codeIn K cd18 "copied_function" = true) (k18 : PySem.W.keepIn K (.ref f18) = true)
    {f19 : Addr} {od19 an19 : Option Addr} {sl19 : Array (Option Value)} {oc19 kV19 dc19 pm19 cd19 ct19 : Value}
    (a19 : PySem.W.nsIn K mainGlobals "copied_functions" = some (some (.ref f19)))
    (l19 : K.lookup f19 = some ⟨oc19, od19, .func (PySem.W.fnOf "copied_functions" "copied_functions" (defArgs s_copied_functions) (defBody s_copied_functions) (defScope s_copied_functions) .none kV19 dc19 pm19 an19 cd19 ct19), sl19⟩) (c19 : PySem.W.codeIn K cd19 "copied_functions" = true) (k19 : PySem.W.keepIn K (.ref f19) = true)
    {f20 : Addr} {od20 an20 : Option Addr} {sl20 : Array (Option Value)} {oc20 kV20 dc20 pm20 cd20 ct20 : Value}
    (a20 : PySem.W.nsIn K mainGlobals "is_program" = some (some (.ref f20)))
    (l20 : K.lookup f20 = some ⟨oc20, od20, .func (PySem.W.fnOf "is_program" "is_program" (defArgs s_is_program) (defBody s_is_program) (defScope s_is_program) .none kV20 dc20 pm20 an20 cd20 ct20), sl20⟩) (c20 : PySem.W.codeIn K cd20 "is_program" = true) (k20 : PySem.W.keepIn K (.ref f20) = true)
    {f21 : Addr} {od21 an21 : Option Addr} {sl21 : Array (Option Value)} {oc21 kV21 dc21 pm21 cd21 ct21 : Value}
    (a21 : PySem.W.nsIn K mainGlobals "is_function" = some (some (.ref f21)))
    (l21 : K.lookup f21 = some ⟨oc21, od21, .func (PySem.W.fnOf "is_function" "is_function" (defArgs s_is_function) (defBody s_is_function) (defScope s_is_function) .none kV21 dc21 pm21 an21 cd21 ct21), sl21⟩) (c21 : PySem.W.codeIn K cd21 "is_function" = true) (k21 : PySem.W.keepIn K (.ref f21) = true)
    {f22 : Addr} {od22 an22 : Option Addr} {sl22 : Array (Option Value)} {oc22 kV22 dc22 pm22 cd22 ct22 : Value}
    (a22 : PySem.W.nsIn K mainGlobals "are_statements" = some (some (.ref f22)))
    (l22 : K.lookup f22 = some ⟨oc22, od22, .func (PySem.W.fnOf "are_statements" "are_statements" (defArgs s_are_statements) (defBody s_are_statements) (defScope s_are_statements) .none kV22 dc22 pm22 an22 cd22 ct22), sl22⟩) (c22 : PySem.W.codeIn K cd22 "are_statements" = true) (k22 : PySem.W.keepIn K (.ref f22) = true)
    {f23 : Addr} {od23 an23 : Option Addr} {sl23 : Array (Option Value)} {oc23 kV23 dc23 pm23 cd23 ct23 : Value}
    (a23 : PySem.W.nsIn K mainGlobals "declared" = some (some (.ref f23)))
    (l23 : K.lookup f23 = some ⟨oc23, od23, .func (PySem.W.fnOf "declared" "declared" (defArgs s_declared) (defBody s_declared) (defScope s_declared) .none kV23 dc23 pm23 an23 cd23 ct23), sl23⟩) (c23 : PySem.W.codeIn K cd23 "declared" = true) (k23 : PySem.W.keepIn K (.ref f23) = true)
    {f24 : Addr} {od24 an24 : Option Addr} {sl24 : Array (Option Value)} {oc24 kV24 dc24 pm24 cd24 ct24 : Value}
    (a24 : PySem.W.nsIn K mainGlobals "declared_by_lets" = some (some (.ref f24)))
    (l24 : K.lookup f24 = some ⟨oc24, od24, .func (PySem.W.fnOf "declared_by_lets" "declared_by_lets" (defArgs s_declared_by_lets) (defBody s_declared_by_lets) (defScope s_declared_by_lets) .none kV24 dc24 pm24 an24 cd24 ct24), sl24⟩) (c24 : PySem.W.codeIn K cd24 "declared_by_lets" = true) (k24 : PySem.W.keepIn K (.ref f24) = true)
    {f25 : Addr} {od25 an25 : Option Addr} {sl25 : Array (Option Value)} {oc25 kV25 dc25 pm25 cd25 ct25 : Value}
    (a25 : PySem.W.nsIn K mainGlobals "all_names" = some (some (.ref f25)))
    (l25 : K.lookup f25 = some ⟨oc25, od25, .func (PySem.W.fnOf "all_names" "all_names" (defArgs s_all_names) (defBody s_all_names) (defScope s_all_names) .none kV25 dc25 pm25 an25 cd25 ct25), sl25⟩) (c25 : PySem.W.codeIn K cd25 "all_names" = true) (k25 : PySem.W.keepIn K (.ref f25) = true)
    {f26 : Addr} {od26 an26 : Option Addr} {sl26 : Array (Option Value)} {oc26 kV26 dc26 pm26 cd26 ct26 : Value}
    (a26 : PySem.W.nsIn K mainGlobals "all_kinds" = some (some (.ref f26)))
    (l26 : K.lookup f26 = some ⟨oc26, od26, .func (PySem.W.fnOf "all_kinds" "all_kinds" (defArgs s_all_kinds) (defBody s_all_kinds) (defScope s_all_kinds) .none kV26 dc26 pm26 an26 cd26 ct26), sl26⟩) (c26 : PySem.W.codeIn K cd26 "all_kinds" = true) (k26 : PySem.W.keepIn K (.ref f26) = true)
    {f27 : Addr} {od27 an27 : Option Addr} {sl27 : Array (Option Value)} {oc27 kV27 dc27 pm27 cd27 ct27 : Value}
    (a27 : PySem.W.nsIn K mainGlobals "are_different" = some (some (.ref f27)))
    (l27 : K.lookup f27 = some ⟨oc27, od27, .func (PySem.W.fnOf "are_different" "are_different" (defArgs s_are_different) (defBody s_are_different) (defScope s_are_different) .none kV27 dc27 pm27 an27 cd27 ct27), sl27⟩) (c27 : PySem.W.codeIn K cd27 "are_different" = true) (k27 : PySem.W.keepIn K (.ref f27) = true)
    {f28 : Addr} {od28 an28 : Option Addr} {sl28 : Array (Option Value)} {oc28 kV28 dc28 pm28 cd28 ct28 : Value}
    (a28 : PySem.W.nsIn K mainGlobals "are_of_one_kind" = some (some (.ref f28)))
    (l28 : K.lookup f28 = some ⟨oc28, od28, .func (PySem.W.fnOf "are_of_one_kind" "are_of_one_kind" (defArgs s_are_of_one_kind) (defBody s_are_of_one_kind) (defScope s_are_of_one_kind) .none kV28 dc28 pm28 an28 cd28 ct28), sl28⟩) (c28 : PySem.W.codeIn K cd28 "are_of_one_kind" = true) (k28 : PySem.W.keepIn K (.ref f28) = true)
    {f29 : Addr} {od29 an29 : Option Addr} {sl29 : Array (Option Value)} {oc29 kV29 dc29 pm29 cd29 ct29 : Value}
    (a29 : PySem.W.nsIn K mainGlobals "all_calls_fit" = some (some (.ref f29)))
    (l29 : K.lookup f29 = some ⟨oc29, od29, .func (PySem.W.fnOf "all_calls_fit" "all_calls_fit" (defArgs s_all_calls_fit) (defBody s_all_calls_fit) (defScope s_all_calls_fit) .none kV29 dc29 pm29 an29 cd29 ct29), sl29⟩) (c29 : PySem.W.codeIn K cd29 "all_calls_fit" = true) (k29 : PySem.W.keepIn K (.ref f29) = true)
    {f30 : Addr} {od30 an30 : Option Addr} {sl30 : Array (Option Value)} {oc30 kV30 dc30 pm30 cd30 ct30 : Value}
    (a30 : PySem.W.nsIn K mainGlobals "calls_fit" = some (some (.ref f30)))
    (l30 : K.lookup f30 = some ⟨oc30, od30, .func (PySem.W.fnOf "calls_fit" "calls_fit" (defArgs s_calls_fit) (defBody s_calls_fit) (defScope s_calls_fit) .none kV30 dc30 pm30 an30 cd30 ct30), sl30⟩) (c30 : PySem.W.codeIn K cd30 "calls_fit" = true) (k30 : PySem.W.keepIn K (.ref f30) = true)
    {f31 : Addr} {od31 an31 : Option Addr} {sl31 : Array (Option Value)} {oc31 kV31 dc31 pm31 cd31 ct31 : Value}
    (a31 : PySem.W.nsIn K mainGlobals "_law_cell" = some (some (.ref f31)))
    (l31 : K.lookup f31 = some ⟨oc31, od31, .func (PySem.W.fnOf "_law_cell" "_law_cell" (defArgs s__law_cell) (defBody s__law_cell) (defScope s__law_cell) .none kV31 dc31 pm31 an31 cd31 ct31), sl31⟩) (c31 : PySem.W.codeIn K cd31 "_law_cell" = true) (k31 : PySem.W.keepIn K (.ref f31) = true)
    {f32 : Addr} {od32 an32 : Option Addr} {sl32 : Array (Option Value)} {oc32 kV32 dc32 pm32 cd32 ct32 : Value}
    (a32 : PySem.W.nsIn K mainGlobals "_law_row" = some (some (.ref f32)))
    (l32 : K.lookup f32 = some ⟨oc32, od32, .func (PySem.W.fnOf "_law_row" "_law_row" (defArgs s__law_row) (defBody s__law_row) (defScope s__law_row) .none kV32 dc32 pm32 an32 cd32 ct32), sl32⟩) (c32 : PySem.W.codeIn K cd32 "_law_row" = true) (k32 : PySem.W.keepIn K (.ref f32) = true)
    {f33 : Addr} {od33 an33 : Option Addr} {sl33 : Array (Option Value)} {oc33 kV33 dc33 pm33 cd33 ct33 : Value}
    (a33 : PySem.W.nsIn K mainGlobals "_law_draw" = some (some (.ref f33)))
    (l33 : K.lookup f33 = some ⟨oc33, od33, .func (PySem.W.fnOf "_law_draw" "_law_draw" (defArgs s__law_draw) (defBody s__law_draw) (defScope s__law_draw) .none kV33 dc33 pm33 an33 cd33 ct33), sl33⟩) (c33 : PySem.W.codeIn K cd33 "_law_draw" = true) (k33 : PySem.W.keepIn K (.ref f33) = true)
    {f34 : Addr} {od34 an34 : Option Addr} {sl34 : Array (Option Value)} {oc34 kV34 dc34 pm34 cd34 ct34 : Value}
    (a34 : PySem.W.nsIn K mainGlobals "_law_accepts" = some (some (.ref f34)))
    (l34 : K.lookup f34 = some ⟨oc34, od34, .func (PySem.W.fnOf "_law_accepts" "_law_accepts" (defArgs s__law_accepts) (defBody s__law_accepts) (defScope s__law_accepts) .none kV34 dc34 pm34 an34 cd34 ct34), sl34⟩) (c34 : PySem.W.codeIn K cd34 "_law_accepts" = true) (k34 : PySem.W.keepIn K (.ref f34) = true)
    {f35 : Addr} {od35 an35 : Option Addr} {sl35 : Array (Option Value)} {oc35 kV35 dc35 pm35 cd35 ct35 : Value}
    (a35 : PySem.W.nsIn K mainGlobals "_law_let" = some (some (.ref f35)))
    (l35 : K.lookup f35 = some ⟨oc35, od35, .func (PySem.W.fnOf "_law_let" "_law_let" (defArgs s__law_let) (defBody s__law_let) (defScope s__law_let) .none kV35 dc35 pm35 an35 cd35 ct35), sl35⟩) (c35 : PySem.W.codeIn K cd35 "_law_let" = true) (k35 : PySem.W.keepIn K (.ref f35) = true)
    {f36 : Addr} {od36 an36 : Option Addr} {sl36 : Array (Option Value)} {oc36 kV36 dc36 pm36 cd36 ct36 : Value}
    (a36 : PySem.W.nsIn K mainGlobals "_law_counts" = some (some (.ref f36)))
    (l36 : K.lookup f36 = some ⟨oc36, od36, .func (PySem.W.fnOf "_law_counts" "_law_counts" (defArgs s__law_counts) (defBody s__law_counts) (defScope s__law_counts) .none kV36 dc36 pm36 an36 cd36 ct36), sl36⟩) (c36 : PySem.W.codeIn K cd36 "_law_counts" = true) (k36 : PySem.W.keepIn K (.ref f36) = true)
    {f37 : Addr} {od37 an37 : Option Addr} {sl37 : Array (Option Value)} {oc37 kV37 dc37 pm37 cd37 ct37 : Value}
    (a37 : PySem.W.nsIn K mainGlobals "_law_within_functions" = some (some (.ref f37)))
    (l37 : K.lookup f37 = some ⟨oc37, od37, .func (PySem.W.fnOf "_law_within_functions" "_law_within_functions" (defArgs s__law_within_functions) (defBody s__law_within_functions) (defScope s__law_within_functions) .none kV37 dc37 pm37 an37 cd37 ct37), sl37⟩) (c37 : PySem.W.codeIn K cd37 "_law_within_functions" = true) (k37 : PySem.W.keepIn K (.ref f37) = true)
    {f38 : Addr} {od38 an38 : Option Addr} {sl38 : Array (Option Value)} {oc38 kV38 dc38 pm38 cd38 ct38 : Value}
    (a38 : PySem.W.nsIn K mainGlobals "law" = some (some (.ref f38)))
    (l38 : K.lookup f38 = some ⟨oc38, od38, .func (PySem.W.fnOf "law" "law" (defArgs s_law) (defBody s_law) (defScope s_law) .none kV38 dc38 pm38 an38 cd38 ct38), sl38⟩) (c38 : PySem.W.codeIn K cd38 "law" = true) (k38 : PySem.W.keepIn K (.ref f38) = true)
    {q_RIGHTS : Addr} {oq_RIGHTS : Option Addr} {nq_RIGHTS : Nat} {sq_RIGHTS : Array (Option Value)} {tq_RIGHTS_0 tq_RIGHTS_1 tq_RIGHTS_2 tq_RIGHTS_3 : Tok}
    (u_RIGHTS : PySem.W.nsIn K mainGlobals "RIGHTS" = some (some (.ref q_RIGHTS))) (v_RIGHTS : K.lookup q_RIGHTS = some ⟨.type "tuple", oq_RIGHTS, .seq #[.str "rw" tq_RIGHTS_0, .str "r" tq_RIGHTS_1, .str "w" tq_RIGHTS_2, .str "-" tq_RIGHTS_3] nq_RIGHTS, sq_RIGHTS⟩)
    {k_MOST_RIGHTS : Tok}
    (u_MOST_RIGHTS : PySem.W.nsIn K mainGlobals "MOST_RIGHTS" = some (some (.int 6 k_MOST_RIGHTS)))
    {k_SIGNS : Tok}
    (u_SIGNS : PySem.W.nsIn K mainGlobals "SIGNS" = some (some (.str "abcdefghijklmnopqrstuvwxyz" k_SIGNS)))
    {k_MOST_SIGNS : Tok}
    (u_MOST_SIGNS : PySem.W.nsIn K mainGlobals "MOST_SIGNS" = some (some (.int 8 k_MOST_SIGNS)))
    {k_MOST_STARS : Tok}
    (u_MOST_STARS : PySem.W.nsIn K mainGlobals "MOST_STARS" = some (some (.int 5 k_MOST_STARS)))
    {k_MOST_DEPTH : Tok}
    (u_MOST_DEPTH : PySem.W.nsIn K mainGlobals "MOST_DEPTH" = some (some (.int 5 k_MOST_DEPTH)))
    {k_MOST_NUMBER : Tok}
    (u_MOST_NUMBER : PySem.W.nsIn K mainGlobals "MOST_NUMBER" = some (some (.int 1000 k_MOST_NUMBER)))
    {k_MOST_FUNCTIONS : Tok}
    (u_MOST_FUNCTIONS : PySem.W.nsIn K mainGlobals "MOST_FUNCTIONS" = some (some (.int 4 k_MOST_FUNCTIONS)))
    {k_MOST_PARAMS : Tok}
    (u_MOST_PARAMS : PySem.W.nsIn K mainGlobals "MOST_PARAMS" = some (some (.int 4 k_MOST_PARAMS)))
    {k_MOST_IN_BODY : Tok}
    (u_MOST_IN_BODY : PySem.W.nsIn K mainGlobals "MOST_IN_BODY" = some (some (.int 12 k_MOST_IN_BODY)))
    {k_MOST_STATEMENTS : Tok}
    (u_MOST_STATEMENTS : PySem.W.nsIn K mainGlobals "MOST_STATEMENTS" = some (some (.int 40 k_MOST_STATEMENTS)))
    (z_ValueError : PySem.W.nsIn K mainGlobals "ValueError" = some none)
    (z_str : PySem.W.nsIn K mainGlobals "str" = some none)
    (z_type : PySem.W.nsIn K mainGlobals "type" = some none)
    (z_len : PySem.W.nsIn K mainGlobals "len" = some none)
    (z_all : PySem.W.nsIn K mainGlobals "all" = some none)
    (z_tuple : PySem.W.nsIn K mainGlobals "tuple" = some none)
    (z_int : PySem.W.nsIn K mainGlobals "int" = some none)
    (z_list : PySem.W.nsIn K mainGlobals "list" = some none)
    (z_isinstance : PySem.W.nsIn K mainGlobals "isinstance" = some none)
    (z_set : PySem.W.nsIn K mainGlobals "set" = some none)
    (z_range : PySem.W.nsIn K mainGlobals "range" = some none)
    (z_abs : PySem.W.nsIn K mainGlobals "abs" = some none)
    (z_bool : PySem.W.nsIn K mainGlobals "bool" = some none) :
    ∃ fd : FuncData, (∀ (s : Shared) (v : Value), BindsTo s fd ⟨[v], []⟩ [("script", v)]) ∧ ∀ base : Heap, K.In base → base.Ns mainGlobals mg → FnOk l.prog w K mg base CX0 12 fa fd ["script"] (spLaw K) := by
  have e := hfa.symm.trans (PySem.W.mg_of X G a38)
  cases e
  have F0 := fun_mk (st := s_RightsError_init) l0 c0 k0
  have F1 := fun_mk (st := s_is_right) l1 c1 k1
  have F2 := fun_mk (st := s_is_type) l2 c2 k2
  have F3 := fun_mk (st := s_is_value_type) l3 c3 k3
  have F4 := fun_mk (st := s_is_number) l4 c4 k4
  have F5 := fun_mk (st := s_is_name) l5 c5 k5
  have F6 := fun_mk (st := s_is_depth) l6 c6 k6
  have F7 := fun_mk (st := s_is_place) l7 c7 k7
  have F8 := fun_mk (st := s_first_word) l8 c8 k8
  have F9 := fun_mk (st := s_is_source) l9 c9 k9
  have F10 := fun_mk (st := s_is_source_list) l10 c10 k10
  have F11 := fun_mk (st := s_is_declared) l11 c11 k11
  have F12 := fun_mk (st := s_is_statement) l12 c12 k12
  have F13 := fun_mk (st := s_Function_init) l13 c13 k13
  have F14 := fun_mk (st := s_Program_init) l14 c14 k14
  have F15 := fun_mk (st := s_copied) l15 c15 k15
  have F16 := fun_mk (st := s_copied_statement) l16 c16 k16
  have F17 := fun_mk (st := s_copied_statements) l17 c17 k17
  have F18 := fun_mk (st := s_copied_function) l18 c18 k18
  have F19 := fun_mk (st := s_copied_functions) l19 c19 k19
  have F20 := fun_mk (st := s_is_program) l20 c20 k20
  have F21 := fun_mk (st := s_is_function) l21 c21 k21
  have F22 := fun_mk (st := s_are_statements) l22 c22 k22
  have F23 := fun_mk (st := s_declared) l23 c23 k23
  have F24 := fun_mk (st := s_declared_by_lets) l24 c24 k24
  have F25 := fun_mk (st := s_all_names) l25 c25 k25
  have F26 := fun_mk (st := s_all_kinds) l26 c26 k26
  have F27 := fun_mk (st := s_are_different) l27 c27 k27
  have F28 := fun_mk (st := s_are_of_one_kind) l28 c28 k28
  have F29 := fun_mk (st := s_all_calls_fit) l29 c29 k29
  have F30 := fun_mk (st := s_calls_fit) l30 c30 k30
  have F31 := fun_mk (st := s__law_cell) l31 c31 k31
  have F32 := fun_mk (st := s__law_row) l32 c32 k32
  have F33 := fun_mk (st := s__law_draw) l33 c33 k33
  have F34 := fun_mk (st := s__law_accepts) l34 c34 k34
  have F35 := fun_mk (st := s__law_let) l35 c35 k35
  have F36 := fun_mk (st := s__law_counts) l36 c36 k36
  have F37 := fun_mk (st := s__law_within_functions) l37 c37 k37
  have F38 := fun_mk (st := s_law) l38 c38 k38
  have B0 := F0.binds (ps := p_RightsError_init) fun _ _ _ _ _ _ us hl => match us, hl with | [_, _], _ => rfl
  have B1 := F1.binds (ps := p_is_right) fun _ _ _ _ _ _ us hl => match us, hl with | [_], _ => rfl
  have B2 := F2.binds (ps := p_is_type) fun _ _ _ _ _ _ us hl => match us, hl with | [_], _ => rfl
  have B3 := F3.binds (ps := p_is_value_type) fun _ _ _ _ _ _ us hl => match us, hl with | [_], _ => rfl
  have B4 := F4.binds (ps := p_is_number) fun _ _ _ _ _ _ us hl => match us, hl with | [_, _], _ => rfl
  have B5 := F5.binds (ps := p_is_name) fun _ _ _ _ _ _ us hl => match us, hl with | [_], _ => rfl
  have B6 := F6.binds (ps := p_is_depth) fun _ _ _ _ _ _ us hl => match us, hl with | [_], _ => rfl
  have B7 := F7.binds (ps := p_is_place) fun _ _ _ _ _ _ us hl => match us, hl with | [_], _ => rfl
  have B8 := F8.binds (ps := p_first_word) fun _ _ _ _ _ _ us hl => match us, hl with | [_], _ => rfl
  have B9 := F9.binds (ps := p_is_source) fun _ _ _ _ _ _ us hl => match us, hl with | [_], _ => rfl
  have B10 := F10.binds (ps := p_is_source_list) fun _ _ _ _ _ _ us hl => match us, hl with | [_], _ => rfl
  have B11 := F11.binds (ps := p_is_declared) fun _ _ _ _ _ _ us hl => match us, hl with | [_], _ => rfl
  have B12 := F12.binds (ps := p_is_statement) fun _ _ _ _ _ _ us hl => match us, hl with | [_], _ => rfl
  have B13 := F13.binds (ps := p_Function_init) fun _ _ _ _ _ _ us hl => match us, hl with | [_, _, _, _], _ => rfl
  have B14 := F14.binds (ps := p_Program_init) fun _ _ _ _ _ _ us hl => match us, hl with | [_, _, _], _ => rfl
  have B15 := F15.binds (ps := p_copied) fun _ _ _ _ _ _ us hl => match us, hl with | [_], _ => rfl
  have B16 := F16.binds (ps := p_copied_statement) fun _ _ _ _ _ _ us hl => match us, hl with | [_], _ => rfl
  have B17 := F17.binds (ps := p_copied_statements) fun _ _ _ _ _ _ us hl => match us, hl with | [_], _ => rfl
  have B18 := F18.binds (ps := p_copied_function) fun _ _ _ _ _ _ us hl => match us, hl with | [_], _ => rfl
  have B19 := F19.binds (ps := p_copied_functions) fun _ _ _ _ _ _ us hl => match us, hl with | [_], _ => rfl
  have B20 := F20.binds (ps := p_is_program) fun _ _ _ _ _ _ us hl => match us, hl with | [_, _], _ => rfl
  have B21 := F21.binds (ps := p_is_function) fun _ _ _ _ _ _ us hl => match us, hl with | [_], _ => rfl
  have B22 := F22.binds (ps := p_are_statements) fun _ _ _ _ _ _ us hl => match us, hl with | [_, _], _ => rfl
  have B23 := F23.binds (ps := p_declared) fun _ _ _ _ _ _ us hl => match us, hl with | [_, _], _ => rfl
  have B24 := F24.binds (ps := p_declared_by_lets) fun _ _ _ _ _ _ us hl => match us, hl with | [_], _ => rfl
  have B25 := F25.binds (ps := p_all_names) fun _ _ _ _ _ _ us hl => match us, hl with | [_, _], _ => rfl
  have B26 := F26.binds (ps := p_all_kinds) fun _ _ _ _ _ _ us hl => match us, hl with | [_, _], _ => rfl
  have B27 := F27.binds (ps := p_are_different) fun _ _ _ _ _ _ us hl => match us, hl with | [_], _ => rfl
  have B28 := F28.binds (ps := p_are_of_one_kind) fun _ _ _ _ _ _ us hl => match us, hl with | [_], _ => rfl
  have B29 := F29.binds (ps := p_all_calls_fit) fun _ _ _ _ _ _ us hl => match us, hl with | [_, _], _ => rfl
  have B30 := F30.binds (ps := p_calls_fit) fun _ _ _ _ _ _ us hl => match us, hl with | [_, _], _ => rfl
  have B31 := F31.binds (ps := p__law_cell) fun _ _ _ _ _ _ us hl => match us, hl with | [_, _], _ => rfl
  have B32 := F32.binds (ps := p__law_row) fun _ _ _ _ _ _ us hl => match us, hl with | [_, _, _], _ => rfl
  have B33 := F33.binds (ps := p__law_draw) fun _ _ _ _ _ _ us hl => match us, hl with | [_, _], _ => rfl
  have B34 := F34.binds (ps := p__law_accepts) fun _ _ _ _ _ _ us hl => match us, hl with | [_, _], _ => rfl
  have B35 := F35.binds (ps := p__law_let) fun _ _ _ _ _ _ us hl => match us, hl with | [_, _], _ => rfl
  have B36 := F36.binds (ps := p__law_counts) fun _ _ _ _ _ _ us hl => match us, hl with | [_], _ => rfl
  have B37 := F37.binds (ps := p__law_within_functions) fun _ _ _ _ _ _ us hl => match us, hl with | [_], _ => rfl
  let T : Tx K mg := {
    a_RightsError_init := _
    e_RightsError_init := _
    d_RightsError_init := ⟨F0, B0⟩
    a_is_right := _
    e_is_right := _
    d_is_right := ⟨F1, B1, PySem.W.mg_of X G a1⟩
    a_is_type := _
    e_is_type := _
    d_is_type := ⟨F2, B2, PySem.W.mg_of X G a2⟩
    a_is_value_type := _
    e_is_value_type := _
    d_is_value_type := ⟨F3, B3, PySem.W.mg_of X G a3⟩
    a_is_number := _
    e_is_number := _
    d_is_number := ⟨F4, B4, PySem.W.mg_of X G a4⟩
    a_is_name := _
    e_is_name := _
    d_is_name := ⟨F5, B5, PySem.W.mg_of X G a5⟩
    a_is_depth := _
    e_is_depth := _
    d_is_depth := ⟨F6, B6, PySem.W.mg_of X G a6⟩
    a_is_place := _
    e_is_place := _
    d_is_place := ⟨F7, B7, PySem.W.mg_of X G a7⟩
    a_first_word := _
    e_first_word := _
    d_first_word := ⟨F8, B8, PySem.W.mg_of X G a8⟩
    a_is_source := _
    e_is_source := _
    d_is_source := ⟨F9, B9, PySem.W.mg_of X G a9⟩
    a_is_source_list := _
    e_is_source_list := _
    d_is_source_list := ⟨F10, B10, PySem.W.mg_of X G a10⟩
    a_is_declared := _
    e_is_declared := _
    d_is_declared := ⟨F11, B11, PySem.W.mg_of X G a11⟩
    a_is_statement := _
    e_is_statement := _
    d_is_statement := ⟨F12, B12, PySem.W.mg_of X G a12⟩
    a_Function_init := _
    e_Function_init := _
    d_Function_init := ⟨F13, B13⟩
    a_Program_init := _
    e_Program_init := _
    d_Program_init := ⟨F14, B14⟩
    a_copied := _
    e_copied := _
    d_copied := ⟨F15, B15, PySem.W.mg_of X G a15⟩
    a_copied_statement := _
    e_copied_statement := _
    d_copied_statement := ⟨F16, B16, PySem.W.mg_of X G a16⟩
    a_copied_statements := _
    e_copied_statements := _
    d_copied_statements := ⟨F17, B17, PySem.W.mg_of X G a17⟩
    a_copied_function := _
    e_copied_function := _
    d_copied_function := ⟨F18, B18, PySem.W.mg_of X G a18⟩
    a_copied_functions := _
    e_copied_functions := _
    d_copied_functions := ⟨F19, B19, PySem.W.mg_of X G a19⟩
    a_is_program := _
    e_is_program := _
    d_is_program := ⟨F20, B20, PySem.W.mg_of X G a20⟩
    a_is_function := _
    e_is_function := _
    d_is_function := ⟨F21, B21, PySem.W.mg_of X G a21⟩
    a_are_statements := _
    e_are_statements := _
    d_are_statements := ⟨F22, B22, PySem.W.mg_of X G a22⟩
    a_declared := _
    e_declared := _
    d_declared := ⟨F23, B23, PySem.W.mg_of X G a23⟩
    a_declared_by_lets := _
    e_declared_by_lets := _
    d_declared_by_lets := ⟨F24, B24, PySem.W.mg_of X G a24⟩
    a_all_names := _
    e_all_names := _
    d_all_names := ⟨F25, B25, PySem.W.mg_of X G a25⟩
    a_all_kinds := _
    e_all_kinds := _
    d_all_kinds := ⟨F26, B26, PySem.W.mg_of X G a26⟩
    a_are_different := _
    e_are_different := _
    d_are_different := ⟨F27, B27, PySem.W.mg_of X G a27⟩
    a_are_of_one_kind := _
    e_are_of_one_kind := _
    d_are_of_one_kind := ⟨F28, B28, PySem.W.mg_of X G a28⟩
    a_all_calls_fit := _
    e_all_calls_fit := _
    d_all_calls_fit := ⟨F29, B29, PySem.W.mg_of X G a29⟩
    a_calls_fit := _
    e_calls_fit := _
    d_calls_fit := ⟨F30, B30, PySem.W.mg_of X G a30⟩
    a__law_cell := _
    e__law_cell := _
    d__law_cell := ⟨F31, B31, PySem.W.mg_of X G a31⟩
    a__law_row := _
    e__law_row := _
    d__law_row := ⟨F32, B32, PySem.W.mg_of X G a32⟩
    a__law_draw := _
    e__law_draw := _
    d__law_draw := ⟨F33, B33, PySem.W.mg_of X G a33⟩
    a__law_accepts := _
    e__law_accepts := _
    d__law_accepts := ⟨F34, B34, PySem.W.mg_of X G a34⟩
    a__law_let := _
    e__law_let := _
    d__law_let := ⟨F35, B35, PySem.W.mg_of X G a35⟩
    a__law_counts := _
    e__law_counts := _
    d__law_counts := ⟨F36, B36, PySem.W.mg_of X G a36⟩
    a__law_within_functions := _
    e__law_within_functions := _
    d__law_within_functions := ⟨F37, B37, PySem.W.mg_of X G a37⟩
    a_RIGHTS := q_RIGHTS
    m_RIGHTS := PySem.W.mg_of X G u_RIGHTS
    t_RIGHTS := fun H => .inr ⟨_, _, _, v_RIGHTS, rfl, rfl, (by show 4 ≤ sizeLine; decide), (.cons ⟨_, rfl⟩ (.cons ⟨_, rfl⟩ (.cons ⟨_, rfl⟩ (.cons ⟨_, rfl⟩ .nil))))⟩
    k_MOST_RIGHTS := k_MOST_RIGHTS
    m_MOST_RIGHTS := PySem.W.mg_of X G u_MOST_RIGHTS
    k_SIGNS := k_SIGNS
    m_SIGNS := PySem.W.mg_of X G u_SIGNS
    k_MOST_SIGNS := k_MOST_SIGNS
    m_MOST_SIGNS := PySem.W.mg_of X G u_MOST_SIGNS
    k_MOST_STARS := k_MOST_STARS
    m_MOST_STARS := PySem.W.mg_of X G u_MOST_STARS
    k_MOST_DEPTH := k_MOST_DEPTH
    m_MOST_DEPTH := PySem.W.mg_of X G u_MOST_DEPTH
    k_MOST_NUMBER := k_MOST_NUMBER
    m_MOST_NUMBER := PySem.W.mg_of X G u_MOST_NUMBER
    k_MOST_FUNCTIONS := k_MOST_FUNCTIONS
    m_MOST_FUNCTIONS := PySem.W.mg_of X G u_MOST_FUNCTIONS
    k_MOST_PARAMS := k_MOST_PARAMS
    m_MOST_PARAMS := PySem.W.mg_of X G u_MOST_PARAMS
    k_MOST_IN_BODY := k_MOST_IN_BODY
    m_MOST_IN_BODY := PySem.W.mg_of X G u_MOST_IN_BODY
    k_MOST_STATEMENTS := k_MOST_STATEMENTS
    m_MOST_STATEMENTS := PySem.W.mg_of X G u_MOST_STATEMENTS
    b_ValueError := PySem.W.mg_none_of X G z_ValueError
    b_str := PySem.W.mg_none_of X G z_str
    b_type := PySem.W.mg_none_of X G z_type
    b_len := PySem.W.mg_none_of X G z_len
    b_all := PySem.W.mg_none_of X G z_all
    b_tuple := PySem.W.mg_none_of X G z_tuple
    b_int := PySem.W.mg_none_of X G z_int
    b_list := PySem.W.mg_none_of X G z_list
    b_isinstance := PySem.W.mg_none_of X G z_isinstance
    b_set := PySem.W.mg_none_of X G z_set
    b_range := PySem.W.mg_none_of X G z_range
    b_abs := PySem.W.mg_none_of X G z_abs
    b_bool := PySem.W.mg_none_of X G z_bool
    C_RightsError := C_RightsError
    g_RightsError := PySem.W.mg_of X G aC_RightsError
    n_RightsError_reason := n_RightsError_reason
    o_RightsError := { cls := ⟨nm_RightsError, qn_RightsError, N_RightsError, bs_RightsError, _, sn_RightsError, sub_RightsError, ab_RightsError, col_RightsError, dd_RightsError, m0_RightsError, m1_RightsError, m2_RightsError, m3_RightsError, m5_RightsError, xL_RightsError, by decide +kernel⟩, sa := sa_RightsError, exC := eC_RightsError, tyC := tC_RightsError, kC := kC_RightsError }
    x_RightsError := { ga := ga_RightsError, gg := gg_RightsError, exC := eC_RightsError, hdC := hC_RightsError }
    i_RightsError := a0
    t_RightsError := i0
    s_RightsError := own_caught eC_RightsError iC_RightsError tC_RightsError sC_RightsError
    C_Function := C_Function
    g_Function := PySem.W.mg_of X G aC_Function
    n_Function_name := n_Function_name
    n_Function_params := n_Function_params
    n_Function_body := n_Function_body
    c_Function := ⟨pg_Function, hd_Function, po_Function, sa_Function⟩
    k_Function := ⟨mk_Function, a13, i13, kc_Function⟩
    i_Function := ⟨ha_Function, hn_, ht_, hm_Function⟩
    C_Program := C_Program
    g_Program := PySem.W.mg_of X G aC_Program
    n_Program_functions := n_Program_functions
    n_Program_statements := n_Program_statements
    c_Program := ⟨pg_Program, hd_Program, po_Program, sa_Program⟩
    k_Program := ⟨mk_Program, a14, i14, kc_Program⟩
    i_Program := ⟨ha_Program, hn_, ht_, hm_Program⟩
    vV := vV }
  exact ⟨PySem.W.fnOf "law" "law" (defArgs s_law) (defBody s_law) (defScope s_law) .none kV38 dc38 pm38 an38 cd38 ct38, fun s v => .of_eq rfl, fun base _ _ => ok_law T F38⟩
end Ver
open PySem PySem.W PyProof.Rows
set_option maxRecDepth 100000 in
set_option maxHeartbeats 0 in
theorem PySem.Challenge.cw_rightskept_k12_programs_at_their_bounds_holds : PySem.Challenge.rw_rightskept_k12_programs_at_their_bounds.Holds := by
  w_on; o_law; k_head; (case hw => w_witness2)
  k_fill
  refine L2.walk_of (l := PySem.Challenge.rw_rightskept_k12_programs_at_their_bounds) (n := 63) (k := 12) (x := "script") (CX := fun _ => L2.CX0) (sp := fun w => Ver.spLaw _) rfl (by decide) rfl ⟨rfl, by decide, by decide⟩ (fun w h Y => PySem.W.kIn_of Y) ?F (fun _ _ a ns hl _ hS => ⟨a, ns, rfl, hS, hl, fun _ => rfl⟩) (fun _ _ _ _ _ h => h)
  case F =>
    intro w mg fa h KX G hmg
    refine' Ver.all_mk KX G hmg ?aC_RightsError ?n_RightsError_reason ?xL_RightsError ?sa_RightsError ?ga_RightsError ?gg_RightsError ?eC_RightsError ?tC_RightsError ?hC_RightsError ?iC_RightsError ?sC_RightsError ?kC_RightsError ?aC_Function ?n_Function_name ?n_Function_params ?n_Function_body ?pg_Function ?hd_Function ?po_Function ?sa_Function ?mk_Function ?kc_Function ?ha_Function ?hm_Function ?aC_Program ?n_Program_functions ?n_Program_statements ?pg_Program ?hd_Program ?po_Program ?sa_Program ?mk_Program ?kc_Program ?ha_Program ?hm_Program ?hn_ ?ht_ ?vV ?a0 ?i0 ?l0 ?c0 ?k0 ?a1 ?l1 ?c1 ?k1 ?a2 ?l2 ?c2 ?k2 ?a3 ?l3 ?c3 ?k3 ?a4 ?l4 ?c4 ?k4 ?a5 ?l5 ?c5 ?k5 ?a6 ?l6 ?c6 ?k6 ?a7 ?l7 ?c7 ?k7 ?a8 ?l8 ?c8 ?k8 ?a9 ?l9 ?c9 ?k9 ?a10 ?l10 ?c10 ?k10 ?a11 ?l11 ?c11 ?k11 ?a12 ?l12 ?c12 ?k12 ?a13 ?i13 ?l13 ?c13 ?k13 ?a14 ?i14 ?l14 ?c14 ?k14 ?a15 ?l15 ?c15 ?k15 ?a16 ?l16 ?c16 ?k16 ?a17 ?l17 ?c17 ?k17 ?a18 ?l18 ?c18 ?k18 ?a19 ?l19 ?c19 ?k19 ?a20 ?l20 ?c20 ?k20 ?a21 ?l21 ?c21 ?k21 ?a22 ?l22 ?c22 ?k22 ?a23 ?l23 ?c23 ?k23 ?a24 ?l24 ?c24 ?k24 ?a25 ?l25 ?c25 ?k25 ?a26 ?l26 ?c26 ?k26 ?a27 ?l27 ?c27 ?k27 ?a28 ?l28 ?c28 ?k28 ?a29 ?l29 ?c29 ?k29 ?a30 ?l30 ?c30 ?k30 ?a31 ?l31 ?c31 ?k31 ?a32 ?l32 ?c32 ?k32 ?a33 ?l33 ?c33 ?k33 ?a34 ?l34 ?c34 ?k34 ?a35 ?l35 ?c35 ?k35 ?a36 ?l36 ?c36 ?k36 ?a37 ?l37 ?c37 ?k37 ?a38 ?l38 ?c38 ?k38 ?u_RIGHTS ?v_RIGHTS ?u_MOST_RIGHTS ?u_SIGNS ?u_MOST_SIGNS ?u_MOST_STARS ?u_MOST_DEPTH ?u_MOST_NUMBER ?u_MOST_FUNCTIONS ?u_MOST_PARAMS ?u_MOST_IN_BODY ?u_MOST_STATEMENTS ?z_ValueError ?z_str ?z_type ?z_len ?z_all ?z_tuple ?z_int ?z_list ?z_isinstance ?z_set ?z_range ?z_abs ?z_bool
    (case aC_RightsError => k_is)
    (case n_RightsError_reason => k_is)
    (case xL_RightsError => k_is)
    (case sa_RightsError => k_is)
    (case ga_RightsError => k_is)
    (case gg_RightsError => k_is)
    (case eC_RightsError => k_is)
    (case tC_RightsError => k_is)
    (case hC_RightsError => k_is)
    (case iC_RightsError => k_is)
    (case sC_RightsError => first | rfl | k_is)
    (case kC_RightsError => k_is)
    (case aC_Function => k_is)
    (case n_Function_name => k_is)
    (case n_Function_params => k_is)
    (case n_Function_body => k_is)
    (case pg_Function => k_is)
    (case hd_Function => k_is)
    (case po_Function => k_is)
    (case sa_Function => k_is)
    (case mk_Function => k_is)
    (case kc_Function => k_is)
    (case ha_Function => k_is)
    (case hm_Function => k_is)
    (case aC_Program => k_is)
    (case n_Program_functions => k_is)
    (case n_Program_statements => k_is)
    (case pg_Program => k_is)
    (case hd_Program => k_is)
    (case po_Program => k_is)
    (case sa_Program => k_is)
    (case mk_Program => k_is)
    (case kc_Program => k_is)
    (case ha_Program => k_is)
    (case hm_Program => k_is)
    (case hn_ => k_is)
    (case ht_ => k_is)
    (case vV => k_is)
    (case a0 => k_is)
    (case i0 => k_is)
    (case l0 => k_is)
    (case c0 => k_is)
    (case k0 => k_is)
    (case a1 => k_is)
    (case l1 => k_is)
    (case c1 => k_is)
    (case k1 => k_is)
    (case a2 => k_is)
    (case l2 => k_is)
    (case c2 => k_is)
    (case k2 => k_is)
    (case a3 => k_is)
    (case l3 => k_is)
    (case c3 => k_is)
    (case k3 => k_is)
    (case a4 => k_is)
    (case l4 => k_is)
    (case c4 => k_is)
    (case k4 => k_is)
    (case a5 => k_is)
    (case l5 => k_is)
    (case c5 => k_is)
    (case k5 => k_is)
    (case a6 => k_is)
    (case l6 => k_is)
    (case c6 => k_is)
    (case k6 => k_is)
    (case a7 => k_is)
    (case l7 => k_is)
    (case c7 => k_is)
    (case k7 => k_is)
    (case a8 => k_is)
    (case l8 => k_is)
    (case c8 => k_is)
    (case k8 => k_is)
    (case a9 => k_is)
    (case l9 => k_is)
    (case c9 => k_is)
    (case k9 => k_is)
    (case a10 => k_is)
    (case l10 => k_is)
    (case c10 => k_is)
    (case k10 => k_is)
    (case a11 => k_is)
    (case l11 => k_is)
    (case c11 => k_is)
    (case k11 => k_is)
    (case a12 => k_is)
    (case l12 => k_is)
    (case c12 => k_is)
    (case k12 => k_is)
    (case a13 => k_is)
    (case i13 => k_is)
    (case l13 => k_is)
    (case c13 => k_is)
    (case k13 => k_is)
    (case a14 => k_is)
    (case i14 => k_is)
    (case l14 => k_is)
    (case c14 => k_is)
    (case k14 => k_is)
    (case a15 => k_is)
    (case l15 => k_is)
    (case c15 => k_is)
    (case k15 => k_is)
    (case a16 => k_is)
    (case l16 => k_is)
    (case c16 => k_is)
    (case k16 => k_is)
    (case a17 => k_is)
    (case l17 => k_is)
    (case c17 => k_is)
    (case k17 => k_is)
    (case a18 => k_is)
    (case l18 => k_is)
    (case c18 => k_is)
    (case k18 => k_is)
    (case a19 => k_is)
    (case l19 => k_is)
    (case c19 => k_is)
    (case k19 => k_is)
    (case a20 => k_is)
    (case l20 => k_is)
    (case c20 => k_is)
    (case k20 => k_is)
    (case a21 => k_is)
    (case l21 => k_is)
    (case c21 => k_is)
    (case k21 => k_is)
    (case a22 => k_is)
    (case l22 => k_is)
    (case c22 => k_is)
    (case k22 => k_is)
    (case a23 => k_is)
    (case l23 => k_is)
    (case c23 => k_is)
    (case k23 => k_is)
    (case a24 => k_is)
    (case l24 => k_is)
    (case c24 => k_is)
    (case k24 => k_is)
    (case a25 => k_is)
    (case l25 => k_is)
    (case c25 => k_is)
    (case k25 => k_is)
    (case a26 => k_is)
    (case l26 => k_is)
    (case c26 => k_is)
    (case k26 => k_is)
    (case a27 => k_is)
    (case l27 => k_is)
    (case c27 => k_is)
    (case k27 => k_is)
    (case a28 => k_is)
    (case l28 => k_is)
    (case c28 => k_is)
    (case k28 => k_is)
    (case a29 => k_is)
    (case l29 => k_is)
    (case c29 => k_is)
    (case k29 => k_is)
    (case a30 => k_is)
    (case l30 => k_is)
    (case c30 => k_is)
    (case k30 => k_is)
    (case a31 => k_is)
    (case l31 => k_is)
    (case c31 => k_is)
    (case k31 => k_is)
    (case a32 => k_is)
    (case l32 => k_is)
    (case c32 => k_is)
    (case k32 => k_is)
    (case a33 => k_is)
    (case l33 => k_is)
    (case c33 => k_is)
    (case k33 => k_is)
    (case a34 => k_is)
    (case l34 => k_is)
    (case c34 => k_is)
    (case k34 => k_is)
    (case a35 => k_is)
    (case l35 => k_is)
    (case c35 => k_is)
    (case k35 => k_is)
    (case a36 => k_is)
    (case l36 => k_is)
    (case c36 => k_is)
    (case k36 => k_is)
    (case a37 => k_is)
    (case l37 => k_is)
    (case c37 => k_is)
    (case k37 => k_is)
    (case a38 => k_is)
    (case l38 => k_is)
    (case c38 => k_is)
    (case k38 => k_is)
    (case u_RIGHTS => k_is)
    (case v_RIGHTS => k_is)
    (case u_MOST_RIGHTS => k_is)
    (case u_SIGNS => k_is)
    (case u_MOST_SIGNS => k_is)
    (case u_MOST_STARS => k_is)
    (case u_MOST_DEPTH => k_is)
    (case u_MOST_NUMBER => k_is)
    (case u_MOST_FUNCTIONS => k_is)
    (case u_MOST_PARAMS => k_is)
    (case u_MOST_IN_BODY => k_is)
    (case u_MOST_STATEMENTS => k_is)
    (case z_ValueError => k_is)
    (case z_str => k_is)
    (case z_type => k_is)
    (case z_len => k_is)
    (case z_all => k_is)
    (case z_tuple => k_is)
    (case z_int => k_is)
    (case z_list => k_is)
    (case z_isinstance => k_is)
    (case z_set => k_is)
    (case z_range => k_is)
    (case z_abs => k_is)
    (case z_bool => k_is)
