import PyProof.Rows.All
import Wide.All
import OpenK.AllK
import Wide.FinOn
import HandS.ForMost
import HandS.Evl
import HandS.TupAny
import HandS.TupMul
import HandS.IsInst
import HandS.Zip
import HandS.Deep
import HandS.Style
import HandS.Strs
import HandS.More
import HandS.Exc
import HandS.ExcInit
import HandS.ExcOwn
import HandS.ExcField
import HandS.WordsExc
import HandS.Dict
import HandS.Walk
import HandS.DictComp
import PySem.Challenge.RW_rightskept_k11_programs_are_checked
set_option Elab.async false
set_option linter.all false
set_option maxRecDepth 100000
set_option maxHeartbeats 4000000
namespace Ver
open PySem L2 Evl
/-- a new list, a new tuple -/
def NewL (xs : List V) (H : Hp) (Q : VK) : Prop := xs.length ≤ sizeLine ∧ ∀ p, H p = none → Q (.ref p) (upd H p (.lst xs))
def NewU (xs : List V) (H : Hp) (Q : VK) : Prop := xs.length ≤ sizeLine ∧ ∀ p, H p = none → Q (.ref p) (upd H p (.tup xs))
/-! ## a small executor over readings: one lemma a head -/
section
variable {K : PySem.W.Frag} {σ : L2.St} {H H' H1 : Hp} {ta tb te : TE} {t u c : TT} {ts us : TS} {x y z v : V} {r : R2} {D : Ends} {g : TG} {Q : VK} {i j : Nat}
theorem w_seq (h : ts { D with nx := us D } σ H) : tSeq ts us D σ H := h
theorem w_next (h : D.nx σ H) : tNext D σ H := h
theorem w_asg (h : te σ H fun a Ha => g a σ Ha D.nx) : tAsg te g D σ H := h
theorem w_name {N : L2.St → Hp → Prop} (h : N (σ.set i (some v)) H) : gName i v σ H N := h
theorem w_if (h : c σ H fun k Hk => if k = true then ts D σ Hk else us D σ Hk) : tIfS c ts us D σ H := h
theorem w_ret (h : te σ H D.rt) : tRet te D σ H := h
theorem w_drop (h : te σ H fun _ Ha => D.nx σ Ha) : tDrop te D σ H := h
theorem w_brk (h : D.bk σ H) : tBreak D σ H := h
theorem w_cont (h : D.ct σ H) : tCont D σ H := h
theorem w_var (e : σ[i]? = some (some v)) (h : Q v H) : tVar i σ H Q := ⟨v, e, h⟩
theorem w_c (h : Q v H) : tC v σ H Q := h
theorem w_op (h : ta σ H fun a Ha => tb σ Ha fun b Hb => r a b Hb Q) : tOp r ta tb σ H Q := h
theorem w_un {f : V → Hp → VK → Prop} (h : ta σ H fun a Ha => f a Ha Q) : tUn f ta σ H Q := h
theorem w_I0 {f : Int → Int → V} {a b : Int} (h : Q (f a b) H) : rI0 f (.int a) (.int b) H Q := ⟨a, b, rfl, rfl, h⟩
theorem w_I {C : Int → Int → Prop} {f : Int → Int → V} {a b : Int} (hc : C a b) (h : Q (f a b) H) : rI C f (.int a) (.int b) H Q := ⟨a, b, rfl, rfl, hc, h⟩
theorem w_neg {a : Int} (h : Q (.int (-a)) H) : rU (fun n => .int (-n)) (.int a) H Q := ⟨a, rfl, h⟩
theorem w_eq (e : scal x y = true) (h : Q (.bl (decide (x = y))) H) : rEq x y H Q := ⟨e, h⟩
theorem w_ne (e : scal x y = true) (h : Q (.bl (!decide (x = y))) H) : rNe x y H Q := ⟨e, h⟩
theorem w_eqI {a b : Int} (h : Q (.bl (decide (a = b))) H) : rEq (.int a) (.int b) H Q := ⟨rfl, by
  have e : decide (V.int a = V.int b) = decide (a = b) := by
    by_cases q : a = b
    · rw [q]; simp
    · rw [decide_eq_false q, decide_eq_false (fun z => q (V.int.inj z))]
  rw [e]; exact h⟩
theorem w_neI {a b : Int} (h : Q (.bl (!decide (a = b))) H) : rNe (.int a) (.int b) H Q := ⟨rfl, by
  have e : decide (V.int a = V.int b) = decide (a = b) := by
    by_cases q : a = b
    · rw [q]; simp
    · rw [decide_eq_false q, decide_eq_false (fun z => q (V.int.inj z))]
  rw [e]; exact h⟩
theorem w_eqS {a b : Str} (h : Q (.bl (decide (a = b))) H) : rEq (.str a) (.str b) H Q := ⟨rfl, by
  have e : decide (V.str a = V.str b) = decide (a = b) := by
    by_cases q : a = b
    · rw [q]; simp
    · rw [decide_eq_false q, decide_eq_false (fun z => q (V.str.inj z))]
  rw [e]; exact h⟩
theorem w_neS {a b : Str} (h : Q (.bl (!decide (a = b))) H) : rNe (.str a) (.str b) H Q := ⟨rfl, by
  have e : decide (V.str a = V.str b) = decide (a = b) := by
    by_cases q : a = b
    · rw [q]; simp
    · rw [decide_eq_false q, decide_eq_false (fun z => q (V.str.inj z))]
  rw [e]; exact h⟩
theorem w_eqB {a b : Bool} (h : Q (.bl (a == b)) H) : rEq (.bl a) (.bl b) H Q := ⟨rfl, by
  have e : decide (V.bl a = V.bl b) = (a == b) := by cases a <;> cases b <;> rfl
  rw [e]; exact h⟩
theorem w_neB {a b : Bool} (h : Q (.bl (a != b)) H) : rNe (.bl a) (.bl b) H Q := ⟨rfl, by
  have e : (!decide (V.bl a = V.bl b)) = (a != b) := by cases a <;> cases b <;> rfl
  rw [e]; exact h⟩
theorem w_test {N : Bool → Hp → Prop} (h : te σ H fun a Ha => ∃ k, a = .bl k ∧ N k Ha) : tTest te σ H N := h
theorem w_B {N : Bool → Hp → Prop} (h : te σ H fun a Ha => ∃ k, a = .bl k ∧ N k Ha) : tB te σ H N := h
theorem w_bl {N : Bool → Hp → Prop} {k : Bool} (h : N k H) : ∃ k', V.bl k = .bl k' ∧ N k' H := ⟨k, rfl, h⟩
theorem w_blV {N : Bool → Prop} {k : Bool} (h : N k) : ∃ k', V.bl k = .bl k' ∧ N k' := ⟨k, rfl, h⟩
theorem w_and {N : Bool → Hp → Prop} (h : t σ H fun k Hk => if k = true then u σ Hk N else N false Hk) : tAnd t u σ H N := h
theorem w_or {N : Bool → Hp → Prop} (h : t σ H fun k Hk => if k = true then N true Hk else u σ Hk N) : tOr t u σ H N := h
theorem w_not {N : Bool → Hp → Prop} (h : t σ H fun k Hk => N (!k) Hk) : tNot t σ H N := h
theorem w_andV (h : ta σ H fun a Ha => ∃ k, a = .bl k ∧ if k = true then tb σ Ha Q else Q (.bl false) Ha) : tAndV ta tb σ H Q := h
theorem w_orV (h : ta σ H fun a Ha => ∃ k, a = .bl k ∧ if k = true then Q (.bl true) Ha else tb σ Ha Q) : tOrV ta tb σ H Q := h
theorem w_notV (h : ta σ H fun a Ha => ∃ k, a = .bl k ∧ Q (.bl (!k)) Ha) : tNotV ta σ H Q := h
theorem w_ifE (h : c σ H fun k Hk => if k = true then ta σ Hk Q else tb σ Hk Q) : tIf c ta tb σ H Q := h
theorem w_yes {N : Bool → Hp → Prop} (h : N true H) : tYes σ H N := h
theorem w_nil {N : List V → Hp → Prop} (h : N [] H) : tNil σ H N := h
theorem w_cons {tr : TA} {N : List V → Hp → Prop} (h : ta σ H fun a Ha => tr σ Ha fun xs Hb => N (a :: xs) Hb) : tCons ta tr σ H N := h
theorem w_CB {f : List V → Hp → VK → Prop} {a : TA} (h : a σ H fun vs Ha => f vs Ha Q) : tCB f a σ H Q := h
theorem w_call {sp : Sp} {dvs : List V} {E : XK} {a : TA} (h : a σ H fun vs Ha => sp (vs ++ dvs) Ha Q E) : tCall sp dvs E a σ H Q := h
theorem w_callN {sp : Sp} {E : XK} {a : TA} (h : a σ H fun vs Ha => sp vs Ha Q E) : tCall sp [] E a σ H Q := by
  have e : (fun (vs : List V) Ha => sp (vs ++ []) Ha Q E) = fun vs Ha => sp vs Ha Q E := by
    funext vs Ha
    rw [List.append_nil]
  show a σ H fun vs Ha => sp (vs ++ []) Ha Q E
  rw [e]
  exact h
theorem w_BM {T : String} {f : V → List V → Hp → VK → Prop} {a : TA} (h : te σ H fun x Ha => tyV K T x Ha ∧ a σ Ha fun xs Hb => f x xs Hb Q) : tBM K T f te a σ H Q := h
theorem w_BM0 {T : String} {f : V → List V → Hp → VK → Prop} (h : te σ H fun x Ha => tyV K T x Ha ∧ f x [] Ha Q) : tBM0 K T f te σ H Q := h
theorem w_noPart {N : Option Int → Hp → Prop} (h : N none H) : tNoPart σ H N := h
theorem w_part {N : Option Int → Hp → Prop} (h : te σ H fun a Ha => ∃ k, a = .int k ∧ N (some k) Ha) : tPart te σ H N := h
theorem w_int {N : Option Int → Hp → Prop} {k : Int} (h : N (some k) H) : ∃ k', V.int k = .int k' ∧ N (some k') H := ⟨k, rfl, h⟩
theorem w_sl {f : V → Option Int → Option Int → Hp → VK → Prop} {tl th : TO} (h : te σ H fun a Ha => tl σ Ha fun l Hb => th σ Hb fun m Hc => f a l m Hc Q) : tSl f te tl th σ H Q := h
theorem w_tup {a : TA} (h : a σ H fun xs Ha => NewU xs Ha Q) : tTup a σ H Q := h
theorem w_lst {a : TA} (h : a σ H fun xs Ha => NewL xs Ha Q) : tLst a σ H Q := h
theorem w_subG {to ti : TE} {f : TSet} {N : L2.St → Hp → Prop} (h : to σ H fun o Ha => ti σ Ha fun k Hb => f o k v Hb fun Hc => N σ Hc) : gSub to ti f v σ H N := h
theorem w_gtup {n : Nat} {gs : TGs} {N : L2.St → Hp → Prop} {p : Addr} {xs : List V} (hx : SqT K H p xs) (hn : xs.length = n) (h : gs xs σ H N) : gTup K n gs (.ref p) σ H N := ⟨p, xs, rfl, hx, hn, h⟩
theorem w_gcons {gs : TGs} {xs : List V} {N : L2.St → Hp → Prop} (h : g v σ H fun σ' Ha => gs xs σ' Ha N) : gCons g gs (v :: xs) σ H N := ⟨v, xs, rfl, h⟩
theorem w_gnil {N : L2.St → Hp → Prop} (h : N σ H) : gNil [] σ H N := ⟨rfl, h⟩
theorem iteNT {A B : Prop} (h : B) : if (!true) = true then A else B := h
theorem iteNF {A B : Prop} (h : A) : if (!false) = true then A else B := h
theorem w_chain {r' : R2} {tc : TE} (h : ta σ H fun a Ha => tb σ Ha fun b Hb => r a b Hb fun z Hc => ∃ k, z = .bl k ∧ (if k = true then tc σ Hc fun c Hd => r' b c Hd Q else Q (.bl false) Hc)) : tChain r r' ta tb tc σ H Q := h
theorem w_lenS {a : Str} (hz : a.length ≤ 100000) (k : Q (.int a.length) H) : (∃ s, [V.str a] = [.str s] ∧ s.length ≤ sizeLine ∧ Q (.int s.length) H) := ⟨a, rfl, sz_of hz, k⟩
/-! loops -/
def LoopG (J : It) (g : TG) (b : TS) (D : Ends) (σ : L2.St) (H : Hp) : Prop := tFor (fun _ h R => R J h) g b D σ H
def CompG (J : It) (g : TG) (t : TT) (e : TE) (vs : List Nat) (σ : L2.St) (H : Hp) (Q : VK) : Prop := tLc (fun _ h R => R J h) g t e vs σ H Q
theorem w_for {wi : TI} (h : wi σ H fun J Ha => LoopG J g ts D σ Ha) : tFor wi g ts D σ H := h
theorem w_lc {wi : TI} {vs : List Nat} (h : wi σ H fun J Ha => CompG J g t te vs σ Ha Q) : tLc wi g t te vs σ H Q := h
theorem w_iR1 {a : TA} {R : It → Hp → Prop} (h : a σ H fun vs Ha => ∃ k : Int, vs = [.int k] ∧ -(2 ^ 62) ≤ k ∧ k < 2 ^ 62 ∧ R (Itr 0 k.toNat) Ha) : iRng1 a σ H R := h
theorem w_iR2 {a : TA} {R : It → Hp → Prop} (h : a σ H fun vs Ha => ∃ k l : Int, vs = [.int k, .int l] ∧ (-(2 ^ 62) ≤ k ∧ k < 2 ^ 62 ∧ -(2 ^ 62) ≤ l ∧ l < 2 ^ 62) ∧ R (Itr k (l - k).toNat) Ha) : iRng2 a σ H R := h
theorem w_iL {R : It → Hp → Prop} (h : te σ H fun a Ha => ∃ p, a = .ref p ∧ (∃ xs, SqL K Ha p xs) ∧ R (Itl K p) Ha) : iList K te σ H R := h
theorem w_iT {R : It → Hp → Prop} (h : te σ H fun a Ha => ∃ p, a = .ref p ∧ (∃ xs, SqT K Ha p xs) ∧ R (Itt K p) Ha) : iTup K te σ H R := h
theorem w_iS {R : It → Hp → Prop} (h : te σ H fun a Ha => ∃ s, a = .str s ∧ R (Its s) Ha) : iStr te σ H R := h
theorem r_R1 {k : Int} (hk : 0 ≤ k ∧ k ≤ 100000) (h : LoopG (Itr 0 k.toNat) g ts D σ H) : ∃ k' : Int, [V.int k] = [.int k'] ∧ -(2 ^ 62) ≤ k' ∧ k' < 2 ^ 62 ∧ LoopG (Itr 0 k'.toNat) g ts D σ H := ⟨k, rfl, by omega, by omega, h⟩
theorem c_R1 {k : Int} {vs : List Nat} (hk : 0 ≤ k ∧ k ≤ 100000) (h : CompG (Itr 0 k.toNat) g t te vs σ H Q) : ∃ k' : Int, [V.int k] = [.int k'] ∧ -(2 ^ 62) ≤ k' ∧ k' < 2 ^ 62 ∧ CompG (Itr 0 k'.toNat) g t te vs σ H Q := ⟨k, rfl, by omega, by omega, h⟩
theorem r_R2 {k l : Int} (hk : 0 ≤ k ∧ k ≤ 100000 ∧ -100000 ≤ l ∧ l ≤ 100000) (h : LoopG (Itr k (l - k).toNat) g ts D σ H) : ∃ k' l' : Int, [V.int k, V.int l] = [.int k', .int l'] ∧ (-(2 ^ 62) ≤ k' ∧ k' < 2 ^ 62 ∧ -(2 ^ 62) ≤ l' ∧ l' < 2 ^ 62) ∧ LoopG (Itr k' (l' - k').toNat) g ts D σ H := ⟨k, l, rfl, by omega, h⟩
theorem r_L {p : Addr} {xs : List V} (hx : SqL K H p xs) (h : LoopG (Itl K p) g ts D σ H) : ∃ q, V.ref p = .ref q ∧ (∃ xs, SqL K H q xs) ∧ LoopG (Itl K q) g ts D σ H := ⟨p, rfl, ⟨xs, hx⟩, h⟩
theorem c_L {p : Addr} {xs : List V} {vs : List Nat} (hx : SqL K H p xs) (h : CompG (Itl K p) g t te vs σ H Q) : ∃ q, V.ref p = .ref q ∧ (∃ xs, SqL K H q xs) ∧ CompG (Itl K q) g t te vs σ H Q := ⟨p, rfl, ⟨xs, hx⟩, h⟩
theorem r_T {p : Addr} {xs : List V} (hx : SqT K H p xs) (h : LoopG (Itt K p) g ts D σ H) : ∃ q, V.ref p = .ref q ∧ (∃ xs, SqT K H q xs) ∧ LoopG (Itt K q) g ts D σ H := ⟨p, rfl, ⟨xs, hx⟩, h⟩
theorem c_T {p : Addr} {xs : List V} {vs : List Nat} (hx : SqT K H p xs) (h : CompG (Itt K p) g t te vs σ H Q) : ∃ q, V.ref p = .ref q ∧ (∃ xs, SqT K H q xs) ∧ CompG (Itt K q) g t te vs σ H Q := ⟨p, rfl, ⟨xs, hx⟩, h⟩
theorem r_S {s : Str} (h : LoopG (Its s) g ts D σ H) : ∃ s', V.str s = .str s' ∧ LoopG (Its s') g ts D σ H := ⟨s, rfl, h⟩
theorem c_S {s : Str} {vs : List Nat} (h : CompG (Its s) g t te vs σ H Q) : ∃ s', V.str s = .str s' ∧ CompG (Its s') g t te vs σ H Q := ⟨s, rfl, h⟩
theorem lp_range {n : Nat} {lo : Int} (P : Nat → L2.St → Hp → Prop) (h0 : P 0 σ H)
    (hs : ∀ k s h, k < n → P k s h → g (.int (lo + k)) s h fun s2 h2 => ts { D with nx := P (k + 1), ct := P (k + 1), bk := D.nx } s2 h2)
    (hd : ∀ s h, P n s h → D.nx s h) : LoopG (Itr lo n) g ts D σ H := for_range P h0 hs hd
theorem lp_list {p : Addr} {xs : List V} (P : Nat → L2.St → Hp → Prop) (h0 : P 0 σ H) (hl : ∀ k s h, k ≤ xs.length → P k s h → SqL K h p xs)
    (hs : ∀ k a s h, xs[k]? = some a → P k s h → g a s h fun s2 h2 => ts { D with nx := P (k + 1), ct := P (k + 1), bk := D.nx } s2 h2)
    (hd : ∀ s h, P xs.length s h → D.nx s h) : LoopG (Itl K p) g ts D σ H := for_list P h0 hl hs hd
theorem lp_tup {p : Addr} {xs : List V} (P : Nat → L2.St → Hp → Prop) (h0 : P 0 σ H) (hl : ∀ k s h, k ≤ xs.length → P k s h → SqT K h p xs)
    (hs : ∀ k a s h, xs[k]? = some a → P k s h → g a s h fun s2 h2 => ts { D with nx := P (k + 1), ct := P (k + 1), bk := D.nx } s2 h2)
    (hd : ∀ s h, P xs.length s h → D.nx s h) : LoopG (Itt K p) g ts D σ H := for_tup P h0 hl hs hd
theorem cp_range {n : Nat} {lo : Int} {vs : List Nat} (P : Addr → Nat → Hp → Prop) (h0 : ∀ p, H p = none → P p 0 (upd H p (.lst [])))
    (hs : ∀ p k h, H p = none → k < n → P p k h → g (.int (lo + k)) (wipe σ vs) h fun s2 h2 => wipe s2 vs = wipe σ vs ∧ t s2 h2 fun b h3 =>
      if b = true then te s2 h3 fun a h4 => ∃ acc, h4 p = some (.lst acc) ∧ acc.length < sizeLine ∧ P p (k + 1) (upd h4 p (.lst (acc ++ [a]))) else P p (k + 1) h3)
    (hd : ∀ p h, H p = none → P p n h → Q (.ref p) h) : CompG (Itr lo n) g t te vs σ H Q := fun p hp => lc_range (P p) (h0 p hp) (fun k h hk => hs p k h hp hk) (fun h => hd p h hp)
theorem cp_list {a : Addr} {xs : List V} {vs : List Nat} (P : Addr → Nat → Hp → Prop) (h0 : ∀ p, H p = none → P p 0 (upd H p (.lst []))) (hl : ∀ p k h, H p = none → k ≤ xs.length → P p k h → SqL K h a xs)
    (hs : ∀ p k x h, H p = none → xs[k]? = some x → P p k h → g x (wipe σ vs) h fun s2 h2 => wipe s2 vs = wipe σ vs ∧ t s2 h2 fun b h3 =>
      if b = true then te s2 h3 fun a h4 => ∃ acc, h4 p = some (.lst acc) ∧ acc.length < sizeLine ∧ P p (k + 1) (upd h4 p (.lst (acc ++ [a]))) else P p (k + 1) h3)
    (hd : ∀ p h, H p = none → P p xs.length h → Q (.ref p) h) : CompG (Itl K a) g t te vs σ H Q := fun p hp => lc_list (P p) (h0 p hp) (fun k h hk => hl p k h hp hk) (fun k x h hk => hs p k x h hp hk) (fun h => hd p h hp)
theorem cp_tup {a : Addr} {xs : List V} {vs : List Nat} (P : Addr → Nat → Hp → Prop) (h0 : ∀ p, H p = none → P p 0 (upd H p (.lst []))) (hl : ∀ p k h, H p = none → k ≤ xs.length → P p k h → SqT K h a xs)
    (hs : ∀ p k x h, H p = none → xs[k]? = some x → P p k h → g x (wipe σ vs) h fun s2 h2 => wipe s2 vs = wipe σ vs ∧ t s2 h2 fun b h3 =>
      if b = true then te s2 h3 fun a h4 => ∃ acc, h4 p = some (.lst acc) ∧ acc.length < sizeLine ∧ P p (k + 1) (upd h4 p (.lst (acc ++ [a]))) else P p (k + 1) h3)
    (hd : ∀ p h, H p = none → P p xs.length h → Q (.ref p) h) : CompG (Itt K a) g t te vs σ H Q := fun p hp => lc_tup (P p) (h0 p hp) (fun k h hk => hl p k h hp hk) (fun k x h hk => hs p k x h hp hk) (fun h => hd p h hp)
end
/-! ## heaps: what an edge keeps -/
/-- all but S is kept -/
def Ks (S : List Addr) (H H' : Hp) : Prop := ∀ a o, a ∉ S → H a = some o → H' a = some o
theorem Ks.refl (S : List Addr) (H : Hp) : Ks S H H := fun _ _ _ h => h
theorem Ks.trans {S : List Addr} {H H1 H2 : Hp} (a : Ks S H H1) (b : Ks S H1 H2) : Ks S H H2 := fun x o n h => b x o n (a x o n h)
theorem Ks.of {S : List Addr} {H H' : Hp} (e : Ex H H') : Ks S H H' := fun a o _ h => e a o h
theorem Ks.upd {S : List Addr} {H H' : Hp} {p : Addr} {o : HO} (e : Ks S H H') (h : p ∈ S) : Ks S H (L2.upd H' p o) := fun a u n q => by
  rw [upd_ne (show a ≠ p from fun z => n (by rw [z]; exact h))]
  exact e a u n q
theorem Ks.mut {S : List Addr} {H H' : Hp} {p : Addr} {o : HO} (e : Ks S H H') (h : H p = none) : Ks S H (L2.upd H' p o) := fun a u n q => by
  rw [upd_ne (ne_of_none q h)]
  exact e a u n q
theorem Ks.drop {S : List Addr} {H H' : Hp} {p : Addr} (e : Ks (p :: S) H H') (h : H p = none) : Ks S H H' := fun a u n q =>
  e a u (fun z => (List.mem_cons.mp z).elim (ne_of_none q h) n) q
theorem Ks.mono {S S' : List Addr} {H H' : Hp} (e : Ks S H H') (h : ∀ a ∈ S, a ∈ S') : Ks S' H H' := fun a u n q => e a u (fun z => n (h a z)) q
theorem Ks.ex {H H' : Hp} (e : Ks [] H H') : Ex H H' := fun a u q => e a u (by simp) q
theorem ex_at {H H' : Hp} {a : Addr} {o : HO} (h : H a = some o) (e : Ex H H') : H' a = some o := e a o h
theorem ks_at {S : List Addr} {H H' : Hp} {a : Addr} {o : HO} (h : H a = some o) (e : Ks S H H') (n : a ∉ S) : H' a = some o := e a o n h
theorem ex_sl {K : PySem.W.Frag} {H H' : Hp} {a : Addr} {xs : List V} (h : SqL K H a xs) (e : Ex H H') : SqL K H' a xs := ex_l e h
theorem ex_st {K : PySem.W.Frag} {H H' : Hp} {a : Addr} {xs : List V} (h : SqT K H a xs) (e : Ex H H') : SqT K H' a xs := ex_t e h
theorem nin_nil {a : Addr} : a ∉ ([] : List Addr) := by simp
theorem nin_cons {a b : Addr} {S : List Addr} (h : a ≠ b) (k : a ∉ S) : a ∉ b :: S := fun z => (List.mem_cons.mp z).elim h k
theorem ne_old {H : Hp} {a p : Addr} {o : HO} (h : H a = some o) (n : H p = none) : a ≠ p := ne_of_none h n
/-- a new object -/
theorem new_lst {H : Hp} {xs : List V} {Q : VK} (hz : xs.length ≤ 100000) (k : ∀ p H1, H p = none → Ex H H1 → H1 p = some (.lst xs) → Q (.ref p) H1) :
    NewL xs H Q := ⟨sz_of hz, fun p n => k p _ n (Ex.new n) upd_same⟩
theorem new_tup {H : Hp} {xs : List V} {Q : VK} (hz : xs.length ≤ 100000) (k : ∀ p H1, H p = none → Ex H H1 → H1 p = some (.tup xs) → Q (.ref p) H1) :
    NewU xs H Q := ⟨sz_of hz, fun p n => k p _ n (Ex.new n) upd_same⟩
theorem new_any {H : Hp} {o : HO} {Q : VK} (k : ∀ p H1, H p = none → Ex H H1 → H1 p = some o → Q (.ref p) H1) : ∀ p, H p = none → Q (.ref p) (upd H p o) := fun p n => k p _ n (Ex.new n) upd_same
/-! ## built-ins by named relations -/
def qAbs : List V → Hp → VK → Prop := fun xs H Q => ∃ n, xs = [.int n] ∧ Q (.int (if n < 0 then -n else n)) H
def qInt : List V → Hp → VK → Prop := fun xs H Q => (∃ n, xs = [.int n] ∧ Q (.int n) H) ∨ ∃ k, xs = [.bl k] ∧ Q (.int (if k then 1 else 0)) H
def qTup (K : PySem.W.Frag) : List V → Hp → VK → Prop := fun xs H Q => ∃ p ys, xs = [.ref p] ∧ ((SqL K H p ys ∧ ∀ l, H l = none → Q (.ref l) (upd H l (.tup ys))) ∨ (SqT K H p ys ∧ Q (.ref p) H))
def qLenS : List V → Hp → VK → Prop := fun xs H Q => ∃ s, xs = [.str s] ∧ s.length ≤ sizeLine ∧ Q (.int s.length) H
def qInS (neg : Bool) : R2 := fun x y H Q => ∃ i j, x = .str i ∧ y = .str j ∧ Q (.bl (if neg then (!(!(Builtin.Str.occurrences j i 0 j.length 1).isEmpty)) else (!(Builtin.Str.occurrences j i 0 j.length 1).isEmpty))) H
section
variable {X : Cx}
theorem k_abs : CallR X (.builtin "abs") qAbs := call_abs
theorem k_int : CallR X (.type "int") qInt := call_int1
theorem k_tup : CallR X (.type "tuple") (qTup X.K) := call_tuple_of
theorem k_lst : CallR X (.type "list") (rListS X.K) := call_list_of
theorem k_len : CallR X (.builtin "len") (rLenS X.K) := call_len_seq
theorem k_lenS : CallR X (.builtin "len") qLenS := call_len_str
theorem k_inS : OpR X (compareOp .In) (qInS false) := op_in_str
theorem k_ninS : OpR X (compareOp .NotIn) (qInS true) := op_notin_str
end
section
variable {K : PySem.W.Frag} {H : Hp} {Q : VK} {p : Addr} {xs : List V}
theorem a_abs {n : Int} (k : Q (.int (if n < 0 then -n else n)) H) : qAbs [.int n] H Q := ⟨n, rfl, k⟩
theorem a_intI {n : Int} (k : Q (.int n) H) : qInt [.int n] H Q := .inl ⟨n, rfl, k⟩
theorem a_intB {b : Bool} (k : Q (.int (if b then 1 else 0)) H) : qInt [.bl b] H Q := .inr ⟨b, rfl, k⟩
theorem a_tupL (h : SqL K H p xs) (k : ∀ q H1, H q = none → Ex H H1 → H1 q = some (.tup xs) → Q (.ref q) H1) : qTup K [.ref p] H Q := ⟨p, xs, rfl, .inl ⟨h, fun q n => k q _ n (Ex.new n) upd_same⟩⟩
theorem a_tupT (h : SqT K H p xs) (k : Q (.ref p) H) : qTup K [.ref p] H Q := ⟨p, xs, rfl, .inr ⟨h, k⟩⟩
theorem a_lstL (h : SqL K H p xs) (k : ∀ q H1, H q = none → Ex H H1 → H1 q = some (.lst xs) → Q (.ref q) H1) : rListS K [.ref p] H Q := ⟨p, xs, rfl, .inl h, fun q n => k q _ n (Ex.new n) upd_same⟩
theorem a_lstT (h : SqT K H p xs) (k : ∀ q H1, H q = none → Ex H H1 → H1 q = some (.lst xs) → Q (.ref q) H1) : rListS K [.ref p] H Q := ⟨p, xs, rfl, .inr h, fun q n => k q _ n (Ex.new n) upd_same⟩
theorem a_lenS {s : Str} (hz : s.length ≤ 100000) (k : Q (.int s.length) H) : qLenS [.str s] H Q := ⟨s, rfl, sz_of hz, k⟩
theorem a_inS {i j : Str} {b : Bool} (e : (!(Builtin.Str.occurrences j i 0 j.length 1).isEmpty) = b) (k : Q (.bl b) H) : qInS false (.str i) (.str j) H Q := ⟨i, j, rfl, rfl, by rw [e]; exact k⟩
theorem a_ninS {i j : Str} {b : Bool} (e : (!(Builtin.Str.occurrences j i 0 j.length 1).isEmpty) = b) (k : Q (.bl (!b)) H) : qInS true (.str i) (.str j) H Q := ⟨i, j, rfl, rfl, by rw [e]; exact k⟩
end
/-! ## is, is not -/
def qIsN : R2 := fun x y H Q => y = .non ∧ Q (.bl (decide (x = .non))) H
def qNotN : R2 := fun x y H Q => y = .non ∧ Q (.bl (!decide (x = .non))) H
def qIsTy : R2 := fun x y H Q => ∃ m n, x = .ty m ∧ y = .ty n ∧ Q (.bl (decide (m = n))) H
def qNotTy : R2 := fun x y H Q => ∃ m n, x = .ty m ∧ y = .ty n ∧ Q (.bl (!decide (m = n))) H
section
variable {X : Cx}
theorem k_isN : OpR X (compareOp .Is) qIsN := op_isN
theorem k_notN : OpR X (compareOp .IsNot) qNotN := op_notN
theorem k_isTy : OpR X (compareOp .Is) qIsTy := op_isTy
theorem k_notTy : OpR X (compareOp .IsNot) qNotTy := op_isNotTy
end
section
variable {H : Hp} {Q : VK}
theorem a_isNn (k : Q (.bl true) H) : qIsN .non .non H Q := ⟨rfl, k⟩
theorem a_isNr {p : Addr} (k : Q (.bl false) H) : qIsN (.ref p) .non H Q := ⟨rfl, k⟩
theorem a_notNn (k : Q (.bl false) H) : qNotN .non .non H Q := ⟨rfl, k⟩
theorem a_notNr {p : Addr} (k : Q (.bl true) H) : qNotN (.ref p) .non H Q := ⟨rfl, k⟩
theorem a_isTy {m n : String} (k : Q (.bl (decide (m = n))) H) : qIsTy (.ty m) (.ty n) H Q := ⟨m, n, rfl, rfl, k⟩
theorem a_notTy {m n : String} (k : Q (.bl (!decide (m = n))) H) : qNotTy (.ty m) (.ty n) H Q := ⟨m, n, rfl, rfl, k⟩
theorem a_isBl {m n : Bool} (k : Q (.bl (m == n)) H) : rIsB (.bl m) (.bl n) H Q := ⟨m, n, rfl, rfl, by
  have e : decide (m = n) = (m == n) := by cases m <;> cases n <;> rfl
  rw [e]; exact k⟩
theorem a_notBl {m n : Bool} (k : Q (.bl (m != n)) H) : rNotB (.bl m) (.bl n) H Q := ⟨m, n, rfl, rfl, by
  have e : (!decide (m = n)) = (m != n) := by cases m <;> cases n <;> rfl
  rw [e]; exact k⟩
theorem w_par {i j : Nat} {a : TA} {D : Ends} {σ : L2.St} (h : a σ H fun vs Ha => ∃ v w, vs = [v, w] ∧ D.nx ((σ.set i (some v)).set j (some w)) Ha) : tPar i j a D σ H := h
theorem a_cat {p q : Addr} {xs ys : List V} (h1 : H p = some (.lst xs)) (h2 : H q = some (.lst ys)) (hz : xs.length + ys.length ≤ 100000) (k : ∀ l H1, H l = none → Ex H H1 → H1 l = some (.lst (xs ++ ys)) → Q (.ref l) H1) : rCat (.ref p) (.ref q) H Q :=
  ⟨p, q, xs, ys, rfl, rfl, h1, h2, sz_of hz, fun l n => k l _ n (Ex.new n) upd_same⟩
end
/-! ## the rules that name the written part, by its name -/
section
variable (K : PySem.W.Frag) {X : Cx}
theorem plK {tg l : Expr} {tl : TE} (hl : PE X l tl) (h : X.K = K := by rfl) : PI X tg l (iList K tl) := by subst h; exact pi_list hl
theorem ptK {tg l : Expr} {tl : TE} (hl : PE X l tl) (h : X.K = K := by rfl) : PI X tg l (iTup K tl) := by subst h; exact pi_tup hl
theorem ixL (h : X.K = K := by rfl) : IxR X (rIxL K) := by subst h; exact ix_list
theorem ixT (h : X.K = K := by rfl) : IxR X (rIxT K) := by subst h; exact ix_tup
theorem slA (h : X.K = K := by rfl) : SlR X (rSlA K) := by subst h; exact sl_tupA
theorem slL (h : X.K = K := by rfl) : SlR X (rSlL K) := by subst h; exact sl_list
theorem lenK (h : X.K = K := by rfl) : CallR X (.builtin "len") (rLenS K) := by subst h; exact k_len
theorem inK (h : X.K = K := by rfl) : OpR X (compareOp .In) (rIn K false) := by subst h; exact op_in_seq
theorem ninK (h : X.K = K := by rfl) : OpR X (compareOp .NotIn) (rIn K true) := by subst h; exact op_notIn_seq
theorem lstK (h : X.K = K := by rfl) : CallR X (.type "list") (rListS K) := by subst h; exact k_lst
theorem catAK (h : X.K = K := by rfl) : OpR X (binaryOp .Add) (rCatA K) := by subst h; exact op_catA
theorem eqDK (hu : X.A.units + 64 < cLine) (h : X.K = K := by rfl) : OpR X (compareOp .Eq) (rEqD K) := by subst h; exact op_eqD hu
theorem neDK (hu : X.A.units + 64 < cLine) (h : X.K = K := by rfl) : OpR X (compareOp .NotEq) (rNeD K) := by subst h; exact op_neD hu
theorem inDK (hu : X.A.units + 65 < cLine) (h : X.K = K := by rfl) : OpR X (compareOp .In) (rInD K) := by subst h; exact op_inD hu
theorem ninDK (hu : X.A.units + 65 < cLine) (h : X.K = K := by rfl) : OpR X (compareOp .NotIn) (rNotInD K) := by subst h; exact op_notInD hu
theorem allK (hc : X.calm = true := by rfl) (h : X.K = K := by rfl) : CallR X (.builtin "all") (rAll K) := by subst h; exact cr_all hc
theorem typK (h : X.K = K := by rfl) : CallR X (.type "type") (rTyp K) := by subst h; exact call_type1
theorem isiK (h : X.K = K := by rfl) : CallR X (.builtin "isinstance") (rIsi K) := by subst h; exact call_isi
end
theorem hd_of {A : Around} {k : Nat} (hr : Room k A) : A.units + 65 < cLine := by have := hr.un; omega
/-! ## operations by what is known of the heap -/
section
variable {K : PySem.W.Frag} {H : Hp} {Q : VK} {p q : Addr} {xs ys : List V} {v x : V} {n : Int}
theorem a_ixL (h : SqL K H p xs) (e : atI xs n = some v) (k : Q v H) : rIxL K (.ref p) (.int n) H Q := ⟨p, xs, n, v, rfl, rfl, h, e, k⟩
theorem a_ixT (h : SqT K H p xs) (e : atI xs n = some v) (k : Q v H) : rIxT K (.ref p) (.int n) H Q := ⟨p, xs, n, v, rfl, rfl, h, e, k⟩
theorem a_lenL (h : SqL K H p xs) (k : Q (.int xs.length) H) : rLenS K [.ref p] H Q := ⟨p, xs, rfl, .inl h, k⟩
theorem a_lenT (h : SqT K H p xs) (k : Q (.int xs.length) H) : rLenS K [.ref p] H Q := ⟨p, xs, rfl, .inr h, k⟩
theorem a_app (h : H p = some (.lst xs)) (hz : xs.length < 100000) (k : Q .non (upd H p (.lst (xs ++ [v])))) : rAppend (.ref p) [v] H Q := ⟨p, xs, v, rfl, rfl, h, sz_lt hz, k⟩
theorem a_ty (h : H p = some (.lst xs)) : tyV K "list" (.ref p) H := .inl ⟨rfl, xs, SqL.of h⟩
theorem a_setL {j : Nat} {N : Hp → Prop} (h : H p = some (.lst xs)) (hj : j < xs.length) (k : N (upd H p (.lst (xs.set j v)))) : rSetL (.ref p) (.int j) v H N := ⟨p, xs, j, j, rfl, rfl, h, ixN_nat hj, k⟩
theorem a_inL (h : SqL K H p xs) (hx : flatV x = true) (ha : xs.all flatV = true) (k : Q (.bl (inV x xs)) H) : rIn K false x (.ref p) H Q := ⟨p, xs, rfl, .inl h, hx, ha, k⟩
theorem a_inT (h : SqT K H p xs) (hx : flatV x = true) (ha : xs.all flatV = true) (k : Q (.bl (inV x xs)) H) : rIn K false x (.ref p) H Q := ⟨p, xs, rfl, .inr h, hx, ha, k⟩
theorem a_ninL (h : SqL K H p xs) (hx : flatV x = true) (ha : xs.all flatV = true) (k : Q (.bl (!inV x xs)) H) : rIn K true x (.ref p) H Q := ⟨p, xs, rfl, .inl h, hx, ha, k⟩
theorem a_ninT (h : SqT K H p xs) (hx : flatV x = true) (ha : xs.all flatV = true) (k : Q (.bl (!inV x xs)) H) : rIn K true x (.ref p) H Q := ⟨p, xs, rfl, .inr h, hx, ha, k⟩
end
def NewD (H : Hp) (Q : VK) : Prop := ∀ p, H p = none → Q (.ref p) (upd H p (.dK []))
theorem w_dK {σ : L2.St} {H : Hp} {Q : VK} (h : NewD H Q) : tDNewK σ H Q := h
theorem new_dK {H : Hp} {Q : VK} (k : ∀ p H1, H p = none → Ex H H1 → H1 p = some (.dK []) → Q (.ref p) H1) : NewD H Q := fun p n => k p _ n (Ex.new n) upd_same
/-! ## the box of draws: a list of a row and a place -/
def Bx (H : Hp) (b r : Addr) : Prop := ∃ (n : Nat) (ns : List Int), H b = some (.lst [.ref r, .int (n : Int)]) ∧ H r = some (.lst (ns.map V.int)) ∧ ns.length ≤ 100000
theorem bx_ex {H H' : Hp} {b r : Addr} (h : Bx H b r) (e : Ex H H') : Bx H' b r := by
  obtain ⟨n, ns, h1, h2, h3⟩ := h
  exact ⟨n, ns, e _ _ h1, e _ _ h2, h3⟩
theorem bx_ks {S : List Addr} {H H' : Hp} {b r : Addr} (h : Bx H b r) (e : Ks S H H') (nb : b ∉ S) (nr : r ∉ S) : Bx H' b r := by
  obtain ⟨n, ns, h1, h2, h3⟩ := h
  exact ⟨n, ns, e _ _ nb h1, e _ _ nr h2, h3⟩
theorem bx_nb {H : Hp} {b r p : Addr} (h : Bx H b r) (n : H p = none) : b ≠ p := by
  obtain ⟨_, _, h1, _⟩ := h
  exact ne_of_none h1 n
theorem bx_nr {H : Hp} {b r p : Addr} (h : Bx H b r) (n : H p = none) : r ≠ p := by
  obtain ⟨_, _, _, h2, _⟩ := h
  exact ne_of_none h2 n
theorem bx_rb {H : Hp} {b r : Addr} (h : Bx H b r) : r ≠ b := by
  obtain ⟨n, ns, h1, h2, _⟩ := h
  refine ne_of h2 h1 fun z => ?_
  cases ns with
  | nil => exact nomatch z
  | cons a as => exact nomatch z
theorem ks_st {K : PySem.W.Frag} {S : List Addr} {H H' : Hp} {a : Addr} {xs : List V} (h : SqT K H a xs) (e : Ks S H H') (n : a ∉ S) : SqT K H' a xs := by
  rcases h with (h | ⟨o, h⟩) | h
  · exact .inl (.inl (e _ _ n h))
  · exact .inl (.inr ⟨o, e _ _ n h⟩)
  · exact .inr h
theorem ks_sl {K : PySem.W.Frag} {S : List Addr} {H H' : Hp} {a : Addr} {xs : List V} (h : SqL K H a xs) (e : Ks S H H') (n : a ∉ S) : SqL K H' a xs := by
  rcases h with (h | ⟨o, h⟩) | h
  · exact .inl (.inl (e _ _ n h))
  · exact .inl (.inr ⟨o, e _ _ n h⟩)
  · exact .inr h
/-- a promise's two common ends -/
abbrev RV1 (v : V) (H : Hp) (Q : VK) : Prop := ∀ H2, Ex H H2 → Q v H2
abbrev RT1 (xs : List V) (H : Hp) (Q : VK) : Prop := ∀ p H2, Ex H H2 → H2 p = some (.tup xs) → Q (.ref p) H2
end Ver

set_option Elab.async false
set_option linter.all false
set_option maxRecDepth 100000
set_option maxHeartbeats 4000000
namespace Ver
open PySem PySem.Spec PyProof.Rows L2 Evl
/-! ## rights as data -/
inductive R | rw | r | w | n
  deriving DecidableEq
def R.s : R → Str
  | .rw => "rw"
  | .r => "r"
  | .w => "w"
  | .n => "-"
def R.hr : R → Bool
  | .rw => true
  | .r => true
  | _ => false
def R.hw : R → Bool
  | .rw => true
  | .w => true
  | _ => false
theorem R.s_inj {a b : R} (h : a.s = b.s) : a = b := by
  cases a <;> cases b <;> first | rfl | exact absurd h (by decide)
theorem dec_s (a b : R) : decide (a.s = b.s) = decide (a = b) := by
  cases a <;> cases b <;> decide
def tv (xs : List R) : List V := xs.map fun x => .str x.s
theorem tv_len (xs : List R) : (tv xs).length = xs.length := List.length_map _
theorem tv_at {xs : List R} {i : Nat} {x : R} (h : xs[i]? = some x) : (tv xs)[i]? = some (.str x.s) := by
  unfold tv
  rw [List.getElem?_map, h]
  rfl
theorem tv_get {xs : List R} {i : Nat} {v : V} (h : (tv xs)[i]? = some v) : ∃ x, xs[i]? = some x ∧ v = .str x.s := by
  unfold tv at h
  rw [List.getElem?_map] at h
  cases e : xs[i]? with
  | none => rw [e] at h; cases h
  | some x => rw [e] at h; exact ⟨x, rfl, (Option.some.inj h).symm⟩
theorem tv_flat (xs : List R) : (tv xs).all flatV = true := by
  unfold tv
  rw [List.all_map]
  exact List.all_eq_true.mpr fun _ _ => rfl
theorem tv_strs (xs : List R) : tv xs = (xs.map R.s).map V.str := by
  unfold tv
  rw [List.map_map]
  rfl
theorem tv_in (x : R) (xs : List R) : inV (.str x.s) (tv xs) = decide (x ∈ xs) := by
  induction xs with
  | nil => rfl
  | cons a as ih =>
    have e : inV (.str x.s) (tv (a :: as)) = (eqV (.str a.s) (.str x.s) || inV (.str x.s) (tv as)) := rfl
    have e2 : eqV (.str a.s) (.str x.s) = decide (x = a) := by cases a <;> cases x <;> rfl
    rw [e, ih, e2]
    by_cases h : x = a
    · subst h; simp
    · simp [h]
theorem in_r (a : R) : (!(Builtin.Str.occurrences a.s "r" 0 a.s.length 1).isEmpty) = a.hr := by cases a <;> decide +kernel
theorem in_w (a : R) : (!(Builtin.Str.occurrences a.s "w" 0 a.s.length 1).isEmpty) = a.hw := by cases a <;> decide +kernel
/-- each letter of a is one of b's -/
def wi (a b : R) : Bool := (!a.hr || b.hr) && (!a.hw || b.hw)
/-- converting, level by level, for equal lengths -/
def cw : List R → List R → Bool
  | a :: as, b :: bs => wi b a && (!b.hr || cw as bs) && (!b.hw || cw bs as)
  | _, _ => true
termination_by xs ys => xs.length + ys.length
def cv (xs ys : List R) : Bool := decide (xs.length = ys.length) && cw xs ys
theorem cw_nil : cw [] [] = true := by rw [cw]; all_goals (intros; contradiction)
theorem cw_cons (a b : R) (as bs : List R) : cw (a :: as) (b :: bs) = (wi b a && (!b.hr || cw as bs) && (!b.hw || cw bs as)) := by rw [cw]
theorem cv_ne {xs ys : List R} (h : xs.length ≠ ys.length) : cv xs ys = false := by
  unfold cv
  rw [decide_eq_false h]
  rfl
theorem cv_nil : cv [] [] = true := by
  unfold cv
  rw [cw_nil]
  rfl
theorem cv_cons {a b : R} {as bs : List R} (h : as.length = bs.length) : cv (a :: as) (b :: bs) = (wi b a && (!b.hr || cv as bs) && (!b.hw || cv bs as)) := by
  unfold cv
  rw [cw_cons, List.length_cons, List.length_cons, decide_eq_true (show as.length + 1 = bs.length + 1 by omega), decide_eq_true h, decide_eq_true h.symm]
  simp only [Bool.true_and]
theorem cw_refl : ∀ xs : List R, cw xs xs = true
  | [] => cw_nil
  | a :: as => by
    rw [cw_cons, cw_refl as]
    cases a <;> rfl
theorem cv_refl (xs : List R) : cv xs xs = true := by
  unfold cv
  rw [cw_refl, decide_eq_true rfl]
  rfl
theorem cw_trans : ∀ (n : Nat) (xs ys zs : List R), xs.length = n → ys.length = n → zs.length = n → cw xs ys = true → cw ys zs = true → cw xs zs = true
  | 0, [], [], [], _, _, _, _, _ => cw_nil
  | n + 1, a :: as, b :: bs, c :: cs, h1, h2, h3, p, q => by
    rw [cw_cons] at p q ⊢
    simp only [List.length_cons, Nat.add_right_cancel_iff] at h1 h2 h3
    have t1 := cw_trans n as bs cs h1 h2 h3
    have t2 := cw_trans n cs bs as h3 h2 h1
    generalize cw as bs = u1 at p t1
    generalize cw bs as = u2 at p t2
    generalize cw bs cs = u3 at q t1
    generalize cw cs bs = u4 at q t2
    generalize cw as cs = u5 at t1 ⊢
    generalize cw cs as = u6 at t2 ⊢
    revert p q t1 t2
    cases a <;> cases b <;> cases c <;> cases u1 <;> cases u2 <;> cases u3 <;> cases u4 <;> cases u5 <;> cases u6 <;> decide
theorem cv_trans {xs ys zs : List R} (p : cv xs ys = true) (q : cv ys zs = true) : cv xs zs = true := by
  unfold cv at *
  simp only [Bool.and_eq_true, decide_eq_true_eq] at *
  exact ⟨p.1.trans q.1, cw_trans xs.length xs ys zs rfl p.1.symm (p.1.trans q.1).symm p.2 q.2⟩
/-- the plain form -/
def pl : List R → List R
  | [] => []
  | x :: xs => if x = .n then .n :: xs.map (fun _ => .n) else x :: pl xs
theorem pl_len : ∀ xs : List R, (pl xs).length = xs.length
  | [] => rfl
  | x :: xs => by
    unfold pl
    by_cases h : x = .n
    · rw [if_pos h, List.length_cons, List.length_map, List.length_cons]
    · rw [if_neg h, List.length_cons, List.length_cons, pl_len xs]
theorem map_const {xs ys : List R} (h : xs.length = ys.length) : (xs.map fun _ => R.n) = ys.map fun _ => R.n := by
  rw [List.map_const', List.map_const', h]
theorem alike_pl : ∀ (xs ys : List R), (cv xs ys && cv ys xs) = decide (pl xs = pl ys)
  | [], [] => by rw [cv_nil]; rfl
  | [], b :: bs => by
    rw [cv_ne (by simp)]
    have h : pl [] ≠ pl (b :: bs) := fun e => by
      have := congrArg List.length e
      rw [pl_len, pl_len] at this
      simp at this
    rw [decide_eq_false h]
    rfl
  | a :: as, [] => by
    rw [cv_ne (by simp)]
    have h : pl (a :: as) ≠ pl [] := fun e => by
      have := congrArg List.length e
      rw [pl_len, pl_len] at this
      simp at this
    rw [decide_eq_false h]
    rfl
  | a :: as, b :: bs => by
    by_cases hl : as.length = bs.length
    · have ih := alike_pl as bs
      rw [cv_cons hl, cv_cons hl.symm]
      by_cases hab : a = b
      · subst hab
        by_cases hn : a = .n
        · subst hn
          have e : pl (R.n :: as) = pl (R.n :: bs) := by
            unfold pl
            rw [if_pos rfl, if_pos rfl, map_const hl]
          rw [decide_eq_true e]
          rfl
        · have e : decide (pl (a :: as) = pl (a :: bs)) = decide (pl as = pl bs) := by
            rw [show pl (a :: as) = a :: pl as by (conv => lhs; unfold pl); rw [if_neg hn], show pl (a :: bs) = a :: pl bs by (conv => lhs; unfold pl); rw [if_neg hn]]
            simp
          rw [e, ← ih]
          generalize cv as bs = u1
          generalize cv bs as = u2
          revert hn
          cases a <;> cases u1 <;> cases u2 <;> decide
      · have e : pl (a :: as) ≠ pl (b :: bs) := fun e => hab (by
          have q := congrArg List.head? e
          revert q
          unfold pl
          by_cases h1 : a = .n
          · by_cases h2 : b = .n
            · rw [h1, h2]; intro _; rfl
            · rw [if_pos h1, if_neg h2, h1]; intro q; exact Option.some.inj q
          · by_cases h2 : b = .n
            · rw [if_neg h1, if_pos h2, h2]; intro q; exact Option.some.inj q
            · rw [if_neg h1, if_neg h2]; intro q; exact Option.some.inj q)
        rw [decide_eq_false e]
        generalize cv as bs = u1
        generalize cv bs as = u2
        revert hab
        cases a <;> cases b <;> cases u1 <;> cases u2 <;> decide
    · rw [cv_ne (by simpa using hl)]
      have h : pl (a :: as) ≠ pl (b :: bs) := fun e => by
        have := congrArg List.length e
        rw [pl_len, pl_len] at this
        simp at this
        exact hl this
      rw [decide_eq_false h]
      rfl
/-! ## tuples of rights compared -/
def ru (xs : List R) : PyData := .tuple (xs.map fun x => .str x.s)
theorem dp_all {K : PySem.W.Frag} {H : Hp} : ∀ xs : List R, DpAll K H (tv xs) (xs.map fun x => .str x.s)
  | [] => .nil
  | x :: xs => .cons (.str x.s) (dp_all xs)
theorem dp_ru {K : PySem.W.Frag} {H : Hp} {a : Addr} {xs : List R} (h : SqT K H a (tv xs)) : Dp K H (.ref a) (ru xs) := .tup h (dp_all xs)
theorem eqv_rs : ∀ xs ys : List R, PyData.eqvAll (xs.map fun x => .str x.s) (ys.map fun x => .str x.s) = decide (xs = ys)
  | [], [] => rfl
  | [], y :: ys => rfl
  | x :: xs, [] => rfl
  | x :: xs, y :: ys => by
    show (PyData.eqv (.str x.s) (.str y.s) && PyData.eqvAll (xs.map fun x => .str x.s) (ys.map fun x => .str x.s)) = _
    rw [eqv_rs xs ys]
    have e : PyData.eqv (.str x.s) (.str y.s) = decide (x = y) := by cases x <;> cases y <;> rfl
    rw [e]
    by_cases h1 : x = y
    · subst h1; simp
    · simp [h1]
theorem eqv_ru (xs ys : List R) : PyData.eqv (ru xs) (ru ys) = decide (xs = ys) := eqv_rs xs ys
theorem depth_rs : ∀ xs : List R, PyData.depthAll (xs.map fun x => .str x.s) ≤ 1
  | [] => by simp [PyData.depthAll]
  | x :: xs => by
    have := depth_rs xs
    simp [PyData.depthAll, PyData.depth] at this ⊢
    try omega
theorem lay_rs : ∀ xs : List R, PyData.canLayAll0 (xs.map fun x => .str x.s) = true
  | [] => by simp [PyData.canLayAll0]
  | x :: xs => by
    have := lay_rs xs
    simp [PyData.canLayAll0, PyData.canLay0] at this ⊢
    exact ⟨by cases x <;> decide +kernel, this⟩
theorem shaped_ru (xs : List R) : SeqAt.shaped (ru xs) = true := by
  have d := depth_rs xs
  have l := lay_rs xs
  unfold SeqAt.shaped ru
  simp only [PyData.canLay0, PyData.depth, Bool.and_eq_true]
  exact ⟨l, decide_eq_true (by omega)⟩
theorem a_eqU {K : PySem.W.Frag} {H : Hp} {Q : VK} {a b : Addr} {xs ys : List R} (h1 : SqT K H a (tv xs)) (h2 : SqT K H b (tv ys)) (k : Q (.bl (decide (xs = ys))) H) : rEqD K (.ref a) (.ref b) H Q :=
  ⟨ru xs, ru ys, dp_ru h1, dp_ru h2, shaped_ru xs, shaped_ru ys, by rw [eqv_ru]; exact k⟩
theorem a_neU {K : PySem.W.Frag} {H : Hp} {Q : VK} {a b : Addr} {xs ys : List R} (h1 : SqT K H a (tv xs)) (h2 : SqT K H b (tv ys)) (k : Q (.bl (!decide (xs = ys))) H) : rNeD K (.ref a) (.ref b) H Q :=
  ⟨ru xs, ru ys, dp_ru h1, dp_ru h2, shaped_ru xs, shaped_ru ys, by rw [eqv_ru]; exact k⟩
/-! ## parts of tuples -/
theorem a_slT1 {K : PySem.W.Frag} {H : Hp} {Q : VK} {a : Addr} {v : V} {vs : List V} (h : SqT K H a (v :: vs)) (k : ∀ q H1, H q = none → Ex H H1 → H1 q = some (.tup vs) → Q (.ref q) H1) : rSlA K (.ref a) (some 1) none H Q := by
  have e1 : HT.sIx (v :: vs).length 0 (some 1) = 1 := by
    rw [show HT.sIx (v :: vs).length 0 (some 1) = min 1 (v :: vs).length from HT.sIx_nat (v :: vs).length 0 1, List.length_cons]
    omega
  refine ⟨a, v :: vs, rfl, h, fun z => ?_, fun _ p hp => ?_⟩
  · rw [e1] at z
    exact absurd z.1 (by decide)
  · have e : cutV (v :: vs) (some 1) none = vs := by
      unfold cutV
      rw [e1, HT.sIx_none, List.length_cons]
      show vs.take (vs.length + 1 - 1) = vs
      rw [Nat.add_sub_cancel]
      exact List.take_length
    rw [e]
    exact k p _ hp (Ex.new hp) upd_same
theorem a_slTo {K : PySem.W.Frag} {H : Hp} {Q : VK} {a : Addr} {vs : List V} {n : Nat} (h : SqT K H a vs) (hn : n < vs.length) (k : ∀ q H1, H q = none → Ex H H1 → H1 q = some (.tup (vs.take n)) → Q (.ref q) H1) : rSlA K (.ref a) none (some (n : Int)) H Q := by
  have e1 : HT.sIx vs.length vs.length (some (n : Int)) = n := by
    rw [HT.sIx_nat vs.length vs.length n]
    omega
  refine ⟨a, vs, rfl, h, fun z => ?_, fun _ p hp => ?_⟩
  · rw [e1] at z
    exact absurd z.2 (by omega)
  · have e : cutV vs none (some (n : Int)) = vs.take n := by
      unfold cutV
      rw [e1, HT.sIx_none]
      simp
    rw [e]
    exact k p _ hp (Ex.new hp) upd_same
theorem a_catA {K : PySem.W.Frag} {H : Hp} {Q : VK} {a b : Addr} {xs ys : List V} (h1 : SqT K H a xs) (h2 : SqT K H b ys) (hz : xs.length + ys.length ≤ 100000) (k : ∀ q H1, Ex H H1 → SqT K H1 q (xs ++ ys) → Q (.ref q) H1) : rCatA K (.ref a) (.ref b) H Q :=
  ⟨a, b, xs, ys, rfl, rfl, h1, h2, sz_of hz, fun e => k b H (Ex.refl H) (by rw [e]; exact h2), fun _ e => k a H (Ex.refl H) (by rw [e, List.append_nil]; exact h1), fun _ _ p hp => k p _ (Ex.new hp) (SqT.of upd_same)⟩
/-! ## t * n, n from 1 on -/
theorem tup_mul1 (l : Addr) (its : Array Value) (n : Nat) (dd : Option Addr) (sl : Array (Option Value)) (u : Tok) :
    Meets (Builtin.«tuple.__mul__» ⟨[.ref l, .int 1 u], []⟩) (fun _ R s => s.heap.get? l = some { cls := .type "tuple", dict := dd, data := .seq its n, slots := sl } ∧ R (.ok (.ret (Value.ref l))) s) :=
  .of_wp fun prog w A R s h => by
    obtain ⟨hp, g, d, tk, os⟩ := s
    obtain ⟨hl, h⟩ := h
    have f1 := AutoSeq1.idx_int
    wp_walk using wpAny_loadPart' hl
    exact ⟨_, rfl, h⟩
def rRepA (K : PySem.W.Frag) : R2 := fun x y H Q => ∃ l k xs, x = .ref l ∧ y = .int k ∧ SqT K H l xs ∧ xs ≠ [] ∧ 1 ≤ k ∧ k ≤ 1000 ∧ xs.length ≤ 1000 ∧ ∀ q H1, Ex H H1 → SqT K H1 q (List.replicate k.toNat xs).flatten → Q (.ref q) H1
theorem op_repA {X : Cx} : OpR X (binaryOp .Mult) (rRepA X.K) := by
  intro pins s σ H x y v u Q I rx ry h
  obtain ⟨l, k, xs, rfl, rfl, hT, hne, h1, h2, hz, q⟩ := h
  by_cases hk : 2 ≤ k
  · exact op_repT pins s σ H _ _ v u Q I rx ry ⟨l, k, xs, rfl, rfl, hT, hne, hk, h2, hz, fun p hp => q p _ (Ex.new hp) (SqT.of upd_same)⟩
  · have e : k = 1 := by omega
    subst e
    cases rx
    obtain ⟨t, rfl⟩ := ry
    have q' := q l H (Ex.refl H) (by simpa using hT)
    obtain ⟨its, r, ⟨⟨cls, dd, data, sl⟩, ho, hc, n, hd⟩, hs⟩ := I.tuple hT
    simp only at hc hd
    subst hc hd
    exact wpAny_binaryOp_repeat_ref (T := "tuple") (U := "int") (by decide) ⟨_, ho, rfl⟩ (fun s' => typeIs_int s' 1 t) noFill_tuple_mul F.fills_int_mul F.slot_int_rmul repeat_tuple F.slot_int_index.lookup
      (call_meets F.slot_int_rmul (typeIs_int s 1 t) F.entry_int_rmul (F.args_int_rmul_2 _ _) (int_rmul_tuple 1 t l its.toArray n dd sl)
        ⟨ho, rfl, ⟨_, ho, rfl⟩, call_meets F.slot_tuple_mul ⟨_, ho, rfl⟩ F.entry_tuple_mul (F.args_tuple_mul_2 _ _) (tup_mul1 l its.toArray n dd sl t) ⟨ho, ⟨.ref l, H, I, rfl, q'⟩⟩⟩)
/-! ## tuples whose very object is known: their methods -/
def Tu (H : Hp) (a : Addr) (xs : List V) : Prop := ∃ ob : Obj, ob.dict = none ∧ H a = some (.frz ob (.tup xs))
theorem Tu.st {K : PySem.W.Frag} {H : Hp} {a : Addr} {xs : List V} (h : Tu H a xs) : SqT K H a xs := by
  obtain ⟨ob, _, h⟩ := h
  exact .inl (.inr ⟨ob, h⟩)
theorem Tu.ex {H H' : Hp} {a : Addr} {xs : List V} (h : Tu H a xs) (e : Ex H H') : Tu H' a xs := by
  obtain ⟨ob, d, h⟩ := h
  exact ⟨ob, d, e _ _ h⟩
theorem Tu.ks {S : List Addr} {H H' : Hp} {a : Addr} {xs : List V} (h : Tu H a xs) (e : Ks S H H') (n : a ∉ S) : Tu H' a xs := by
  obtain ⟨ob, d, h⟩ := h
  exact ⟨ob, d, e _ _ n h⟩
theorem Tu.ne {H : Hp} {a b r : Addr} {xs : List V} (h : Tu H a xs) (g : Bx H b r) : a ≠ b ∧ a ≠ r := by
  obtain ⟨n, ns, h1, h2, _⟩ := g
  obtain ⟨ob, d, h⟩ := h
  exact ⟨ne_of h h1 (fun z => nomatch z), ne_of h h2 (fun z => nomatch z)⟩
def qTupF (K : PySem.W.Frag) : List V → Hp → VK → Prop := fun xs H Q => ∃ p ys, xs = [.ref p] ∧ ((SqL K H p ys ∧ ∀ l (ob : Obj), H l = none → ob.dict = none → Q (.ref l) (upd H l (.frz ob (.tup ys)))) ∨ (SqT K H p ys ∧ Q (.ref p) H))
theorem k_tupF {X : Cx} : CallR X (.type "tuple") (qTupF X.K) := by
  intro pins s σ H xs us Q I rs h
  obtain ⟨p, ys, rfl, h⟩ := h
  obtain ⟨u, rfl, ru⟩ := vals1 rs
  cases ru
  rcases h with ⟨hq, q⟩ | ⟨hq, q⟩
  · obtain ⟨its, rv, pls, hz⟩ := I.list hq
    have hlen := rv.length
    refine call_tuple_list pls.isList (fun g kp => ?_) (by rw [List.size_toArray]; omega)
    have J : Inv X pins σ H { s with heap := g } := I.kept (t' := s.toks) kp
    have J2 : Inv X pins σ (upd H g.objs.size (.frz { cls := .type "tuple", data := .seq its.toArray } (.tup ys))) { s with heap := g.push { cls := .type "tuple", data := .seq its.toArray } } :=
      J.laid (t' := s.toks) (fun c o z => Heap.get?_push_of_some _ z) (Nat.le_refl _) ⟨Heap.get?_push_size _ rfl, ⟨hz, its, rv, IsTup.new _ _⟩⟩
    exact ⟨.ref g.objs.size, _, J2, rfl, q _ _ (J.hok.fresh (Nat.le_refl _)) rfl⟩
  · obtain ⟨its, rv, pls, hz⟩ := I.tuple hq
    exact call_tuple_same pls ⟨.ref p, H, I, rfl, q⟩
theorem tupFK (K : PySem.W.Frag) {X : Cx} (h : X.K = K := by rfl) : CallR X (.type "tuple") (qTupF K) := by subst h; exact k_tupF
theorem repAK (K : PySem.W.Frag) {X : Cx} (h : X.K = K := by rfl) : OpR X (binaryOp .Mult) (rRepA K) := by subst h; exact op_repA
theorem a_tupFL {K : PySem.W.Frag} {H : Hp} {Q : VK} {p : Addr} {xs : List V} (h : SqL K H p xs) (k : ∀ q H1, H q = none → Ex H H1 → Tu H1 q xs → Q (.ref q) H1) : qTupF K [.ref p] H Q :=
  ⟨p, xs, rfl, .inl ⟨h, fun q _ n d => k q _ n (Ex.new n) ⟨_, d, upd_same⟩⟩⟩
def tBMT (f : V → List V → Hp → VK → Prop) (to : TE) (a : TA) : TE := fun σ H Q => to σ H fun x Ha => (∃ p ys, x = .ref p ∧ Tu Ha p ys) ∧ a σ Ha fun xs Hb => f x xs Hb Q
theorem w_BMT {f : V → List V → Hp → VK → Prop} {to : TE} {a : TA} {σ : L2.St} {H : Hp} {Q : VK} (h : to σ H fun x Ha => (∃ p ys, x = .ref p ∧ Tu Ha p ys) ∧ a σ Ha fun xs Hb => f x xs Hb Q) : tBMT f to a σ H Q := h
theorem pe_bmT {X : Cx} {o e : Expr} {es : List Expr} {to : TE} {t : TA} {nm : Str} {ap cp : Pos} {id : String} {f : V → List V → Hp → VK → Prop} (pa : PlainAttrs "tuple") (slot : Slot "tuple" nm id) (hty : typeOf (.builtin id) = pure (.type "method_descriptor")) (hm : MtR X id f) (ho : PE X o to) (ha : PA X (e :: es) t)
    (h1 : attributeBase o nm X.env (eval o X.env) = eval o X.env := by rfl)
    (h2 : ((backTo cp (starEach (e :: es) X.env)).all (fun z => !z.1) && (backToKw cp (keywordEach [] X.env)).all (fun z => z.1.isSome) && decide ((e :: es).length + ([] : List Keyword).length + (if ([] : List Keyword).isEmpty then 0 else 1) < 30)) = true := by rfl)
    (h3 : (ap.endLine == cp.line) = true := by rfl) (h4 : starEach (e :: es) X.env = (false, eval e X.env) :: starEach es X.env := by rfl) (h5 : (backTo cp (starEach es X.env)).any (·.1) = false := by rfl) :
    PE X (.Call (.Attribute o nm ap) (e :: es) [] cp) (tBMT f to t) := by
  refine ⟨fun pins s σ H Q I h => wpAny_Call_method_late h1 h2 h3 rfl (thn (ho.run pins s σ H _ I h) fun v s1 ⟨x, H1, I1, r1, ty, q1⟩ => ?_)⟩
  obtain ⟨p, ys, rfl, ob, hd, hp⟩ := ty
  cases r1
  obtain ⟨g1, _, its, _, g2⟩ := I1.hok p _ hp
  have A := ha.run cp pins s1 σ H1 _ I1 q1
  rw [h4] at A
  refine ⟨"tuple", id, pa, slot, hty, g2.typeIs, fun c z => ⟨ob, by cases z; exact g1, hd⟩, ?_⟩
  rw [h4]
  refine Calls.callWith_builtin (by show (false || (backTo cp (starEach es X.env)).any (·.1)) = false; rw [h5]; rfl) (Calls.evalArgs_plain ?_)
  exact thn A fun us s2 ⟨vs, H2, I2, r2, q2⟩ => hm pins s2 σ H2 (.ref p) vs _ us Q I2 rfl r2 q2
/-! ## bars -/
def ltr (b : Bool) : Str := if b then "r" else "w"
def lv (ls : List Bool) : List V := ls.map fun b => .str (ltr b)
theorem lv_len (ls : List Bool) : (lv ls).length = ls.length := List.length_map _
def R.has (x : R) (b : Bool) : Bool := if b then x.hr else x.hw
theorem in_l (x : R) (b : Bool) : (!(Builtin.Str.occurrences x.s (ltr b) 0 x.s.length 1).isEmpty) = x.has b := by
  cases b
  · exact in_w x
  · exact in_r x
/-- going down by letters, turning about at w, to a right that the second has and the first lacks -/
def ib : List R → List R → List Bool → Bool → Bool
  | x :: _, y :: _, [], b => y.has b && !x.has b
  | _ :: xs, y :: ys, l :: ls, b => y.has l && ib (if l then xs else ys) (if l then ys else xs) ls b
  | _, _, _, _ => false
theorem ib_long : ∀ (ls : List Bool) (xs ys : List R) (b : Bool), xs.length = ys.length → xs.length ≤ ls.length → ib xs ys ls b = false
  | [], xs, ys, b, _, h => by
    have e : xs = [] := List.eq_nil_of_length_eq_zero (by simpa using h)
    subst e
    cases ys <;> rfl
  | l :: ls, [], ys, b, _, _ => by cases ys <;> rfl
  | l :: ls, x :: xs, [], b, h, _ => by cases h
  | l :: ls, x :: xs, y :: ys, b, h, h2 => by
    have h' : xs.length = ys.length := by simpa using h
    have h2' : xs.length ≤ ls.length := by simpa using h2
    show (y.has l && ib (if l then xs else ys) (if l then ys else xs) ls b) = false
    cases l
    · rw [show ib (if false = true then xs else ys) (if false = true then ys else xs) ls b = ib ys xs ls b from rfl, ib_long ls ys xs b h'.symm (by omega), Bool.and_false]
    · rw [show ib (if true = true then xs else ys) (if true = true then ys else xs) ls b = ib xs ys ls b from rfl, ib_long ls xs ys b h' h2', Bool.and_false]
theorem cv_cons' {a b : R} {as bs : List R} (h : as.length = bs.length) : cv (a :: as) (b :: bs) = (((!b.has true || a.has true) && (!b.has false || a.has false)) && (!b.has true || cv as bs) && (!b.has false || cv bs as)) := cv_cons h
/-- converting and bars exclude one another -/
theorem ib_cv : ∀ (ls : List Bool) (xs ys : List R) (b : Bool), xs.length = ys.length → ib xs ys ls b = true → cv xs ys = false
  | [], [], ys, b, _, h => by cases ys <;> cases h
  | [], x :: xs, [], b, h, _ => by cases h
  | [], x :: xs, y :: ys, b, h, g => by
    rw [cv_cons' (by simpa using h)]
    have g' : (y.has b && !x.has b) = true := g
    revert g'
    generalize cv xs ys = u1
    generalize cv ys xs = u2
    cases b <;> cases x <;> cases y <;> cases u1 <;> cases u2 <;> decide
  | l :: ls, [], ys, b, _, h => by cases ys <;> cases h
  | l :: ls, x :: xs, [], b, h, _ => by cases h
  | l :: ls, x :: xs, y :: ys, b, h, g => by
    have h' : xs.length = ys.length := by simpa using h
    have g' : (y.has l && ib (if l then xs else ys) (if l then ys else xs) ls b) = true := g
    rw [Bool.and_eq_true] at g'
    rw [cv_cons' h']
    cases l
    · have c := ib_cv ls ys xs b h'.symm g'.2
      rw [c, g'.1]
      simp
    · have c := ib_cv ls xs ys b h' g'.2
      rw [c, g'.1]
      simp
end Ver

set_option Elab.async false
set_option linter.all false
set_option maxRecDepth 100000
set_option maxHeartbeats 4000000
namespace Ver
open PySem PySem.Spec PyProof.Rows L2 Evl
section
variable {K : PySem.W.Frag}
abbrev rs4 : List V := [.str "rw", .str "r", .str "w", .str "-"]
/-- which datum is a right -/
def irD : PyData → Bool
  | .str x => inV (.str x) rs4
  | _ => false
theorem dp_ty {H : Hp} {v : V} {d : PyData} (h : Dp K H v d) : ∃ T, TyB K H v T ∧ ((∃ x, v = .str x ∧ d = .str x ∧ T = "str") ∨ (T ≠ "str" ∧ irD d = false)) := by
  cases h with
  | non => exact ⟨_, .non, .inr ⟨by decide, rfl⟩⟩
  | bl b => exact ⟨_, .bl b, .inr ⟨by decide, rfl⟩⟩
  | int i => exact ⟨_, .int i, .inr ⟨by decide, rfl⟩⟩
  | str x => exact ⟨_, .str x, .inl ⟨x, rfl, rfl, rfl⟩⟩
  | lst h _ => exact ⟨_, .lst h, .inr ⟨by decide, rfl⟩⟩
  | tup h _ => exact ⟨_, .tup h, .inr ⟨by decide, rfl⟩⟩
def vtD (ds : List PyData) : Bool := decide (ds.length ≤ 6) && ds.all irD
theorem dpa_len {H : Hp} : ∀ {xs : List V} {ds : List PyData}, DpAll K H xs ds → xs.length = ds.length
  | _, _, .nil => rfl
  | _, _, .cons _ t => congrArg (· + 1) (dpa_len t)
theorem dpa_at {H : Hp} : ∀ {xs : List V} {ds : List PyData} {i : Nat} {v : V}, DpAll K H xs ds → xs[i]? = some v → ∃ d, ds[i]? = some d ∧ Dp K H v d
  | _, _, _, _, .nil, e => by simp at e
  | _, _, 0, _, .cons h _, e => by
    cases Option.some.inj e
    exact ⟨_, rfl, h⟩
  | _, _, i + 1, _, .cons _ t, e => dpa_at (i := i) t e
mutual
theorem dp_ex {H H' : Hp} (e : Ex H H') : ∀ {v : V} {d : PyData}, Dp K H v d → Dp K H' v d
  | _, _, .non => .non
  | _, _, .bl b => .bl b
  | _, _, .int i => .int i
  | _, _, .str x => .str x
  | _, _, .lst h t => .lst (ex_sl h e) (dpa_ex e t)
  | _, _, .tup h t => .tup (ex_st h e) (dpa_ex e t)
theorem dpa_ex {H H' : Hp} (e : Ex H H') : ∀ {xs : List V} {ds : List PyData}, DpAll K H xs ds → DpAll K H' xs ds
  | _, _, .nil => .nil
  | _, _, .cons h t => .cons (dp_ex e h) (dpa_ex e t)
end
theorem take_all {ds : List PyData} {k : Nat} {d : PyData} (h : ds[k]? = some d) : (ds.take (k + 1)).map irD = (ds.take k).map irD ++ [irD d] := by
  rw [List.take_add_one, h, List.map_append]
  rfl

def tyD (ds : List PyData) : Bool := vtD ds && decide (0 < ds.length)
/-! ## data by their kinds -/
def tagD : PyData → String
  | .none => "NoneType"
  | .bool _ => "bool"
  | .int _ => "int"
  | .str _ => "str"
  | .list _ => "list"
  | .tuple _ => "tuple"
  | .dict _ => "dict"
theorem dp_tag {H : Hp} {v : V} {d : PyData} (h : Dp K H v d) : TyB K H v (tagD d) := by
  cases h with
  | non => exact .non
  | bl b => exact .bl b
  | int i => exact .int i
  | str x => exact .str x
  | lst h _ => exact .lst h
  | tup h _ => exact .tup h
theorem tag_tup {d : PyData} (h : tagD d = "tuple") : ∃ ds, d = .tuple ds := by
  cases d <;> first | exact ⟨_, rfl⟩ | exact absurd h (by simp only [tagD]; decide)
theorem tag_lst {d : PyData} (h : tagD d = "list") : ∃ ds, d = .list ds := by
  cases d <;> first | exact ⟨_, rfl⟩ | exact absurd h (by simp only [tagD]; decide)
theorem tag_str {d : PyData} (h : tagD d = "str") : ∃ x, d = .str x := by
  cases d <;> first | exact ⟨_, rfl⟩ | exact absurd h (by simp only [tagD]; decide)
theorem tag_int {d : PyData} (h : tagD d = "int") : ∃ x, d = .int x := by
  cases d <;> first | exact ⟨_, rfl⟩ | exact absurd h (by simp only [tagD]; decide)
theorem dp_tup {H : Hp} {v : V} {ds : List PyData} (h : Dp K H v (.tuple ds)) : ∃ p xs, v = .ref p ∧ SqT K H p xs ∧ DpAll K H xs ds := by
  cases h with
  | tup h t => exact ⟨_, _, rfl, h, t⟩
theorem dp_lst {H : Hp} {v : V} {ds : List PyData} (h : Dp K H v (.list ds)) : ∃ p xs, v = .ref p ∧ SqL K H p xs ∧ DpAll K H xs ds := by
  cases h with
  | lst h t => exact ⟨_, _, rfl, h, t⟩
theorem dp_str {H : Hp} {v : V} {x : Str} (h : Dp K H v (.str x)) : v = .str x := by
  cases h with
  | str => rfl
theorem dp_int {H : Hp} {v : V} {x : Int} (h : Dp K H v (.int x)) : v = .int x := by
  cases h with
  | int => rfl
def lenD : PyData → Nat
  | .tuple ds => ds.length
  | _ => 0
def nthD : PyData → Nat → PyData
  | .tuple ds, i => ds.getD i .none
  | _, _ => .none
def numD : PyData → Int → Bool
  | .int i, m => decide (0 ≤ i) && decide (i ≤ m)
  | _, _ => false
abbrev signs : Str := "abcdefghijklmnopqrstuvwxyz"
def sgOk (c : Nat) : Bool := !(Builtin.Str.occurrences signs ⟨#[c]⟩ 0 signs.length 1).isEmpty
def nameD : PyData → Bool
  | .str s => !decide (s = "null") && (decide (1 ≤ s.length) && decide (s.length ≤ 8)) && s.cps.toList.all sgOk
  | _ => false
def placeD (d : PyData) : Bool := decide (tagD d = "tuple") && decide (lenD d = 2) && (nameD (nthD d 0) && numD (nthD d 1) 5)
def strD : PyData → Str
  | .str x => x
  | _ => ""
def fwD (d : PyData) : Str := if tagD d = "tuple" ∧ 0 < lenD d ∧ tagD (nthD d 0) = "str" then strD (nthD d 0) else ""
def srcD (d : PyData) : Bool := if fwD d = "null" then decide (lenD d = 1) else if fwD d = "number" then decide (lenD d = 2) && numD (nthD d 1) 1000 else
  inV (.str (fwD d)) [.str "value", .str "address"] && (decide (lenD d = 2) && placeD (nthD d 1))
def itemsD : PyData → List PyData
  | .list ds => ds
  | .tuple ds => ds
  | _ => []
def srcsD (d : PyData) : Bool := decide (tagD d = "list") && (itemsD d).all srcD
def typD : PyData → Bool
  | .tuple ds => tyD ds
  | _ => false
def declD (d : PyData) : Bool := decide (tagD d = "tuple") && decide (lenD d = 2) && (nameD (nthD d 0) && (typD (nthD d 1) || numD (nthD d 1) 5))
def cut13 (d : PyData) : PyData := .tuple (((itemsD d).drop 1).take 2)
def stmtD (d : PyData) : Bool := if fwD d = "let" then decide (lenD d = 4) && (declD (cut13 d) && srcD (nthD d 3)) else if fwD d = "put" then decide (lenD d = 3) && (placeD (nthD d 1) && srcD (nthD d 2)) else
  decide (fwD d = "call") && (decide (lenD d = 3) && (nameD (nthD d 1) && srcsD (nthD d 2)))
theorem fw_ne {d : PyData} (h : fwD d ≠ "") : ∃ ds, d = .tuple ds ∧ 0 < ds.length := by
  unfold fwD at h
  split at h
  · rename_i c
    obtain ⟨ds, rfl⟩ := tag_tup c.1
    exact ⟨ds, rfl, c.2.1⟩
  · exact absurd rfl h
theorem nth_dp {H : Hp} {xs : List V} {ds : List PyData} {i : Nat} (h : DpAll K H xs ds) (hi : i < ds.length) : ∃ v, xs[i]? = some v ∧ Dp K H v (nthD (.tuple ds) i) := by
  have hx : i < xs.length := by rw [dpa_len h]; exact hi
  refine ⟨xs[i], List.getElem?_eq_getElem hx, ?_⟩
  obtain ⟨d, hd, dp⟩ := dpa_at h (List.getElem?_eq_getElem hx)
  have e : nthD (.tuple ds) i = d := by
    show ds.getD i .none = d
    rw [List.getD_eq_getElem?_getD, hd]
    rfl
  rw [e]
  exact dp
/-- an item of a datum -/
theorem a_nth {H : Hp} {Q : VK} {p : Addr} {xs : List V} {ds : List PyData} {i : Nat} (hT : SqT K H p xs) (h : DpAll K H xs ds) (hi : i < ds.length) (k : ∀ v, Dp K H v (nthD (.tuple ds) i) → Q v H) : rIxT K (.ref p) (.int (i : Int)) H Q := by
  obtain ⟨v, hv, dp⟩ := nth_dp h hi
  exact a_ixT hT (atI_nat hv) (k v dp)
theorem dpa_drop {H : Hp} : ∀ {xs : List V} {ds : List PyData} (n : Nat), DpAll K H xs ds → DpAll K H (xs.drop n) (ds.drop n)
  | _, _, 0, h => h
  | _, _, _ + 1, .nil => .nil
  | _, _, n + 1, .cons _ t => dpa_drop n t
theorem dpa_take {H : Hp} : ∀ {xs : List V} {ds : List PyData} (n : Nat), DpAll K H xs ds → DpAll K H (xs.take n) (ds.take n)
  | _, _, 0, _ => .nil
  | _, _, _ + 1, .nil => .nil
  | _, _, n + 1, .cons h t => .cons h (dpa_take n t)
theorem dpa_app {H : Hp} : ∀ {xs ys : List V} {ds es : List PyData}, DpAll K H xs ds → DpAll K H ys es → DpAll K H (xs ++ ys) (ds ++ es)
  | _, _, _, _, .nil, g => g
  | _, _, _, _, .cons h t, g => .cons h (dpa_app t g)

/-! ## data of bounded size -/
mutual
def smD : PyData → Bool
  | .str x => decide (x.length ≤ 100000)
  | .list ds => decide (ds.length ≤ 100000) && smAll ds
  | .tuple ds => decide (ds.length ≤ 100000) && smAll ds
  | _ => true
def smAll : List PyData → Bool
  | [] => true
  | d :: ds => smD d && smAll ds
end
def Ds (K : PySem.W.Frag) (H : Hp) (v : V) (d : PyData) : Prop := Dp K H v d ∧ smD d = true
theorem ds_ex {H H' : Hp} {v : V} {d : PyData} (h : Ds K H v d) (e : Ex H H') : Ds K H' v d := ⟨dp_ex e h.1, h.2⟩
theorem sm_at : ∀ {ds : List PyData} {i : Nat} {d : PyData}, smAll ds = true → ds[i]? = some d → smD d = true
  | [], _, _, _, e => by simp at e
  | a :: as, 0, d, h, e => by
    cases Option.some.inj e
    exact (Bool.and_eq_true _ _ ▸ h).1
  | a :: as, i + 1, d, h, e => sm_at (ds := as) (i := i) (Bool.and_eq_true _ _ ▸ h).2 e
theorem nthD_get {ds : List PyData} {i : Nat} (hi : i < ds.length) : ds[i]? = some (nthD (.tuple ds) i) := by
  show _ = some (ds.getD i .none)
  rw [List.getD_eq_getElem?_getD, List.getElem?_eq_getElem hi]
  rfl
theorem ds_nth {H : Hp} {xs : List V} {ds : List PyData} {i : Nat} (h : DpAll K H xs ds) (s : smAll ds = true) (hi : i < ds.length) : ∃ v, xs[i]? = some v ∧ Ds K H v (nthD (.tuple ds) i) := by
  obtain ⟨v, hv, dv⟩ := nth_dp h hi
  exact ⟨v, hv, dv, sm_at s (nthD_get hi)⟩
/-- an item of a bounded datum -/
theorem a_nthS {H : Hp} {Q : VK} {p : Addr} {xs : List V} {ds : List PyData} {i : Nat} (hT : SqT K H p xs) (h : DpAll K H xs ds) (s : smAll ds = true) (hi : i < ds.length) (k : ∀ v, Ds K H v (nthD (.tuple ds) i) → Q v H) : rIxT K (.ref p) (.int (i : Int)) H Q := by
  obtain ⟨v, hv, dv⟩ := ds_nth h s hi
  exact a_ixT hT (atI_nat hv) (k v dv)
theorem ds_tupz {H : Hp} {v : V} {d : PyData} (h : Ds K H v d) (c : tagD d = "tuple") : ∃ p xs ds, v = .ref p ∧ d = .tuple ds ∧ SqT K H p xs ∧ DpAll K H xs ds ∧ smAll ds = true ∧ ds.length ≤ 100000 ∧ xs.length = ds.length := by
  obtain ⟨ds, rfl⟩ := tag_tup c
  obtain ⟨p, xs, rfl, h1, h2⟩ := dp_tup h.1
  have h3 : (decide (ds.length ≤ 100000) && smAll ds) = true := h.2
  rw [Bool.and_eq_true] at h3
  exact ⟨p, xs, ds, rfl, rfl, h1, h2, h3.2, of_decide_eq_true h3.1, dpa_len h2⟩
theorem ds_tup {H : Hp} {v : V} {d : PyData} (h : Ds K H v d) (c : tagD d = "tuple") : ∃ p xs ds, v = .ref p ∧ d = .tuple ds ∧ SqT K H p xs ∧ DpAll K H xs ds ∧ smAll ds = true ∧ xs.length = ds.length := by
  obtain ⟨p, xs, ds, e1, e2, h1, h2, h3, _, h4⟩ := ds_tupz h c
  exact ⟨p, xs, ds, e1, e2, h1, h2, h3, h4⟩
theorem sm_tup {ds : List PyData} (h : smAll ds = true) (z : ds.length ≤ 100000) : smD (.tuple ds) = true := by
  show (decide (ds.length ≤ 100000) && smAll ds) = true
  rw [decide_eq_true z, h]
  rfl
theorem sm_lst {ds : List PyData} (h : smAll ds = true) (z : ds.length ≤ 100000) : smD (.list ds) = true := by
  show (decide (ds.length ≤ 100000) && smAll ds) = true
  rw [decide_eq_true z, h]
  rfl
theorem ds_lst {H : Hp} {v : V} {d : PyData} (h : Ds K H v d) (c : tagD d = "list") : ∃ p xs ds, v = .ref p ∧ d = .list ds ∧ SqL K H p xs ∧ DpAll K H xs ds ∧ smAll ds = true ∧ ds.length ≤ 100000 ∧ xs.length = ds.length := by
  obtain ⟨ds, rfl⟩ := tag_lst c
  obtain ⟨p, xs, rfl, h1, h2⟩ := dp_lst h.1
  have h3 : (decide (ds.length ≤ 100000) && smAll ds) = true := h.2
  rw [Bool.and_eq_true] at h3
  exact ⟨p, xs, ds, rfl, rfl, h1, h2, h3.2, of_decide_eq_true h3.1, dpa_len h2⟩
theorem ds_str {H : Hp} {v : V} {d : PyData} (h : Ds K H v d) (c : tagD d = "str") : ∃ x, v = .str x ∧ d = .str x ∧ x.length ≤ 100000 := by
  obtain ⟨x, rfl⟩ := tag_str c
  exact ⟨x, dp_str h.1, rfl, of_decide_eq_true h.2⟩
theorem ds_int {H : Hp} {v : V} {d : PyData} (h : Ds K H v d) (c : tagD d = "int") : ∃ x, v = .int x ∧ d = .int x := by
  obtain ⟨x, rfl⟩ := tag_int c
  exact ⟨x, dp_int h.1, rfl⟩
theorem sm_drop : ∀ {ds : List PyData} (n : Nat), smAll ds = true → smAll (ds.drop n) = true
  | _, 0, h => h
  | [], _ + 1, h => h
  | _ :: ds, n + 1, h => sm_drop (ds := ds) n (Bool.and_eq_true _ _ ▸ h).2
theorem sm_take : ∀ {ds : List PyData} (n : Nat), smAll ds = true → smAll (ds.take n) = true
  | _, 0, _ => rfl
  | [], _ + 1, h => h
  | a :: ds, n + 1, h => by
    have h' := (Bool.and_eq_true _ _ ▸ h : smD a = true ∧ smAll ds = true)
    show (smD a && smAll (ds.take n)) = true
    rw [h'.1, sm_take n h'.2]
    rfl
/-- a promise of a question asked of one datum -/
def pF1 (K : PySem.W.Frag) (f : PyData → Bool) : Sp := fun vs H Q _ => ∃ v d, vs = [v] ∧ Ds K H v d ∧ RV1 (.bl (f d)) H Q
def pNum (K : PySem.W.Frag) : Sp := fun vs H Q _ => ∃ v d m, vs = [v, .int m] ∧ Ds K H v d ∧ RV1 (.bl (numD d m)) H Q
theorem not_tag {d : PyData} {s : String} (c : ¬ decide (tagD d = s) = true) : tagD d ≠ s := fun z => c (decide_eq_true z)
def vtyD : PyData → Bool
  | .tuple ds => vtD ds
  | _ => false
theorem typD_eq (d : PyData) : typD d = (vtyD d && decide (0 < lenD d)) := by
  cases d <;> rfl
theorem vtyD_tag {d : PyData} (h : tagD d ≠ "tuple") : vtyD d = false := by
  cases d <;> first | rfl | exact absurd rfl h
theorem typD_tag {d : PyData} (h : tagD d ≠ "tuple") : typD d = false := by
  cases d <;> first | rfl | exact absurd rfl h
theorem nameD_tag {d : PyData} (h : tagD d ≠ "str") : nameD d = false := by
  cases d <;> first | rfl | exact absurd rfl h
theorem numD_tag {d : PyData} {m : Int} (h : tagD d ≠ "int") : numD d m = false := by
  cases d <;> first | rfl | exact absurd rfl h
theorem irD_tag {d : PyData} (h : tagD d ≠ "str") : irD d = false := by
  cases d <;> first | rfl | exact absurd rfl h
theorem placeD_tag {d : PyData} (h : tagD d ≠ "tuple") : placeD d = false := by
  unfold placeD
  rw [decide_eq_false h]
  rfl
theorem declD_tag {d : PyData} (h : tagD d ≠ "tuple") : declD d = false := by
  unfold declD
  rw [decide_eq_false h]
  rfl
theorem srcsD_tag {d : PyData} (h : tagD d ≠ "list") : srcsD d = false := by
  unfold srcsD
  rw [decide_eq_false h]
  rfl
theorem nf {b : Bool} (c : ¬ b = true) : b = false := Bool.eq_false_iff.mpr c
theorem bools_snoc (f : PyData → Bool) {ds : List PyData} {k : Nat} {d : PyData} (h : ds[k]? = some d) : ((ds.take (k + 1)).map f).map V.bl = ((ds.take k).map f).map V.bl ++ [.bl (f d)] := by
  rw [List.take_add_one, h, List.map_append, List.map_append]
  rfl
theorem bools_len (f : PyData → Bool) (ds : List PyData) (k : Nat) : (((ds.take k).map f).map V.bl).length = min k ds.length := by
  rw [List.length_map, List.length_map, List.length_take]
theorem bools_all (f : PyData → Bool) (ds : List PyData) : (ds.map f).all id = ds.all f := by
  rw [List.all_map]
  rfl
theorem ds_at {H : Hp} {xs : List V} {ds : List PyData} {i : Nat} {v : V} (h : DpAll K H xs ds) (s : smAll ds = true) (e : xs[i]? = some v) : ∃ d, ds[i]? = some d ∧ Ds K H v d := by
  obtain ⟨d, hd, dv⟩ := dpa_at h e
  exact ⟨d, hd, dv, sm_at s hd⟩
theorem at_lt {α : Type} {xs : List α} {i : Nat} {v : α} (h : xs[i]? = some v) : i < xs.length := (List.getElem?_eq_some_iff.mp h).1
/-- a comprehension over characters -/
theorem cp_chars {σ : L2.St} {H : Hp} {g : TG} {t : TT} {te : TE} {Q : VK} {z : Str} {vs : List Nat} (J : Addr → Nat → Hp → Prop) (h0 : ∀ p, H p = none → J p 0 (upd H p (.lst [])))
    (hs : ∀ (p : Addr) (k : Nat) (c : Nat) (h : Hp), H p = none → z.cps[k]? = some c → J p k h → g (.str ⟨#[c]⟩) (wipe σ vs) h fun s2 h2 => wipe s2 vs = wipe σ vs ∧ t s2 h2 fun b h3 =>
      if b = true then te s2 h3 fun a h4 => ∃ acc, h4 p = some (.lst acc) ∧ acc.length < sizeLine ∧ J p (k + 1) (upd h4 p (.lst (acc ++ [a]))) else J p (k + 1) h3)
    (hd : ∀ p h, H p = none → J p z.cps.size h → Q (.ref p) h) : CompG (Its z) g t te vs σ H Q := fun p hp => by
  refine ⟨fun i m h => m = z.cps.size - i ∧ i ≤ z.cps.size ∧ J p i h, ⟨_, rfl, Nat.zero_le _, h0 p hp⟩, ?_⟩
  rintro i m h ⟨rfl, hi, q⟩
  by_cases hlt : i < z.cps.size
  · refine .inr ⟨hlt, J p (i + 1), fun h' q' => ⟨z.cps.size - (i + 1), by omega, rfl, hlt, q'⟩, fun x h' y => ?_⟩
    obtain ⟨e, c, y, e2⟩ := y
    subst e e2
    exact hs p i c _ hp y q
  · have e : i = z.cps.size := by omega
    subst e
    exact .inl ⟨Nat.le_refl _, hd p h hp q⟩
theorem chars_snoc {s : Str} {k c : Nat} (h : s.cps[k]? = some c) : ((s.cps.toList.take (k + 1)).map sgOk).map V.bl = ((s.cps.toList.take k).map sgOk).map V.bl ++ [.bl (sgOk c)] := by
  have h' : s.cps.toList[k]? = some c := by simpa using h
  rw [List.take_add_one, h', List.map_append, List.map_append]
  rfl
theorem fw_str {ds : List PyData} {x : Str} (h : 0 < ds.length) (e : nthD (.tuple ds) 0 = .str x) : fwD (.tuple ds) = x := by
  unfold fwD
  rw [if_pos ⟨rfl, h, by rw [e]; rfl⟩, e]
  rfl
theorem fw_no {d : PyData} (h : tagD d ≠ "tuple" ∨ lenD d = 0 ∨ tagD (nthD d 0) ≠ "str") : fwD d = "" := by
  unfold fwD
  refine if_neg fun z => ?_
  rcases h with h | h | h
  · exact h z.1
  · have := z.2.1; omega
  · exact h z.2.2
theorem vt_nil (ds : List PyData) (h : ¬ ds.length ≤ 6) : vtD ds = false := by
  unfold vtD
  rw [decide_eq_false h]
  rfl
theorem vt_all (ds : List PyData) (h : ds.length ≤ 6) : vtD ds = ds.all irD := by
  unfold vtD
  rw [decide_eq_true h]
  rfl
theorem a_sl13 {p : Addr} {xs : List V} {H : Hp} {Q : VK} (h : SqT K H p xs) (hn : 3 ≤ xs.length) (k : ∀ p H1, H p = none → Ex H H1 → H1 p = some (.tup ((xs.drop 1).take 2)) → Q (.ref p) H1) : rSlA K (.ref p) (some 1) (some 3) H Q := by
  have e1 : HT.sIx xs.length 0 (some 1) = 1 := by
    rw [show HT.sIx xs.length 0 (some 1) = min 1 xs.length from HT.sIx_nat xs.length 0 1]
    omega
  have e3 : HT.sIx xs.length xs.length (some 3) = 3 := by
    rw [show HT.sIx xs.length xs.length (some 3) = min 3 xs.length from HT.sIx_nat xs.length xs.length 3]
    omega
  refine ⟨p, xs, rfl, h, fun z => ?_, fun _ l hp => ?_⟩
  · rw [e1] at z
    exact absurd z.1 (by decide)
  · have e : cutV xs (some 1) (some 3) = (xs.drop 1).take 2 := by
      unfold cutV
      rw [e1, e3]
    rw [e]
    exact k l _ hp (Ex.new hp) upd_same
/-! ## the heap but for some places -/
def dl (S : List Addr) (H : Hp) : Hp := fun a => if a ∈ S then none else H a
theorem dl_nin {S : List Addr} {H : Hp} {a : Addr} (h : a ∉ S) : dl S H a = H a := if_neg h
theorem dl_in {S : List Addr} {H : Hp} {a : Addr} (h : a ∈ S) : dl S H a = none := if_pos h
theorem dl_le (S : List Addr) (H : Hp) : Ex (dl S H) H := fun a o e => by
  by_cases h : a ∈ S
  · rw [dl_in h] at e
    cases e
  · rw [dl_nin h] at e
    exact e
theorem dl_ex {S : List Addr} {H H1 : Hp} (e : Ex H H1) : Ex (dl S H) (dl S H1) := fun a o q => by
  by_cases h : a ∈ S
  · rw [dl_in h] at q
    cases q
  · rw [dl_nin h] at q ⊢
    exact e a o q
theorem dl_ks {S : List Addr} {H H1 : Hp} (e : Ks S H H1) : Ex (dl S H) (dl S H1) := fun a o q => by
  by_cases h : a ∈ S
  · rw [dl_in h] at q
    cases q
  · rw [dl_nin h] at q ⊢
    exact e a o h q
theorem dl_sub {S T : List Addr} {H : Hp} (h : ∀ a ∈ S, a ∈ T) : Ex (dl T H) (dl S H) := fun a o q => by
  by_cases k : a ∈ T
  · rw [dl_in k] at q
    cases q
  · rw [dl_nin k] at q
    rw [dl_nin fun z => k (h a z)]
    exact q
theorem dl_upd {S : List Addr} {H : Hp} {p : Addr} {o : HO} (h : p ∈ S) : dl S (upd H p o) = dl S H := by
  funext a
  by_cases k : a ∈ S
  · rw [dl_in k, dl_in k]
  · rw [dl_nin k, dl_nin k, upd_ne fun z => k (by rw [z]; exact h)]
/-- places of S are there -/
def Al (S : List Addr) (H : Hp) : Prop := ∀ a ∈ S, H a ≠ none
theorem Al.ex {S : List Addr} {H H1 : Hp} (h : Al S H) (e : Ex H H1) : Al S H1 := fun a k n => by
  cases q : H a with
  | none => exact h a k q
  | some o =>
    rw [e a o q] at n
    cases n
theorem Al.nil {H : Hp} : Al [] H := fun _ k => by cases k
theorem Al.cons {S : List Addr} {H : Hp} {p : Addr} {o : HO} (h : Al S H) (e : H p = some o) : Al (p :: S) H := fun a k => by
  rcases List.mem_cons.mp k with rfl | k
  · rw [e]
    exact fun z => by cases z
  · exact h a k
theorem Al.upd {S : List Addr} {H : Hp} {p : Addr} {o : HO} (h : Al S H) : Al S (L2.upd H p o) := fun a k => by
  by_cases z : a = p
  · rw [z, upd_same]
    exact fun z => by cases z
  · rw [upd_ne z]
    exact h a k
theorem ks_none {S : List Addr} {H H' : Hp} {q : Addr} (e : Ks S H H') (n : H' q = none) (h : q ∉ S) : H q = none := by
  cases z : H q with
  | none => rfl
  | some o =>
    rw [e q o h z] at n
    cases n
theorem Al.nin {S : List Addr} {H : Hp} {p : Addr} (h : Al S H) (n : H p = none) : p ∉ S := fun k => h p k n
/-- from the old heap to a new one without a place that is new -/
theorem dl_new {S : List Addr} {H H1 : Hp} {p : Addr} (n : H p = none) (e : Ex H H1) : Ex (dl S H) (dl (p :: S) H1) := fun a o q => by
  by_cases h : a ∈ S
  · rw [dl_in h] at q
    cases q
  · rw [dl_nin h] at q
    have k : a ≠ p := ne_of_none q n
    rw [dl_nin fun z => (List.mem_cons.mp z).elim k h]
    exact e a o q
theorem dl_at {S : List Addr} {H : Hp} {p : Addr} {o : HO} (h : p ∉ S) (e : H p = some o) : dl S H p = some o := by rw [dl_nin h]; exact e
theorem tu_dl {S : List Addr} {H : Hp} {p : Addr} {xs : List V} (h : p ∉ S) (e : Tu H p xs) : Tu (dl S H) p xs := by
  unfold Tu
  rw [dl_nin h]
  exact e
theorem dpa_snoc {H : Hp} {xs : List V} {ds : List PyData} {v : V} {d : PyData} (h : DpAll K H xs ds) (k : Dp K H v d) : DpAll K H (xs ++ [v]) (ds ++ [d]) := dpa_app h (.cons k .nil)
theorem take_snoc {α : Type} {ds : List α} {k : Nat} {d : α} (h : ds[k]? = some d) : ds.take (k + 1) = ds.take k ++ [d] := by
  rw [List.take_add_one, h]
  rfl
theorem take_len {α : Type} {ds : List α} {k : Nat} {d : α} (h : ds[k]? = some d) : (ds.take k).length = k := by
  have := at_lt h
  rw [List.length_take]
  omega
theorem sl_dl {S : List Addr} {H : Hp} {p : Addr} {xs : List V} (h : SqL K (dl S H) p xs) : SqL K H p xs := ex_sl h (dl_le S H)
theorem st_dl {S : List Addr} {H : Hp} {p : Addr} {xs : List V} (h : SqT K (dl S H) p xs) : SqT K H p xs := ex_st h (dl_le S H)
/-- a list of data that stands in a heap -/
structure Dl (K : PySem.W.Frag) (G : Hp) (p : Addr) (ds : List PyData) : Prop where
  ex : ∃ xs, SqL K G p xs ∧ DpAll K G xs ds
  sm : smAll ds = true
  le : ds.length ≤ 100000
theorem Dl.up {G G' : Hp} {p : Addr} {ds : List PyData} (h : Dl K G p ds) (e : Ex G G') : Dl K G' p ds := by
  obtain ⟨xs, h1, h2⟩ := h.ex
  exact ⟨⟨xs, ex_sl h1 e, dpa_ex e h2⟩, h.sm, h.le⟩
def pCop (K : PySem.W.Frag) : Sp := fun vs H Q _ => ∃ S v d, vs = [v] ∧ Al S H ∧ Ds K (dl S H) v d ∧ (tagD d ≠ "list" → Q v H) ∧
  (∀ ds, d = .list ds → ∀ q ys H1, H q = none → Ex H H1 → H1 q = some (.lst ys) → DpAll K (dl S H1) ys ds → Q (.ref q) H1)
def pCs (K : PySem.W.Frag) : Sp := fun vs H Q _ => ∃ S v d, vs = [v] ∧ Al S H ∧ Ds K (dl S H) v d ∧ ∀ v' H1, Ex H H1 → Dp K (dl S H1) v' d → Q v' H1
def pCss (K : PySem.W.Frag) : Sp := fun vs H Q _ => ∃ S p ds, vs = [.ref p] ∧ Al S H ∧ Dl K (dl S H) p ds ∧ ∀ q ys H1, H q = none → Ex H H1 → H1 q = some (.lst ys) → DpAll K (dl S H1) ys ds → Q (.ref q) H1
/-! ## instances -/
def GetF (K : PySem.W.Frag) (f : Str) (x : V) (H : Hp) (Q : VK) : Prop := ∃ a C dx fs v, x = .ref a ∧ H a = some (.ins C dx fs) ∧ Cls K C ∧ NoAttr K C f ∧ fs.lookup f = some v ∧ Q v H
def SetF (K : PySem.W.Frag) (f : Str) (x y : V) (H : Hp) (N : Hp → Prop) : Prop := ∃ a C dx fs, x = .ref a ∧ H a = some (.ins C dx fs) ∧ Cls K C ∧ NoAttr K C f ∧ fs.length < 1000 ∧ N (upd H a (.ins C dx (putF f y fs)))
def NewI (C : Addr) (sp : Sp) (E : XK) (vs : List V) (H : Hp) (Q : VK) : Prop := ∀ x dx, H x = none → H dx = none → dx ≠ x → sp (.ref x :: vs) (upd (upd H dx (.own x)) x (.ins C dx [])) (fun v H2 => v = .non ∧ Q (.ref x) H2) E
theorem w_getF {σ : L2.St} {H : Hp} {ta : TE} {f : Str} {Q : VK} (h : ta σ H fun x Ha => GetF K f x Ha Q) : tFld K ta f σ H Q := h
theorem fldK (K : PySem.W.Frag) {X : Cx} {e : Expr} {ta : TE} {f : Str} {pos : Pos} (he : PE X e ta) (hb : attributeBase e f X.env (eval e X.env) = eval e X.env) (h : X.K = K := by rfl) : PE X (.Attribute e f pos) (tFld K ta f) := by
  subst h
  exact pe_fld he hb
theorem w_setF {σ : L2.St} {H : Hp} {ta tv : TE} {f : Str} {D : Ends} (h : tv σ H fun y Ha => ta σ Ha fun x Hb => SetF K f x y Hb fun Hc => D.nx σ Hc) : sFld K ta tv f D σ H := h
theorem w_newI {σ : L2.St} {H : Hp} {C : Addr} {sp : Sp} {E : XK} {t : TA} {Q : VK} (h : t σ H fun vs Ha => NewI C sp E vs Ha Q) : tMake C sp [] E t σ H Q := by
  have e : (fun vs Ha => NewI C sp E vs Ha Q) = fun (vs : List V) H1 => ∀ x dx, H1 x = none → H1 dx = none → dx ≠ x → sp (.ref x :: (vs ++ [])) (upd (upd H1 dx (.own x)) x (.ins C dx [])) (fun v H2 => v = .non ∧ Q (.ref x) H2) E := by
    funext vs Ha
    rw [List.append_nil]
    rfl
  show t σ H fun vs H1 => ∀ x dx, H1 x = none → H1 dx = none → dx ≠ x → sp (.ref x :: (vs ++ [])) (upd (upd H1 dx (.own x)) x (.ins C dx [])) (fun v H2 => v = .non ∧ Q (.ref x) H2) E
  rw [← e]
  exact h
theorem w_callS {σ : L2.St} {H : Hp} {sp : Sp} {E : L2.St → XK} {t : TA} {Q : VK} (h : t σ H fun vs Ha => sp vs Ha Q (E σ)) : tCallS sp E t σ H Q := h
theorem a_get {H : Hp} {a C dx : Addr} {fs : List (Str × V)} {f : Str} {v : V} {Q : VK} (c : Cls K C) (n : PySem.W.findIn K (.ref C) f = some none) (e : H a = some (.ins C dx fs)) (l : fs.lookup f = some v) (k : Q v H) : GetF K f (.ref a) H Q := ⟨a, C, dx, fs, v, rfl, e, c, n, l, k⟩
theorem a_put {H : Hp} {a C dx : Addr} {fs : List (Str × V)} {f : Str} {y : V} {N : Hp → Prop} (c : Cls K C) (n : PySem.W.findIn K (.ref C) f = some none) (e : H a = some (.ins C dx fs)) (hl : fs.length < 1000) (k : N (upd H a (.ins C dx (putF f y fs)))) : SetF K f (.ref a) y H N := ⟨a, C, dx, fs, rfl, e, c, n, hl, k⟩
/-- a new instance: what is made, then __init__ -/
theorem a_new {H : Hp} {C : Addr} {sp : Sp} {E : XK} {vs : List V} {Q : VK} (k : ∀ x dx H1, H x = none → H dx = none → dx ≠ x → Ex H H1 → H1 x = some (.ins C dx []) → H1 dx = some (.own x) → sp (.ref x :: vs) H1 (fun v H2 => v = .non ∧ Q (.ref x) H2) E) : NewI C sp E vs H Q := fun x dx n1 n2 n3 =>
  k x dx _ n1 n2 n3 ((Ex.new n2).mut n1) upd_same (by rw [upd_ne n3, upd_same])
/-! ## the program's functions -/
def fnF (nv : V) (p b : Addr) : List (Str × V) := putF "body" (.ref b) (putF "params" (.ref p) (putF "name" nv []))
theorem fn_name (nv : V) (p b : Addr) : (fnF nv p b).lookup ("name" : Str) = some nv := by
  unfold fnF
  rw [lookup_putF, if_neg (by decide +kernel), lookup_putF, if_neg (by decide +kernel), lookup_putF, if_pos rfl]
theorem fn_params (nv : V) (p b : Addr) : (fnF nv p b).lookup ("params" : Str) = some (.ref p) := by
  unfold fnF
  rw [lookup_putF, if_neg (by decide +kernel), lookup_putF, if_pos rfl]
theorem fn_body (nv : V) (p b : Addr) : (fnF nv p b).lookup ("body" : Str) = some (.ref b) := by
  unfold fnF
  rw [lookup_putF, if_pos rfl]
theorem putF_le (f : Str) (v : V) : ∀ fs : List (Str × V), (putF f v fs).length ≤ fs.length + 1
  | [] => Nat.le_refl _
  | (g, x) :: r => by
    show (if g = f then (g, v) :: r else (g, x) :: putF f v r).length ≤ _
    by_cases h : g = f
    · rw [if_pos h]
      exact Nat.le_succ _
    · rw [if_neg h, List.length_cons, List.length_cons]
      exact Nat.succ_le_succ (putF_le f v r)
theorem put1_lt (f : Str) (v : V) : (putF f v []).length < 1000 := Nat.lt_of_le_of_lt (putF_le f v []) (by decide)
theorem put2_lt (f g : Str) (v u : V) : (putF f v (putF g u [])).length < 1000 := by
  have h1 := putF_le f v (putF g u [])
  have h2 := putF_le g u []
  have h3 : ([] : List (Str × V)).length = 0 := rfl
  omega
def pgF (f s : Addr) : List (Str × V) := putF "statements" (.ref s) (putF "functions" (.ref f) [])
theorem pg_fns (f s : Addr) : (pgF f s).lookup ("functions" : Str) = some (.ref f) := by
  unfold pgF
  rw [lookup_putF, if_neg (by decide +kernel), lookup_putF, if_pos rfl]
theorem pg_sts (f s : Addr) : (pgF f s).lookup ("statements" : Str) = some (.ref s) := by
  unfold pgF
  rw [lookup_putF, if_pos rfl]
/-- a list of data that can be changed -/
structure Dx (K : PySem.W.Frag) (G : Hp) (p : Addr) (ds : List PyData) : Prop where
  ex : ∃ xs, G p = some (.lst xs) ∧ DpAll K G xs ds
  sm : smAll ds = true
  le : ds.length ≤ 100000
theorem Dx.up {G G' : Hp} {p : Addr} {ds : List PyData} (h : Dx K G p ds) (e : Ex G G') : Dx K G' p ds := by
  obtain ⟨xs, h1, h2⟩ := h.ex
  exact ⟨⟨xs, e _ _ h1, dpa_ex e h2⟩, h.sm, h.le⟩
theorem Dx.dl {G : Hp} {p : Addr} {ds : List PyData} (h : Dx K G p ds) : Dl K G p ds := by
  obtain ⟨xs, h1, h2⟩ := h.ex
  exact ⟨⟨xs, SqL.of h1, h2⟩, h.sm, h.le⟩
structure FD where
  n : PyData
  p : List PyData
  b : List PyData
/-- a function as an object -/
structure FnAt (K : PySem.W.Frag) (C : Addr) (G : Hp) (a : Addr) (f : FD) : Prop where
  ex : ∃ dx nv q1 q2, G a = some (.ins C dx (fnF nv q1 q2)) ∧ Ds K G nv f.n ∧ Dx K G q1 f.p ∧ Dx K G q2 f.b
theorem FnAt.up {C : Addr} {G G' : Hp} {a : Addr} {f : FD} (h : FnAt K C G a f) (e : Ex G G') : FnAt K C G' a f := by
  obtain ⟨dx, nv, q1, q2, h1, h2, h3, h4⟩ := h.ex
  exact ⟨dx, nv, q1, q2, e _ _ h1, ds_ex h2 e, h3.up e, h4.up e⟩
inductive FnAll (K : PySem.W.Frag) (C : Addr) (G : Hp) : List V → List FD → Prop
  | nil : FnAll K C G [] []
  | cons {a : Addr} {f : FD} {xs : List V} {fs : List FD} : FnAt K C G a f → FnAll K C G xs fs → FnAll K C G (.ref a :: xs) (f :: fs)
theorem FnAll.up {C : Addr} {G G' : Hp} (e : Ex G G') : ∀ {xs : List V} {fs : List FD}, FnAll K C G xs fs → FnAll K C G' xs fs
  | _, _, .nil => .nil
  | _, _, .cons h t => .cons (h.up e) (t.up e)
theorem FnAll.len {C : Addr} {G : Hp} : ∀ {xs : List V} {fs : List FD}, FnAll K C G xs fs → xs.length = fs.length
  | _, _, .nil => rfl
  | _, _, .cons _ t => congrArg (· + 1) t.len
theorem FnAll.get {C : Addr} {G : Hp} : ∀ {xs : List V} {fs : List FD} {i : Nat} {v : V}, FnAll K C G xs fs → xs[i]? = some v → ∃ a f, v = .ref a ∧ fs[i]? = some f ∧ FnAt K C G a f
  | _, _, _, _, .nil, e => by simp at e
  | _, _, 0, _, .cons h _, e => by
    cases Option.some.inj e
    exact ⟨_, _, rfl, rfl, h⟩
  | _, _, i + 1, _, .cons _ t, e => FnAll.get (i := i) t e
theorem FnAll.snoc {C : Addr} {G : Hp} {a : Addr} {f : FD} (k : FnAt K C G a f) : ∀ {xs : List V} {fs : List FD}, FnAll K C G xs fs → FnAll K C G (xs ++ [.ref a]) (fs ++ [f])
  | _, _, .nil => .cons k .nil
  | _, _, .cons h t => .cons h (FnAll.snoc k t)
def stsD (m : Nat) (ds : List PyData) : Bool := decide (ds.length ≤ m) && ds.all stmtD
def fnD (f : FD) : Bool := nameD f.n && (decide (f.p.length ≤ 4) && f.p.all declD) && stsD 12 f.b
/-- a function object that is new, its lists too -/
def NewF (C : Addr) (H H1 : Hp) (v : V) : Prop := ∃ a dx nv q1 q2, v = .ref a ∧ H a = none ∧ H1 a = some (.ins C dx (fnF nv q1 q2)) ∧ H q1 = none ∧ H q2 = none
theorem ex_none {H H1 : Hp} {a : Addr} (e : Ex H H1) (n : H1 a = none) : H a = none := by
  cases z : H a with
  | none => rfl
  | some o =>
    rw [e _ _ z] at n
    cases n
theorem NewF.up {C : Addr} {H H1 H2 : Hp} {v : V} (h : NewF C H H1 v) (e : Ex H1 H2) : NewF C H H2 v := by
  obtain ⟨a, dx, nv, q1, q2, h1, h2, h3, h4, h5⟩ := h
  exact ⟨a, dx, nv, q1, q2, h1, h2, e _ _ h3, h4, h5⟩
theorem NewF.down {C : Addr} {H0 H H1 : Hp} {v : V} (h : NewF C H H1 v) (e : Ex H0 H) : NewF C H0 H1 v := by
  obtain ⟨a, dx, nv, q1, q2, h1, h2, h3, h4, h5⟩ := h
  exact ⟨a, dx, nv, q1, q2, h1, ex_none e h2, h3, ex_none e h4, ex_none e h5⟩
/-- .. also behind a change of another kind of thing -/
theorem NewF.mut {C : Addr} {H H1 : Hp} {v : V} {p : Addr} {xs : List V} {o : HO} (h : NewF C H H1 v) (f : H1 p = some (.lst xs)) : NewF C H (upd H1 p o) v := by
  obtain ⟨a, dx, nv, q1, q2, h1, h2, h3, h4, h5⟩ := h
  have z : a ≠ p := fun z => by
    rw [z, f] at h3
    cases h3
  exact ⟨a, dx, nv, q1, q2, h1, h2, by rw [upd_ne z]; exact h3, h4, h5⟩
theorem NewF.ks {C : Addr} {H H1 H2 : Hp} {v : V} {p : Addr} {o : HO} (h : NewF C H H1 v) (f : H p = some o) (k : Ks [p] H1 H2) : NewF C H H2 v := by
  obtain ⟨a, dx, nv, q1, q2, h1, h2, h3, h4, h5⟩ := h
  have z : a ≠ p := fun z => by
    rw [z, f] at h2
    cases h2
  exact ⟨a, dx, nv, q1, q2, h1, h2, k _ _ (by simpa using z) h3, h4, h5⟩
def pFi (K : PySem.W.Frag) (C : Addr) : Sp := fun vs H Q _ => ∃ S a dx nv pp bp, ∃ f : FD, vs = [.ref a, nv, .ref pp, .ref bp] ∧ Al S H ∧ a ∈ S ∧ H a = some (.ins C dx []) ∧ Ds K (dl S H) nv f.n ∧ Dl K (dl S H) pp f.p ∧ Dl K (dl S H) bp f.b ∧
  ∀ q1 q2 ys1 ys2 H1, Ks [a] H H1 → H q1 = none → H q2 = none → q1 ≠ q2 → H1 a = some (.ins C dx (fnF nv q1 q2)) → H1 q1 = some (.lst ys1) → H1 q2 = some (.lst ys2) → DpAll K (dl S H1) ys1 f.p → DpAll K (dl S H1) ys2 f.b → Q .non H1
def pCf (K : PySem.W.Frag) (C : Addr) : Sp := fun vs H Q _ => ∃ S a f, vs = [.ref a] ∧ Al S H ∧ FnAt K C (dl S H) a f ∧ ∀ b H1, H b = none → Ex H H1 → FnAt K C (dl S H1) b f → NewF C H H1 (.ref b) → Q (.ref b) H1
def pCfs (K : PySem.W.Frag) (C : Addr) : Sp := fun vs H Q _ => ∃ S p xs fs, vs = [.ref p] ∧ Al S H ∧ SqL K (dl S H) p xs ∧ FnAll K C (dl S H) xs fs ∧ fs.length ≤ 100000 ∧ ∀ q ys H1, H q = none → Ex H H1 → H1 q = some (.lst ys) → FnAll K C (dl S H1) ys fs → (∀ v ∈ ys, NewF C H H1 v) → Q (.ref q) H1
def pSts (K : PySem.W.Frag) : Sp := fun vs H Q _ => ∃ p ds m, vs = [.ref p, .int (m : Nat)] ∧ Dl K H p ds ∧ RV1 (.bl (stsD m ds)) H Q
def pIf (K : PySem.W.Frag) (C : Addr) : Sp := fun vs H Q _ => ∃ a f, vs = [.ref a] ∧ FnAt K C H a f ∧ RV1 (.bl (fnD f)) H Q
/-! ## what is declared -/
def letsD (ds : List PyData) : List PyData := (ds.filter fun d => decide (fwD d = "let")).map cut13
theorem lets_snoc (ds : List PyData) (d : PyData) : letsD (ds ++ [d]) = letsD ds ++ (if fwD d = "let" then [cut13 d] else []) := by
  unfold letsD
  rw [List.filter_append, List.map_append]
  by_cases h : fwD d = "let"
  · rw [if_pos h, List.filter_cons_of_pos (by simpa using h)]
    rfl
  · rw [if_neg h, List.filter_cons_of_neg (by simpa using h)]
    rfl
theorem lets_len (ds : List PyData) : (letsD ds).length ≤ ds.length := by
  unfold letsD
  rw [List.length_map]
  exact List.length_filter_le _ _
structure StOk (d : PyData) (ds : List PyData) : Prop where
  e : d = .tuple ds
  ne : 0 < ds.length
  w : nthD (.tuple ds) 0 = .str (fwD d)
  lt : fwD d = "let" → ds.length = 4 ∧ declD (cut13 d) = true
  cl : fwD d = "call" → ds.length = 3 ∧ nameD (nthD d 1) = true ∧ srcsD (nthD d 2) = true
theorem st_ok {d : PyData} (h : stmtD d = true) : ∃ ds, StOk d ds := by
  have hw : fwD d ≠ "" := fun z => by
    unfold stmtD at h
    rw [z, if_neg (by decide), if_neg (by decide)] at h
    rw [decide_eq_false (by decide)] at h
    cases h
  obtain ⟨ds, e, ne⟩ := fw_ne hw
  have hs : tagD (nthD d 0) = "str" := Decidable.byContradiction fun z => hw (fw_no (.inr (.inr z)))
  obtain ⟨x, ex⟩ := tag_str hs
  refine ⟨ds, e, ne, ?_, fun c => ?_, fun c => ?_⟩
  · subst e
    rw [ex, fw_str ne ex]
  · unfold stmtD at h
    rw [if_pos c, Bool.and_eq_true, Bool.and_eq_true] at h
    have h1 := of_decide_eq_true h.1
    subst e
    exact ⟨h1, h.2.1⟩
  · unfold stmtD at h
    rw [c, if_neg (by decide), if_neg (by decide), Bool.and_eq_true, Bool.and_eq_true, Bool.and_eq_true] at h
    have h1 := of_decide_eq_true h.2.1
    subst e
    exact ⟨h1, h.2.2.1, h.2.2.2⟩
structure PrOk (d : PyData) (ds : List PyData) : Prop where
  e : d = .tuple ds
  l : ds.length = 2
  n : nameD (nthD (.tuple ds) 0) = true
theorem pr_ok {d : PyData} (h : declD d = true) : ∃ ds, PrOk d ds := by
  unfold declD at h
  rw [Bool.and_eq_true, Bool.and_eq_true, Bool.and_eq_true] at h
  obtain ⟨ds, rfl⟩ := tag_tup (of_decide_eq_true h.1.1)
  exact ⟨ds, rfl, of_decide_eq_true h.1.2, h.2.1⟩
theorem name_str {d : PyData} (h : nameD d = true) : d = .str (strD d) ∧ (strD d).length ≤ 8 := by
  cases d with
  | str x =>
    refine ⟨rfl, ?_⟩
    have h' : (!decide (x = "null") && (decide (1 ≤ x.length) && decide (x.length ≤ 8)) && x.cps.toList.all sgOk) = true := h
    rw [Bool.and_eq_true, Bool.and_eq_true, Bool.and_eq_true] at h'
    exact of_decide_eq_true h'.1.2.2
  | _ => exact absurd h (by simp [nameD])
def declsF (fs : List FD) : List PyData := fs.flatMap fun f => f.p ++ letsD f.b
def declsD (fs : List FD) (ss : List PyData) : List PyData := declsF fs ++ letsD ss
theorem declsF_snoc (fs : List FD) (f : FD) : declsF (fs ++ [f]) = declsF fs ++ (f.p ++ letsD f.b) := by
  unfold declsF
  rw [List.flatMap_append]
  simp
theorem all_at {α : Type} {p : α → Bool} {xs : List α} {i : Nat} {x : α} (h : xs.all p = true) (e : xs[i]? = some x) : p x = true := List.all_eq_true.mp h x (List.mem_of_getElem? e)
theorem fn_le {f : FD} (h : fnD f = true) : f.p.length ≤ 4 ∧ f.b.length ≤ 12 ∧ nameD f.n = true ∧ f.p.all declD = true ∧ f.b.all stmtD = true := by
  unfold fnD stsD at h
  rw [Bool.and_eq_true, Bool.and_eq_true, Bool.and_eq_true, Bool.and_eq_true] at h
  exact ⟨of_decide_eq_true h.1.2.1, of_decide_eq_true h.2.1, h.1.1, h.1.2.2, h.2.2⟩
theorem lets_ok {ds : List PyData} (h : ds.all stmtD = true) : (letsD ds).all declD = true := by
  rw [List.all_eq_true] at h ⊢
  intro x hx
  unfold letsD at hx
  obtain ⟨d, hd, rfl⟩ := List.mem_map.mp hx
  obtain ⟨h1, h2⟩ := List.mem_filter.mp hd
  obtain ⟨_, o⟩ := st_ok (h d h1)
  exact (o.lt (of_decide_eq_true h2)).2
theorem declsF_le : ∀ {fs : List FD}, fs.all fnD = true → (declsF fs).length ≤ 16 * fs.length
  | [], _ => Nat.le_refl _
  | f :: fs, h => by
    rw [List.all_cons, Bool.and_eq_true] at h
    have h1 := fn_le h.1
    have h2 := declsF_le h.2
    have h3 := lets_len f.b
    unfold declsF at h2 ⊢
    rw [List.flatMap_cons, List.length_append, List.length_append, List.length_cons]
    omega
theorem declsF_ok {fs : List FD} (h : fs.all fnD = true) : (declsF fs).all declD = true := by
  rw [List.all_eq_true] at h ⊢
  intro x hx
  unfold declsF at hx
  obtain ⟨f, hf, hx⟩ := List.mem_flatMap.mp hx
  have h1 := fn_le (h f hf)
  rcases List.mem_append.mp hx with hx | hx
  · exact List.all_eq_true.mp h1.2.2.2.1 x hx
  · exact List.all_eq_true.mp (lets_ok h1.2.2.2.2) x hx
theorem decls_ok {fs : List FD} {ss : List PyData} (h : fs.all fnD = true) (k : ss.all stmtD = true) : (declsD fs ss).all declD = true := by
  unfold declsD
  rw [List.all_append, declsF_ok h, lets_ok k]
  rfl
theorem decls_le {fs : List FD} {ss : List PyData} (h : fs.all fnD = true) (h4 : fs.length ≤ 4) (h40 : ss.length ≤ 40) : (declsD fs ss).length ≤ 104 := by
  have h1 := declsF_le h
  have h2 := lets_len ss
  unfold declsD
  rw [List.length_append]
  omega
theorem a_extend {H : Hp} {Q : VK} {p b : Addr} {xs zs : List V} (h : H p = some (.lst xs)) (k : H b = some (.lst zs)) (hz : xs.length + zs.length ≤ 100000) (q : Q .non (upd H p (.lst (xs ++ zs)))) : rExtend (.ref p) [.ref b] H Q := ⟨p, b, xs, zs, rfl, rfl, h, k, sz_of hz, q⟩
def pLets (K : PySem.W.Frag) : Sp := fun vs H Q _ => ∃ S p ds, vs = [.ref p] ∧ Al S H ∧ Dl K (dl S H) p ds ∧ ds.all stmtD = true ∧ ∀ q ys H1, H q = none → Ex H H1 → H1 q = some (.lst ys) → DpAll K (dl S H1) ys (letsD ds) → Q (.ref q) H1
/-- the parts of a program -/
structure Pg (K : PySem.W.Frag) (C : Addr) (G : Hp) (pf ps : Addr) (fs : List FD) (ss : List PyData) : Prop where
  fx : ∃ xs, SqL K G pf xs ∧ FnAll K C G xs fs
  sx : Dl K G ps ss
  fo : fs.all fnD = true
  so : ss.all stmtD = true
  f4 : fs.length ≤ 4
  s40 : ss.length ≤ 40
theorem Pg.up {C : Addr} {G G' : Hp} {pf ps : Addr} {fs : List FD} {ss : List PyData} (h : Pg K C G pf ps fs ss) (e : Ex G G') : Pg K C G' pf ps fs ss := by
  obtain ⟨xs, h1, h2⟩ := h.fx
  exact ⟨⟨xs, ex_sl h1 e, h2.up e⟩, h.sx.up e, h.fo, h.so, h.f4, h.s40⟩
def pDecl (K : PySem.W.Frag) (C : Addr) : Sp := fun vs H Q _ => ∃ S pf ps fs ss, vs = [.ref pf, .ref ps] ∧ Al S H ∧ Pg K C (dl S H) pf ps fs ss ∧ ∀ q ys H1, H q = none → Ex H H1 → H1 q = some (.lst ys) → DpAll K (dl S H1) ys (declsD fs ss) → Q (.ref q) H1
def namesD (fs : List FD) (ss : List PyData) : List Str := (fs.map fun f => strD f.n) ++ (declsD fs ss).map fun d => strD (nthD d 0)
def kindsD (fs : List FD) (ss : List PyData) : List PyData := (declsD fs ss).map fun d => nthD d 1
def pNames (K : PySem.W.Frag) (C : Addr) : Sp := fun vs H Q _ => ∃ S pf ps fs ss, vs = [.ref pf, .ref ps] ∧ Al S H ∧ Pg K C (dl S H) pf ps fs ss ∧ ∀ q H1, H q = none → Ex H H1 → H1 q = some (.lst ((namesD fs ss).map V.str)) → Q (.ref q) H1
def pKinds (K : PySem.W.Frag) (C : Addr) : Sp := fun vs H Q _ => ∃ S pf ps fs ss, vs = [.ref pf, .ref ps] ∧ Al S H ∧ Pg K C (dl S H) pf ps fs ss ∧ ∀ q ys H1, H q = none → Ex H H1 → H1 q = some (.lst ys) → DpAll K (dl S H1) ys (kindsD fs ss) → Q (.ref q) H1
theorem w_gtupS {σ : L2.St} {H : Hp} {n : Nat} {gs : TGs} {N : L2.St → Hp → Prop} {p : Addr} {xs : List V} (hx : SqT K H p xs) (hn : xs.length = n) (h : gs xs σ H N) : gTup K n gs (.ref p) σ H N := ⟨p, xs, rfl, hx, hn, h⟩
theorem dpa_two {G : Hp} {xs : List V} {ds : List PyData} (h : DpAll K G xs ds) (l : ds.length = 2) : ∃ u v, xs = [u, v] ∧ Dp K G u (nthD (.tuple ds) 0) ∧ Dp K G v (nthD (.tuple ds) 1) := by
  match ds, l, h with
  | [_, _], _, .cons h1 (.cons h2 .nil) => exact ⟨_, _, rfl, h1, h2⟩
theorem ev_le {G : Hp} {xs : List V} {ds : List PyData} (h : DpAll K G xs ds) (l : ds.length ≤ 104) : xs.length ≤ 104 := by rw [dpa_len h]; exact l
def kindD (ds : List PyData) : Bool := ds.all typD || ds.all fun d => numD d 5
def pKind (K : PySem.W.Frag) : Sp := fun vs H Q _ => ∃ p ds, vs = [.ref p] ∧ Dl K H p ds ∧ RV1 (.bl (kindD ds)) H Q
/-! ## calls that fit -/
abbrev Kv := List (Key × V)
def IntK (kvs : Kv) : Prop := ∀ k v, valV kvs k = some v → ∃ i, v = .int i
def fit1 (kvs : Kv) (d : PyData) : Bool := !decide (fwD d = "call") || decide ((valV kvs (Sum.inr (strD (nthD d 1)))).getD .non = .int ((itemsD (nthD d 2)).length : Nat))
def fitD (kvs : Kv) (ss : List PyData) : Bool := ss.all (fit1 kvs)
def putN (kvs : Kv) (f : FD) : Kv := putK kvs (Sum.inr (strD f.n)) (.int (f.p.length : Nat))
def fitF (kvs : Kv) : List FD → List PyData → Bool
  | [], ss => fitD kvs ss
  | f :: fs, ss => fitD kvs f.b && fitF (putN kvs f) fs ss
theorem putN_le (kvs : Kv) (f : FD) : (putN kvs f).length ≤ kvs.length + 1 := by
  unfold putN putK
  split
  · rw [List.length_map]
    exact Nat.le_succ _
  · rw [List.length_append]
    exact Nat.le_refl _
theorem IntK.put {kvs : Kv} (h : IntK kvs) (f : FD) : IntK (putN kvs f) := fun k v e => by
  unfold putN at e
  rw [valV_put] at e
  by_cases z : k = Sum.inr (strD f.n)
  · rw [if_pos z] at e
    exact ⟨_, (Option.some.inj e).symm⟩
  · rw [if_neg z] at e
    exact h k v e
theorem int_scal {kvs : Kv} (h : IntK kvs) (k : Key) (n : Int) : scal ((valV kvs k).getD .non) (.int n) = true := by
  cases e : valV kvs k with
  | none => rfl
  | some v =>
    obtain ⟨i, rfl⟩ := h k v e
    rfl
def pFit (K : PySem.W.Frag) : Sp := fun vs H Q _ => ∃ ps ss m kvs, vs = [.ref ps, .ref m] ∧ Dl K H ps ss ∧ ss.all stmtD = true ∧ H m = some (.dK kvs) ∧ IntK kvs ∧ RV1 (.bl (fitD kvs ss)) H Q
def pFits (K : PySem.W.Frag) (C : Addr) : Sp := fun vs H Q _ => ∃ pf ps fs ss, vs = [.ref pf, .ref ps] ∧ Pg K C H pf ps fs ss ∧ RV1 (.bl (fitF [] fs ss)) H Q
def GetD (ty : TE) (x : V) (σ : L2.St) (H : Hp) (Q : VK) : Prop := ∃ a, x = .ref a ∧ IsD H a ∧ ty σ H fun y H2 => ∃ o, DGet H2 a y o ∧ Q (o.getD .non) H2
theorem w_getD1 {σ : L2.St} {H : Hp} {td ty : TE} {Q : VK} (h : td σ H fun x Ha => GetD ty x σ Ha Q) : tDGet1 td ty σ H Q := h
theorem a_getD {σ : L2.St} {H : Hp} {ty : TE} {Q : VK} {m : Addr} {kvs : Kv} (e : H m = some (.dK kvs)) (h : ty σ H fun y H2 => ∃ o, DGet H2 m y o ∧ Q (o.getD .non) H2) : GetD ty (.ref m) σ H Q := ⟨m, rfl, .inl ⟨kvs, .inl e⟩, h⟩
def PutD (x y v : V) (H : Hp) (N : Hp → Prop) : Prop := ∃ a H4, x = .ref a ∧ DPut H a y v H4 ∧ N H4
theorem w_putD {σ : L2.St} {H : Hp} {td ty tv : TE} {D : Ends} (h : tv σ H fun v Ha => td σ Ha fun x Hb => ty σ Hb fun y Hc => PutD x y v Hc fun Hd => D.nx σ Hd) : sDPut td ty tv D σ H := h
theorem a_putD {H : Hp} {m : Addr} {kvs : Kv} {x : Str} {v : V} {N : Hp → Prop} (e : H m = some (.dK kvs)) (hl : kvs.length < 100000) (k : N (upd H m (.dK (putK kvs (Sum.inr x) v)))) : PutD (.ref m) (.str x) v H N := ⟨m, _, rfl, DPut.k (k := Sum.inr x) e (sz_lt hl), k⟩
theorem dl_nil (H : Hp) : dl [] H = H := by
  funext a
  exact if_neg (by simp)
def nodupD (ss : List Str) : Bool := decide ss.Nodup
def pDiff (K : PySem.W.Frag) : Sp := fun vs H Q _ => ∃ p ss, vs = [.ref p] ∧ SqL K H p (ss.map V.str) ∧ ss.length ≤ 200 ∧ (∀ s ∈ ss, s.length ≤ 8) ∧ RV1 (.bl (nodupD ss)) H Q
def progD (fs : List FD) (ss : List PyData) : Bool := decide (fs.length ≤ 4) && fs.all fnD && stsD 40 ss && (nodupD (namesD fs ss) && kindD (kindsD fs ss) && fitF [] fs ss)
def pIp (K : PySem.W.Frag) (C : Addr) : Sp := fun vs H Q _ => ∃ pf ps xs fs ss, vs = [.ref pf, .ref ps] ∧ SqL K H pf xs ∧ FnAll K C H xs fs ∧ fs.length ≤ 100000 ∧ Dl K H ps ss ∧ RV1 (.bl (progD fs ss)) H Q
/-! ## the error -/
def pRe (C : Addr) : Sp := fun vs H Q _ => ∃ a r, vs = [.ref a, .str r] ∧ H a = some (exo a C none) ∧ ∀ dx, H dx = none → dx ≠ a → Q .non (upd (upd H dx (exd dx [("reason", .str r)])) a (exo a C (some dx)))
def VeI (K : PySem.W.Frag) (vs : List V) (H : Hp) (Q : VK) : Prop := ∃ (a C : Addr) (ws : List V), vs = .ref a :: ws ∧ ws.length ≤ 1000 ∧ OexC K C ∧ H a = some (exo a C none) ∧ Q .non H
theorem w_veI {σ : L2.St} {H : Hp} {ta : TA} {Q : VK} (h : ta σ H fun vs Ha => VeI K vs Ha Q) : tVeI K ta σ H Q := h
def OstI (K : PySem.W.Frag) (f : Str) (x y : V) (H : Hp) (N : Hp → Prop) : Prop := ∃ a C : Addr, x = .ref a ∧ OexC K C ∧ PySem.W.findIn K (.ref C) f = some none ∧
  ((H a = some (exo a C none) ∧ ∀ dx, H dx = none → dx ≠ a → N (upd (upd H dx (exd dx [(f, y)])) a (exo a C (some dx)))) ∨
    ∃ (dx : Addr) (fs : List (Str × V)), H a = some (exo a C (some dx)) ∧ H dx = some (exd dx fs) ∧ fs.length ≤ 900 ∧ N (upd H dx (exd dx ((f, y) :: fs))))
theorem w_ostI {σ : L2.St} {H : Hp} {f : Str} {to te : TE} {D : Ends} (h : te σ H fun y Ha => to σ Ha fun x Hb => OstI K f x y Hb fun Hc => D.nx σ Hc) : tOst K f to te D σ H := h
def MkO (C : Addr) (sp : Sp) (vs : List V) (H : Hp) (Q : XK) : Prop := vs.length ≤ 1000 ∧ ∀ a, H a = none → sp (.ref a :: vs) (upd H a (exo a C none))
  (fun v H2 => v = .non ∧ ∃ (d : Addr) (fs : List (Str × V)), H2 a = some (exo a C (some d)) ∧ H2 d = some (exd d fs) ∧ H d = none ∧ Q (.ref C) (some d) (upd (del H2 a) d (.xd fs))) (fun _ _ _ => False)
theorem w_mkO {σ : L2.St} {H : Hp} {C : Addr} {sp : Sp} {ta : TA} {Q : XK} (h : ta σ H fun vs Ha => MkO C sp vs Ha Q) : tMkO C sp [] ta σ H Q := by
  have e : (fun vs Ha => MkO C sp vs Ha Q) = fun (vs : List V) H1 => vs.length ≤ 1000 ∧ ∀ a, H1 a = none → sp (.ref a :: (vs ++ [])) (upd H1 a (exo a C none))
      (fun v H2 => v = .non ∧ ∃ (d : Addr) (fs : List (Str × V)), H2 a = some (exo a C (some d)) ∧ H2 d = some (exd d fs) ∧ H1 d = none ∧ Q (.ref C) (some d) (upd (del H2 a) d (.xd fs))) (fun _ _ _ => False) := by
    funext vs Ha
    rw [List.append_nil]
    rfl
  show ta σ H fun vs H1 => vs.length ≤ 1000 ∧ ∀ a, H1 a = none → sp (.ref a :: (vs ++ [])) (upd H1 a (exo a C none))
      (fun v H2 => v = .non ∧ ∃ (d : Addr) (fs : List (Str × V)), H2 a = some (exo a C (some d)) ∧ H2 d = some (exd d fs) ∧ H1 d = none ∧ Q (.ref C) (some d) (upd (del H2 a) d (.xd fs))) (fun _ _ _ => False)
  rw [← e]
  exact h
/-- what a made error leaves behind -/
theorem mko_re {C : Addr} {r : Str} {H : Hp} {Q : XK} (k : ∀ d H1, H d = none → Ex H H1 → H1 d = some (.xd [("reason", .str r)]) → Q (.ref C) (some d) H1) : MkO C (pRe C) [.str r] H Q := by
  refine ⟨(show 1 ≤ 1000 by decide), fun a na => ⟨a, r, rfl, upd_same, fun dx n ne => ⟨rfl, dx, [("reason", .str r)], upd_same, by rw [upd_ne ne, upd_same], by rw [upd_ne ne] at n; exact n, ?_⟩⟩⟩
  have nd : H dx = none := by rw [upd_ne ne] at n; exact n
  refine k dx _ nd (fun b o e => ?_) upd_same
  have b1 : b ≠ dx := ne_of_none e nd
  have b2 : b ≠ a := ne_of_none e na
  rw [upd_ne b1, del_ne b2, upd_ne b2, upd_ne b1, upd_ne b2]
  exact e
def pPi (K : PySem.W.Frag) (C CF CE : Addr) : Sp := fun vs H Q E => ∃ S a dx pf ps xs fs ss, vs = [.ref a, .ref pf, .ref ps] ∧ Al S H ∧ a ∈ S ∧ H a = some (.ins C dx []) ∧ SqL K (dl S H) pf xs ∧ FnAll K CF (dl S H) xs fs ∧ fs.length ≤ 100000 ∧ Dl K (dl S H) ps ss ∧
  (progD fs ss = true → ∀ q1 q2 ys1 ys2 H1, Ks [a] H H1 → H q1 = none → H q2 = none → H1 a = some (.ins C dx (pgF q1 q2)) → H1 q1 = some (.lst ys1) → FnAll K CF (dl S H1) ys1 fs → (∀ v ∈ ys1, NewF CF H H1 v) → H1 q2 = some (.lst ys2) → DpAll K (dl S H1) ys2 ss → Q .non H1) ∧
  (progD fs ss = false → ∀ d H1, Ks [a] H H1 → H d = none → H1 d = some (.xd [("reason", .str "no program")]) → E (.ref CE) (some d) H1)
theorem pi_keep {C : Addr} {n1 : Str} {H1 H2 : Hp} (S : List Addr) (e : Ex H1 H2) : Ex (dl S H1) (dl S H2) := dl_ex e
theorem sts_le {m : Nat} {ss : List PyData} (h : stsD m ss = true) : ss.length ≤ m ∧ ss.all stmtD = true := by
  unfold stsD at h
  rw [Bool.and_eq_true] at h
  exact ⟨of_decide_eq_true h.1, h.2⟩
theorem FnAll.ref {C : Addr} {G : Hp} {xs : List V} {fs : List FD} (h : FnAll K C G xs fs) : True := trivial
theorem kinds_sm {fs : List FD} {ss : List PyData} (h : smAll (declsD fs ss) = true) (o : (declsD fs ss).all declD = true) : smAll (kindsD fs ss) = true := by
  unfold kindsD
  revert h o
  induction declsD fs ss with
  | nil => intro _ _; rfl
  | cons d ds ih =>
    intro h o
    have h' := (Bool.and_eq_true _ _ ▸ h : smD d = true ∧ smAll ds = true)
    rw [List.all_cons, Bool.and_eq_true] at o
    obtain ⟨es, p⟩ := pr_ok o.1
    have h2 : smD d = true := h'.1
    rw [p.e] at h2
    have h3 := (Bool.and_eq_true _ _ ▸ h2 : decide (es.length ≤ 100000) = true ∧ smAll es = true)
    show (smD (nthD d 1) && smAll (ds.map fun d => nthD d 1)) = true
    rw [ih h'.2 o.2, p.e, sm_at h3.2 (nthD_get (by rw [p.l]; decide))]
    rfl
theorem sm_app : ∀ {xs ys : List PyData}, smAll xs = true → smAll ys = true → smAll (xs ++ ys) = true
  | [], _, _, h => h
  | a :: as, ys, h, g => by
    have h' := (Bool.and_eq_true _ _ ▸ h : smD a = true ∧ smAll as = true)
    show (smD a && smAll (as ++ ys)) = true
    rw [h'.1, sm_app h'.2 g]
    rfl
theorem sm_lets : ∀ {ss : List PyData}, smAll ss = true → ss.all stmtD = true → smAll (letsD ss) = true
  | [], _, _ => rfl
  | d :: ds, h, o => by
    have h' := (Bool.and_eq_true _ _ ▸ h : smD d = true ∧ smAll ds = true)
    rw [List.all_cons, Bool.and_eq_true] at o
    have ih := sm_lets h'.2 o.2
    unfold letsD at ih ⊢
    by_cases c : fwD d = "let"
    · rw [List.filter_cons_of_pos (by simpa using c), List.map_cons]
      obtain ⟨es, p⟩ := st_ok o.1
      have h2 : smD d = true := h'.1
      rw [p.e] at h2
      have h3 := (Bool.and_eq_true _ _ ▸ h2 : decide (es.length ≤ 100000) = true ∧ smAll es = true)
      show (smD (cut13 d) && smAll _) = true
      rw [ih, p.e]
      have : smD (cut13 (.tuple es)) = true := sm_tup (sm_take 2 (sm_drop 1 h3.2)) (by rw [List.length_take]; omega)
      rw [this]
      rfl
    · rw [List.filter_cons_of_neg (by simpa using c)]
      exact ih
theorem fn_sm {C : Addr} {G : Hp} : ∀ {xs : List V} {fs : List FD}, FnAll K C G xs fs → fs.all fnD = true → smAll (declsF fs) = true
  | _, _, .nil, _ => rfl
  | _, _, .cons (f := f) (fs := fs) h t, o => by
    rw [List.all_cons, Bool.and_eq_true] at o
    obtain ⟨_, _, _, _, _, _, hp, hb⟩ := h.ex
    have ih := fn_sm t o.2
    unfold declsF at ih ⊢
    rw [List.flatMap_cons]
    exact sm_app (sm_app hp.sm (sm_lets hb.sm (fn_le o.1).2.2.2.2)) ih
theorem names_le {fs : List FD} {ss : List PyData} (h : fs.all fnD = true) (h4 : fs.length ≤ 4) (h40 : ss.length ≤ 40) : (namesD fs ss).length ≤ 200 := by
  have h1 := decls_le h h4 h40
  unfold namesD
  rw [List.length_append, List.length_map, List.length_map]
  omega
theorem names_s {fs : List FD} {ss : List PyData} (h : fs.all fnD = true) (k : ss.all stmtD = true) : ∀ s ∈ namesD fs ss, s.length ≤ 8 := fun s hs => by
  unfold namesD at hs
  rcases List.mem_append.mp hs with hs | hs
  · obtain ⟨f, hf, rfl⟩ := List.mem_map.mp hs
    exact (name_str (fn_le (List.all_eq_true.mp h f hf)).2.2.1).2
  · obtain ⟨d, hd, rfl⟩ := List.mem_map.mp hs
    obtain ⟨es, o⟩ := pr_ok (List.all_eq_true.mp (decls_ok h k) d hd)
    rw [o.e]
    exact (name_str o.n).2
end
end Ver

set_option Elab.async false
set_option linter.all false
set_option maxRecDepth 100000
set_option maxHeartbeats 4000000
namespace Ver
open PySem PySem.Spec PyProof.Rows
/-! ## how many different texts a list has: len(set(xs)) -/
abbrev eS (b : Bool) : Obj := { cls := .type "set", dict := none, data := .set #[] 0 (.fresh 0 0 b) }
def nth (xs : List Str) (i : Nat) : Str := xs.getD i Str.empty
/-- the texts met before place i, each once -/
def fm (xs : List Str) : Nat → List Str
  | 0 => []
  | i + 1 => if nth xs i ∈ fm xs i then fm xs i else fm xs i ++ [nth xs i]
theorem fm_le (xs : List Str) : ∀ i, (fm xs i).length ≤ i
  | 0 => Nat.le_refl _
  | i + 1 => by
    have h := fm_le xs i
    unfold fm
    split
    · omega
    · rw [List.length_append, List.length_singleton]
      omega
theorem fm_mem (xs : List Str) (i : Nat) (k : Str) : decide (k ∈ fm xs (i + 1)) = (decide (k ∈ fm xs i) || decide (k = nth xs i)) := by
  have e : fm xs (i + 1) = if nth xs i ∈ fm xs i then fm xs i else fm xs i ++ [nth xs i] := rfl
  rw [e]
  by_cases h : nth xs i ∈ fm xs i
  · rw [if_pos h]
    by_cases z : k = nth xs i
    · subst z
      simp [h]
    · simp [z]
  · rw [if_neg h]
    simp [List.mem_append]
theorem fm_num (xs : List Str) (i : Nat) : (fm xs (i + 1)).length = if decide (nth xs i ∈ fm xs i) = true then (fm xs i).length else (fm xs i).length + 1 := by
  have e : fm xs (i + 1) = if nth xs i ∈ fm xs i then fm xs i else fm xs i ++ [nth xs i] := rfl
  rw [e]
  by_cases h : nth xs i ∈ fm xs i
  · rw [if_pos h, if_pos (decide_eq_true h)]
  · rw [if_neg h, if_neg (by simpa using h), List.length_append, List.length_singleton]
theorem nth_eq {xs : List Str} {i : Nat} (h : i < xs.length) : nth xs i = xs[i] := by
  unfold nth
  rw [List.getD_eq_getElem?_getD, List.getElem?_eq_getElem h]
  rfl
theorem fm_take (xs : List Str) : ∀ i, i ≤ xs.length → (∀ k, k ∈ fm xs i ↔ k ∈ xs.take i) ∧ ((fm xs i).length = i ↔ (xs.take i).Nodup)
  | 0, _ => ⟨fun k => by simp [fm], by simp [fm]⟩
  | i + 1, h => by
    have hi : i < xs.length := h
    obtain ⟨h1, h2⟩ := fm_take xs i (Nat.le_of_lt hi)
    have et : xs.take (i + 1) = xs.take i ++ [nth xs i] := by
      rw [nth_eq hi]
      exact take_snoc (List.getElem?_eq_getElem hi)
    have hl := fm_le xs i
    constructor
    · intro k
      have a := fm_mem xs i k
      have b : k ∈ fm xs (i + 1) ↔ (k ∈ fm xs i ∨ k = nth xs i) := by
        by_cases z : k ∈ fm xs (i + 1) <;> by_cases y : k ∈ fm xs i <;> by_cases x : k = nth xs i <;> simp_all
      rw [b, et, List.mem_append, List.mem_singleton, h1 k]
    · rw [fm_num, et, List.nodup_append]
      by_cases z : nth xs i ∈ fm xs i
      · rw [if_pos (decide_eq_true z)]
        constructor
        · intro y
          omega
        · intro y
          exact absurd rfl (y.2.2 _ ((h1 _).mp z) _ (by simp))
      · rw [if_neg (by simpa using z)]
        constructor
        · intro y
          refine ⟨h2.mp (by omega), by simp, fun a ha b hb e => ?_⟩
          rw [List.mem_singleton] at hb
          rw [e, hb] at ha
          exact z ((h1 _).mpr ha)
        · intro y
          have := h2.mpr y.1
          omega
theorem fm_nodup (xs : List Str) : decide (((fm xs xs.length).length : Int) = (xs.length : Int)) = nodupD xs := by
  have h := (fm_take xs xs.length (Nat.le_refl _)).2
  rw [List.take_length] at h
  unfold nodupD
  by_cases z : xs.Nodup
  · rw [decide_eq_true z, decide_eq_true (by have := h.mpr z; omega)]
  · rw [decide_eq_false z, decide_eq_false (fun y => z (h.mp (by omega)))]
section
variable {P : Program} {w : World} {B : Around} {R : Result → Shared → Prop} {J : Addr} {fp wr : List Addr} {G : Array GenState → Array GenState → Prop} {n : Nat} {Pv : Nat → Value → Prop} {St : Nat → Shared → Prop}
theorem loop_txt (W : WalksS P w B.in1 J fp wr G n Pv St) (D : Addr) (nf : D ∉ fp) (xs : List Str) (small : n + 1 < scanBound) (hv : ∀ i v, Pv i v → ∃ t, v = .str (nth xs i) t) :
    ∀ (m i : Nat) (s0 : Shared), n - i = m → i ≤ n → St i s0 → s0.heap.SetOf (strKind P w) D (fun k => decide (k ∈ fm xs i)) (fm xs i).length →
      (∀ s1, Moved (D :: wr) G s0 s1 → s1.heap.SetOf (strKind P w) D (fun k => decide (k ∈ fm xs n)) (fm xs n).length → R (.ok (.ret .none)) s1) →
      codeAny (model P w) B (.builtin "set.update.loop" ⟨[.ref D, .ref J], []⟩) R s0 := by
  have nw : D ∉ wr := fun z => nf (W.sub _ z)
  have up : ∀ b ∈ wr, b ∈ D :: wr := fun b z => List.mem_cons_of_mem _ z
  intro m
  induction m with
  | zero =>
    intro i s0 hm hi hst hD hR
    obtain rfl : i = n := by omega
    refine codeAny_builtin F.entry_set_update_loop ?_
    rw [Around.under_plainId F.plain_set_update_loop _]
    show wpAny _ B.in1 (pyNext (.ref J) >>= _) _ _ s0
    refine wpAny_bind (W.done s0 _ _ hst fun s1 mv => ?_)
    show wpAny _ B.in1 (ret Value.none) _ _ s1
    obtain ⟨o, es, ep, tb, ho, rest⟩ := hD
    exact wpAny_pure (hR s1 (mv.mono up) ⟨o, es, ep, tb, mv.heap D _ nw ho, rest⟩)
  | succ m ih =>
    intro i s0 hm hi hst hD hR
    have lt : i < n := by omega
    refine codeAny_builtin F.entry_set_update_loop ?_
    rw [Around.under_plainId F.plain_set_update_loop _]
    show wpAny _ B.in1 (pyNext (.ref J) >>= _) _ _ s0
    refine wpAny_bind (W.item i s0 _ _ lt hst fun v s1 pv st1 mv => ?_)
    obtain ⟨t, rfl⟩ := hv i v pv
    have hD1 : s1.heap.SetOf (strKind P w) D (fun k => decide (k ∈ fm xs i)) (fm xs i).length := by
      obtain ⟨o, es, ep, tb, ho, rest⟩ := hD
      exact ⟨o, es, ep, tb, mv.heap D _ nw ho, rest⟩
    show wpAny _ B.in1 (holding [Value.str (nth xs i) t] (setAdd D (.str (nth xs i) t)) >>= _) _ _ s1
    refine wpAny_bind (wpAny_holding ?_)
    unfold setAdd
    refine wpAny_holding (wpAny_bind ((strKind P w).pyHash (k := nth xs i) (strKind_is _ _ _ _) ?_))
    have room := fm_le xs i
    refine wpAny_setAddHashed_of (knd := strKind P w) (s := { s1 with toks := s1.toks + 1 }) (strKind_is _ _ _ _) rfl hD1 (by omega) fun h2 sb hD2 => ?_
    have hD3 : h2.SetOf (strKind P w) D (fun k => decide (k ∈ fm xs (i + 1))) (fm xs (i + 1)).length := SetOf_congr hD2 (fun k => (fm_mem xs i k).symm) (fm_num xs i).symm
    refine wpAny_pure ⟨plainId_quiet F.plain_set_update_loop _, ih (i + 1) _ (by omega) lt (W.frame _ s1 _ _ st1 (Nat.le_succ _) fun b hb o e => ?_) hD3 fun s2 mv2 hD4 => ?_⟩
    · rw [sb.2 b fun z : b = D => nf (by rw [← z]; exact hb)]
      exact e
    · refine hR s2 (Moved.trans W.gtrans ((mv.mono up).then_heap (Nat.le_succ _) fun b o hb e => ?_) mv2) hD4
      rw [sb.2 b fun z : b = D => hb (by rw [z]; exact List.mem_cons_self)]
      exact e
end
section
variable {P : Program} {w : World} {B : Around} {E : Value → Shared → Prop} {s0 : Shared}
set_option maxHeartbeats 8000000 in
theorem set_txt {l : Addr} {its : Array Value} {xs : List Str} {Q : Value → Shared → Prop} (nh : B.handled = none) (li : s0.heap.IsList l its) (ar : StrsAre its.toList xs) (small : its.size + 1 < scanBound)
    (k : ∀ (h1 : Heap) (tk : Nat), h1.SetOf (strKind P w) s0.heap.objs.size (fun x => decide (x ∈ fm xs its.size)) (fm xs its.size).length → (∀ b o, b < s0.heap.objs.size → s0.heap.get? b = some o → h1.get? b = some o) →
      Q (.ref s0.heap.objs.size) { s0 with heap := h1, toks := tk }) : wpAny (model P w) B (call (.type "set") [.ref l]) Q E s0 := by
  obtain ⟨c, tl, hmro⟩ := PySem.F.called_set.mro
  have m1 := PySem.F.called_set.made
  have m2 := PySem.F.called_set.sub
  refine wpAny_call (codeAny_of_tree ?_)
  show wpAny _ _ (callAny (.type "set") _) _ _ _
  refine wpAny_pure ⟨Code.quiet_builtin _ (by decide +kernel), codeAny_builtin PySem.F.entry_type_call ?_⟩
  rw [Around.under_plain (weight_type_call_type "set" [.ref l] []) rfl]
  have m3 := PySem.F.called_set.notType
  have m4 := PySem.F.called_set.canCreate
  have m5 := PySem.F.typeCall_set_1 (.ref l)
  repeat (any_goals (first | assumption | wp_step))
  refine codeAny_mono (code_set_new_1 (.ref l) (E := E) (Q₁ := fun v z => ∃ b : Bool, v = .ref s0.heap.objs.size ∧ z = { s0 with heap := s0.heap.push (eS b) }) fun b => ⟨b, rfl, rfl⟩) fun r z hz => ?_
  match r, hz with
  | .error e, hz => exact hz
  | .ok (.ret v), hz =>
    obtain ⟨b, rfl, rfl⟩ := hz
    have at0 : (s0.heap.push (eS b)).get? s0.heap.objs.size = some (eS b) := Heap.get?_push_size _ rfl
    have ty0 : Shared.TypeIs { s0 with heap := s0.heap.push (eS b) } (.ref s0.heap.objs.size) "set" := ⟨_, at0, rfl⟩
    have i1 := PySem.F.called_set.init.lookup
    have i2 := PySem.F.called_set.init.bind (.ref s0.heap.objs.size)
    repeat (any_goals (first | assumption | wp_step))
    refine codeAny_mono (codeAny_call_builtin (R := wants (fun r z => r = .none ∧ ∃ h1 tk, z = { s0 with heap := h1, toks := tk } ∧ h1.SetOf (strKind P w) s0.heap.objs.size (fun x => decide (x ∈ fm xs its.size)) (fm xs its.size).length ∧
      (∀ b o, b < s0.heap.objs.size → s0.heap.get? b = some o → h1.get? b = some o)) E) PySem.F.called_set.init.plain PySem.F.entry_set_init (check_set_init_1 ty0 ?_)) fun r2 z2 hz2 => ?_
    · obtain ⟨⟨lc, ld, lt, ls⟩, lo, c1, ln, c2⟩ := li
      simp only at c1 c2
      subst c1
      subst c2
      have lo' : (s0.heap.push (eS b)).get? l = some { cls := .type "list", dict := ld, data := .seq its ln, slots := ls } := Heap.get?_push_of_some _ lo
      have n1 := PySem.F.sub_list_set
      have n2 := PySem.F.sub_list_frozenset
      have n3 : (Value.type "list" == Value.type "dict") = false := by decide
      have li1 : (s0.heap.push (eS b)).IsList l its := ⟨_, lo', rfl, ln, rfl⟩
      unfold Builtin.«set.__init__» noKeywords Builtin.Frozenset.updateFrom
      generalize pz : pyIter = PZ
      wp_walk
      subst pz
      refine wpAny_pyIter_list li1 (wpAny_bind (wpAny_runValue ?_))
      have lLt : l < s0.heap.objs.size := Heap.lt_size lo
      have nh3 : B.in1.in1.in1.handled = none := by simp [nh]
      have lNe : l ≠ (s0.heap.push (eS b)).objs.size := by
        rw [Heap.size_push]
        exact Nat.ne_of_lt (Nat.lt_succ_of_lt lLt)
      have sNin : s0.heap.objs.size ∉ [(s0.heap.push (eS b)).objs.size, l] := by
        rw [Heap.size_push]
        simp only [List.mem_cons, List.mem_singleton, List.not_mem_nil, or_false, not_or]
        exact ⟨Nat.ne_of_lt (Nat.lt_succ_self _), Nat.ne_of_gt lLt⟩
      refine loop_txt ((Walks.list nh3 _ l lNe its).toS) s0.heap.objs.size sNin xs small (fun i v q => SS.strs_at ar i v (by rw [Array.getElem?_toList]; exact q)) (its.size - 0) 0 _ (by omega) (Nat.zero_le _) ⟨⟨_, Heap.get?_push_size _ rfl, rfl, rfl⟩, (li1.push _)⟩ ?setA ?setB
      case setA =>
        have at1 : ((s0.heap.push (eS b)).push { cls := .type "list_iterator", data := .fields #[.ref l, .int 0 0] }).get? s0.heap.objs.size = some (eS b) := Heap.get?_push_of_some _ at0
        exact SetOf_congr ((setObjOf_fresh (knd := strKind P w) b).setOf at1 (by unfold scanBound; omega)) (fun _ => by simp [fm]) rfl
      case setB =>
        rintro ⟨h1, g1, d1, tk1, os1⟩ mv hD
        obtain rfl : g1 = s0.gens := mv.gens
        obtain rfl : d1 = s0.drawn := mv.drawn
        obtain rfl : os1 = s0.os := mv.os
        show wpAny _ _ _ _ _ _
        refine wpAny_pure ?_
        show wpAny _ _ (ret Value.none) _ _ _
        refine wpAny_pure ⟨rfl, h1, tk1, rfl, hD, fun b o hb e => mv.heap b o ?_ (Heap.get?_push_of_some _ (Heap.get?_push_of_some _ e))⟩
        rw [Heap.size_push]
        simp only [List.mem_cons, List.mem_singleton, List.not_mem_nil, or_false, not_or]
        exact ⟨Nat.ne_of_lt hb, Nat.ne_of_lt (Nat.lt_succ_of_lt hb)⟩
    · match r2, hz2 with
      | .error e, hz2 => exact hz2
      | .ok (.ret v2), hz2 =>
        obtain ⟨rfl, h1, tk, rfl, hD, kp⟩ := hz2
        repeat (any_goals (first | assumption | wp_step))
        exact k _ _ hD kp
      | .ok .next, hz2 => exact hz2.elim
      | .ok .brk, hz2 => exact hz2.elim
      | .ok .cont, hz2 => exact hz2.elim
  | .ok .next, hz => exact hz.elim
  | .ok .brk, hz => exact hz.elim
  | .ok .cont, hz => exact hz.elim
end
end Ver
namespace L2
open PySem PySem.Spec PyProof.Rows
section
variable {X : Cx} {CX : CXT} {k : Nat} {f C : Addr} {fd : FuncData} {ps : List Str} {sp : Sp} {E : St → XK} {x : Str} {p1 p2 : Pos} {e : Expr} {es : List Expr} {t : TA}
/-- C(..) that may raise: the wish is taken at the slots -/
def tMakeS (C : Addr) (sp : Sp) (E : St → XK) (t : TA) : TE := fun σ H Q => t σ H fun vs Ha => ∀ y dy, Ha y = none → Ha dy = none → dy ≠ y →
  sp (.ref y :: vs) (upd (upd Ha dy (.own y)) y (.ins C dy [])) (fun v Hb => v = .non ∧ Q (.ref y) Hb) (E σ)
theorem run_mkS {pins : List (Addr × Obj)} {σ : St} {H : Hp} {s0 : Shared} {Q : VK} {us : List Value} {vs : List V} (M : Mk X.K C f) (F : FnOk X.prog X.w X.K X.mg X.base CX k f fd ps sp) (room : Room (k + 1) X.A) (bd : Binds X.K fd ps [])
    (out : PassesAt CX X σ (E σ)) (I : Inv X pins σ H s0) (rv : Vals vs us) (h : ∀ y dy, H y = none → H dy = none → dy ≠ y → sp (.ref y :: vs) (upd (upd H dy (.own y)) y (.ins C dy [])) (fun v Hb => v = .non ∧ Q (.ref y) Hb) (E σ)) :
    wpAny (model X.prog X.w) X.A (call (.ref C) us) (EP X pins σ Q) X.xe s0 := by
  have want := h (s0.heap.objs.size + 1) s0.heap.objs.size (I.hok.fresh (Nat.le_succ _)) (I.hok.fresh (Nat.le_refl _)) (Nat.ne_of_lt (Nat.lt_succ_self _))
  have Im := Inv.made (C := C) I
  have rv2 : Vals (V.ref (s0.heap.objs.size + 1) :: vs) (Value.ref (s0.heap.objs.size + 1) :: us) := .cons rfl rv
  have same : (Value.ref (s0.heap.objs.size + 1) :: us).length = ps.length := by
    have e := rv2.length
    rw [F.len _ _ _ _ want] at e
    exact e.symm
  have bd2 := bd _ (Value.ref (s0.heap.objs.size + 1) :: us) Im.kIn (by rw [List.append_nil]; exact same)
  rw [List.append_nil] at bd2
  refine wpAny_call (make_map (f := f) I.kIn M.makes M.init (beq_iff_eq.mp M.fn) (codeAny_mono (F.run _ X.stack _ _ ⟨Value.ref (s0.heap.objs.size + 1) :: us, []⟩ _ _ _ (E σ) (room.make C us []) (Im.env0.make C us []) bd2 rv2 want) fun r s1 got => ?_))
  match r, got with
  | .error er, got => exact out pins _ _ er s1 Im got
  | .ok (.ret u), got =>
    obtain ⟨v, Hb, I3, rz, ev, q⟩ := Im.after got
    subst ev
    exact ⟨rz, ⟨V.ref (s0.heap.objs.size + 1), Hb, I3, rfl, q⟩⟩
  | .ok .next, got => exact got.elim
  | .ok .brk, got => exact got.elim
  | .ok .cont, got => exact got.elim
theorem pe_makeS (M : Mk X.K C f) (F : FnOk X.prog X.w X.K X.mg X.base CX k f fd ps sp) (room : Room (k + 1) X.A) (gl : Gl X x) (mg : X.mg x = some (.ref C)) (bd : Binds X.K fd ps []) (out : ∀ σ, PassesAt CX X σ (E σ)) (ha : PA X (e :: es) t)
    (nd : (x == ("__debug__" : Str)) = false := by decide) (he : starEach (e :: es) X.env = (false, eval e X.env) :: starEach es X.env := by rfl) (hp : (backTo p2 (starEach es X.env)).any (·.1) = false := by rfl) :
    PE X (.Call (.Name x p1) (e :: es) [] p2) (tMakeS C sp E t) := by
  refine ⟨fun pins s0 σ H Q I h => wpAny_Call_Name_kw (ld_glob I gl mg ?_ nd)⟩
  refine PySem.W.callWith_K (h₀ := X.base) I.ok.mod.kin M.kp (thn (ha.run p2 pins s0 σ H _ I h) fun us s1 ⟨vs, Ha, I1, rv, q⟩ => ⟨I1.kIn, ?_⟩) he hp
  exact run_mkS M F room bd (out σ) I1 rv q
end
/-- len(set(xs)), xs a list of texts -/
def tSetN (K : PySem.W.Frag) (ta : TE) : TE := fun σ H Q => ta σ H fun x Ha => ∃ l, ∃ xs : List Str, x = .ref l ∧ SqL K Ha l (xs.map V.str) ∧ xs.length ≤ 1000 ∧ Q (.int (Ver.fm xs xs.length).length) Ha
theorem pe_setN {X : Cx} {a : Expr} {ta : TE} {p1 p2 p3 p4 : Pos} (hc : X.calm = true) (g1 : Gl X "len") (m1 : X.mg "len" = none) (g2 : Gl X "set") (m2 : X.mg "set" = none) (ha : PE X a ta)
    (na : starEach [a] X.env = (false, eval a X.env) :: starEach [] X.env := by rfl) : PE X (.Call (.Name "len" p1) [.Call (.Name "set" p2) [a] [] p3] [] p4) (tSetN X.K ta) := by
  refine ⟨fun pins s0 σ H Q I h => Call_ (ld_blt I g1 m1 boot_len ?_)⟩
  refine PyProof.Rows.callWith_builtin1 (PyProof.Rows.args_cons (Call_ (ld_blt I g2 m2 boot_set ?_)) rfl) rfl rfl
  refine PyProof.Rows.callWith_type1 (PyProof.Rows.args_cons (thn (ha.run pins s0 σ H _ I h) fun v s1 ⟨x, Ha, I1, rx, l, xs, ex, hL, hz, q⟩ => PyProof.Rows.args_nil ?_) na) na rfl
  subst ex
  cases rx
  obtain ⟨its, rv, li, _⟩ := I1.list hL
  have el : its.toArray.size = xs.length := by rw [List.size_toArray, ← rv.length, List.length_map]
  have sb : its.toArray.size + 1 < scanBound := by
    rw [el]
    unfold scanBound
    omega
  refine Ver.set_txt (I1.ok.hd hc) li.isList (by simpa using strsAre_of rv) sb fun h1 tk hD kp => PyProof.Rows.args_nil ?_
  rw [el] at hD
  obtain ⟨o, es, ep, t, ho, hx, hd, _, _, _, hf, hn⟩ := hD
  have I2 : Inv X pins σ Ha { s1 with heap := h1, toks := tk } := I1.kept fun b o e => kp b o (Heap.lt_size e) e
  have le := Ver.fm_le xs xs.length
  exact call_len_set ho hx hd hf (by rw [hn]; omega) ⟨.int (Ver.fm xs xs.length).length, Ha, I2.tok _, ⟨_, by rw [hn]⟩, q⟩
end L2
namespace Ver
open PySem PySem.Spec PyProof.Rows L2 Evl
theorem setNK (K : PySem.W.Frag) {X : Cx} {a : Expr} {ta : TE} {p1 p2 p3 p4 : Pos} (hc : X.calm = true) (g1 : Gl X "len") (m1 : X.mg "len" = none) (g2 : Gl X "set") (m2 : X.mg "set" = none) (ha : PE X a ta)
    (na : starEach [a] X.env = (false, eval a X.env) :: starEach [] X.env := by rfl) (h : X.K = K := by rfl) : PE X (.Call (.Name "len" p1) [.Call (.Name "set" p2) [a] [] p3] [] p4) (tSetN K ta) := by
  subst h
  exact pe_setN hc g1 m1 g2 m2 ha na
end Ver
namespace Ver
open PySem PySem.Spec PyProof.Rows L2 Evl
section
variable {K : PySem.W.Frag}
def NewS (C : Addr) (sp : Sp) (E : XK) (vs : List V) (H : Hp) (Q : VK) : Prop := ∀ y dy, H y = none → H dy = none → dy ≠ y → sp (.ref y :: vs) (upd (upd H dy (.own y)) y (.ins C dy [])) (fun v Hb => v = .non ∧ Q (.ref y) Hb) E
theorem w_newS {σ : L2.St} {H : Hp} {C : Addr} {sp : Sp} {E : L2.St → XK} {t : TA} {Q : VK} (h : t σ H fun vs Ha => NewS C sp (E σ) vs Ha Q) : tMakeS C sp E t σ H Q := h
theorem a_newS {H : Hp} {C : Addr} {sp : Sp} {E : XK} {vs : List V} {Q : VK} (k : ∀ x dx H1, H x = none → H dx = none → dx ≠ x → Ex H H1 → H1 x = some (.ins C dx []) → H1 dx = some (.own x) → sp (.ref x :: vs) H1 (fun v H2 => v = .non ∧ Q (.ref x) H2) E) : NewS C sp E vs H Q := fun x dx n1 n2 n3 =>
  k x dx _ n1 n2 n3 ((Ex.new n2).mut n1) upd_same (by rw [upd_ne n3, upd_same])
def Xf (a : Addr) (cls : Value) (d : Option Addr) (C : Addr) (f : Str) (x : V) (H : Hp) (Q : VK) : Prop := x = .ref a ∧ cls = .ref C ∧ ∃ (dd : Addr) (fs : List (Str × V)) (v : V), d = some dd ∧ H dd = some (.xd fs) ∧ fs.lookup f = some v ∧ Q v H
theorem w_xf {σ : L2.St} {H : Hp} {a C : Addr} {cls : Value} {d : Option Addr} {f : Str} {te : TE} {Q : VK} (h : te σ H fun x Ha => Xf a cls d C f x Ha Q) : tXf a cls d C f te σ H Q := h
/-- two new places of a heap, left out again -/
theorem ex_two {H H1 : Hp} {x y : Addr} (n1 : H x = none) (n2 : H y = none) (e : Ex H H1) : Ex H (dl [x, y] H1) := fun b o z => by
  rw [dl_nin (by
    intro k
    rcases List.mem_cons.mp k with k | k
    · rw [k, n1] at z; cases z
    rcases List.mem_cons.mp k with k | k
    · rw [k, n2] at z; cases z
    · cases k)]
  exact e b o z
/-- a function as the law tells it -/
def fdat (f : FD) : PyData := .list [f.n, .list f.p, .list f.b]
def pAcc (K : PySem.W.Frag) : Sp := fun vs H Q _ => ∃ v1 v2 fs ss, vs = [v1, v2] ∧ Ds K H v1 (.list (fs.map fdat)) ∧ Ds K H v2 (.list ss) ∧ RV1 (.bl (progD fs ss)) H Q
theorem dpa_three {G : Hp} {xs : List V} {a b c : PyData} (h : DpAll K G xs [a, b, c]) : ∃ u v w, xs = [u, v, w] ∧ Dp K G u a ∧ Dp K G v b ∧ Dp K G w c := by
  match h with
  | .cons h1 (.cons h2 (.cons h3 .nil)) => exact ⟨_, _, _, rfl, h1, h2, h3⟩
theorem ds_fdat {G : Hp} {v : V} {f : FD} (h : Ds K G v (fdat f)) : ∃ p u q r, v = .ref p ∧ SqL K G p [u, .ref q, .ref r] ∧ Ds K G u f.n ∧ Dl K G q f.p ∧ Dl K G r f.b := by
  obtain ⟨p, xs, ds, rfl, e, hL, hD, hs, _, _⟩ := ds_lst h rfl
  cases e
  obtain ⟨u, v, w, rfl, d1, d2, d3⟩ := dpa_three hD
  have s0 := sm_at (i := 0) hs rfl
  have s1 := sm_at (i := 1) hs rfl
  have s2 := sm_at (i := 2) hs rfl
  obtain ⟨q, x1, _, rfl, e1, l1, k1, m1, z1, _⟩ := ds_lst (⟨d2, s1⟩ : Ds K G v (.list f.p)) rfl
  cases e1
  obtain ⟨r, x2, _, rfl, e2, l2, k2, m2, z2, _⟩ := ds_lst (⟨d3, s2⟩ : Ds K G w (.list f.b)) rfl
  cases e2
  exact ⟨p, u, q, r, rfl, hL, ⟨d1, s0⟩, ⟨⟨x1, l1, k1⟩, m1, z1⟩, ⟨⟨x2, l2, k2⟩, m2, z2⟩⟩
end
end Ver

set_option Elab.async false
set_option linter.all false
set_option maxRecDepth 100000
set_option maxHeartbeats 4000000
namespace Ver
open PySem PySem.Spec PyProof.Rows L2 Evl
section
variable {K : PySem.W.Frag} {σ : L2.St} {H : Hp} {te ta tb : TE} {t : TA} {d : PyData} {ds es : List PyData} {i : Nat}
/-! ## expressions that come out as data (apart from the places S) -/
variable {S : List Addr}
def EvD (K : PySem.W.Frag) (S : List Addr) (σ : L2.St) (H : Hp) (te : TE) (d : PyData) : Prop := ∀ H0, Ex H H0 → ∀ Q : VK, (∀ v H1, Ex H0 H1 → Dp K (dl S H1) v d → Q v H1) → te σ H0 Q
def EvL (K : PySem.W.Frag) (S : List Addr) (σ : L2.St) (H : Hp) (te : TE) (ds : List PyData) : Prop := ∀ H0, Ex H H0 → ∀ Q : VK, (∀ p vs H1, Ex H0 H1 → p ∉ S → H1 p = some (.lst vs) → DpAll K (dl S H1) vs ds → Q (.ref p) H1) → te σ H0 Q
def EvA (K : PySem.W.Frag) (S : List Addr) (σ : L2.St) (H : Hp) (t : TA) (ds : List PyData) : Prop := ∀ H0, Ex H H0 → ∀ Q : List V → Hp → Prop, (∀ vs H1, Ex H0 H1 → DpAll K (dl S H1) vs ds → Q vs H1) → t σ H0 Q
theorem ev_var {v : V} (e : σ[i]? = some (some v)) (h : Dp K (dl S H) v d) : EvD K S σ H (tVar i) d := fun H0 e0 Q k => ⟨v, e, k v H0 (Ex.refl _) (dp_ex (dl_ex e0) h)⟩
theorem ev_str {x : Str} : EvD K S σ H (tC (.str x)) (.str x) := fun H0 _ Q k => k _ H0 (Ex.refl _) (.str x)
theorem ev_int {x : Int} : EvD K S σ H (tC (.int x)) (.int x) := fun H0 _ Q k => k _ H0 (Ex.refl _) (.int x)
theorem ev_bl {x : Bool} : EvD K S σ H (tC (.bl x)) (.bool x) := fun H0 _ Q k => k _ H0 (Ex.refl _) (.bl x)
theorem ev_non : EvD K S σ H (tC .non) .none := fun H0 _ Q k => k _ H0 (Ex.refl _) .non
theorem ev_nil : EvA K S σ H tNil [] := fun H0 _ Q k => k [] H0 (Ex.refl _) .nil
theorem ev_cons (h : EvD K S σ H te d) (g : EvA K S σ H t ds) : EvA K S σ H (tCons te t) (d :: ds) := fun H0 e0 Q k =>
  h H0 e0 _ fun v H1 e1 dv => g H1 (e0.trans e1) _ fun vs H2 e2 dvs => k (v :: vs) H2 (e1.trans e2) (.cons (dp_ex (dl_ex e2) dv) dvs)
theorem ev_lst (al : Al S H) (h : EvA K S σ H t ds) (z : ds.length ≤ 100000) : EvL K S σ H (tLst t) ds := fun H0 e0 Q k =>
  h H0 e0 _ fun vs H1 e1 dvs => new_lst (by rw [dpa_len dvs]; exact z) fun p H2 n e2 f => k p vs H2 (e1.trans e2) ((al.ex (e0.trans e1)).nin n) f (dpa_ex (dl_ex e2) dvs)
theorem ev_ll (h : EvL K S σ H te ds) : EvD K S σ H te (.list ds) := fun H0 e0 Q k => h H0 e0 _ fun p vs H1 e1 np f dvs => k _ H1 e1 (.lst (SqL.of (dl_at np f)) dvs)
theorem ev_tup (al : Al S H) (h : EvA K S σ H t ds) (z : ds.length ≤ 100000) : EvD K S σ H (tTup t) (.tuple ds) := fun H0 e0 Q k =>
  h H0 e0 _ fun vs H1 e1 dvs => new_tup (by rw [dpa_len dvs]; exact z) fun p H2 n e2 f => k _ H2 (e1.trans e2) (.tup (SqT.of (dl_at ((al.ex (e0.trans e1)).nin n) f)) (dpa_ex (dl_ex e2) dvs))
theorem ev_lvar {p : Addr} {vs : List V} (e : σ[i]? = some (some (.ref p))) (np : p ∉ S) (f : H p = some (.lst vs)) (h : DpAll K (dl S H) vs ds) : EvL K S σ H (tVar i) ds := fun H0 e0 Q k => ⟨.ref p, e, k p vs H0 (Ex.refl _) np (e0 _ _ f) (dpa_ex (dl_ex e0) h)⟩
theorem ev_cat (al : Al S H) (h : EvL K S σ H ta ds) (g : EvL K S σ H tb es) (z : ds.length + es.length ≤ 100000) : EvL K S σ H (tOp rCat ta tb) (ds ++ es) := fun H0 e0 Q k =>
  h H0 e0 _ fun p vs H1 e1 _ f1 d1 => g H1 (e0.trans e1) _ fun q ws H2 e2 _ f2 d2 => a_cat (e2 _ _ f1) f2 (by rw [dpa_len d1, dpa_len d2]; exact z) fun l H3 n e3 f3 =>
    k l _ H3 ((e1.trans e2).trans e3) ((al.ex ((e0.trans e1).trans e2)).nin n) f3 (dpa_app (dpa_ex (dl_ex (e2.trans e3)) d1) (dpa_ex (dl_ex e3) d2))
theorem dpa_rep {G : Hp} {vs : List V} (h : DpAll K G vs ds) : ∀ n : Nat, DpAll K G (List.replicate n vs).flatten (List.replicate n ds).flatten
  | 0 => .nil
  | n + 1 => by
    rw [List.replicate_succ, List.replicate_succ, List.flatten_cons, List.flatten_cons]
    exact dpa_app h (dpa_rep h n)
/-- [a] * n -/
theorem ev_rep {n : Nat} (al : Al S H) (h : EvL K S σ H ta [d]) (e : σ[i]? = some (some (.int n))) (z : n ≤ 1000) : EvL K S σ H (tOp rRep ta (tVar i)) (List.replicate n d) := fun H0 e0 Q k =>
  h H0 e0 _ fun p vs H1 e1 _ f1 d1 => ⟨.int n, e, p, n, vs, rfl, rfl, f1, by omega, by omega, by
    rw [dpa_len d1, Int.toNat_natCast]
    exact sz_of (by simp; omega), fun q nq => by
    rw [Int.toNat_natCast]
    have x := dpa_rep d1 n
    have y : (List.replicate n [d]).flatten = List.replicate n d := by
      rw [List.flatten_replicate_singleton]
    rw [y] at x
    exact k q _ _ (e1.trans (Ex.new nq)) ((al.ex (e0.trans e1)).nin nq) upd_same (dpa_ex (dl_ex (Ex.new nq)) x)⟩
/-- a value that needs no heap -/
theorem ev_b {b : Bool} (h : ∀ (H0 : Hp) (Q : VK), Q (.bl b) H0 → te σ H0 Q) : EvD K S σ H te (.bool b) := fun H0 _ Q k => h H0 Q (k _ H0 (Ex.refl _) (.bl b))
theorem ev_i {b : Int} (h : ∀ (H0 : Hp) (Q : VK), Q (.int b) H0 → te σ H0 Q) : EvD K S σ H te (.int b) := fun H0 _ Q k => h H0 Q (k _ H0 (Ex.refl _) (.int b))
/-- many < m -/
theorem ev_lt {a m : Int} (e : σ[i]? = some (some (.int a))) : EvD K S σ H (tOp (rI0 fun i j => .bl (decide (i < j))) (tVar i) (tC (.int m))) (.bool (decide (a < m))) := ev_b fun H0 Q q => ⟨.int a, e, a, m, rfl, rfl, q⟩
theorem ev_call {sp : Sp} {E : XK} (h : EvA K S σ H t ds) (al : Al S H) (c : ∀ (H0 : Hp) (vs : List V) (Q : VK), Al S H0 → DpAll K (dl S H0) vs ds → (∀ v H1, Ex H0 H1 → Dp K (dl S H1) v d → Q v H1) → sp vs H0 Q E) : EvD K S σ H (tCall sp [] E t) d := fun H0 e0 Q k =>
  w_callN (h H0 e0 _ fun vs H1 e1 dvs => c H1 vs Q (al.ex (e0.trans e1)) dvs fun v H2 e2 dv => k v H2 (e1.trans e2) dv)
theorem run_l (h : EvL K S σ H te ds) {Q : VK} (k : ∀ p vs H1, Ex H H1 → p ∉ S → H1 p = some (.lst vs) → DpAll K (dl S H1) vs ds → Q (.ref p) H1) : te σ H Q := h H (Ex.refl _) Q k
theorem run_d (h : EvD K S σ H te d) {Q : VK} (k : ∀ v H1, Ex H H1 → Dp K (dl S H1) v d → Q v H1) : te σ H Q := h H (Ex.refl _) Q k
theorem ex_one {H1 H2 : Hp} {l : Addr} (n : H1 l = none) (e : Ex H1 H2) : Ex H1 (dl [l] H2) := fun b o z => by
  rw [dl_nin (by simpa using ne_of_none z n)]
  exact e b o z
/-- out = out + X -/
theorem run_cat {po : Addr} {vs : List V} {Q : VK} (e : σ[i]? = some (some (.ref po))) (f : H po = some (.lst vs)) (D : DpAll K (dl [po] H) vs ds) (g : EvL K [po] σ H tb es) (z : ds.length + es.length ≤ 100000)
    (k : ∀ l ws H1, Ex H H1 → Ex (dl [po] H) (dl [l] H1) → H l = none → H1 l = some (.lst ws) → DpAll K (dl [l] H1) ws (ds ++ es) → Q (.ref l) H1) : tOp rCat (tVar i) tb σ H Q :=
  ⟨.ref po, e, g H (Ex.refl _) _ fun q ws H2 e2 _ f2 d2 => a_cat (e2 _ _ f) f2 (by rw [dpa_len D, dpa_len d2]; exact z) fun l H3 n e3 f3 => by
    have E := (dl_le [po] H2).trans (ex_one n e3)
    refine k l _ H3 (e2.trans e3) ((dl_ex e2).trans E) ?_ f3 (dpa_app (dpa_ex ((dl_ex e2).trans E) D) (dpa_ex E d2))
    cases y : H l with
    | none => rfl
    | some o => rw [e2 _ _ y] at n; cases n⟩
/-- the argument of out.append(..) -/
theorem run_app {po : Addr} {vs : List V} {Q : VK} (f : H po = some (.lst vs)) (D : DpAll K (dl [po] H) vs ds) (g : EvD K [po] σ H te d) (z : ds.length < 100000)
    (k : ∀ ws H1, Ks [po] H H1 → H1 po = some (.lst ws) → DpAll K (dl [po] H1) ws (ds ++ [d]) → Q .non H1) : tCons te tNil σ H fun xs Hb => rAppend (.ref po) xs Hb Q :=
  g H (Ex.refl _) _ fun v H1 e1 dv => a_app (e1 _ _ f) (by rw [dpa_len D]; exact z) (k (vs ++ [v]) _ ((Ks.of e1).upd (by simp)) upd_same (by
    rw [dl_upd (by simp)]
    exact dpa_snoc (dpa_ex (dl_ex e1) D) dv))
/-- an inner list of a heap, apart from out -/
def LsAt (K : PySem.W.Frag) (po : Addr) (H : Hp) (p : Addr) (ds : List PyData) : Prop := p ≠ po ∧ ∃ vs, H p = some (.lst vs) ∧ DpAll K (dl [po] H) vs ds
theorem LsAt.dp {po p : Addr} (h : LsAt K po H p ds) : Dp K (dl [po] H) (.ref p) (.list ds) := by
  obtain ⟨n, vs, f, D⟩ := h
  exact .lst (SqL.of (dl_at (by simpa using n) f)) D
/-- [f(k) for k in range(n)], the items by their data -/
theorem run_comp {po : Addr} {vo : List V} {Q : VK} {n : Nat} {f : Nat → PyData} (fo : H po = some (.lst vo)) (hn : n ≤ 1000) (hw : ∀ v, wipe ((wipe σ [i]).set i (some v)) [i] = wipe σ [i])
    (ev : ∀ l h k, k < n → Ex H h → Al [l, po] h → EvD K [l, po] ((wipe σ [i]).set i (some (.int (0 + (k : Int))))) h te (f k))
    (hd : ∀ l ws h, H l = none → Ex H h → h l = some (.lst ws) → LsAt K po h l ((List.range n).map f) → Q (.ref l) h) : CompG (Itr 0 n) (gName i) tYes te [i] σ H Q := by
  refine cp_range (fun l k h => Ex H h ∧ Al [l, po] h ∧ ∃ ws, h l = some (.lst ws) ∧ DpAll K (dl [l, po] h) ws ((List.range k).map f)) (fun l n => ?_) ?_ ?_
  · have e := Ex.new (o := .lst []) n
    exact ⟨e, (Al.nil.cons (e _ _ fo)).cons upd_same, [], upd_same, .nil⟩
  · rintro l k h nl hk ⟨e, al, ws, fl, D⟩
    have wl := dpa_len D
    rw [List.length_map, List.length_range] at wl
    refine ⟨hw _, ?_⟩
    refine ev l h k hk e al h (Ex.refl _) _ fun v H1 e1 dv => ⟨ws, e1 _ _ fl, sz_lt (by omega), (e.trans e1).mut nl, (al.ex e1).upd, ws ++ [v], upd_same, ?_⟩
    rw [dl_upd (by simp), List.range_succ, List.map_append]
    exact dpa_snoc (dpa_ex (dl_ex e1) D) dv
  · rintro l h nl ⟨e, al, ws, fl, D⟩
    exact hd l ws h nl e fl ⟨(fun z => by rw [z, fo] at nl; cases nl), ws, fl, dpa_ex (dl_sub fun a c => List.mem_cons_of_mem _ c) D⟩
/-- 'a' + 'z..'[k] -/
theorem ev_sx {a z : Str} {c : Nat} {k : Int} (e : σ[i]? = some (some (.int k))) (hz : z.length ≤ 1000) (ha : a.length ≤ 1000) (h : atI z.cps.toList k = some c) :
    EvD K S σ H (tOp (fun x y H Q => ∃ i j, x = V.str i ∧ y = V.str j ∧ i.length + j.length ≤ sizeLine ∧ Q (V.str (i ++ j)) H) (tC (.str a)) (tOp rIxS (tC (.str z)) (tVar i))) (.str (a ++ ⟨#[c]⟩)) := fun H0 e0 Q q =>
  ⟨.int k, e, z, k, c, rfl, rfl, sz_of (by omega), h, a, ⟨#[c]⟩, rfl, rfl, sz_of (by show a.length + 1 ≤ 100000; omega), q _ H0 (Ex.refl _) (.str _)⟩
theorem LsAt.up {po pq p : Addr} {H' : Hp} (h : LsAt K po H p ds) (e : Ex (dl [po] H) (dl [pq] H')) : LsAt K pq H' p ds := by
  obtain ⟨n, vs, f, D⟩ := h
  have g := e _ _ (dl_at (by simpa using n) f)
  by_cases z : p ∈ [pq]
  · rw [dl_in z] at g
    cases g
  · rw [dl_nin z] at g
    exact ⟨fun y => z (by rw [y]; simp), vs, g, dpa_ex e D⟩
/-! ### data that the box of draws is no part of -/
def bxL : List PyData → Bool
  | [_, .int _] => true
  | _ => false
mutual
def nbD : PyData → Bool
  | .list ds => !bxL ds && nbA ds
  | .tuple ds => nbA ds
  | _ => true
def nbA : List PyData → Bool
  | [] => true
  | d :: ds => nbD d && nbA ds
end
def snD (d : PyData) : Bool := smD d && nbD d
theorem sl_nb {H H' : Hp} {a b r : Addr} {xs : List V} (hb : Bx H b r) (k : Ks [b] H H') (f : SqL K H a xs) (D : DpAll K H xs ds) (nb : bxL ds = false) : SqL K H' a xs := by
  obtain ⟨n, ns, f1, _⟩ := hb
  rcases f with (f | ⟨o, f⟩) | f
  · by_cases z : a = b
    · subst z
      rw [f1] at f
      cases f
      match ds, D with
      | [_, _], .cons _ (.cons h2 .nil) =>
        cases h2
        cases nb
    · exact .inl (.inl (k _ _ (by simpa using z) f))
  · have z : a ≠ b := fun z => by
      rw [z, f1] at f
      cases f
    exact .inl (.inr ⟨o, k _ _ (by simpa using z) f⟩)
  · exact .inr f
theorem st_nb {H H' : Hp} {a b r : Addr} {xs : List V} (hb : Bx H b r) (k : Ks [b] H H') (f : SqT K H a xs) : SqT K H' a xs := by
  obtain ⟨n, ns, f1, _⟩ := hb
  rcases f with (f | ⟨o, f⟩) | f
  · have z : a ≠ b := fun z => by
      rw [z, f1] at f
      cases f
    exact .inl (.inl (k _ _ (by simpa using z) f))
  · have z : a ≠ b := fun z => by
      rw [z, f1] at f
      cases f
    exact .inl (.inr ⟨o, k _ _ (by simpa using z) f⟩)
  · exact .inr f
mutual
theorem dp_nb {H H' : Hp} {b r : Addr} (hb : Bx H b r) (k : Ks [b] H H') : ∀ {v : V} {d : PyData}, Dp K H v d → nbD d = true → Dp K H' v d
  | _, _, .non, _ => .non
  | _, _, .bl x, _ => .bl x
  | _, _, .int i, _ => .int i
  | _, _, .str x, _ => .str x
  | _, _, .lst h t, n => by
    have n' := (Bool.and_eq_true _ _ ▸ n : _ ∧ _)
    exact .lst (sl_nb hb k h t (by simpa using n'.1)) (dpa_nb hb k t n'.2)
  | _, _, .tup h t, n => .tup (st_nb hb k h) (dpa_nb hb k t n)
theorem dpa_nb {H H' : Hp} {b r : Addr} (hb : Bx H b r) (k : Ks [b] H H') : ∀ {xs : List V} {ds : List PyData}, DpAll K H xs ds → nbA ds = true → DpAll K H' xs ds
  | _, _, .nil, _ => .nil
  | _, _, .cons h t, n => by
    have n' := (Bool.and_eq_true _ _ ▸ n : _ ∧ _)
    exact .cons (dp_nb hb k h n'.1) (dpa_nb hb k t n'.2)
end
/-- one case of the law: functions, statements, what is due -/
def Case (d : PyData) : Prop := ∃ fs ss b, d = .list [.list (fs.map fdat), .list ss, .bool b] ∧ snD d = true ∧ progD fs ss = b
theorem case_of {fs : List FD} {ss : List PyData} {b : Bool} (s : snD (.list [.list (fs.map fdat), .list ss, .bool b]) = true) (p : progD fs ss = b) : Case (.list [.list (fs.map fdat), .list ss, .bool b]) := ⟨fs, ss, b, rfl, s, p⟩
end
theorem case_nb : ∀ {ds : List PyData}, (∀ d ∈ ds, Case d) → nbA ds = true
  | [], _ => rfl
  | d :: ds, h => by
    obtain ⟨fs, ss, b, _, s, _⟩ := h d (List.mem_cons_self ..)
    have s' := (Bool.and_eq_true _ _ ▸ s : smD d = true ∧ nbD d = true)
    show (nbD d && nbA ds) = true
    rw [s'.2, case_nb fun x hx => h x (List.mem_cons_of_mem _ hx)]
    rfl
/-- what _law_let makes -/
def letD (x T : PyData) : PyData := .tuple [.str "let", x, T, if (PyData.eqv T (.tuple [.str "rw"]) || PyData.eqv T (.int 0)) = true then .tuple [.str "number", .int 0] else .tuple [.str "null"]]
def pLet (K : PySem.W.Frag) : Sp := fun vs H Q _ => ∃ S x v T, vs = [.str x, v] ∧ Al S H ∧ Dp K (dl S H) v T ∧ SeqAt.shaped T = true ∧ ∀ u H1, Ex H H1 → Dp K (dl S H1) u (letD (.str x) T) → Q u H1
theorem ev_let {K : PySem.W.Frag} {S : List Addr} {σ : L2.St} {H : Hp} {t : TA} {x : Str} {T : PyData} {E : XK} (al : Al S H) (h : EvA K S σ H t [.str x, T]) (s : SeqAt.shaped T = true) : EvD K S σ H (tCall (pLet K) [] E t) (letD (.str x) T) := ev_call h al fun H0 vs Q al2 dvs k => by
  match vs, dvs with
  | [_, _], .cons h1 (.cons h2 .nil) =>
    cases dp_str h1
    exact ⟨S, x, _, T, rfl, al2, h2, s, k⟩
end Ver

set_option Elab.async false
set_option linter.all false
set_option maxRecDepth 100000
set_option maxHeartbeats 4000000
namespace Ver
open PySem PySem.Spec PyProof.Rows L2 Evl
/-! ## programs as trees of their own -/
inductive Src | num (n : Int) | null | val (x : Str) (k : Nat) | adr (x : Str) (k : Nat)
inductive Stm | lt (x : Str) (T : List R) (s : Src) | put (x : Str) (k : Nat) (s : Src) | call (f : Str) (ss : List Src)
def plD (x : Str) (k : Nat) : PyData := .tuple [.str x, .int (k : Int)]
def sD : Src → PyData
  | .num n => .tuple [.str "number", .int n]
  | .null => .tuple [.str "null"]
  | .val x k => .tuple [.str "value", plD x k]
  | .adr x k => .tuple [.str "address", plD x k]
def stD : Stm → PyData
  | .lt x T s => .tuple [.str "let", .str x, ru T, sD s]
  | .put x k s => .tuple [.str "put", plD x k, sD s]
  | .call f ss => .tuple [.str "call", .str f, .list (ss.map sD)]
structure TF where
  n : Str
  p : List (Str × List R)
  b : List Stm
def pD (q : Str × List R) : PyData := .tuple [.str q.1, ru q.2]
def TF.fd (f : TF) : FD := ⟨.str f.n, f.p.map pD, f.b.map stD⟩
def nmO (x : Str) : Prop := nameD (.str x) = true
def sO : Src → Prop
  | .num n => 0 ≤ n ∧ n ≤ 1000
  | .null => True
  | .val x k => nmO x ∧ k ≤ 5
  | .adr x k => nmO x ∧ k ≤ 5
def tyO (T : List R) : Prop := 1 ≤ T.length ∧ T.length ≤ 6
def stO : Stm → Prop
  | .lt x T s => nmO x ∧ tyO T ∧ sO s
  | .put x k s => nmO x ∧ k ≤ 5 ∧ sO s
  | .call f ss => nmO f ∧ ss.length ≤ 4 ∧ ∀ s ∈ ss, sO s
theorem and_t {a b : Bool} (h : a = true) (k : b = true) : (a && b) = true := by rw [h, k]; rfl
theorem nm_8 {x : Str} (h : nmO x) : x.length ≤ 8 := (name_str (d := .str x) h).2
theorem pl_ok {x : Str} {k : Nat} (h : nmO x) (hk : k ≤ 5) : placeD (plD x k) = true := by
  have e : numD (.int (k : Int)) 5 = true := and_t (decide_eq_true (Int.natCast_nonneg k)) (decide_eq_true (by omega))
  show (decide ("tuple" = "tuple") && decide (2 = 2) && (nameD (.str x) && numD (.int (k : Int)) 5)) = true
  rw [e, show nameD (.str x) = true from h]
  rfl
theorem src_ok {s : Src} (h : sO s) : srcD (sD s) = true := by
  cases s with
  | num n =>
    have e : fwD (sD (.num n)) = "number" := fw_str (by simp) rfl
    unfold srcD
    rw [e, if_neg (by decide), if_pos rfl]
    show (decide (2 = 2) && numD (.int n) 1000) = true
    have : numD (.int n) 1000 = true := and_t (decide_eq_true h.1) (decide_eq_true h.2)
    rw [this]
    rfl
  | null =>
    have e : fwD (sD .null) = "null" := fw_str (by simp) rfl
    unfold srcD
    rw [e, if_pos rfl]
    rfl
  | val x k =>
    have e : fwD (sD (.val x k)) = "value" := fw_str (by simp) rfl
    unfold srcD
    rw [e, if_neg (by decide), if_neg (by decide)]
    show (inV (.str "value") [.str "value", .str "address"] && (decide (2 = 2) && placeD (plD x k))) = true
    rw [pl_ok h.1 h.2]
    rfl
  | adr x k =>
    have e : fwD (sD (.adr x k)) = "address" := fw_str (by simp) rfl
    unfold srcD
    rw [e, if_neg (by decide), if_neg (by decide)]
    show (inV (.str "address") [.str "value", .str "address"] && (decide (2 = 2) && placeD (plD x k))) = true
    rw [pl_ok h.1 h.2]
    rfl
theorem ir_R (x : R) : irD (.str x.s) = true := by cases x <;> decide
theorem ru_all (T : List R) : (T.map fun x => PyData.str x.s).all irD = true := by
  rw [List.all_map, List.all_eq_true]
  exact fun x _ => ir_R x
theorem typ_ok {T : List R} (h : tyO T) : typD (ru T) = true := by
  show (vtD (T.map fun x => PyData.str x.s) && decide (0 < (T.map fun x => PyData.str x.s).length)) = true
  unfold vtD
  rw [List.length_map, ru_all, decide_eq_true h.2, decide_eq_true (show 0 < T.length from h.1)]
  rfl
theorem pd_ok {q : Str × List R} (h : nmO q.1) (t : tyO q.2) : declD (pD q) = true := by
  show (decide ("tuple" = "tuple") && decide (2 = 2) && (nameD (.str q.1) && (typD (ru q.2) || numD (ru q.2) 5))) = true
  rw [show nameD (.str q.1) = true from h, typ_ok t]
  rfl
theorem st_okD {s : Stm} (h : stO s) : stmtD (stD s) = true := by
  cases s with
  | lt x T s =>
    have e : fwD (stD (.lt x T s)) = "let" := fw_str (by simp) rfl
    unfold stmtD
    rw [e, if_pos rfl]
    show (decide (4 = 4) && (declD (pD (x, T)) && srcD (sD s))) = true
    rw [pd_ok h.1 h.2.1, src_ok h.2.2]
    rfl
  | put x k s =>
    have e : fwD (stD (.put x k s)) = "put" := fw_str (by simp) rfl
    unfold stmtD
    rw [e, if_neg (by decide), if_pos rfl]
    show (decide (3 = 3) && (placeD (plD x k) && srcD (sD s))) = true
    rw [pl_ok h.1 h.2.1, src_ok h.2.2]
    rfl
  | call f ss =>
    have e : fwD (stD (.call f ss)) = "call" := fw_str (by simp) rfl
    unfold stmtD
    rw [e, if_neg (by decide), if_neg (by decide)]
    show (decide ("call" = "call") && (decide (3 = 3) && (nameD (.str f) && (decide ("list" = "list") && (ss.map sD).all srcD)))) = true
    have a : (ss.map sD).all srcD = true := by
      rw [List.all_map, List.all_eq_true]
      exact fun s hs => src_ok (h.2.2 s hs)
    rw [show nameD (.str f) = true from h.1, a]
    rfl
def letP : Stm → Option (Str × List R)
  | .lt x T _ => some (x, T)
  | _ => none
def lets (b : List Stm) : List (Str × List R) := b.filterMap letP
theorem lets_app (a b : List Stm) : lets (a ++ b) = lets a ++ lets b := List.filterMap_append
theorem letsD_eq : ∀ b : List Stm, letsD (b.map stD) = (lets b).map pD
  | [] => rfl
  | s :: b => by
    have ih := letsD_eq b
    unfold letsD lets at ih ⊢
    cases s with
    | lt x T s =>
      have e : fwD (stD (.lt x T s)) = "let" := fw_str (by simp) rfl
      rw [List.map_cons, List.filter_cons_of_pos (by simpa using e), List.map_cons, ih]
      rfl
    | put x k s =>
      have e : fwD (stD (.put x k s)) = "put" := fw_str (by simp) rfl
      rw [List.map_cons, List.filter_cons_of_neg (by rw [e]; decide), ih]
      rfl
    | call f ss =>
      have e : fwD (stD (.call f ss)) = "call" := fw_str (by simp) rfl
      rw [List.map_cons, List.filter_cons_of_neg (by rw [e]; decide), ih]
      rfl
def declF (fs : List TF) : List (Str × List R) := fs.flatMap fun f => f.p ++ lets f.b
def decl (fs : List TF) (ss : List Stm) : List (Str × List R) := declF fs ++ lets ss
theorem declF_snoc (fs : List TF) (f : TF) : declF (fs ++ [f]) = declF fs ++ (f.p ++ lets f.b) := by
  unfold declF
  rw [List.flatMap_append]
  simp
theorem declsF_eq : ∀ fs : List TF, declsF (fs.map TF.fd) = (declF fs).map pD
  | [] => rfl
  | f :: fs => by
    have ih := declsF_eq fs
    unfold declsF declF at ih ⊢
    rw [List.map_cons, List.flatMap_cons, List.flatMap_cons, ih, List.map_append, List.map_append]
    show f.p.map pD ++ letsD (f.b.map stD) ++ _ = _
    rw [letsD_eq]
theorem declsD_eq (fs : List TF) (ss : List Stm) : declsD (fs.map TF.fd) (ss.map stD) = (decl fs ss).map pD := by
  unfold declsD decl
  rw [declsF_eq, letsD_eq, List.map_append]
theorem namesD_eq (fs : List TF) (ss : List Stm) : namesD (fs.map TF.fd) (ss.map stD) = fs.map TF.n ++ (decl fs ss).map Prod.fst := by
  unfold namesD
  rw [declsD_eq, List.map_map, List.map_map]
  rfl
theorem kindsD_eq (fs : List TF) (ss : List Stm) : kindsD (fs.map TF.fd) (ss.map stD) = (decl fs ss).map fun q => ru q.2 := by
  unfold kindsD
  rw [declsD_eq, List.map_map]
  rfl
/-- a call's function is there, and it has as many sources -/
def cf (fs : List TF) : Stm → Prop
  | .call f ss => ∃ g ∈ fs, g.n = f ∧ ss.length = g.p.length
  | _ => True
def Fit : List TF → List TF → List Stm → Prop
  | d, [], ss => ∀ s ∈ ss, cf d s
  | d, f :: r, ss => (∀ s ∈ f.b, cf d s) ∧ Fit (d ++ [f]) r ss
theorem fit1_ok {kvs : Kv} {d : List TF} {s : Stm} (h : ∀ g ∈ d, valV kvs (Sum.inr g.n) = some (.int (g.p.length : Nat))) (c : cf d s) : fit1 kvs (stD s) = true := by
  unfold fit1
  cases s with
  | lt x T s =>
    rw [show fwD (stD (.lt x T s)) = "let" from fw_str (by simp) rfl]
    rfl
  | put x k s =>
    rw [show fwD (stD (.put x k s)) = "put" from fw_str (by simp) rfl]
    rfl
  | call f ss =>
    obtain ⟨g, hg, rfl, e⟩ := c
    have e1 : decide ((valV kvs (Sum.inr (strD (nthD (stD (.call g.n ss)) 1)))).getD .non = .int ((itemsD (nthD (stD (.call g.n ss)) 2)).length : Nat)) = true := by
      apply decide_eq_true
      show (valV kvs (Sum.inr g.n)).getD .non = .int ((ss.map sD).length : Nat)
      rw [h g hg, List.length_map, e]
      rfl
    rw [e1, Bool.or_true]
theorem fit_ok : ∀ (r d : List TF) (ss : List Stm) (kvs : Kv), (∀ g ∈ d, valV kvs (Sum.inr g.n) = some (.int (g.p.length : Nat))) → ((d ++ r).map TF.n).Nodup → Fit d r ss → fitF kvs (r.map TF.fd) (ss.map stD) = true
  | [], d, ss, kvs, h, _, c => by
    show fitD kvs (ss.map stD) = true
    unfold fitD
    rw [List.all_map, List.all_eq_true]
    exact fun s hs => fit1_ok h (c s hs)
  | f :: r, d, ss, kvs, h, nd, c => by
    show (fitD kvs (f.b.map stD) && fitF (putN kvs f.fd) (r.map TF.fd) (ss.map stD)) = true
    refine and_t ?_ (fit_ok r (d ++ [f]) ss _ ?_ (by rw [List.append_assoc]; exact nd) c.2)
    · unfold fitD
      rw [List.all_map, List.all_eq_true]
      exact fun s hs => fit1_ok h (c.1 s hs)
    · intro g hg
      unfold putN
      rw [valV_put]
      show (if (Sum.inr g.n : Key) = Sum.inr f.n then some (V.int ((f.p.map pD).length : Nat)) else valV kvs (Sum.inr g.n)) = _
      rcases List.mem_append.mp hg with hg | hg
      · have ne : g.n ≠ f.n := fun z => by
          rw [List.map_append, List.map_cons] at nd
          have := (List.nodup_append.mp nd).2.2 g.n (List.mem_map_of_mem hg) f.n (List.mem_cons_self ..)
          exact this z
        rw [if_neg (fun z => ne (Sum.inr.inj z))]
        exact h g hg
      · rw [List.mem_singleton] at hg
        subst hg
        rw [if_pos rfl, List.length_map]
structure FOk (f : TF) : Prop where
  n : nmO f.n
  p4 : f.p.length ≤ 4
  po : ∀ q ∈ f.p, nmO q.1 ∧ tyO q.2
  b12 : f.b.length ≤ 12
  bo : ∀ s ∈ f.b, stO s
structure POk (fs : List TF) (ss : List Stm) : Prop where
  f4 : fs.length ≤ 4
  fo : ∀ f ∈ fs, FOk f
  s40 : ss.length ≤ 40
  so : ∀ s ∈ ss, stO s
  nd : (fs.map TF.n ++ (decl fs ss).map Prod.fst).Nodup
  ft : Fit [] fs ss
theorem lets_tyO {b : List Stm} (h : ∀ s ∈ b, stO s) : ∀ q ∈ lets b, nmO q.1 ∧ tyO q.2 := fun q hq => by
  obtain ⟨s, hs, e⟩ := List.mem_filterMap.mp hq
  cases s with
  | lt x T s =>
    cases Option.some.inj e
    exact ⟨(h _ hs).1, (h _ hs).2.1⟩
  | put x k s => cases e
  | call f ss => cases e
theorem fn_okD {f : TF} (h : FOk f) : fnD f.fd = true := by
  unfold fnD stsD
  refine and_t (and_t h.n (and_t (decide_eq_true ?_) ?_)) (and_t (decide_eq_true ?_) ?_)
  · show (f.p.map pD).length ≤ 4
    rw [List.length_map]
    exact h.p4
  · show (f.p.map pD).all declD = true
    rw [List.all_map, List.all_eq_true]
    exact fun q hq => pd_ok (h.po q hq).1 (h.po q hq).2
  · show (f.b.map stD).length ≤ 12
    rw [List.length_map]
    exact h.b12
  · show (f.b.map stD).all stmtD = true
    rw [List.all_map, List.all_eq_true]
    exact fun q hq => st_okD (h.bo q hq)
theorem decl_tyO {fs : List TF} {ss : List Stm} (h : POk fs ss) : ∀ q ∈ decl fs ss, nmO q.1 ∧ tyO q.2 := fun q hq => by
  rcases List.mem_append.mp hq with hq | hq
  · obtain ⟨f, hf, hq⟩ := List.mem_flatMap.mp hq
    rcases List.mem_append.mp hq with hq | hq
    · exact (h.fo f hf).po q hq
    · exact lets_tyO (h.fo f hf).bo q hq
  · exact lets_tyO h.so q hq
theorem prog_ok {fs : List TF} {ss : List Stm} (h : POk fs ss) : progD (fs.map TF.fd) (ss.map stD) = true := by
  unfold progD stsD
  refine and_t (and_t (and_t (decide_eq_true ?_) ?_) (and_t (decide_eq_true ?_) ?_)) (and_t (and_t ?_ ?_) ?_)
  · rw [List.length_map]
    exact h.f4
  · rw [List.all_map, List.all_eq_true]
    exact fun q hq => fn_okD (h.fo q hq)
  · rw [List.length_map]
    exact h.s40
  · rw [List.all_map, List.all_eq_true]
    exact fun q hq => st_okD (h.so q hq)
  · rw [namesD_eq]
    exact decide_eq_true h.nd
  · rw [kindsD_eq]
    unfold kindD
    rw [show ((decl fs ss).map fun q => ru q.2).all typD = true from by
      rw [List.all_map, List.all_eq_true]
      exact fun q hq => typ_ok (decl_tyO h q hq).2]
    rfl
  · refine fit_ok fs [] ss [] (fun g hg => by cases hg) ?_ h.ft
    rw [List.nil_append]
    exact (List.nodup_append.mp h.nd).1
/-! ## sizes -/
theorem sm_ru (T : List R) (h : T.length ≤ 6) : smD (ru T) = true := by
  refine sm_tup ?_ (by rw [List.length_map]; omega)
  clear h
  induction T with
  | nil => rfl
  | cons a T ih =>
    show (decide (a.s.length ≤ 100000) && smAll (T.map fun x => PyData.str x.s)) = true
    refine and_t ?_ ih
    cases a <;> decide
theorem sm_nm {x : Str} (h : nmO x) : smD (.str x) = true := decide_eq_true (Nat.le_trans (nm_8 h) (by decide))
theorem sm_pl {x : Str} {k : Nat} (h : nmO x) : smD (plD x k) = true := sm_tup (and_t (sm_nm h) rfl) (by simp)
theorem sm_sD {s : Src} (h : sO s) : smD (sD s) = true := by
  cases s with
  | num n => exact sm_tup (and_t (by decide) rfl) (by simp)
  | null => exact sm_tup (and_t (by decide) rfl) (by simp)
  | val x k => exact sm_tup (and_t (by decide) (and_t (sm_pl h.1) rfl)) (by simp)
  | adr x k => exact sm_tup (and_t (by decide) (and_t (sm_pl h.1) rfl)) (by simp)
theorem sm_map {α : Type} {f : α → PyData} : ∀ {xs : List α}, (∀ x ∈ xs, smD (f x) = true) → smAll (xs.map f) = true
  | [], _ => rfl
  | x :: xs, h => and_t (h x (List.mem_cons_self ..)) (sm_map fun y hy => h y (List.mem_cons_of_mem _ hy))
theorem sm_stD {s : Stm} (h : stO s) : smD (stD s) = true := by
  cases s with
  | lt x T s => exact sm_tup (and_t (by decide) (and_t (sm_nm h.1) (and_t (sm_ru T h.2.1.2) (and_t (sm_sD h.2.2) rfl)))) (by simp)
  | put x k s => exact sm_tup (and_t (by decide) (and_t (sm_pl h.1) (and_t (sm_sD h.2.2) rfl))) (by simp)
  | call f ss => exact sm_tup (and_t (by decide) (and_t (sm_nm h.1) (and_t (sm_lst (sm_map fun s hs => sm_sD (h.2.2 s hs)) (by rw [List.length_map]; have := h.2.1; omega)) rfl))) (by simp)
theorem sm_pD {q : Str × List R} (h : nmO q.1) (t : tyO q.2) : smD (pD q) = true := sm_tup (and_t (sm_nm h) (and_t (sm_ru _ t.2) rfl)) (by simp)
def tfD (f : TF) : PyData := .list [.str f.n, .list (f.p.map pD), .list (f.b.map stD)]
theorem sm_tf {f : TF} (h : FOk f) : smD (tfD f) = true :=
  sm_lst (and_t (sm_nm h.n) (and_t (sm_lst (sm_map fun q hq => sm_pD (h.po q hq).1 (h.po q hq).2) (by rw [List.length_map]; have := h.p4; omega)) (and_t (sm_lst (sm_map fun s hs => sm_stD (h.bo s hs)) (by rw [List.length_map]; have := h.b12; omega)) rfl))) (by simp)
/-! ## what is known -/
abbrev Env := Str → Option (List R)
def Env.put (e : Env) (x : Str) (T : List R) : Env := fun y => if y = x then some T else e y
def envS (e : Env) : Stm → Env
  | .lt x T _ => e.put x T
  | _ => e
def e0 : Env := fun _ => none
def envP (e : Env) (ps : List (Str × List R)) : Env := ps.foldl (fun e q => e.put q.1 q.2) e
/-- a dict of types -/
structure TyD (K : PySem.W.Frag) (S : List Addr) (H : Hp) (pt : Addr) (e : Env) : Prop where
  ex : ∃ kvs : Kv, H pt = some (.dK kvs) ∧ kvs.length ≤ 1000 ∧ ∀ x, (e x = none → valV kvs (Sum.inr x) = none) ∧ ∀ T, e x = some T → ∃ a, valV kvs (Sum.inr x) = some (.ref a) ∧ SqT K (dl S H) a (tv T)
end Ver

set_option Elab.async false
set_option linter.all false
set_option maxRecDepth 100000
set_option maxHeartbeats 4000000
namespace Ver
open PySem PySem.Spec PyProof.Rows L2 Evl
/-! ## dicts: their words -/
def GetI (x y : V) (H : Hp) (Q : VK) : Prop := ∃ a v, x = .ref a ∧ DGet H a y (some v) ∧ Q v H
def MemD (neg : Bool) (y x : V) (H : Hp) (Q : VK) : Prop := ∃ a o, x = .ref a ∧ DGet H a y o ∧ Q (.bl (if neg then !o.isSome else o.isSome)) H
section
variable {σ : L2.St} {H : Hp} {Q : VK} {td ty : TE} {a : Addr} {kvs : Kv} {x : Str} {v : V}
theorem w_dget (h : td σ H fun x Ha => ty σ Ha fun y Hb => GetI x y Hb Q) : tDGet td ty σ H Q := h
theorem w_din (h : ty σ H fun y Ha => td σ Ha fun x Hb => MemD false y x Hb Q) : tDIn ty td σ H Q := h
theorem w_dnin (h : ty σ H fun y Ha => td σ Ha fun x Hb => MemD true y x Hb Q) : tDNotIn ty td σ H Q := h
theorem a_dget (e : H a = some (.dK kvs)) (hv : valV kvs (Sum.inr x) = some v) (k : Q v H) : GetI (.ref a) (.str x) H Q := ⟨a, v, rfl, hv ▸ DGet.k (k := Sum.inr x) e, k⟩
theorem a_dmem {neg : Bool} (e : H a = some (.dK kvs)) (k : Q (.bl (if neg then !(valV kvs (Sum.inr x)).isSome else (valV kvs (Sum.inr x)).isSome)) H) : MemD neg (.str x) (.ref a) H Q := ⟨a, _, rfl, DGet.k (k := Sum.inr x) e, k⟩
end
/-- a dict of pairs in a list -/
def qDict (K : PySem.W.Frag) : List V → Hp → VK → Prop := fun xs H Q => ∃ (a : Addr) (ps : List Addr) (kvs : List (Key × V)), xs = [.ref a] ∧ SqL K H a (ps.map V.ref) ∧ Paired (fun p kv => SqT K H p [kV kv.1, kv.2]) ps kvs ∧ ∀ p, H p = none → Q (.ref p) (upd H p (.dK (mergeK [] kvs)))
theorem dctK (K : PySem.W.Frag) {X : Cx} (hc : X.calm = true := by rfl) (h : X.K = K := by rfl) : CallR X (.type "dict") (qDict K) := by subst h; exact call_dictP hc
/-- the first item of a list is taken out -/
theorem a_pop0 {H : Hp} {Q : VK} {l : Addr} {y : V} {xs : List V} (h : H l = some (.lst (y :: xs))) (k : Q y (upd H l (.lst xs))) : rPopAt (.ref l) [.int 0] H Q :=
  ⟨l, y :: xs, 0, 0, y, rfl, rfl, h, by decide, by decide, by
    have := (ixN_seq (ixN_nat (n := (y :: xs).length) (j := 0) (by simp))).1
    exact this, rfl, k⟩
def qMin : List V → Hp → VK → Prop := fun xs H Q => ∃ i j, xs = [.int i, .int j] ∧ Q (.int (if j < i then j else i)) H
theorem minK {X : Cx} (hc : X.calm = true := by rfl) : CallR X (.builtin "min") qMin := call_min2 hc
/-! ## walks by enumerate, zip; a dict comprehension -/
theorem w_iEn {K : PySem.W.Frag} {σ : L2.St} {H : Hp} {a : TA} {N : It → Hp → Prop} (h : a σ H fun vs Ha => ∃ a xs, vs = [.ref a] ∧ SqL K Ha a xs ∧ N (Ite K a) Ha) : iEnum K a σ H N := h
theorem w_iZp {K : PySem.W.Frag} {σ : L2.St} {H : Hp} {a : TA} {N : It → Hp → Prop} (h : a σ H fun vs Ha => ∃ a b xs ys, vs = [.ref a, .ref b] ∧ SqL K Ha a xs ∧ SqL K Ha b ys ∧ N (Itz K a b) Ha) : iZip K a σ H N := h
theorem enK (K : PySem.W.Frag) {X : Cx} {e : Expr} {ta : TA} {p pos tpos : Pos} {elts : List Expr} {kk : Nat} (hg : Gl X "enumerate") (hm : X.mg "enumerate" = none) (ha : PA X [e] ta) (hs : starEach [e] X.env = [(false, eval e X.env)] := by rfl) (h : X.K = K := by rfl) :
    PI X (.Tuple elts kk tpos) (.Call (.Name "enumerate" p) [e] [] pos) (iEnum K ta) := by subst h; exact pi_enum hg hm ha hs
theorem zpK (K : PySem.W.Frag) {X : Cx} {e e2 : Expr} {ta : TA} {p pos tpos : Pos} {elts : List Expr} {kk : Nat} (hg : Gl X "zip") (hm : X.mg "zip" = none) (ha : PA X [e, e2] ta)
    (hs : starEach [e, e2] X.env = (false, eval e X.env) :: starEach [e2] X.env := by rfl) (hpl : (backTo pos (starEach [e2] X.env)).any (·.1) = false := by rfl) (h : X.K = K := by rfl) :
    PI X (.Tuple elts kk tpos) (.Call (.Name "zip" p) [e, e2] [] pos) (iZip K ta) := by subst h; exact pi_zip hg hm ha hs hpl
section
variable {K : PySem.W.Frag} {σ : L2.St} {H : Hp} {g : TG} {ts : TS} {D : Ends} {Q : VK} {p q : Addr} {xs ys : List V}
theorem lp_enum (P : Nat → L2.St → Hp → Prop) (h0 : P 0 σ H) (hl : ∀ k s h, k ≤ xs.length → P k s h → SqL K h p xs)
    (hs : ∀ k x s h T, xs[k]? = some x → P k s h → h T = none → g (.ref T) s (upd h T (.tup [.int (k : Nat), x])) fun s2 h2 => ts { D with nx := P (k + 1), ct := P (k + 1), bk := D.nx } s2 h2)
    (hd : ∀ s h, P xs.length s h → D.nx s h) : LoopG (Ite K p) g ts D σ H :=
  for_it (walk_enum (xs := xs)) P h0 (fun i s h hi c => hl i s h hi c) (fun i x s h h' hi c y => by
    obtain ⟨T, u, v, rfl, n, rfl, e1, e2⟩ := y
    cases Option.some.inj e1
    exact hs i v s h T e2 c n) hd
theorem lp_zip (hn : xs.length = ys.length) (P : Nat → L2.St → Hp → Prop) (h0 : P 0 σ H) (hl : ∀ k s h, k ≤ xs.length → P k s h → SqL K h p xs ∧ SqL K h q ys)
    (hs : ∀ k x y s h T, xs[k]? = some x → ys[k]? = some y → P k s h → h T = none → g (.ref T) s (upd h T (.tup [x, y])) fun s2 h2 => ts { D with nx := P (k + 1), ct := P (k + 1), bk := D.nx } s2 h2)
    (hd : ∀ s h, P xs.length s h → D.nx s h) : LoopG (Itz K p q) g ts D σ H :=
  for_it (walk_zip (xs := xs) (ys := ys) (n := xs.length) (by rw [hn, Nat.min_self])) P h0 (fun i s h hi c => hl i s h hi c) (fun i x s h h' hi c y => by
    obtain ⟨T, u, v, rfl, n, rfl, e1, e2⟩ := y
    exact hs i u v s h T e1 e2 c n) hd
def DCompG (J : It) (g : TG) (t : TT) (tk tv : TE) (vs : List Nat) (σ : L2.St) (H : Hp) (Q : VK) : Prop := tDc (fun _ h R => R J h) g t tk tv vs σ H Q
theorem w_dc {wi : TI} {t : TT} {tk tv : TE} {vs : List Nat} (h : wi σ H fun J Ha => DCompG J g t tk tv vs σ Ha Q) : tDc wi g t tk tv vs σ H Q := h
theorem dc_L {t : TT} {tk tv : TE} {vs : List Nat} (hx : SqL K H p xs) (h : DCompG (Itl K p) g t tk tv vs σ H Q) : ∃ q, V.ref p = .ref q ∧ (∃ xs, SqL K H q xs) ∧ DCompG (Itl K q) g t tk tv vs σ H Q := ⟨p, rfl, ⟨xs, hx⟩, h⟩
theorem dcp_list {t : TT} {tk tv : TE} {vs : List Nat} (P : Addr → Nat → Hp → Prop) (h0 : ∀ D, H D = none → P D 0 (upd H D (.dK []))) (hl : ∀ D k h, H D = none → k ≤ xs.length → P D k h → SqL K h p xs)
    (hs : ∀ D k x h, H D = none → xs[k]? = some x → P D k h → g x (wipe σ vs) h fun s2 h2 => wipe s2 vs = wipe σ vs ∧ t s2 h2 fun b h3 =>
      if b = true then tk s2 h3 fun y h4 => tv s2 h4 fun z h5 => ∃ kvs k', y = kV k' ∧ h5 D = some (.dK kvs) ∧ kvs.length < sizeLine ∧ P D (k + 1) (upd h5 D (.dK (putK kvs k' z))) else P D (k + 1) h3)
    (hd : ∀ D h, H D = none → P D xs.length h → Q (.ref D) h) : DCompG (Itl K p) g t tk tv vs σ H Q := fun D hD => by
  refine ⟨fun i m h => m = xs.length - i ∧ i ≤ xs.length ∧ P D i h, ⟨xs.length, by simp, Nat.zero_le _, h0 D hD⟩, ?_⟩
  rintro i m h ⟨rfl, hi, c⟩
  have q := hl D i h hD hi c
  by_cases hlt : i < xs.length
  · refine .inr ⟨⟨xs, xs[i], q, by simp [hlt]⟩, P D (i + 1), fun H' p' => ⟨xs.length - (i + 1), by omega, rfl, hlt, p'⟩, fun x H' y => ?_⟩
    obtain ⟨e, y⟩ := y
    subst e
    exact hs D i x _ hD (y xs q) c
  · have e : i = xs.length := by omega
    subst e
    exact .inl ⟨⟨xs, q, Nat.le_refl _⟩, hd D h hD c⟩
end
/-! ## parts of tuples, any -/
theorem a_slFr {K : PySem.W.Frag} {H : Hp} {Q : VK} {a : Addr} {vs : List V} {n : Nat} (h : SqT K H a vs) (k : ∀ q H1, Ex H H1 → SqT K H1 q (vs.drop n) → (q = a ∧ H1 = H ∨ H q = none) → Q (.ref q) H1) : rSlA K (.ref a) (some (n : Int)) none H Q := by
  have e1 : HT.sIx vs.length 0 (some (n : Int)) = min n vs.length := HT.sIx_nat vs.length 0 n
  refine ⟨a, vs, rfl, h, fun z => ?_, fun _ p hp => ?_⟩
  · rw [e1] at z
    refine k a H (Ex.refl H) ?_ (.inl ⟨rfl, rfl⟩)
    have : n = 0 ∨ vs.length = 0 := by have := z.1; omega
    rcases this with rfl | e
    · exact h
    · rw [List.length_eq_zero_iff.mp e] at h ⊢
      rw [List.drop_nil]
      exact h
  · have e : cutV vs (some (n : Int)) none = vs.drop n := by
      unfold cutV
      rw [e1, HT.sIx_none]
      by_cases c : n ≤ vs.length
      · rw [Nat.min_eq_left c, List.take_of_length_le (by rw [List.length_drop]; exact Nat.le_refl _)]
      · have c' : vs.length ≤ n := by omega
        rw [Nat.min_eq_right c', Nat.sub_self, List.take_zero, List.drop_eq_nil_of_le c']
    rw [e]
    exact k p _ (Ex.new hp) (SqT.of upd_same) (.inr hp)
theorem a_slUp {K : PySem.W.Frag} {H : Hp} {Q : VK} {a : Addr} {vs : List V} {n : Nat} (h : SqT K H a vs) (k : ∀ q H1, Ex H H1 → SqT K H1 q (vs.take n) → (q = a ∧ H1 = H ∨ H q = none) → Q (.ref q) H1) : rSlA K (.ref a) none (some (n : Int)) H Q := by
  have e1 : HT.sIx vs.length vs.length (some (n : Int)) = min n vs.length := HT.sIx_nat vs.length vs.length n
  refine ⟨a, vs, rfl, h, fun z => ?_, fun _ p hp => ?_⟩
  · rw [e1] at z
    refine k a H (Ex.refl H) ?_ (.inl ⟨rfl, rfl⟩)
    rw [List.take_of_length_le (by have := z.2; omega)]
    exact h
  · have e : cutV vs none (some (n : Int)) = vs.take n := by
      unfold cutV
      rw [e1, HT.sIx_none]
      by_cases c : n ≤ vs.length
      · rw [Nat.min_eq_left c]
        simp
      · rw [Nat.min_eq_right (by omega)]
        simp
        rw [List.take_of_length_le (by omega)]
    rw [e]
    exact k p _ (Ex.new hp) (SqT.of upd_same) (.inr hp)
theorem tv_drop (T : List R) (n : Nat) : (tv T).drop n = tv (T.drop n) := (List.map_drop).symm
theorem tv_take (T : List R) (n : Nat) : (tv T).take n = tv (T.take n) := (List.map_take).symm
/-! ## dicts of types -/
theorem sqt_le {K : PySem.W.Frag} {G G' : Hp} (e : Ex G G') {a : Addr} {xs : List V} (h : SqT K G a xs) : SqT K G' a xs := ex_st h e
section
variable {K : PySem.W.Frag} {S : List Addr} {H H1 : Hp} {pt : Addr} {e : Env}
theorem TyD.ex' (h : TyD K S H pt e) (x1 : Ex H H1) : TyD K S H1 pt e := by
  obtain ⟨kvs, h1, h2, h3⟩ := h.ex
  exact ⟨kvs, x1 _ _ h1, h2, fun x => ⟨(h3 x).1, fun T t => by
    obtain ⟨a, g1, g2⟩ := (h3 x).2 T t
    exact ⟨a, g1, ex_st g2 (dl_ex x1)⟩⟩⟩
theorem TyD.ks {M : List Addr} (h : TyD K S H pt e) (k : Ks M H H1) (hm : ∀ a ∈ M, a ∈ S) (hp : pt ∉ M) : TyD K S H1 pt e := by
  obtain ⟨kvs, h1, h2, h3⟩ := h.ex
  exact ⟨kvs, k _ _ hp h1, h2, fun x => ⟨(h3 x).1, fun T t => by
    obtain ⟨a, g1, g2⟩ := (h3 x).2 T t
    exact ⟨a, g1, ex_st g2 (dl_ks (k.mono hm))⟩⟩⟩
theorem TyD.grow {p : Addr} (h : TyD K S H pt e) (n : H p = none) (x1 : Ex H H1) : TyD K (p :: S) H1 pt e := by
  obtain ⟨kvs, h1, h2, h3⟩ := h.ex
  exact ⟨kvs, x1 _ _ h1, h2, fun x => ⟨(h3 x).1, fun T t => by
    obtain ⟨a, g1, g2⟩ := (h3 x).2 T t
    exact ⟨a, g1, ex_st g2 (dl_new n x1)⟩⟩⟩
theorem TyD.sub {S' : List Addr} (h : TyD K S H pt e) (m : ∀ a ∈ S', a ∈ S) : TyD K S' H pt e := by
  obtain ⟨kvs, h1, h2, h3⟩ := h.ex
  exact ⟨kvs, h1, h2, fun x => ⟨(h3 x).1, fun T t => by
    obtain ⟨a, g1, g2⟩ := (h3 x).2 T t
    exact ⟨a, g1, ex_st g2 (dl_sub m)⟩⟩⟩
theorem TyD.get (h : TyD K S H pt e) {x : Str} {T : List R} (t : e x = some T) {Q : VK} (k : ∀ a, SqT K (dl S H) a (tv T) → Q (.ref a) H) : GetI (.ref pt) (.str x) H Q := by
  obtain ⟨kvs, h1, h2, h3⟩ := h.ex
  obtain ⟨a, g1, g2⟩ := (h3 x).2 T t
  exact a_dget h1 g1 (k a g2)
theorem TyD.mem (h : TyD K S H pt e) {x : Str} {neg : Bool} {Q : VK} (k : Q (.bl (if neg then !(e x).isSome else (e x).isSome)) H) : MemD neg (.str x) (.ref pt) H Q := by
  obtain ⟨kvs, h1, h2, h3⟩ := h.ex
  refine a_dmem h1 ?_
  have z : (valV kvs (Sum.inr x)).isSome = (e x).isSome := by
    cases q : e x with
    | none => rw [(h3 x).1 q]; rfl
    | some T =>
      obtain ⟨a, g1, _⟩ := (h3 x).2 T q
      rw [g1]
      rfl
  rw [z]
  exact k
theorem putK_le (kvs : Kv) (k : Key) (v : V) : (putK kvs k v).length ≤ kvs.length + 1 := by
  unfold putK
  split
  · rw [List.length_map]
    exact Nat.le_succ _
  · rw [List.length_append]
    exact Nat.le_refl _
def TyN (K : PySem.W.Frag) (S : List Addr) (H : Hp) (pt : Addr) (e : Env) (n : Nat) : Prop := ∃ kvs : Kv, H pt = some (.dK kvs) ∧ kvs.length ≤ n ∧ ∀ x, (e x = none → valV kvs (Sum.inr x) = none) ∧ ∀ T, e x = some T → ∃ a, valV kvs (Sum.inr x) = some (.ref a) ∧ SqT K (dl S H) a (tv T)
theorem TyN.d {n : Nat} (h : TyN K S H pt e n) (l : n ≤ 1000) : TyD K S H pt e := by
  obtain ⟨kvs, h1, h2, h3⟩ := h
  exact ⟨kvs, h1, Nat.le_trans h2 l, h3⟩
theorem TyN.ks {n : Nat} {M : List Addr} (h : TyN K S H pt e n) (k : Ks M H H1) (hm : ∀ a ∈ M, a ∈ S) (hp : pt ∉ M) : TyN K S H1 pt e n := by
  obtain ⟨kvs, h1, h2, h3⟩ := h
  exact ⟨kvs, k _ _ hp h1, h2, fun x => ⟨(h3 x).1, fun T t => by
    obtain ⟨a, g1, g2⟩ := (h3 x).2 T t
    exact ⟨a, g1, ex_st g2 (dl_ks (k.mono hm))⟩⟩⟩
theorem TyN.ex' {n : Nat} (h : TyN K S H pt e n) (x1 : Ex H H1) : TyN K S H1 pt e n := h.ks (M := []) (Ks.of x1) (fun _ z => by cases z) (by simp)
theorem TyN.grow {n : Nat} {p : Addr} (h : TyN K S H pt e n) (q : H p = none) (x1 : Ex H H1) : TyN K (p :: S) H1 pt e n := by
  obtain ⟨kvs, h1, h2, h3⟩ := h
  exact ⟨kvs, x1 _ _ h1, h2, fun x => ⟨(h3 x).1, fun T t => by
    obtain ⟨a, g1, g2⟩ := (h3 x).2 T t
    exact ⟨a, g1, ex_st g2 (dl_new q x1)⟩⟩⟩
theorem TyN.sub {n : Nat} {S' : List Addr} (h : TyN K S H pt e n) (m : ∀ a ∈ S', a ∈ S) : TyN K S' H pt e n := by
  obtain ⟨kvs, h1, h2, h3⟩ := h
  exact ⟨kvs, h1, h2, fun x => ⟨(h3 x).1, fun T t => by
    obtain ⟨a, g1, g2⟩ := (h3 x).2 T t
    exact ⟨a, g1, ex_st g2 (dl_sub m)⟩⟩⟩
/-- types[x] = T -/
theorem TyN.put {n : Nat} (h : TyN K S H pt e n) (hp : pt ∈ S) (hn : n < 1000) {x : Str} {T : List R} {a : Addr} (t : SqT K (dl S H) a (tv T)) {N : Hp → Prop} (k : ∀ H1, Ks [pt] H H1 → TyN K S H1 pt (e.put x T) (n + 1) → N H1) : PutD (.ref pt) (.str x) (.ref a) H N := by
  obtain ⟨kvs, h1, h2, h3⟩ := h
  refine a_putD h1 (by omega) (k _ ((Ks.refl _ _).upd (by simp)) ⟨_, upd_same, Nat.le_trans (putK_le _ _ _) (Nat.succ_le_succ h2), fun y => ?_⟩)
  rw [dl_upd hp, valV_put]
  unfold Env.put
  by_cases c : y = x
  · rw [if_pos c, if_pos (by rw [c])]
    refine ⟨fun z => (by cases z), fun U z => ?_⟩
    cases Option.some.inj z
    exact ⟨a, rfl, t⟩
  · rw [if_neg c, if_neg (fun z => c (Sum.inr.inj z))]
    exact h3 y
/-- {} as a dict of types -/
theorem TyN.new (h : H pt = some (.dK [])) : TyN K S H pt e0 0 := ⟨[], h, Nat.le_refl _, fun x => ⟨fun _ => rfl, fun T z => by cases z⟩⟩
end
/-! ## dict(params) -/
theorem dpa_rs {K : PySem.W.Frag} {H : Hp} : ∀ (T : List R) (zs : List V), DpAll K H zs (T.map fun x => .str x.s) → zs = tv T
  | [], _, h => by
    cases h
    rfl
  | x :: T, _, h => by
    cases h with
    | cons u v =>
      cases dp_str u
      rw [dpa_rs T _ v]
      rfl
theorem dp_ruT {K : PySem.W.Frag} {H : Hp} {v : V} {T : List R} (h : Dp K H v (ru T)) : ∃ a, v = .ref a ∧ SqT K H a (tv T) := by
  obtain ⟨a, zs, rfl, h1, h2⟩ := dp_tup h
  rw [dpa_rs T zs h2] at h1
  exact ⟨a, rfl, h1⟩
theorem dp_pD {K : PySem.W.Frag} {H : Hp} {v : V} {q : Str × List R} (h : Dp K H v (pD q)) : ∃ p a, v = .ref p ∧ SqT K H p [.str q.1, .ref a] ∧ SqT K H a (tv q.2) := by
  obtain ⟨p, ys, rfl, hT, hA⟩ := dp_tup h
  cases hA with
  | cons g1 t =>
    cases t with
    | cons g2 t =>
      cases t
      cases dp_str g1
      obtain ⟨a, rfl, hT2⟩ := dp_ruT g2
      exact ⟨p, a, rfl, hT, hT2⟩
def EnvK (K : PySem.W.Frag) (H : Hp) (kvs : Kv) (e : Env) : Prop := ∀ x, (e x = none → valV kvs (Sum.inr x) = none) ∧ ∀ T, e x = some T → ∃ a, valV kvs (Sum.inr x) = some (.ref a) ∧ SqT K H a (tv T)
theorem EnvK.put {K : PySem.W.Frag} {H : Hp} {kvs : Kv} {e : Env} (h : EnvK K H kvs e) {x : Str} {T : List R} {a : Addr} (t : SqT K H a (tv T)) : EnvK K H (putK kvs (Sum.inr x) (.ref a)) (e.put x T) := fun y => by
  rw [valV_put]
  unfold Env.put
  by_cases c : y = x
  · rw [if_pos c, if_pos (by rw [c])]
    refine ⟨fun z => (by cases z), fun U z => ?_⟩
    cases Option.some.inj z
    exact ⟨a, rfl, t⟩
  · rw [if_neg c, if_neg (fun z => c (Sum.inr.inj z))]
    exact h y
theorem merge_env {K : PySem.W.Frag} {H : Hp} (ps : List (Str × List R)) : ∀ (xs : List V) (kvs : Kv) (e : Env), DpAll K H xs (ps.map pD) → EnvK K H kvs e →
    ∃ (as : List Addr) (more : List (Key × V)), xs = as.map V.ref ∧ Paired (fun p kv => SqT K H p [kV kv.1, kv.2]) as more ∧ more.length = ps.length ∧ EnvK K H (mergeK kvs more) (envP e ps) := by
  induction ps with
  | nil =>
    intro xs kvs e d h
    cases d
    exact ⟨[], [], rfl, .nil, rfl, h⟩
  | cons q ps ih =>
    intro xs kvs e d h
    cases d with
    | cons d t =>
      obtain ⟨p, a, rfl, hT, hT2⟩ := dp_pD d
      obtain ⟨as, more, e1, e2, e3, e4⟩ := ih _ (putK kvs (Sum.inr q.1) (.ref a)) (e.put q.1 q.2) t (h.put hT2)
      exact ⟨p :: as, (Sum.inr q.1, .ref a) :: more, by rw [e1]; rfl, .cons hT e2, by rw [List.length_cons, List.length_cons, e3], e4⟩
theorem merge_len : ∀ (more kvs : Kv), (mergeK kvs more).length ≤ kvs.length + more.length
  | [], kvs => Nat.le_refl _
  | q :: more, kvs => by
    have h1 := merge_len more (putK kvs q.1 q.2)
    have h2 := putK_le kvs q.1 q.2
    show (mergeK (putK kvs q.1 q.2) more).length ≤ _
    rw [List.length_cons]
    omega
theorem a_dict {K : PySem.W.Frag} {H : Hp} {Q : VK} {p : Addr} {xs : List V} {ps : List (Str × List R)} (h : SqL K H p xs) (d : DpAll K H xs (ps.map pD)) (hz : ps.length ≤ 100) (k : ∀ m H1, H m = none → Ex H H1 → TyN K [m] H1 m (envP e0 ps) ps.length → Q (.ref m) H1) : qDict K [.ref p] H Q := by
  obtain ⟨as, more, e1, e2, e3, e4⟩ := merge_env ps xs [] e0 d (fun x => ⟨fun _ => rfl, fun T z => (by cases z)⟩)
  subst e1
  refine ⟨p, as, more, rfl, h, e2, fun m n => k m _ n (Ex.new n) ⟨_, upd_same, ?_, fun x => ⟨(e4 x).1, fun T t => ?_⟩⟩⟩
  · have := merge_len more []
    rw [e3] at this
    simpa using this
  · obtain ⟨a, g1, g2⟩ := (e4 x).2 T t
    have := ex_st g2 (dl_new (S := []) n (Ex.new n (o := .dK (mergeK [] more))) |> fun z => by rw [dl_nil] at z; exact z)
    exact ⟨a, g1, this⟩
end Ver

set_option Elab.async false
set_option linter.all false
set_option maxRecDepth 100000
set_option maxHeartbeats 4000000
namespace Ver
open PySem PySem.Spec PyProof.Rows L2 Evl
/-! ## judging, as the document has it -/
def xD (q : List R × List R) : PyData := .tuple [ru q.1, ru q.2]
def exB (ex : List (List R × List R)) (a b : List R) : Bool := (ex.map xD).any fun z => PyData.eqv z (xD (a, b))
def jPlace (e : Env) (x : Str) (k : Nat) : Option Str := match e x with
  | none => some "unknown name"
  | some T => if T.length ≤ k then some "too many stars" else if (T.take k).all R.hr then none else some "may not read"
def jSeen (e : Env) (x : Str) (k : Nat) : List R := ((e x).getD []).drop k
def jConv (ex : List (List R × List R)) (one two : List R) : Option Str := if one.length ≠ two.length then some "other depth" else if cv one two || exB ex one two then none else some "no conversion"
def hdR : List R → R
  | x :: _ => x
  | [] => .n
def jSrc (e : Env) (ex : List (List R × List R)) (goal : List R) : Src → Option Str
  | .num _ => if goal = [] then none else some "other depth"
  | .null => if goal = [] then some "other depth" else none
  | .adr x k => match jPlace e x k with
    | some f => some f
    | none => jConv ex (jSeen e x k) goal
  | .val x k => match jPlace e x k with
    | some f => some f
    | none => if (hdR (jSeen e x k)).hr then jConv ex ((jSeen e x k).drop 1) goal else some "may not read"
def jCall (e : Env) (ex : List (List R × List R)) : List (Str × List R) → List Src → Option Str
  | q :: ps, s :: ss => match jSrc e ex (q.2.drop 1) s with
    | some f => some f
    | none => jCall e ex ps ss
  | _, _ => none
def prm : List TF → Str → List (Str × List R)
  | [], _ => []
  | g :: gs, f => if g.n = f then g.p else prm gs f
def jStm (fs : List TF) (e : Env) (ex : List (List R × List R)) : Stm → Option Str
  | .lt _ T s => jSrc e ex (T.drop 1) s
  | .put x k s => match jPlace e x k with
    | some f => some f
    | none => if (hdR (jSeen e x k)).hw then jSrc e ex ((jSeen e x k).drop 1) s else some "may not write"
  | .call f ss => jCall e ex (prm fs f) ss
def jBlk (fs : List TF) (ex : List (List R × List R)) : Env → Nat → List Stm → List (Nat × Str)
  | _, _, [] => []
  | e, k, s :: ss => (match jStm fs e ex s with
    | some f => [(k, f)]
    | none => []) ++ jBlk fs ex (envS e s) (k + 1) ss
def jFn (fs : List TF) (ex : List (List R × List R)) (f : TF) : List (Str × Nat × Str) := (jBlk fs ex (envP e0 f.p) 0 f.b).map fun q => (f.n, q)
def jAll (fs : List TF) (ss : List Stm) (ex : List (List R × List R)) : List (Str × Nat × Str) := fs.flatMap (jFn fs ex) ++ (jBlk fs ex e0 0 ss).map fun q => (("" : Str), q)
def ofO : Option Str → V
  | none => .non
  | some f => .str f
def bfD (q : Nat × Str) : PyData := .tuple [.int (q.1 : Nat), .str q.2]
def faD (q : Str × Nat × Str) : PyData := .tuple [.str q.1, .int (q.2.1 : Nat), .str q.2.2]
/-- all that is known are types -/
def EO (e : Env) : Prop := ∀ x T, e x = some T → tyO T
theorem EO.nil : EO e0 := fun _ _ h => by cases h
theorem EO.put {e : Env} (h : EO e) (x : Str) {T : List R} (t : tyO T) : EO (e.put x T) := fun y U z => by
  unfold Env.put at z
  by_cases c : y = x
  · rw [if_pos c] at z
    cases Option.some.inj z
    exact t
  · rw [if_neg c] at z
    exact h y U z
theorem EO.ps : ∀ {ps : List (Str × List R)} {e : Env}, EO e → (∀ q ∈ ps, tyO q.2) → EO (envP e ps)
  | [], e, h, _ => h
  | q :: ps, e, h, t => EO.ps (ps := ps) (h.put q.1 (t q (List.mem_cons_self ..))) fun p hp => t p (List.mem_cons_of_mem _ hp)
theorem EO.st {e : Env} (h : EO e) {s : Stm} (o : stO s) : EO (envS e s) := by
  cases s with
  | lt x T s => exact h.put x o.2.1
  | put x k s => exact h
  | call f ss => exact h
theorem jPlace_none {e : Env} {x : Str} {k : Nat} (h : jPlace e x k = none) : ∃ T, e x = some T ∧ k < T.length ∧ jSeen e x k = T.drop k := by
  unfold jPlace at h
  cases q : e x with
  | none => rw [q] at h; cases h
  | some T =>
    rw [q] at h
    by_cases c : T.length ≤ k
    · simp only [if_pos c] at h
      cases h
    · exact ⟨T, rfl, by omega, by unfold jSeen; rw [q]; rfl⟩
theorem seen_cons {e : Env} {x : Str} {k : Nat} (h : jPlace e x k = none) : ∃ r W, jSeen e x k = r :: W ∧ ∃ T, e x = some T ∧ k < T.length ∧ jSeen e x k = T.drop k := by
  obtain ⟨T, h1, h2, h3⟩ := jPlace_none h
  cases q : T.drop k with
  | nil =>
    have := congrArg List.length q
    rw [List.length_drop] at this
    simp at this
    omega
  | cons r W => exact ⟨r, W, by rw [h3, q], T, h1, h2, h3⟩
theorem seen_len {e : Env} (he : EO e) (x : Str) (k : Nat) : (jSeen e x k).length ≤ 6 := by
  unfold jSeen
  rw [List.length_drop]
  cases q : e x with
  | none => simp
  | some T =>
    have := (he x T q).2
    show T.length - k ≤ 6
    omega
/-! ## extra conversions as data -/
structure XL (K : PySem.W.Frag) (H : Hp) (a : Addr) (ex : List (List R × List R)) : Prop where
  ex : ∃ xs, SqL K H a xs ∧ DpAll K H xs (ex.map xD)
theorem XL.up {K : PySem.W.Frag} {H H1 : Hp} {a : Addr} {ex : List (List R × List R)} (h : XL K H a ex) (e : Ex H H1) : XL K H1 a ex := by
  obtain ⟨xs, h1, h2⟩ := h.ex
  exact ⟨xs, ex_sl h1 e, dpa_ex e h2⟩
theorem shp_tup {ds : List PyData} (h : PyData.canLayAll0 ds = true) (d : PyData.depthAll ds ≤ 40) : SeqAt.shaped (.tuple ds) = true := by
  unfold SeqAt.shaped
  simp only [PyData.canLay0, PyData.depth, Bool.and_eq_true]
  exact ⟨h, decide_eq_true (by omega)⟩
theorem lay_ru (T : List R) : PyData.canLay0 (ru T) = true := by
  show PyData.canLay0 (.tuple (T.map fun x => .str x.s)) = true
  simp only [PyData.canLay0]
  exact lay_rs T
theorem dep_ru (T : List R) : PyData.depth (ru T) ≤ 2 := by
  show PyData.depth (.tuple (T.map fun x => .str x.s)) ≤ 2
  simp only [PyData.depth]
  have := depth_rs T
  omega
theorem lay_xD (q : List R × List R) : PyData.canLay0 (xD q) = true := by
  unfold xD
  simp only [PyData.canLay0, PyData.canLayAll0, Bool.and_eq_true]
  exact ⟨lay_ru _, lay_ru _, trivial⟩
theorem dep_xD (q : List R × List R) : PyData.depth (xD q) ≤ 3 := by
  unfold xD
  have h1 := dep_ru q.1
  have h2 := dep_ru q.2
  simp only [PyData.depth, PyData.depthAll]
  omega
theorem shp_xD (q : List R × List R) : SeqAt.shaped (xD q) = true := by
  have := dep_xD q
  unfold SeqAt.shaped
  rw [Bool.and_eq_true]
  exact ⟨lay_xD q, decide_eq_true (by omega)⟩
theorem shp_ex (ex : List (List R × List R)) : SeqAt.shaped (.list (ex.map xD)) = true := by
  have h : PyData.canLayAll0 (ex.map xD) = true ∧ PyData.depthAll (ex.map xD) ≤ 3 := by
    induction ex with
    | nil => simp [PyData.canLayAll0, PyData.depthAll]
    | cons q ex ih =>
      have := dep_xD q
      rw [List.map_cons]
      simp only [PyData.canLayAll0, PyData.depthAll, Bool.and_eq_true]
      exact ⟨⟨lay_xD q, ih.1⟩, by omega⟩
  unfold SeqAt.shaped
  simp only [PyData.canLay0, PyData.depth, Bool.and_eq_true]
  exact ⟨h.1, decide_eq_true (by omega)⟩
/-- (one, two) in extra -/
theorem a_inX {K : PySem.W.Frag} {H : Hp} {Q : VK} {t a x y : Addr} {one two : List R} {ex : List (List R × List R)} (ht : H t = some (.tup [.ref x, .ref y])) (hx : SqT K H x (tv one)) (hy : SqT K H y (tv two)) (h : XL K H a ex) (k : Q (.bl (exB ex one two)) H) : rInD K (.ref t) (.ref a) H Q := by
  obtain ⟨xs, h1, h2⟩ := h.ex
  exact ⟨xD (one, two), ex.map xD, .tup (SqT.of ht) (.cons (dp_ru hx) (.cons (dp_ru hy) .nil)), .lst h1 h2, shp_xD _, shp_ex ex, k⟩
theorem a_ninX {K : PySem.W.Frag} {H : Hp} {Q : VK} {t a x y : Addr} {one two : List R} {ex : List (List R × List R)} (ht : H t = some (.tup [.ref x, .ref y])) (hx : SqT K H x (tv one)) (hy : SqT K H y (tv two)) (h : XL K H a ex) (k : Q (.bl (!exB ex one two)) H) : rNotInD K (.ref t) (.ref a) H Q := by
  obtain ⟨xs, h1, h2⟩ := h.ex
  exact ⟨xD (one, two), ex.map xD, .tup (SqT.of ht) (.cons (dp_ru hx) (.cons (dp_ru hy) .nil)), .lst h1 h2, shp_xD _, shp_ex ex, k⟩
/-- a place, a source, a statement as objects -/
theorem dp_pl {K : PySem.W.Frag} {H : Hp} {v : V} {x : Str} {k : Nat} (h : Dp K H v (plD x k)) : ∃ p, v = .ref p ∧ SqT K H p [.str x, .int (k : Int)] := by
  obtain ⟨p, ys, rfl, hT, hA⟩ := dp_tup h
  cases hA with
  | cons g1 t =>
    cases t with
    | cons g2 t =>
      cases t
      cases dp_str g1
      cases dp_int g2
      exact ⟨p, rfl, hT⟩
theorem dp_two {K : PySem.W.Frag} {H : Hp} {v : V} {a b : PyData} (h : Dp K H v (.tuple [a, b])) : ∃ p u w, v = .ref p ∧ SqT K H p [u, w] ∧ Dp K H u a ∧ Dp K H w b := by
  obtain ⟨p, ys, rfl, hT, hA⟩ := dp_tup h
  cases hA with
  | cons g1 t =>
    cases t with
    | cons g2 t =>
      cases t
      exact ⟨p, _, _, rfl, hT, g1, g2⟩
theorem dp_thr {K : PySem.W.Frag} {H : Hp} {v : V} {a b c : PyData} (h : Dp K H v (.tuple [a, b, c])) : ∃ p u w z, v = .ref p ∧ SqT K H p [u, w, z] ∧ Dp K H u a ∧ Dp K H w b ∧ Dp K H z c := by
  obtain ⟨p, ys, rfl, hT, hA⟩ := dp_tup h
  cases hA with
  | cons g1 t =>
    cases t with
    | cons g2 t =>
      cases t with
      | cons g3 t =>
        cases t
        exact ⟨p, _, _, _, rfl, hT, g1, g2, g3⟩
theorem dp_fou {K : PySem.W.Frag} {H : Hp} {v : V} {a b c d : PyData} (h : Dp K H v (.tuple [a, b, c, d])) : ∃ p u w z y, v = .ref p ∧ SqT K H p [u, w, z, y] ∧ Dp K H u a ∧ Dp K H w b ∧ Dp K H z c ∧ Dp K H y d := by
  obtain ⟨p, ys, rfl, hT, hA⟩ := dp_tup h
  cases hA with
  | cons g1 t =>
    cases t with
    | cons g2 t =>
      cases t with
      | cons g3 t =>
        cases t with
        | cons g4 t =>
          cases t
          exact ⟨p, _, _, _, _, rfl, hT, g1, g2, g3, g4⟩
theorem dp_1 {K : PySem.W.Frag} {H : Hp} {v : V} {a : PyData} (h : Dp K H v (.tuple [a])) : ∃ p u, v = .ref p ∧ SqT K H p [u] ∧ Dp K H u a := by
  obtain ⟨p, ys, rfl, hT, hA⟩ := dp_tup h
  cases hA with
  | cons g1 t =>
    cases t
    exact ⟨p, _, rfl, hT, g1⟩
/-- is not None -/
theorem a_notO {H : Hp} {Q : VK} {o : Option Str} (k : Q (.bl o.isSome) H) : qNotN (ofO o) .non H Q := ⟨rfl, by cases o <;> exact k⟩
/-- the promises -/
def pPlF (K : PySem.W.Frag) : Sp := fun vs H Q _ => ∃ S pt v e x k, vs = [.ref pt, v] ∧ TyD K S H pt e ∧ EO e ∧ Dp K H v (plD x k) ∧ RV1 (ofO (jPlace e x k)) H Q
def pSeen (K : PySem.W.Frag) : Sp := fun vs H Q _ => ∃ S pt v e x k T, vs = [.ref pt, v] ∧ TyD K S H pt e ∧ Dp K H v (plD x k) ∧ e x = some T ∧ ∀ a H1, Ex H H1 → SqT K H1 a (tv (T.drop k)) → Q (.ref a) H1
def pCnv (K : PySem.W.Frag) : Sp := fun vs H Q _ => ∃ a b c one two ex, vs = [.ref a, .ref b, .ref c] ∧ SqT K H a (tv one) ∧ SqT K H b (tv two) ∧ one.length ≤ 6 ∧ XL K H c ex ∧ RV1 (ofO (jConv ex one two)) H Q
def pSrc (K : PySem.W.Frag) : Sp := fun vs H Q _ => ∃ S pt v g c e s goal ex, vs = [.ref pt, v, .ref g, .ref c] ∧ TyD K S H pt e ∧ EO e ∧ Dp K H v (sD s) ∧ SqT K H g (tv goal) ∧ XL K H c ex ∧ RV1 (ofO (jSrc e ex goal s)) H Q
theorem new_dl {H H1 : Hp} {m : Addr} (n : H m = none) (e : Ex H H1) : Ex H (dl [m] H1) := fun a o q => by
  have k : a ≠ m := ne_of_none q n
  rw [dl_nin (by simpa using k)]
  exact e a o q
/-- functions by their names -/
structure FnD (K : PySem.W.Frag) (C : Addr) (H : Hp) (pd : Addr) (fs : List TF) : Prop where
  ex : ∃ kvs : Kv, H pd = some (.dK kvs) ∧ ∀ g ∈ fs, ∃ a, valV kvs (Sum.inr g.n) = some (.ref a) ∧ FnAt K C H a g.fd
theorem FnD.up {K : PySem.W.Frag} {C : Addr} {H H1 : Hp} {pd : Addr} {fs : List TF} (h : FnD K C H pd fs) (e : Ex H H1) : FnD K C H1 pd fs := by
  obtain ⟨kvs, h1, h2⟩ := h.ex
  exact ⟨kvs, e _ _ h1, fun g hg => by
    obtain ⟨a, g1, g2⟩ := h2 g hg
    exact ⟨a, g1, g2.up e⟩⟩
theorem prm_eq : ∀ {fs : List TF} {g : TF}, (fs.map TF.n).Nodup → g ∈ fs → prm fs g.n = g.p
  | f :: fs, g, nd, hg => by
    rw [List.map_cons, List.nodup_cons] at nd
    unfold prm
    rcases List.mem_cons.mp hg with rfl | hg
    · rw [if_pos rfl]
    · rw [if_neg (fun z => nd.1 (by rw [z]; exact List.mem_map_of_mem hg))]
      exact prm_eq nd.2 hg
def pPut (K : PySem.W.Frag) : Sp := fun vs H Q _ => ∃ S pt v u c e x k s ex, vs = [.ref pt, v, u, .ref c] ∧ TyD K S H pt e ∧ EO e ∧ Dp K H v (plD x k) ∧ Dp K H u (sD s) ∧ XL K H c ex ∧ RV1 (ofO (jStm [] e ex (.put x k s))) H Q
def pCall (K : PySem.W.Frag) : Sp := fun vs H Q _ => ∃ S pt pp pq c e xs ys ps ss ex, vs = [.ref pt, .ref pp, .ref pq, .ref c] ∧ TyD K S H pt e ∧ EO e ∧ SqL K H pp xs ∧ DpAll K H xs (List.map pD ps) ∧ SqL K H pq ys ∧ DpAll K H ys (List.map sD ss) ∧ ps.length = ss.length ∧ XL K H c ex ∧ RV1 (ofO (jCall e ex ps ss)) H Q
def pStF (K : PySem.W.Frag) (C : Addr) : Sp := fun vs H Q _ => ∃ S pd pt v c e s fs ex, vs = [.ref pd, .ref pt, v, .ref c] ∧ FnD K C H pd fs ∧ (fs.map TF.n).Nodup ∧ cf fs s ∧ TyD K S H pt e ∧ EO e ∧ Dp K H v (stD s) ∧ XL K H c ex ∧ RV1 (ofO (jStm fs e ex s)) H Q
def pBlk (K : PySem.W.Frag) (C : Addr) : Sp := fun vs H Q _ => ∃ pd pp pq c xs ys ps b fs ex, vs = [.ref pd, .ref pp, .ref pq, .ref c] ∧ FnD K C H pd fs ∧ (fs.map TF.n).Nodup ∧ (∀ s ∈ b, cf fs s ∧ stO s) ∧ b.length ≤ 100 ∧ SqL K H pp xs ∧ DpAll K H xs (List.map pD ps) ∧ ps.length ≤ 100 ∧ (∀ q ∈ ps, tyO q.2) ∧ SqL K H pq ys ∧ DpAll K H ys (b.map stD) ∧ XL K H c ex ∧
  ∀ l vs H1, H l = none → Ex H H1 → H1 l = some (.lst vs) → DpAll K H1 vs ((jBlk fs ex (envP e0 ps) 0 b).map bfD) → Q (.ref l) H1
theorem jBlk_len (fs : List TF) (ex : List (List R × List R)) : ∀ (b : List Stm) (e : Env) (k : Nat), (jBlk fs ex e k b).length ≤ b.length
  | [], _, _ => Nat.le_refl _
  | s :: b, e, k => by
    have ih := jBlk_len fs ex b (envS e s) (k + 1)
    unfold jBlk
    rw [List.length_append, List.length_cons]
    cases jStm fs e ex s <;> simp <;> omega
/-- a program as an object -/
structure PgAt (K : PySem.W.Frag) (CP CF : Addr) (H : Hp) (z : Addr) (fs : List TF) (ss : List Stm) : Prop where
  ex : ∃ dz r1 r2 ws1 ws2, H z = some (.ins CP dz (pgF r1 r2)) ∧ H r1 = some (.lst ws1) ∧ FnAll K CF H ws1 (fs.map TF.fd) ∧ H r2 = some (.lst ws2) ∧ DpAll K H ws2 (ss.map stD)
theorem PgAt.up {K : PySem.W.Frag} {CP CF : Addr} {H H1 : Hp} {z : Addr} {fs : List TF} {ss : List Stm} (h : PgAt K CP CF H z fs ss) (e : Ex H H1) : PgAt K CP CF H1 z fs ss := by
  obtain ⟨dz, r1, r2, ws1, ws2, h1, h2, h3, h4, h5⟩ := h.ex
  exact ⟨dz, r1, r2, ws1, ws2, e _ _ h1, e _ _ h2, h3.up e, e _ _ h4, dpa_ex e h5⟩
def allCf (fs : List TF) (ss : List Stm) : Prop := (∀ f ∈ fs, ∀ s ∈ f.b, cf fs s) ∧ ∀ s ∈ ss, cf fs s
theorem cf_mono {d fs : List TF} {s : Stm} (h : cf d s) (m : ∀ g ∈ d, g ∈ fs) : cf fs s := by
  cases s with
  | lt x T s => trivial
  | put x k s => trivial
  | call f ss =>
    obtain ⟨g, h1, h2⟩ := h
    exact ⟨g, m g h1, h2⟩
theorem Fit.all : ∀ {r d : List TF} {ss : List Stm}, Fit d r ss → (∀ f ∈ r, ∀ s ∈ f.b, cf (d ++ r) s) ∧ ∀ s ∈ ss, cf (d ++ r) s
  | [], d, ss, h => ⟨fun f hf => (by cases hf), fun s hs => cf_mono (h s hs) fun g hg => List.mem_append_left _ hg⟩
  | f :: r, d, ss, h => by
    have ih := Fit.all h.2
    rw [List.append_assoc] at ih
    refine ⟨fun g hg s hs => ?_, ih.2⟩
    rcases List.mem_cons.mp hg with rfl | hg
    · exact cf_mono (h.1 s hs) fun g hg => List.mem_append_left _ hg
    · exact ih.1 g hg s hs
def pFa (K : PySem.W.Frag) (CP CF : Addr) : Sp := fun vs H Q _ => ∃ z c fs ss ex, vs = [.ref z, .ref c] ∧ PgAt K CP CF H z fs ss ∧ POk fs ss ∧ XL K H c ex ∧
  ∀ l vs H1, H l = none → Ex H H1 → H1 l = some (.lst vs) → DpAll K H1 vs ((jAll fs ss ex).map faD) → Q (.ref l) H1
def pLet1 (K : PySem.W.Frag) (CP CF : Addr) : Sp := fun vs H Q _ => ∃ z c fs ss ex, vs = [.ref z, .ref c] ∧ PgAt K CP CF H z fs ss ∧ POk fs ss ∧ XL K H c ex ∧ RV1 (.bl (decide ((jAll fs ss ex).length = 0))) H Q
def pByN (K : PySem.W.Frag) (C : Addr) : Sp := fun vs H Q _ => ∃ p xs fs, vs = [.ref p] ∧ SqL K H p xs ∧ FnAll K C H xs (List.map TF.fd fs) ∧ (fs.map TF.n).Nodup ∧ fs.length ≤ 100 ∧ ∀ m H1, H m = none → Ex H H1 → FnD K C H1 m fs → Q (.ref m) H1
mutual
def ntD : PyData → Bool
  | .list _ => false
  | .tuple ds => ntA ds
  | _ => true
def ntA : List PyData → Bool
  | [] => true
  | d :: ds => ntD d && ntA ds
end
/-- all that is no list is kept -/
def Kt (H H' : Hp) : Prop := ∀ a o, H a = some o → (∀ xs, o ≠ .lst xs) → H' a = some o
theorem Kt.ex {H H' : Hp} (e : Ex H H') : Kt H H' := fun a o h _ => e a o h
theorem Kt.trans {H H1 H2 : Hp} (a : Kt H H1) (b : Kt H1 H2) : Kt H H2 := fun x o h n => b x o (a x o h n) n
theorem Kt.mut {H : Hp} {p : Addr} {xs : List V} {o : HO} (f : H p = some (.lst xs)) : Kt H (upd H p o) := fun a u h n => by
  rw [upd_ne (fun z => by rw [z, f] at h; exact n xs (Option.some.inj h).symm)]
  exact h
theorem Kt.dl {H : Hp} {p : Addr} {xs : List V} (f : H p = some (.lst xs)) : Kt H (dl [p] H) := fun a u h n => by
  rw [dl_nin (by
    rw [List.mem_singleton]
    exact fun z => by rw [z, f] at h; exact n xs (Option.some.inj h).symm)]
  exact h
section
variable {K : PySem.W.Frag}
theorem st_kt {H H' : Hp} {a : Addr} {xs : List V} (k : Kt H H') (f : SqT K H a xs) : SqT K H' a xs := by
  rcases f with (f | ⟨o, f⟩) | f
  · exact .inl (.inl (k _ _ f (fun _ z => by cases z)))
  · exact .inl (.inr ⟨o, k _ _ f (fun _ z => by cases z)⟩)
  · exact .inr f
mutual
theorem dp_kt {H H' : Hp} (k : Kt H H') : ∀ {v : V} {d : PyData}, Dp K H v d → ntD d = true → Dp K H' v d
  | _, _, .non, _ => .non
  | _, _, .bl x, _ => .bl x
  | _, _, .int i, _ => .int i
  | _, _, .str x, _ => .str x
  | _, _, .lst h t, n => by cases n
  | _, _, .tup h t, n => .tup (st_kt k h) (dpa_kt k t n)
theorem dpa_kt {H H' : Hp} (k : Kt H H') : ∀ {xs : List V} {ds : List PyData}, DpAll K H xs ds → ntA ds = true → DpAll K H' xs ds
  | _, _, .nil, _ => .nil
  | _, _, .cons h t, n => by
    have n' := (Bool.and_eq_true _ _ ▸ n : _ ∧ _)
    exact .cons (dp_kt k h n'.1) (dpa_kt k t n'.2)
end
theorem nt_map {α : Type} {f : α → PyData} (h : ∀ x, ntD (f x) = true) : ∀ xs : List α, ntA (xs.map f) = true
  | [] => rfl
  | x :: xs => and_t (h x) (nt_map h xs)
theorem bf_dl {H : Hp} {l : Addr} {xs vs : List V} {qs : List (Nat × Str)} (f : H l = some (.lst xs)) (d : DpAll K H vs (qs.map bfD)) : DpAll K (dl [l] H) vs (qs.map bfD) :=
  dpa_kt (Kt.dl f) d (nt_map (fun _ => rfl) qs)
end
def o1 (k : Nat) : Option Str → List (Nat × Str)
  | some f => [(k, f)]
  | none => []
theorem jBlk_at' (fs : List TF) (ex : List (List R × List R)) (e : Env) (k : Nat) (s : Stm) (b : List Stm) : jBlk fs ex e k (s :: b) = o1 k (jStm fs e ex s) ++ jBlk fs ex (envS e s) (k + 1) b := by
  rw [jBlk]
  cases jStm fs e ex s <;> rfl
theorem TyN.mono {K : PySem.W.Frag} {S : List Addr} {H : Hp} {pt : Addr} {e : Env} {n n' : Nat} (h : TyN K S H pt e n) (l : n ≤ n') : TyN K S H pt e n' := by
  obtain ⟨kvs, h1, h2, h3⟩ := h
  exact ⟨kvs, h1, Nat.le_trans h2 l, h3⟩
theorem dp_l3 {K : PySem.W.Frag} {H : Hp} {v : V} {a b c : PyData} (h : Dp K H v (.list [a, b, c])) : ∃ p u w z, v = .ref p ∧ SqL K H p [u, w, z] ∧ Dp K H u a ∧ Dp K H w b ∧ Dp K H z c := by
  obtain ⟨p, ys, rfl, hT, hA⟩ := dp_lst h
  cases hA with
  | cons g1 t =>
    cases t with
    | cons g2 t =>
      cases t with
      | cons g3 t =>
        cases t
        exact ⟨p, _, _, _, rfl, hT, g1, g2, g3⟩
theorem dp_l2 {K : PySem.W.Frag} {H : Hp} {v : V} {a b : PyData} (h : Dp K H v (.list [a, b])) : ∃ p u w, v = .ref p ∧ SqL K H p [u, w] ∧ Dp K H u a ∧ Dp K H w b := by
  obtain ⟨p, ys, rfl, hT, hA⟩ := dp_lst h
  cases hA with
  | cons g1 t =>
    cases t with
    | cons g2 t =>
      cases t
      exact ⟨p, _, _, rfl, hT, g1, g2⟩
end Ver

set_option Elab.async false
set_option linter.all false
set_option maxRecDepth 100000
set_option maxHeartbeats 4000000
namespace Ver
open PySem PySem.Spec PyProof.Rows L2 Evl
/-! ## programs as they are drawn -/
def nmG (a : String) : List Str := ["u", "v", "x", "y", "z"].map fun b => Str.ofString (a ++ b)
def NM : List Str := nmG "a" ++ nmG "b" ++ nmG "c" ++ nmG "d" ++ nmG "e" ++ nmG "f" ++ nmG "g" ++ nmG "h"
theorem nm_nd : NM.Nodup := by decide +kernel
theorem nm_ok : ∀ x ∈ NM, nmO x := by
  have : NM.all (fun x => nameD (.str x)) = true := by decide +kernel
  exact fun x hx => List.all_eq_true.mp this x hx
theorem nm_fa : ("fa" : Str) ∉ NM := by decide +kernel
theorem nm_fb : ("fb" : Str) ∉ NM := by decide +kernel
theorem o_fa : nmO "fa" := by show nameD (.str "fa") = true; decide +kernel
theorem o_fb : nmO "fb" := by show nameD (.str "fb") = true; decide +kernel
theorem o_zz : nmO "zz" := by show nameD (.str "zz") = true; decide +kernel
section
variable {K : PySem.W.Frag}
/-- the names that are known, and their types -/
def Kn (xs : List Str) (e : Env) : Prop := ∀ x ∈ xs, nmO x ∧ ∃ T, e x = some T ∧ 1 ≤ T.length ∧ T.length ≤ 4
theorem Kn.put {xs : List Str} {e : Env} (h : Kn xs e) {x : Str} (o : nmO x) {T : List R} (t : 1 ≤ T.length ∧ T.length ≤ 4) : Kn (xs ++ [x]) (e.put x T) := fun y hy => by
  unfold Env.put
  by_cases c : y = x
  · rw [if_pos c, c]
    exact ⟨o, T, rfl, t⟩
  · rw [if_neg c]
    rcases List.mem_append.mp hy with hy | hy
    · exact h y hy
    · exact absurd (List.mem_singleton.mp hy) c
/-- what a drawing goes on -/
structure GS (K : PySem.W.Frag) (S : List Addr) (H : Hp) (b r pf pn pt : Addr) (fr xs : List Str) (e : Env) (n : Nat) : Prop where
  bx : Bx H b r
  f : H pf = some (.lst (fr.map V.str))
  nm : H pn = some (.lst (xs.map V.str))
  t : TyN K S H pt e n
  m : b ∈ S ∧ pf ∈ S ∧ pn ∈ S ∧ pt ∈ S
  al : Al S H
  rn : r ∉ S
  d1 : b ≠ pf ∧ b ≠ pn ∧ b ≠ pt
  d2 : pf ≠ pn ∧ pf ≠ pt ∧ pn ≠ pt
  kn : Kn xs e
  xl : xs.length ≤ n
  fo : ∀ x ∈ fr, nmO x
theorem Al.ks {S M : List Addr} {H H1 : Hp} (h : Al S H) (k : Ks M H H1) (bm : ∀ a ∈ M, H1 a ≠ none) : Al S H1 := fun a ha n => by
  by_cases c : a ∈ M
  · exact bm a c n
  · cases q : H a with
    | none => exact h a ha q
    | some o =>
      rw [k a o c q] at n
      cases n
theorem bx_some {H : Hp} {b r : Addr} (h : Bx H b r) : H b ≠ none ∧ H r ≠ none := by
  obtain ⟨n, ns, h1, h2, _⟩ := h
  rw [h1, h2]
  exact ⟨fun z => (by cases z), fun z => (by cases z)⟩
theorem Al.bx {S : List Addr} {H H1 : Hp} {b r : Addr} (h : Al S H) (k : Ks [b] H H1) (bx : Bx H1 b r) : Al S H1 := h.ks k fun a ha => by
  rw [List.mem_singleton] at ha
  rw [ha]
  exact (bx_some bx).1
theorem Al.add {S : List Addr} {H H1 : Hp} {p : Addr} {o : HO} (h : Al S H) (e : Ex H H1) (f : H1 p = some o) : Al (p :: S) H1 := (h.ex e).cons f
/-- behind a draw -/
theorem GS.draw {S : List Addr} {H H1 : Hp} {b r pf pn pt : Addr} {fr xs : List Str} {e : Env} {n : Nat} (h : GS K S H b r pf pn pt fr xs e n) (k : Ks [b] H H1) (bx : Bx H1 b r) : GS K S H1 b r pf pn pt fr xs e n where
  bx := bx
  f := k _ _ (by simpa using h.d1.1.symm) h.f
  nm := k _ _ (by simpa using h.d1.2.1.symm) h.nm
  t := h.t.ks k (fun a ha => by rw [List.mem_singleton] at ha; rw [ha]; exact h.m.1) (by simpa using h.d1.2.2.symm)
  m := h.m
  al := h.al.bx k bx
  rn := h.rn
  d1 := h.d1
  d2 := h.d2
  kn := h.kn
  xl := h.xl
  fo := h.fo
theorem GS.ex {S : List Addr} {H H1 : Hp} {b r pf pn pt : Addr} {fr xs : List Str} {e : Env} {n : Nat} (h : GS K S H b r pf pn pt fr xs e n) (k : Ex H H1) : GS K S H1 b r pf pn pt fr xs e n := h.draw (Ks.of k) (bx_ex h.bx k)
theorem GS.grow {S : List Addr} {H H1 : Hp} {b r pf pn pt p : Addr} {fr xs : List Str} {e : Env} {n : Nat} {o : HO} (h : GS K S H b r pf pn pt fr xs e n) (q : H p = none) (k : Ex H H1) (f : H1 p = some o) : GS K (p :: S) H1 b r pf pn pt fr xs e n where
  bx := bx_ex h.bx k
  f := k _ _ h.f
  nm := k _ _ h.nm
  t := h.t.grow q k
  m := ⟨List.mem_cons_of_mem _ h.m.1, List.mem_cons_of_mem _ h.m.2.1, List.mem_cons_of_mem _ h.m.2.2.1, List.mem_cons_of_mem _ h.m.2.2.2⟩
  al := h.al.add k f
  rn := nin_cons (bx_nr h.bx q) h.rn
  d1 := h.d1
  d2 := h.d2
  kn := h.kn
  xl := h.xl
  fo := h.fo
/-- what is there stays but for the four -/
abbrev M4 (b pf pn pt : Addr) : List Addr := [b, pf, pn, pt]
theorem GS.m4 {S : List Addr} {H : Hp} {b r pf pn pt : Addr} {fr xs : List Str} {e : Env} {n : Nat} (h : GS K S H b r pf pn pt fr xs e n) : ∀ a ∈ M4 b pf pn pt, a ∈ S := fun a ha => by
  obtain ⟨h1, h2, h3, h4⟩ := h.m
  simp only [List.mem_cons, List.not_mem_nil, or_false] at ha
  rcases ha with rfl | rfl | rfl | rfl <;> assumption
theorem ks_b4 {H H1 : Hp} {b pf pn pt : Addr} (k : Ks [b] H H1) : Ks (M4 b pf pn pt) H H1 := k.mono (by simp)
theorem Dp.in {S : List Addr} {H : Hp} {p : Addr} {xs : List V} {ds : List PyData} (f : H p = some (.tup xs)) (n : p ∉ S) (d : DpAll K (dl S H) xs ds) : Dp K (dl S H) (.ref p) (.tuple ds) := .tup (SqT.of (dl_at n f)) d
theorem Dp.inL {S : List Addr} {H : Hp} {p : Addr} {xs : List V} {ds : List PyData} (f : H p = some (.lst xs)) (n : p ∉ S) (d : DpAll K (dl S H) xs ds) : Dp K (dl S H) (.ref p) (.list ds) := .lst (SqL.of (dl_at n f)) d
theorem GS.pop {S : List Addr} {H : Hp} {b r pf pn pt : Addr} {x : Str} {fr xs : List Str} {e : Env} {n : Nat} (h : GS K S H b r pf pn pt (x :: fr) xs e n) : GS K S (upd H pf (.lst (fr.map V.str))) b r pf pn pt fr xs e n where
  bx := bx_ks (S := [pf]) h.bx ((Ks.refl _ _).upd (by simp)) (by simpa using h.d1.1) (fun z => h.rn (by rw [List.mem_singleton] at z; rw [z]; exact h.m.2.1))
  f := upd_same
  nm := by rw [upd_ne h.d2.1.symm]; exact h.nm
  t := h.t.ks (M := [pf]) ((Ks.refl _ _).upd (by simp)) (fun a ha => by rw [List.mem_singleton] at ha; rw [ha]; exact h.m.2.1) (by simpa using h.d2.2.1.symm)
  m := h.m
  al := h.al.upd
  rn := h.rn
  d1 := h.d1
  d2 := h.d2
  kn := h.kn
  xl := h.xl
  fo := fun y hy => h.fo y (List.mem_cons_of_mem _ hy)
/-- a new variable: names.append(x), types[x] = T -/
theorem GS.add {S M : List Addr} {H H2 : Hp} {b r pf pn pt : Addr} {x : Str} {fr xs : List Str} {e : Env} {n : Nat} {T : List R} (h : GS K S H b r pf pn pt fr xs e n) (k : Ks M H H2) (mb : b ∉ M) (mf : pf ∉ M) (mS : ∀ a ∈ M, a ∈ S) (mal : ∀ a ∈ M, H2 a ≠ none) (ft : TyN K S H2 pt (e.put x T) (n + 1)) (fn : H2 pn = some (.lst ((xs ++ [x]).map V.str)))
    (o : nmO x) (t : 1 ≤ T.length ∧ T.length ≤ 4) : GS K S H2 b r pf pn pt fr (xs ++ [x]) (e.put x T) (n + 1) where
  bx := bx_ks h.bx k mb (fun z => h.rn (mS r z))
  f := k _ _ mf h.f
  nm := fn
  t := ft
  m := h.m
  al := h.al.ks k mal
  rn := h.rn
  d1 := h.d1
  d2 := h.d2
  kn := h.kn.put o t
  xl := by rw [List.length_append]; have := h.xl; simp; omega
  fo := h.fo
theorem GS.mono {S : List Addr} {H : Hp} {b r pf pn pt : Addr} {fr xs : List Str} {e : Env} {n n' : Nat} (h : GS K S H b r pf pn pt fr xs e n) (l : n ≤ n') : GS K S H b r pf pn pt fr xs e n' where
  bx := h.bx
  f := h.f
  nm := h.nm
  t := h.t.mono l
  m := h.m
  al := h.al
  rn := h.rn
  d1 := h.d1
  d2 := h.d2
  kn := h.kn
  xl := Nat.le_trans h.xl l
  fo := h.fo
theorem GS.sub {S S' : List Addr} {H : Hp} {b r pf pn pt : Addr} {fr xs : List Str} {e : Env} {n : Nat} (h : GS K S' H b r pf pn pt fr xs e n) (s : ∀ a ∈ S, a ∈ S') (m : b ∈ S ∧ pf ∈ S ∧ pn ∈ S ∧ pt ∈ S) : GS K S H b r pf pn pt fr xs e n where
  bx := h.bx
  f := h.f
  nm := h.nm
  t := h.t.sub s
  m := m
  al := fun a ha => h.al a (s a ha)
  rn := fun z => h.rn (s r z)
  d1 := h.d1
  d2 := h.d2
  kn := h.kn
  xl := h.xl
  fo := h.fo
/-- a part of a tuple of data -/
theorem a_slFrS {S : List Addr} {H : Hp} {Q : VK} {a : Addr} {vs : List V} {n : Nat} (al : Al S H) (h : SqT K (dl S H) a vs) (k : ∀ q H1, Ex H H1 → SqT K (dl S H1) q (vs.drop n) → Q (.ref q) H1) : rSlA K (.ref a) (some (n : Int)) none H Q := by
  have e1 : HT.sIx vs.length 0 (some (n : Int)) = min n vs.length := HT.sIx_nat vs.length 0 n
  refine ⟨a, vs, rfl, ex_st h (dl_le S H), fun z => ?_, fun _ p hp => ?_⟩
  · rw [e1] at z
    refine k a H (Ex.refl H) ?_
    have : n = 0 ∨ vs.length = 0 := by have := z.1; omega
    rcases this with rfl | e
    · exact h
    · rw [List.length_eq_zero_iff.mp e] at h ⊢
      rw [List.drop_nil]
      exact h
  · have e : cutV vs (some (n : Int)) none = vs.drop n := by
      unfold cutV
      rw [e1, HT.sIx_none]
      by_cases c : n ≤ vs.length
      · rw [Nat.min_eq_left c, List.take_of_length_le (by rw [List.length_drop]; exact Nat.le_refl _)]
      · have c' : vs.length ≤ n := by omega
        rw [Nat.min_eq_right c', Nat.sub_self, List.take_zero, List.drop_eq_nil_of_le c']
    rw [e]
    exact k p _ (Ex.new hp) (SqT.of (dl_at (al.nin hp) upd_same))
theorem and_q {t u : TT} {σ : L2.St} {H : Hp} {N : Bool → Hp → Prop} {a c : Bool} (ht : ∀ M : Bool → Hp → Prop, M a H → t σ H M) (hu : ∀ M : Bool → Hp → Prop, M c H → u σ H M) (h : N (a && c) H) : tAnd t u σ H N := w_and (ht _ (by
  cases a with
  | true => exact hu _ h
  | false => exact h))
def pGSrc (K : PySem.W.Frag) : Sp := fun vs H Q _ => ∃ S b r pf pn pt g fr xs e n W, vs = [.ref b, .ref pn, .ref pt, .ref g] ∧ GS K S H b r pf pn pt fr xs e n ∧ n ≤ 200 ∧ SqT K (dl S H) g (tv W) ∧
  ∀ v s H', Ks [b] H H' → Bx H' b r → Dp K (dl S H') v (sD s) → sO s → Q v H'
def pGSt (K : PySem.W.Frag) : Sp := fun vs H Q _ => ∃ S b r pf pn pt pc fr xs e n fs cs, vs = [.ref b, .ref pf, .ref pn, .ref pt, .ref pc] ∧ GS K S H b r pf pn pt fr xs e n ∧ n ≤ 100 ∧ 1 ≤ fr.length ∧ SqL K H pc cs ∧ (pc ≠ b ∧ pc ≠ pf ∧ pc ≠ pn ∧ pc ≠ pt) ∧ DpAll K (dl S H) cs (List.map tfD fs) ∧ fs.length ≤ 10 ∧ (∀ g ∈ fs, nmO g.n ∧ g.p.length ≤ 4) ∧
  ∀ v st fr' xs' e' H', Ks (M4 b pf pn pt) H H' → GS K S H' b r pf pn pt fr' xs' e' (n + 1) → Dp K (dl S H') v (stD st) → stO st → cf fs st → fr = (lets [st]).map Prod.fst ++ fr' → Q v H'
def pGFn (K : PySem.W.Frag) : Sp := fun vs H Q _ => ∃ S b r pf pc name fr fs cs, vs = [.ref b, .ref pf, .str name, .ref pc] ∧ Bx H b r ∧ H pf = some (.lst (List.map V.str fr)) ∧ (∀ x ∈ fr, nmO x) ∧ 5 ≤ fr.length ∧ b ∈ S ∧ pf ∈ S ∧ Al S H ∧ r ∉ S ∧ b ≠ pf ∧ pc ≠ b ∧ pc ≠ pf ∧ nmO name ∧ H pc = some (.lst cs) ∧ DpAll K (dl S H) cs (List.map tfD fs) ∧ fs.length ≤ 10 ∧ (∀ g ∈ fs, nmO g.n ∧ g.p.length ≤ 4) ∧
  ∀ v tf fr' H', Ks [b, pf] H H' → Bx H' b r → H' pf = some (.lst (fr'.map V.str)) → Dp K (dl S H') v (tfD tf) → tf.n = name → FOk tf → (∀ s ∈ tf.b, cf fs s) → tf.p.length ≤ 2 → tf.b.length ≤ 3 → fr = (tf.p ++ lets tf.b).map Prod.fst ++ fr' → Q v H'
def pGPr (K : PySem.W.Frag) : Sp := fun vs H Q _ => ∃ b r most, vs = [.ref b, .int most] ∧ Bx H b r ∧ 0 ≤ most ∧ most ≤ 20 ∧
  ∀ p fs ss H', Ks [b] H H' → Bx H' b r → Dp K (dl [b] H') (.ref p) (.list [.list (List.map tfD fs), .list (List.map stD ss)]) → POk fs ss → Q (.ref p) H'
theorem Fit.snoc {f : TF} {ss : List Stm} : ∀ (r d : List TF), Fit d r [] → (∀ s ∈ f.b, cf (d ++ r) s) → (∀ s ∈ ss, cf (d ++ r ++ [f]) s) → Fit d (r ++ [f]) ss
  | [], d, _, h, k => by
    rw [List.append_nil] at h k
    exact ⟨h, k⟩
  | g :: r, d, h0, h, k => by
    refine ⟨h0.1, Fit.snoc r (d ++ [g]) h0.2 ?_ ?_⟩
    · rw [List.append_assoc]
      exact h
    · rw [List.append_assoc d [g] r]
      exact k
theorem Fit.stm {ss : List Stm} : ∀ (r d : List TF), Fit d r [] → (∀ s ∈ ss, cf (d ++ r) s) → Fit d r ss
  | [], d, _, k => by
    rw [List.append_nil] at k
    exact k
  | g :: r, d, h0, k => ⟨h0.1, Fit.stm r (d ++ [g]) h0.2 (by rw [List.append_assoc]; exact k)⟩
end
end Ver

set_option Elab.async false
set_option linter.all false
set_option maxRecDepth 100000
set_option maxHeartbeats 4000000
namespace Ver
open PySem PySem.Spec PyProof.Rows L2 Evl
/-! ## programs that are spoiled -/
abbrev rwY : PyData := .tuple [.str "rw"]
abbrev n0Y : PyData := .tuple [.str "number", .int 0]
abbrev nlY : PyData := .tuple [.str "null"]
abbrev ux0 : PyData := .tuple [.str "ux", .int 0]
abbrev bsA : List PyData := [.tuple [.str "number", .int 1001], .tuple [.str "number", .int (-1)], .tuple [.str "number", .bool true], .tuple [.str "value", .tuple [.str "ux", .int 6]], .tuple [.str "value", .tuple [.str "Ux", .int 0]], .tuple [.str "value", .str "ux"]]
abbrev bsB : List PyData := [.tuple [.str "null", .int 0], .tuple [.str "address"], .tuple [.str "copy", ux0], .str "null", .tuple [.str "value", .tuple [.str "ux", .int (-1)]]]
theorem bs_bad : ∀ d ∈ bsA ++ bsB, (stmtD (.tuple [.str "let", .str "zy", rwY, d]) = false ∧ stmtD (.tuple [.str "put", ux0, d]) = false) ∧ smD d = true := by
  have : (bsA ++ bsB).all (fun d => (!stmtD (.tuple [.str "let", .str "zy", rwY, d]) && !stmtD (.tuple [.str "put", ux0, d])) && smD d) = true := by decide +kernel
  intro d hd
  have h := List.all_eq_true.mp this d hd
  simp only [Bool.and_eq_true, Bool.not_eq_true'] at h
  exact h
abbrev bnY : List PyData := [.str "null", .str "", .str "A", .str "abcdefghi", .str "a1", .int 5]
theorem bn_bad : ∀ d ∈ bnY, stmtD (.tuple [.str "let", d, rwY, n0Y]) = false ∧ smD d = true := by
  have : bnY.all (fun d => !stmtD (.tuple [.str "let", d, rwY, n0Y]) && smD d) = true := by decide +kernel
  intro d hd
  have h := List.all_eq_true.mp this d hd
  simp only [Bool.and_eq_true, Bool.not_eq_true'] at h
  exact h
abbrev btY : List PyData := [.tuple [], .tuple [.str "rw", .str "rw", .str "rw", .str "rw", .str "rw", .str "rw", .str "rw"], .list [.str "rw"], .tuple [.str "x"], .str "rw", .none, .int 6, .int (-1), .bool true]
theorem bt_bad : ∀ d ∈ btY, stmtD (.tuple [.str "let", .str "zy", d, n0Y]) = false ∧ smD d = true := by
  have : btY.all (fun d => !stmtD (.tuple [.str "let", .str "zy", d, n0Y]) && smD d) = true := by decide +kernel
  intro d hd
  have h := List.all_eq_true.mp this d hd
  simp only [Bool.and_eq_true, Bool.not_eq_true'] at h
  exact h
abbrev beY : List PyData := [.tuple [.str "put", ux0], .tuple [.str "let", .str "zy", rwY], .tuple [.str "drop", .str "ux"], .tuple [.str "put", .str "ux", nlY], .tuple [], .list [.str "put", ux0, nlY]]
theorem be_bad : ∀ d ∈ beY, stmtD d = false ∧ smD d = true := by
  have : beY.all (fun d => !stmtD d && smD d) = true := by decide +kernel
  intro d hd
  have h := List.all_eq_true.mp this d hd
  simp only [Bool.and_eq_true, Bool.not_eq_true'] at h
  exact h
theorem pb1 {fs : List FD} {ss : List PyData} {d : PyData} (h : stmtD d = false) : progD fs (ss ++ [d]) = false := by
  unfold progD stsD
  rw [List.all_append]
  simp [h]
theorem pb2 (fs : List FD) (ss : List PyData) : progD fs (ss ++ [.tuple [.str "let", .str "zy", rwY, n0Y], .tuple [.str "let", .str "zy", .tuple [.str "r"], n0Y]]) = false := by
  have e : ss ++ [PyData.tuple [.str "let", .str "zy", rwY, n0Y], .tuple [.str "let", .str "zy", .tuple [.str "r"], n0Y]] = (ss ++ [.tuple [.str "let", .str "zy", rwY, n0Y]]) ++ [.tuple [.str "let", .str "zy", .tuple [.str "r"], n0Y]] := by rw [List.append_assoc]; rfl
  have l : letsD (ss ++ [PyData.tuple [.str "let", .str "zy", rwY, n0Y], .tuple [.str "let", .str "zy", .tuple [.str "r"], n0Y]]) = letsD ss ++ [.tuple [.str "zy", rwY]] ++ [.tuple [.str "zy", .tuple [.str "r"]]] := by
    rw [e, lets_snoc, lets_snoc]
    rfl
  have n : nodupD (namesD fs (ss ++ [PyData.tuple [.str "let", .str "zy", rwY, n0Y], .tuple [.str "let", .str "zy", .tuple [.str "r"], n0Y]])) = false := by
    refine decide_eq_false fun z => ?_
    unfold namesD declsD at z
    rw [l, List.append_assoc, ← List.append_assoc, List.map_append, ← List.append_assoc] at z
    have := (List.nodup_append.mp z).2.1
    revert this
    decide +kernel
  unfold progD
  rw [n]
  simp
theorem pb3 (fs : List FD) (ss : List PyData) : progD fs (ss ++ [.tuple [.str "let", .str "zx", rwY, n0Y], .tuple [.str "let", .str "zy", .int 0, n0Y]]) = false := by
  have e : ss ++ [PyData.tuple [.str "let", .str "zx", rwY, n0Y], .tuple [.str "let", .str "zy", .int 0, n0Y]] = (ss ++ [.tuple [.str "let", .str "zx", rwY, n0Y]]) ++ [.tuple [.str "let", .str "zy", .int 0, n0Y]] := by rw [List.append_assoc]; rfl
  have l : letsD (ss ++ [PyData.tuple [.str "let", .str "zx", rwY, n0Y], .tuple [.str "let", .str "zy", .int 0, n0Y]]) = letsD ss ++ [.tuple [.str "zx", rwY]] ++ [.tuple [.str "zy", .int 0]] := by
    rw [e, lets_snoc, lets_snoc]
    rfl
  have n : kindD (kindsD fs (ss ++ [PyData.tuple [.str "let", .str "zx", rwY, n0Y], .tuple [.str "let", .str "zy", .int 0, n0Y]])) = false := by
    unfold kindD kindsD declsD
    rw [l]
    have a1 : typD (nthD (.tuple [.str "zy", .int 0]) 1) = false := by decide +kernel
    have a2 : numD (nthD (.tuple [.str "zx", rwY]) 1) 5 = false := by decide +kernel
    simp only [List.map_append, List.all_append, List.map_cons, List.map_nil, List.all_cons, List.all_nil, a1, a2]
    simp
  unfold progD
  rw [n]
  simp
theorem pb4 (fs : List FD) (d : PyData) : progD fs (List.replicate 41 d) = false := by
  unfold progD stsD
  rw [List.length_replicate]
  simp
abbrev clY (f : Str) (s : List PyData) : PyData := .tuple [.str "call", .str f, .list s]
theorem fit1_no {kvs : Kv} {f : Str} {s : List PyData} (h : (valV kvs (Sum.inr f)).getD .non ≠ .int (s.length : Nat)) : fit1 kvs (clY f s) = false := by
  unfold fit1
  have e : fwD (clY f s) = "call" := fw_str (by simp) rfl
  rw [e]
  have z : decide ((valV kvs (Sum.inr (strD (nthD (clY f s) 1)))).getD .non = .int ((itemsD (nthD (clY f s) 2)).length : Nat)) = false := decide_eq_false h
  rw [z]
  rfl
theorem fit_no {f : Str} {s ss : List PyData} : ∀ (fs : List FD) (kvs : Kv), (valV kvs (Sum.inr f)).getD .non ≠ .int (s.length : Nat) → (∀ g ∈ fs, strD g.n ≠ f) → fitF kvs fs (ss ++ [clY f s]) = false
  | [], kvs, h, _ => by
    show fitD kvs (ss ++ [clY f s]) = false
    unfold fitD
    rw [List.all_append]
    simp [fit1_no h]
  | g :: fs, kvs, h, n => by
    show (fitD kvs g.b && fitF (putN kvs g) fs (ss ++ [clY f s])) = false
    have e : (valV (putN kvs g) (Sum.inr f)).getD .non ≠ .int (s.length : Nat) := by
      unfold putN
      rw [valV_put, if_neg (fun z => n g (List.mem_cons_self ..) (Sum.inr.inj z).symm)]
      exact h
    rw [fit_no fs _ e fun g' hg => n g' (List.mem_cons_of_mem _ hg)]
    simp
theorem fit_last {F : FD} {f : Str} {s ss : List PyData} (hf : strD F.n = f) (hl : F.p.length ≠ s.length) : ∀ (fs : List FD) (kvs : Kv), fitF kvs (fs ++ [F]) (ss ++ [clY f s]) = false
  | [], kvs => by
    show (fitD kvs F.b && fitD (putN kvs F) (ss ++ [clY f s])) = false
    have e : (valV (putN kvs F) (Sum.inr f)).getD .non ≠ .int (s.length : Nat) := by
      unfold putN
      rw [valV_put, hf, if_pos rfl]
      intro z
      have : (F.p.length : Int) = s.length := V.int.inj z
      omega
    have z : fitD (putN kvs F) (ss ++ [clY f s]) = false := by
      unfold fitD
      rw [List.all_append]
      simp [fit1_no e]
    rw [z]
    simp
  | g :: fs, kvs => by
    show (fitD kvs g.b && fitF (putN kvs g) (fs ++ [F]) (ss ++ [clY f s])) = false
    rw [fit_last hf hl fs _]
    simp
theorem pb5 {fs : List FD} {ss : List PyData} (n : ∀ g ∈ fs, strD g.n ≠ "nobody") : progD fs (ss ++ [clY "nobody" []]) = false := by
  unfold progD
  rw [fit_no fs [] (by show V.non ≠ _; intro z; cases z) n]
  simp
abbrev fzY : FD := ⟨.str "fz", [.tuple [.str "zw", rwY]], []⟩
theorem pb6 {fs : List FD} {ss s : List PyData} (h : s.length ≠ 1) : progD (fs ++ [fzY]) (ss ++ [clY "fz" s]) = false := by
  unfold progD
  rw [fit_last (F := fzY) (f := "fz") rfl (fun z => h z.symm) fs []]
  simp
abbrev f9Y (x : Str) : List FD := [⟨.str "fz", [], [clY x []]⟩, ⟨.str "fy", [], []⟩]
theorem pb9 : progD (f9Y "fz") [] = false ∧ progD (f9Y "fy") [] = false := by decide +kernel
theorem at_abcdeY {k : Nat} (h : k < 5) : atI ("abcde" : Str).cps.toList (0 + (k : Int)) = some (("abcde" : Str).cps.toList.getD k 0) := by
  rw [Int.zero_add]
  refine atI_nat ?_
  match k, h with
  | 0, _ => rfl
  | 1, _ => rfl
  | 2, _ => rfl
  | 3, _ => rfl
  | 4, _ => rfl
abbrev faY (k : Nat) : FD := ⟨.str ("f" ++ ⟨#[("abcde" : Str).cps.toList.getD k 0]⟩), [], []⟩
theorem pb10 : progD ((List.range 5).map faY) [] = false := by
  unfold progD
  simp
section
variable {K : PySem.W.Frag} {σ : L2.St} {H : Hp} {S : List Addr}
theorem ev_m1 {n : Int} : EvD K S σ H (tUn (rU fun n => .int (-n)) (tC (.int n))) (.int (-n)) := fun H0 _ Q k => ⟨n, rfl, k _ H0 (Ex.refl _) (.int (-n))⟩
theorem st_in {H1 : Hp} {q : Addr} {xs : List V} (hl : ∀ a ∈ S, ∃ vs, H1 a = some (.lst vs)) (f : SqT K H1 q xs) : SqT K (dl S H1) q xs := by
  have nq : ∀ o, H1 q = some o → (∀ vs, o ≠ .lst vs) → q ∉ S := fun o h n z => by
    obtain ⟨vs, e⟩ := hl q z
    rw [h] at e
    exact n vs (Option.some.inj e)
  rcases f with (f | ⟨o, f⟩) | f
  · exact .inl (.inl (by rw [dl_nin (nq _ f (fun _ z => by cases z))]; exact f))
  · exact .inl (.inr ⟨o, by rw [dl_nin (nq _ f (fun _ z => by cases z))]; exact f⟩)
  · exact .inr f
theorem ev_rep7 {ta : TE} {x : Str} (hl : ∀ a ∈ S, ∃ vs, H a = some (.lst vs)) (h : EvD K S σ H ta (.tuple [.str x])) : EvD K S σ H (tOp (rRepA K) ta (tC (.int 7))) (.tuple [.str x, .str x, .str x, .str x, .str x, .str x, .str x]) := fun H0 e0 Q k =>
  h H0 e0 _ fun v H1 e1 dv => by
    obtain ⟨p, u, rfl, hp, d1⟩ := dp_1 dv
    cases dp_str d1
    refine ⟨p, 7, [.str x], rfl, rfl, ex_st hp (dl_le S H1), by simp, by decide, by decide, by simp, fun q H2 e2 g => ?_⟩
    have hl2 : ∀ a ∈ S, ∃ vs, H2 a = some (.lst vs) := fun a ha => by
      obtain ⟨vs, z⟩ := hl a ha
      exact ⟨vs, e2 _ _ (e1 _ _ (e0 _ _ z))⟩
    exact k (.ref q) H2 (e1.trans e2) (.tup (st_in hl2 g) (.cons (.str _) (.cons (.str _) (.cons (.str _) (.cons (.str _) (.cons (.str _) (.cons (.str _) (.cons (.str _) .nil))))))))
def pBad (K : PySem.W.Frag) : Sp := fun vs H Q _ => ∃ S b r, vs = [.ref b] ∧ Bx H b r ∧ b ∈ S ∧ r ∉ S ∧ Al S H ∧ ∀ v d H', Ks [b] H H' → Bx H' b r → Dp K (dl S H') v d → d ∈ bsA ++ bsB → Q v H'
def pSpoil (K : PySem.W.Frag) : Sp := fun vs H Q _ => ∃ b r p fs ss, vs = [.ref b, .ref p] ∧ Bx H b r ∧ Dp K (dl [b] H) (.ref p) (.list [.list (List.map tfD fs), .list (List.map stD ss)]) ∧ POk fs ss ∧ (∀ f ∈ fs, f.n ≠ "nobody") ∧
  ∀ v fs' ss' H', Ks [b] H H' → Bx H' b r → Ds K (dl [b] H') v (.list [.list (List.map fdat fs'), .list ss']) → progD fs' ss' = false → Q v H'
def pGPrN (K : PySem.W.Frag) : Sp := fun vs H Q _ => ∃ b r most, vs = [.ref b, .int most] ∧ Bx H b r ∧ 0 ≤ most ∧ most ≤ 20 ∧
  ∀ p fs ss H', Ks [b] H H' → Bx H' b r → Dp K (dl [b] H') (.ref p) (.list [.list (List.map tfD fs), .list (List.map stD ss)]) → POk fs ss → (∀ f ∈ fs, f.n ≠ "nobody") → Q (.ref p) H'
end
end Ver

set_option Elab.async false
set_option linter.all false
set_option maxRecDepth 100000
set_option maxHeartbeats 4000000
namespace Ver
open PySem PySem.Spec PyProof.Rows L2 Evl
/-! ### the text by its places -/
def topS (i : Nat) : Stmt := PySem.Challenge.pw_rightskept_k11_programs_are_checked.main.body.getD i (.Pass ⟨0, 0, 0, 0⟩)
abbrev s_RightsError_init : Stmt := inClass (topS 1) 0
abbrev n_RightsError_init : List Str := ["self", "reason"]
abbrev p_RightsError_init : List Str := ["self", "reason"]
theorem sc_RightsError_init : FnScope n_RightsError_init p_RightsError_init (defScope s_RightsError_init) := ⟨rfl, rfl, rfl, by decide +kernel, rfl, by decide +kernel, by decide +kernel⟩
abbrev s_is_right : Stmt := topS 5
abbrev n_is_right : List Str := ["thing"]
abbrev p_is_right : List Str := ["thing"]
theorem sc_is_right : FnScope n_is_right p_is_right (defScope s_is_right) := ⟨rfl, rfl, rfl, by decide +kernel, rfl, by decide +kernel, by decide +kernel⟩
abbrev s_is_type : Stmt := topS 6
abbrev n_is_type : List Str := ["thing"]
abbrev p_is_type : List Str := ["thing"]
theorem sc_is_type : FnScope n_is_type p_is_type (defScope s_is_type) := ⟨rfl, rfl, rfl, by decide +kernel, rfl, by decide +kernel, by decide +kernel⟩
abbrev s_is_value_type : Stmt := topS 7
abbrev n_is_value_type : List Str := ["thing", "part"]
abbrev p_is_value_type : List Str := ["thing"]
theorem sc_is_value_type : FnScope n_is_value_type p_is_value_type (defScope s_is_value_type) := ⟨rfl, rfl, rfl, by decide +kernel, rfl, by decide +kernel, by decide +kernel⟩
abbrev s_is_number : Stmt := topS 14
abbrev n_is_number : List Str := ["thing", "most"]
abbrev p_is_number : List Str := ["thing", "most"]
theorem sc_is_number : FnScope n_is_number p_is_number (defScope s_is_number) := ⟨rfl, rfl, rfl, by decide +kernel, rfl, by decide +kernel, by decide +kernel⟩
abbrev s_is_name : Stmt := topS 15
abbrev n_is_name : List Str := ["thing", "sign"]
abbrev p_is_name : List Str := ["thing"]
theorem sc_is_name : FnScope n_is_name p_is_name (defScope s_is_name) := ⟨rfl, rfl, rfl, by decide +kernel, rfl, by decide +kernel, by decide +kernel⟩
abbrev s_is_depth : Stmt := topS 16
abbrev n_is_depth : List Str := ["thing"]
abbrev p_is_depth : List Str := ["thing"]
theorem sc_is_depth : FnScope n_is_depth p_is_depth (defScope s_is_depth) := ⟨rfl, rfl, rfl, by decide +kernel, rfl, by decide +kernel, by decide +kernel⟩
abbrev s_is_place : Stmt := topS 17
abbrev n_is_place : List Str := ["thing"]
abbrev p_is_place : List Str := ["thing"]
theorem sc_is_place : FnScope n_is_place p_is_place (defScope s_is_place) := ⟨rfl, rfl, rfl, by decide +kernel, rfl, by decide +kernel, by decide +kernel⟩
abbrev s_first_word : Stmt := topS 18
abbrev n_first_word : List Str := ["thing", "word"]
abbrev p_first_word : List Str := ["thing"]
theorem sc_first_word : FnScope n_first_word p_first_word (defScope s_first_word) := ⟨rfl, rfl, rfl, by decide +kernel, rfl, by decide +kernel, by decide +kernel⟩
abbrev s_is_source : Stmt := topS 19
abbrev n_is_source : List Str := ["thing", "word"]
abbrev p_is_source : List Str := ["thing"]
theorem sc_is_source : FnScope n_is_source p_is_source (defScope s_is_source) := ⟨rfl, rfl, rfl, by decide +kernel, rfl, by decide +kernel, by decide +kernel⟩
abbrev s_is_source_list : Stmt := topS 20
abbrev n_is_source_list : List Str := ["thing", "part"]
abbrev p_is_source_list : List Str := ["thing"]
theorem sc_is_source_list : FnScope n_is_source_list p_is_source_list (defScope s_is_source_list) := ⟨rfl, rfl, rfl, by decide +kernel, rfl, by decide +kernel, by decide +kernel⟩
abbrev s_is_declared : Stmt := topS 21
abbrev n_is_declared : List Str := ["thing"]
abbrev p_is_declared : List Str := ["thing"]
theorem sc_is_declared : FnScope n_is_declared p_is_declared (defScope s_is_declared) := ⟨rfl, rfl, rfl, by decide +kernel, rfl, by decide +kernel, by decide +kernel⟩
abbrev s_is_statement : Stmt := topS 22
abbrev n_is_statement : List Str := ["thing", "word"]
abbrev p_is_statement : List Str := ["thing"]
theorem sc_is_statement : FnScope n_is_statement p_is_statement (defScope s_is_statement) := ⟨rfl, rfl, rfl, by decide +kernel, rfl, by decide +kernel, by decide +kernel⟩
abbrev s_Function_init : Stmt := inClass (topS 28) 0
abbrev n_Function_init : List Str := ["self", "name", "params", "body"]
abbrev p_Function_init : List Str := ["self", "name", "params", "body"]
theorem sc_Function_init : FnScope n_Function_init p_Function_init (defScope s_Function_init) := ⟨rfl, rfl, rfl, by decide +kernel, rfl, by decide +kernel, by decide +kernel⟩
abbrev s_Program_init : Stmt := inClass (topS 29) 0
abbrev n_Program_init : List Str := ["self", "functions", "statements"]
abbrev p_Program_init : List Str := ["self", "functions", "statements"]
theorem sc_Program_init : FnScope n_Program_init p_Program_init (defScope s_Program_init) := ⟨rfl, rfl, rfl, by decide +kernel, rfl, by decide +kernel, by decide +kernel⟩
abbrev s_copied : Stmt := topS 30
abbrev n_copied : List Str := ["thing"]
abbrev p_copied : List Str := ["thing"]
theorem sc_copied : FnScope n_copied p_copied (defScope s_copied) := ⟨rfl, rfl, rfl, by decide +kernel, rfl, by decide +kernel, by decide +kernel⟩
abbrev s_copied_statement : Stmt := topS 31
abbrev n_copied_statement : List Str := ["statement", "part"]
abbrev p_copied_statement : List Str := ["statement"]
theorem sc_copied_statement : FnScope n_copied_statement p_copied_statement (defScope s_copied_statement) := ⟨rfl, rfl, rfl, by decide +kernel, rfl, by decide +kernel, by decide +kernel⟩
abbrev s_copied_statements : Stmt := topS 32
abbrev n_copied_statements : List Str := ["statements", "statement"]
abbrev p_copied_statements : List Str := ["statements"]
theorem sc_copied_statements : FnScope n_copied_statements p_copied_statements (defScope s_copied_statements) := ⟨rfl, rfl, rfl, by decide +kernel, rfl, by decide +kernel, by decide +kernel⟩
abbrev s_copied_function : Stmt := topS 33
abbrev n_copied_function : List Str := ["function"]
abbrev p_copied_function : List Str := ["function"]
theorem sc_copied_function : FnScope n_copied_function p_copied_function (defScope s_copied_function) := ⟨rfl, rfl, rfl, by decide +kernel, rfl, by decide +kernel, by decide +kernel⟩
abbrev s_copied_functions : Stmt := topS 34
abbrev n_copied_functions : List Str := ["functions", "function"]
abbrev p_copied_functions : List Str := ["functions"]
theorem sc_copied_functions : FnScope n_copied_functions p_copied_functions (defScope s_copied_functions) := ⟨rfl, rfl, rfl, by decide +kernel, rfl, by decide +kernel, by decide +kernel⟩
abbrev s_is_program : Stmt := topS 35
abbrev n_is_program : List Str := ["functions", "statements", "function"]
abbrev p_is_program : List Str := ["functions", "statements"]
theorem sc_is_program : FnScope n_is_program p_is_program (defScope s_is_program) := ⟨rfl, rfl, rfl, by decide +kernel, rfl, by decide +kernel, by decide +kernel⟩
abbrev s_is_function : Stmt := topS 36
abbrev n_is_function : List Str := ["thing", "param"]
abbrev p_is_function : List Str := ["thing"]
theorem sc_is_function : FnScope n_is_function p_is_function (defScope s_is_function) := ⟨rfl, rfl, rfl, by decide +kernel, rfl, by decide +kernel, by decide +kernel⟩
abbrev s_are_statements : Stmt := topS 37
abbrev n_are_statements : List Str := ["thing", "most", "part"]
abbrev p_are_statements : List Str := ["thing", "most"]
theorem sc_are_statements : FnScope n_are_statements p_are_statements (defScope s_are_statements) := ⟨rfl, rfl, rfl, by decide +kernel, rfl, by decide +kernel, by decide +kernel⟩
abbrev s_declared : Stmt := topS 38
abbrev n_declared : List Str := ["functions", "statements", "pairs", "function"]
abbrev p_declared : List Str := ["functions", "statements"]
theorem sc_declared : FnScope n_declared p_declared (defScope s_declared) := ⟨rfl, rfl, rfl, by decide +kernel, rfl, by decide +kernel, by decide +kernel⟩
abbrev s_declared_by_lets : Stmt := topS 39
abbrev n_declared_by_lets : List Str := ["statements", "statement"]
abbrev p_declared_by_lets : List Str := ["statements"]
theorem sc_declared_by_lets : FnScope n_declared_by_lets p_declared_by_lets (defScope s_declared_by_lets) := ⟨rfl, rfl, rfl, by decide +kernel, rfl, by decide +kernel, by decide +kernel⟩
abbrev s_all_names : Stmt := topS 40
abbrev n_all_names : List Str := ["functions", "statements", "names", "function", "name", "_"]
abbrev p_all_names : List Str := ["functions", "statements"]
theorem sc_all_names : FnScope n_all_names p_all_names (defScope s_all_names) := ⟨rfl, rfl, rfl, by decide +kernel, rfl, by decide +kernel, by decide +kernel⟩
abbrev s_all_kinds : Stmt := topS 41
abbrev n_all_kinds : List Str := ["functions", "statements", "_", "kind"]
abbrev p_all_kinds : List Str := ["functions", "statements"]
theorem sc_all_kinds : FnScope n_all_kinds p_all_kinds (defScope s_all_kinds) := ⟨rfl, rfl, rfl, by decide +kernel, rfl, by decide +kernel, by decide +kernel⟩
abbrev s_are_different : Stmt := topS 42
abbrev n_are_different : List Str := ["names"]
abbrev p_are_different : List Str := ["names"]
theorem sc_are_different : FnScope n_are_different p_are_different (defScope s_are_different) := ⟨rfl, rfl, rfl, by decide +kernel, rfl, by decide +kernel, by decide +kernel⟩
abbrev s_are_of_one_kind : Stmt := topS 43
abbrev n_are_of_one_kind : List Str := ["kinds", "kind"]
abbrev p_are_of_one_kind : List Str := ["kinds"]
theorem sc_are_of_one_kind : FnScope n_are_of_one_kind p_are_of_one_kind (defScope s_are_of_one_kind) := ⟨rfl, rfl, rfl, by decide +kernel, rfl, by decide +kernel, by decide +kernel⟩
abbrev s_all_calls_fit : Stmt := topS 44
abbrev n_all_calls_fit : List Str := ["functions", "statements", "many", "function"]
abbrev p_all_calls_fit : List Str := ["functions", "statements"]
theorem sc_all_calls_fit : FnScope n_all_calls_fit p_all_calls_fit (defScope s_all_calls_fit) := ⟨rfl, rfl, rfl, by decide +kernel, rfl, by decide +kernel, by decide +kernel⟩
abbrev s_calls_fit : Stmt := topS 45
abbrev n_calls_fit : List Str := ["statements", "many", "statement"]
abbrev p_calls_fit : List Str := ["statements", "many"]
theorem sc_calls_fit : FnScope n_calls_fit p_calls_fit (defScope s_calls_fit) := ⟨rfl, rfl, rfl, by decide +kernel, rfl, by decide +kernel, by decide +kernel⟩
abbrev s_is_sketch : Stmt := topS 46
abbrev n_is_sketch : List Str := ["program", "kinds", "kind"]
abbrev p_is_sketch : List Str := ["program"]
theorem sc_is_sketch : FnScope n_is_sketch p_is_sketch (defScope s_is_sketch) := ⟨rfl, rfl, rfl, by decide +kernel, rfl, by decide +kernel, by decide +kernel⟩
abbrev s_variables : Stmt := topS 47
abbrev n_variables : List Str := ["program", "name", "_"]
abbrev p_variables : List Str := ["program"]
theorem sc_variables : FnScope n_variables p_variables (defScope s_variables) := ⟨rfl, rfl, rfl, by decide +kernel, rfl, by decide +kernel, by decide +kernel⟩
abbrev s__law_cell : Stmt := topS 49
abbrev n__law_cell : List Str := ["script", "k"]
abbrev p__law_cell : List Str := ["script", "k"]
theorem sc__law_cell : FnScope n__law_cell p__law_cell (defScope s__law_cell) := ⟨rfl, rfl, rfl, by decide +kernel, rfl, by decide +kernel, by decide +kernel⟩
abbrev s__law_row : Stmt := topS 50
abbrev n__law_row : List Str := ["script", "first", "last", "row", "k", "cell", "turn"]
abbrev p__law_row : List Str := ["script", "first", "last"]
theorem sc__law_row : FnScope n__law_row p__law_row (defScope s__law_row) := ⟨rfl, rfl, rfl, by decide +kernel, rfl, by decide +kernel, by decide +kernel⟩
abbrev s__law_draw : Stmt := topS 51
abbrev n__law_draw : List Str := ["box", "many", "at"]
abbrev p__law_draw : List Str := ["box", "many"]
theorem sc__law_draw : FnScope n__law_draw p__law_draw (defScope s__law_draw) := ⟨rfl, rfl, rfl, by decide +kernel, rfl, by decide +kernel, by decide +kernel⟩
abbrev s__law_right : Stmt := topS 52
abbrev n__law_right : List Str := ["box"]
abbrev p__law_right : List Str := ["box"]
theorem sc__law_right : FnScope n__law_right p__law_right (defScope s__law_right) := ⟨rfl, rfl, rfl, by decide +kernel, rfl, by decide +kernel, by decide +kernel⟩
abbrev s__law_rights : Stmt := topS 53
abbrev n__law_rights : List Str := ["box", "many", "k"]
abbrev p__law_rights : List Str := ["box", "many"]
theorem sc__law_rights : FnScope n__law_rights p__law_rights (defScope s__law_rights) := ⟨rfl, rfl, rfl, by decide +kernel, rfl, by decide +kernel, by decide +kernel⟩
abbrev s__law_source : Stmt := topS 58
abbrev n__law_source : List Str := ["box", "names", "types", "value", "kind", "x", "fits", "k"]
abbrev p__law_source : List Str := ["box", "names", "types", "value"]
theorem sc__law_source : FnScope n__law_source p__law_source (defScope s__law_source) := ⟨rfl, rfl, rfl, by decide +kernel, rfl, by decide +kernel, by decide +kernel⟩
abbrev s__law_statement : Stmt := topS 59
abbrev n__law_statement : List Str := ["box", "fresh", "names", "types", "calls", "kind", "f", "x", "k", "T", "told", "param"]
abbrev p__law_statement : List Str := ["box", "fresh", "names", "types", "calls"]
theorem sc__law_statement : FnScope n__law_statement p__law_statement (defScope s__law_statement) := ⟨rfl, rfl, rfl, by decide +kernel, rfl, by decide +kernel, by decide +kernel⟩
abbrev s__law_names : Stmt := topS 60
abbrev n__law_names : List Str := ["out", "a", "b"]
abbrev p__law_names : List Str := []
theorem sc__law_names : FnScope n__law_names p__law_names (defScope s__law_names) := ⟨rfl, rfl, rfl, by decide +kernel, rfl, by decide +kernel, by decide +kernel⟩
abbrev s__law_function : Stmt := topS 61
abbrev n__law_function : List Str := ["box", "fresh", "name", "functions", "names", "types", "params", "j", "x", "body"]
abbrev p__law_function : List Str := ["box", "fresh", "name", "functions"]
theorem sc__law_function : FnScope n__law_function p__law_function (defScope s__law_function) := ⟨rfl, rfl, rfl, by decide +kernel, rfl, by decide +kernel, by decide +kernel⟩
abbrev s__law_program : Stmt := topS 62
abbrev n__law_program : List Str := ["box", "most", "fresh", "functions", "k", "names", "types"]
abbrev p__law_program : List Str := ["box", "most"]
theorem sc__law_program : FnScope n__law_program p__law_program (defScope s__law_program) := ⟨rfl, rfl, rfl, by decide +kernel, rfl, by decide +kernel, by decide +kernel⟩
abbrev s__law_made : Stmt := topS 63
abbrev n__law_made : List Str := ["p", "functions", "f"]
abbrev p__law_made : List Str := ["p"]
theorem sc__law_made : FnScope n__law_made p__law_made (defScope s__law_made) := ⟨rfl, rfl, rfl, by decide +kernel, rfl, by decide +kernel, by decide +kernel⟩
abbrev s__law_told : Stmt := topS 64
abbrev n__law_told : List Str := ["p", "made", "e", "f"]
abbrev p__law_told : List Str := ["p"]
theorem sc__law_told : FnScope n__law_told p__law_told (defScope s__law_told) := ⟨rfl, rfl, rfl, by decide +kernel, rfl, by decide +kernel, by decide +kernel⟩
abbrev s__law_bad_source : Stmt := topS 65
abbrev n__law_bad_source : List Str := ["box", "bad"]
abbrev p__law_bad_source : List Str := ["box"]
theorem sc__law_bad_source : FnScope n__law_bad_source p__law_bad_source (defScope s__law_bad_source) := ⟨rfl, rfl, rfl, by decide +kernel, rfl, by decide +kernel, by decide +kernel⟩
abbrev s__law_spoiled : Stmt := topS 66
abbrev n__law_spoiled : List Str := ["box", "p", "functions", "rows", "kind", "name", "bad", "f", "k"]
abbrev p__law_spoiled : List Str := ["box", "p"]
theorem sc__law_spoiled : FnScope n__law_spoiled p__law_spoiled (defScope s__law_spoiled) := ⟨rfl, rfl, rfl, by decide +kernel, rfl, by decide +kernel, by decide +kernel⟩
abbrev s_law : Stmt := topS 67
abbrev n_law : List Str := ["script", "box", "turn", "p", "f", "names", "made", "given", "again", "sketch", "st", "param"]
abbrev p_law : List Str := ["script"]
theorem sc_law : FnScope n_law p_law (defScope s_law) := ⟨rfl, rfl, rfl, by decide +kernel, rfl, by decide +kernel, by decide +kernel⟩
/-- where each def stands, what names mean -/
structure Df (K : PySem.W.Frag) (mg : Str → Option Value) (x : Str) (st : Stmt) (ps : List Str) (a : Addr) (fd : FuncData) : Prop where
  F : Fun K x x st a fd
  b : Binds K fd ps []
  m : mg x = some (.ref a)
structure Dm (K : PySem.W.Frag) (x q : Str) (st : Stmt) (ps : List Str) (a : Addr) (fd : FuncData) : Prop where
  F : Fun K x q st a fd
  b : Binds K fd ps []
structure Ist (K : PySem.W.Frag) (C : Addr) : Prop where
  ha : PySem.W.findIn K (.ref C) "__class__" = some (some (.builtin "object.__class__"))
  hn : PySem.W.specialIn K (.builtin "object.__class__") "__get__" = some (some (.builtin "getset_descriptor.__get__"))
  ht : PySem.W.takesIn K (.builtin "object.__class__") = some true
  hm : PySem.W.mroIn K C (.type "object") = some true
structure Tx (K : PySem.W.Frag) (mg : Str → Option Value) where
  a_RightsError_init : Addr
  e_RightsError_init : FuncData
  d_RightsError_init : Dm K "__init__" "RightsError.__init__" s_RightsError_init p_RightsError_init a_RightsError_init e_RightsError_init
  a_is_right : Addr
  e_is_right : FuncData
  d_is_right : Df K mg "is_right" s_is_right p_is_right a_is_right e_is_right
  a_is_type : Addr
  e_is_type : FuncData
  d_is_type : Df K mg "is_type" s_is_type p_is_type a_is_type e_is_type
  a_is_value_type : Addr
  e_is_value_type : FuncData
  d_is_value_type : Df K mg "is_value_type" s_is_value_type p_is_value_type a_is_value_type e_is_value_type
  a_is_number : Addr
  e_is_number : FuncData
  d_is_number : Df K mg "is_number" s_is_number p_is_number a_is_number e_is_number
  a_is_name : Addr
  e_is_name : FuncData
  d_is_name : Df K mg "is_name" s_is_name p_is_name a_is_name e_is_name
  a_is_depth : Addr
  e_is_depth : FuncData
  d_is_depth : Df K mg "is_depth" s_is_depth p_is_depth a_is_depth e_is_depth
  a_is_place : Addr
  e_is_place : FuncData
  d_is_place : Df K mg "is_place" s_is_place p_is_place a_is_place e_is_place
  a_first_word : Addr
  e_first_word : FuncData
  d_first_word : Df K mg "first_word" s_first_word p_first_word a_first_word e_first_word
  a_is_source : Addr
  e_is_source : FuncData
  d_is_source : Df K mg "is_source" s_is_source p_is_source a_is_source e_is_source
  a_is_source_list : Addr
  e_is_source_list : FuncData
  d_is_source_list : Df K mg "is_source_list" s_is_source_list p_is_source_list a_is_source_list e_is_source_list
  a_is_declared : Addr
  e_is_declared : FuncData
  d_is_declared : Df K mg "is_declared" s_is_declared p_is_declared a_is_declared e_is_declared
  a_is_statement : Addr
  e_is_statement : FuncData
  d_is_statement : Df K mg "is_statement" s_is_statement p_is_statement a_is_statement e_is_statement
  a_Function_init : Addr
  e_Function_init : FuncData
  d_Function_init : Dm K "__init__" "Function.__init__" s_Function_init p_Function_init a_Function_init e_Function_init
  a_Program_init : Addr
  e_Program_init : FuncData
  d_Program_init : Dm K "__init__" "Program.__init__" s_Program_init p_Program_init a_Program_init e_Program_init
  a_copied : Addr
  e_copied : FuncData
  d_copied : Df K mg "copied" s_copied p_copied a_copied e_copied
  a_copied_statement : Addr
  e_copied_statement : FuncData
  d_copied_statement : Df K mg "copied_statement" s_copied_statement p_copied_statement a_copied_statement e_copied_statement
  a_copied_statements : Addr
  e_copied_statements : FuncData
  d_copied_statements : Df K mg "copied_statements" s_copied_statements p_copied_statements a_copied_statements e_copied_statements
  a_copied_function : Addr
  e_copied_function : FuncData
  d_copied_function : Df K mg "copied_function" s_copied_function p_copied_function a_copied_function e_copied_function
  a_copied_functions : Addr
  e_copied_functions : FuncData
  d_copied_functions : Df K mg "copied_functions" s_copied_functions p_copied_functions a_copied_functions e_copied_functions
  a_is_program : Addr
  e_is_program : FuncData
  d_is_program : Df K mg "is_program" s_is_program p_is_program a_is_program e_is_program
  a_is_function : Addr
  e_is_function : FuncData
  d_is_function : Df K mg "is_function" s_is_function p_is_function a_is_function e_is_function
  a_are_statements : Addr
  e_are_statements : FuncData
  d_are_statements : Df K mg "are_statements" s_are_statements p_are_statements a_are_statements e_are_statements
  a_declared : Addr
  e_declared : FuncData
  d_declared : Df K mg "declared" s_declared p_declared a_declared e_declared
  a_declared_by_lets : Addr
  e_declared_by_lets : FuncData
  d_declared_by_lets : Df K mg "declared_by_lets" s_declared_by_lets p_declared_by_lets a_declared_by_lets e_declared_by_lets
  a_all_names : Addr
  e_all_names : FuncData
  d_all_names : Df K mg "all_names" s_all_names p_all_names a_all_names e_all_names
  a_all_kinds : Addr
  e_all_kinds : FuncData
  d_all_kinds : Df K mg "all_kinds" s_all_kinds p_all_kinds a_all_kinds e_all_kinds
  a_are_different : Addr
  e_are_different : FuncData
  d_are_different : Df K mg "are_different" s_are_different p_are_different a_are_different e_are_different
  a_are_of_one_kind : Addr
  e_are_of_one_kind : FuncData
  d_are_of_one_kind : Df K mg "are_of_one_kind" s_are_of_one_kind p_are_of_one_kind a_are_of_one_kind e_are_of_one_kind
  a_all_calls_fit : Addr
  e_all_calls_fit : FuncData
  d_all_calls_fit : Df K mg "all_calls_fit" s_all_calls_fit p_all_calls_fit a_all_calls_fit e_all_calls_fit
  a_calls_fit : Addr
  e_calls_fit : FuncData
  d_calls_fit : Df K mg "calls_fit" s_calls_fit p_calls_fit a_calls_fit e_calls_fit
  a_is_sketch : Addr
  e_is_sketch : FuncData
  d_is_sketch : Df K mg "is_sketch" s_is_sketch p_is_sketch a_is_sketch e_is_sketch
  a_variables : Addr
  e_variables : FuncData
  d_variables : Df K mg "variables" s_variables p_variables a_variables e_variables
  a__law_cell : Addr
  e__law_cell : FuncData
  d__law_cell : Df K mg "_law_cell" s__law_cell p__law_cell a__law_cell e__law_cell
  a__law_row : Addr
  e__law_row : FuncData
  d__law_row : Df K mg "_law_row" s__law_row p__law_row a__law_row e__law_row
  a__law_draw : Addr
  e__law_draw : FuncData
  d__law_draw : Df K mg "_law_draw" s__law_draw p__law_draw a__law_draw e__law_draw
  a__law_right : Addr
  e__law_right : FuncData
  d__law_right : Df K mg "_law_right" s__law_right p__law_right a__law_right e__law_right
  a__law_rights : Addr
  e__law_rights : FuncData
  d__law_rights : Df K mg "_law_rights" s__law_rights p__law_rights a__law_rights e__law_rights
  a__law_source : Addr
  e__law_source : FuncData
  d__law_source : Df K mg "_law_source" s__law_source p__law_source a__law_source e__law_source
  a__law_statement : Addr
  e__law_statement : FuncData
  d__law_statement : Df K mg "_law_statement" s__law_statement p__law_statement a__law_statement e__law_statement
  a__law_names : Addr
  e__law_names : FuncData
  d__law_names : Df K mg "_law_names" s__law_names p__law_names a__law_names e__law_names
  a__law_function : Addr
  e__law_function : FuncData
  d__law_function : Df K mg "_law_function" s__law_function p__law_function a__law_function e__law_function
  a__law_program : Addr
  e__law_program : FuncData
  d__law_program : Df K mg "_law_program" s__law_program p__law_program a__law_program e__law_program
  a__law_made : Addr
  e__law_made : FuncData
  d__law_made : Df K mg "_law_made" s__law_made p__law_made a__law_made e__law_made
  a__law_told : Addr
  e__law_told : FuncData
  d__law_told : Df K mg "_law_told" s__law_told p__law_told a__law_told e__law_told
  a__law_bad_source : Addr
  e__law_bad_source : FuncData
  d__law_bad_source : Df K mg "_law_bad_source" s__law_bad_source p__law_bad_source a__law_bad_source e__law_bad_source
  a__law_spoiled : Addr
  e__law_spoiled : FuncData
  d__law_spoiled : Df K mg "_law_spoiled" s__law_spoiled p__law_spoiled a__law_spoiled e__law_spoiled
  C_RightsError : Addr
  g_RightsError : mg "RightsError" = some (.ref C_RightsError)
  n_RightsError_reason : PySem.W.findIn K (.ref C_RightsError) "reason" = some none
  o_RightsError : OexC K C_RightsError
  x_RightsError : XfC K C_RightsError
  i_RightsError : PySem.W.findIn K (.ref C_RightsError) "__init__" = some (some (.ref a_RightsError_init))
  t_RightsError : PySem.W.typeIn K (.ref a_RightsError_init) = some (.type "function")
  s_RightsError : PySem.W.exmOne K (.ref C_RightsError) (.ref C_RightsError) = some true
  C_Function : Addr
  g_Function : mg "Function" = some (.ref C_Function)
  n_Function_name : PySem.W.findIn K (.ref C_Function) "name" = some none
  n_Function_params : PySem.W.findIn K (.ref C_Function) "params" = some none
  n_Function_body : PySem.W.findIn K (.ref C_Function) "body" = some none
  c_Function : Cls K C_Function
  k_Function : Mk K C_Function a_Function_init
  i_Function : Ist K C_Function
  C_Program : Addr
  g_Program : mg "Program" = some (.ref C_Program)
  n_Program_functions : PySem.W.findIn K (.ref C_Program) "functions" = some none
  n_Program_statements : PySem.W.findIn K (.ref C_Program) "statements" = some none
  c_Program : Cls K C_Program
  k_Program : Mk K C_Program a_Program_init
  i_Program : Ist K C_Program
  vV : PySem.W.findCls K (.type "ValueError") (.type "type") "__init__" = some (.val (.builtin "ValueError.__init__"))
  a_RIGHTS : Addr
  m_RIGHTS : mg "RIGHTS" = some (.ref a_RIGHTS)
  t_RIGHTS : ∀ H, SqT K H a_RIGHTS [.str "rw", .str "r", .str "w", .str "-"]
  k_MOST_RIGHTS : Tok
  m_MOST_RIGHTS : mg "MOST_RIGHTS" = some (.int 6 k_MOST_RIGHTS)
  k_SIGNS : Tok
  m_SIGNS : mg "SIGNS" = some (.str "abcdefghijklmnopqrstuvwxyz" k_SIGNS)
  k_MOST_SIGNS : Tok
  m_MOST_SIGNS : mg "MOST_SIGNS" = some (.int 8 k_MOST_SIGNS)
  k_MOST_STARS : Tok
  m_MOST_STARS : mg "MOST_STARS" = some (.int 5 k_MOST_STARS)
  k_MOST_DEPTH : Tok
  m_MOST_DEPTH : mg "MOST_DEPTH" = some (.int 5 k_MOST_DEPTH)
  k_MOST_NUMBER : Tok
  m_MOST_NUMBER : mg "MOST_NUMBER" = some (.int 1000 k_MOST_NUMBER)
  k_MOST_FUNCTIONS : Tok
  m_MOST_FUNCTIONS : mg "MOST_FUNCTIONS" = some (.int 4 k_MOST_FUNCTIONS)
  k_MOST_PARAMS : Tok
  m_MOST_PARAMS : mg "MOST_PARAMS" = some (.int 4 k_MOST_PARAMS)
  k_MOST_IN_BODY : Tok
  m_MOST_IN_BODY : mg "MOST_IN_BODY" = some (.int 12 k_MOST_IN_BODY)
  k_MOST_STATEMENTS : Tok
  m_MOST_STATEMENTS : mg "MOST_STATEMENTS" = some (.int 40 k_MOST_STATEMENTS)
  b_ValueError : mg "ValueError" = none
  b_str : mg "str" = none
  b_type : mg "type" = none
  b_len : mg "len" = none
  b_all : mg "all" = none
  b_tuple : mg "tuple" = none
  b_int : mg "int" = none
  b_list : mg "list" = none
  b_isinstance : mg "isinstance" = none
  b_set : mg "set" = none
  b_range : mg "range" = none
  b_abs : mg "abs" = none
  b_min : mg "min" = none
local macro_rules | `(tactic| walk_at "s") => `(tactic| with_reducible first
  | refine w_seq ?_ | refine w_asg ?_ | refine w_name ?_ | refine w_if ?_ | refine w_ret ?_ | refine w_drop ?_ | refine w_next ?_ | refine w_brk ?_ | refine w_cont ?_
  | (refine w_var (v := ?vv) ?hh ?_; (case hh => with_unfolding_all exact rfl))
  | refine w_c ?_ | refine w_op ?_ | refine w_un ?_ | refine w_I0 ?_ | refine w_neg ?_ | refine w_eqI ?_ | refine w_neI ?_ | refine w_eqS ?_ | refine w_neS ?_ | refine w_eqB ?_ | refine w_neB ?_
  | refine w_test ?_ | refine w_B ?_ | refine w_and ?_ | refine w_or ?_ | refine w_not ?_ | refine w_andV ?_ | refine w_orV ?_ | refine w_notV ?_ | refine w_ifE ?_ | refine w_yes ?_
  | refine w_nil ?_ | refine w_cons ?_ | refine w_CB ?_ | refine w_callN ?_ | refine w_BM ?_ | refine w_BMT ?_ | refine w_BM0 ?_ | refine w_noPart ?_ | refine w_part ?_ | refine w_sl ?_ | refine w_tup ?_ | refine w_lst ?_
  | refine w_subG ?_ | refine w_gcons ?_ | refine w_gnil ?_ | refine w_for ?_ | refine w_lc ?_ | refine w_iR1 ?_ | refine w_iR2 ?_ | refine w_iL ?_ | refine w_iT ?_ | refine w_iS ?_
  | (show ∃ k, V.bl _ = V.bl k ∧ _; refine ⟨_, rfl, ?_⟩) | (show ∃ k, V.int _ = V.int k ∧ _; refine ⟨_, rfl, ?_⟩)
  | refine iteT ?_ | refine iteF ?_ | refine iteNT ?_ | refine iteNF ?_ | refine r_S ?_ | refine c_S ?_ | refine a_abs ?_ | refine a_intI ?_ | refine a_intB ?_ | refine w_par ?_ | refine w_dK ?_ | refine w_chain ?_ | (show ∃ v w, [_, _] = [v, w] ∧ _; refine ⟨_, _, rfl, ?_⟩)
  | refine w_getF ?_ | refine w_setF ?_ | refine w_newI ?_ | refine w_callS ?_ | refine w_getD1 ?_ | refine w_putD ?_ | refine w_veI ?_ | refine w_ostI ?_ | refine w_mkO ?_ | refine w_newS ?_ | refine w_xf ?_ | refine w_dget ?_ | refine w_din ?_ | refine w_dnin ?_ | refine w_iEn ?_ | refine w_iZp ?_ | refine w_dc ?_
  | refine a_isNn ?_ | refine a_isNr ?_ | refine a_notNn ?_ | refine a_notNr ?_ | refine a_isTy ?_ | refine a_notTy ?_ | refine a_isBl ?_ | refine a_notBl ?_)
local macro_rules | `(tactic| walk_at "r") => `(tactic| repeat walk_at "s")
local macro_rules | `(tactic| walk_at "tr") => `(tactic| first
  | assumption
  | (refine ex_at (H := ?H0) ?h1 ?h2; (case h2 => assumption); (case h1 => walk_at "tr"))
  | (refine ks_at (H := ?H0) (S := ?S0) ?h1 ?h2 ?h3; (case h2 => assumption); (case h3 => walk_at "nin"); (case h1 => walk_at "tr")))
local macro_rules | `(tactic| walk_at "nin") => `(tactic| first
  | exact nin_nil | (refine nin_cons ?h1 ?h2; (case h1 => walk_at "ne"); (case h2 => walk_at "nin")))
local macro_rules | `(tactic| walk_at "ne") => `(tactic| first
  | assumption | exact Ne.symm (by assumption)
  | (refine bx_nb (H := ?H0) (r := ?r0) ?h1 ?h2; (case h2 => assumption); (case h1 => walk_at "bx"))
  | (refine bx_nr (H := ?H0) (b := ?b0) ?h1 ?h2; (case h2 => assumption); (case h1 => walk_at "bx"))
  | (refine Ne.symm (bx_nb (H := ?H0) (r := ?r0) ?h1 ?h2); (case h2 => assumption); (case h1 => walk_at "bx"))
  | (refine ne_old (H := ?H0) (o := ?o0) ?h1 ?h2; (case h2 => assumption); (case h1 => walk_at "tr"))
  | (refine Ne.symm (ne_old (H := ?H0) (o := ?o0) ?h1 ?h2); (case h2 => assumption); (case h1 => walk_at "tr"))
  | exact (Tu.ne (by assumption) (by assumption)).1 | exact (Tu.ne (by assumption) (by assumption)).2
  | (refine bx_rb (H := ?H0) ?h1; (case h1 => walk_at "bx")))
local macro_rules | `(tactic| walk_at "tu") => `(tactic| first
  | assumption
  | (refine Tu.ex (H := ?H0) ?h1 ?h2; (case h2 => assumption); (case h1 => walk_at "tu"))
  | (refine Tu.ks (H := ?H0) (S := ?S0) ?h1 ?h2 ?h3; (case h2 => assumption); (case h3 => walk_at "nin"); (case h1 => walk_at "tu")))
local macro_rules | `(tactic| walk_at "bx") => `(tactic| first
  | assumption
  | (refine bx_ex (H := ?H0) ?h1 ?h2; (case h2 => assumption); (case h1 => walk_at "bx"))
  | (refine bx_ks (H := ?H0) (S := ?S0) ?h1 ?h2 ?h3 ?h4; (case h2 => assumption); (case h3 => walk_at "nin"); (case h4 => walk_at "nin"); (case h1 => walk_at "bx")))
local macro_rules | `(tactic| walk_at "sl") => `(tactic| first
  | assumption | (refine SqL.of ?h1; (case h1 => walk_at "tr"))
  | (refine ex_sl (H := ?H0) ?h1 ?h2; (case h2 => assumption); (case h1 => walk_at "sl"))
  | (refine ks_sl (H := ?H0) (S := ?S0) ?h1 ?h2 ?h3; (case h2 => assumption); (case h3 => walk_at "nin"); (case h1 => walk_at "sl")))
local macro_rules | `(tactic| walk_at "st") => `(tactic| first
  | assumption | (refine Tu.st ?h1; (case h1 => walk_at "tu")) | (refine SqT.of ?h1; (case h1 => walk_at "tr"))
  | (refine ex_st (H := ?H0) ?h1 ?h2; (case h2 => assumption); (case h1 => walk_at "st"))
  | (refine ks_st (H := ?H0) (S := ?S0) ?h1 ?h2 ?h3; (case h2 => assumption); (case h3 => walk_at "nin"); (case h1 => walk_at "st")))
local macro_rules | `(tactic| walk_at "ex") => `(tactic| first
  | exact Ex.refl _ | assumption | (refine Ex.trans (H1 := ?H0) ?h1 ?h2; (case h2 => assumption); (case h1 => walk_at "ex")))
local macro_rules | `(tactic| walk_at "ks") => `(tactic| first
  | exact Ks.refl _ _ | assumption | (refine Ks.of ?h1; (case h1 => assumption)) | (refine Ks.trans (H1 := ?H0) ?h1 ?h2; (case h2 => first | assumption | (refine Ks.of ?h3; (case h3 => assumption))); (case h1 => walk_at "ks")))
local macro_rules | `(tactic| walk_at "dp") => `(tactic| first
  | exact Dp.str _ | exact Dp.int _ | exact Dp.bl _ | exact Dp.non | assumption | exact LsAt.dp (by assumption)
  | (refine dp_ex (H := ?H0) ?h1 ?h2; (case h1 => assumption); (case h2 => walk_at "dp")))
local macro_rules | `(tactic| walk_at "ev") => `(tactic| with_reducible first
  | exact ev_nil | refine ev_cons ?_ ?_ | exact ev_str | exact ev_int | exact ev_bl | exact ev_non
  | (refine ev_tup ?hal ?_ ?hle; (case hal => assumption); (case hle => with_unfolding_all exact Nat.le_of_ble_eq_true rfl))
  | (refine ev_ll (ev_lst ?hal ?_ ?hle); (case hal => assumption); (case hle => with_unfolding_all exact Nat.le_of_ble_eq_true rfl))
  | (refine ev_ll (ev_rep (n := ?nn) ?hal ?_ ?he ?hz); (case he => with_unfolding_all exact rfl); (case hal => assumption); (case hz => with_unfolding_all omega))
  | (refine ev_lst ?hal ?_ ?hle; (case hal => assumption); (case hle => with_unfolding_all exact Nat.le_of_ble_eq_true rfl))
  | (refine ev_lt ?he; (case he => with_unfolding_all exact rfl))
  | (refine ev_let ?hal ?_ ?hs; (case hal => assumption); (case hs => with_unfolding_all first | decide +kernel | rfl))
  | (refine ev_var (v := ?vv) ?he ?hd; (case he => with_unfolding_all exact rfl); (case hd => with_unfolding_all walk_at "dp")))

section
variable {P : Program} {w : World} {K : PySem.W.Frag} {mg : Str → Option Value} {base : Heap}
/-! ### the program: names, places, sources, statements -/
theorem ok_is_number (T : Tx K mg) : FnOk P w K mg base CX0 1 T.a_is_number T.e_is_number p_is_number (pNum K) := by
  refine T.d_is_number.F.ok sc_is_number (fun vs H Q E h => ?_) (fun cdv A outer s H vs Q E hr h => ?_)
  · obtain ⟨v, d, m, rfl, _⟩ := h
    rfl
  obtain ⟨v, d, m, rfl, hd, q⟩ := h
  refine ⟨_, (pss_one (ps_ret (pe_and (pe_cmpR k_isTy (pe_callTy (typK K) (by rfl) T.b_type (by decide +kernel) (pa_cons (pv 0) pa_nil)) (pe_bltn (v := .ty "int") (by rfl) T.b_int (by decide +kernel) rfl) (nomark _)) (pe_one (pe_chain op_le op_le pe_int (pv 0) (pv 1)))))), ?_⟩
  walk_at "r"
  refine ⟨v, _, rfl, dp_tag hd.1, ?_⟩
  walk_at "r"
  refine ite2 (fun c => ?_) (fun c => ?_)
  · obtain ⟨i, rfl, rfl⟩ := ds_int hd (of_decide_eq_true c)
    walk_at "r"
    refine ite2 (fun c1 => ?_) (fun c1 => ?_)
    · have g := q H (Ex.refl _)
      have e : numD (.int i) m = decide (i ≤ m) := by
        show (decide (0 ≤ i) && decide (i ≤ m)) = _
        rw [c1]
        rfl
      rw [e] at g
      walk_at "r"
      exact g
    · have g := q H (Ex.refl _)
      have e : numD (.int i) m = false := by
        show (decide (0 ≤ i) && decide (i ≤ m)) = _
        rw [Bool.eq_false_iff.mpr c1]
        rfl
      rw [e] at g
      exact g
  · have g := q H (Ex.refl _)
    have e : numD d m = false := by
      cases d <;> first | rfl | exact absurd rfl (not_tag c)
    rw [e] at g
    exact g
theorem ok_is_depth (T : Tx K mg) : FnOk P w K mg base CX0 2 T.a_is_depth T.e_is_depth p_is_depth (pF1 K fun d => numD d 5) := by
  refine T.d_is_depth.F.ok sc_is_depth (fun vs H Q E h => ?_) (fun cdv A outer s H vs Q E hr h => ?_)
  · obtain ⟨v, d, rfl, _⟩ := h
    rfl
  obtain ⟨v, d, rfl, hd, q⟩ := h
  refine ⟨_, (pss_one (ps_ret (pe_call (ok_is_number T) (hr.mono (by omega)) (by rfl) T.d_is_number.m T.d_is_number.F.kp T.d_is_number.b .nil pass0 (pa_cons (pv 0) (pa_cons (pe_glob (v := .int 5) (by rfl) T.m_MOST_DEPTH ⟨_, rfl⟩) pa_nil))))), ?_⟩
  walk_at "r"
  exact ⟨v, d, 5, rfl, hd, q⟩
theorem ok_is_right (T : Tx K mg) : FnOk P w K mg base CX0 1 T.a_is_right T.e_is_right p_is_right (pF1 K irD) := by
  refine T.d_is_right.F.ok sc_is_right (fun vs H Q E h => ?_) (fun cdv A outer s H vs Q E hr h => ?_)
  · obtain ⟨v, d, rfl, _⟩ := h
    rfl
  obtain ⟨v, d, rfl, hd, q⟩ := h
  refine ⟨_, (pss_one (ps_ret (pe_and (pe_cmpR k_isTy (pe_callTy (typK K) (by rfl) T.b_type (by decide +kernel) (pa_cons (pv 0) pa_nil)) (pe_bltn (v := .ty "str") (by rfl) T.b_str (by decide +kernel) rfl) (nomark _)) (pe_one (pe_cmpR (inK K) (pv 0) (pe_glob (v := .ref T.a_RIGHTS) (by rfl) T.m_RIGHTS rfl) (by rfl)))))), ?_⟩
  walk_at "r"
  refine ⟨v, _, rfl, dp_tag hd.1, ?_⟩
  walk_at "r"
  have g := q H (Ex.refl _)
  refine ite2 (fun c => ?_) (fun c => ?_)
  · obtain ⟨x, rfl, rfl, _⟩ := ds_str hd (of_decide_eq_true c)
    walk_at "r"
    exact a_inT (T.t_RIGHTS _) rfl rfl g
  · rw [irD_tag (not_tag c)] at g
    exact g
theorem ok_is_value_type (T : Tx K mg) : FnOk P w K mg base CX0 2 T.a_is_value_type T.e_is_value_type p_is_value_type (pF1 K vtyD) := by
  refine T.d_is_value_type.F.ok sc_is_value_type (fun vs H Q E h => ?_) (fun cdv A outer s H vs Q E hr h => ?_)
  · obtain ⟨v, d, rfl, _⟩ := h
    rfl
  obtain ⟨v, d, rfl, hd, q⟩ := h
  refine ⟨_, (pss_cons (ps_if (PW.pt (pw_or (pt_cmpR k_notTy (pe_callTy (typK K) (by rfl) T.b_type (by decide +kernel) (pa_cons (pv 0) pa_nil)) (pe_bltn (v := .ty "tuple") (by rfl) T.b_tuple (by decide +kernel) rfl) (nomark _)) (pw_or1 (pt_cmpR op_gt (pe_callB (lenK K) (by rfl) T.b_len PySem.boot_len (pa_cons (pv 0) pa_nil)) (pe_glob (v := .int 6) (by rfl) T.m_MOST_RIGHTS ⟨_, rfl⟩) (nomark _))))) (pss_one (ps_ret pe_bl)) pss_nil)
    (pss_one (ps_ret (pe_callB (allK K) (by rfl) T.b_all (by decide +kernel) (pa_cons (pe_lc (own := [("part", 1)]) (g := gName 1) rfl sc_is_value_type.nd  (ptK K (pv 0)) (blkOk_by (own := [("part", 1)]) (N := n_is_value_type) (sc := defScope s_is_value_type) (by decide +kernel)) (fun _ _ _ _ _ => (pg_name (i := 1) sc_is_value_type.nd rfl (Or.inl rfl))) (fun _ _ _ _ _ => pts_nil) (fun _ _ _ _ _ => (pe_call (ok_is_right T) (hr.mono (by omega)) (by rfl) T.d_is_right.m T.d_is_right.F.kp T.d_is_right.b .nil pass0 (pa_cons (pv 1) pa_nil)))) pa_nil))))), ?_⟩
  walk_at "r"
  refine ⟨v, _, rfl, dp_tag hd.1, ?_⟩
  walk_at "r"
  have g := q H (Ex.refl _)
  refine ite2 (fun c => ?_) (fun c => ?_)
  · rw [vtyD_tag (fun z => by rw [z] at c; exact absurd c (by decide))] at g
    walk_at "r"
    exact g
  · obtain ⟨p, xs, ds, rfl, rfl, hT, hD, hs, hl⟩ := ds_tup hd (Decidable.byContradiction fun z => c (by rw [decide_eq_false z]; rfl))
    change Q (.bl (vtD ds)) H at g
    walk_at "r"
    refine a_lenT hT ?_
    walk_at "r"
    refine ite2 (fun c => ?_) (fun c => ?_)
    · have := of_decide_eq_true c
      rw [vt_nil ds (by omega)] at g
      walk_at "r"
      exact g
    · have h6 : ds.length ≤ 6 := by
        have := of_decide_eq_false (nf c)
        omega
      walk_at "r"
      refine c_T hT ?_
      refine cp_tup (xs := xs) (fun l k h => Ex H h ∧ h l = some (.lst (((ds.take k).map irD).map V.bl))) (fun l n => ⟨Ex.new n, upd_same⟩) (fun l k h _ _ g => ex_st hT g.1) ?_ ?_
      · rintro l k x h nl hx ⟨e, f⟩
        obtain ⟨d, hd', dx⟩ := ds_at hD hs hx
        have hk := at_lt hx
        walk_at "r"
        refine ⟨rfl, ?_⟩
        walk_at "r"
        refine ⟨x, d, rfl, ds_ex dx e, fun H1 e1 => ?_⟩
        refine ⟨_, e1 _ _ f, sz_lt (by rw [bools_len]; omega), (e.trans e1).mut nl, ?_⟩
        rw [upd_same, bools_snoc irD hd']
      · rintro l h nl ⟨e, f⟩
        walk_at "r"
        rw [hl, List.take_length] at f
        refine ⟨l, _, rfl, SqL.of f, ?_⟩
        rw [bools_all, ← vt_all ds h6]
        exact q _ e
theorem ok_is_type (T : Tx K mg) : FnOk P w K mg base CX0 3 T.a_is_type T.e_is_type p_is_type (pF1 K typD) := by
  refine T.d_is_type.F.ok sc_is_type (fun vs H Q E h => ?_) (fun cdv A outer s H vs Q E hr h => ?_)
  · obtain ⟨v, d, rfl, _⟩ := h
    rfl
  obtain ⟨v, d, rfl, hd, q⟩ := h
  refine ⟨_, (pss_one (ps_ret (pe_and (pe_call (ok_is_value_type T) (hr.mono (by omega)) (by rfl) T.d_is_value_type.m T.d_is_value_type.F.kp T.d_is_value_type.b .nil pass0 (pa_cons (pv 0) pa_nil)) (pe_one (pe_cmpR op_gt (pe_callB (lenK K) (by rfl) T.b_len PySem.boot_len (pa_cons (pv 0) pa_nil)) pe_int (nomark _)))))), ?_⟩
  walk_at "r"
  refine ⟨v, d, rfl, hd, fun H1 e1 => ?_⟩
  have g := q H1 e1
  rw [typD_eq] at g
  walk_at "r"
  refine ite2 (fun c => ?_) (fun c => ?_)
  · obtain ⟨p, xs, ds, rfl, rfl, hT, hD, hs, hl⟩ := ds_tup hd (Decidable.byContradiction fun z => by rw [vtyD_tag z] at c; cases c)
    walk_at "r"
    refine a_lenT (ex_st hT e1) ?_
    walk_at "r"
    rw [c, Bool.true_and] at g
    have e2 : decide (0 < lenD (.tuple ds)) = decide ((0 : Int) < (xs.length : Int)) := by
      rw [hl]
      show decide (0 < ds.length) = _
      by_cases z : 0 < ds.length
      · rw [decide_eq_true z, decide_eq_true (by omega)]
      · rw [decide_eq_false z, decide_eq_false (by omega)]
    rw [e2] at g
    exact g
  · rw [nf c] at g
    exact g
theorem ok_is_name (T : Tx K mg) : FnOk P w K mg base CX0 1 T.a_is_name T.e_is_name p_is_name (pF1 K nameD) := by
  refine T.d_is_name.F.ok sc_is_name (fun vs H Q E h => ?_) (fun cdv A outer s H vs Q E hr h => ?_)
  · obtain ⟨v, d, rfl, _⟩ := h
    rfl
  obtain ⟨v, d, rfl, hd, q⟩ := h
  refine ⟨_, (pss_cons (ps_if (PW.pt (pw_or (pt_cmpR k_notTy (pe_callTy (typK K) (by rfl) T.b_type (by decide +kernel) (pa_cons (pv 0) pa_nil)) (pe_bltn (v := .ty "str") (by rfl) T.b_str (by decide +kernel) rfl) (nomark _)) (pw_or (pt_cmpR op_eq (pv 0) pe_str (nomark _)) (pw_or1 (pt_not (pt_chain op_le op_le pe_int (pe_callB k_lenS (by rfl) T.b_len PySem.boot_len (pa_cons (pv 0) pa_nil)) (pe_glob (v := .int 8) (by rfl) T.m_MOST_SIGNS ⟨_, rfl⟩))))))) (pss_one (ps_ret pe_bl)) pss_nil)
    (pss_one (ps_ret (pe_callB (allK K) (by rfl) T.b_all (by decide +kernel) (pa_cons (pe_lc (own := [("sign", 1)]) (g := gName 1) rfl sc_is_name.nd  (pi_str (pv 0)) (blkOk_by (own := [("sign", 1)]) (N := n_is_name) (sc := defScope s_is_name) (by decide +kernel)) (fun _ _ _ _ _ => (pg_name (i := 1) sc_is_name.nd rfl (Or.inl rfl))) (fun _ _ _ _ _ => pts_nil) (fun _ _ _ _ _ => (pe_cmpR k_inS (pv 1) (pe_glob (v := .str "abcdefghijklmnopqrstuvwxyz") (by rfl) T.m_SIGNS ⟨_, rfl⟩) (by rfl)))) pa_nil))))), ?_⟩
  walk_at "r"
  refine ⟨v, _, rfl, dp_tag hd.1, ?_⟩
  walk_at "r"
  have g := q H (Ex.refl _)
  refine ite2 (fun c => ?_) (fun c => ?_)
  · rw [nameD_tag (fun z => by rw [z] at c; exact absurd c (by decide))] at g
    walk_at "r"
    exact g
  · obtain ⟨x, rfl, rfl, hl⟩ := ds_str hd (Decidable.byContradiction fun z => c (by rw [decide_eq_false z]; rfl))
    change Q (.bl (!decide (x = "null") && (decide (1 ≤ x.length) && decide (x.length ≤ 8)) && x.cps.toList.all sgOk)) H at g
    walk_at "r"
    refine ite2 (fun c1 => ?_) (fun c1 => ?_)
    · walk_at "r"
      rw [c1] at g
      exact g
    · rw [nf c1] at g
      walk_at "r"
      refine a_lenS hl ?_
      walk_at "r"
      refine ite2 (fun c2 => ?_) (fun c2 => ?_)
      · walk_at "r"
        have c2' := of_decide_eq_true c2
        rw [decide_eq_true (show 1 ≤ x.length by omega)] at g
        refine ite2 (fun c3 => ?_) (fun c3 => ?_)
        · have c3' : ¬ x.length ≤ 8 := fun z => by
            rw [decide_eq_true (show (x.length : Int) ≤ 8 by omega)] at c3
            cases c3
          rw [decide_eq_false c3'] at g
          walk_at "r"
          exact g
        · have c3' : x.length ≤ 8 := Decidable.byContradiction fun z => c3 (by
            rw [decide_eq_false (show ¬ (x.length : Int) ≤ 8 by omega)]
            rfl)
          rw [decide_eq_true c3'] at g
          change Q (.bl (x.cps.toList.all sgOk)) H at g
          walk_at "r"
          refine cp_chars (z := x) (fun l k h => Ex H h ∧ h l = some (.lst (((x.cps.toList.take k).map sgOk).map V.bl))) (fun l n => ⟨Ex.new n, upd_same⟩) ?_ ?_
          · rintro l k ch h nl hx ⟨e, f⟩
            have hk : k < x.length := (Array.getElem?_eq_some_iff.mp hx).1
            walk_at "r"
            refine ⟨rfl, ?_⟩
            walk_at "r"
            refine a_inS (b := sgOk ch) rfl ?_
            refine ⟨_, f, sz_lt (by rw [List.length_map, List.length_map, List.length_take]; omega), e.mut nl, ?_⟩
            rw [upd_same, chars_snoc hx]
          · rintro l h nl ⟨e, f⟩
            walk_at "r"
            have e3 : x.cps.toList.take x.cps.size = x.cps.toList := List.take_of_length_le (by simp)
            rw [e3] at f
            refine ⟨l, _, rfl, SqL.of f, ?_⟩
            have e4 : (x.cps.toList.map sgOk).all id = x.cps.toList.all sgOk := by
              rw [List.all_map]
              rfl
            rw [e4]
            have g2 := q h e
            change Q (.bl (!decide (x = "null") && (decide (1 ≤ x.length) && decide (x.length ≤ 8)) && x.cps.toList.all sgOk)) h at g2
            rw [nf c1, decide_eq_true (show 1 ≤ x.length by omega), decide_eq_true c3'] at g2
            exact g2
      · rw [decide_eq_false (fun z : 1 ≤ x.length => c2 (decide_eq_true (by omega)))] at g
        walk_at "r"
        exact g
theorem ok_is_place (T : Tx K mg) : FnOk P w K mg base CX0 2 T.a_is_place T.e_is_place p_is_place (pF1 K placeD) := by
  refine T.d_is_place.F.ok sc_is_place (fun vs H Q E h => ?_) (fun cdv A outer s H vs Q E hr h => ?_)
  · obtain ⟨v, d, rfl, _⟩ := h
    rfl
  obtain ⟨v, d, rfl, hd, q⟩ := h
  refine ⟨_, (pss_cons (ps_if (PW.pt (pw_or (pt_cmpR k_notTy (pe_callTy (typK K) (by rfl) T.b_type (by decide +kernel) (pa_cons (pv 0) pa_nil)) (pe_bltn (v := .ty "tuple") (by rfl) T.b_tuple (by decide +kernel) rfl) (nomark _)) (pw_or1 (pt_cmpR op_ne (pe_callB (lenK K) (by rfl) T.b_len PySem.boot_len (pa_cons (pv 0) pa_nil)) pe_int (nomark _))))) (pss_one (ps_ret pe_bl)) pss_nil)
    (pss_one (ps_ret (pe_and (pe_call (ok_is_name T) (hr.mono (by omega)) (by rfl) T.d_is_name.m T.d_is_name.F.kp T.d_is_name.b .nil pass0 (pa_cons (pe_ix (ixT K) (pv 0) pe_int (fun _ _ => rfl)) pa_nil)) (pe_one (pe_call (ok_is_number T) (hr.mono (by omega)) (by rfl) T.d_is_number.m T.d_is_number.F.kp T.d_is_number.b .nil pass0 (pa_cons (pe_ix (ixT K) (pv 0) pe_int (fun _ _ => rfl)) (pa_cons (pe_glob (v := .int 5) (by rfl) T.m_MOST_STARS ⟨_, rfl⟩) pa_nil)))))))), ?_⟩
  walk_at "r"
  refine ⟨v, _, rfl, dp_tag hd.1, ?_⟩
  walk_at "r"
  have g := q H (Ex.refl _)
  refine ite2 (fun c => ?_) (fun c => ?_)
  · rw [placeD_tag (fun z => by rw [z] at c; exact absurd c (by decide))] at g
    walk_at "r"
    exact g
  · obtain ⟨p, xs, ds, rfl, rfl, hT, hD, hs, hl⟩ := ds_tup hd (Decidable.byContradiction fun z => c (by rw [decide_eq_false z]; rfl))
    have e0 : placeD (.tuple ds) = (decide (ds.length = 2) && (nameD (nthD (.tuple ds) 0) && numD (nthD (.tuple ds) 1) 5)) := rfl
    walk_at "r"
    refine a_lenT hT ?_
    walk_at "r"
    refine ite2 (fun c => ?_) (fun c => ?_)
    · have c' : ¬ ds.length = 2 := fun z => by
        rw [hl, decide_eq_true (show (ds.length : Int) = 2 by omega)] at c
        cases c
      rw [e0, decide_eq_false c'] at g
      walk_at "r"
      exact g
    · have c' : ds.length = 2 := Decidable.byContradiction fun z => c (by
        rw [hl, decide_eq_false (show ¬ (ds.length : Int) = 2 by omega)]
        rfl)
      rw [decide_eq_true c', Bool.true_and] at e0
      walk_at "r"
      refine a_nthS (i := 0) hT hD hs (by omega) fun v0 d0 => ?_
      walk_at "r"
      refine ⟨v0, _, rfl, d0, fun H1 e1 => ?_⟩
      have g1 := q H1 e1
      rw [e0] at g1
      walk_at "r"
      refine ite2 (fun k => ?_) (fun k => ?_)
      · walk_at "r"
        refine a_nthS (i := 1) (ex_st hT e1) (dpa_ex e1 hD) hs (by omega) fun v1 d1 => ?_
        walk_at "r"
        refine ⟨v1, _, 5, rfl, d1, fun H2 e2 => ?_⟩
        have g2 := q H2 (e1.trans e2)
        rw [e0, k] at g2
        exact g2
      · rw [nf k] at g1
        exact g1
def pFw (K : PySem.W.Frag) : Sp := fun vs H Q _ => ∃ v d, vs = [v] ∧ Ds K H v d ∧ RV1 (.str (fwD d)) H Q
theorem ok_first_word (T : Tx K mg) : FnOk P w K mg base CX0 1 T.a_first_word T.e_first_word p_first_word (pFw K) := by
  refine T.d_first_word.F.ok sc_first_word (fun vs H Q E h => ?_) (fun cdv A outer s H vs Q E hr h => ?_)
  · obtain ⟨v, d, rfl, _⟩ := h
    rfl
  obtain ⟨v, d, rfl, hd, q⟩ := h
  refine ⟨_, (pss_cons (ps_if (PW.pt (pw_or (pt_cmpR k_notTy (pe_callTy (typK K) (by rfl) T.b_type (by decide +kernel) (pa_cons (pv 0) pa_nil)) (pe_bltn (v := .ty "tuple") (by rfl) T.b_tuple (by decide +kernel) rfl) (nomark _)) (pw_or1 (pt_cmpR op_eq (pe_callB (lenK K) (by rfl) T.b_len PySem.boot_len (pa_cons (pv 0) pa_nil)) pe_int (nomark _))))) (pss_one (ps_ret pe_str)) pss_nil)
    (pss_cons (ps_set (i := 1) sc_first_word.nd rfl (.inl rfl) (pe_ix (ixT K) (pv 0) pe_int (fun _ _ => rfl)))
    (pss_cons (ps_if (pt_cmpR k_notTy (pe_callTy (typK K) (by rfl) T.b_type (by decide +kernel) (pa_cons (pv 1) pa_nil)) (pe_bltn (v := .ty "str") (by rfl) T.b_str (by decide +kernel) rfl) (nomark _)) (pss_one (ps_ret pe_str)) pss_nil)
    (pss_one (ps_ret (pv 1)))))), ?_⟩
  walk_at "r"
  refine ⟨v, _, rfl, dp_tag hd.1, ?_⟩
  walk_at "r"
  have g := q H (Ex.refl _)
  refine ite2 (fun c => ?_) (fun c => ?_)
  · rw [fw_no (.inl (fun z => by rw [z] at c; exact absurd c (by decide)))] at g
    walk_at "r"
    exact g
  · obtain ⟨p, xs, ds, rfl, rfl, hT, hD, hs, hl⟩ := ds_tup hd (Decidable.byContradiction fun z => c (by rw [decide_eq_false z]; rfl))
    walk_at "r"
    refine a_lenT hT ?_
    walk_at "r"
    refine ite2 (fun c => ?_) (fun c => ?_)
    · have c' := of_decide_eq_true c
      rw [fw_no (d := .tuple ds) (.inr (.inl (show ds.length = 0 by omega)))] at g
      walk_at "r"
      exact g
    · have c' : 0 < ds.length := by
        have := of_decide_eq_false (nf c)
        omega
      walk_at "r"
      refine a_nthS (i := 0) hT hD hs (by omega) fun v0 d0 => ?_
      walk_at "r"
      refine ⟨v0, _, rfl, dp_tag d0.1, ?_⟩
      walk_at "r"
      refine ite2 (fun c => ?_) (fun c => ?_)
      · rw [fw_no (.inr (.inr (fun z => by rw [z] at c; exact absurd c (by decide))))] at g
        walk_at "r"
        exact g
      · obtain ⟨x, rfl, ex, _⟩ := ds_str d0 (Decidable.byContradiction fun z => c (by rw [decide_eq_false z]; rfl))
        rw [fw_str c' ex] at g
        walk_at "r"
        exact g
theorem word_tup {H : Hp} {v : V} {d : PyData} (h : Ds K H v d) (n : fwD d ≠ "") : ∃ p xs ds, v = .ref p ∧ d = .tuple ds ∧ SqT K H p xs ∧ DpAll K H xs ds ∧ smAll ds = true ∧ xs.length = ds.length := by
  obtain ⟨ds, e, _⟩ := fw_ne n
  exact ds_tup h (by rw [e]; rfl)
theorem dec_len {xs : List V} {ds : List PyData} (h : xs.length = ds.length) (n : Nat) (m : Int) (e : m = (n : Int)) : decide ((xs.length : Int) = m) = decide (lenD (.tuple ds) = n) := by
  show _ = decide (ds.length = n)
  subst e
  rw [h]
  by_cases z : ds.length = n
  · rw [decide_eq_true z, decide_eq_true (by omega)]
  · rw [decide_eq_false z, decide_eq_false (by omega)]
theorem ok_is_source (T : Tx K mg) : FnOk P w K mg base CX0 3 T.a_is_source T.e_is_source p_is_source (pF1 K srcD) := by
  refine T.d_is_source.F.ok sc_is_source (fun vs H Q E h => ?_) (fun cdv A outer s H vs Q E hr h => ?_)
  · obtain ⟨v, d, rfl, _⟩ := h
    rfl
  obtain ⟨v, d, rfl, hd, q⟩ := h
  refine ⟨_, (pss_cons (ps_set (i := 1) sc_is_source.nd rfl (.inl rfl) (pe_call (ok_first_word T) (hr.mono (by omega)) (by rfl) T.d_first_word.m T.d_first_word.F.kp T.d_first_word.b .nil pass0 (pa_cons (pv 0) pa_nil)))
    (pss_cons (ps_if (pt_cmpR op_eq (pv 1) pe_str (nomark _)) (pss_one (ps_ret (pe_cmpR op_eq (pe_callB (lenK K) (by rfl) T.b_len PySem.boot_len (pa_cons (pv 0) pa_nil)) pe_int (nomark _)))) pss_nil)
    (pss_cons (ps_if (pt_cmpR op_eq (pv 1) pe_str (nomark _)) (pss_one (ps_ret (pe_and (pe_cmpR op_eq (pe_callB (lenK K) (by rfl) T.b_len PySem.boot_len (pa_cons (pv 0) pa_nil)) pe_int (nomark _)) (pe_one (pe_call (ok_is_number T) (hr.mono (by omega)) (by rfl) T.d_is_number.m T.d_is_number.F.kp T.d_is_number.b .nil pass0 (pa_cons (pe_ix (ixT K) (pv 0) pe_int (fun _ _ => rfl)) (pa_cons (pe_glob (v := .int 1000) (by rfl) T.m_MOST_NUMBER ⟨_, rfl⟩) pa_nil))))))) pss_nil)
    (pss_one (ps_ret (pe_and (pe_cmpR (inK K) (pv 1) (pe_tup (pa_cons pe_str (pa_cons pe_str pa_nil))) (by rfl)) (pe_and (pe_cmpR op_eq (pe_callB (lenK K) (by rfl) T.b_len PySem.boot_len (pa_cons (pv 0) pa_nil)) pe_int (nomark _)) (pe_one (pe_call (ok_is_place T) (hr.mono (by omega)) (by rfl) T.d_is_place.m T.d_is_place.F.kp T.d_is_place.b .nil pass0 (pa_cons (pe_ix (ixT K) (pv 0) pe_int (fun _ _ => rfl)) pa_nil)))))))))), ?_⟩
  walk_at "r"
  refine ⟨v, d, rfl, hd, fun H1 e1 => ?_⟩
  have g := q H1 e1
  unfold srcD at g
  walk_at "r"
  refine ite2 (fun c => ?_) (fun c => ?_)
  · have c' := of_decide_eq_true c
    obtain ⟨p, xs, ds, rfl, rfl, hT, hD, hs, hl⟩ := word_tup hd (by rw [c']; decide)
    rw [if_pos c'] at g
    walk_at "r"
    refine a_lenT (ex_st hT e1) ?_
    walk_at "r"
    rw [← dec_len hl 1 1 rfl] at g
    exact g
  have c' := of_decide_eq_false (nf c)
  rw [if_neg c'] at g
  walk_at "r"
  refine ite2 (fun c2 => ?_) (fun c2 => ?_)
  · have c2' := of_decide_eq_true c2
    obtain ⟨p, xs, ds, rfl, rfl, hT, hD, hs, hl⟩ := word_tup hd (by rw [c2']; decide)
    rw [if_pos c2', ← dec_len hl 2 2 rfl] at g
    walk_at "r"
    refine a_lenT (ex_st hT e1) ?_
    walk_at "r"
    refine ite2 (fun k => ?_) (fun k => ?_)
    · rw [k, Bool.true_and] at g
      have h2 : ds.length = 2 := by
        have := of_decide_eq_true k
        omega
      walk_at "r"
      refine a_nthS (i := 1) (ex_st hT e1) (dpa_ex e1 hD) hs (by omega) fun v1 d1 => ?_
      walk_at "r"
      refine ⟨v1, _, 1000, rfl, d1, fun H2 e2 => ?_⟩
      have g2 := q H2 (e1.trans e2)
      unfold srcD at g2
      rw [if_neg c', if_pos c2', ← dec_len hl 2 2 rfl, k, Bool.true_and] at g2
      exact g2
    · rw [nf k] at g
      exact g
  have c2' := of_decide_eq_false (nf c2)
  rw [if_neg c2'] at g
  walk_at "r"
  refine new_tup (by simp) fun t H2 n2 e2 f2 => ?_
  walk_at "r"
  refine a_inT (SqT.of f2) rfl rfl ?_
  have g2 := q H2 (e1.trans e2)
  unfold srcD at g2
  rw [if_neg c', if_neg c2'] at g2
  walk_at "r"
  refine ite2 (fun k => ?_) (fun k => ?_)
  · have n0 : fwD d ≠ "" := fun z => by
      rw [z] at k
      exact absurd k (by decide)
    obtain ⟨p, xs, ds, rfl, rfl, hT, hD, hs, hl⟩ := word_tup hd n0
    rw [k, Bool.true_and, ← dec_len hl 2 2 rfl] at g2
    walk_at "r"
    refine a_lenT (ex_st hT (e1.trans e2)) ?_
    walk_at "r"
    refine ite2 (fun k2 => ?_) (fun k2 => ?_)
    · have h2 : ds.length = 2 := by
        have := of_decide_eq_true k2
        omega
      walk_at "r"
      refine a_nthS (i := 1) (ex_st hT (e1.trans e2)) (dpa_ex (e1.trans e2) hD) hs (by omega) fun v1 d1 => ?_
      walk_at "r"
      refine ⟨v1, _, rfl, d1, fun H3 e3 => ?_⟩
      have g3 := q H3 ((e1.trans e2).trans e3)
      unfold srcD at g3
      rw [if_neg c', if_neg c2', k, Bool.true_and, ← dec_len hl 2 2 rfl, k2, Bool.true_and] at g3
      exact g3
    · rw [nf k2] at g2
      exact g2
  · rw [nf k] at g2
    exact g2
theorem ok_is_source_list (T : Tx K mg) : FnOk P w K mg base CX0 4 T.a_is_source_list T.e_is_source_list p_is_source_list (pF1 K srcsD) := by
  refine T.d_is_source_list.F.ok sc_is_source_list (fun vs H Q E h => ?_) (fun cdv A outer s H vs Q E hr h => ?_)
  · obtain ⟨v, d, rfl, _⟩ := h
    rfl
  obtain ⟨v, d, rfl, hd, q⟩ := h
  refine ⟨_, (pss_one (ps_ret (pe_and (pe_cmpR k_isTy (pe_callTy (typK K) (by rfl) T.b_type (by decide +kernel) (pa_cons (pv 0) pa_nil)) (pe_bltn (v := .ty "list") (by rfl) T.b_list (by decide +kernel) rfl) (nomark _)) (pe_one (pe_callB (allK K) (by rfl) T.b_all (by decide +kernel) (pa_cons (pe_lc (own := [("part", 1)]) (g := gName 1) rfl sc_is_source_list.nd  (plK K (pv 0)) (blkOk_by (own := [("part", 1)]) (N := n_is_source_list) (sc := defScope s_is_source_list) (by decide +kernel)) (fun _ _ _ _ _ => (pg_name (i := 1) sc_is_source_list.nd rfl (Or.inl rfl))) (fun _ _ _ _ _ => pts_nil) (fun _ _ _ _ _ => (pe_call (ok_is_source T) (hr.mono (by omega)) (by rfl) T.d_is_source.m T.d_is_source.F.kp T.d_is_source.b .nil pass0 (pa_cons (pv 1) pa_nil)))) pa_nil)))))), ?_⟩
  walk_at "r"
  refine ⟨v, _, rfl, dp_tag hd.1, ?_⟩
  walk_at "r"
  have g := q H (Ex.refl _)
  refine ite2 (fun c => ?_) (fun c => ?_)
  · obtain ⟨p, xs, ds, rfl, rfl, hL, hD, hs, hz, hl⟩ := ds_lst hd (of_decide_eq_true c)
    walk_at "r"
    refine c_L hL ?_
    refine cp_list (xs := xs) (fun l k h => Ex H h ∧ h l = some (.lst (((ds.take k).map srcD).map V.bl))) (fun l n => ⟨Ex.new n, upd_same⟩) (fun l k h _ _ g => ex_sl hL g.1) ?_ ?_
    · rintro l k x h nl hx ⟨e, f⟩
      obtain ⟨d, hd', dx⟩ := ds_at hD hs hx
      have hk := at_lt hx
      walk_at "r"
      refine ⟨rfl, ?_⟩
      walk_at "r"
      refine ⟨x, d, rfl, ds_ex dx e, fun H1 e1 => ?_⟩
      refine ⟨_, e1 _ _ f, sz_lt (by rw [bools_len]; omega), (e.trans e1).mut nl, ?_⟩
      rw [upd_same, bools_snoc srcD hd']
    · rintro l h nl ⟨e, f⟩
      walk_at "r"
      rw [hl, List.take_length] at f
      refine ⟨l, _, rfl, SqL.of f, ?_⟩
      rw [bools_all]
      exact q _ e
  · rw [srcsD_tag (not_tag c)] at g
    exact g
theorem ok_is_declared (T : Tx K mg) : FnOk P w K mg base CX0 4 T.a_is_declared T.e_is_declared p_is_declared (pF1 K declD) := by
  refine T.d_is_declared.F.ok sc_is_declared (fun vs H Q E h => ?_) (fun cdv A outer s H vs Q E hr h => ?_)
  · obtain ⟨v, d, rfl, _⟩ := h
    rfl
  obtain ⟨v, d, rfl, hd, q⟩ := h
  refine ⟨_, (pss_cons (ps_if (PW.pt (pw_or (pt_cmpR k_notTy (pe_callTy (typK K) (by rfl) T.b_type (by decide +kernel) (pa_cons (pv 0) pa_nil)) (pe_bltn (v := .ty "tuple") (by rfl) T.b_tuple (by decide +kernel) rfl) (nomark _)) (pw_or1 (pt_cmpR op_ne (pe_callB (lenK K) (by rfl) T.b_len PySem.boot_len (pa_cons (pv 0) pa_nil)) pe_int (nomark _))))) (pss_one (ps_ret pe_bl)) pss_nil)
    (pss_one (ps_ret (pe_and (pe_call (ok_is_name T) (hr.mono (by omega)) (by rfl) T.d_is_name.m T.d_is_name.F.kp T.d_is_name.b .nil pass0 (pa_cons (pe_ix (ixT K) (pv 0) pe_int (fun _ _ => rfl)) pa_nil)) (pe_one (pe_or (pe_call (ok_is_type T) (hr.mono (by omega)) (by rfl) T.d_is_type.m T.d_is_type.F.kp T.d_is_type.b .nil pass0 (pa_cons (pe_ix (ixT K) (pv 0) pe_int (fun _ _ => rfl)) pa_nil)) (pe_one (pe_call (ok_is_depth T) (hr.mono (by omega)) (by rfl) T.d_is_depth.m T.d_is_depth.F.kp T.d_is_depth.b .nil pass0 (pa_cons (pe_ix (ixT K) (pv 0) pe_int (fun _ _ => rfl)) pa_nil))))))))), ?_⟩
  walk_at "r"
  refine ⟨v, _, rfl, dp_tag hd.1, ?_⟩
  walk_at "r"
  have g := q H (Ex.refl _)
  refine ite2 (fun c => ?_) (fun c => ?_)
  · rw [declD_tag (fun z => by rw [z] at c; exact absurd c (by decide))] at g
    walk_at "r"
    exact g
  · obtain ⟨p, xs, ds, rfl, rfl, hT, hD, hs, hl⟩ := ds_tup hd (Decidable.byContradiction fun z => c (by rw [decide_eq_false z]; rfl))
    have e0 : declD (.tuple ds) = (decide (ds.length = 2) && (nameD (nthD (.tuple ds) 0) && (typD (nthD (.tuple ds) 1) || numD (nthD (.tuple ds) 1) 5))) := rfl
    walk_at "r"
    refine a_lenT hT ?_
    walk_at "r"
    refine ite2 (fun c => ?_) (fun c => ?_)
    · have c' : ¬ ds.length = 2 := fun z => by
        rw [hl, decide_eq_true (show (ds.length : Int) = 2 by omega)] at c
        cases c
      rw [e0, decide_eq_false c'] at g
      walk_at "r"
      exact g
    · have c' : ds.length = 2 := Decidable.byContradiction fun z => c (by
        rw [hl, decide_eq_false (show ¬ (ds.length : Int) = 2 by omega)]
        rfl)
      rw [decide_eq_true c', Bool.true_and] at e0
      walk_at "r"
      refine a_nthS (i := 0) hT hD hs (by omega) fun v0 d0 => ?_
      walk_at "r"
      refine ⟨v0, _, rfl, d0, fun H1 e1 => ?_⟩
      have g1 := q H1 e1
      rw [e0] at g1
      walk_at "r"
      refine ite2 (fun k => ?_) (fun k => ?_)
      · walk_at "r"
        refine a_nthS (i := 1) (ex_st hT e1) (dpa_ex e1 hD) hs (by omega) fun v1 d1 => ?_
        walk_at "r"
        refine ⟨v1, _, rfl, d1, fun H2 e2 => ?_⟩
        have g2 := q H2 (e1.trans e2)
        rw [e0, k] at g2
        walk_at "r"
        refine ite2 (fun k2 => ?_) (fun k2 => ?_)
        · rw [k2] at g2
          exact g2
        · rw [nf k2] at g2
          walk_at "r"
          refine a_nthS (i := 1) (ex_st hT (e1.trans e2)) (dpa_ex (e1.trans e2) hD) hs (by omega) fun v2 d2 => ?_
          walk_at "r"
          refine ⟨v2, _, rfl, d2, fun H3 e3 => ?_⟩
          have g3 := q H3 ((e1.trans e2).trans e3)
          rw [e0, k, nf k2] at g3
          exact g3
      · rw [nf k] at g1
        exact g1
theorem ok_is_statement (T : Tx K mg) : FnOk P w K mg base CX0 5 T.a_is_statement T.e_is_statement p_is_statement (pF1 K stmtD) := by
  refine T.d_is_statement.F.ok sc_is_statement (fun vs H Q E h => ?_) (fun cdv A outer s H vs Q E hr h => ?_)
  · obtain ⟨v, d, rfl, _⟩ := h
    rfl
  obtain ⟨v, d, rfl, hd, q⟩ := h
  refine ⟨_, (pss_cons (ps_set (i := 1) sc_is_statement.nd rfl (.inl rfl) (pe_call (ok_first_word T) (hr.mono (by omega)) (by rfl) T.d_first_word.m T.d_first_word.F.kp T.d_first_word.b .nil pass0 (pa_cons (pv 0) pa_nil)))
    (pss_cons (ps_if (pt_cmpR op_eq (pv 1) pe_str (nomark _)) (pss_one (ps_ret (pe_and (pe_cmpR op_eq (pe_callB (lenK K) (by rfl) T.b_len PySem.boot_len (pa_cons (pv 0) pa_nil)) pe_int (nomark _)) (pe_and (pe_call (ok_is_declared T) (hr.mono (by omega)) (by rfl) T.d_is_declared.m T.d_is_declared.F.kp T.d_is_declared.b .nil pass0 (pa_cons (pe_slice (slA K) (pv 0) (po_some pe_int) (po_some pe_int)) pa_nil)) (pe_one (pe_call (ok_is_source T) (hr.mono (by omega)) (by rfl) T.d_is_source.m T.d_is_source.F.kp T.d_is_source.b .nil pass0 (pa_cons (pe_ix (ixT K) (pv 0) pe_int (fun _ _ => rfl)) pa_nil))))))) pss_nil)
    (pss_cons (ps_if (pt_cmpR op_eq (pv 1) pe_str (nomark _)) (pss_one (ps_ret (pe_and (pe_cmpR op_eq (pe_callB (lenK K) (by rfl) T.b_len PySem.boot_len (pa_cons (pv 0) pa_nil)) pe_int (nomark _)) (pe_and (pe_call (ok_is_place T) (hr.mono (by omega)) (by rfl) T.d_is_place.m T.d_is_place.F.kp T.d_is_place.b .nil pass0 (pa_cons (pe_ix (ixT K) (pv 0) pe_int (fun _ _ => rfl)) pa_nil)) (pe_one (pe_call (ok_is_source T) (hr.mono (by omega)) (by rfl) T.d_is_source.m T.d_is_source.F.kp T.d_is_source.b .nil pass0 (pa_cons (pe_ix (ixT K) (pv 0) pe_int (fun _ _ => rfl)) pa_nil))))))) pss_nil)
    (pss_one (ps_ret (pe_and (pe_cmpR op_eq (pv 1) pe_str (nomark _)) (pe_and (pe_cmpR op_eq (pe_callB (lenK K) (by rfl) T.b_len PySem.boot_len (pa_cons (pv 0) pa_nil)) pe_int (nomark _)) (pe_and (pe_call (ok_is_name T) (hr.mono (by omega)) (by rfl) T.d_is_name.m T.d_is_name.F.kp T.d_is_name.b .nil pass0 (pa_cons (pe_ix (ixT K) (pv 0) pe_int (fun _ _ => rfl)) pa_nil)) (pe_one (pe_call (ok_is_source_list T) (hr.mono (by omega)) (by rfl) T.d_is_source_list.m T.d_is_source_list.F.kp T.d_is_source_list.b .nil pass0 (pa_cons (pe_ix (ixT K) (pv 0) pe_int (fun _ _ => rfl)) pa_nil))))))))))), ?_⟩
  walk_at "r"
  refine ⟨v, d, rfl, hd, fun H1 e1 => ?_⟩
  walk_at "r"
  have g := q H1 e1
  unfold stmtD at g
  refine ite2 (fun c => ?_) (fun c => ?_)
  · have c' := of_decide_eq_true c
    have es : stmtD d = (decide (lenD d = 4) && (declD (cut13 d) && srcD (nthD d 3))) := by
      unfold stmtD
      rw [if_pos c']
    rw [if_pos c'] at g
    obtain ⟨p, xs, ds, rfl, rfl, hT, hD, hs, hl⟩ := word_tup hd (by rw [c']; decide)
    walk_at "r"
    refine a_lenT (ex_st hT e1) ?_
    walk_at "r"
    rw [← dec_len hl 4 4 rfl] at g
    refine ite2 (fun k => ?_) (fun k => ?_)
    · rw [← dec_len hl 4 4 rfl, k, Bool.true_and] at es
      have h4 : ds.length = 4 := by
        have := of_decide_eq_true k
        omega
      walk_at "r"
      refine a_sl13 (ex_st hT e1) (by omega) fun t H2 _ e2 f2 => ?_
      walk_at "r"
      refine ⟨.ref t, cut13 (.tuple ds), rfl, ⟨.tup (SqT.of f2) (dpa_ex (e1.trans e2) (dpa_take 2 (dpa_drop 1 hD))), sm_tup (sm_take 2 (sm_drop 1 hs)) (by rw [List.length_take]; omega)⟩, fun H3 e3 => ?_⟩
      have e13 := (e1.trans e2).trans e3
      have g3 := q H3 e13
      rw [es] at g3
      walk_at "r"
      refine ite2 (fun k2 => ?_) (fun k2 => ?_)
      · walk_at "r"
        refine a_nthS (i := 3) (ex_st hT e13) (dpa_ex e13 hD) hs (by omega) fun v1 d1 => ?_
        walk_at "r"
        refine ⟨v1, _, rfl, d1, fun H4 e4 => ?_⟩
        have g4 := q H4 (e13.trans e4)
        rw [es, k2, Bool.true_and] at g4
        exact g4
      · rw [nf k2] at g3
        exact g3
    · rw [nf k] at g
      exact g
  have c' := of_decide_eq_false (nf c)
  rw [if_neg c'] at g
  walk_at "r"
  refine ite2 (fun c2 => ?_) (fun c2 => ?_)
  · have c2' := of_decide_eq_true c2
    have es : stmtD d = (decide (lenD d = 3) && (placeD (nthD d 1) && srcD (nthD d 2))) := by
      unfold stmtD
      rw [if_neg c', if_pos c2']
    rw [if_pos c2'] at g
    obtain ⟨p, xs, ds, rfl, rfl, hT, hD, hs, hl⟩ := word_tup hd (by rw [c2']; decide)
    walk_at "r"
    refine a_lenT (ex_st hT e1) ?_
    walk_at "r"
    rw [← dec_len hl 3 3 rfl] at g
    refine ite2 (fun k => ?_) (fun k => ?_)
    · rw [← dec_len hl 3 3 rfl, k, Bool.true_and] at es
      have h3 : ds.length = 3 := by
        have := of_decide_eq_true k
        omega
      walk_at "r"
      refine a_nthS (i := 1) (ex_st hT e1) (dpa_ex e1 hD) hs (by omega) fun v1 d1 => ?_
      walk_at "r"
      refine ⟨v1, _, rfl, d1, fun H2 e2 => ?_⟩
      have e12 := e1.trans e2
      have g2 := q H2 e12
      rw [es] at g2
      walk_at "r"
      refine ite2 (fun k2 => ?_) (fun k2 => ?_)
      · walk_at "r"
        refine a_nthS (i := 2) (ex_st hT e12) (dpa_ex e12 hD) hs (by omega) fun v2 d2 => ?_
        walk_at "r"
        refine ⟨v2, _, rfl, d2, fun H4 e4 => ?_⟩
        have g4 := q H4 (e12.trans e4)
        rw [es, k2, Bool.true_and] at g4
        exact g4
      · rw [nf k2] at g2
        exact g2
    · rw [nf k] at g
      exact g
  have c2' := of_decide_eq_false (nf c2)
  have es : stmtD d = (decide (fwD d = "call") && (decide (lenD d = 3) && (nameD (nthD d 1) && srcsD (nthD d 2)))) := by
    unfold stmtD
    rw [if_neg c', if_neg c2']
  rw [if_neg c2'] at g
  walk_at "r"
  refine ite2 (fun c3 => ?_) (fun c3 => ?_)
  · have c3' := of_decide_eq_true c3
    obtain ⟨p, xs, ds, rfl, rfl, hT, hD, hs, hl⟩ := word_tup hd (by rw [c3']; decide)
    rw [c3, Bool.true_and, ← dec_len hl 3 3 rfl] at es g
    walk_at "r"
    refine a_lenT (ex_st hT e1) ?_
    walk_at "r"
    refine ite2 (fun k => ?_) (fun k => ?_)
    · rw [k, Bool.true_and] at es
      have h3 : ds.length = 3 := by
        have := of_decide_eq_true k
        omega
      walk_at "r"
      refine a_nthS (i := 1) (ex_st hT e1) (dpa_ex e1 hD) hs (by omega) fun v1 d1 => ?_
      walk_at "r"
      refine ⟨v1, _, rfl, d1, fun H2 e2 => ?_⟩
      have e12 := e1.trans e2
      have g2 := q H2 e12
      rw [es] at g2
      walk_at "r"
      refine ite2 (fun k2 => ?_) (fun k2 => ?_)
      · walk_at "r"
        refine a_nthS (i := 2) (ex_st hT e12) (dpa_ex e12 hD) hs (by omega) fun v2 d2 => ?_
        walk_at "r"
        refine ⟨v2, _, rfl, d2, fun H4 e4 => ?_⟩
        have g4 := q H4 (e12.trans e4)
        rw [es, k2, Bool.true_and] at g4
        exact g4
      · rw [nf k2] at g2
        exact g2
    · rw [nf k] at g
      exact g
  · rw [nf c3] at g
    exact g

end
end Ver

set_option Elab.async false
set_option linter.all false
set_option maxRecDepth 100000
set_option maxHeartbeats 4000000
namespace Ver
open PySem PySem.Spec PyProof.Rows L2 Evl
local macro_rules | `(tactic| walk_at "s") => `(tactic| with_reducible first
  | refine w_seq ?_ | refine w_asg ?_ | refine w_name ?_ | refine w_if ?_ | refine w_ret ?_ | refine w_drop ?_ | refine w_next ?_ | refine w_brk ?_ | refine w_cont ?_
  | (refine w_var (v := ?vv) ?hh ?_; (case hh => with_unfolding_all exact rfl))
  | refine w_c ?_ | refine w_op ?_ | refine w_un ?_ | refine w_I0 ?_ | refine w_neg ?_ | refine w_eqI ?_ | refine w_neI ?_ | refine w_eqS ?_ | refine w_neS ?_ | refine w_eqB ?_ | refine w_neB ?_
  | refine w_test ?_ | refine w_B ?_ | refine w_and ?_ | refine w_or ?_ | refine w_not ?_ | refine w_andV ?_ | refine w_orV ?_ | refine w_notV ?_ | refine w_ifE ?_ | refine w_yes ?_
  | refine w_nil ?_ | refine w_cons ?_ | refine w_CB ?_ | refine w_callN ?_ | refine w_BM ?_ | refine w_BMT ?_ | refine w_BM0 ?_ | refine w_noPart ?_ | refine w_part ?_ | refine w_sl ?_ | refine w_tup ?_ | refine w_lst ?_
  | refine w_subG ?_ | refine w_gcons ?_ | refine w_gnil ?_ | refine w_for ?_ | refine w_lc ?_ | refine w_iR1 ?_ | refine w_iR2 ?_ | refine w_iL ?_ | refine w_iT ?_ | refine w_iS ?_
  | (show ∃ k, V.bl _ = V.bl k ∧ _; refine ⟨_, rfl, ?_⟩) | (show ∃ k, V.int _ = V.int k ∧ _; refine ⟨_, rfl, ?_⟩)
  | refine iteT ?_ | refine iteF ?_ | refine iteNT ?_ | refine iteNF ?_ | refine r_S ?_ | refine c_S ?_ | refine a_abs ?_ | refine a_intI ?_ | refine a_intB ?_ | refine w_par ?_ | refine w_dK ?_ | refine w_chain ?_ | (show ∃ v w, [_, _] = [v, w] ∧ _; refine ⟨_, _, rfl, ?_⟩)
  | refine w_getF ?_ | refine w_setF ?_ | refine w_newI ?_ | refine w_callS ?_ | refine w_getD1 ?_ | refine w_putD ?_ | refine w_veI ?_ | refine w_ostI ?_ | refine w_mkO ?_ | refine w_newS ?_ | refine w_xf ?_ | refine w_dget ?_ | refine w_din ?_ | refine w_dnin ?_ | refine w_iEn ?_ | refine w_iZp ?_ | refine w_dc ?_
  | refine a_isNn ?_ | refine a_isNr ?_ | refine a_notNn ?_ | refine a_notNr ?_ | refine a_isTy ?_ | refine a_notTy ?_ | refine a_isBl ?_ | refine a_notBl ?_)
local macro_rules | `(tactic| walk_at "r") => `(tactic| repeat walk_at "s")
local macro_rules | `(tactic| walk_at "tr") => `(tactic| first
  | assumption
  | (refine ex_at (H := ?H0) ?h1 ?h2; (case h2 => assumption); (case h1 => walk_at "tr"))
  | (refine ks_at (H := ?H0) (S := ?S0) ?h1 ?h2 ?h3; (case h2 => assumption); (case h3 => walk_at "nin"); (case h1 => walk_at "tr")))
local macro_rules | `(tactic| walk_at "nin") => `(tactic| first
  | exact nin_nil | (refine nin_cons ?h1 ?h2; (case h1 => walk_at "ne"); (case h2 => walk_at "nin")))
local macro_rules | `(tactic| walk_at "ne") => `(tactic| first
  | assumption | exact Ne.symm (by assumption)
  | (refine bx_nb (H := ?H0) (r := ?r0) ?h1 ?h2; (case h2 => assumption); (case h1 => walk_at "bx"))
  | (refine bx_nr (H := ?H0) (b := ?b0) ?h1 ?h2; (case h2 => assumption); (case h1 => walk_at "bx"))
  | (refine Ne.symm (bx_nb (H := ?H0) (r := ?r0) ?h1 ?h2); (case h2 => assumption); (case h1 => walk_at "bx"))
  | (refine ne_old (H := ?H0) (o := ?o0) ?h1 ?h2; (case h2 => assumption); (case h1 => walk_at "tr"))
  | (refine Ne.symm (ne_old (H := ?H0) (o := ?o0) ?h1 ?h2); (case h2 => assumption); (case h1 => walk_at "tr"))
  | exact (Tu.ne (by assumption) (by assumption)).1 | exact (Tu.ne (by assumption) (by assumption)).2
  | (refine bx_rb (H := ?H0) ?h1; (case h1 => walk_at "bx")))
local macro_rules | `(tactic| walk_at "tu") => `(tactic| first
  | assumption
  | (refine Tu.ex (H := ?H0) ?h1 ?h2; (case h2 => assumption); (case h1 => walk_at "tu"))
  | (refine Tu.ks (H := ?H0) (S := ?S0) ?h1 ?h2 ?h3; (case h2 => assumption); (case h3 => walk_at "nin"); (case h1 => walk_at "tu")))
local macro_rules | `(tactic| walk_at "bx") => `(tactic| first
  | assumption
  | (refine bx_ex (H := ?H0) ?h1 ?h2; (case h2 => assumption); (case h1 => walk_at "bx"))
  | (refine bx_ks (H := ?H0) (S := ?S0) ?h1 ?h2 ?h3 ?h4; (case h2 => assumption); (case h3 => walk_at "nin"); (case h4 => walk_at "nin"); (case h1 => walk_at "bx")))
local macro_rules | `(tactic| walk_at "sl") => `(tactic| first
  | assumption | (refine SqL.of ?h1; (case h1 => walk_at "tr"))
  | (refine ex_sl (H := ?H0) ?h1 ?h2; (case h2 => assumption); (case h1 => walk_at "sl"))
  | (refine ks_sl (H := ?H0) (S := ?S0) ?h1 ?h2 ?h3; (case h2 => assumption); (case h3 => walk_at "nin"); (case h1 => walk_at "sl")))
local macro_rules | `(tactic| walk_at "st") => `(tactic| first
  | assumption | (refine Tu.st ?h1; (case h1 => walk_at "tu")) | (refine SqT.of ?h1; (case h1 => walk_at "tr"))
  | (refine ex_st (H := ?H0) ?h1 ?h2; (case h2 => assumption); (case h1 => walk_at "st"))
  | (refine ks_st (H := ?H0) (S := ?S0) ?h1 ?h2 ?h3; (case h2 => assumption); (case h3 => walk_at "nin"); (case h1 => walk_at "st")))
local macro_rules | `(tactic| walk_at "ex") => `(tactic| first
  | exact Ex.refl _ | assumption | (refine Ex.trans (H1 := ?H0) ?h1 ?h2; (case h2 => assumption); (case h1 => walk_at "ex")))
local macro_rules | `(tactic| walk_at "ks") => `(tactic| first
  | exact Ks.refl _ _ | assumption | (refine Ks.of ?h1; (case h1 => assumption)) | (refine Ks.trans (H1 := ?H0) ?h1 ?h2; (case h2 => first | assumption | (refine Ks.of ?h3; (case h3 => assumption))); (case h1 => walk_at "ks")))
local macro_rules | `(tactic| walk_at "dp") => `(tactic| first
  | exact Dp.str _ | exact Dp.int _ | exact Dp.bl _ | exact Dp.non | assumption | exact LsAt.dp (by assumption)
  | (refine dp_ex (H := ?H0) ?h1 ?h2; (case h1 => assumption); (case h2 => walk_at "dp")))
local macro_rules | `(tactic| walk_at "ev") => `(tactic| with_reducible first
  | exact ev_nil | refine ev_cons ?_ ?_ | exact ev_str | exact ev_int | exact ev_bl | exact ev_non
  | (refine ev_tup ?hal ?_ ?hle; (case hal => assumption); (case hle => with_unfolding_all exact Nat.le_of_ble_eq_true rfl))
  | (refine ev_ll (ev_lst ?hal ?_ ?hle); (case hal => assumption); (case hle => with_unfolding_all exact Nat.le_of_ble_eq_true rfl))
  | (refine ev_ll (ev_rep (n := ?nn) ?hal ?_ ?he ?hz); (case he => with_unfolding_all exact rfl); (case hal => assumption); (case hz => with_unfolding_all omega))
  | (refine ev_lst ?hal ?_ ?hle; (case hal => assumption); (case hle => with_unfolding_all exact Nat.le_of_ble_eq_true rfl))
  | (refine ev_lt ?he; (case he => with_unfolding_all exact rfl))
  | (refine ev_let ?hal ?_ ?hs; (case hal => assumption); (case hs => with_unfolding_all first | decide +kernel | rfl))
  | (refine ev_var (v := ?vv) ?he ?hd; (case he => with_unfolding_all exact rfl); (case hd => with_unfolding_all walk_at "dp")))

section
variable {P : Program} {w : World} {K : PySem.W.Frag} {mg : Str → Option Value} {base : Heap}
/-! ### the program: copies -/
theorem ok_copied (T : Tx K mg) : FnOk P w K mg base CX0 1 T.a_copied T.e_copied p_copied (pCop K) := by
  refine T.d_copied.F.ok sc_copied (fun vs H Q E h => ?_) (fun cdv A outer s H vs Q E hr h => ?_)
  · obtain ⟨S, v, d, rfl, _⟩ := h
    rfl
  obtain ⟨S, v, d, rfl, al, hd, q1, q2⟩ := h
  refine ⟨_, (pss_cons (ps_if (pt_cmpR k_isTy (pe_callTy (typK K) (by rfl) T.b_type (by decide +kernel) (pa_cons (pv 0) pa_nil)) (pe_bltn (v := .ty "list") (by rfl) T.b_list (by decide +kernel) rfl) (nomark _)) (pss_one (ps_ret (pe_callTy (lstK K) (by rfl) T.b_list (by decide +kernel) (pa_cons (pv 0) pa_nil)))) pss_nil)
    (pss_one (ps_ret (pv 0)))), ?_⟩
  walk_at "r"
  refine ⟨v, _, rfl, dp_tag (dp_ex (dl_le S H) hd.1), ?_⟩
  walk_at "r"
  refine ite2 (fun c => ?_) (fun c => ?_)
  · obtain ⟨p, xs, ds, rfl, rfl, hL, hD, hs, hz, hl⟩ := ds_lst hd (of_decide_eq_true c)
    walk_at "r"
    refine a_lstL (sl_dl hL) fun q H1 n1 e1 f1 => ?_
    exact q2 ds rfl q xs H1 n1 e1 f1 (dpa_ex (dl_ex e1) hD)
  · walk_at "r"
    exact q1 (not_tag c)
theorem ok_copied_statement (T : Tx K mg) : FnOk P w K mg base CX0 2 T.a_copied_statement T.e_copied_statement p_copied_statement (pCs K) := by
  refine T.d_copied_statement.F.ok sc_copied_statement (fun vs H Q E h => ?_) (fun cdv A outer s H vs Q E hr h => ?_)
  · obtain ⟨S, v, d, rfl, _⟩ := h
    rfl
  obtain ⟨S, v, d, rfl, al, hd, q⟩ := h
  refine ⟨_, (pss_cons (ps_if (pt_cmpR k_notTy (pe_callTy (typK K) (by rfl) T.b_type (by decide +kernel) (pa_cons (pv 0) pa_nil)) (pe_bltn (v := .ty "tuple") (by rfl) T.b_tuple (by decide +kernel) rfl) (nomark _)) (pss_one (ps_ret (pv 0))) pss_nil)
    (pss_one (ps_ret (pe_callTy (tupFK K) (by rfl) T.b_tuple (by decide +kernel) (pa_cons (pe_lc (own := [("part", 1)]) (g := gName 1) rfl sc_copied_statement.nd  (ptK K (pv 0)) (blkOk_by (own := [("part", 1)]) (N := n_copied_statement) (sc := defScope s_copied_statement) (by decide +kernel)) (fun _ _ _ _ _ => (pg_name (i := 1) sc_copied_statement.nd rfl (Or.inl rfl))) (fun _ _ _ _ _ => pts_nil) (fun _ _ _ _ _ => (pe_call (ok_copied T) (hr.mono (by omega)) (by rfl) T.d_copied.m T.d_copied.F.kp T.d_copied.b .nil pass0 (pa_cons (pv 1) pa_nil)))) pa_nil))))), ?_⟩
  walk_at "r"
  refine ⟨v, _, rfl, dp_tag (dp_ex (dl_le S H) hd.1), ?_⟩
  walk_at "r"
  refine ite2 (fun c => ?_) (fun c => ?_)
  · walk_at "r"
    exact q v H (Ex.refl _) hd.1
  · obtain ⟨p, xs, ds, rfl, rfl, hT, hD, hs, hz, hl⟩ := ds_tupz hd (Decidable.byContradiction fun z => c (by rw [decide_eq_false z]; rfl))
    walk_at "r"
    refine c_T (st_dl hT) ?_
    refine cp_tup (xs := xs) (fun l k h => Ex H h ∧ Al (l :: S) h ∧ ∃ ys, h l = some (.lst ys) ∧ DpAll K (dl (l :: S) h) ys (ds.take k))
      (fun l n => ⟨Ex.new n, (al.ex (Ex.new n)).cons upd_same, [], upd_same, .nil⟩) (fun l k h _ _ g => ex_st (st_dl hT) g.1) ?_ ?_
    · rintro l k x h nl hx ⟨e, al2, ys, f, fD⟩
      obtain ⟨d, hd', dx⟩ := ds_at hD hs hx
      have hk := at_lt hx
      have yl := dpa_len fD
      rw [take_len hd'] at yl
      walk_at "r"
      refine ⟨rfl, ?_⟩
      walk_at "r"
      have dx2 : Ds K (dl (l :: S) h) x d := ds_ex dx (dl_new nl e)
      refine ⟨l :: S, x, d, rfl, al2, dx2, fun _ => ?_, fun es ed q ys2 H1 n1 e1 f1 f2 => ?_⟩
      · refine ⟨ys, f, sz_lt (by omega), e.mut nl, ?_, ys ++ [x], upd_same, ?_⟩
        · exact Al.cons (fun a k => by
            by_cases z : a = l
            · rw [z, upd_same]; exact fun z => by cases z
            · rw [upd_ne z]; exact al2 a (List.mem_cons_of_mem _ k)) upd_same
        · rw [dl_upd (List.mem_cons_self ..), take_snoc hd']
          exact dpa_snoc fD dx2.1
      · refine ⟨ys, e1 _ _ f, sz_lt (by omega), (e.trans e1).mut nl, ?_, ys ++ [.ref q], upd_same, ?_⟩
        · exact Al.cons (fun a k => by
            by_cases z : a = l
            · rw [z, upd_same]; exact fun z => by cases z
            · rw [upd_ne z]; exact (al2.ex e1) a (List.mem_cons_of_mem _ k)) upd_same
        · rw [dl_upd (List.mem_cons_self ..), take_snoc hd']
          refine dpa_snoc (dpa_ex (dl_ex e1) fD) ?_
          rw [ed]
          exact .lst (SqL.of (dl_at (al2.nin n1) f1)) f2
    · rintro l h nl ⟨e, al2, ys, f, fD⟩
      rw [hl, List.take_length] at fD
      walk_at "r"
      refine a_tupFL (SqL.of f) fun t H1 n1 e1 f1 => ?_
      refine q _ H1 (e.trans e1) (.tup (Tu.st (tu_dl (fun k => al2.nin n1 (List.mem_cons_of_mem _ k)) f1)) (dpa_ex ((dl_sub (fun a k => List.mem_cons_of_mem _ k)).trans (dl_ex e1)) fD))
theorem ok_copied_statements (T : Tx K mg) : FnOk P w K mg base CX0 3 T.a_copied_statements T.e_copied_statements p_copied_statements (pCss K) := by
  refine T.d_copied_statements.F.ok sc_copied_statements (fun vs H Q E h => ?_) (fun cdv A outer s H vs Q E hr h => ?_)
  · obtain ⟨S, p, ds, rfl, _⟩ := h
    rfl
  obtain ⟨S, p, ds, rfl, al, ⟨⟨xs, hL, hD⟩, hs, hz⟩, q⟩ := h
  have hl := dpa_len hD
  refine ⟨_, (pss_cons (ps_if (pt_cmpR k_notTy (pe_callTy (typK K) (by rfl) T.b_type (by decide +kernel) (pa_cons (pv 0) pa_nil)) (pe_bltn (v := .ty "list") (by rfl) T.b_list (by decide +kernel) rfl) (nomark _)) (pss_one (ps_ret (pv 0))) pss_nil)
    (pss_one (ps_ret (pe_lc (own := [("statement", 1)]) (g := gName 1) rfl sc_copied_statements.nd  (plK K (pv 0)) (blkOk_by (own := [("statement", 1)]) (N := n_copied_statements) (sc := defScope s_copied_statements) (by decide +kernel)) (fun _ _ _ _ _ => (pg_name (i := 1) sc_copied_statements.nd rfl (Or.inl rfl))) (fun _ _ _ _ _ => pts_nil) (fun _ _ _ _ _ => (pe_call (ok_copied_statement T) (hr.mono (by omega)) (by rfl) T.d_copied_statement.m T.d_copied_statement.F.kp T.d_copied_statement.b .nil pass0 (pa_cons (pv 1) pa_nil))))))), ?_⟩
  walk_at "r"
  refine ⟨.ref p, _, rfl, .lst (sl_dl hL), ?_⟩
  walk_at "r"
  refine ite2 (fun c => absurd c (by decide)) (fun _ => ?_)
  walk_at "r"
  refine c_L (sl_dl hL) ?_
  refine cp_list (xs := xs) (fun l k h => Ex H h ∧ Al (l :: S) h ∧ ∃ ys, h l = some (.lst ys) ∧ DpAll K (dl (l :: S) h) ys (ds.take k))
    (fun l n => ⟨Ex.new n, (al.ex (Ex.new n)).cons upd_same, [], upd_same, .nil⟩) (fun l k h _ _ g => ex_sl (sl_dl hL) g.1) ?_ ?_
  · rintro l k x h nl hx ⟨e, al2, ys, f, fD⟩
    obtain ⟨d, hd', dx⟩ := ds_at hD hs hx
    have hk := at_lt hx
    have yl := dpa_len fD
    rw [take_len hd'] at yl
    walk_at "r"
    refine ⟨rfl, ?_⟩
    walk_at "r"
    refine ⟨l :: S, x, d, rfl, al2, ds_ex dx (dl_new nl e), fun v' H1 e1 f1 => ?_⟩
    refine ⟨ys, e1 _ _ f, sz_lt (by omega), (e.trans e1).mut nl, ?_, ys ++ [v'], upd_same, ?_⟩
    · exact Al.cons (fun a k => by
        by_cases z : a = l
        · rw [z, upd_same]; exact fun z => by cases z
        · rw [upd_ne z]; exact (al2.ex e1) a (List.mem_cons_of_mem _ k)) upd_same
    · rw [dl_upd (List.mem_cons_self ..), take_snoc hd']
      exact dpa_snoc (dpa_ex (dl_ex e1) fD) f1
  · rintro l h nl ⟨e, al2, ys, f, fD⟩
    rw [hl, List.take_length] at fD
    walk_at "r"
    exact q l ys h nl e f (dpa_ex (dl_sub (fun a k => List.mem_cons_of_mem _ k)) fD)

/-! ### the program: functions -/
theorem dl_lst {G : Hp} {p : Addr} {ds : List PyData} (h : Dl K G p ds) : Ds K G (.ref p) (.list ds) := by
  obtain ⟨xs, h1, h2⟩ := h.ex
  exact ⟨.lst h1 h2, sm_lst h.sm h.le⟩
theorem ok_Function_init (T : Tx K mg) : FnOk P w K mg base CX0 4 T.a_Function_init T.e_Function_init p_Function_init (pFi K T.C_Function) := by
  refine T.d_Function_init.F.ok sc_Function_init (fun vs H Q E h => ?_) (fun cdv A outer s H vs Q E hr h => ?_)
  · obtain ⟨S, a, dx, nv, pp, bp, f, rfl, _⟩ := h
    rfl
  obtain ⟨S, a, dx, nv, pp, bp, f, rfl, al, ha, fa, hn, hp, hb, q⟩ := h
  refine ⟨_, (pss_cons (ps_fld (pv 0) (pv 1) rfl)
    (pss_cons (ps_fld (pv 0) (pe_call (ok_copied T) (hr.mono (by omega)) (by rfl) T.d_copied.m T.d_copied.F.kp T.d_copied.b .nil pass0 (pa_cons (pv 2) pa_nil)) rfl)
    (pss_one (ps_fld (pv 0) (pe_call (ok_copied_statements T) (hr.mono (by omega)) (by rfl) T.d_copied_statements.m T.d_copied_statements.F.kp T.d_copied_statements.b .nil pass0 (pa_cons (pv 3) pa_nil)) rfl)))), ?_⟩
  walk_at "r"
  refine a_put T.c_Function T.n_Function_name fa (by decide) ?_
  have g1 : dl S (upd H a (.ins T.C_Function dx (putF "name" nv []))) = dl S H := dl_upd ha
  have al1 : Al S (upd H a (.ins T.C_Function dx (putF "name" nv []))) := al.upd
  have k1 : Ks [a] H (upd H a (.ins T.C_Function dx (putF "name" nv []))) := (Ks.refl _ _).upd (by simp)
  have f1 : (upd H a (.ins T.C_Function dx (putF "name" nv []))) a = some (.ins T.C_Function dx (putF "name" nv [])) := upd_same
  generalize upd H a (.ins T.C_Function dx (putF "name" nv [])) = H1 at g1 al1 k1 f1 ⊢
  rw [← g1] at hn hp hb
  walk_at "r"
  refine ⟨S, _, _, rfl, al1, dl_lst hp, fun z => absurd rfl z, fun ds ed q1 ys1 H2 n2 e2 f2 D2 => ?_⟩
  cases ed
  have na1 : q1 ≠ a := fun z => by rw [z, f1] at n2; cases n2
  walk_at "r"
  refine a_put T.c_Function T.n_Function_params (e2 _ _ f1) (put1_lt _ _) ?_
  have g3 : dl S (upd H2 a (.ins T.C_Function dx (putF "params" (.ref q1) (putF "name" nv [])))) = dl S H2 := dl_upd ha
  have al3 : Al S (upd H2 a (.ins T.C_Function dx (putF "params" (.ref q1) (putF "name" nv [])))) := (al1.ex e2).upd
  have k3 : Ks [a] H (upd H2 a (.ins T.C_Function dx (putF "params" (.ref q1) (putF "name" nv [])))) := (k1.trans (Ks.of e2)).upd (by simp)
  have f3 : (upd H2 a (.ins T.C_Function dx (putF "params" (.ref q1) (putF "name" nv [])))) a = some (.ins T.C_Function dx (putF "params" (.ref q1) (putF "name" nv []))) := upd_same
  have f3q : (upd H2 a (.ins T.C_Function dx (putF "params" (.ref q1) (putF "name" nv [])))) q1 = some (.lst ys1) := by rw [upd_ne na1]; exact f2
  generalize upd H2 a (.ins T.C_Function dx (putF "params" (.ref q1) (putF "name" nv []))) = H3 at g3 al3 k3 f3 f3q ⊢
  have e13 : Ex (dl S H1) (dl S H3) := by rw [g3]; exact dl_ex e2
  walk_at "r"
  refine ⟨S, _, _, rfl, al3, hb.up e13, fun q2 ys2 H4 n4 e4 f4 D4 => ?_⟩
  have na2 : q2 ≠ a := fun z => by rw [z, f3] at n4; cases n4
  have nq : q1 ≠ q2 := fun z => by rw [← z, f3q] at n4; cases n4
  walk_at "r"
  refine a_put T.c_Function T.n_Function_body (e4 _ _ f3) (put2_lt _ _ _ _) ?_
  walk_at "r"
  have e35 : Ex (dl S H2) (dl S (upd H4 a (.ins T.C_Function dx (fnF nv q1 q2)))) := by
    rw [dl_upd ha, ← g3]
    exact dl_ex e4
  refine q q1 q2 ys1 ys2 (upd H4 a (.ins T.C_Function dx (fnF nv q1 q2))) ((k3.trans (Ks.of e4)).upd (by simp)) (ks_none k1 n2 (by simpa using na1)) (ks_none k3 n4 (by simpa using na2)) nq upd_same (by rw [upd_ne na1]; exact e4 _ _ f3q) (by rw [upd_ne na2]; exact f4) (dpa_ex e35 D2) ?_
  rw [dl_upd ha]
  exact D4
theorem kit_self {C : Value} : PySem.W.kitOne K C C = some true := if_pos (beq_self_eq_true C)
theorem ok_copied_function (T : Tx K mg) : FnOk P w K mg base CX0 6 T.a_copied_function T.e_copied_function p_copied_function (pCf K T.C_Function) := by
  refine T.d_copied_function.F.ok sc_copied_function (fun vs H Q E h => ?_) (fun cdv A outer s H vs Q E hr h => ?_)
  · obtain ⟨S, a, f, rfl, _⟩ := h
    rfl
  obtain ⟨S, a, f, rfl, al, hf, q⟩ := h
  obtain ⟨dx, nv, p1, p2, fa, hn, hp, hb⟩ := hf.ex
  have fa' := dl_le S H _ _ fa
  have I := T.i_Function
  refine ⟨_, (pss_cons (ps_if (pt_not (pt_val (pe_callB (isiK K) (by rfl) T.b_isinstance (by decide +kernel) (pa_cons (pv 0) (pa_cons (pe_glob (v := .ref T.C_Function) (by rfl) T.g_Function rfl) pa_nil))))) (pss_one (ps_ret (pv 0))) pss_nil)
    (pss_one (ps_ret (pe_make T.k_Function (ok_Function_init T) (hr.mono (by omega)) (by rfl) T.g_Function T.d_Function_init.b .nil pass0 (pa_cons (by exact (fldK K (pv 0) rfl)) (pa_cons (by exact (fldK K (pv 0) rfl)) (pa_cons (by exact (fldK K (pv 0) rfl)) pa_nil))))))), ?_⟩
  walk_at "r"
  refine ⟨.ref a, .ref T.C_Function, .ref T.C_Function, .ref T.C_Function, true, rfl, .own _, .base (.ins fa' T.c_Function I.ha I.hn I.ht I.hm), kit_self, ?_⟩
  walk_at "r"
  refine a_get T.c_Function T.n_Function_name fa' (fn_name _ _ _) ?_
  walk_at "r"
  refine a_get T.c_Function T.n_Function_params fa' (fn_params _ _ _) ?_
  walk_at "r"
  refine a_get T.c_Function T.n_Function_body fa' (fn_body _ _ _) ?_
  walk_at "r"
  refine a_new fun x xd H1 n1 n2 n3 e1 f1 f2 => ?_
  have nx := al.nin n1
  have nd := al.nin n2
  have E1 : Ex (dl S H) (dl (x :: xd :: S) H1) := fun b o z => by
    by_cases h : b ∈ S
    · rw [dl_in h] at z
      cases z
    · rw [dl_nin h] at z
      rw [dl_nin (by
        intro k
        rcases List.mem_cons.mp k with k | k
        · rw [k, n1] at z; cases z
        rcases List.mem_cons.mp k with k | k
        · rw [k, n2] at z; cases z
        · exact h k)]
      exact e1 b o z
  refine ⟨x :: xd :: S, x, xd, nv, p1, p2, f, rfl, ((al.ex e1).cons f2).cons f1, List.mem_cons_self .., f1, ds_ex hn E1, hp.dl.up E1, hb.dl.up E1, fun q1 q2 ys1 ys2 H2 k2 m1 m2 nq g0 g1 g2 D1 D2 => ?_⟩
  have E2 : Ex (dl (x :: xd :: S) H2) (dl S H2) := dl_sub fun b k => List.mem_cons_of_mem _ (List.mem_cons_of_mem _ k)
  have E3 : Ex (dl (x :: xd :: S) H1) (dl (x :: xd :: S) H2) := dl_ks fun b o hb z => k2 b o (fun c => hb (by rw [List.mem_singleton] at c; rw [c]; exact List.mem_cons_self ..)) z
  have eH : Ex H H2 := fun b o z => k2 b o (fun c => by rw [List.mem_singleton] at c; rw [c, n1] at z; cases z) (e1 b o z)
  have al2 := al.ex e1
  refine ⟨rfl, q x H2 n1 eH ⟨xd, nv, q1, q2, dl_at nx g0, ds_ex hn (E1.trans (E3.trans E2)), ⟨⟨ys1, dl_at (al2.nin m1) g1, dpa_ex E2 D1⟩, hp.sm, hp.le⟩, ⟨⟨ys2, dl_at (al2.nin m2) g2, dpa_ex E2 D2⟩, hb.sm, hb.le⟩⟩ ⟨x, xd, nv, q1, q2, rfl, n1, g0, ex_none e1 m1, ex_none e1 m2⟩⟩
theorem ok_copied_functions (T : Tx K mg) : FnOk P w K mg base CX0 7 T.a_copied_functions T.e_copied_functions p_copied_functions (pCfs K T.C_Function) := by
  refine T.d_copied_functions.F.ok sc_copied_functions (fun vs H Q E h => ?_) (fun cdv A outer s H vs Q E hr h => ?_)
  · obtain ⟨S, p, xs, fs, rfl, _⟩ := h
    rfl
  obtain ⟨S, p, xs, fs, rfl, al, hL, hF, hz, q⟩ := h
  have hl := hF.len
  refine ⟨_, (pss_cons (ps_if (pt_cmpR k_notTy (pe_callTy (typK K) (by rfl) T.b_type (by decide +kernel) (pa_cons (pv 0) pa_nil)) (pe_bltn (v := .ty "list") (by rfl) T.b_list (by decide +kernel) rfl) (nomark _)) (pss_one (ps_ret (pv 0))) pss_nil)
    (pss_one (ps_ret (pe_lc (own := [("function", 1)]) (g := gName 1) rfl sc_copied_functions.nd  (plK K (pv 0)) (blkOk_by (own := [("function", 1)]) (N := n_copied_functions) (sc := defScope s_copied_functions) (by decide +kernel)) (fun _ _ _ _ _ => (pg_name (i := 1) sc_copied_functions.nd rfl (Or.inl rfl))) (fun _ _ _ _ _ => pts_nil) (fun _ _ _ _ _ => (pe_call (ok_copied_function T) (hr.mono (by omega)) (by rfl) T.d_copied_function.m T.d_copied_function.F.kp T.d_copied_function.b .nil pass0 (pa_cons (pv 1) pa_nil))))))), ?_⟩
  walk_at "r"
  refine ⟨.ref p, _, rfl, .lst (sl_dl hL), ?_⟩
  walk_at "r"
  refine ite2 (fun c => absurd c (by decide)) (fun _ => ?_)
  walk_at "r"
  refine c_L (sl_dl hL) ?_
  refine cp_list (xs := xs) (fun l k h => Ex H h ∧ Al (l :: S) h ∧ ∃ ys, h l = some (.lst ys) ∧ FnAll K T.C_Function (dl (l :: S) h) ys (fs.take k) ∧ ∀ v ∈ ys, NewF T.C_Function H h v)
    (fun l n => ⟨Ex.new n, (al.ex (Ex.new n)).cons upd_same, [], upd_same, .nil, fun v hv => by cases hv⟩) (fun l k h _ _ g => ex_sl (sl_dl hL) g.1) ?_ ?_
  · rintro l k x h nl hx ⟨e, al2, ys, f, fD, nw⟩
    obtain ⟨a, fd, rfl, hd', dx⟩ := hF.get hx
    have hk := at_lt hx
    have yl := fD.len
    rw [take_len hd'] at yl
    walk_at "r"
    refine ⟨rfl, ?_⟩
    walk_at "r"
    refine ⟨l :: S, a, fd, rfl, al2, dx.up (dl_new nl e), fun b H1 n1 e1 f1 nf => ?_⟩
    refine ⟨ys, e1 _ _ f, sz_lt (by omega), (e.trans e1).mut nl, (al2.ex e1).upd, ys ++ [.ref b], upd_same, ?_, fun v hv => ?_⟩
    · rw [dl_upd (List.mem_cons_self ..), take_snoc hd']
      exact FnAll.snoc f1 (fD.up (dl_ex e1))
    · rcases List.mem_append.mp hv with hv | hv
      · exact ((nw v hv).up e1).mut (e1 _ _ f)
      · rw [List.mem_singleton] at hv
        rw [hv]
        exact (nf.down e).mut (e1 _ _ f)
  · rintro l h nl ⟨e, al2, ys, f, fD, nw⟩
    rw [hl, List.take_length] at fD
    walk_at "r"
    exact q l ys h nl e f (fD.up (dl_sub (fun a k => List.mem_cons_of_mem _ k))) nw
theorem ok_are_statements (T : Tx K mg) : FnOk P w K mg base CX0 6 T.a_are_statements T.e_are_statements p_are_statements (pSts K) := by
  refine T.d_are_statements.F.ok sc_are_statements (fun vs H Q E h => ?_) (fun cdv A outer s H vs Q E hr h => ?_)
  · obtain ⟨p, ds, m, rfl, _⟩ := h
    rfl
  obtain ⟨p, ds, m, rfl, ⟨⟨xs, hL, hD⟩, hs, hz⟩, q⟩ := h
  have hl := dpa_len hD
  refine ⟨_, (pss_cons (ps_if (PW.pt (pw_or (pt_cmpR k_notTy (pe_callTy (typK K) (by rfl) T.b_type (by decide +kernel) (pa_cons (pv 0) pa_nil)) (pe_bltn (v := .ty "list") (by rfl) T.b_list (by decide +kernel) rfl) (nomark _)) (pw_or1 (pt_cmpR op_gt (pe_callB (lenK K) (by rfl) T.b_len PySem.boot_len (pa_cons (pv 0) pa_nil)) (pv 1) (nomark _))))) (pss_one (ps_ret pe_bl)) pss_nil)
    (pss_one (ps_ret (pe_callB (allK K) (by rfl) T.b_all (by decide +kernel) (pa_cons (pe_lc (own := [("part", 2)]) (g := gName 2) rfl sc_are_statements.nd  (plK K (pv 0)) (blkOk_by (own := [("part", 2)]) (N := n_are_statements) (sc := defScope s_are_statements) (by decide +kernel)) (fun _ _ _ _ _ => (pg_name (i := 2) sc_are_statements.nd rfl (Or.inl rfl))) (fun _ _ _ _ _ => pts_nil) (fun _ _ _ _ _ => (pe_call (ok_is_statement T) (hr.mono (by omega)) (by rfl) T.d_is_statement.m T.d_is_statement.F.kp T.d_is_statement.b .nil pass0 (pa_cons (pv 2) pa_nil)))) pa_nil))))), ?_⟩
  walk_at "r"
  refine ⟨.ref p, _, rfl, .lst hL, ?_⟩
  walk_at "r"
  refine ite2 (fun c => absurd c (by decide)) (fun _ => ?_)
  walk_at "r"
  refine a_lenL hL ?_
  walk_at "r"
  refine ite2 (fun c => ?_) (fun c => ?_)
  · have c' := of_decide_eq_true c
    have g := q H (Ex.refl _)
    unfold stsD at g
    rw [decide_eq_false (show ¬ ds.length ≤ m by omega)] at g
    walk_at "r"
    exact g
  have c' := of_decide_eq_false (nf c)
  walk_at "r"
  refine c_L hL ?_
  refine cp_list (xs := xs) (fun l k h => Ex H h ∧ h l = some (.lst (((ds.take k).map stmtD).map V.bl))) (fun l n => ⟨Ex.new n, upd_same⟩) (fun l k h _ _ g => ex_sl hL g.1) ?_ ?_
  · rintro l k x h nl hx ⟨e, f⟩
    obtain ⟨d, hd', dx⟩ := ds_at hD hs hx
    have hk := at_lt hx
    walk_at "r"
    refine ⟨rfl, ?_⟩
    walk_at "r"
    refine ⟨x, d, rfl, ds_ex dx e, fun H1 e1 => ?_⟩
    refine ⟨_, e1 _ _ f, sz_lt (by rw [bools_len]; omega), (e.trans e1).mut nl, ?_⟩
    rw [upd_same, bools_snoc stmtD hd']
  · rintro l h nl ⟨e, f⟩
    walk_at "r"
    rw [hl, List.take_length] at f
    refine ⟨l, _, rfl, SqL.of f, ?_⟩
    have g := q h e
    unfold stsD at g
    rw [decide_eq_true (show ds.length ≤ m by omega)] at g
    rw [bools_all]
    exact g
theorem ok_is_function (T : Tx K mg) : FnOk P w K mg base CX0 7 T.a_is_function T.e_is_function p_is_function (pIf K T.C_Function) := by
  refine T.d_is_function.F.ok sc_is_function (fun vs H Q E h => ?_) (fun cdv A outer s H vs Q E hr h => ?_)
  · obtain ⟨a, f, rfl, _⟩ := h
    rfl
  obtain ⟨a, f, rfl, hf, q⟩ := h
  obtain ⟨dx, nv, p1, p2, fa, hn, hp, hb⟩ := hf.ex
  obtain ⟨xs, hL, hD⟩ := hp.dl.ex
  have hl := dpa_len hD
  have I := T.i_Function
  have e0 : fnD f = (nameD f.n && (decide (f.p.length ≤ 4) && f.p.all declD) && stsD 12 f.b) := rfl
  refine ⟨_, (pss_cons (ps_if (PW.pt (pw_or (pt_not (pt_val (pe_callB (isiK K) (by rfl) T.b_isinstance (by decide +kernel) (pa_cons (pv 0) (pa_cons (pe_glob (v := .ref T.C_Function) (by rfl) T.g_Function rfl) pa_nil))))) (pw_or1 (pt_not (pt_val (pe_call (ok_is_name T) (hr.mono (by omega)) (by rfl) T.d_is_name.m T.d_is_name.F.kp T.d_is_name.b .nil pass0 (pa_cons (by exact (fldK K (pv 0) rfl)) pa_nil))))))) (pss_one (ps_ret pe_bl)) pss_nil)
    (pss_cons (ps_if (PW.pt (pw_or (pt_cmpR k_notTy (pe_callTy (typK K) (by rfl) T.b_type (by decide +kernel) (pa_cons (by exact (fldK K (pv 0) rfl)) pa_nil)) (pe_bltn (v := .ty "list") (by rfl) T.b_list (by decide +kernel) rfl) (nomark _)) (pw_or1 (pt_cmpR op_gt (pe_callB (lenK K) (by rfl) T.b_len PySem.boot_len (pa_cons (by exact (fldK K (pv 0) rfl)) pa_nil)) (pe_glob (v := .int 4) (by rfl) T.m_MOST_PARAMS ⟨_, rfl⟩) (nomark _))))) (pss_one (ps_ret pe_bl)) pss_nil)
    (pss_cons (ps_if (pt_not (pt_val (pe_callB (allK K) (by rfl) T.b_all (by decide +kernel) (pa_cons (pe_lc (own := [("param", 1)]) (g := gName 1) rfl sc_is_function.nd  (plK K (by exact (fldK K (pv 0) rfl))) (blkOk_by (own := [("param", 1)]) (N := n_is_function) (sc := defScope s_is_function) (by decide +kernel)) (fun _ _ _ _ _ => (pg_name (i := 1) sc_is_function.nd rfl (Or.inl rfl))) (fun _ _ _ _ _ => pts_nil) (fun _ _ _ _ _ => (pe_call (ok_is_declared T) (hr.mono (by omega)) (by rfl) T.d_is_declared.m T.d_is_declared.F.kp T.d_is_declared.b .nil pass0 (pa_cons (pv 1) pa_nil)))) pa_nil)))) (pss_one (ps_ret pe_bl)) pss_nil)
    (pss_one (ps_ret (pe_call (ok_are_statements T) (hr.mono (by omega)) (by rfl) T.d_are_statements.m T.d_are_statements.F.kp T.d_are_statements.b .nil pass0 (pa_cons (by exact (fldK K (pv 0) rfl)) (pa_cons (pe_glob (v := .int 12) (by rfl) T.m_MOST_IN_BODY ⟨_, rfl⟩) pa_nil)))))))), ?_⟩
  walk_at "r"
  refine ⟨.ref a, .ref T.C_Function, .ref T.C_Function, .ref T.C_Function, true, rfl, .own _, .base (.ins fa T.c_Function I.ha I.hn I.ht I.hm), kit_self, ?_⟩
  walk_at "r"
  refine a_get T.c_Function T.n_Function_name fa (fn_name _ _ _) ?_
  walk_at "r"
  refine ⟨nv, f.n, rfl, hn, fun H1 e1 => ?_⟩
  have g1 := q H1 e1
  rw [e0] at g1
  walk_at "r"
  refine ite2 (fun c => ?_) (fun c => ?_)
  · have c' : nameD f.n = false := by
      cases z : nameD f.n with
      | true => rw [z] at c; cases c
      | false => rfl
    rw [c'] at g1
    walk_at "r"
    exact g1
  have c1 : nameD f.n = true := by
    cases z : nameD f.n with
    | true => rfl
    | false => rw [z] at c; exact absurd rfl c
  rw [c1] at e0 g1
  walk_at "r"
  refine a_get T.c_Function T.n_Function_params (e1 _ _ fa) (fn_params _ _ _) ?_
  walk_at "r"
  refine ⟨.ref p1, _, rfl, .lst (ex_sl hL e1), ?_⟩
  walk_at "r"
  refine ite2 (fun c => absurd c (by decide)) (fun _ => ?_)
  walk_at "r"
  refine a_get T.c_Function T.n_Function_params (e1 _ _ fa) (fn_params _ _ _) ?_
  walk_at "r"
  refine a_lenL (ex_sl hL e1) ?_
  walk_at "r"
  refine ite2 (fun c => ?_) (fun c => ?_)
  · have c' := of_decide_eq_true c
    rw [decide_eq_false (show ¬ f.p.length ≤ 4 by omega)] at g1
    walk_at "r"
    exact g1
  have c2 := of_decide_eq_false (nf c)
  rw [decide_eq_true (show f.p.length ≤ 4 by omega)] at e0
  walk_at "r"
  refine a_get T.c_Function T.n_Function_params (e1 _ _ fa) (fn_params _ _ _) ?_
  walk_at "r"
  refine c_L (ex_sl hL e1) ?_
  refine cp_list (xs := xs) (fun l k h => Ex H1 h ∧ h l = some (.lst (((f.p.take k).map declD).map V.bl))) (fun l n => ⟨Ex.new n, upd_same⟩) (fun l k h _ _ g => ex_sl hL (e1.trans g.1)) ?_ ?_
  · rintro l k x h nl hx ⟨e, g⟩
    obtain ⟨d, hd', dx⟩ := ds_at hD hp.sm hx
    have hk := at_lt hx
    walk_at "r"
    refine ⟨rfl, ?_⟩
    walk_at "r"
    refine ⟨x, d, rfl, ds_ex dx (e1.trans e), fun H2 e2 => ?_⟩
    refine ⟨_, e2 _ _ g, sz_lt (by rw [bools_len]; omega), (e.trans e2).mut nl, ?_⟩
    rw [upd_same, bools_snoc declD hd']
  · rintro l h nl ⟨e, g⟩
    have eh := e1.trans e
    walk_at "r"
    rw [hl, List.take_length] at g
    refine ⟨l, _, rfl, SqL.of g, ?_⟩
    rw [bools_all]
    have g2 := q h eh
    rw [e0] at g2
    walk_at "r"
    refine ite2 (fun c => ?_) (fun c => ?_)
    · have c' : f.p.all declD = false := by
        cases z : f.p.all declD with
        | true => rw [z] at c; cases c
        | false => rfl
      rw [c'] at g2
      walk_at "r"
      exact g2
    have c3 : f.p.all declD = true := by
      cases z : f.p.all declD with
      | true => rfl
      | false => rw [z] at c; exact absurd rfl c
    rw [c3] at e0
    walk_at "r"
    refine a_get T.c_Function T.n_Function_body (eh _ _ fa) (fn_body _ _ _) ?_
    walk_at "r"
    refine ⟨p2, f.b, 12, rfl, hb.dl.up eh, fun H3 e3 => ?_⟩
    have g3 := q H3 (eh.trans e3)
    rw [e0] at g3
    exact g3

end
end Ver

set_option Elab.async false
set_option linter.all false
set_option maxRecDepth 100000
set_option maxHeartbeats 4000000
namespace Ver
open PySem PySem.Spec PyProof.Rows L2 Evl
local macro_rules | `(tactic| walk_at "s") => `(tactic| with_reducible first
  | refine w_seq ?_ | refine w_asg ?_ | refine w_name ?_ | refine w_if ?_ | refine w_ret ?_ | refine w_drop ?_ | refine w_next ?_ | refine w_brk ?_ | refine w_cont ?_
  | (refine w_var (v := ?vv) ?hh ?_; (case hh => with_unfolding_all exact rfl))
  | refine w_c ?_ | refine w_op ?_ | refine w_un ?_ | refine w_I0 ?_ | refine w_neg ?_ | refine w_eqI ?_ | refine w_neI ?_ | refine w_eqS ?_ | refine w_neS ?_ | refine w_eqB ?_ | refine w_neB ?_
  | refine w_test ?_ | refine w_B ?_ | refine w_and ?_ | refine w_or ?_ | refine w_not ?_ | refine w_andV ?_ | refine w_orV ?_ | refine w_notV ?_ | refine w_ifE ?_ | refine w_yes ?_
  | refine w_nil ?_ | refine w_cons ?_ | refine w_CB ?_ | refine w_callN ?_ | refine w_BM ?_ | refine w_BMT ?_ | refine w_BM0 ?_ | refine w_noPart ?_ | refine w_part ?_ | refine w_sl ?_ | refine w_tup ?_ | refine w_lst ?_
  | refine w_subG ?_ | refine w_gcons ?_ | refine w_gnil ?_ | refine w_for ?_ | refine w_lc ?_ | refine w_iR1 ?_ | refine w_iR2 ?_ | refine w_iL ?_ | refine w_iT ?_ | refine w_iS ?_
  | (show ∃ k, V.bl _ = V.bl k ∧ _; refine ⟨_, rfl, ?_⟩) | (show ∃ k, V.int _ = V.int k ∧ _; refine ⟨_, rfl, ?_⟩)
  | refine iteT ?_ | refine iteF ?_ | refine iteNT ?_ | refine iteNF ?_ | refine r_S ?_ | refine c_S ?_ | refine a_abs ?_ | refine a_intI ?_ | refine a_intB ?_ | refine w_par ?_ | refine w_dK ?_ | refine w_chain ?_ | (show ∃ v w, [_, _] = [v, w] ∧ _; refine ⟨_, _, rfl, ?_⟩)
  | refine w_getF ?_ | refine w_setF ?_ | refine w_newI ?_ | refine w_callS ?_ | refine w_getD1 ?_ | refine w_putD ?_ | refine w_veI ?_ | refine w_ostI ?_ | refine w_mkO ?_ | refine w_newS ?_ | refine w_xf ?_ | refine w_dget ?_ | refine w_din ?_ | refine w_dnin ?_ | refine w_iEn ?_ | refine w_iZp ?_ | refine w_dc ?_
  | refine a_isNn ?_ | refine a_isNr ?_ | refine a_notNn ?_ | refine a_notNr ?_ | refine a_isTy ?_ | refine a_notTy ?_ | refine a_isBl ?_ | refine a_notBl ?_)
local macro_rules | `(tactic| walk_at "r") => `(tactic| repeat walk_at "s")
local macro_rules | `(tactic| walk_at "tr") => `(tactic| first
  | assumption
  | (refine ex_at (H := ?H0) ?h1 ?h2; (case h2 => assumption); (case h1 => walk_at "tr"))
  | (refine ks_at (H := ?H0) (S := ?S0) ?h1 ?h2 ?h3; (case h2 => assumption); (case h3 => walk_at "nin"); (case h1 => walk_at "tr")))
local macro_rules | `(tactic| walk_at "nin") => `(tactic| first
  | exact nin_nil | (refine nin_cons ?h1 ?h2; (case h1 => walk_at "ne"); (case h2 => walk_at "nin")))
local macro_rules | `(tactic| walk_at "ne") => `(tactic| first
  | assumption | exact Ne.symm (by assumption)
  | (refine bx_nb (H := ?H0) (r := ?r0) ?h1 ?h2; (case h2 => assumption); (case h1 => walk_at "bx"))
  | (refine bx_nr (H := ?H0) (b := ?b0) ?h1 ?h2; (case h2 => assumption); (case h1 => walk_at "bx"))
  | (refine Ne.symm (bx_nb (H := ?H0) (r := ?r0) ?h1 ?h2); (case h2 => assumption); (case h1 => walk_at "bx"))
  | (refine ne_old (H := ?H0) (o := ?o0) ?h1 ?h2; (case h2 => assumption); (case h1 => walk_at "tr"))
  | (refine Ne.symm (ne_old (H := ?H0) (o := ?o0) ?h1 ?h2); (case h2 => assumption); (case h1 => walk_at "tr"))
  | exact (Tu.ne (by assumption) (by assumption)).1 | exact (Tu.ne (by assumption) (by assumption)).2
  | (refine bx_rb (H := ?H0) ?h1; (case h1 => walk_at "bx")))
local macro_rules | `(tactic| walk_at "tu") => `(tactic| first
  | assumption
  | (refine Tu.ex (H := ?H0) ?h1 ?h2; (case h2 => assumption); (case h1 => walk_at "tu"))
  | (refine Tu.ks (H := ?H0) (S := ?S0) ?h1 ?h2 ?h3; (case h2 => assumption); (case h3 => walk_at "nin"); (case h1 => walk_at "tu")))
local macro_rules | `(tactic| walk_at "bx") => `(tactic| first
  | assumption
  | (refine bx_ex (H := ?H0) ?h1 ?h2; (case h2 => assumption); (case h1 => walk_at "bx"))
  | (refine bx_ks (H := ?H0) (S := ?S0) ?h1 ?h2 ?h3 ?h4; (case h2 => assumption); (case h3 => walk_at "nin"); (case h4 => walk_at "nin"); (case h1 => walk_at "bx")))
local macro_rules | `(tactic| walk_at "sl") => `(tactic| first
  | assumption | (refine SqL.of ?h1; (case h1 => walk_at "tr"))
  | (refine ex_sl (H := ?H0) ?h1 ?h2; (case h2 => assumption); (case h1 => walk_at "sl"))
  | (refine ks_sl (H := ?H0) (S := ?S0) ?h1 ?h2 ?h3; (case h2 => assumption); (case h3 => walk_at "nin"); (case h1 => walk_at "sl")))
local macro_rules | `(tactic| walk_at "st") => `(tactic| first
  | assumption | (refine Tu.st ?h1; (case h1 => walk_at "tu")) | (refine SqT.of ?h1; (case h1 => walk_at "tr"))
  | (refine ex_st (H := ?H0) ?h1 ?h2; (case h2 => assumption); (case h1 => walk_at "st"))
  | (refine ks_st (H := ?H0) (S := ?S0) ?h1 ?h2 ?h3; (case h2 => assumption); (case h3 => walk_at "nin"); (case h1 => walk_at "st")))
local macro_rules | `(tactic| walk_at "ex") => `(tactic| first
  | exact Ex.refl _ | assumption | (refine Ex.trans (H1 := ?H0) ?h1 ?h2; (case h2 => assumption); (case h1 => walk_at "ex")))
local macro_rules | `(tactic| walk_at "ks") => `(tactic| first
  | exact Ks.refl _ _ | assumption | (refine Ks.of ?h1; (case h1 => assumption)) | (refine Ks.trans (H1 := ?H0) ?h1 ?h2; (case h2 => first | assumption | (refine Ks.of ?h3; (case h3 => assumption))); (case h1 => walk_at "ks")))
local macro_rules | `(tactic| walk_at "dp") => `(tactic| first
  | exact Dp.str _ | exact Dp.int _ | exact Dp.bl _ | exact Dp.non | assumption | exact LsAt.dp (by assumption)
  | (refine dp_ex (H := ?H0) ?h1 ?h2; (case h1 => assumption); (case h2 => walk_at "dp")))
local macro_rules | `(tactic| walk_at "ev") => `(tactic| with_reducible first
  | exact ev_nil | refine ev_cons ?_ ?_ | exact ev_str | exact ev_int | exact ev_bl | exact ev_non
  | (refine ev_tup ?hal ?_ ?hle; (case hal => assumption); (case hle => with_unfolding_all exact Nat.le_of_ble_eq_true rfl))
  | (refine ev_ll (ev_lst ?hal ?_ ?hle); (case hal => assumption); (case hle => with_unfolding_all exact Nat.le_of_ble_eq_true rfl))
  | (refine ev_ll (ev_rep (n := ?nn) ?hal ?_ ?he ?hz); (case he => with_unfolding_all exact rfl); (case hal => assumption); (case hz => with_unfolding_all omega))
  | (refine ev_lst ?hal ?_ ?hle; (case hal => assumption); (case hle => with_unfolding_all exact Nat.le_of_ble_eq_true rfl))
  | (refine ev_lt ?he; (case he => with_unfolding_all exact rfl))
  | (refine ev_let ?hal ?_ ?hs; (case hal => assumption); (case hs => with_unfolding_all first | decide +kernel | rfl))
  | (refine ev_var (v := ?vv) ?he ?hd; (case he => with_unfolding_all exact rfl); (case hd => with_unfolding_all walk_at "dp")))

section
variable {P : Program} {w : World} {K : PySem.W.Frag} {mg : Str → Option Value} {base : Heap}
/-! ### the program: what is declared -/
theorem ok_declared_by_lets (T : Tx K mg) : FnOk P w K mg base CX0 1 T.a_declared_by_lets T.e_declared_by_lets p_declared_by_lets (pLets K) := by
  refine T.d_declared_by_lets.F.ok sc_declared_by_lets (fun vs H Q E h => ?_) (fun cdv A outer s H vs Q E hr h => ?_)
  · obtain ⟨S, p, ds, rfl, _⟩ := h
    rfl
  obtain ⟨S, p, ds, rfl, al, ⟨⟨xs, hL, hD⟩, hs, hz⟩, so, q⟩ := h
  have hl := dpa_len hD
  refine ⟨_, (pss_one (ps_ret (pe_lc (own := [("statement", 1)]) (g := gName 1) rfl sc_declared_by_lets.nd  (plK K (pv 0)) (blkOk_by (own := [("statement", 1)]) (N := n_declared_by_lets) (sc := defScope s_declared_by_lets) (by decide +kernel)) (fun _ _ _ _ _ => (pg_name (i := 1) sc_declared_by_lets.nd rfl (Or.inl rfl))) (fun _ _ _ _ _ => (pts_one (pt_cmpR op_eq (pe_ix (ixT K) (pv 1) pe_int (fun _ _ => rfl)) pe_str (nomark _)))) (fun _ _ _ _ _ => (pe_slice (slA K) (pv 1) (po_some pe_int) (po_some pe_int)))))), ?_⟩
  walk_at "r"
  refine c_L (sl_dl hL) ?_
  refine cp_list (xs := xs) (fun l k h => Ex H h ∧ Al (l :: S) h ∧ ∃ ys, h l = some (.lst ys) ∧ DpAll K (dl (l :: S) h) ys (letsD (ds.take k)))
    (fun l n => ⟨Ex.new n, (al.ex (Ex.new n)).cons upd_same, [], upd_same, .nil⟩) (fun l k h _ _ g => ex_sl (sl_dl hL) g.1) ?_ ?_
  · rintro l k x h nl hx ⟨e, al2, ys, f, fD⟩
    obtain ⟨d, hd', dx⟩ := ds_at hD hs hx
    have hk := at_lt hx
    have yl := dpa_len fD
    have yl2 := lets_len (ds.take k)
    rw [take_len hd'] at yl2
    obtain ⟨es, o⟩ := st_ok (all_at so hd')
    obtain ⟨p2, xs2, ds2, rfl, e2, hT, hD2, hs2, hl2⟩ := ds_tup dx (by rw [o.e]; rfl)
    cases o.e.symm.trans e2
    have ow := o.w
    have on := o.ne
    have ol := o.lt
    rw [← e2] at ow
    walk_at "r"
    refine ⟨rfl, ?_⟩
    walk_at "r"
    refine a_nthS (i := 0) (ex_st (st_dl hT) e) (dpa_ex ((dl_le S H).trans e) hD2) hs2 on fun v0 d0 => ?_
    rw [← e2, ow] at d0
    cases dp_str d0.1
    walk_at "r"
    refine ite2 (fun c => ?_) (fun c => ?_)
    · have c' := of_decide_eq_true c
      have h4 := (ol c').1
      walk_at "r"
      refine a_sl13 (ex_st (st_dl hT) e) (by omega) fun t H1 n1 e1 f1 => ?_
      refine ⟨ys, e1 _ _ f, sz_lt (by omega), (e.trans e1).mut nl, (al2.ex e1).upd, ys ++ [.ref t], upd_same, ?_⟩
      rw [dl_upd (List.mem_cons_self ..), take_snoc hd', lets_snoc, if_pos c']
      refine dpa_snoc (dpa_ex (dl_ex e1) fD) ?_
      rw [e2]
      exact .tup (SqT.of (dl_at (al2.nin n1) f1)) (dpa_ex ((dl_new nl e).trans (dl_ex e1)) (dpa_take 2 (dpa_drop 1 hD2)))
    · have c' := of_decide_eq_false (nf c)
      refine ⟨e, al2, ys, f, ?_⟩
      rw [take_snoc hd', lets_snoc, if_neg c', List.append_nil]
      exact fD
  · rintro l h nl ⟨e, al2, ys, f, fD⟩
    rw [hl, List.take_length] at fD
    walk_at "r"
    exact q l ys h nl e f (dpa_ex (dl_sub (fun a k => List.mem_cons_of_mem _ k)) fD)
theorem ok_declared (T : Tx K mg) : FnOk P w K mg base CX0 2 T.a_declared T.e_declared p_declared (pDecl K T.C_Function) := by
  refine T.d_declared.F.ok sc_declared (fun vs H Q E h => ?_) (fun cdv A outer s H vs Q E hr h => ?_)
  · obtain ⟨S, pf, ps, fs, ss, rfl, _⟩ := h
    rfl
  obtain ⟨S, pf, ps, fs, ss, rfl, al, ⟨⟨xs, hL, hF⟩, hsx, fo, so, f4, s40⟩, q⟩ := h
  have hl := hF.len
  refine ⟨_, (pss_cons (ps_set (i := 2) sc_declared.nd rfl (.inl rfl) (pe_lst pa_nil))
    (pss_cons (ps_for PassesOwn.never rfl (plK K (pv 0)) (pg_name (i := 3) sc_declared.nd rfl (.inl rfl)) (pss_cons (ps_expr (pe_bm PySem.F.plainAttrs_list PySem.F.slot_list_extend PySem.F.type_list_extend mt_extend (pv 2) (pa_cons (by exact (fldK K (pv 3) rfl)) pa_nil)))
    (pss_one (ps_expr (pe_bm PySem.F.plainAttrs_list PySem.F.slot_list_extend PySem.F.type_list_extend mt_extend (pv 2) (pa_cons (pe_call (ok_declared_by_lets T) (hr.mono (by omega)) (by rfl) T.d_declared_by_lets.m T.d_declared_by_lets.F.kp T.d_declared_by_lets.b .nil pass0 (pa_cons (by exact (fldK K (pv 3) rfl)) pa_nil)) pa_nil))))))
    (pss_cons (ps_expr (pe_bm PySem.F.plainAttrs_list PySem.F.slot_list_extend PySem.F.type_list_extend mt_extend (pv 2) (pa_cons (pe_call (ok_declared_by_lets T) (hr.mono (by omega)) (by rfl) T.d_declared_by_lets.m T.d_declared_by_lets.F.kp T.d_declared_by_lets.b .nil pass0 (pa_cons (pv 1) pa_nil)) pa_nil)))
    (pss_one (ps_ret (pv 2)))))), ?_⟩
  walk_at "r"
  refine new_lst (xs := []) (by simp) fun p H1 n1 e1 f1 => ?_
  have al1 := (al.ex e1).cons f1
  walk_at "r"
  refine r_L (ex_sl (sl_dl hL) e1) ?_
  refine lp_list (xs := xs) (fun k σ h => (∃ z, σ = [some (.ref pf), some (.ref ps), some (.ref p), z]) ∧ Ex H h ∧ Al (p :: S) h ∧ ∃ ys, h p = some (.lst ys) ∧ DpAll K (dl (p :: S) h) ys (declsF (fs.take k)))
    ⟨⟨_, rfl⟩, e1, al1, [], f1, .nil⟩ (fun k σ h _ g => ex_sl (sl_dl hL) g.2.1) ?_ ?_
  · rintro k x σ h hx ⟨⟨z, rfl⟩, e, al2, ys, f, fD⟩
    obtain ⟨a, fd, rfl, hd', hfx⟩ := hF.get hx
    obtain ⟨dx, nv, q1, q2, fa, hn, hp, hb⟩ := hfx.ex
    have hk := at_lt hx
    have fok := fn_le (all_at fo hd')
    have yl := dpa_len fD
    have yle : (declsF (fs.take k)).length ≤ 16 * (fs.take k).length := declsF_le (List.all_eq_true.mpr fun a b => List.all_eq_true.mp fo a (List.mem_of_mem_take b))
    rw [take_len hd'] at yle
    obtain ⟨zs, gq, gD⟩ := hp.ex
    have zl := dpa_len gD
    walk_at "r"
    refine ⟨a_ty f, ?_⟩
    walk_at "r"
    refine a_get T.c_Function T.n_Function_params (e _ _ (dl_le S H _ _ fa)) (fn_params _ _ _) ?_
    walk_at "r"
    refine a_extend f (e _ _ (dl_le S H _ _ gq)) (by omega) ?_
    have g2 : DpAll K (dl (p :: S) (upd h p (.lst (ys ++ zs)))) (ys ++ zs) (declsF (fs.take k) ++ fd.p) := by
      rw [dl_upd (List.mem_cons_self ..)]
      exact dpa_app fD (dpa_ex (dl_new n1 e) gD)
    have e2 : Ex H (upd h p (.lst (ys ++ zs))) := e.mut n1
    have al3 : Al (p :: S) (upd h p (.lst (ys ++ zs))) := al2.upd
    have f2 : (upd h p (.lst (ys ++ zs))) p = some (.lst (ys ++ zs)) := upd_same
    generalize upd h p (.lst (ys ++ zs)) = h2 at g2 e2 al3 f2 ⊢
    walk_at "r"
    refine ⟨a_ty f2, ?_⟩
    walk_at "r"
    refine a_get T.c_Function T.n_Function_body (e2 _ _ (dl_le S H _ _ fa)) (fn_body _ _ _) ?_
    walk_at "r"
    refine ⟨p :: S, q2, fd.b, rfl, al3, hb.dl.up (dl_new n1 e2), fok.2.2.2.2, fun t ts H3 n3 e3 f3 D3 => ?_⟩
    have tl := dpa_len D3
    have tl2 := lets_len fd.b
    walk_at "r"
    refine a_extend (e3 _ _ f2) f3 (by rw [List.length_append]; omega) ?_
    walk_at "r"
    refine ⟨⟨_, rfl⟩, (e2.trans e3).mut n1, (al3.ex e3).upd, _, upd_same, ?_⟩
    rw [dl_upd (List.mem_cons_self ..), take_snoc hd', declsF_snoc, List.append_assoc]
    rw [← List.append_assoc, List.append_assoc ys, ← List.append_assoc]
    rw [← List.append_assoc (declsF _)]
    exact dpa_app (dpa_ex (dl_ex e3) g2) D3
  · rintro σ h ⟨⟨z, rfl⟩, e, al2, ys, f, fD⟩
    rw [hl, List.take_length] at fD
    have yl := dpa_len fD
    have yle := declsF_le fo
    walk_at "r"
    refine ⟨a_ty f, ?_⟩
    walk_at "r"
    refine ⟨p :: S, ps, ss, rfl, al2, hsx.up (dl_new n1 e), so, fun t ts H3 n3 e3 f3 D3 => ?_⟩
    have tl := dpa_len D3
    have tl2 := lets_len ss
    walk_at "r"
    refine a_extend (e3 _ _ f) f3 (by omega) ?_
    walk_at "r"
    refine q p _ _ n1 ((e.trans e3).mut n1) upd_same ?_
    have E : Ex (dl (p :: S) (upd H3 p (.lst (ys ++ ts)))) (dl S (upd H3 p (.lst (ys ++ ts)))) := dl_sub fun a k => List.mem_cons_of_mem _ k
    refine dpa_ex E ?_
    rw [dl_upd (List.mem_cons_self ..)]
    exact dpa_app (dpa_ex (dl_ex e3) fD) D3
theorem ok_all_names (T : Tx K mg) : FnOk P w K mg base CX0 3 T.a_all_names T.e_all_names p_all_names (pNames K T.C_Function) := by
  refine T.d_all_names.F.ok sc_all_names (fun vs H Q E h => ?_) (fun cdv A outer s H vs Q E hr h => ?_)
  · obtain ⟨S, pf, ps, fs, ss, rfl, _⟩ := h
    rfl
  obtain ⟨S, pf, ps, fs, ss, rfl, al, hpg, q⟩ := h
  obtain ⟨⟨xs, hL, hF⟩, hsx, fo, so, f4, s40⟩ := id hpg
  have hl := hF.len
  refine ⟨_, (pss_cons (ps_setLc (i := 2) (own := [("function", 3)]) (g := gName 3) rfl sc_all_names.nd rfl rfl (sw_true rfl rfl rfl (by decide +kernel)) (plK K (pv 0)) (blkOk_by (own := [("function", 3)]) (N := n_all_names) (sc := defScope s_all_names) (by decide +kernel)) (fun _ _ _ _ _ => (pg_name (i := 3) sc_all_names.nd rfl (Or.inl rfl))) (fun _ _ _ _ _ => pts_nil) (fun _ _ _ _ _ => (by exact (fldK K (pv 3) rfl))))
    (pss_one (ps_ret (pe_op op_cat (pv 2) (pe_lc (own := [("name", 4), ("_", 5)]) (g := gTup K 2 (gCons (gName 4) (gCons (gName 5) (gNil)))) rfl sc_all_names.nd  (plK K (pe_call (ok_declared T) (hr.mono (by omega)) (by rfl) T.d_declared.m T.d_declared.F.kp T.d_declared.b .nil pass0 (pa_cons (pv 0) (pa_cons (pv 1) pa_nil)))) (blkOk_by (own := [("name", 4), ("_", 5)]) (N := n_all_names) (sc := defScope s_all_names) (by decide +kernel)) (fun _ _ _ _ _ => (pg_tup (by rfl) (pgs_cons (pg_name (i := 4) sc_all_names.nd rfl (Or.inl rfl)) (pgs_cons (pg_name (i := 5) sc_all_names.nd rfl (Or.inl rfl)) pgs_nil)))) (fun _ _ _ _ _ => pts_nil) (fun _ _ _ _ _ => (pv 4))))))), ?_⟩
  walk_at "r"
  refine c_L (sl_dl hL) ?_
  refine cp_list (xs := xs) (fun l k h => Ex H h ∧ h l = some (.lst (((fs.take k).map fun f => strD f.n).map V.str))) (fun l n => ⟨Ex.new n, upd_same⟩) (fun l k h _ _ g => ex_sl (sl_dl hL) g.1) ?_ ?_
  · rintro l k x h nl hx ⟨e, f⟩
    obtain ⟨a, fd, rfl, hd', hfx⟩ := hF.get hx
    obtain ⟨dx, nv, q1, q2, fa, hn, hp, hb⟩ := hfx.ex
    have hk := at_lt hx
    have nm := name_str (fn_le (all_at fo hd')).2.2.1
    rw [nm.1] at hn
    cases dp_str hn.1
    walk_at "r"
    refine ⟨rfl, ?_⟩
    walk_at "r"
    refine a_get T.c_Function T.n_Function_name (e _ _ (dl_le S H _ _ fa)) (fn_name _ _ _) ?_
    refine ⟨_, f, sz_lt (by rw [List.length_map, List.length_map, List.length_take]; omega), e.mut nl, ?_⟩
    rw [upd_same, take_snoc hd', List.map_append, List.map_append]
    rfl
  · rintro l h nl ⟨e, f⟩
    rw [hl, List.take_length] at f
    walk_at "r"
    refine ⟨S, pf, ps, fs, ss, rfl, al.ex e, hpg.up (dl_ex e), fun t ts H2 n2 e2 f2 D2 => ?_⟩
    have tl := dpa_len D2
    have tle := decls_le fo f4 s40
    have dok := decls_ok fo so
    walk_at "r"
    refine c_L (SqL.of f2) ?_
    refine cp_list (xs := ts) (fun l2 k h2 => Ex H2 h2 ∧ h2 l2 = some (.lst ((((declsD fs ss).take k).map fun d => strD (nthD d 0)).map V.str))) (fun l n => ⟨Ex.new n, upd_same⟩) (fun l k h _ _ g => SqL.of (g.1 _ _ f2)) ?_ ?_
    · rintro l2 k x h2 nl2 hx ⟨e3, f3⟩
      obtain ⟨d, hd', dx⟩ := dpa_at D2 hx
      have hk := at_lt hx
      obtain ⟨es, o⟩ := pr_ok (all_at dok hd')
      rw [o.e] at dx
      obtain ⟨p2, xs2, rfl, hT, hD2⟩ := dp_tup dx
      obtain ⟨u, v, rfl, du, dv⟩ := dpa_two hD2 o.l
      have nm := name_str o.n
      rw [nm.1] at du
      cases dp_str du
      refine w_gtup (ex_st (st_dl hT) e3) rfl ?_
      walk_at "r"
      refine ⟨rfl, ?_⟩
      walk_at "r"
      refine ⟨_, f3, sz_lt (by rw [List.length_map, List.length_map, List.length_take]; omega), e3.mut nl2, ?_⟩
      rw [upd_same, take_snoc hd', List.map_append, List.map_append, o.e]
      rfl
    · rintro l2 h2 nl2 ⟨e3, f3⟩
      rw [tl, List.take_length] at f3
      walk_at "r"
      refine a_cat ((e2.trans e3) _ _ f) f3 (by rw [List.length_map, List.length_map, List.length_map, List.length_map]; omega) fun r H4 n4 e4 f4' => ?_
      have eH : Ex H h2 := (e.trans e2).trans e3
      refine q r H4 ?_ (eH.trans e4) ?_
      · cases z : H r with
        | none => rfl
        | some o => rw [eH _ _ z] at n4; cases n4
      · rw [f4']
        unfold namesD
        rw [List.map_append]
theorem ok_all_kinds (T : Tx K mg) : FnOk P w K mg base CX0 3 T.a_all_kinds T.e_all_kinds p_all_kinds (pKinds K T.C_Function) := by
  refine T.d_all_kinds.F.ok sc_all_kinds (fun vs H Q E h => ?_) (fun cdv A outer s H vs Q E hr h => ?_)
  · obtain ⟨S, pf, ps, fs, ss, rfl, _⟩ := h
    rfl
  obtain ⟨S, pf, ps, fs, ss, rfl, al, hpg, q⟩ := h
  obtain ⟨⟨xs, hL, hF⟩, hsx, fo, so, f4, s40⟩ := id hpg
  refine ⟨_, (pss_one (ps_ret (pe_lc (own := [("_", 2), ("kind", 3)]) (g := gTup K 2 (gCons (gName 2) (gCons (gName 3) (gNil)))) rfl sc_all_kinds.nd  (plK K (pe_call (ok_declared T) (hr.mono (by omega)) (by rfl) T.d_declared.m T.d_declared.F.kp T.d_declared.b .nil pass0 (pa_cons (pv 0) (pa_cons (pv 1) pa_nil)))) (blkOk_by (own := [("_", 2), ("kind", 3)]) (N := n_all_kinds) (sc := defScope s_all_kinds) (by decide +kernel)) (fun _ _ _ _ _ => (pg_tup (by rfl) (pgs_cons (pg_name (i := 2) sc_all_kinds.nd rfl (Or.inl rfl)) (pgs_cons (pg_name (i := 3) sc_all_kinds.nd rfl (Or.inl rfl)) pgs_nil)))) (fun _ _ _ _ _ => pts_nil) (fun _ _ _ _ _ => (pv 3))))), ?_⟩
  walk_at "r"
  refine ⟨S, pf, ps, fs, ss, rfl, al, hpg, fun t ts H2 n2 e2 f2 D2 => ?_⟩
  have tl := dpa_len D2
  have tle := decls_le fo f4 s40
  have dok := decls_ok fo so
  walk_at "r"
  refine c_L (SqL.of f2) ?_
  refine cp_list (xs := ts) (fun l2 k h2 => Ex H2 h2 ∧ ∃ ys, h2 l2 = some (.lst ys) ∧ DpAll K (dl S H2) ys (((declsD fs ss).take k).map fun d => nthD d 1)) (fun l n => ⟨Ex.new n, [], upd_same, .nil⟩) (fun l k h _ _ g => SqL.of (g.1 _ _ f2)) ?_ ?_
  · rintro l2 k x h2 nl2 hx ⟨e3, ys, f3, fD⟩
    obtain ⟨d, hd', dx⟩ := dpa_at D2 hx
    have hk := at_lt hx
    have yl := dpa_len fD
    rw [List.length_map, take_len hd'] at yl
    obtain ⟨es, o⟩ := pr_ok (all_at dok hd')
    rw [o.e] at dx
    obtain ⟨p2, xs2, rfl, hT, hD2⟩ := dp_tup dx
    obtain ⟨u, v, rfl, du, dv⟩ := dpa_two hD2 o.l
    refine w_gtup (ex_st (st_dl hT) e3) rfl ?_
    walk_at "r"
    refine ⟨rfl, ?_⟩
    walk_at "r"
    refine ⟨ys, f3, sz_lt (by omega), e3.mut nl2, ys ++ [v], upd_same, ?_⟩
    rw [take_snoc hd', List.map_append, o.e]
    exact dpa_snoc fD dv
  · rintro l2 h2 nl2 ⟨e3, ys, f3, fD⟩
    rw [tl, List.take_length] at fD
    walk_at "r"
    refine q l2 ys h2 ?_ (e2.trans e3) f3 (dpa_ex (dl_ex e3) fD)
    cases z : H l2 with
    | none => rfl
    | some o => rw [e2 _ _ z] at nl2; cases nl2

end
end Ver

set_option Elab.async false
set_option linter.all false
set_option maxRecDepth 100000
set_option maxHeartbeats 4000000
namespace Ver
open PySem PySem.Spec PyProof.Rows L2 Evl
local macro_rules | `(tactic| walk_at "s") => `(tactic| with_reducible first
  | refine w_seq ?_ | refine w_asg ?_ | refine w_name ?_ | refine w_if ?_ | refine w_ret ?_ | refine w_drop ?_ | refine w_next ?_ | refine w_brk ?_ | refine w_cont ?_
  | (refine w_var (v := ?vv) ?hh ?_; (case hh => with_unfolding_all exact rfl))
  | refine w_c ?_ | refine w_op ?_ | refine w_un ?_ | refine w_I0 ?_ | refine w_neg ?_ | refine w_eqI ?_ | refine w_neI ?_ | refine w_eqS ?_ | refine w_neS ?_ | refine w_eqB ?_ | refine w_neB ?_
  | refine w_test ?_ | refine w_B ?_ | refine w_and ?_ | refine w_or ?_ | refine w_not ?_ | refine w_andV ?_ | refine w_orV ?_ | refine w_notV ?_ | refine w_ifE ?_ | refine w_yes ?_
  | refine w_nil ?_ | refine w_cons ?_ | refine w_CB ?_ | refine w_callN ?_ | refine w_BM ?_ | refine w_BMT ?_ | refine w_BM0 ?_ | refine w_noPart ?_ | refine w_part ?_ | refine w_sl ?_ | refine w_tup ?_ | refine w_lst ?_
  | refine w_subG ?_ | refine w_gcons ?_ | refine w_gnil ?_ | refine w_for ?_ | refine w_lc ?_ | refine w_iR1 ?_ | refine w_iR2 ?_ | refine w_iL ?_ | refine w_iT ?_ | refine w_iS ?_
  | (show ∃ k, V.bl _ = V.bl k ∧ _; refine ⟨_, rfl, ?_⟩) | (show ∃ k, V.int _ = V.int k ∧ _; refine ⟨_, rfl, ?_⟩)
  | refine iteT ?_ | refine iteF ?_ | refine iteNT ?_ | refine iteNF ?_ | refine r_S ?_ | refine c_S ?_ | refine a_abs ?_ | refine a_intI ?_ | refine a_intB ?_ | refine w_par ?_ | refine w_dK ?_ | refine w_chain ?_ | (show ∃ v w, [_, _] = [v, w] ∧ _; refine ⟨_, _, rfl, ?_⟩)
  | refine w_getF ?_ | refine w_setF ?_ | refine w_newI ?_ | refine w_callS ?_ | refine w_getD1 ?_ | refine w_putD ?_ | refine w_veI ?_ | refine w_ostI ?_ | refine w_mkO ?_ | refine w_newS ?_ | refine w_xf ?_ | refine w_dget ?_ | refine w_din ?_ | refine w_dnin ?_ | refine w_iEn ?_ | refine w_iZp ?_ | refine w_dc ?_
  | refine a_isNn ?_ | refine a_isNr ?_ | refine a_notNn ?_ | refine a_notNr ?_ | refine a_isTy ?_ | refine a_notTy ?_ | refine a_isBl ?_ | refine a_notBl ?_)
local macro_rules | `(tactic| walk_at "r") => `(tactic| repeat walk_at "s")
local macro_rules | `(tactic| walk_at "tr") => `(tactic| first
  | assumption
  | (refine ex_at (H := ?H0) ?h1 ?h2; (case h2 => assumption); (case h1 => walk_at "tr"))
  | (refine ks_at (H := ?H0) (S := ?S0) ?h1 ?h2 ?h3; (case h2 => assumption); (case h3 => walk_at "nin"); (case h1 => walk_at "tr")))
local macro_rules | `(tactic| walk_at "nin") => `(tactic| first
  | exact nin_nil | (refine nin_cons ?h1 ?h2; (case h1 => walk_at "ne"); (case h2 => walk_at "nin")))
local macro_rules | `(tactic| walk_at "ne") => `(tactic| first
  | assumption | exact Ne.symm (by assumption)
  | (refine bx_nb (H := ?H0) (r := ?r0) ?h1 ?h2; (case h2 => assumption); (case h1 => walk_at "bx"))
  | (refine bx_nr (H := ?H0) (b := ?b0) ?h1 ?h2; (case h2 => assumption); (case h1 => walk_at "bx"))
  | (refine Ne.symm (bx_nb (H := ?H0) (r := ?r0) ?h1 ?h2); (case h2 => assumption); (case h1 => walk_at "bx"))
  | (refine ne_old (H := ?H0) (o := ?o0) ?h1 ?h2; (case h2 => assumption); (case h1 => walk_at "tr"))
  | (refine Ne.symm (ne_old (H := ?H0) (o := ?o0) ?h1 ?h2); (case h2 => assumption); (case h1 => walk_at "tr"))
  | exact (Tu.ne (by assumption) (by assumption)).1 | exact (Tu.ne (by assumption) (by assumption)).2
  | (refine bx_rb (H := ?H0) ?h1; (case h1 => walk_at "bx")))
local macro_rules | `(tactic| walk_at "tu") => `(tactic| first
  | assumption
  | (refine Tu.ex (H := ?H0) ?h1 ?h2; (case h2 => assumption); (case h1 => walk_at "tu"))
  | (refine Tu.ks (H := ?H0) (S := ?S0) ?h1 ?h2 ?h3; (case h2 => assumption); (case h3 => walk_at "nin"); (case h1 => walk_at "tu")))
local macro_rules | `(tactic| walk_at "bx") => `(tactic| first
  | assumption
  | (refine bx_ex (H := ?H0) ?h1 ?h2; (case h2 => assumption); (case h1 => walk_at "bx"))
  | (refine bx_ks (H := ?H0) (S := ?S0) ?h1 ?h2 ?h3 ?h4; (case h2 => assumption); (case h3 => walk_at "nin"); (case h4 => walk_at "nin"); (case h1 => walk_at "bx")))
local macro_rules | `(tactic| walk_at "sl") => `(tactic| first
  | assumption | (refine SqL.of ?h1; (case h1 => walk_at "tr"))
  | (refine ex_sl (H := ?H0) ?h1 ?h2; (case h2 => assumption); (case h1 => walk_at "sl"))
  | (refine ks_sl (H := ?H0) (S := ?S0) ?h1 ?h2 ?h3; (case h2 => assumption); (case h3 => walk_at "nin"); (case h1 => walk_at "sl")))
local macro_rules | `(tactic| walk_at "st") => `(tactic| first
  | assumption | (refine Tu.st ?h1; (case h1 => walk_at "tu")) | (refine SqT.of ?h1; (case h1 => walk_at "tr"))
  | (refine ex_st (H := ?H0) ?h1 ?h2; (case h2 => assumption); (case h1 => walk_at "st"))
  | (refine ks_st (H := ?H0) (S := ?S0) ?h1 ?h2 ?h3; (case h2 => assumption); (case h3 => walk_at "nin"); (case h1 => walk_at "st")))
local macro_rules | `(tactic| walk_at "ex") => `(tactic| first
  | exact Ex.refl _ | assumption | (refine Ex.trans (H1 := ?H0) ?h1 ?h2; (case h2 => assumption); (case h1 => walk_at "ex")))
local macro_rules | `(tactic| walk_at "ks") => `(tactic| first
  | exact Ks.refl _ _ | assumption | (refine Ks.of ?h1; (case h1 => assumption)) | (refine Ks.trans (H1 := ?H0) ?h1 ?h2; (case h2 => first | assumption | (refine Ks.of ?h3; (case h3 => assumption))); (case h1 => walk_at "ks")))
local macro_rules | `(tactic| walk_at "dp") => `(tactic| first
  | exact Dp.str _ | exact Dp.int _ | exact Dp.bl _ | exact Dp.non | assumption | exact LsAt.dp (by assumption)
  | (refine dp_ex (H := ?H0) ?h1 ?h2; (case h1 => assumption); (case h2 => walk_at "dp")))
local macro_rules | `(tactic| walk_at "ev") => `(tactic| with_reducible first
  | exact ev_nil | refine ev_cons ?_ ?_ | exact ev_str | exact ev_int | exact ev_bl | exact ev_non
  | (refine ev_tup ?hal ?_ ?hle; (case hal => assumption); (case hle => with_unfolding_all exact Nat.le_of_ble_eq_true rfl))
  | (refine ev_ll (ev_lst ?hal ?_ ?hle); (case hal => assumption); (case hle => with_unfolding_all exact Nat.le_of_ble_eq_true rfl))
  | (refine ev_ll (ev_rep (n := ?nn) ?hal ?_ ?he ?hz); (case he => with_unfolding_all exact rfl); (case hal => assumption); (case hz => with_unfolding_all omega))
  | (refine ev_lst ?hal ?_ ?hle; (case hal => assumption); (case hle => with_unfolding_all exact Nat.le_of_ble_eq_true rfl))
  | (refine ev_lt ?he; (case he => with_unfolding_all exact rfl))
  | (refine ev_let ?hal ?_ ?hs; (case hal => assumption); (case hs => with_unfolding_all first | decide +kernel | rfl))
  | (refine ev_var (v := ?vv) ?he ?hd; (case he => with_unfolding_all exact rfl); (case hd => with_unfolding_all walk_at "dp")))

section
variable {P : Program} {w : World} {K : PySem.W.Frag} {mg : Str → Option Value} {base : Heap}
/-! ### the program: whole programs -/
theorem ok_are_of_one_kind (T : Tx K mg) : FnOk P w K mg base CX0 4 T.a_are_of_one_kind T.e_are_of_one_kind p_are_of_one_kind (pKind K) := by
  refine T.d_are_of_one_kind.F.ok sc_are_of_one_kind (fun vs H Q E h => ?_) (fun cdv A outer s H vs Q E hr h => ?_)
  · obtain ⟨p, ds, rfl, _⟩ := h
    rfl
  obtain ⟨p, ds, rfl, ⟨⟨xs, hL, hD⟩, hs, hz⟩, q⟩ := h
  have hl := dpa_len hD
  refine ⟨_, (pss_one (ps_ret (pe_or (pe_callB (allK K) (by rfl) T.b_all (by decide +kernel) (pa_cons (pe_lc (own := [("kind", 1)]) (g := gName 1) rfl sc_are_of_one_kind.nd  (plK K (pv 0)) (blkOk_by (own := [("kind", 1)]) (N := n_are_of_one_kind) (sc := defScope s_are_of_one_kind) (by decide +kernel)) (fun _ _ _ _ _ => (pg_name (i := 1) sc_are_of_one_kind.nd rfl (Or.inl rfl))) (fun _ _ _ _ _ => pts_nil) (fun _ _ _ _ _ => (pe_call (ok_is_type T) (hr.mono (by omega)) (by rfl) T.d_is_type.m T.d_is_type.F.kp T.d_is_type.b .nil pass0 (pa_cons (pv 1) pa_nil)))) pa_nil)) (pe_one (pe_callB (allK K) (by rfl) T.b_all (by decide +kernel) (pa_cons (pe_lc (own := [("kind", 1)]) (g := gName 1) rfl sc_are_of_one_kind.nd  (plK K (pv 0)) (blkOk_by (own := [("kind", 1)]) (N := n_are_of_one_kind) (sc := defScope s_are_of_one_kind) (by decide +kernel)) (fun _ _ _ _ _ => (pg_name (i := 1) sc_are_of_one_kind.nd rfl (Or.inl rfl))) (fun _ _ _ _ _ => pts_nil) (fun _ _ _ _ _ => (pe_call (ok_is_depth T) (hr.mono (by omega)) (by rfl) T.d_is_depth.m T.d_is_depth.F.kp T.d_is_depth.b .nil pass0 (pa_cons (pv 1) pa_nil)))) pa_nil)))))), ?_⟩
  walk_at "r"
  refine c_L hL ?_
  refine cp_list (xs := xs) (fun l k h => Ex H h ∧ h l = some (.lst (((ds.take k).map typD).map V.bl))) (fun l n => ⟨Ex.new n, upd_same⟩) (fun l k h _ _ g => ex_sl hL g.1) ?_ ?_
  · rintro l k x h nl hx ⟨e, f⟩
    obtain ⟨d, hd', dx⟩ := ds_at hD hs hx
    have hk := at_lt hx
    walk_at "r"
    refine ⟨rfl, ?_⟩
    walk_at "r"
    refine ⟨x, d, rfl, ds_ex dx e, fun H1 e1 => ?_⟩
    refine ⟨_, e1 _ _ f, sz_lt (by rw [bools_len]; omega), (e.trans e1).mut nl, ?_⟩
    rw [upd_same, bools_snoc typD hd']
  rintro l h nl ⟨e, f⟩
  walk_at "r"
  rw [hl, List.take_length] at f
  refine ⟨l, _, rfl, SqL.of f, ?_⟩
  rw [bools_all]
  have g := q h e
  unfold kindD at g
  walk_at "r"
  refine ite2 (fun c => ?_) (fun c => ?_)
  · rw [c] at g
    exact g
  walk_at "r"
  refine c_L (ex_sl hL e) ?_
  refine cp_list (xs := xs) (fun l k h2 => Ex h h2 ∧ h2 l = some (.lst (((ds.take k).map fun d => numD d 5).map V.bl))) (fun l n => ⟨Ex.new n, upd_same⟩) (fun l k h _ _ g => ex_sl hL (e.trans g.1)) ?_ ?_
  · rintro l k x h2 nl hx ⟨e2, f2⟩
    obtain ⟨d, hd', dx⟩ := ds_at hD hs hx
    have hk := at_lt hx
    walk_at "r"
    refine ⟨rfl, ?_⟩
    walk_at "r"
    refine ⟨x, d, rfl, ds_ex dx (e.trans e2), fun H1 e1 => ?_⟩
    refine ⟨_, e1 _ _ f2, sz_lt (by rw [bools_len]; omega), (e2.trans e1).mut nl, ?_⟩
    rw [upd_same, bools_snoc (fun d => numD d 5) hd']
  rintro l2 h2 nl2 ⟨e2, f2⟩
  walk_at "r"
  rw [hl, List.take_length] at f2
  refine ⟨l2, _, rfl, SqL.of f2, ?_⟩
  rw [bools_all]
  have g2 := q h2 (e.trans e2)
  unfold kindD at g2
  rw [nf c] at g2
  exact g2
theorem ok_calls_fit (T : Tx K mg) : FnOk P w K mg base CX0 1 T.a_calls_fit T.e_calls_fit p_calls_fit (pFit K) := by
  refine T.d_calls_fit.F.ok sc_calls_fit (fun vs H Q E h => ?_) (fun cdv A outer s H vs Q E hr h => ?_)
  · obtain ⟨ps, ss, m, kvs, rfl, _⟩ := h
    rfl
  obtain ⟨ps, ss, m, kvs, rfl, ⟨⟨xs, hL, hD⟩, hs, hz⟩, so, fm, ik, q⟩ := h
  have hl := dpa_len hD
  have hu := hu_of hr
  refine ⟨_, (pss_cons (ps_for PassesOwn.never rfl (plK K (pv 0)) (pg_name (i := 2) sc_calls_fit.nd rfl (.inl rfl)) (pss_one (ps_if (PW.pt (pw_and (pt_cmpR op_eq (pe_ix (ixT K) (pv 2) pe_int (fun _ _ => rfl)) pe_str (nomark _)) (pw_and1 (pt_cmpR op_ne (pe_dget1 hu (pv 1) (pe_ix (ixT K) (pv 2) pe_int (fun _ _ => rfl)) ⟨rfl, rfl, rfl, rfl⟩) (pe_callB (lenK K) (by rfl) T.b_len PySem.boot_len (pa_cons (pe_ix (ixT K) (pv 2) pe_int (fun _ _ => rfl)) pa_nil)) (nomark _))))) (pss_one (ps_ret pe_bl)) pss_nil)))
    (pss_one (ps_ret pe_bl))), ?_⟩
  walk_at "r"
  refine r_L hL ?_
  refine lp_list (xs := xs) (fun k σ h => (∃ z, σ = [some (.ref ps), some (.ref m), z]) ∧ h = H ∧ (ss.take k).all (fit1 kvs) = true)
    ⟨⟨_, rfl⟩, rfl, rfl⟩ (fun k σ h _ g => by rw [g.2.1]; exact hL) ?_ ?_
  · rintro k x σ h hx ⟨⟨z, rfl⟩, rfl, fD⟩
    obtain ⟨d, hd', dx⟩ := ds_at hD hs hx
    have hk := at_lt hx
    obtain ⟨es, o⟩ := st_ok (all_at so hd')
    obtain ⟨p2, xs2, ds2, rfl, e2, hT, hD2, hs2, hl2⟩ := ds_tup dx (by rw [o.e]; rfl)
    cases o.e.symm.trans e2
    have ow := o.w
    have on := o.ne
    have ol := o.cl
    rw [← e2] at ow
    have nxt : fit1 kvs d = true → (ss.take (k + 1)).all (fit1 kvs) = true := fun z => by
      rw [take_snoc hd', List.all_append, fD, List.all_cons, z]
      rfl
    have bad : fit1 kvs d = false → Q (.bl false) h := fun z => by
      have g := q h (Ex.refl _)
      have e : fitD kvs ss = false := by
        cases y : fitD kvs ss with
        | false => rfl
        | true => rw [all_at y hd'] at z; cases z
      rw [e] at g
      exact g
    walk_at "r"
    refine a_nthS (i := 0) hT hD2 hs2 on fun v0 d0 => ?_
    rw [← e2, ow] at d0
    cases dp_str d0.1
    walk_at "r"
    refine ite2 (fun c => ?_) (fun c => ?_)
    · have c' := of_decide_eq_true c
      have h3 := ol c'
      have nm := name_str h3.2.1
      walk_at "r"
      refine a_getD fm ?_
      walk_at "r"
      refine a_nthS (i := 1) hT hD2 hs2 (by omega) fun v1 d1 => ?_
      rw [← e2, nm.1] at d1
      cases dp_str d1.1
      refine ⟨_, DGet.k (k := Sum.inr (strD (nthD d 1))) fm, ?_⟩
      walk_at "r"
      refine a_nthS (i := 2) hT hD2 hs2 (by omega) fun v2 d2 => ?_
      rw [← e2] at d2
      have tg : tagD (nthD d 2) = "list" := by
        have := h3.2.2
        unfold srcsD at this
        rw [Bool.and_eq_true] at this
        exact of_decide_eq_true this.1
      obtain ⟨p3, xs3, ds3, rfl, e3, hL3, _, _, _, hl3⟩ := ds_lst d2 tg
      walk_at "r"
      refine a_lenL hL3 ?_
      refine w_ne (int_scal ik _ _) ?_
      walk_at "r"
      have ef : fit1 kvs d = decide ((valV kvs (Sum.inr (strD (nthD d 1)))).getD .non = .int (xs3.length : Nat)) := by
        unfold fit1
        rw [c, e3, hl3]
        rfl
      refine ite2 (fun c2 => ?_) (fun c2 => ?_)
      · walk_at "r"
        refine bad ?_
        rw [ef]
        cases y : decide ((valV kvs (Sum.inr (strD (nthD d 1)))).getD .non = .int (xs3.length : Nat)) with
        | false => rfl
        | true => rw [y] at c2; cases c2
      · walk_at "r"
        refine ⟨⟨_, rfl⟩, rfl, nxt ?_⟩
        rw [ef]
        cases y : decide ((valV kvs (Sum.inr (strD (nthD d 1)))).getD .non = .int (xs3.length : Nat)) with
        | true => rfl
        | false => rw [y] at c2; exact absurd rfl c2
    · walk_at "r"
      refine ⟨⟨_, rfl⟩, rfl, nxt ?_⟩
      unfold fit1
      rw [nf c]
      rfl
  · rintro σ h ⟨⟨z, rfl⟩, rfl, fD⟩
    rw [hl, List.take_length] at fD
    walk_at "r"
    have g := q h (Ex.refl _)
    unfold fitD at g
    rw [fD] at g
    exact g
theorem ok_all_calls_fit (T : Tx K mg) : FnOk P w K mg base CX0 2 T.a_all_calls_fit T.e_all_calls_fit p_all_calls_fit (pFits K T.C_Function) := by
  refine T.d_all_calls_fit.F.ok sc_all_calls_fit (fun vs H Q E h => ?_) (fun cdv A outer s H vs Q E hr h => ?_)
  · obtain ⟨pf, ps, fs, ss, rfl, _⟩ := h
    rfl
  obtain ⟨pf, ps, fs, ss, rfl, ⟨⟨xs, hL, hF⟩, hsx, fo, so, f4, s40⟩, q⟩ := h
  have hl := hF.len
  have hu := hu_of hr
  refine ⟨_, (pss_cons (ps_set (i := 2) sc_all_calls_fit.nd rfl (.inl rfl) pe_dnewK)
    (pss_cons (ps_for PassesOwn.never rfl (plK K (pv 0)) (pg_name (i := 3) sc_all_calls_fit.nd rfl (.inl rfl)) (pss_cons (ps_if (pt_not (pt_val (pe_call (ok_calls_fit T) (hr.mono (by omega)) (by rfl) T.d_calls_fit.m T.d_calls_fit.F.kp T.d_calls_fit.b .nil pass0 (pa_cons (by exact (fldK K (pv 3) rfl)) (pa_cons (pv 2) pa_nil))))) (pss_one (ps_ret pe_bl)) pss_nil)
    (pss_one (ps_dput hu (pv 2) (by exact (fldK K (pv 3) rfl)) (pe_callB (lenK K) (by rfl) T.b_len PySem.boot_len (pa_cons (by exact (fldK K (pv 3) rfl)) pa_nil)) rfl))))
    (pss_one (ps_ret (pe_call (ok_calls_fit T) (hr.mono (by omega)) (by rfl) T.d_calls_fit.m T.d_calls_fit.F.kp T.d_calls_fit.b .nil pass0 (pa_cons (pv 1) (pa_cons (pv 2) pa_nil))))))), ?_⟩
  walk_at "r"
  refine new_dK fun m H1 n1 e1 f1 => ?_
  walk_at "r"
  refine r_L (ex_sl hL e1) ?_
  refine lp_list (xs := xs) (fun k σ h => (∃ z, σ = [some (.ref pf), some (.ref ps), some (.ref m), z]) ∧ Ex H h ∧ ∃ kvs, h m = some (.dK kvs) ∧ IntK kvs ∧ kvs.length ≤ k ∧ fitF [] fs ss = fitF kvs (fs.drop k) ss)
    ⟨⟨_, rfl⟩, e1, [], f1, (fun k v e => by cases e), Nat.le_refl _, rfl⟩ (fun k σ h _ g => ex_sl hL g.2.1) ?_ ?_
  · rintro k x σ h hx ⟨⟨z, rfl⟩, e, kvs, fm, ik, kl, ef⟩
    obtain ⟨a, fd, rfl, hd', hfx⟩ := hF.get hx
    obtain ⟨dx, nv, q1, q2, fa, hn, hp, hb⟩ := hfx.ex
    have hk := at_lt hx
    have fok := fn_le (all_at fo hd')
    have nm := name_str fok.2.2.1
    rw [nm.1] at hn
    cases dp_str hn.1
    obtain ⟨zs, gq, gD⟩ := hp.ex
    have zl := dpa_len gD
    have ed : fs.drop k = fd :: fs.drop (k + 1) := by
      rw [← List.getElem_cons_drop (h := by rw [← hl]; exact hk)]
      congr 1
      rw [List.getElem?_eq_getElem (by rw [← hl]; exact hk)] at hd'
      exact Option.some.inj hd'
    rw [ed] at ef
    have ef2 : fitF [] fs ss = (fitD kvs fd.b && fitF (putN kvs fd) (fs.drop (k + 1)) ss) := ef
    walk_at "r"
    refine a_get T.c_Function T.n_Function_body (e _ _ fa) (fn_body _ _ _) ?_
    walk_at "r"
    refine ⟨q2, fd.b, m, kvs, rfl, hb.dl.up e, fok.2.2.2.2, fm, ik, fun H2 e2 => ?_⟩
    walk_at "r"
    refine ite2 (fun c => ?_) (fun c => ?_)
    · have c' : fitD kvs fd.b = false := by
        cases y : fitD kvs fd.b with
        | false => rfl
        | true => rw [y] at c; cases c
      rw [c'] at ef2
      have g := q H2 (e.trans e2)
      rw [ef2] at g
      walk_at "r"
      exact g
    have c1 : fitD kvs fd.b = true := by
      cases y : fitD kvs fd.b with
      | true => rfl
      | false => rw [y] at c; exact absurd rfl c
    rw [c1, Bool.true_and] at ef2
    have e12 := e.trans e2
    walk_at "r"
    refine a_get T.c_Function T.n_Function_params (e12 _ _ fa) (fn_params _ _ _) ?_
    walk_at "r"
    refine a_lenL (SqL.of (e12 _ _ gq)) ?_
    walk_at "r"
    refine a_get T.c_Function T.n_Function_name (e12 _ _ fa) (fn_name _ _ _) ?_
    refine a_putD (e2 _ _ fm) (by omega) ?_
    walk_at "r"
    have pl := putN_le kvs fd
    refine ⟨⟨_, rfl⟩, e12.mut n1, putN kvs fd, ?_, ik.put fd, ?_, ef2⟩
    · rw [upd_same, zl]
      rfl
    · omega
  · rintro σ h ⟨⟨z, rfl⟩, e, kvs, fm, ik, kl, ef⟩
    rw [hl, List.drop_length] at ef
    walk_at "r"
    refine ⟨ps, ss, m, kvs, rfl, hsx.up e, so, fm, ik, fun H2 e2 => ?_⟩
    have g := q H2 (e.trans e2)
    rw [ef] at g
    exact g

end
end Ver

set_option Elab.async false
set_option linter.all false
set_option maxRecDepth 100000
set_option maxHeartbeats 4000000
namespace Ver
open PySem PySem.Spec PyProof.Rows L2 Evl
local macro_rules | `(tactic| walk_at "s") => `(tactic| with_reducible first
  | refine w_seq ?_ | refine w_asg ?_ | refine w_name ?_ | refine w_if ?_ | refine w_ret ?_ | refine w_drop ?_ | refine w_next ?_ | refine w_brk ?_ | refine w_cont ?_
  | (refine w_var (v := ?vv) ?hh ?_; (case hh => with_unfolding_all exact rfl))
  | refine w_c ?_ | refine w_op ?_ | refine w_un ?_ | refine w_I0 ?_ | refine w_neg ?_ | refine w_eqI ?_ | refine w_neI ?_ | refine w_eqS ?_ | refine w_neS ?_ | refine w_eqB ?_ | refine w_neB ?_
  | refine w_test ?_ | refine w_B ?_ | refine w_and ?_ | refine w_or ?_ | refine w_not ?_ | refine w_andV ?_ | refine w_orV ?_ | refine w_notV ?_ | refine w_ifE ?_ | refine w_yes ?_
  | refine w_nil ?_ | refine w_cons ?_ | refine w_CB ?_ | refine w_callN ?_ | refine w_BM ?_ | refine w_BMT ?_ | refine w_BM0 ?_ | refine w_noPart ?_ | refine w_part ?_ | refine w_sl ?_ | refine w_tup ?_ | refine w_lst ?_
  | refine w_subG ?_ | refine w_gcons ?_ | refine w_gnil ?_ | refine w_for ?_ | refine w_lc ?_ | refine w_iR1 ?_ | refine w_iR2 ?_ | refine w_iL ?_ | refine w_iT ?_ | refine w_iS ?_
  | (show ∃ k, V.bl _ = V.bl k ∧ _; refine ⟨_, rfl, ?_⟩) | (show ∃ k, V.int _ = V.int k ∧ _; refine ⟨_, rfl, ?_⟩)
  | refine iteT ?_ | refine iteF ?_ | refine iteNT ?_ | refine iteNF ?_ | refine r_S ?_ | refine c_S ?_ | refine a_abs ?_ | refine a_intI ?_ | refine a_intB ?_ | refine w_par ?_ | refine w_dK ?_ | refine w_chain ?_ | (show ∃ v w, [_, _] = [v, w] ∧ _; refine ⟨_, _, rfl, ?_⟩)
  | refine w_getF ?_ | refine w_setF ?_ | refine w_newI ?_ | refine w_callS ?_ | refine w_getD1 ?_ | refine w_putD ?_ | refine w_veI ?_ | refine w_ostI ?_ | refine w_mkO ?_ | refine w_newS ?_ | refine w_xf ?_ | refine w_dget ?_ | refine w_din ?_ | refine w_dnin ?_ | refine w_iEn ?_ | refine w_iZp ?_ | refine w_dc ?_
  | refine a_isNn ?_ | refine a_isNr ?_ | refine a_notNn ?_ | refine a_notNr ?_ | refine a_isTy ?_ | refine a_notTy ?_ | refine a_isBl ?_ | refine a_notBl ?_)
local macro_rules | `(tactic| walk_at "r") => `(tactic| repeat walk_at "s")
local macro_rules | `(tactic| walk_at "tr") => `(tactic| first
  | assumption
  | (refine ex_at (H := ?H0) ?h1 ?h2; (case h2 => assumption); (case h1 => walk_at "tr"))
  | (refine ks_at (H := ?H0) (S := ?S0) ?h1 ?h2 ?h3; (case h2 => assumption); (case h3 => walk_at "nin"); (case h1 => walk_at "tr")))
local macro_rules | `(tactic| walk_at "nin") => `(tactic| first
  | exact nin_nil | (refine nin_cons ?h1 ?h2; (case h1 => walk_at "ne"); (case h2 => walk_at "nin")))
local macro_rules | `(tactic| walk_at "ne") => `(tactic| first
  | assumption | exact Ne.symm (by assumption)
  | (refine bx_nb (H := ?H0) (r := ?r0) ?h1 ?h2; (case h2 => assumption); (case h1 => walk_at "bx"))
  | (refine bx_nr (H := ?H0) (b := ?b0) ?h1 ?h2; (case h2 => assumption); (case h1 => walk_at "bx"))
  | (refine Ne.symm (bx_nb (H := ?H0) (r := ?r0) ?h1 ?h2); (case h2 => assumption); (case h1 => walk_at "bx"))
  | (refine ne_old (H := ?H0) (o := ?o0) ?h1 ?h2; (case h2 => assumption); (case h1 => walk_at "tr"))
  | (refine Ne.symm (ne_old (H := ?H0) (o := ?o0) ?h1 ?h2); (case h2 => assumption); (case h1 => walk_at "tr"))
  | exact (Tu.ne (by assumption) (by assumption)).1 | exact (Tu.ne (by assumption) (by assumption)).2
  | (refine bx_rb (H := ?H0) ?h1; (case h1 => walk_at "bx")))
local macro_rules | `(tactic| walk_at "tu") => `(tactic| first
  | assumption
  | (refine Tu.ex (H := ?H0) ?h1 ?h2; (case h2 => assumption); (case h1 => walk_at "tu"))
  | (refine Tu.ks (H := ?H0) (S := ?S0) ?h1 ?h2 ?h3; (case h2 => assumption); (case h3 => walk_at "nin"); (case h1 => walk_at "tu")))
local macro_rules | `(tactic| walk_at "bx") => `(tactic| first
  | assumption
  | (refine bx_ex (H := ?H0) ?h1 ?h2; (case h2 => assumption); (case h1 => walk_at "bx"))
  | (refine bx_ks (H := ?H0) (S := ?S0) ?h1 ?h2 ?h3 ?h4; (case h2 => assumption); (case h3 => walk_at "nin"); (case h4 => walk_at "nin"); (case h1 => walk_at "bx")))
local macro_rules | `(tactic| walk_at "sl") => `(tactic| first
  | assumption | (refine SqL.of ?h1; (case h1 => walk_at "tr"))
  | (refine ex_sl (H := ?H0) ?h1 ?h2; (case h2 => assumption); (case h1 => walk_at "sl"))
  | (refine ks_sl (H := ?H0) (S := ?S0) ?h1 ?h2 ?h3; (case h2 => assumption); (case h3 => walk_at "nin"); (case h1 => walk_at "sl")))
local macro_rules | `(tactic| walk_at "st") => `(tactic| first
  | assumption | (refine Tu.st ?h1; (case h1 => walk_at "tu")) | (refine SqT.of ?h1; (case h1 => walk_at "tr"))
  | (refine ex_st (H := ?H0) ?h1 ?h2; (case h2 => assumption); (case h1 => walk_at "st"))
  | (refine ks_st (H := ?H0) (S := ?S0) ?h1 ?h2 ?h3; (case h2 => assumption); (case h3 => walk_at "nin"); (case h1 => walk_at "st")))
local macro_rules | `(tactic| walk_at "ex") => `(tactic| first
  | exact Ex.refl _ | assumption | (refine Ex.trans (H1 := ?H0) ?h1 ?h2; (case h2 => assumption); (case h1 => walk_at "ex")))
local macro_rules | `(tactic| walk_at "ks") => `(tactic| first
  | exact Ks.refl _ _ | assumption | (refine Ks.of ?h1; (case h1 => assumption)) | (refine Ks.trans (H1 := ?H0) ?h1 ?h2; (case h2 => first | assumption | (refine Ks.of ?h3; (case h3 => assumption))); (case h1 => walk_at "ks")))
local macro_rules | `(tactic| walk_at "dp") => `(tactic| first
  | exact Dp.str _ | exact Dp.int _ | exact Dp.bl _ | exact Dp.non | assumption | exact LsAt.dp (by assumption)
  | (refine dp_ex (H := ?H0) ?h1 ?h2; (case h1 => assumption); (case h2 => walk_at "dp")))
local macro_rules | `(tactic| walk_at "ev") => `(tactic| with_reducible first
  | exact ev_nil | refine ev_cons ?_ ?_ | exact ev_str | exact ev_int | exact ev_bl | exact ev_non
  | (refine ev_tup ?hal ?_ ?hle; (case hal => assumption); (case hle => with_unfolding_all exact Nat.le_of_ble_eq_true rfl))
  | (refine ev_ll (ev_lst ?hal ?_ ?hle); (case hal => assumption); (case hle => with_unfolding_all exact Nat.le_of_ble_eq_true rfl))
  | (refine ev_ll (ev_rep (n := ?nn) ?hal ?_ ?he ?hz); (case he => with_unfolding_all exact rfl); (case hal => assumption); (case hz => with_unfolding_all omega))
  | (refine ev_lst ?hal ?_ ?hle; (case hal => assumption); (case hle => with_unfolding_all exact Nat.le_of_ble_eq_true rfl))
  | (refine ev_lt ?he; (case he => with_unfolding_all exact rfl))
  | (refine ev_let ?hal ?_ ?hs; (case hal => assumption); (case hs => with_unfolding_all first | decide +kernel | rfl))
  | (refine ev_var (v := ?vv) ?he ?hd; (case he => with_unfolding_all exact rfl); (case hd => with_unfolding_all walk_at "dp")))

section
variable {P : Program} {w : World} {K : PySem.W.Frag} {mg : Str → Option Value} {base : Heap}
/-! ### the program: what is one -/
theorem ok_are_different (T : Tx K mg) : FnOk P w K mg base CX0 1 T.a_are_different T.e_are_different p_are_different (pDiff K) := by
  refine T.d_are_different.F.ok sc_are_different (fun vs H Q E h => ?_) (fun cdv A outer s H vs Q E hr h => ?_)
  · obtain ⟨p, ss, rfl, _⟩ := h
    rfl
  obtain ⟨p, ss, rfl, hL, hz, hs, q⟩ := h
  refine ⟨_, (pss_one (ps_ret (pe_cmpR op_eq (setNK K rfl (by rfl) T.b_len (by rfl) T.b_set (pv 0)) (pe_callB (lenK K) (by rfl) T.b_len PySem.boot_len (pa_cons (pv 0) pa_nil)) (nomark _)))), ?_⟩
  walk_at "r"
  refine ⟨.ref p, rfl, p, ss, rfl, hL, by omega, ?_⟩
  walk_at "r"
  refine a_lenL hL ?_
  walk_at "r"
  have g := q H (Ex.refl _)
  rw [← fm_nodup] at g
  rw [List.length_map]
  exact g
theorem ok_is_program (T : Tx K mg) : FnOk P w K mg base CX0 8 T.a_is_program T.e_is_program p_is_program (pIp K T.C_Function) := by
  refine T.d_is_program.F.ok sc_is_program (fun vs H Q E h => ?_) (fun cdv A outer s H vs Q E hr h => ?_)
  · obtain ⟨pf, ps, xs, fs, ss, rfl, _⟩ := h
    rfl
  obtain ⟨pf, ps, xs, fs, ss, rfl, hL, hF, hz, hsx, q⟩ := h
  have hl := hF.len
  have e0 : progD fs ss = (decide (fs.length ≤ 4) && fs.all fnD && stsD 40 ss && (nodupD (namesD fs ss) && kindD (kindsD fs ss) && fitF [] fs ss)) := rfl
  refine ⟨_, (pss_cons (ps_if (PW.pt (pw_or (pt_cmpR k_notTy (pe_callTy (typK K) (by rfl) T.b_type (by decide +kernel) (pa_cons (pv 0) pa_nil)) (pe_bltn (v := .ty "list") (by rfl) T.b_list (by decide +kernel) rfl) (nomark _)) (pw_or1 (pt_cmpR op_gt (pe_callB (lenK K) (by rfl) T.b_len PySem.boot_len (pa_cons (pv 0) pa_nil)) (pe_glob (v := .int 4) (by rfl) T.m_MOST_FUNCTIONS ⟨_, rfl⟩) (nomark _))))) (pss_one (ps_ret pe_bl)) pss_nil)
    (pss_cons (ps_if (pt_not (pt_val (pe_callB (allK K) (by rfl) T.b_all (by decide +kernel) (pa_cons (pe_lc (own := [("function", 2)]) (g := gName 2) rfl sc_is_program.nd  (plK K (pv 0)) (blkOk_by (own := [("function", 2)]) (N := n_is_program) (sc := defScope s_is_program) (by decide +kernel)) (fun _ _ _ _ _ => (pg_name (i := 2) sc_is_program.nd rfl (Or.inl rfl))) (fun _ _ _ _ _ => pts_nil) (fun _ _ _ _ _ => (pe_call (ok_is_function T) (hr.mono (by omega)) (by rfl) T.d_is_function.m T.d_is_function.F.kp T.d_is_function.b .nil pass0 (pa_cons (pv 2) pa_nil)))) pa_nil)))) (pss_one (ps_ret pe_bl)) pss_nil)
    (pss_cons (ps_if (pt_not (pt_val (pe_call (ok_are_statements T) (hr.mono (by omega)) (by rfl) T.d_are_statements.m T.d_are_statements.F.kp T.d_are_statements.b .nil pass0 (pa_cons (pv 1) (pa_cons (pe_glob (v := .int 40) (by rfl) T.m_MOST_STATEMENTS ⟨_, rfl⟩) pa_nil))))) (pss_one (ps_ret pe_bl)) pss_nil)
    (pss_one (ps_ret (pe_and (pe_call (ok_are_different T) (hr.mono (by omega)) (by rfl) T.d_are_different.m T.d_are_different.F.kp T.d_are_different.b .nil pass0 (pa_cons (pe_call (ok_all_names T) (hr.mono (by omega)) (by rfl) T.d_all_names.m T.d_all_names.F.kp T.d_all_names.b .nil pass0 (pa_cons (pv 0) (pa_cons (pv 1) pa_nil))) pa_nil)) (pe_and (pe_call (ok_are_of_one_kind T) (hr.mono (by omega)) (by rfl) T.d_are_of_one_kind.m T.d_are_of_one_kind.F.kp T.d_are_of_one_kind.b .nil pass0 (pa_cons (pe_call (ok_all_kinds T) (hr.mono (by omega)) (by rfl) T.d_all_kinds.m T.d_all_kinds.F.kp T.d_all_kinds.b .nil pass0 (pa_cons (pv 0) (pa_cons (pv 1) pa_nil))) pa_nil)) (pe_one (pe_call (ok_all_calls_fit T) (hr.mono (by omega)) (by rfl) T.d_all_calls_fit.m T.d_all_calls_fit.F.kp T.d_all_calls_fit.b .nil pass0 (pa_cons (pv 0) (pa_cons (pv 1) pa_nil))))))))))), ?_⟩
  walk_at "r"
  refine ⟨.ref pf, _, rfl, .lst hL, ?_⟩
  walk_at "r"
  refine ite2 (fun c => absurd c (by decide)) (fun _ => ?_)
  walk_at "r"
  refine a_lenL hL ?_
  walk_at "r"
  refine ite2 (fun c => ?_) (fun c => ?_)
  · have c' := of_decide_eq_true c
    have g := q H (Ex.refl _)
    rw [e0, decide_eq_false (show ¬ fs.length ≤ 4 by omega)] at g
    walk_at "r"
    exact g
  have c1 : fs.length ≤ 4 := by
    have := of_decide_eq_false (nf c)
    omega
  rw [decide_eq_true c1, Bool.true_and] at e0
  walk_at "r"
  refine c_L hL ?_
  refine cp_list (xs := xs) (fun l k h => Ex H h ∧ h l = some (.lst (((fs.take k).map fnD).map V.bl))) (fun l n => ⟨Ex.new n, upd_same⟩) (fun l k h _ _ g => ex_sl hL g.1) ?_ ?_
  · rintro l k x h nl hx ⟨e, f⟩
    obtain ⟨a, fd, rfl, hd', hfx⟩ := hF.get hx
    have hk := at_lt hx
    walk_at "r"
    refine ⟨rfl, ?_⟩
    walk_at "r"
    refine ⟨a, fd, rfl, hfx.up e, fun H1 e1 => ?_⟩
    refine ⟨_, e1 _ _ f, sz_lt (by rw [List.length_map, List.length_map, List.length_take]; omega), (e.trans e1).mut nl, ?_⟩
    rw [upd_same, take_snoc hd', List.map_append, List.map_append]
    rfl
  rintro l h nl ⟨e, f⟩
  walk_at "r"
  rw [hl, List.take_length] at f
  refine ⟨l, _, rfl, SqL.of f, ?_⟩
  have ea : (fs.map fnD).all id = fs.all fnD := by
    rw [List.all_map]
    rfl
  rw [ea]
  walk_at "r"
  refine ite2 (fun c => ?_) (fun c => ?_)
  · have c' : fs.all fnD = false := by
      cases y : fs.all fnD with
      | false => rfl
      | true => rw [y] at c; cases c
    have g := q h e
    rw [e0, c'] at g
    walk_at "r"
    exact g
  have fo : fs.all fnD = true := by
    cases y : fs.all fnD with
    | true => rfl
    | false => rw [y] at c; exact absurd rfl c
  rw [fo, Bool.true_and] at e0
  walk_at "r"
  refine ⟨ps, ss, 40, rfl, hsx.up e, fun H1 e1 => ?_⟩
  have E1 := e.trans e1
  walk_at "r"
  refine ite2 (fun c => ?_) (fun c => ?_)
  · have c' : stsD 40 ss = false := by
      cases y : stsD 40 ss with
      | false => rfl
      | true => rw [y] at c; cases c
    have g := q H1 E1
    rw [e0, c'] at g
    walk_at "r"
    exact g
  have so' : stsD 40 ss = true := by
    cases y : stsD 40 ss with
    | true => rfl
    | false => rw [y] at c; exact absurd rfl c
  have so := sts_le so'
  rw [so', Bool.true_and] at e0
  have hpg : Pg K T.C_Function H pf ps fs ss := ⟨⟨xs, hL, hF⟩, hsx, fo, so.2, c1, so.1⟩
  walk_at "r"
  refine ⟨[], pf, ps, fs, ss, rfl, Al.nil, by rw [dl_nil]; exact hpg.up E1, fun t H2 n2 e2 f2 => ?_⟩
  have E2 := E1.trans e2
  walk_at "r"
  refine ⟨t, _, rfl, SqL.of f2, names_le fo c1 so.1, names_s fo so.2, fun H3 e3 => ?_⟩
  have E3 := E2.trans e3
  have g3 := q H3 E3
  rw [e0] at g3
  walk_at "r"
  refine ite2 (fun c => ?_) (fun c => ?_)
  rotate_left
  · rw [nf c] at g3
    exact g3
  rw [c, Bool.true_and] at e0
  walk_at "r"
  refine ⟨[], pf, ps, fs, ss, rfl, Al.nil, by rw [dl_nil]; exact hpg.up E3, fun t4 ys4 H4 n4 e4 f4 D4 => ?_⟩
  have E4 := E3.trans e4
  rw [dl_nil] at D4
  walk_at "r"
  have dle := decls_le fo c1 so.1
  refine ⟨t4, _, rfl, ⟨⟨ys4, SqL.of f4, D4⟩, kinds_sm (sm_app (fn_sm hF fo) (sm_lets hsx.sm so.2)) (decls_ok fo so.2), by unfold kindsD; rw [List.length_map]; omega⟩, fun H5 e5 => ?_⟩
  have E5 := E4.trans e5
  have g5 := q H5 E5
  rw [e0] at g5
  walk_at "r"
  refine ite2 (fun c => ?_) (fun c => ?_)
  rotate_left
  · rw [nf c] at g5
    exact g5
  rw [c, Bool.true_and] at e0
  walk_at "r"
  refine ⟨pf, ps, fs, ss, rfl, hpg.up E5, fun H6 e6 => ?_⟩
  have g6 := q H6 (E5.trans e6)
  rw [e0] at g6
  exact g6
theorem ok_RightsError_init (T : Tx K mg) : FnOk P w K mg base CX0 1 T.a_RightsError_init T.e_RightsError_init p_RightsError_init (pRe T.C_RightsError) := by
  refine T.d_RightsError_init.F.ok sc_RightsError_init (fun vs H Q E h => ?_) (fun cdv A outer s H vs Q E hr h => ?_)
  · obtain ⟨a, r, rfl, _⟩ := h
    rfl
  obtain ⟨a, r, rfl, fa, q⟩ := h
  refine ⟨_, (pss_cons (ps_expr (pe_veinit (by rfl) T.b_ValueError T.vV (pa_cons (pv 0) (pa_cons (pv 1) pa_nil))))
    (pss_one (ps_ost (pv 0) (pv 1)))), ?_⟩
  walk_at "r"
  refine ⟨a, T.C_RightsError, [.str r], rfl, (show 1 ≤ 1000 by decide), T.o_RightsError, fa, ?_⟩
  walk_at "r"
  refine ⟨a, T.C_RightsError, rfl, T.o_RightsError, T.n_RightsError_reason, .inl ⟨fa, fun dx n ne => ?_⟩⟩
  walk_at "r"
  exact q dx n ne
theorem ok_Program_init (T : Tx K mg) : FnOk P w K mg base (L2.CX P w) 9 T.a_Program_init T.e_Program_init p_Program_init (pPi K T.C_Program T.C_Function T.C_RightsError) := by
  refine T.d_Program_init.F.okX sc_Program_init (fun vs H Q E h => ?_) (fun cdv A outer s H vs Q E hr h => ?_)
  · obtain ⟨S, a, dx, pf, ps, xs, fs, ss, rfl, _⟩ := h
    rfl
  obtain ⟨S, a, dx, pf, ps, xs, fs, ss, rfl, al, ha, fa, hL, hF, hz, hsx, q1, q2⟩ := h
  refine ⟨_, (pss_cons (ps_fld (pv 0) (pe_call (ok_copied_functions T) (hr.mono (by omega)) (by rfl) T.d_copied_functions.m T.d_copied_functions.F.kp T.d_copied_functions.b .nil pass0 (pa_cons (pv 1) pa_nil)) rfl)
    (pss_cons (ps_fld (pv 0) (pe_call (ok_copied_statements T) (hr.mono (by omega)) (by rfl) T.d_copied_statements.m T.d_copied_statements.F.kp T.d_copied_statements.b .nil pass0 (pa_cons (pv 2) pa_nil)) rfl)
    (pss_one (ps_if (pt_not (pt_val (pe_call (ok_is_program T) (hr.mono (by omega)) (by rfl) T.d_is_program.m T.d_is_program.F.kp T.d_is_program.b .nil pass0 (pa_cons (by exact (fldK K (pv 0) rfl)) (pa_cons (by exact (fldK K (pv 0) rfl)) pa_nil))))) (pss_one (ps_raise rfl (takes_of rfl rfl rfl rfl) (pmk_oex T.o_RightsError T.i_RightsError T.t_RightsError (ok_RightsError_init T) (hr.mono (by omega)) T.d_RightsError_init.b .nil pass0 (by rfl) T.g_RightsError (pa_cons pe_str pa_nil)))) pss_nil)))), ?_⟩
  walk_at "r"
  refine ⟨S, pf, xs, fs, rfl, al, hL, hF, hz, fun p1 ys1 H1 n1 e1 f1 D1 nw => ?_⟩
  have na1 : p1 ≠ a := fun z => by rw [z, fa] at n1; cases n1
  walk_at "r"
  refine a_put T.c_Program T.n_Program_functions (e1 _ _ fa) (by decide) ?_
  have g2 : dl S (upd H1 a (.ins T.C_Program dx (putF "functions" (.ref p1) []))) = dl S H1 := dl_upd ha
  have al2 : Al S (upd H1 a (.ins T.C_Program dx (putF "functions" (.ref p1) []))) := (al.ex e1).upd
  have k2 : Ks [a] H (upd H1 a (.ins T.C_Program dx (putF "functions" (.ref p1) []))) := (Ks.of e1).upd (by simp)
  have k02 : Ks [a] H1 (upd H1 a (.ins T.C_Program dx (putF "functions" (.ref p1) []))) := (Ks.refl _ _).upd (by simp)
  have f2 : (upd H1 a (.ins T.C_Program dx (putF "functions" (.ref p1) []))) a = some (.ins T.C_Program dx (putF "functions" (.ref p1) [])) := upd_same
  have f2p : (upd H1 a (.ins T.C_Program dx (putF "functions" (.ref p1) []))) p1 = some (.lst ys1) := by rw [upd_ne na1]; exact f1
  generalize upd H1 a (.ins T.C_Program dx (putF "functions" (.ref p1) [])) = H2 at g2 al2 k2 k02 f2 f2p ⊢
  have e02 : Ex (dl S H) (dl S H2) := by rw [g2]; exact dl_ex e1
  rw [← g2] at D1
  walk_at "r"
  refine ⟨S, ps, ss, rfl, al2, hsx.up e02, fun p2 ys2 H3 n3 e3 f3 D3 => ?_⟩
  have na2 : p2 ≠ a := fun z => by rw [z, f2] at n3; cases n3
  walk_at "r"
  refine a_put T.c_Program T.n_Program_statements (e3 _ _ f2) (put1_lt _ _) ?_
  have g4 : dl S (upd H3 a (.ins T.C_Program dx (pgF p1 p2))) = dl S H3 := dl_upd ha
  have k4 : Ks [a] H (upd H3 a (.ins T.C_Program dx (pgF p1 p2))) := (k2.trans (Ks.of e3)).upd (by simp)
  have k24 : Ks [a] H2 (upd H3 a (.ins T.C_Program dx (pgF p1 p2))) := (Ks.of e3).upd (by simp)
  have f4 : (upd H3 a (.ins T.C_Program dx (pgF p1 p2))) a = some (.ins T.C_Program dx (pgF p1 p2)) := upd_same
  have f4p : (upd H3 a (.ins T.C_Program dx (pgF p1 p2))) p1 = some (.lst ys1) := by rw [upd_ne na1]; exact e3 _ _ f2p
  have f4q : (upd H3 a (.ins T.C_Program dx (pgF p1 p2))) p2 = some (.lst ys2) := by rw [upd_ne na2]; exact f3
  change (fun Hc => _) (upd H3 a (.ins T.C_Program dx (pgF p1 p2)))
  generalize upd H3 a (.ins T.C_Program dx (pgF p1 p2)) = H4 at g4 k4 k24 f4 f4p f4q ⊢
  rw [← g4] at D3
  have D1' : FnAll K T.C_Function (dl S H4) ys1 fs := D1.up (by rw [g4]; exact dl_ex e3)
  walk_at "r"
  refine a_get T.c_Program T.n_Program_functions f4 (pg_fns _ _) ?_
  walk_at "r"
  refine a_get T.c_Program T.n_Program_statements f4 (pg_sts _ _) ?_
  walk_at "r"
  refine ⟨p1, p2, ys1, fs, ss, rfl, SqL.of f4p, D1'.up (dl_le S H4), hz, ⟨⟨ys2, SqL.of f4q, dpa_ex (dl_le S H4) D3⟩, hsx.sm, hsx.le⟩, fun H5 e5 => ?_⟩
  walk_at "r"
  refine ite2 (fun c => ?_) (fun c => ?_)
  · have c' : progD fs ss = false := by
      cases y : progD fs ss with
      | false => rfl
      | true => rw [y] at c; cases c
    walk_at "r"
    refine mko_re fun d H6 n6 e6 f6 => ?_
    refine q2 c' d H6 ((k4.trans (Ks.of e5)).trans (Ks.of e6)) ?_ f6
    refine ks_none (k4.trans (Ks.of e5)) n6 ?_
    have := e5 _ _ f4
    rw [List.mem_singleton]
    rintro rfl
    rw [this] at n6
    cases n6
  · have c' : progD fs ss = true := by
      cases y : progD fs ss with
      | true => rfl
      | false => rw [y] at c; exact absurd rfl c
    walk_at "r"
    have KH : Ks [a] H1 H5 := (k02.trans k24).trans (Ks.of e5)
    exact q1 c' p1 p2 ys1 ys2 H5 (k4.trans (Ks.of e5)) n1 (ks_none k2 n3 (by simpa using na2)) (e5 _ _ f4) (e5 _ _ f4p) (D1'.up (dl_ex e5)) (fun v hv => (nw v hv).ks fa KH) (e5 _ _ f4q) (dpa_ex (dl_ex e5) D3)

end
end Ver

set_option Elab.async false
set_option linter.all false
set_option maxRecDepth 100000
set_option maxHeartbeats 4000000
namespace Ver
open PySem PySem.Spec PyProof.Rows L2 Evl
local macro_rules | `(tactic| walk_at "s") => `(tactic| with_reducible first
  | refine w_seq ?_ | refine w_asg ?_ | refine w_name ?_ | refine w_if ?_ | refine w_ret ?_ | refine w_drop ?_ | refine w_next ?_ | refine w_brk ?_ | refine w_cont ?_
  | (refine w_var (v := ?vv) ?hh ?_; (case hh => with_unfolding_all exact rfl))
  | refine w_c ?_ | refine w_op ?_ | refine w_un ?_ | refine w_I0 ?_ | refine w_neg ?_ | refine w_eqI ?_ | refine w_neI ?_ | refine w_eqS ?_ | refine w_neS ?_ | refine w_eqB ?_ | refine w_neB ?_
  | refine w_test ?_ | refine w_B ?_ | refine w_and ?_ | refine w_or ?_ | refine w_not ?_ | refine w_andV ?_ | refine w_orV ?_ | refine w_notV ?_ | refine w_ifE ?_ | refine w_yes ?_
  | refine w_nil ?_ | refine w_cons ?_ | refine w_CB ?_ | refine w_callN ?_ | refine w_BM ?_ | refine w_BMT ?_ | refine w_BM0 ?_ | refine w_noPart ?_ | refine w_part ?_ | refine w_sl ?_ | refine w_tup ?_ | refine w_lst ?_
  | refine w_subG ?_ | refine w_gcons ?_ | refine w_gnil ?_ | refine w_for ?_ | refine w_lc ?_ | refine w_iR1 ?_ | refine w_iR2 ?_ | refine w_iL ?_ | refine w_iT ?_ | refine w_iS ?_
  | (show ∃ k, V.bl _ = V.bl k ∧ _; refine ⟨_, rfl, ?_⟩) | (show ∃ k, V.int _ = V.int k ∧ _; refine ⟨_, rfl, ?_⟩)
  | refine iteT ?_ | refine iteF ?_ | refine iteNT ?_ | refine iteNF ?_ | refine r_S ?_ | refine c_S ?_ | refine a_abs ?_ | refine a_intI ?_ | refine a_intB ?_ | refine w_par ?_ | refine w_dK ?_ | refine w_chain ?_ | (show ∃ v w, [_, _] = [v, w] ∧ _; refine ⟨_, _, rfl, ?_⟩)
  | refine w_getF ?_ | refine w_setF ?_ | refine w_newI ?_ | refine w_callS ?_ | refine w_getD1 ?_ | refine w_putD ?_ | refine w_veI ?_ | refine w_ostI ?_ | refine w_mkO ?_ | refine w_newS ?_ | refine w_xf ?_ | refine w_dget ?_ | refine w_din ?_ | refine w_dnin ?_ | refine w_iEn ?_ | refine w_iZp ?_ | refine w_dc ?_
  | refine a_isNn ?_ | refine a_isNr ?_ | refine a_notNn ?_ | refine a_notNr ?_ | refine a_isTy ?_ | refine a_notTy ?_ | refine a_isBl ?_ | refine a_notBl ?_)
local macro_rules | `(tactic| walk_at "r") => `(tactic| repeat walk_at "s")
local macro_rules | `(tactic| walk_at "tr") => `(tactic| first
  | assumption
  | (refine ex_at (H := ?H0) ?h1 ?h2; (case h2 => assumption); (case h1 => walk_at "tr"))
  | (refine ks_at (H := ?H0) (S := ?S0) ?h1 ?h2 ?h3; (case h2 => assumption); (case h3 => walk_at "nin"); (case h1 => walk_at "tr")))
local macro_rules | `(tactic| walk_at "nin") => `(tactic| first
  | exact nin_nil | (refine nin_cons ?h1 ?h2; (case h1 => walk_at "ne"); (case h2 => walk_at "nin")))
local macro_rules | `(tactic| walk_at "ne") => `(tactic| first
  | assumption | exact Ne.symm (by assumption)
  | (refine bx_nb (H := ?H0) (r := ?r0) ?h1 ?h2; (case h2 => assumption); (case h1 => walk_at "bx"))
  | (refine bx_nr (H := ?H0) (b := ?b0) ?h1 ?h2; (case h2 => assumption); (case h1 => walk_at "bx"))
  | (refine Ne.symm (bx_nb (H := ?H0) (r := ?r0) ?h1 ?h2); (case h2 => assumption); (case h1 => walk_at "bx"))
  | (refine ne_old (H := ?H0) (o := ?o0) ?h1 ?h2; (case h2 => assumption); (case h1 => walk_at "tr"))
  | (refine Ne.symm (ne_old (H := ?H0) (o := ?o0) ?h1 ?h2); (case h2 => assumption); (case h1 => walk_at "tr"))
  | exact (Tu.ne (by assumption) (by assumption)).1 | exact (Tu.ne (by assumption) (by assumption)).2
  | (refine bx_rb (H := ?H0) ?h1; (case h1 => walk_at "bx")))
local macro_rules | `(tactic| walk_at "tu") => `(tactic| first
  | assumption
  | (refine Tu.ex (H := ?H0) ?h1 ?h2; (case h2 => assumption); (case h1 => walk_at "tu"))
  | (refine Tu.ks (H := ?H0) (S := ?S0) ?h1 ?h2 ?h3; (case h2 => assumption); (case h3 => walk_at "nin"); (case h1 => walk_at "tu")))
local macro_rules | `(tactic| walk_at "bx") => `(tactic| first
  | assumption
  | (refine bx_ex (H := ?H0) ?h1 ?h2; (case h2 => assumption); (case h1 => walk_at "bx"))
  | (refine bx_ks (H := ?H0) (S := ?S0) ?h1 ?h2 ?h3 ?h4; (case h2 => assumption); (case h3 => walk_at "nin"); (case h4 => walk_at "nin"); (case h1 => walk_at "bx")))
local macro_rules | `(tactic| walk_at "sl") => `(tactic| first
  | assumption | (refine SqL.of ?h1; (case h1 => walk_at "tr"))
  | (refine ex_sl (H := ?H0) ?h1 ?h2; (case h2 => assumption); (case h1 => walk_at "sl"))
  | (refine ks_sl (H := ?H0) (S := ?S0) ?h1 ?h2 ?h3; (case h2 => assumption); (case h3 => walk_at "nin"); (case h1 => walk_at "sl")))
local macro_rules | `(tactic| walk_at "st") => `(tactic| first
  | assumption | (refine Tu.st ?h1; (case h1 => walk_at "tu")) | (refine SqT.of ?h1; (case h1 => walk_at "tr"))
  | (refine ex_st (H := ?H0) ?h1 ?h2; (case h2 => assumption); (case h1 => walk_at "st"))
  | (refine ks_st (H := ?H0) (S := ?S0) ?h1 ?h2 ?h3; (case h2 => assumption); (case h3 => walk_at "nin"); (case h1 => walk_at "st")))
local macro_rules | `(tactic| walk_at "ex") => `(tactic| first
  | exact Ex.refl _ | assumption | (refine Ex.trans (H1 := ?H0) ?h1 ?h2; (case h2 => assumption); (case h1 => walk_at "ex")))
local macro_rules | `(tactic| walk_at "ks") => `(tactic| first
  | exact Ks.refl _ _ | assumption | (refine Ks.of ?h1; (case h1 => assumption)) | (refine Ks.trans (H1 := ?H0) ?h1 ?h2; (case h2 => first | assumption | (refine Ks.of ?h3; (case h3 => assumption))); (case h1 => walk_at "ks")))
local macro_rules | `(tactic| walk_at "dp") => `(tactic| first
  | exact Dp.str _ | exact Dp.int _ | exact Dp.bl _ | exact Dp.non | assumption | exact LsAt.dp (by assumption)
  | (refine dp_ex (H := ?H0) ?h1 ?h2; (case h1 => assumption); (case h2 => walk_at "dp")))
local macro_rules | `(tactic| walk_at "ev") => `(tactic| with_reducible first
  | exact ev_nil | refine ev_cons ?_ ?_ | exact ev_str | exact ev_int | exact ev_bl | exact ev_non
  | (refine ev_tup ?hal ?_ ?hle; (case hal => assumption); (case hle => with_unfolding_all exact Nat.le_of_ble_eq_true rfl))
  | (refine ev_ll (ev_lst ?hal ?_ ?hle); (case hal => assumption); (case hle => with_unfolding_all exact Nat.le_of_ble_eq_true rfl))
  | (refine ev_ll (ev_rep (n := ?nn) ?hal ?_ ?he ?hz); (case he => with_unfolding_all exact rfl); (case hal => assumption); (case hz => with_unfolding_all omega))
  | (refine ev_lst ?hal ?_ ?hle; (case hal => assumption); (case hle => with_unfolding_all exact Nat.le_of_ble_eq_true rfl))
  | (refine ev_lt ?he; (case he => with_unfolding_all exact rfl))
  | (refine ev_let ?hal ?_ ?hs; (case hal => assumption); (case hs => with_unfolding_all first | decide +kernel | rfl))
  | (refine ev_var (v := ?vv) ?he ?hd; (case he => with_unfolding_all exact rfl); (case hd => with_unfolding_all walk_at "dp")))

section
variable {P : Program} {w : World} {K : PySem.W.Frag} {mg : Str → Option Value} {base : Heap}
/-! ### the row and the draws -/
def pCell (K : PySem.W.Frag) : Sp := fun vs H Q _ => ∃ (a : Addr) (ns : List Int) (k : Int), vs = [.ref a, .int k] ∧ SqL K H a (ns.map V.int) ∧ 0 ≤ k ∧ ∀ v : Int, Q (.int v) H
theorem ok__law_cell (T : Tx K mg) : FnOk P w K mg base CX0 1 T.a__law_cell T.e__law_cell p__law_cell (pCell K) := by
  refine T.d__law_cell.F.ok sc__law_cell (fun vs H Q E h => ?_) (fun cdv A outer s H vs Q E hr h => ?_)
  · obtain ⟨a, ns, k, rfl, _⟩ := h
    rfl
  obtain ⟨a, ns, k, rfl, hS, h0, q⟩ := h
  refine ⟨_, (pss_cons (ps_if (pt_cmpR op_lt (pv 1) (pe_callB (lenK K) (by rfl) T.b_len PySem.boot_len (pa_cons (pv 0) pa_nil)) (nomark _)) (pss_one (ps_ret (pe_ix (ixL K) (pv 0) (pv 1) (fun _ _ => rfl)))) pss_nil)
    (pss_one (ps_ret pe_int))), ?_⟩
  walk_at "r"
  refine a_lenL hS ?_
  walk_at "r"
  refine ite2 (fun c => ?_) (fun c => ?_)
  · have c' : k < ((ns.map V.int).length : Int) := of_decide_eq_true c
    walk_at "r"
    have hk : k.toNat < ns.length := by rw [List.length_map] at c'; omega
    have ek : k = ((k.toNat : Nat) : Int) := by omega
    refine a_ixL (v := .int ns[k.toNat]) hS ?_ (q _)
    have g : atI (ns.map V.int) ((k.toNat : Nat) : Int) = some (.int ns[k.toNat]) := atI_nat (by rw [List.getElem?_map]; simp [hk])
    rw [← ek] at g
    exact g
  · walk_at "r"
    exact q _
def pRow (K : PySem.W.Frag) : Sp := fun vs H Q _ => ∃ (a : Addr) (ns : List Int) (l : Int), vs = [.ref a, .int 0, .int l] ∧ SqL K H a (ns.map V.int) ∧ 0 ≤ l ∧ l ≤ 63 ∧
  ∀ p H' (rs : List Int), H p = none → Ex H H' → H' p = some (.lst (rs.map V.int)) → rs.length ≤ 100000 → Q (.ref p) H'
theorem map_snoc (rs : List Int) (v : Int) : rs.map V.int ++ [.int v] = (rs ++ [v]).map V.int := by rw [List.map_append]; rfl
theorem ok__law_row (T : Tx K mg) : FnOk P w K mg base CX0 2 T.a__law_row T.e__law_row p__law_row (pRow K) := by
  refine T.d__law_row.F.ok sc__law_row (fun vs H Q E h => ?_) (fun cdv A outer s H vs Q E hr h => ?_)
  · obtain ⟨a, ns, l, rfl, _⟩ := h
    rfl
  obtain ⟨a, ns, l, rfl, hS, h0, h1, q⟩ := h
  refine ⟨_, (pss_cons (ps_set (i := 3) sc__law_row.nd rfl (.inl rfl) (pe_lst pa_nil))
    (pss_cons (ps_for PassesOwn.never rfl (pi_range2 (by rfl) T.b_range (pa_cons (pv 1) (pa_cons (pv 2) pa_nil))) (pg_name (i := 4) sc__law_row.nd rfl (.inl rfl)) (pss_cons (ps_set (i := 5) sc__law_row.nd rfl (.inl rfl) (pe_call (ok__law_cell T) (hr.mono (by omega)) (by rfl) T.d__law_cell.m T.d__law_cell.F.kp T.d__law_cell.b .nil pass0 (pa_cons (pv 0) (pa_cons (pv 4) pa_nil))))
    (pss_cons (ps_set (i := 5) sc__law_row.nd rfl (.inl rfl) (pe_op op_add (pe_callB k_abs (by rfl) T.b_abs (by decide +kernel) (pa_cons (pe_op op_mul pe_int (pv 5)) pa_nil)) (pe_callTy k_int (by rfl) T.b_int (by decide +kernel) (pa_cons (pe_cmpR op_lt (pv 5) pe_int (nomark _)) pa_nil))))
    (pss_one (ps_if (pt_cmpR op_gt (pv 5) (pe_op op_pow pe_int pe_int) (nomark _)) (pss_one (ps_for PassesOwn.never rfl (pi_range1 (by rfl) T.b_range (pa_cons pe_int pa_nil)) (pg_name (i := 6) sc__law_row.nd rfl (.inl rfl)) (pss_one (ps_if (pt_cmpR op_gt (pv 5) pe_int (nomark _)) (pss_cons (ps_expr (pe_bm PySem.F.plainAttrs_list PySem.F.slot_list_append PySem.F.type_list_append mt_append (pv 3) (pa_cons (pe_op op_mod (pe_callTy k_int (by rfl) T.b_int (by decide +kernel) (pa_cons (pv 5) pa_nil)) pe_int) pa_nil)))
    (pss_one (ps_set (i := 5) sc__law_row.nd rfl (.inl rfl) (pe_op op_fdiv (pv 5) pe_int)))) pss_nil)))) (pss_one (ps_for PassesOwn.never rfl (pi_range1 (by rfl) T.b_range (pa_cons pe_int pa_nil)) (pg_name (i := 6) sc__law_row.nd rfl (.inl rfl)) (pss_cons (ps_set (i := 5) sc__law_row.nd rfl (.inl rfl) (pe_op op_mod (pe_callTy k_int (by rfl) T.b_int (by decide +kernel) (pa_cons (pe_op op_add (pe_op op_add (pe_op op_mul (pv 5) pe_int) (pe_op op_mul pe_int (pe_op op_add (pv 4) (pv 6)))) pe_int) pa_nil)) pe_int))
    (pss_one (ps_expr (pe_bm PySem.F.plainAttrs_list PySem.F.slot_list_append PySem.F.type_list_append mt_append (pv 3) (pa_cons (pe_op op_mod (pe_callTy k_int (by rfl) T.b_int (by decide +kernel) (pa_cons (pe_op op_fdiv (pv 5) pe_int) pa_nil)) pe_int) pa_nil))))))))))))
    (pss_one (ps_ret (pv 3))))), ?_⟩
  walk_at "r"
  refine new_lst (xs := []) (by simp) fun p H1 n1 e1 f1 => ?_
  walk_at "r"
  refine r_R2 (by omega) ?_
  refine lp_range (fun k σ h => ∃ x y z, ∃ rs : List Int, σ = [some (.ref a), some (.int 0), some (.int l), some (.ref p), x, y, z] ∧ Ex H h ∧ h p = some (.lst (rs.map V.int)) ∧ rs.length ≤ 100 * k)
    ⟨_, _, _, [], rfl, e1, f1, by simp⟩ ?_ ?_
  · rintro k σ h hk ⟨x, y, z, rs, rfl, e2, f2, z2⟩
    walk_at "r"
    refine ⟨a, ns, _, rfl, ex_sl hS e2, by omega, fun v => ?_⟩
    walk_at "r"
    refine w_I (.inl ⟨by decide, by decide⟩) ?_
    walk_at "r"
    generalize (if 2 * v < 0 then -(2 * v) else 2 * v) + (if decide (v < 0) = true then 1 else 0) = c0
    refine w_I ⟨by decide, by decide, by decide⟩ ?_
    walk_at "r"
    refine ite2 (fun _ => ?_) (fun _ => ?_)
    · walk_at "r"
      refine r_R1 (by omega) ?_
      refine lp_range (fun m σ h' => ∃ z, ∃ rs' : List Int, ∃ c : Int, σ = [some (.ref a), some (.int 0), some (.int l), some (.ref p), some (.int (0 + (k : Int))), some (.int c), z] ∧ Ex H h' ∧ h' p = some (.lst (rs'.map V.int)) ∧ rs'.length ≤ 100 * k + m)
        ⟨_, rs, c0, rfl, e2, f2, by omega⟩ ?_ ?_
      · rintro m σ h' hm ⟨z', rs', c, rfl, e3, f3, z3⟩
        walk_at "r"
        refine ite2 (fun _ => ?_) (fun _ => ?_)
        · walk_at "r"
          refine ⟨a_ty f3, ?_⟩
          walk_at "r"
          walk_at "r"
          refine w_I (by decide) ?_
          walk_at "r"
          have hm' : m < 60 := hm
          have hk' : k < 63 := by omega
          refine a_app f3 (by rw [List.length_map]; omega) ?_
          walk_at "r"
          refine w_I ⟨by decide, by decide⟩ ?_
          walk_at "r"
          refine ⟨_, rs' ++ [c % 840], _, rfl, e3.mut n1, by rw [upd_same, map_snoc], by rw [List.length_append]; simp; omega⟩
        · walk_at "r"
          exact ⟨_, rs', c, rfl, e3, f3, by omega⟩
      · rintro σ h' ⟨z', rs', c, rfl, e3, f3, z3⟩
        have z4 : rs'.length ≤ 100 * k + 60 := z3
        exact ⟨_, _, _, rs', rfl, e3, f3, by omega⟩
    · walk_at "r"
      refine r_R1 (by omega) ?_
      refine lp_range (fun m σ h' => ∃ z, ∃ rs' : List Int, ∃ c : Int, σ = [some (.ref a), some (.int 0), some (.int l), some (.ref p), some (.int (0 + (k : Int))), some (.int c), z] ∧ Ex H h' ∧ h' p = some (.lst (rs'.map V.int)) ∧ rs'.length ≤ 100 * k + m)
        ⟨_, rs, c0, rfl, e2, f2, by omega⟩ ?_ ?_
      · rintro m σ h' hm ⟨z', rs', c, rfl, e3, f3, z3⟩
        walk_at "r"
        refine w_I (.inr ⟨by decide, by decide⟩) ?_
        walk_at "r"
        refine w_I (.inl ⟨by decide, by decide⟩) ?_
        walk_at "r"
        walk_at "r"
        refine w_I (by decide) ?_
        walk_at "r"
        refine ⟨a_ty f3, ?_⟩
        walk_at "r"
        refine w_I ⟨by decide, by decide⟩ ?_
        walk_at "r"
        refine w_I (by decide) ?_
        walk_at "r"
        have hm' : m < 10 := hm
        have hk' : k < 63 := by omega
        refine a_app f3 (by rw [List.length_map]; omega) ?_
        walk_at "r"
        exact ⟨_, rs' ++ [_], _, rfl, e3.mut n1, by rw [upd_same, map_snoc], by rw [List.length_append]; simp; omega⟩
      · rintro σ h' ⟨z', rs', c, rfl, e3, f3, z3⟩
        have z4 : rs'.length ≤ 100 * k + 10 := z3
        exact ⟨_, _, _, rs', rfl, e3, f3, by omega⟩
  · rintro σ h ⟨x, y, z, rs, rfl, e2, f2, z2⟩
    walk_at "r"
    exact q p h rs n1 e2 f2 (by omega)
def pDraw : Sp := fun vs H Q _ => ∃ (b r : Addr) (m : Int), vs = [.ref b, .int m] ∧ Bx H b r ∧ 0 < m ∧ ∀ v H', 0 ≤ v → v < m → Ks [b] H H' → Bx H' b r → Q (.int v) H'
theorem ap_draw {H : Hp} {Q : VK} {E : XK} {b r : Addr} {m : Int} (h : Bx H b r) (hm : 0 < m) (k : ∀ v H', 0 ≤ v → v < m → Ks [b] H H' → Bx H' b r → Q (.int v) H') : pDraw [.ref b, .int m] H Q E := ⟨b, r, m, rfl, h, hm, k⟩
theorem ok__law_draw (T : Tx K mg) : FnOk P w K mg base CX0 1 T.a__law_draw T.e__law_draw p__law_draw pDraw := by
  refine T.d__law_draw.F.ok sc__law_draw (fun vs H Q E h => ?_) (fun cdv A outer s H vs Q E hr h => ?_)
  · obtain ⟨b, r, m, rfl, _⟩ := h
    rfl
  obtain ⟨b, r, m, rfl, hb, hm, q⟩ := h
  have nrb := bx_rb hb
  obtain ⟨n, ns, hb, hR, hz⟩ := hb
  refine ⟨_, (pss_cons (ps_set (i := 2) sc__law_draw.nd rfl (.inl rfl) (pe_ix (ixL K) (pv 0) pe_int (fun _ _ => rfl)))
    (pss_cons (ps_asg (pe_op op_add (pv 2) pe_int) (pg_sub (pv 0) pe_int set_list))
    (pss_cons (ps_if (pt_cmpR op_lt (pv 2) (pe_callB (lenK K) (by rfl) T.b_len PySem.boot_len (pa_cons (pe_ix (ixL K) (pv 0) pe_int (fun _ _ => rfl)) pa_nil)) (nomark _)) (pss_one (ps_ret (pe_op op_mod (pe_callTy k_int (by rfl) T.b_int (by decide +kernel) (pa_cons (pe_ix (ixL K) (pe_ix (ixL K) (pv 0) pe_int (fun _ _ => rfl)) (pv 2) (fun _ _ => rfl)) pa_nil)) (pv 1)))) pss_nil)
    (pss_one (ps_ret (pe_op op_mod (pe_callTy k_int (by rfl) T.b_int (by decide +kernel) (pa_cons (pe_op op_add (pe_op op_mul (pv 2) pe_int) pe_int) pa_nil)) (pv 1))))))), ?_⟩
  walk_at "r"
  refine a_ixL (v := .int n) (SqL.of hb) rfl ?_
  walk_at "r"
  refine a_setL (j := 1) hb (show 1 < 2 by decide) ?_
  have fb : upd H b (.lst [.ref r, .int ((n : Int) + 1)]) b = some (.lst [.ref r, .int (((n + 1 : Nat)) : Int)]) := by rw [upd_same]; simp
  have fr : upd H b (.lst [.ref r, .int ((n : Int) + 1)]) r = some (.lst (ns.map V.int)) := by rw [upd_ne nrb]; exact hR
  have ek : Ks [b] H (upd H b (.lst [.ref r, .int ((n : Int) + 1)])) := (Ks.refl _ _).upd (by simp)
  change tSeq _ _ _ _ (upd H b (.lst [.ref r, .int ((n : Int) + 1)]))
  generalize upd H b (.lst [.ref r, .int ((n : Int) + 1)]) = H1 at fb fr ek ⊢
  have hB : Bx H1 b r := ⟨n + 1, ns, fb, fr, hz⟩
  walk_at "r"
  refine a_ixL (v := .ref r) (SqL.of fb) rfl ?_
  walk_at "r"
  refine a_lenL (SqL.of fr) ?_
  walk_at "r"
  refine ite2 (fun c => ?_) (fun c => ?_)
  · have c' : (n : Int) < ((ns.map V.int).length : Int) := of_decide_eq_true c
    rw [List.length_map] at c'
    have hn : n < ns.length := by omega
    walk_at "r"
    refine a_ixL (v := .ref r) (SqL.of fb) rfl ?_
    walk_at "r"
    refine a_ixL (v := .int ns[n]) (SqL.of fr) (atI_nat (by rw [List.getElem?_map]; simp [hn])) ?_
    walk_at "r"
    refine w_I hm ?_
    exact q _ H1 (Int.emod_nonneg _ (by omega)) (Int.emod_lt_of_pos _ hm) ek hB
  · walk_at "r"
    refine w_I (.inr ⟨by decide, by decide⟩) ?_
    walk_at "r"
    walk_at "r"
    refine w_I hm ?_
    exact q _ H1 (Int.emod_nonneg _ (by omega)) (Int.emod_lt_of_pos _ hm) ek hB

/-! ### the law's own: rights drawn -/
def pRight : Sp := fun vs H Q _ => ∃ (b r : Addr), vs = [.ref b] ∧ Bx H b r ∧ ∀ (x : R) H', Ks [b] H H' → Bx H' b r → Q (.str x.s) H'
theorem ok__law_right (T : Tx K mg) : FnOk P w K mg base CX0 2 T.a__law_right T.e__law_right p__law_right pRight := by
  refine T.d__law_right.F.ok sc__law_right (fun vs H Q E h => ?_) (fun cdv A outer s H vs Q E hr h => ?_)
  · obtain ⟨b, r, rfl, _⟩ := h
    rfl
  obtain ⟨b, r, rfl, hb, q⟩ := h
  refine ⟨_, (pss_one (ps_ret (pe_ix (ixL K) (pe_lst (pa_cons pe_str (pa_cons pe_str (pa_cons pe_str (pa_cons pe_str (pa_cons pe_str (pa_cons pe_str pa_nil))))))) (pe_call (ok__law_draw T) (hr.mono (by omega)) (by rfl) T.d__law_draw.m T.d__law_draw.F.kp T.d__law_draw.b .nil pass0 (pa_cons (pv 0) (pa_cons pe_int pa_nil))) (fun _ _ => rfl)))), ?_⟩
  walk_at "r"
  refine new_lst (xs := [_, _, _, _, _, _]) (by simp) fun p H1 n1 e1 f1 => ?_
  walk_at "r"
  refine ap_draw (bx_ex hb e1) (by decide) fun v H2 h0 h1 e2 b2 => ?_
  walk_at "r"
  have f2 : H2 p = some (.lst (tv [.rw, .rw, .r, .w, .n, .rw])) := by walk_at "tr"
  obtain ⟨k, rfl⟩ : ∃ k : Nat, v = (k : Int) := ⟨v.toNat, by omega⟩
  have hk : k < 6 := by omega
  have hx : ∃ x, [R.rw, .rw, .r, .w, .n, .rw][k]? = some x := ⟨_, List.getElem?_eq_getElem hk⟩
  obtain ⟨x, hx⟩ := hx
  refine a_ixL (v := .str x.s) (SqL.of f2) (atI_nat (tv_at hx)) ?_
  exact q x H2 (by walk_at "ks") b2
def pRights (K : PySem.W.Frag) : Sp := fun vs H Q _ => ∃ (b r : Addr) (m : Int), vs = [.ref b, .int m] ∧ Bx H b r ∧ 0 ≤ m ∧ m ≤ 1000 ∧ ∀ p (xs : List R) H', H p = none → p ≠ b → p ≠ r → (xs.length : Int) = m → Ks [b] H H' → Bx H' b r → Tu H' p (tv xs) → Q (.ref p) H'
theorem tv_snoc (xs : List R) (x : R) : tv xs ++ [.str x.s] = tv (xs ++ [x]) := by unfold tv; rw [List.map_append]; rfl
theorem ok__law_rights (T : Tx K mg) : FnOk P w K mg base CX0 3 T.a__law_rights T.e__law_rights p__law_rights (pRights K) := by
  refine T.d__law_rights.F.ok sc__law_rights (fun vs H Q E h => ?_) (fun cdv A outer s H vs Q E hr h => ?_)
  · obtain ⟨b, r, m, rfl, _⟩ := h
    rfl
  obtain ⟨b, r, m, rfl, hb, h0, h1, q⟩ := h
  refine ⟨_, (pss_one (ps_ret (pe_callTy (tupFK K) (by rfl) T.b_tuple (by decide +kernel) (pa_cons (pe_lc (own := [("k", 2)]) (g := gName 2) rfl sc__law_rights.nd  (pi_range1 (by rfl) T.b_range (pa_cons (pv 1) pa_nil)) (blkOk_by (own := [("k", 2)]) (N := n__law_rights) (sc := defScope s__law_rights) (by decide +kernel)) (fun _ _ _ _ _ => (pg_name (i := 2) sc__law_rights.nd rfl (Or.inl rfl))) (fun _ _ _ _ _ => pts_nil) (fun _ _ _ _ _ => (pe_call (ok__law_right T) (hr.mono (by omega)) (by rfl) T.d__law_right.m T.d__law_right.F.kp T.d__law_right.b .nil pass0 (pa_cons (pv 0) pa_nil)))) pa_nil)))), ?_⟩
  walk_at "r"
  refine c_R1 (by omega) ?_
  refine cp_range (fun p k h => ∃ xs : List R, xs.length = k ∧ h p = some (.lst (tv xs)) ∧ Ks [b] H h ∧ Bx h b r) (fun p n => ⟨[], rfl, upd_same, Ks.of (Ex.new n), bx_ex hb (Ex.new n)⟩) ?_ ?_
  · rintro p k h np hk ⟨xs, hl, f, e, b1⟩
    have nb : p ≠ b := (bx_nb hb np).symm
    walk_at "r"
    refine ⟨rfl, ?_⟩
    walk_at "r"
    refine ⟨b, r, rfl, b1, fun x H2 e2 b2 => ?_⟩
    have f2 : H2 p = some (.lst (tv xs)) := by walk_at "tr"
    refine ⟨tv xs, f2, sz_lt (by rw [tv_len]; omega), xs ++ [x], by simp [hl], by rw [upd_same, tv_snoc], ?_, ?_⟩
    · exact (e.trans e2).mut np
    · exact bx_ks (S := [p]) b2 (fun a o n q => by rw [upd_ne (fun z => n (by rw [z]; simp))]; exact q) (nin_cons (bx_nb hb np) nin_nil) (nin_cons (bx_nr hb np) nin_nil)
  · rintro p h np ⟨xs, hl, f, e, b1⟩
    walk_at "r"
    refine a_tupFL (SqL.of f) fun p2 H2 n2 e2 f2 => ?_
    have n3 : H p2 = none := by
      cases z : H p2 with
      | none => rfl
      | some o =>
        by_cases zb : p2 = b
        · obtain ⟨_, _, g, _⟩ := b1
          rw [← zb, n2] at g
          cases g
        · rw [e p2 o (nin_cons zb nin_nil) z] at n2
          cases n2
    exact q p2 xs H2 n3 (bx_nb hb n3).symm (bx_nr hb n3).symm (by omega) (by walk_at "ks") (bx_ex b1 e2) f2

end
end Ver

set_option Elab.async false
set_option linter.all false
set_option maxRecDepth 100000
set_option maxHeartbeats 4000000
namespace Ver
open PySem PySem.Spec PyProof.Rows L2 Evl
local macro_rules | `(tactic| walk_at "s") => `(tactic| with_reducible first
  | refine w_seq ?_ | refine w_asg ?_ | refine w_name ?_ | refine w_if ?_ | refine w_ret ?_ | refine w_drop ?_ | refine w_next ?_ | refine w_brk ?_ | refine w_cont ?_
  | (refine w_var (v := ?vv) ?hh ?_; (case hh => with_unfolding_all exact rfl))
  | refine w_c ?_ | refine w_op ?_ | refine w_un ?_ | refine w_I0 ?_ | refine w_neg ?_ | refine w_eqI ?_ | refine w_neI ?_ | refine w_eqS ?_ | refine w_neS ?_ | refine w_eqB ?_ | refine w_neB ?_
  | refine w_test ?_ | refine w_B ?_ | refine w_and ?_ | refine w_or ?_ | refine w_not ?_ | refine w_andV ?_ | refine w_orV ?_ | refine w_notV ?_ | refine w_ifE ?_ | refine w_yes ?_
  | refine w_nil ?_ | refine w_cons ?_ | refine w_CB ?_ | refine w_callN ?_ | refine w_BM ?_ | refine w_BMT ?_ | refine w_BM0 ?_ | refine w_noPart ?_ | refine w_part ?_ | refine w_sl ?_ | refine w_tup ?_ | refine w_lst ?_
  | refine w_subG ?_ | refine w_gcons ?_ | refine w_gnil ?_ | refine w_for ?_ | refine w_lc ?_ | refine w_iR1 ?_ | refine w_iR2 ?_ | refine w_iL ?_ | refine w_iT ?_ | refine w_iS ?_
  | (show ∃ k, V.bl _ = V.bl k ∧ _; refine ⟨_, rfl, ?_⟩) | (show ∃ k, V.int _ = V.int k ∧ _; refine ⟨_, rfl, ?_⟩)
  | refine iteT ?_ | refine iteF ?_ | refine iteNT ?_ | refine iteNF ?_ | refine r_S ?_ | refine c_S ?_ | refine a_abs ?_ | refine a_intI ?_ | refine a_intB ?_ | refine w_par ?_ | refine w_dK ?_ | refine w_chain ?_ | (show ∃ v w, [_, _] = [v, w] ∧ _; refine ⟨_, _, rfl, ?_⟩)
  | refine w_getF ?_ | refine w_setF ?_ | refine w_newI ?_ | refine w_callS ?_ | refine w_getD1 ?_ | refine w_putD ?_ | refine w_veI ?_ | refine w_ostI ?_ | refine w_mkO ?_ | refine w_newS ?_ | refine w_xf ?_ | refine w_dget ?_ | refine w_din ?_ | refine w_dnin ?_ | refine w_iEn ?_ | refine w_iZp ?_ | refine w_dc ?_
  | refine a_isNn ?_ | refine a_isNr ?_ | refine a_notNn ?_ | refine a_notNr ?_ | refine a_isTy ?_ | refine a_notTy ?_ | refine a_isBl ?_ | refine a_notBl ?_)
local macro_rules | `(tactic| walk_at "r") => `(tactic| repeat walk_at "s")
local macro_rules | `(tactic| walk_at "tr") => `(tactic| first
  | assumption
  | (refine ex_at (H := ?H0) ?h1 ?h2; (case h2 => assumption); (case h1 => walk_at "tr"))
  | (refine ks_at (H := ?H0) (S := ?S0) ?h1 ?h2 ?h3; (case h2 => assumption); (case h3 => walk_at "nin"); (case h1 => walk_at "tr")))
local macro_rules | `(tactic| walk_at "nin") => `(tactic| first
  | exact nin_nil | (refine nin_cons ?h1 ?h2; (case h1 => walk_at "ne"); (case h2 => walk_at "nin")))
local macro_rules | `(tactic| walk_at "ne") => `(tactic| first
  | assumption | exact Ne.symm (by assumption)
  | (refine bx_nb (H := ?H0) (r := ?r0) ?h1 ?h2; (case h2 => assumption); (case h1 => walk_at "bx"))
  | (refine bx_nr (H := ?H0) (b := ?b0) ?h1 ?h2; (case h2 => assumption); (case h1 => walk_at "bx"))
  | (refine Ne.symm (bx_nb (H := ?H0) (r := ?r0) ?h1 ?h2); (case h2 => assumption); (case h1 => walk_at "bx"))
  | (refine ne_old (H := ?H0) (o := ?o0) ?h1 ?h2; (case h2 => assumption); (case h1 => walk_at "tr"))
  | (refine Ne.symm (ne_old (H := ?H0) (o := ?o0) ?h1 ?h2); (case h2 => assumption); (case h1 => walk_at "tr"))
  | exact (Tu.ne (by assumption) (by assumption)).1 | exact (Tu.ne (by assumption) (by assumption)).2
  | (refine bx_rb (H := ?H0) ?h1; (case h1 => walk_at "bx")))
local macro_rules | `(tactic| walk_at "tu") => `(tactic| first
  | assumption
  | (refine Tu.ex (H := ?H0) ?h1 ?h2; (case h2 => assumption); (case h1 => walk_at "tu"))
  | (refine Tu.ks (H := ?H0) (S := ?S0) ?h1 ?h2 ?h3; (case h2 => assumption); (case h3 => walk_at "nin"); (case h1 => walk_at "tu")))
local macro_rules | `(tactic| walk_at "bx") => `(tactic| first
  | assumption
  | (refine bx_ex (H := ?H0) ?h1 ?h2; (case h2 => assumption); (case h1 => walk_at "bx"))
  | (refine bx_ks (H := ?H0) (S := ?S0) ?h1 ?h2 ?h3 ?h4; (case h2 => assumption); (case h3 => walk_at "nin"); (case h4 => walk_at "nin"); (case h1 => walk_at "bx")))
local macro_rules | `(tactic| walk_at "sl") => `(tactic| first
  | assumption | (refine SqL.of ?h1; (case h1 => walk_at "tr"))
  | (refine ex_sl (H := ?H0) ?h1 ?h2; (case h2 => assumption); (case h1 => walk_at "sl"))
  | (refine ks_sl (H := ?H0) (S := ?S0) ?h1 ?h2 ?h3; (case h2 => assumption); (case h3 => walk_at "nin"); (case h1 => walk_at "sl")))
local macro_rules | `(tactic| walk_at "st") => `(tactic| first
  | assumption | (refine Tu.st ?h1; (case h1 => walk_at "tu")) | (refine SqT.of ?h1; (case h1 => walk_at "tr"))
  | (refine ex_st (H := ?H0) ?h1 ?h2; (case h2 => assumption); (case h1 => walk_at "st"))
  | (refine ks_st (H := ?H0) (S := ?S0) ?h1 ?h2 ?h3; (case h2 => assumption); (case h3 => walk_at "nin"); (case h1 => walk_at "st")))
local macro_rules | `(tactic| walk_at "ex") => `(tactic| first
  | exact Ex.refl _ | assumption | (refine Ex.trans (H1 := ?H0) ?h1 ?h2; (case h2 => assumption); (case h1 => walk_at "ex")))
local macro_rules | `(tactic| walk_at "ks") => `(tactic| first
  | exact Ks.refl _ _ | assumption | (refine Ks.of ?h1; (case h1 => assumption)) | (refine Ks.trans (H1 := ?H0) ?h1 ?h2; (case h2 => first | assumption | (refine Ks.of ?h3; (case h3 => assumption))); (case h1 => walk_at "ks")))
local macro_rules | `(tactic| walk_at "dp") => `(tactic| first
  | exact Dp.str _ | exact Dp.int _ | exact Dp.bl _ | exact Dp.non | assumption | exact LsAt.dp (by assumption)
  | (refine dp_ex (H := ?H0) ?h1 ?h2; (case h1 => assumption); (case h2 => walk_at "dp")))
local macro_rules | `(tactic| walk_at "ev") => `(tactic| with_reducible first
  | exact ev_nil | refine ev_cons ?_ ?_ | exact ev_str | exact ev_int | exact ev_bl | exact ev_non
  | (refine ev_tup ?hal ?_ ?hle; (case hal => assumption); (case hle => with_unfolding_all exact Nat.le_of_ble_eq_true rfl))
  | (refine ev_ll (ev_lst ?hal ?_ ?hle); (case hal => assumption); (case hle => with_unfolding_all exact Nat.le_of_ble_eq_true rfl))
  | (refine ev_ll (ev_rep (n := ?nn) ?hal ?_ ?he ?hz); (case he => with_unfolding_all exact rfl); (case hal => assumption); (case hz => with_unfolding_all omega))
  | (refine ev_lst ?hal ?_ ?hle; (case hal => assumption); (case hle => with_unfolding_all exact Nat.le_of_ble_eq_true rfl))
  | (refine ev_lt ?he; (case he => with_unfolding_all exact rfl))
  | (refine ev_let ?hal ?_ ?hs; (case hal => assumption); (case hs => with_unfolding_all first | decide +kernel | rfl))
  | (refine ev_var (v := ?vv) ?he ?hd; (case he => with_unfolding_all exact rfl); (case hd => with_unfolding_all walk_at "dp")))

section
variable {P : Program} {w : World} {K : PySem.W.Frag} {mg : Str → Option Value} {base : Heap}
def pGNm : Sp := fun vs H Q _ => vs = [] ∧ ∀ p H1, H p = none → Ex H H1 → H1 p = some (.lst (NM.map V.str)) → Q (.ref p) H1
def rowN (c : Nat) : List Str := ("uvxyz" : Str).cps.toList.map fun d => (⟨#[c]⟩ : Str) ++ ⟨#[d]⟩
theorem all_NM : ("abcdefgh" : Str).cps.toList.flatMap rowN = NM := by decide +kernel
theorem lp_str {σ : L2.St} {H : Hp} {g : TG} {ts : TS} {D : Ends} {z : Str} (J : Nat → L2.St → Hp → Prop) (h0 : J 0 σ H)
    (hs : ∀ (k c : Nat) (s : L2.St) (h : Hp), z.cps.toList[k]? = some c → J k s h → g (.str ⟨#[c]⟩) s h fun s2 h2 => ts { D with nx := J (k + 1), ct := J (k + 1), bk := D.nx } s2 h2)
    (hd : ∀ s h, J z.cps.size s h → D.nx s h) : LoopG (Its z) g ts D σ H := by
  refine ⟨fun i m σ h => m = z.cps.size - i ∧ i ≤ z.cps.size ∧ J i σ h, ⟨_, rfl, Nat.zero_le _, h0⟩, ?_⟩
  rintro i m σ h ⟨rfl, hi, q⟩
  by_cases hlt : i < z.cps.size
  · refine .inr ⟨hlt, J (i + 1), fun σ' h' q' => ⟨z.cps.size - (i + 1), by omega, rfl, hlt, q'⟩, fun x h' y => ?_⟩
    obtain ⟨e, c, y, e2⟩ := y
    subst e e2
    exact hs i c _ _ (by simpa using y) q
  · have e : i = z.cps.size := by omega
    subst e
    exact .inl ⟨Nat.le_refl _, hd σ h q⟩
theorem ok__law_names (T : Tx K mg) : FnOk P w K mg base CX0 1 T.a__law_names T.e__law_names p__law_names pGNm := by
  refine T.d__law_names.F.ok sc__law_names (fun vs H Q E h => ?_) (fun cdv A outer s H vs Q E hr h => ?_)
  · obtain ⟨rfl, _⟩ := h
    rfl
  obtain ⟨rfl, q⟩ := h
  refine ⟨_, (pss_cons (ps_set (i := 0) sc__law_names.nd rfl (.inl rfl) (pe_lst pa_nil))
    (pss_cons (ps_for PassesOwn.never rfl (pi_str pe_str) (pg_name (i := 1) sc__law_names.nd rfl (.inr rfl)) (pss_one (ps_expr (pe_bm PySem.F.plainAttrs_list PySem.F.slot_list_extend PySem.F.type_list_extend mt_extend (pv 0) (pa_cons (pe_lc (own := [("b", 2)]) (g := gName 2) rfl sc__law_names.nd  (pi_str pe_str) (blkOk_by (own := [("b", 2)]) (N := n__law_names) (sc := defScope s__law_names) (by decide +kernel)) (fun _ _ _ _ _ => (pg_name (i := 2) sc__law_names.nd rfl (Or.inl rfl))) (fun _ _ _ _ _ => pts_nil) (fun _ _ _ _ _ => (pe_op op_add_str (pv 1) (pv 2)))) pa_nil)))))
    (pss_one (ps_ret (pv 0))))), ?_⟩
  walk_at "r"
  refine new_lst (xs := []) (by simp) fun l H1 n1 e1 f1 => ?_
  walk_at "r"
  refine lp_str (fun k σ h => (∃ x1 x2, σ = [some (.ref l), x1, x2]) ∧ Ex H h ∧ ∃ xs : List Str, h l = some (.lst (xs.map V.str)) ∧ xs = (("abcdefgh" : Str).cps.toList.take k).flatMap rowN ∧ xs.length ≤ 5 * k) ⟨⟨_, _, rfl⟩, e1, [], f1, rfl, Nat.le_refl _⟩ ?_ ?_
  · rintro k c σ h hc ⟨⟨x1, x2, rfl⟩, e2, xs, f2, ex, lx⟩
    have hk := at_lt hc
    have hk8 : k < 8 := hk
    walk_at "r"
    refine ⟨a_ty f2, ?_⟩
    walk_at "r"
    refine cp_chars (fun D j h2 => Ex h h2 ∧ ∃ ys : List Str, h2 D = some (.lst (ys.map V.str)) ∧ ys = (("uvxyz" : Str).cps.toList.take j).map (fun d => (⟨#[c]⟩ : Str) ++ ⟨#[d]⟩)) (fun D n => ⟨Ex.new n, [], upd_same, rfl⟩) ?_ ?_
    · rintro D j d h2 nD hd ⟨e3, ys, f3, ey⟩
      have hd' : ("uvxyz" : Str).cps.toList[j]? = some d := by simpa using hd
      have hj := at_lt hd'
      have hj5 : j < 5 := hj
      walk_at "r"
      refine ⟨rfl, ?_⟩
      walk_at "r"
      refine ⟨_, _, rfl, rfl, sz_of (show (1 : Nat) + 1 ≤ 100000 by decide), ?_⟩
      have ly : ys.length ≤ 5 := by rw [ey, List.length_map, List.length_take]; omega
      refine ⟨_, f3, sz_lt (by rw [List.length_map]; omega), e3.mut nD, ys ++ [(⟨#[c]⟩ : Str) ++ ⟨#[d]⟩], by rw [upd_same, List.map_append]; rfl, ?_⟩
      rw [take_snoc hd', List.map_append, ey]
      rfl
    · rintro D h2 nD ⟨e3, ys, f3, ey⟩
      walk_at "r"
      have ly : ys.length = 5 := by rw [ey, List.length_map]; decide +kernel
      refine a_extend (e3 _ _ f2) f3 (by rw [List.length_map, List.length_map]; omega) ?_
      refine ⟨⟨_, _, rfl⟩, (e2.trans e3).mut n1, xs ++ ys, by rw [upd_same, List.map_append], ?_, by rw [List.length_append]; omega⟩
      rw [take_snoc hc, List.flatMap_append, ex, ey]
      have z : ∀ A B C : List Str, B = C → A ++ B = A ++ C := fun A B C h => by rw [h]
      exact z _ _ _ (by show _ = rowN c ++ []; rw [List.append_nil]; rfl)
  · rintro σ h ⟨⟨x1, x2, rfl⟩, e2, xs, f2, ex, lx⟩
    walk_at "r"
    have e : xs = NM := by
      rw [ex, ← all_NM]
      rfl
    rw [e] at f2
    exact q l h n1 e2 f2

theorem str_at {xs : List Str} {j : Nat} {x : Str} (h : xs[j]? = some x) : (xs.map V.str)[j]? = some (.str x) := by
  rw [List.getElem?_map, h]
  rfl
theorem nat_of {v m : Int} (h0 : 0 ≤ v) (h1 : v < m) : ∃ j : Nat, v = (j : Int) ∧ (j : Int) < m := ⟨v.toNat, by omega, by omega⟩
theorem or_q {t u : TT} {σ : L2.St} {H : Hp} {N : Bool → Hp → Prop} {a c : Bool} (ht : ∀ M : Bool → Hp → Prop, M a H → t σ H M) (hu : ∀ M : Bool → Hp → Prop, M c H → u σ H M) (h : N (a || c) H) : tOr t u σ H N := w_or (ht _ (by
  cases a with
  | true => exact h
  | false => exact hu _ h))
theorem ok__law_source (T : Tx K mg) : FnOk P w K mg base CX0 2 T.a__law_source T.e__law_source p__law_source (pGSrc K) := by
  refine T.d__law_source.F.ok sc__law_source (fun vs H Q E h => ?_) (fun cdv A outer s H vs Q E hr h => ?_)
  · obtain ⟨S, b, r, pf, pn, pt, g, fr, xs, e, n, W, rfl, _⟩ := h
    rfl
  obtain ⟨S, b, r, pf, pn, pt, g, fr, xs, e, n, W, rfl, gs, hn, hg, q⟩ := h
  have hu := hu_of hr
  have hb : [b] ⊆ S := by simpa using gs.m.1
  refine ⟨_, (pss_cons (ps_set (i := 4) sc__law_source.nd rfl (.inl rfl) (pe_call (ok__law_draw T) (hr.mono (by omega)) (by rfl) T.d__law_draw.m T.d__law_draw.F.kp T.d__law_draw.b .nil pass0 (pa_cons (pv 0) (pa_cons pe_int pa_nil))))
    (pss_cons (ps_if (pt_cmpR op_eq (pe_call (ok__law_draw T) (hr.mono (by omega)) (by rfl) T.d__law_draw.m T.d__law_draw.F.kp T.d__law_draw.b .nil pass0 (pa_cons (pv 0) (pa_cons pe_int pa_nil))) pe_int (nomark _)) (pss_one (ps_ret (pe_tup (pa_cons pe_str (pa_cons (pe_tup (pa_cons pe_str (pa_cons pe_int pa_nil))) pa_nil))))) pss_nil)
    (pss_cons (ps_if (PW.pt (pw_or (pt_cmpR op_eq (pv 4) pe_int (nomark _)) (pw_or1 (pt_cmpR op_eq (pe_callB (lenK K) (by rfl) T.b_len PySem.boot_len (pa_cons (pv 1) pa_nil)) pe_int (nomark _))))) (pss_cons (ps_if (PW.pt (pw_or (pt_cmpR op_eq (pe_callB (lenK K) (by rfl) T.b_len PySem.boot_len (pa_cons (pv 3) pa_nil)) pe_int (nomark _)) (pw_or1 (pt_cmpR op_eq (pe_call (ok__law_draw T) (hr.mono (by omega)) (by rfl) T.d__law_draw.m T.d__law_draw.F.kp T.d__law_draw.b .nil pass0 (pa_cons (pv 0) (pa_cons pe_int pa_nil))) pe_int (nomark _))))) (pss_one (ps_ret (pe_tup (pa_cons pe_str (pa_cons (pe_call (ok__law_draw T) (hr.mono (by omega)) (by rfl) T.d__law_draw.m T.d__law_draw.F.kp T.d__law_draw.b .nil pass0 (pa_cons (pv 0) (pa_cons pe_int pa_nil))) pa_nil))))) pss_nil)
    (pss_one (ps_ret (pe_tup (pa_cons pe_str pa_nil))))) pss_nil)
    (pss_cons (ps_set (i := 5) sc__law_source.nd rfl (.inr rfl) (pe_ix (ixL K) (pv 1) (pe_op op_mod (pe_callTy k_int (by rfl) T.b_int (by decide +kernel) (pa_cons (pe_call (ok__law_draw T) (hr.mono (by omega)) (by rfl) T.d__law_draw.m T.d__law_draw.F.kp T.d__law_draw.b .nil pass0 (pa_cons (pv 0) (pa_cons pe_int pa_nil))) pa_nil)) (pe_callB (lenK K) (by rfl) T.b_len PySem.boot_len (pa_cons (pv 1) pa_nil))) (fun _ _ => rfl)))
    (pss_cons (ps_setLc (i := 6) (own := [("k", 7)]) (g := gName 7) rfl sc__law_source.nd rfl rfl (sw_true rfl rfl rfl (by decide +kernel)) (pi_range1 (by rfl) T.b_range (pa_cons (pe_callB (lenK K) (by rfl) T.b_len PySem.boot_len (pa_cons (pe_dget hu (pv 2) (pv 5) (fun _ _ => rfl)) pa_nil)) pa_nil)) (blkOk_by (own := [("k", 7)]) (N := n__law_source) (sc := defScope s__law_source) (by decide +kernel)) (fun _ _ _ _ _ => (pg_name (i := 7) sc__law_source.nd rfl (Or.inl rfl))) (fun _ _ _ _ _ => (pts_one (pt_cmpR op_eq (pe_op op_sub (pe_op op_sub (pe_callB (lenK K) (by rfl) T.b_len PySem.boot_len (pa_cons (pe_dget hu (pv 2) (pv 5) (fun _ _ => rfl)) pa_nil)) pe_int) (pv 7)) (pe_callB (lenK K) (by rfl) T.b_len PySem.boot_len (pa_cons (pv 3) pa_nil)) (nomark _)))) (fun _ _ _ _ _ => (pe_tup (pa_cons pe_str (pa_cons (pe_tup (pa_cons (pv 5) (pa_cons (pv 7) pa_nil))) pa_nil)))))
    (pss_cons (ps_set (i := 6) sc__law_source.nd rfl (.inl rfl) (pe_op op_cat (pv 6) (pe_lc (own := [("k", 7)]) (g := gName 7) rfl sc__law_source.nd  (pi_range1 (by rfl) T.b_range (pa_cons (pe_callB (lenK K) (by rfl) T.b_len PySem.boot_len (pa_cons (pe_dget hu (pv 2) (pv 5) (fun _ _ => rfl)) pa_nil)) pa_nil)) (blkOk_by (own := [("k", 7)]) (N := n__law_source) (sc := defScope s__law_source) (by decide +kernel)) (fun _ _ _ _ _ => (pg_name (i := 7) sc__law_source.nd rfl (Or.inl rfl))) (fun _ _ _ _ _ => (pts_one (pt_cmpR op_eq (pe_op op_sub (pe_callB (lenK K) (by rfl) T.b_len PySem.boot_len (pa_cons (pe_dget hu (pv 2) (pv 5) (fun _ _ => rfl)) pa_nil)) (pv 7)) (pe_callB (lenK K) (by rfl) T.b_len PySem.boot_len (pa_cons (pv 3) pa_nil)) (nomark _)))) (fun _ _ _ _ _ => (pe_tup (pa_cons pe_str (pa_cons (pe_tup (pa_cons (pv 5) (pa_cons (pv 7) pa_nil))) pa_nil)))))))
    (pss_cons (ps_if (PW.pt (pw_or (pt_cmpR op_eq (pe_callB (lenK K) (by rfl) T.b_len PySem.boot_len (pa_cons (pv 6) pa_nil)) pe_int (nomark _)) (pw_or1 (pt_cmpR op_eq (pe_call (ok__law_draw T) (hr.mono (by omega)) (by rfl) T.d__law_draw.m T.d__law_draw.F.kp T.d__law_draw.b .nil pass0 (pa_cons (pv 0) (pa_cons pe_int pa_nil))) pe_int (nomark _))))) (pss_one (ps_ret (pe_tup (pa_cons (pe_ix (ixL K) (pe_lst (pa_cons pe_str (pa_cons pe_str pa_nil))) (pe_call (ok__law_draw T) (hr.mono (by omega)) (by rfl) T.d__law_draw.m T.d__law_draw.F.kp T.d__law_draw.b .nil pass0 (pa_cons (pv 0) (pa_cons pe_int pa_nil))) (fun _ _ => rfl)) (pa_cons (pe_tup (pa_cons (pv 5) (pa_cons (pe_call (ok__law_draw T) (hr.mono (by omega)) (by rfl) T.d__law_draw.m T.d__law_draw.F.kp T.d__law_draw.b .nil pass0 (pa_cons (pv 0) (pa_cons pe_int pa_nil))) pa_nil))) pa_nil))))) pss_nil)
    (pss_one (ps_ret (pe_ix (ixL K) (pv 6) (pe_op op_mod (pe_callTy k_int (by rfl) T.b_int (by decide +kernel) (pa_cons (pe_call (ok__law_draw T) (hr.mono (by omega)) (by rfl) T.d__law_draw.m T.d__law_draw.F.kp T.d__law_draw.b .nil pass0 (pa_cons (pv 0) (pa_cons pe_int pa_nil))) pa_nil)) (pe_callB (lenK K) (by rfl) T.b_len PySem.boot_len (pa_cons (pv 6) pa_nil))) (fun _ _ => rfl))))))))))), ?_⟩
  walk_at "r"
  refine ap_draw gs.bx (by decide) fun v1 H1 _ _ k1 b1 => ?_
  walk_at "r"
  have gs1 := gs.draw k1 b1
  refine ap_draw b1 (by decide) fun v2 H2 _ _ k2 b2 => ?_
  walk_at "r"
  have gs2 := gs1.draw k2 b2
  have k12 := k1.trans k2
  have hg2 : SqT K (dl S H2) g (tv W) := ex_st hg (dl_ks (k12.mono (fun a ha => hb ha)))
  refine ite2 (fun _ => ?_) (fun _ => ?_)
  · walk_at "r"
    refine new_tup (by simp) fun t1 H3 n3 e3 f3 => ?_
    walk_at "r"
    refine new_tup (by simp) fun t2 H4 n4 e4 f4 => ?_
    have a3 := gs2.al.ex e3
    exact q (.ref t2) (.val "zz" 0) H4 (k12.trans (Ks.of (e3.trans e4))) (bx_ex b2 (e3.trans e4)) (Dp.in f4 (a3.nin n4) (.cons (.str _) (.cons (Dp.in (e4 _ _ f3) (gs2.al.nin n3) (.cons (.str _) (.cons (.int _) .nil))) .nil))) ⟨o_zz, by decide⟩
  have nmH : H2 pn = some (.lst (xs.map V.str)) := gs2.nm
  have hg2' : SqT K H2 g (tv W) := ex_st hg2 (dl_le _ _)
  have small : ∀ (H3 : Hp), Ks [b] H H3 → Bx H3 b r → Al S H3 → ∀ v : Int, 0 ≤ v → v < 9 → ∀ t H4, H3 t = none → Ex H3 H4 → H4 t = some (.tup [.str "number", .int v]) → Q (.ref t) H4 := fun H3 k3 b3 a3 v h0 h1 t H4 n4 e4 f4 =>
    q (.ref t) (.num v) H4 (k3.trans (Ks.of e4)) (bx_ex b3 e4) (Dp.in f4 (a3.nin n4) (.cons (.str _) (.cons (.int _) .nil))) ⟨h0, by omega⟩
  have nul : ∀ (H3 : Hp), Ks [b] H H3 → Bx H3 b r → Al S H3 → ∀ t H4, H3 t = none → Ex H3 H4 → H4 t = some (.tup [.str "null"]) → Q (.ref t) H4 := fun H3 k3 b3 a3 t H4 n4 e4 f4 =>
    q (.ref t) .null H4 (k3.trans (Ks.of e4)) (bx_ex b3 e4) (Dp.in f4 (a3.nin n4) (.cons (.str _) .nil)) trivial
  with_reducible refine w_next ?_
  with_reducible refine w_seq ?_
  with_reducible refine w_if ?_
  refine or_q (a := decide (v1 = 0)) (c := decide (xs.length = 0)) (fun M h => by walk_at "r"; exact h) (fun M h => by
    walk_at "r"
    refine a_lenL (SqL.of nmH) ?_
    walk_at "r"
    rw [List.length_map]
    have z : decide ((xs.length : Int) = 0) = decide (xs.length = 0) := by
      by_cases c : xs.length = 0
      · rw [c]; rfl
      · rw [decide_eq_false c, decide_eq_false (by omega)]
    rw [z]
    exact h) ?_
  refine ite2 (fun _ => ?_) (fun c => ?_)
  · walk_at "r"
    refine a_lenT hg2' ?_
    walk_at "r"
    refine ite2 (fun _ => ?_) (fun _ => ?_)
    · walk_at "r"
      refine ap_draw b2 (by decide) fun v3 H3 h0 h1 k3 b3 => ?_
      walk_at "r"
      refine new_tup (by simp) fun t H4 n4 e4 f4 => ?_
      exact small H3 (k12.trans k3) b3 (gs2.al.bx k3 b3) v3 h0 h1 t H4 n4 e4 f4
    · walk_at "r"
      refine ap_draw b2 (by decide) fun v5 H5 _ _ k5 b5 => ?_
      walk_at "r"
      have k25 := k12.trans k5
      have a5 := gs2.al.bx k5 b5
      refine ite2 (fun _ => ?_) (fun _ => ?_)
      · walk_at "r"
        refine ap_draw b5 (by decide) fun v3 H3 h0 h1 k3 b3 => ?_
        walk_at "r"
        refine new_tup (by simp) fun t H4 n4 e4 f4 => ?_
        exact small H3 (k25.trans k3) b3 (a5.bx k3 b3) v3 h0 h1 t H4 n4 e4 f4
      · walk_at "r"
        refine new_tup (by simp) fun t H4 n4 e4 f4 => ?_
        exact nul H5 k25 b5 a5 t H4 n4 e4 f4
  have cx : xs.length ≠ 0 := fun z => c (by rw [z]; simp)
  walk_at "r"
  refine ap_draw b2 (by decide) fun v3 H3 h30 _ k3 b3 => ?_
  walk_at "r"
  have gs3 := gs2.draw k3 b3
  have k13 := k12.trans k3
  refine a_lenL (SqL.of gs3.nm) ?_
  walk_at "r"
  rw [List.length_map]
  refine w_I (show (0 : Int) < (xs.length : Int) by omega) ?_
  obtain ⟨j, ej, hj⟩ := nat_of (v := v3 % (xs.length : Int)) (m := xs.length) (Int.emod_nonneg _ (by omega)) (Int.emod_lt_of_pos _ (by omega))
  rw [ej]
  obtain ⟨x, hx⟩ : ∃ x, xs[j]? = some x := ⟨_, List.getElem?_eq_getElem (by omega)⟩
  refine a_ixL (v := .str x) (SqL.of gs3.nm) (atI_nat (str_at hx)) ?_
  walk_at "r"
  obtain ⟨xo, U, hU, u1, u4⟩ := gs3.kn x (List.mem_of_getElem? hx)
  have hn' : n ≤ 1000 := by omega
  have T3 := gs3.t.d hn'
  have hg3 : SqT K H3 g (tv W) := ex_st (ex_st hg2 (dl_ks (k3.mono (fun a ha => hb ha)))) (dl_le _ _)
  -- the places that fit
  refine T3.get hU fun a ha => ?_
  have ha' := ex_st ha (dl_le S H3)
  walk_at "r"
  refine a_lenT ha' ?_
  walk_at "r"
  rw [tv_len]
  refine c_R1 (by omega) ?_
  refine cp_range (fun l k h => Ex H3 h ∧ ∃ acc ss, h l = some (.lst acc) ∧ DpAll K (dl (l :: S) h) acc (List.map sD ss) ∧ (∀ s ∈ ss, sO s) ∧ acc.length ≤ k) (fun l n => ⟨Ex.new n, [], [], upd_same, .nil, (fun s hs => by cases hs), Nat.le_refl _⟩) ?_ ?_
  · rintro l k h nl hk ⟨e4, acc, ss, f4, D4, so, l4⟩
    have hk5 : k < 5 := by omega
    have k0 : (0 : Int) + (k : Int) = ((k : Nat) : Int) := Int.zero_add _
    rw [k0]
    walk_at "r"
    refine ⟨rfl, ?_⟩
    walk_at "r"
    refine (T3.ex' e4).get hU fun a2 ha2 => ?_
    walk_at "r"
    refine a_lenT (ex_st ha2 (dl_le S h)) ?_
    walk_at "r"
    refine a_lenT (ex_st hg3 e4) ?_
    walk_at "r"
    refine ite2 (fun _ => ?_) (fun _ => ⟨e4, acc, ss, f4, D4, so, by omega⟩)
    walk_at "r"
    refine new_tup (by simp) fun t1 h5 n5 e5 f5 => ?_
    walk_at "r"
    refine new_tup (by simp) fun t2 h6 n6 e6 f6 => ?_
    have al4 := gs3.al.add e4 f4
    have al5 := al4.ex e5
    have f46 := (e5.trans e6) _ _ f4
    refine ⟨acc, f46, sz_lt (by omega), (e4.trans (e5.trans e6)).mut nl, acc ++ [.ref t2], ss ++ [.val x k], upd_same, ?_, ?_, by rw [List.length_append]; simp; omega⟩
    · rw [dl_upd (List.mem_cons_self ..), List.map_append]
      exact dpa_snoc (dpa_ex (dl_ex (e5.trans e6)) D4) (Dp.in f6 (al5.nin n6) (.cons (.str _) (.cons (Dp.in (e6 _ _ f5) (al4.nin n5) (.cons (.str _) (.cons (.int _) .nil))) .nil)))
    · intro s hs
      rcases List.mem_append.mp hs with hs | hs
      · exact so s hs
      · rw [List.mem_singleton] at hs
        rw [hs]
        exact ⟨xo, by omega⟩
  rintro l1 h4 nl1 ⟨e4, acc1, ss1, f4, D4, so1, l4⟩
  walk_at "r"
  have T4 := T3.ex' e4
  refine T4.get hU fun a2 ha2 => ?_
  walk_at "r"
  refine a_lenT (ex_st ha2 (dl_le S h4)) ?_
  walk_at "r"
  rw [tv_len]
  refine c_R1 (by omega) ?_
  have gs4 := gs3.ex e4
  have l1S : l1 ∉ S := gs3.al.nin nl1
  refine cp_range (fun l k h => Ex h4 h ∧ ∃ acc ss, h l = some (.lst acc) ∧ DpAll K (dl (l :: S) h) acc (List.map sD ss) ∧ (∀ s ∈ ss, sO s) ∧ acc.length ≤ k) (fun l n => ⟨Ex.new n, [], [], upd_same, .nil, (fun s hs => by cases hs), Nat.le_refl _⟩) ?_ ?_
  · rintro l k h nl hk ⟨e5, acc, ss, f5, D5, so, l5⟩
    have hk5 : k < 5 := by omega
    have k0 : (0 : Int) + (k : Int) = ((k : Nat) : Int) := Int.zero_add _
    rw [k0]
    walk_at "r"
    refine ⟨rfl, ?_⟩
    walk_at "r"
    refine (T4.ex' e5).get hU fun a3 ha3 => ?_
    walk_at "r"
    refine a_lenT (ex_st ha3 (dl_le S h)) ?_
    walk_at "r"
    refine a_lenT (ex_st hg3 (e4.trans e5)) ?_
    walk_at "r"
    refine ite2 (fun _ => ?_) (fun _ => ⟨e5, acc, ss, f5, D5, so, by omega⟩)
    walk_at "r"
    refine new_tup (by simp) fun t1 h6 n6 e6 f6 => ?_
    walk_at "r"
    refine new_tup (by simp) fun t2 h7 n7 e7 f7 => ?_
    have al5 := gs4.al.add e5 f5
    have al6 := al5.ex e6
    have f57 := (e6.trans e7) _ _ f5
    refine ⟨acc, f57, sz_lt (by omega), (e5.trans (e6.trans e7)).mut nl, acc ++ [.ref t2], ss ++ [.adr x k], upd_same, ?_, ?_, by rw [List.length_append]; simp; omega⟩
    · rw [dl_upd (List.mem_cons_self ..), List.map_append]
      exact dpa_snoc (dpa_ex (dl_ex (e6.trans e7)) D5) (Dp.in f7 (al6.nin n7) (.cons (.str _) (.cons (Dp.in (e7 _ _ f6) (al5.nin n6) (.cons (.str _) (.cons (.int _) .nil))) .nil)))
    · intro s hs
      rcases List.mem_append.mp hs with hs | hs
      · exact so s hs
      · rw [List.mem_singleton] at hs
        rw [hs]
        exact ⟨xo, by omega⟩
  rintro l2 h5 nl2 ⟨e5, acc2, ss2, f5, D5, so2, l5⟩
  walk_at "r"
  refine a_cat (e5 _ _ f4) f5 (by omega) fun l3 h6 n6 e6 f6 => ?_
  walk_at "r"
  have gs6 := gs4.ex (e5.trans e6)
  have k16 : Ks [b] H h6 := k13.trans (Ks.of (e4.trans (e5.trans e6)))
  have D6 : DpAll K (dl S h6) (acc1 ++ acc2) (List.map sD (ss1 ++ ss2)) := by
    rw [List.map_append]
    exact dpa_app (dpa_ex (dl_ex (e5.trans e6)) (dpa_ex (dl_sub (fun a ha => List.mem_cons_of_mem _ ha)) D4)) (dpa_ex (dl_ex e6) (dpa_ex (dl_sub (fun a ha => List.mem_cons_of_mem _ ha)) D5))
  have so3 : ∀ s ∈ ss1 ++ ss2, sO s := fun s hs => (List.mem_append.mp hs).elim (so1 s) (so2 s)
  have l6 : (acc1 ++ acc2).length = (ss1 ++ ss2).length := by rw [dpa_len D6, List.length_map]
  clear D4 D5 so1 so2 f4 f5 l4 l5
  generalize acc1 ++ acc2 = acc at f6 D6 l6
  generalize ss1 ++ ss2 = ss at D6 so3 l6
  have wild : ∀ (H7 : Hp), Ks [b] H H7 → Bx H7 b r → Al S H7 → ∀ (w2 w3 : Int), 0 ≤ w2 → w2 < 2 → 0 ≤ w3 → w3 < 3 → ∀ t1 t2 H8 H9 (kw : Str), H7 t1 = none → Ex H7 H8 → H8 t1 = some (.tup [.str x, .int w3]) → H8 t2 = none → Ex H8 H9 → H9 t2 = some (.tup [.str kw, .ref t1]) → kw = "value" ∨ kw = "address" → Q (.ref t2) H9 := fun H7 k7 b7 a7 w2 w3 _ _ h0 h1 t1 t2 H8 H9 kw m1 x1 g1 m2 x2 g2 hw => by
    obtain ⟨j3, rfl, hj3⟩ := nat_of h0 h1
    have dpl : Dp K (dl S H9) (.ref t1) (plD x j3) := Dp.in (x2 _ _ g1) (a7.nin m1) (.cons (.str _) (.cons (.int _) .nil))
    have kk := k7.trans (Ks.of (x1.trans x2))
    have bb := bx_ex b7 (x1.trans x2)
    rcases hw with rfl | rfl
    · exact q (.ref t2) (.val x j3) H9 kk bb (Dp.in g2 ((a7.ex x1).nin m2) (.cons (.str _) (.cons dpl .nil))) ⟨xo, by omega⟩
    · exact q (.ref t2) (.adr x j3) H9 kk bb (Dp.in g2 ((a7.ex x1).nin m2) (.cons (.str _) (.cons dpl .nil))) ⟨xo, by omega⟩
  refine a_lenL (SqL.of f6) ?_
  walk_at "r"
  refine ite2 (fun _ => ?_) (fun ce => ?_)
  · walk_at "r"
    refine new_lst (by simp) fun lw H7 n7 e7 f7 => ?_
    walk_at "r"
    refine ap_draw (bx_ex gs6.bx e7) (by decide) fun w2 H8 p0 p1 k8 b8 => ?_
    walk_at "r"
    obtain ⟨j2, rfl, hj2⟩ := nat_of p0 p1
    have nlb : lw ≠ b := (bx_nb gs6.bx n7).symm
    have f8 : H8 lw = some (.lst [.str "value", .str "address"]) := k8 _ _ (by simpa using nlb) f7
    obtain ⟨kw, hkw, hw⟩ : ∃ kw : Str, [V.str "value", V.str "address"][j2]? = some (.str kw) ∧ (kw = "value" ∨ kw = "address") := by
      have : j2 = 0 ∨ j2 = 1 := by omega
      rcases this with rfl | rfl
      · exact ⟨"value", rfl, .inl rfl⟩
      · exact ⟨"address", rfl, .inr rfl⟩
    refine a_ixL (v := .str kw) (SqL.of f8) (atI_nat hkw) ?_
    walk_at "r"
    refine ap_draw b8 (by decide) fun w3 H9 p2 p3 k9 b9 => ?_
    walk_at "r"
    refine new_tup (by simp) fun t1 H10 n10 e10 f10 => ?_
    walk_at "r"
    refine new_tup (by simp) fun t2 H11 n11 e11 f11 => ?_
    have a9 := ((gs6.al.ex e7).bx k8 b8).bx k9 b9
    exact wild H9 (((k16.trans (Ks.of e7)).trans k8).trans k9) b9 a9 _ w3 p0 p1 p2 p3 t1 t2 H10 H11 kw n10 e10 f10 n11 e11 f11 hw
  · walk_at "r"
    refine ap_draw gs6.bx (by decide) fun w0 h7 _ _ k7 b7 => ?_
    walk_at "r"
    have gs7 := gs6.draw k7 b7
    have nl3 : l3 ≠ b := (bx_nb (bx_ex gs4.bx e5) n6).symm
    have f67 : h7 l3 = some (.lst acc) := k7 _ _ (by simpa using nl3) f6
    have D7 : DpAll K (dl S h7) acc (List.map sD ss) := dpa_ex (dl_ks (k7.mono (fun a ha => hb ha))) D6
    refine ite2 (fun _ => ?_) (fun _ => ?_)
    · walk_at "r"
      refine new_lst (by simp) fun lw H7 n7 e7 f7 => ?_
      walk_at "r"
      refine ap_draw (bx_ex gs7.bx e7) (by decide) fun w2 H8 p0 p1 k8 b8 => ?_
      walk_at "r"
      obtain ⟨j2, rfl, hj2⟩ := nat_of p0 p1
      have nlb : lw ≠ b := (bx_nb gs7.bx n7).symm
      have f8 : H8 lw = some (.lst [.str "value", .str "address"]) := k8 _ _ (by simpa using nlb) f7
      obtain ⟨kw, hkw, hw⟩ : ∃ kw : Str, [V.str "value", V.str "address"][j2]? = some (.str kw) ∧ (kw = "value" ∨ kw = "address") := by
        have : j2 = 0 ∨ j2 = 1 := by omega
        rcases this with rfl | rfl
        · exact ⟨"value", rfl, .inl rfl⟩
        · exact ⟨"address", rfl, .inr rfl⟩
      refine a_ixL (v := .str kw) (SqL.of f8) (atI_nat hkw) ?_
      walk_at "r"
      refine ap_draw b8 (by decide) fun w3 H9 p2 p3 k9 b9 => ?_
      walk_at "r"
      refine new_tup (by simp) fun t1 H10 n10 e10 f10 => ?_
      walk_at "r"
      refine new_tup (by simp) fun t2 H11 n11 e11 f11 => ?_
      have a9 := ((gs7.al.ex e7).bx k8 b8).bx k9 b9
      exact wild H9 ((((k16.trans k7).trans (Ks.of e7)).trans k8).trans k9) b9 a9 _ w3 p0 p1 p2 p3 t1 t2 H10 H11 kw n10 e10 f10 n11 e11 f11 hw
    · walk_at "r"
      refine ap_draw gs7.bx (by decide) fun w1 h8 p0 _ k8 b8 => ?_
      walk_at "r"
      have f8 : h8 l3 = some (.lst acc) := k8 _ _ (by simpa using nl3) f67
      have D8 : DpAll K (dl S h8) acc (List.map sD ss) := dpa_ex (dl_ks (k8.mono (fun a ha => hb ha))) D7
      refine a_lenL (SqL.of f8) ?_
      walk_at "r"
      have la : acc.length ≠ 0 := fun z => ce (by rw [z]; rfl)
      refine w_I (show (0 : Int) < (acc.length : Int) by omega) ?_
      obtain ⟨j4, ej4, hj4⟩ := nat_of (v := w1 % (acc.length : Int)) (m := acc.length) (Int.emod_nonneg _ (by omega)) (Int.emod_lt_of_pos _ (by omega))
      rw [ej4]
      obtain ⟨v4, hv4⟩ : ∃ v4, acc[j4]? = some v4 := ⟨_, List.getElem?_eq_getElem (by omega)⟩
      obtain ⟨d4, hd4, dv4⟩ := dpa_at D8 hv4
      rw [List.getElem?_map] at hd4
      cases hs4 : ss[j4]? with
      | none => rw [hs4] at hd4; cases hd4
      | some s4 =>
      rw [hs4] at hd4
      cases hd4
      refine a_ixL (v := v4) (SqL.of f8) (atI_nat hv4) ?_
      exact q v4 s4 h8 ((k16.trans k7).trans k8) b8 dv4 (so3 s4 (List.mem_of_getElem? hs4))

end
end Ver

set_option Elab.async false
set_option linter.all false
set_option maxRecDepth 100000
set_option maxHeartbeats 4000000
namespace Ver
open PySem PySem.Spec PyProof.Rows L2 Evl
local macro_rules | `(tactic| walk_at "s") => `(tactic| with_reducible first
  | refine w_seq ?_ | refine w_asg ?_ | refine w_name ?_ | refine w_if ?_ | refine w_ret ?_ | refine w_drop ?_ | refine w_next ?_ | refine w_brk ?_ | refine w_cont ?_
  | (refine w_var (v := ?vv) ?hh ?_; (case hh => with_unfolding_all exact rfl))
  | refine w_c ?_ | refine w_op ?_ | refine w_un ?_ | refine w_I0 ?_ | refine w_neg ?_ | refine w_eqI ?_ | refine w_neI ?_ | refine w_eqS ?_ | refine w_neS ?_ | refine w_eqB ?_ | refine w_neB ?_
  | refine w_test ?_ | refine w_B ?_ | refine w_and ?_ | refine w_or ?_ | refine w_not ?_ | refine w_andV ?_ | refine w_orV ?_ | refine w_notV ?_ | refine w_ifE ?_ | refine w_yes ?_
  | refine w_nil ?_ | refine w_cons ?_ | refine w_CB ?_ | refine w_callN ?_ | refine w_BM ?_ | refine w_BMT ?_ | refine w_BM0 ?_ | refine w_noPart ?_ | refine w_part ?_ | refine w_sl ?_ | refine w_tup ?_ | refine w_lst ?_
  | refine w_subG ?_ | refine w_gcons ?_ | refine w_gnil ?_ | refine w_for ?_ | refine w_lc ?_ | refine w_iR1 ?_ | refine w_iR2 ?_ | refine w_iL ?_ | refine w_iT ?_ | refine w_iS ?_
  | (show ∃ k, V.bl _ = V.bl k ∧ _; refine ⟨_, rfl, ?_⟩) | (show ∃ k, V.int _ = V.int k ∧ _; refine ⟨_, rfl, ?_⟩)
  | refine iteT ?_ | refine iteF ?_ | refine iteNT ?_ | refine iteNF ?_ | refine r_S ?_ | refine c_S ?_ | refine a_abs ?_ | refine a_intI ?_ | refine a_intB ?_ | refine w_par ?_ | refine w_dK ?_ | refine w_chain ?_ | (show ∃ v w, [_, _] = [v, w] ∧ _; refine ⟨_, _, rfl, ?_⟩)
  | refine w_getF ?_ | refine w_setF ?_ | refine w_newI ?_ | refine w_callS ?_ | refine w_getD1 ?_ | refine w_putD ?_ | refine w_veI ?_ | refine w_ostI ?_ | refine w_mkO ?_ | refine w_newS ?_ | refine w_xf ?_ | refine w_dget ?_ | refine w_din ?_ | refine w_dnin ?_ | refine w_iEn ?_ | refine w_iZp ?_ | refine w_dc ?_
  | refine a_isNn ?_ | refine a_isNr ?_ | refine a_notNn ?_ | refine a_notNr ?_ | refine a_isTy ?_ | refine a_notTy ?_ | refine a_isBl ?_ | refine a_notBl ?_)
local macro_rules | `(tactic| walk_at "r") => `(tactic| repeat walk_at "s")
local macro_rules | `(tactic| walk_at "tr") => `(tactic| first
  | assumption
  | (refine ex_at (H := ?H0) ?h1 ?h2; (case h2 => assumption); (case h1 => walk_at "tr"))
  | (refine ks_at (H := ?H0) (S := ?S0) ?h1 ?h2 ?h3; (case h2 => assumption); (case h3 => walk_at "nin"); (case h1 => walk_at "tr")))
local macro_rules | `(tactic| walk_at "nin") => `(tactic| first
  | exact nin_nil | (refine nin_cons ?h1 ?h2; (case h1 => walk_at "ne"); (case h2 => walk_at "nin")))
local macro_rules | `(tactic| walk_at "ne") => `(tactic| first
  | assumption | exact Ne.symm (by assumption)
  | (refine bx_nb (H := ?H0) (r := ?r0) ?h1 ?h2; (case h2 => assumption); (case h1 => walk_at "bx"))
  | (refine bx_nr (H := ?H0) (b := ?b0) ?h1 ?h2; (case h2 => assumption); (case h1 => walk_at "bx"))
  | (refine Ne.symm (bx_nb (H := ?H0) (r := ?r0) ?h1 ?h2); (case h2 => assumption); (case h1 => walk_at "bx"))
  | (refine ne_old (H := ?H0) (o := ?o0) ?h1 ?h2; (case h2 => assumption); (case h1 => walk_at "tr"))
  | (refine Ne.symm (ne_old (H := ?H0) (o := ?o0) ?h1 ?h2); (case h2 => assumption); (case h1 => walk_at "tr"))
  | exact (Tu.ne (by assumption) (by assumption)).1 | exact (Tu.ne (by assumption) (by assumption)).2
  | (refine bx_rb (H := ?H0) ?h1; (case h1 => walk_at "bx")))
local macro_rules | `(tactic| walk_at "tu") => `(tactic| first
  | assumption
  | (refine Tu.ex (H := ?H0) ?h1 ?h2; (case h2 => assumption); (case h1 => walk_at "tu"))
  | (refine Tu.ks (H := ?H0) (S := ?S0) ?h1 ?h2 ?h3; (case h2 => assumption); (case h3 => walk_at "nin"); (case h1 => walk_at "tu")))
local macro_rules | `(tactic| walk_at "bx") => `(tactic| first
  | assumption
  | (refine bx_ex (H := ?H0) ?h1 ?h2; (case h2 => assumption); (case h1 => walk_at "bx"))
  | (refine bx_ks (H := ?H0) (S := ?S0) ?h1 ?h2 ?h3 ?h4; (case h2 => assumption); (case h3 => walk_at "nin"); (case h4 => walk_at "nin"); (case h1 => walk_at "bx")))
local macro_rules | `(tactic| walk_at "sl") => `(tactic| first
  | assumption | (refine SqL.of ?h1; (case h1 => walk_at "tr"))
  | (refine ex_sl (H := ?H0) ?h1 ?h2; (case h2 => assumption); (case h1 => walk_at "sl"))
  | (refine ks_sl (H := ?H0) (S := ?S0) ?h1 ?h2 ?h3; (case h2 => assumption); (case h3 => walk_at "nin"); (case h1 => walk_at "sl")))
local macro_rules | `(tactic| walk_at "st") => `(tactic| first
  | assumption | (refine Tu.st ?h1; (case h1 => walk_at "tu")) | (refine SqT.of ?h1; (case h1 => walk_at "tr"))
  | (refine ex_st (H := ?H0) ?h1 ?h2; (case h2 => assumption); (case h1 => walk_at "st"))
  | (refine ks_st (H := ?H0) (S := ?S0) ?h1 ?h2 ?h3; (case h2 => assumption); (case h3 => walk_at "nin"); (case h1 => walk_at "st")))
local macro_rules | `(tactic| walk_at "ex") => `(tactic| first
  | exact Ex.refl _ | assumption | (refine Ex.trans (H1 := ?H0) ?h1 ?h2; (case h2 => assumption); (case h1 => walk_at "ex")))
local macro_rules | `(tactic| walk_at "ks") => `(tactic| first
  | exact Ks.refl _ _ | assumption | (refine Ks.of ?h1; (case h1 => assumption)) | (refine Ks.trans (H1 := ?H0) ?h1 ?h2; (case h2 => first | assumption | (refine Ks.of ?h3; (case h3 => assumption))); (case h1 => walk_at "ks")))
local macro_rules | `(tactic| walk_at "dp") => `(tactic| first
  | exact Dp.str _ | exact Dp.int _ | exact Dp.bl _ | exact Dp.non | assumption | exact LsAt.dp (by assumption)
  | (refine dp_ex (H := ?H0) ?h1 ?h2; (case h1 => assumption); (case h2 => walk_at "dp")))
local macro_rules | `(tactic| walk_at "ev") => `(tactic| with_reducible first
  | exact ev_nil | refine ev_cons ?_ ?_ | exact ev_str | exact ev_int | exact ev_bl | exact ev_non
  | (refine ev_tup ?hal ?_ ?hle; (case hal => assumption); (case hle => with_unfolding_all exact Nat.le_of_ble_eq_true rfl))
  | (refine ev_ll (ev_lst ?hal ?_ ?hle); (case hal => assumption); (case hle => with_unfolding_all exact Nat.le_of_ble_eq_true rfl))
  | (refine ev_ll (ev_rep (n := ?nn) ?hal ?_ ?he ?hz); (case he => with_unfolding_all exact rfl); (case hal => assumption); (case hz => with_unfolding_all omega))
  | (refine ev_lst ?hal ?_ ?hle; (case hal => assumption); (case hle => with_unfolding_all exact Nat.le_of_ble_eq_true rfl))
  | (refine ev_lt ?he; (case he => with_unfolding_all exact rfl))
  | (refine ev_let ?hal ?_ ?hs; (case hal => assumption); (case hs => with_unfolding_all first | decide +kernel | rfl))
  | (refine ev_var (v := ?vv) ?he ?hd; (case he => with_unfolding_all exact rfl); (case hd => with_unfolding_all walk_at "dp")))

section
variable {P : Program} {w : World} {K : PySem.W.Frag} {mg : Str → Option Value} {base : Heap}
theorem lenpos (n : Nat) : decide ((0 : Int) < (n : Int)) = decide (0 < n) := by
  by_cases c : 0 < n
  · rw [decide_eq_true c, decide_eq_true (by omega)]
  · rw [decide_eq_false c, decide_eq_false (by omega)]
theorem ok__law_statement (T : Tx K mg) : FnOk P w K mg base CX0 4 T.a__law_statement T.e__law_statement p__law_statement (pGSt K) := by
  refine T.d__law_statement.F.ok sc__law_statement (fun vs H Q E h => ?_) (fun cdv A outer s H vs Q E hr h => ?_)
  · obtain ⟨S, b, r, pf, pn, pt, pc, fr, xs, e, n, fs, cs, rfl, _⟩ := h
    rfl
  obtain ⟨S, b, r, pf, pn, pt, pc, fr, xs, e, n, fs, cs, rfl, gs, hn, hfr, hc, nbpc, dc, hfs, ofs, q⟩ := h
  have hu := hu_of hr
  have hb : [b] ⊆ S := by simpa using gs.m.1
  refine ⟨_, (pss_cons (ps_set (i := 5) sc__law_statement.nd rfl (.inl rfl) (pe_call (ok__law_draw T) (hr.mono (by omega)) (by rfl) T.d__law_draw.m T.d__law_draw.F.kp T.d__law_draw.b .nil pass0 (pa_cons (pv 0) (pa_cons pe_int pa_nil))))
    (pss_cons (ps_if (PW.pt (pw_and (pt_cmpR op_gt (pe_callB (lenK K) (by rfl) T.b_len PySem.boot_len (pa_cons (pv 4) pa_nil)) pe_int (nomark _)) (pw_and1 (pt_cmpR op_eq (pv 5) pe_int (nomark _))))) (pss_cons (ps_set (i := 6) sc__law_statement.nd rfl (.inl rfl) (pe_ix (ixL K) (pv 4) (pe_op op_mod (pe_callTy k_int (by rfl) T.b_int (by decide +kernel) (pa_cons (pe_call (ok__law_draw T) (hr.mono (by omega)) (by rfl) T.d__law_draw.m T.d__law_draw.F.kp T.d__law_draw.b .nil pass0 (pa_cons (pv 0) (pa_cons pe_int pa_nil))) pa_nil)) (pe_callB (lenK K) (by rfl) T.b_len PySem.boot_len (pa_cons (pv 4) pa_nil))) (fun _ _ => rfl)))
    (pss_one (ps_ret (pe_tup (pa_cons pe_str (pa_cons (pe_ix (ixL K) (pv 6) pe_int (fun _ _ => rfl)) (pa_cons (pe_lc (own := [("param", 11)]) (g := gName 11) rfl sc__law_statement.nd  (plK K (pe_ix (ixL K) (pv 6) pe_int (fun _ _ => rfl))) (blkOk_by (own := [("param", 11)]) (N := n__law_statement) (sc := defScope s__law_statement) (by decide +kernel)) (fun _ _ _ _ _ => (pg_name (i := 11) sc__law_statement.nd rfl (Or.inl rfl))) (fun _ _ _ _ _ => pts_nil) (fun _ _ _ _ _ => (pe_call (ok__law_source T) (hr.mono (by omega)) (by rfl) T.d__law_source.m T.d__law_source.F.kp T.d__law_source.b .nil pass0 (pa_cons (pv 0) (pa_cons (pv 2) (pa_cons (pv 3) (pa_cons (pe_slice (slA K) (pe_ix (ixT K) (pv 11) pe_int (fun _ _ => rfl)) (po_some pe_int) po_none) pa_nil))))))) pa_nil))))))) pss_nil)
    (pss_cons (ps_if (PW.pt (pw_and (pt_cmpR op_gt (pe_callB (lenK K) (by rfl) T.b_len PySem.boot_len (pa_cons (pv 2) pa_nil)) pe_int (nomark _)) (pw_and1 (pt_cmpR op_gt (pv 5) pe_int (nomark _))))) (pss_cons (ps_set (i := 7) sc__law_statement.nd rfl (.inl rfl) (pe_ix (ixL K) (pv 2) (pe_op op_mod (pe_callTy k_int (by rfl) T.b_int (by decide +kernel) (pa_cons (pe_call (ok__law_draw T) (hr.mono (by omega)) (by rfl) T.d__law_draw.m T.d__law_draw.F.kp T.d__law_draw.b .nil pass0 (pa_cons (pv 0) (pa_cons pe_int pa_nil))) pa_nil)) (pe_callB (lenK K) (by rfl) T.b_len PySem.boot_len (pa_cons (pv 2) pa_nil))) (fun _ _ => rfl)))
    (pss_cons (ps_set (i := 8) sc__law_statement.nd rfl (.inl rfl) (pe_op op_mod (pe_callTy k_int (by rfl) T.b_int (by decide +kernel) (pa_cons (pe_call (ok__law_draw T) (hr.mono (by omega)) (by rfl) T.d__law_draw.m T.d__law_draw.F.kp T.d__law_draw.b .nil pass0 (pa_cons (pv 0) (pa_cons pe_int pa_nil))) pa_nil)) (pe_op op_add (pe_callB (lenK K) (by rfl) T.b_len PySem.boot_len (pa_cons (pe_dget hu (pv 3) (pv 7) (fun _ _ => rfl)) pa_nil)) (pe_callTy k_int (by rfl) T.b_int (by decide +kernel) (pa_cons (pe_cmpR op_eq (pe_call (ok__law_draw T) (hr.mono (by omega)) (by rfl) T.d__law_draw.m T.d__law_draw.F.kp T.d__law_draw.b .nil pass0 (pa_cons (pv 0) (pa_cons pe_int pa_nil))) pe_int (nomark _)) pa_nil)))))
    (pss_one (ps_ret (pe_tup (pa_cons pe_str (pa_cons (pe_tup (pa_cons (pv 7) (pa_cons (pe_callB minK (by rfl) T.b_min (by decide +kernel) (pa_cons (pv 8) (pa_cons pe_int pa_nil))) pa_nil))) (pa_cons (pe_call (ok__law_source T) (hr.mono (by omega)) (by rfl) T.d__law_source.m T.d__law_source.F.kp T.d__law_source.b .nil pass0 (pa_cons (pv 0) (pa_cons (pv 2) (pa_cons (pv 3) (pa_cons (pe_slice (slA K) (pe_dget hu (pv 3) (pv 7) (fun _ _ => rfl)) (po_some (pe_op op_add (pv 8) pe_int)) po_none) pa_nil))))) pa_nil)))))))) pss_nil)
    (pss_cons (ps_set (i := 7) sc__law_statement.nd rfl (.inl rfl) (pe_bm PySem.F.plainAttrs_list PySem.F.slot_list_pop PySem.F.type_list_pop mt_popAt (pv 1) (pa_cons pe_int pa_nil)))
    (pss_cons (ps_set (i := 9) sc__law_statement.nd rfl (.inl rfl) (pe_call (ok__law_rights T) (hr.mono (by omega)) (by rfl) T.d__law_rights.m T.d__law_rights.F.kp T.d__law_rights.b .nil pass0 (pa_cons (pv 0) (pa_cons (pe_op op_add pe_int (pe_call (ok__law_draw T) (hr.mono (by omega)) (by rfl) T.d__law_draw.m T.d__law_draw.F.kp T.d__law_draw.b .nil pass0 (pa_cons (pv 0) (pa_cons pe_int pa_nil)))) pa_nil))))
    (pss_cons (ps_set (i := 10) sc__law_statement.nd rfl (.inl rfl) (pe_tup (pa_cons pe_str (pa_cons (pv 7) (pa_cons (pv 9) (pa_cons (pe_call (ok__law_source T) (hr.mono (by omega)) (by rfl) T.d__law_source.m T.d__law_source.F.kp T.d__law_source.b .nil pass0 (pa_cons (pv 0) (pa_cons (pv 2) (pa_cons (pv 3) (pa_cons (pe_slice (slA K) (pv 9) (po_some pe_int) po_none) pa_nil))))) pa_nil))))))
    (pss_cons (ps_expr (pe_bm PySem.F.plainAttrs_list PySem.F.slot_list_append PySem.F.type_list_append mt_append (pv 2) (pa_cons (pv 7) pa_nil)))
    (pss_cons (ps_dput hu (pv 3) (pv 7) (pv 9) rfl)
    (pss_one (ps_ret (pv 10))))))))))), ?_⟩
  walk_at "r"
  refine ap_draw gs.bx (by decide) fun v1 H1 v10 v18 k1 b1 => ?_
  with_reducible refine w_name ?_
  with_reducible refine w_seq ?_
  with_reducible refine w_if ?_
  have gs1 := gs.draw k1 b1
  have hc1 : SqL K H1 pc cs := ks_sl hc k1 (by simpa using nbpc.1)
  have dc1 : DpAll K (dl S H1) cs (List.map tfD fs) := dpa_ex (dl_ks (k1.mono (fun a ha => hb ha))) dc
  have lc : cs.length = fs.length := by rw [dpa_len dc, List.length_map]
  refine and_q (a := decide (0 < cs.length)) (c := decide (v1 = 7)) (fun M h => by
    walk_at "r"
    refine a_lenL hc1 ?_
    walk_at "r"
    rw [lenpos]
    exact h) (fun M h => by walk_at "r"; exact h) ?_
  refine ite2 (fun c => ?_) (fun _ => ?_)
  · have hc0 : 0 < cs.length := of_decide_eq_true (Bool.and_eq_true _ _ ▸ c : _ ∧ _).1
    walk_at "r"
    refine ap_draw gs1.bx (by decide) fun v2 H2 v20 _ k2 b2 => ?_
    walk_at "r"
    have gs2 := gs1.draw k2 b2
    have hc2 : SqL K H2 pc cs := ks_sl hc1 k2 (by simpa using nbpc.1)
    have dc2 : DpAll K (dl S H2) cs (List.map tfD fs) := dpa_ex (dl_ks (k2.mono (fun a ha => hb ha))) dc1
    refine a_lenL hc2 ?_
    walk_at "r"
    refine w_I (show (0 : Int) < (cs.length : Int) by omega) ?_
    obtain ⟨j, ej, hj⟩ := nat_of (v := v2 % (cs.length : Int)) (m := cs.length) (Int.emod_nonneg _ (by omega)) (Int.emod_lt_of_pos _ (by omega))
    rw [ej]
    obtain ⟨vf, hvf⟩ : ∃ vf, cs[j]? = some vf := ⟨_, List.getElem?_eq_getElem (by omega)⟩
    obtain ⟨d, hd, dv⟩ := dpa_at dc2 hvf
    rw [List.getElem?_map] at hd
    cases hg : fs[j]? with
    | none => rw [hg] at hd; cases hd
    | some g =>
    rw [hg] at hd
    cases hd
    have gm := List.mem_of_getElem? hg
    obtain ⟨og, op⟩ := ofs g gm
    obtain ⟨pg, w1, w2, w3, rfl, hpg, g1, g2, g3⟩ := dp_l3 dv
    cases dp_str g1
    obtain ⟨pp, vs2, rfl, hpp, dpp⟩ := dp_lst g2
    have L2' := dl_le S H2
    have lp : vs2.length = g.p.length := by rw [dpa_len dpp, List.length_map]
    refine a_ixL (v := .ref pg) hc2 (atI_nat hvf) ?_
    walk_at "r"
    refine a_ixL (v := .str g.n) (ex_sl hpg L2') (atI_nat (j := 0) rfl) ?_
    walk_at "r"
    refine a_ixL (v := .ref pp) (ex_sl hpg L2') (atI_nat (j := 1) rfl) ?_
    refine c_L (ex_sl hpp L2') ?_
    refine cp_list (xs := vs2) (fun l k h => Ks [b] H2 h ∧ Bx h b r ∧ ∃ acc ss, h l = some (.lst acc) ∧ DpAll K (dl (l :: S) h) acc (List.map sD ss) ∧ (∀ s ∈ ss, sO s) ∧ acc.length = k)
      (fun l n => ⟨Ks.of (Ex.new n), bx_ex b2 (Ex.new n), [], [], upd_same, .nil, (fun s hs => by cases hs), rfl⟩) (fun l k h _ _ z => ex_sl (ex_sl hpp (dl_ks (z.1.mono (fun a ha => hb ha)))) (dl_le _ _)) ?_ ?_
    · rintro l k x h nl hk ⟨k3, b3, acc, ss, f3, D3, so, l3⟩
      obtain ⟨d, hd, du⟩ := dpa_at dpp hk
      rw [List.getElem?_map] at hd
      cases hq : g.p[k]? with
      | none => rw [hq] at hd; cases hd
      | some qq =>
      rw [hq] at hd
      cases hd
      have hk2 := at_lt hk
      have G3 : Ex (dl S H2) (dl S h) := dl_ks (k3.mono (fun a ha => hb ha))
      have gs3 := gs2.draw k3 b3
      -- within the comprehension: the new list is left out, too
      have nlS : l ∉ S := gs2.al.nin nl
      have X3 : Ex (dl S H2) (dl (l :: S) h) := fun a o ha => by
        have h1 := G3 a o ha
        have : a ≠ l := ne_of_none (dl_le _ _ _ _ ha) nl
        by_cases z : a ∈ S
        · rw [dl_in z] at ha; cases ha
        · rw [dl_nin z] at h1
          rw [dl_nin (fun y => (List.mem_cons.mp y).elim this z)]
          exact h1
      have gsl : GS K (l :: S) h b r pf pn pt fr xs e n := {
        bx := b3
        f := gs3.f
        nm := gs3.nm
        t := by
          obtain ⟨kvs, h1, h2, h3⟩ := gs2.t
          exact ⟨kvs, k3 _ _ (by simpa using gs.d1.2.2.symm) h1, h2, fun x => ⟨(h3 x).1, fun T t => by
            obtain ⟨a, g1, g2⟩ := (h3 x).2 T t
            exact ⟨a, g1, ex_st g2 X3⟩⟩⟩
        m := ⟨List.mem_cons_of_mem _ gs.m.1, List.mem_cons_of_mem _ gs.m.2.1, List.mem_cons_of_mem _ gs.m.2.2.1, List.mem_cons_of_mem _ gs.m.2.2.2⟩
        al := gs3.al.cons f3
        rn := nin_cons (bx_nr b2 nl) gs.rn
        d1 := gs.d1
        d2 := gs.d2
        kn := gs.kn
        xl := gs.xl
        fo := gs.fo }
      obtain ⟨p2, a2, rfl, hp2, ha3⟩ := dp_pD (dp_ex X3 du)
      walk_at "r"
      refine ⟨rfl, ?_⟩
      walk_at "r"
      refine a_ixT (v := .ref a2) (ex_st hp2 (dl_le _ _)) (atI_nat (j := 1) rfl) ?_
      walk_at "r"
      refine a_slFrS (n := 1) gsl.al ha3 fun b4 h4 e4 f4 => ?_
      rw [tv_drop] at f4
      walk_at "r"
      have gsl4 := gsl.ex e4
      refine ⟨l :: S, b, r, pf, pn, pt, b4, fr, xs, e, n, qq.2.drop 1, rfl, gsl4, by omega, f4, fun v' s' h5 k5 b5 d5 o5 => ?_⟩
      have nlb : l ≠ b := (bx_nb b2 nl).symm
      have f5 : h5 l = some (.lst acc) := k5 _ _ (by simpa using nlb) (e4 _ _ f3)
      have KK : Ks [b] H2 h5 := (k3.trans (Ks.of e4)).trans k5
      refine ⟨acc, f5, sz_lt (by omega), KK.mut nl, bx_ks (S := [l]) b5 ((Ks.refl _ _).upd (by simp)) (by simpa using nlb.symm) (by simpa using bx_nr b2 nl), acc ++ [v'], ss ++ [s'], upd_same, ?_, ?_, by rw [List.length_append, l3]; rfl⟩
      · rw [dl_upd (List.mem_cons_self ..), List.map_append]
        have x35 : Ex (dl (l :: S) h) (dl (l :: S) h5) := (dl_ex e4).trans (dl_ks (k5.mono (fun a ha => List.mem_cons_of_mem _ (hb ha))))
        exact dpa_snoc (dpa_ex x35 D3) d5
      · intro s hs
        rcases List.mem_append.mp hs with hs | hs
        · exact so s hs
        · rw [List.mem_singleton] at hs
          rw [hs]
          exact o5
    · rintro l h nl ⟨k3, b3, acc, ss, f3, D3, so, l3⟩
      walk_at "r"
      have gs3 := gs2.draw k3 b3
      have nlS : l ∉ S := gs2.al.nin nl
      have D4 : DpAll K (dl S h) acc (List.map sD ss) := dpa_ex (dl_sub (fun a ha => List.mem_cons_of_mem _ ha)) D3
      have l4 : acc.length = ss.length := by rw [dpa_len D3, List.length_map]
      refine new_tup (by simp) fun t h4 n4 e4 f4 => ?_
      have gs4 := gs3.ex e4
      have DL : Dp K (dl S h4) (.ref l) (.list (List.map sD ss)) := Dp.inL (e4 _ _ f3) nlS (dpa_ex (dl_ex e4) D4)
      refine q (.ref t) (.call g.n ss) fr xs e h4 (ks_b4 (((k1.trans k2).trans k3).trans (Ks.of e4))) (gs4.mono (Nat.le_succ _)) (Dp.in f4 (gs3.al.nin n4) (.cons (.str _) (.cons (.str _) (.cons DL .nil)))) ⟨og, by omega, so⟩ ⟨g, gm, rfl, by omega⟩ rfl
  with_reducible refine w_next ?_
  with_reducible refine w_seq ?_
  with_reducible refine w_if ?_
  refine and_q (a := decide (0 < xs.length)) (c := decide (3 < v1)) (fun M h => by
    walk_at "r"
    refine a_lenL (SqL.of gs1.nm) ?_
    walk_at "r"
    rw [List.length_map, lenpos]
    exact h) (fun M h => by walk_at "r"; exact h) ?_
  refine ite2 (fun c => ?_) (fun _ => ?_)
  · have hx0 : 0 < xs.length := of_decide_eq_true (Bool.and_eq_true _ _ ▸ c : _ ∧ _).1
    walk_at "r"
    refine ap_draw gs1.bx (by decide) fun v2 H2 v20 _ k2 b2 => ?_
    walk_at "r"
    have gs2 := gs1.draw k2 b2
    refine a_lenL (SqL.of gs2.nm) ?_
    walk_at "r"
    rw [List.length_map]
    refine w_I (show (0 : Int) < (xs.length : Int) by omega) ?_
    obtain ⟨j, ej, hj⟩ := nat_of (v := v2 % (xs.length : Int)) (m := xs.length) (Int.emod_nonneg _ (by omega)) (Int.emod_lt_of_pos _ (by omega))
    rw [ej]
    obtain ⟨x, hx⟩ : ∃ x, xs[j]? = some x := ⟨_, List.getElem?_eq_getElem (by omega)⟩
    refine a_ixL (v := .str x) (SqL.of gs2.nm) (atI_nat (str_at hx)) ?_
    walk_at "r"
    obtain ⟨xo, U, hU, u1, u4⟩ := gs.kn x (List.mem_of_getElem? hx)
    refine ap_draw b2 (by decide) fun v3 H3 v30 _ k3 b3 => ?_
    walk_at "r"
    have gs3 := gs2.draw k3 b3
    refine (gs3.t.d (by omega)).get hU fun a ha => ?_
    walk_at "r"
    refine a_lenT (ex_st ha (dl_le S H3)) ?_
    walk_at "r"
    rw [tv_len]
    refine ap_draw b3 (by decide) fun v4 H4 v40 _ k4 b4 => ?_
    walk_at "r"
    have gs4 := gs3.draw k4 b4
    have mb : ∀ bb : Bool, 0 ≤ (if bb = true then (1 : Int) else 0) ∧ (if bb = true then (1 : Int) else 0) ≤ 1 := fun bb => by cases bb <;> decide
    have mz := mb (decide (v4 = 0))
    generalize (if decide (v4 = 0) = true then (1 : Int) else 0) = z4 at mz ⊢
    refine w_I (show (0 : Int) < (U.length : Int) + z4 by omega) ?_
    obtain ⟨k, ek, hk⟩ := nat_of (v := v3 % ((U.length : Int) + z4)) (m := (U.length : Int) + z4) (Int.emod_nonneg _ (by omega)) (Int.emod_lt_of_pos _ (by omega))
    rw [ek]
    walk_at "r"
    refine ⟨_, _, rfl, ?_⟩
    rw [if_neg (show ¬ ((5 : Int) < (k : Int)) by omega)]
    walk_at "r"
    refine new_tup (by simp) fun t1 H5 n5 e5 f5 => ?_
    walk_at "r"
    have gs5 := gs4.ex e5
    refine (gs5.t.d (by omega)).get hU fun a2 ha2 => ?_
    walk_at "r"
    have k1' : (k : Int) + 1 = ((k + 1 : Nat) : Int) := by omega
    rw [k1']
    refine a_slFrS gs5.al ha2 fun b6 H6 e6 f6 => ?_
    rw [tv_drop] at f6
    walk_at "r"
    have gs6 := gs5.ex e6
    refine ⟨S, b, r, pf, pn, pt, b6, fr, xs, e, n, U.drop (k + 1), rfl, gs6, by omega, f6, fun v' s' H7 k7 b7 d7 o7 => ?_⟩
    walk_at "r"
    have gs7 := gs6.draw k7 b7
    refine new_tup (by simp) fun t2 H8 n8 e8 f8 => ?_
    have gs8 := gs7.ex e8
    have KK : Ks [b] H H8 := ((((((k1.trans k2).trans k3).trans k4).trans (Ks.of e5)).trans (Ks.of e6)).trans k7).trans (Ks.of e8)
    have x58 : Ex (dl S H5) (dl S H8) := ((dl_ex e6).trans (dl_ks (k7.mono (fun a ha => hb ha)))).trans (dl_ex e8)
    have dpl : Dp K (dl S H5) (.ref t1) (plD x k) := Dp.in f5 (gs4.al.nin n5) (.cons (.str _) (.cons (.int _) .nil))
    exact q (.ref t2) (.put x k s') fr xs e H8 (ks_b4 KK) (gs8.mono (Nat.le_succ _)) (Dp.in f8 (gs7.al.nin n8) (.cons (.str _) (.cons (dp_ex x58 dpl) (.cons (dp_ex (dl_ex e8) d7) .nil)))) ⟨xo, by omega, o7⟩ trivial rfl
  -- a new variable
  cases fr with
  | nil => simp at hfr
  | cons x fr' =>
  walk_at "r"
  refine ⟨a_ty gs1.f, ?_⟩
  walk_at "r"
  refine a_pop0 gs1.f ?_
  have gs2 := gs1.pop
  have kp : Ks (M4 b pf pn pt) H1 (upd H1 pf (.lst (fr'.map V.str))) := (Ks.refl _ _).upd (by simp)
  change gName _ _ _ (upd H1 pf (.lst (fr'.map V.str))) _
  generalize upd H1 pf (.lst (fr'.map V.str)) = H2 at gs2 kp ⊢
  have xo : nmO x := gs.fo x (List.mem_cons_self ..)
  walk_at "r"
  refine ap_draw gs2.bx (by decide) fun v3 H3 v30 v34 k3 b3 => ?_
  walk_at "r"
  have gs3 := gs2.draw k3 b3
  refine ⟨b, r, _, rfl, b3, by omega, by omega, fun pT U H4 np pb pr hl k4 b4 tu => ?_⟩
  walk_at "r"
  have gs4 := gs3.draw k4 b4
  have pS : pT ∉ S := gs3.al.nin np
  have hU4 : SqT K (dl S H4) pT (tv U) := (tu_dl pS tu).st
  have u14 : 1 ≤ U.length ∧ U.length ≤ 4 := by omega
  refine a_slFrS (n := 1) gs4.al hU4 fun b6 H6 e6 f6 => ?_
  rw [tv_drop] at f6
  walk_at "r"
  have gs6 := gs4.ex e6
  refine ⟨S, b, r, pf, pn, pt, b6, fr', xs, e, n, U.drop 1, rfl, gs6, by omega, f6, fun v' s' H7 k7 b7 d7 o7 => ?_⟩
  walk_at "r"
  have gs7 := gs6.draw k7 b7
  refine new_tup (by simp) fun t2 H8 n8 e8 f8 => ?_
  walk_at "r"
  have gs8 := gs7.ex e8
  have x48 : Ex (dl S H4) (dl S H8) := ((dl_ex e6).trans (dl_ks (k7.mono (fun a ha => hb ha)))).trans (dl_ex e8)
  have hU8 := ex_st hU4 x48
  have dst : Dp K (dl S H8) (.ref t2) (stD (.lt x U s')) := Dp.in f8 (gs7.al.nin n8) (.cons (.str _) (.cons (.str _) (.cons (dp_ru hU8) (.cons (dp_ex (dl_ex e8) d7) .nil))))
  refine ⟨a_ty gs8.nm, ?_⟩
  walk_at "r"
  refine a_app gs8.nm (by rw [List.length_map]; have := gs8.xl; omega) ?_
  have km : Ks [pn] H8 (upd H8 pn (.lst (xs.map V.str ++ [.str x]))) := (Ks.refl _ _).upd (by simp)
  have fm : upd H8 pn (.lst (xs.map V.str ++ [.str x])) pn = some (.lst ((xs ++ [x]).map V.str)) := by rw [upd_same, List.map_append]; rfl
  have em : dl S (upd H8 pn (.lst (xs.map V.str ++ [.str x]))) = dl S H8 := dl_upd gs.m.2.2.1
  have tm := gs8.t.ks km (fun a ha => by rw [List.mem_singleton] at ha; rw [ha]; exact gs.m.2.2.1) (by simpa using gs.d2.2.2.symm)
  generalize upd H8 pn (.lst (xs.map V.str ++ [.str x])) = H9 at km fm em tm ⊢
  walk_at "r"
  refine tm.put (x := x) (T := U) gs.m.2.2.2 (by omega) (by rw [em]; exact hU8) fun H10 k10 t10 => ?_
  walk_at "r"
  have k89 : Ks [pn, pt] H8 H10 := (km.mono (by simp)).trans (k10.mono (by simp))
  have f10 := k10 _ _ (by simpa using gs.d2.2.2) fm
  have gs10 := gs8.add k89 (by simpa using ⟨gs.d1.2.1, gs.d1.2.2⟩) (by simpa using ⟨gs.d2.1, gs.d2.2.1⟩) (by simpa using ⟨gs.m.2.2.1, gs.m.2.2.2⟩) (fun a ha => by
    simp only [List.mem_cons, List.not_mem_nil, or_false] at ha
    rcases ha with rfl | rfl
    · rw [f10]
      exact fun z => by cases z
    · obtain ⟨kvs, f, _⟩ := t10
      rw [f]
      exact fun z => by cases z) t10 f10 xo u14
  have KK : Ks (M4 b pf pn pt) H H10 := ((((((ks_b4 k1).trans kp).trans (ks_b4 k3)).trans (ks_b4 k4)).trans (Ks.of e6)).trans (ks_b4 k7)).trans ((Ks.of e8).trans (k89.mono (by simp)))
  have x810 : Ex (dl S H8) (dl S H10) := dl_ks (k89.mono (by simpa using ⟨gs.m.2.2.1, gs.m.2.2.2⟩))
  exact q (.ref t2) (.lt x U s') fr' _ _ H10 KK gs10 (dp_ex x810 dst) ⟨xo, ⟨u14.1, by omega⟩, o7⟩ trivial rfl

end
end Ver

set_option Elab.async false
set_option linter.all false
set_option maxRecDepth 100000
set_option maxHeartbeats 4000000
namespace Ver
open PySem PySem.Spec PyProof.Rows L2 Evl
local macro_rules | `(tactic| walk_at "s") => `(tactic| with_reducible first
  | refine w_seq ?_ | refine w_asg ?_ | refine w_name ?_ | refine w_if ?_ | refine w_ret ?_ | refine w_drop ?_ | refine w_next ?_ | refine w_brk ?_ | refine w_cont ?_
  | (refine w_var (v := ?vv) ?hh ?_; (case hh => with_unfolding_all exact rfl))
  | refine w_c ?_ | refine w_op ?_ | refine w_un ?_ | refine w_I0 ?_ | refine w_neg ?_ | refine w_eqI ?_ | refine w_neI ?_ | refine w_eqS ?_ | refine w_neS ?_ | refine w_eqB ?_ | refine w_neB ?_
  | refine w_test ?_ | refine w_B ?_ | refine w_and ?_ | refine w_or ?_ | refine w_not ?_ | refine w_andV ?_ | refine w_orV ?_ | refine w_notV ?_ | refine w_ifE ?_ | refine w_yes ?_
  | refine w_nil ?_ | refine w_cons ?_ | refine w_CB ?_ | refine w_callN ?_ | refine w_BM ?_ | refine w_BMT ?_ | refine w_BM0 ?_ | refine w_noPart ?_ | refine w_part ?_ | refine w_sl ?_ | refine w_tup ?_ | refine w_lst ?_
  | refine w_subG ?_ | refine w_gcons ?_ | refine w_gnil ?_ | refine w_for ?_ | refine w_lc ?_ | refine w_iR1 ?_ | refine w_iR2 ?_ | refine w_iL ?_ | refine w_iT ?_ | refine w_iS ?_
  | (show ∃ k, V.bl _ = V.bl k ∧ _; refine ⟨_, rfl, ?_⟩) | (show ∃ k, V.int _ = V.int k ∧ _; refine ⟨_, rfl, ?_⟩)
  | refine iteT ?_ | refine iteF ?_ | refine iteNT ?_ | refine iteNF ?_ | refine r_S ?_ | refine c_S ?_ | refine a_abs ?_ | refine a_intI ?_ | refine a_intB ?_ | refine w_par ?_ | refine w_dK ?_ | refine w_chain ?_ | (show ∃ v w, [_, _] = [v, w] ∧ _; refine ⟨_, _, rfl, ?_⟩)
  | refine w_getF ?_ | refine w_setF ?_ | refine w_newI ?_ | refine w_callS ?_ | refine w_getD1 ?_ | refine w_putD ?_ | refine w_veI ?_ | refine w_ostI ?_ | refine w_mkO ?_ | refine w_newS ?_ | refine w_xf ?_ | refine w_dget ?_ | refine w_din ?_ | refine w_dnin ?_ | refine w_iEn ?_ | refine w_iZp ?_ | refine w_dc ?_
  | refine a_isNn ?_ | refine a_isNr ?_ | refine a_notNn ?_ | refine a_notNr ?_ | refine a_isTy ?_ | refine a_notTy ?_ | refine a_isBl ?_ | refine a_notBl ?_)
local macro_rules | `(tactic| walk_at "r") => `(tactic| repeat walk_at "s")
local macro_rules | `(tactic| walk_at "tr") => `(tactic| first
  | assumption
  | (refine ex_at (H := ?H0) ?h1 ?h2; (case h2 => assumption); (case h1 => walk_at "tr"))
  | (refine ks_at (H := ?H0) (S := ?S0) ?h1 ?h2 ?h3; (case h2 => assumption); (case h3 => walk_at "nin"); (case h1 => walk_at "tr")))
local macro_rules | `(tactic| walk_at "nin") => `(tactic| first
  | exact nin_nil | (refine nin_cons ?h1 ?h2; (case h1 => walk_at "ne"); (case h2 => walk_at "nin")))
local macro_rules | `(tactic| walk_at "ne") => `(tactic| first
  | assumption | exact Ne.symm (by assumption)
  | (refine bx_nb (H := ?H0) (r := ?r0) ?h1 ?h2; (case h2 => assumption); (case h1 => walk_at "bx"))
  | (refine bx_nr (H := ?H0) (b := ?b0) ?h1 ?h2; (case h2 => assumption); (case h1 => walk_at "bx"))
  | (refine Ne.symm (bx_nb (H := ?H0) (r := ?r0) ?h1 ?h2); (case h2 => assumption); (case h1 => walk_at "bx"))
  | (refine ne_old (H := ?H0) (o := ?o0) ?h1 ?h2; (case h2 => assumption); (case h1 => walk_at "tr"))
  | (refine Ne.symm (ne_old (H := ?H0) (o := ?o0) ?h1 ?h2); (case h2 => assumption); (case h1 => walk_at "tr"))
  | exact (Tu.ne (by assumption) (by assumption)).1 | exact (Tu.ne (by assumption) (by assumption)).2
  | (refine bx_rb (H := ?H0) ?h1; (case h1 => walk_at "bx")))
local macro_rules | `(tactic| walk_at "tu") => `(tactic| first
  | assumption
  | (refine Tu.ex (H := ?H0) ?h1 ?h2; (case h2 => assumption); (case h1 => walk_at "tu"))
  | (refine Tu.ks (H := ?H0) (S := ?S0) ?h1 ?h2 ?h3; (case h2 => assumption); (case h3 => walk_at "nin"); (case h1 => walk_at "tu")))
local macro_rules | `(tactic| walk_at "bx") => `(tactic| first
  | assumption
  | (refine bx_ex (H := ?H0) ?h1 ?h2; (case h2 => assumption); (case h1 => walk_at "bx"))
  | (refine bx_ks (H := ?H0) (S := ?S0) ?h1 ?h2 ?h3 ?h4; (case h2 => assumption); (case h3 => walk_at "nin"); (case h4 => walk_at "nin"); (case h1 => walk_at "bx")))
local macro_rules | `(tactic| walk_at "sl") => `(tactic| first
  | assumption | (refine SqL.of ?h1; (case h1 => walk_at "tr"))
  | (refine ex_sl (H := ?H0) ?h1 ?h2; (case h2 => assumption); (case h1 => walk_at "sl"))
  | (refine ks_sl (H := ?H0) (S := ?S0) ?h1 ?h2 ?h3; (case h2 => assumption); (case h3 => walk_at "nin"); (case h1 => walk_at "sl")))
local macro_rules | `(tactic| walk_at "st") => `(tactic| first
  | assumption | (refine Tu.st ?h1; (case h1 => walk_at "tu")) | (refine SqT.of ?h1; (case h1 => walk_at "tr"))
  | (refine ex_st (H := ?H0) ?h1 ?h2; (case h2 => assumption); (case h1 => walk_at "st"))
  | (refine ks_st (H := ?H0) (S := ?S0) ?h1 ?h2 ?h3; (case h2 => assumption); (case h3 => walk_at "nin"); (case h1 => walk_at "st")))
local macro_rules | `(tactic| walk_at "ex") => `(tactic| first
  | exact Ex.refl _ | assumption | (refine Ex.trans (H1 := ?H0) ?h1 ?h2; (case h2 => assumption); (case h1 => walk_at "ex")))
local macro_rules | `(tactic| walk_at "ks") => `(tactic| first
  | exact Ks.refl _ _ | assumption | (refine Ks.of ?h1; (case h1 => assumption)) | (refine Ks.trans (H1 := ?H0) ?h1 ?h2; (case h2 => first | assumption | (refine Ks.of ?h3; (case h3 => assumption))); (case h1 => walk_at "ks")))
local macro_rules | `(tactic| walk_at "dp") => `(tactic| first
  | exact Dp.str _ | exact Dp.int _ | exact Dp.bl _ | exact Dp.non | assumption | exact LsAt.dp (by assumption)
  | (refine dp_ex (H := ?H0) ?h1 ?h2; (case h1 => assumption); (case h2 => walk_at "dp")))
local macro_rules | `(tactic| walk_at "ev") => `(tactic| with_reducible first
  | exact ev_nil | refine ev_cons ?_ ?_ | exact ev_str | exact ev_int | exact ev_bl | exact ev_non
  | (refine ev_tup ?hal ?_ ?hle; (case hal => assumption); (case hle => with_unfolding_all exact Nat.le_of_ble_eq_true rfl))
  | (refine ev_ll (ev_lst ?hal ?_ ?hle); (case hal => assumption); (case hle => with_unfolding_all exact Nat.le_of_ble_eq_true rfl))
  | (refine ev_ll (ev_rep (n := ?nn) ?hal ?_ ?he ?hz); (case he => with_unfolding_all exact rfl); (case hal => assumption); (case hz => with_unfolding_all omega))
  | (refine ev_lst ?hal ?_ ?hle; (case hal => assumption); (case hle => with_unfolding_all exact Nat.le_of_ble_eq_true rfl))
  | (refine ev_lt ?he; (case he => with_unfolding_all exact rfl))
  | (refine ev_let ?hal ?_ ?hs; (case hal => assumption); (case hs => with_unfolding_all first | decide +kernel | rfl))
  | (refine ev_var (v := ?vv) ?he ?hd; (case he => with_unfolding_all exact rfl); (case hd => with_unfolding_all walk_at "dp")))

section
variable {P : Program} {w : World} {K : PySem.W.Frag} {mg : Str → Option Value} {base : Heap}
theorem lets_le (b : List Stm) : (lets b).length ≤ b.length := List.length_filterMap_le ..
theorem ok__law_function (T : Tx K mg) : FnOk P w K mg base CX0 5 T.a__law_function T.e__law_function p__law_function (pGFn K) := by
  refine T.d__law_function.F.ok sc__law_function (fun vs H Q E h => ?_) (fun cdv A outer s H vs Q E hr h => ?_)
  · obtain ⟨S, b, r, pf, pc, name, fr, fs, cs, rfl, _⟩ := h
    rfl
  obtain ⟨S, b, r, pf, pc, name, fr, fs, cs, rfl, bx, hf, fo, hfr, bS, fS, al, rS, nbf, ncb, ncf, no, hc, dc, hfs, ofs, q⟩ := h
  have hu := hu_of hr
  refine ⟨_, (pss_cons (ps_set (i := 4) sc__law_function.nd rfl (.inr rfl) (pe_lst pa_nil))
    (pss_cons (ps_set (i := 5) sc__law_function.nd rfl (.inr rfl) pe_dnewK)
    (pss_cons (ps_set (i := 6) sc__law_function.nd rfl (.inl rfl) (pe_lst pa_nil))
    (pss_cons (ps_for PassesOwn.never rfl (pi_range1 (by rfl) T.b_range (pa_cons (pe_call (ok__law_draw T) (hr.mono (by omega)) (by rfl) T.d__law_draw.m T.d__law_draw.F.kp T.d__law_draw.b .nil pass0 (pa_cons (pv 0) (pa_cons pe_int pa_nil))) pa_nil)) (pg_name (i := 7) sc__law_function.nd rfl (.inl rfl)) (pss_cons (ps_set (i := 8) sc__law_function.nd rfl (.inl rfl) (pe_bm PySem.F.plainAttrs_list PySem.F.slot_list_pop PySem.F.type_list_pop mt_popAt (pv 1) (pa_cons pe_int pa_nil)))
    (pss_cons (ps_dput hu (pv 5) (pv 8) (pe_call (ok__law_rights T) (hr.mono (by omega)) (by rfl) T.d__law_rights.m T.d__law_rights.F.kp T.d__law_rights.b .nil pass0 (pa_cons (pv 0) (pa_cons (pe_op op_add pe_int (pe_call (ok__law_draw T) (hr.mono (by omega)) (by rfl) T.d__law_draw.m T.d__law_draw.F.kp T.d__law_draw.b .nil pass0 (pa_cons (pv 0) (pa_cons pe_int pa_nil)))) pa_nil))) rfl)
    (pss_cons (ps_expr (pe_bm PySem.F.plainAttrs_list PySem.F.slot_list_append PySem.F.type_list_append mt_append (pv 6) (pa_cons (pe_tup (pa_cons (pv 8) (pa_cons (pe_dget hu (pv 5) (pv 8) (fun _ _ => rfl)) pa_nil))) pa_nil)))
    (pss_one (ps_expr (pe_bm PySem.F.plainAttrs_list PySem.F.slot_list_append PySem.F.type_list_append mt_append (pv 4) (pa_cons (pv 8) pa_nil))))))))
    (pss_cons (ps_setLc (i := 9) (own := [("j", 7)]) (g := gName 7) rfl sc__law_function.nd rfl rfl (sw_true rfl rfl rfl (by decide +kernel)) (pi_range1 (by rfl) T.b_range (pa_cons (pe_call (ok__law_draw T) (hr.mono (by omega)) (by rfl) T.d__law_draw.m T.d__law_draw.F.kp T.d__law_draw.b .nil pass0 (pa_cons (pv 0) (pa_cons pe_int pa_nil))) pa_nil)) (blkOk_by (own := [("j", 7)]) (N := n__law_function) (sc := defScope s__law_function) (by decide +kernel)) (fun _ _ _ _ _ => (pg_name (i := 7) sc__law_function.nd rfl (Or.inl rfl))) (fun _ _ _ _ _ => pts_nil) (fun _ _ _ _ _ => (pe_call (ok__law_statement T) (hr.mono (by omega)) (by rfl) T.d__law_statement.m T.d__law_statement.F.kp T.d__law_statement.b .nil pass0 (pa_cons (pv 0) (pa_cons (pv 1) (pa_cons (pv 4) (pa_cons (pv 5) (pa_cons (pv 3) pa_nil))))))))
    (pss_one (ps_ret (pe_lst (pa_cons (pv 2) (pa_cons (pv 6) (pa_cons (pv 9) pa_nil))))))))))), ?_⟩
  walk_at "r"
  refine new_lst (xs := []) (by simp) fun pn H1 n1 e1 f1 => ?_
  walk_at "r"
  refine new_dK fun pt H2 n2 e2 f2 => ?_
  walk_at "r"
  refine new_lst (xs := []) (by simp) fun pp H3 n3 e3 f3 => ?_
  walk_at "r"
  have npt : pn ≠ pt := ne_old f1 n2
  have npp : pn ≠ pp := ne_old (e2 _ _ f1) n3
  have tpp : pt ≠ pp := ne_old f2 n3
  have bsm : ∀ {H : Hp} {p : Addr}, Bx H b r → H p = none → b ≠ p := fun h n => bx_nb h n
  have bx1 := bx_ex bx e1
  have bx2 := bx_ex bx1 e2
  have al2 : Al (pt :: pn :: S) H2 := (al.add e1 f1).add e2 f2
  have G0 : GS K (pt :: pn :: S) H2 b r pf pn pt fr [] e0 0 := {
    bx := bx2
    f := e2 _ _ (e1 _ _ hf)
    nm := e2 _ _ f1
    t := TyN.new f2
    m := ⟨by simp [bS], by simp [fS], by simp, by simp⟩
    al := al2
    rn := nin_cons (bx_nr bx1 n2) (nin_cons (bx_nr bx n1) rS)
    d1 := ⟨nbf, bx_nb bx n1, bx_nb bx1 n2⟩
    d2 := ⟨ne_old hf n1, ne_old (e1 _ _ hf) n2, npt⟩
    kn := fun x hx => by cases hx
    xl := Nat.le_refl _
    fo := fo }
  have G3 := G0.grow n3 e3 f3
  have ppb : pp ≠ b := (bx_nb bx2 n3).symm
  have ppf : pp ≠ pf := (ne_old G0.f n3).symm
  have m4p : pp ∉ M4 b pf pn pt := by simpa using ⟨ppb, ppf, npp.symm, tpp.symm⟩
  have m4c : pc ∉ M4 b pf pn pt := by simpa using ⟨ncb, ncf, ne_old hc n1, ne_old (e1 _ _ hc) n2⟩
  have E3 : Ex H H3 := (e1.trans e2).trans e3
  have XS : Ex (dl S H) (dl (pp :: pt :: pn :: S) H3) := ((dl_new n1 e1).trans (dl_new n2 e2)).trans (dl_new n3 e3)
  have k4 : ∀ {h h' : Hp}, Ks [b, pf] H h → Ks (M4 b pf pn pt) h h' → Ks [b, pf] H h' := fun {h h'} k1 k2 a o na ha => by
    have h1 := k1 a o na ha
    refine k2 a o ?_ h1
    have a1 := ne_old ha n1
    have a2 := ne_old (e1 _ _ ha) n2
    simp only [List.mem_cons, List.not_mem_nil, or_false, not_or] at na ⊢
    exact ⟨na.1, na.2, a1, a2⟩
  have kq : ∀ {h h' : Hp} {p : Addr}, H p = none → Ks [b, pf] H h → Ks [p] h h' → Ks [b, pf] H h' := fun {h h' p} np k1 k2 a o na ha => k2 a o (by rw [List.mem_singleton]; exact ne_old ha np) (k1 a o na ha)
  have npH : H pp = none := ex_none (e1.trans e2) n3
  have ncpp : pc ≠ pp := ne_old ((e1.trans e2) _ _ hc) n3
  refine ap_draw G3.bx (by decide) fun v1 H4 v10 v13 k14 b4 => ?_
  walk_at "r"
  have G4 := G3.draw k14 b4
  have S2m : ∀ a ∈ S, a ∈ pp :: pt :: pn :: S := fun a ha => by simp [ha]
  refine r_R1 (by omega) ?_
  refine lp_range (fun k σ h => (∃ x7 x8 x9, σ = [some (.ref b), some (.ref pf), some (.str name), some (.ref pc), some (.ref pn), some (.ref pt), some (.ref pp), x7, x8, x9]) ∧ Ks [b, pf] H h ∧ Ex (dl S H) (dl (pp :: pt :: pn :: S) h) ∧ h pc = some (.lst cs) ∧
      ∃ frk xs e acc ps, GS K (pp :: pt :: pn :: S) h b r pf pn pt frk xs e k ∧ h pp = some (.lst acc) ∧ DpAll K (dl (pp :: pt :: pn :: S) h) acc (List.map pD ps) ∧ ps.length = k ∧ (∀ q ∈ ps, nmO q.1 ∧ tyO q.2) ∧ fr = ps.map Prod.fst ++ frk)
    ⟨⟨_, _, _, rfl⟩, (Ks.of E3).trans (k14.mono (by simp)), XS.trans (dl_ks (k14.mono (by simp [bS]))), k14 _ _ (by simpa using ncb) (E3 _ _ hc), fr, [], e0, [], [], G4, k14 _ _ (by simpa using ppb) f3, .nil, rfl, (fun q hq => by cases hq), rfl⟩ ?_ ?_
  · rintro k σ h hk ⟨⟨x7, x8, x9, rfl⟩, KH, XH, hch, frk, xs, e, acc, ps, gs, fp, Dp1, lps, ops, efr⟩
    have hk2 : k < 2 := by omega
    have lfr : frk.length = fr.length - k := by
      have := congrArg List.length efr
      rw [List.length_append, List.length_map, lps] at this
      omega
    cases frk with
    | nil => simp at lfr; omega
    | cons x fr' =>
    walk_at "r"
    refine ⟨a_ty gs.f, ?_⟩
    walk_at "r"
    refine a_pop0 gs.f ?_
    have gs2 := gs.pop
    have kp : Ks (M4 b pf pn pt) h (upd h pf (.lst (fr'.map V.str))) := (Ks.refl _ _).upd (by simp)
    change gName _ _ _ (upd h pf (.lst (fr'.map V.str))) _
    generalize upd h pf (.lst (fr'.map V.str)) = h2 at gs2 kp ⊢
    have xo : nmO x := gs.fo x (List.mem_cons_self ..)
    walk_at "r"
    refine ap_draw gs2.bx (by decide) fun v3 h3 v30 v34 k3 b3 => ?_
    walk_at "r"
    have gs3 := gs2.draw k3 b3
    refine ⟨b, r, _, rfl, b3, by omega, by omega, fun pT U h4 np pb pr hl kr b4 tu => ?_⟩
    walk_at "r"
    have gs4 := gs3.draw kr b4
    have pS : pT ∉ pp :: pt :: pn :: S := gs3.al.nin np
    have hU4 : SqT K (dl (pp :: pt :: pn :: S) h4) pT (tv U) := (tu_dl pS tu).st
    have u14 : 1 ≤ U.length ∧ U.length ≤ 4 := by omega
    have km4 : Ks (M4 b pf pn pt) h h4 := (kp.trans (ks_b4 k3)).trans (ks_b4 kr)
    have fp4 : h4 pp = some (.lst acc) := km4 _ _ m4p fp
    have x4 : Ex (dl (pp :: pt :: pn :: S) h) (dl (pp :: pt :: pn :: S) h4) := dl_ks (km4.mono gs.m4)
    refine gs4.t.put (x := x) (T := U) gs.m.2.2.2 (by omega) hU4 fun h5 k5 t5 => ?_
    have x5 : Ex (dl (pp :: pt :: pn :: S) h4) (dl (pp :: pt :: pn :: S) h5) := dl_ks (k5.mono (by simp))
    have fp5 : h5 pp = some (.lst acc) := k5 _ _ (by simpa using tpp.symm) fp4
    walk_at "r"
    refine ⟨a_ty fp5, ?_⟩
    walk_at "r"
    refine (t5.d (by omega)).get (x := x) (T := U) (by unfold Env.put; rw [if_pos rfl]) fun aT haT => ?_
    walk_at "r"
    refine new_tup (by simp) fun t1 h6 n6 e6 f6 => ?_
    walk_at "r"
    have al5 : Al (pp :: pt :: pn :: S) h5 := gs4.al.ks k5 (fun a ha => by
      rw [List.mem_singleton] at ha
      obtain ⟨kvs, f, _⟩ := t5
      rw [ha, f]
      exact fun z => by cases z)
    have la : acc.length = ps.length := by rw [dpa_len Dp1, List.length_map]
    refine a_app (e6 _ _ fp5) (by omega) ?_
    have k7 : Ks [pp] h6 (upd h6 pp (.lst (acc ++ [.ref t1]))) := (Ks.refl _ _).upd (by simp)
    have f7 : upd h6 pp (.lst (acc ++ [.ref t1])) pp = some (.lst (acc ++ [.ref t1])) := upd_same
    have d7 : dl (pp :: pt :: pn :: S) (upd h6 pp (.lst (acc ++ [.ref t1]))) = dl (pp :: pt :: pn :: S) h6 := dl_upd (List.mem_cons_self ..)
    generalize upd h6 pp (.lst (acc ++ [.ref t1])) = h7 at k7 f7 d7 ⊢
    have nm7 : h7 pn = some (.lst (xs.map V.str)) := k7 _ _ (by simpa using npp) (e6 _ _ (k5 _ _ (by simpa using npt) gs4.nm))
    have t7 : TyN K (pp :: pt :: pn :: S) h7 pt (e.put x U) (k + 1) := (t5.ex' e6).ks k7 (by simp) (by simpa using tpp)
    walk_at "r"
    refine ⟨a_ty nm7, ?_⟩
    walk_at "r"
    refine a_app nm7 (by rw [List.length_map]; have := gs.xl; omega) ?_
    have k8 : Ks [pn] h7 (upd h7 pn (.lst (xs.map V.str ++ [.str x]))) := (Ks.refl _ _).upd (by simp)
    have f8 : upd h7 pn (.lst (xs.map V.str ++ [.str x])) pn = some (.lst ((xs ++ [x]).map V.str)) := by rw [upd_same, List.map_append]; rfl
    have d8 : dl (pp :: pt :: pn :: S) (upd h7 pn (.lst (xs.map V.str ++ [.str x]))) = dl (pp :: pt :: pn :: S) h7 := dl_upd (by simp)
    generalize upd h7 pn (.lst (xs.map V.str ++ [.str x])) = h8 at k8 f8 d8 ⊢
    have t8 := t7.ks k8 (by simp) (by simpa using npt.symm)
    have fp8 : h8 pp = some (.lst (acc ++ [.ref t1])) := k8 _ _ (by simpa using npp.symm) f7
    have k48 : Ks [pt, pp, pn] h4 h8 := (((k5.mono (by simp)).trans (Ks.of e6)).trans (k7.mono (by simp))).trans (k8.mono (by simp))
    have gs8 := gs4.add k48 (by simpa using ⟨gs.d1.2.2, ppb.symm, gs.d1.2.1⟩) (by simpa using ⟨gs.d2.2.1, ppf.symm, gs.d2.1⟩) (by simp) (fun a ha => by
      simp only [List.mem_cons, List.not_mem_nil, or_false] at ha
      rcases ha with rfl | rfl | rfl
      · obtain ⟨kvs, f, _⟩ := t8
        rw [f]
        exact fun z => by cases z
      · rw [fp8]
        exact fun z => by cases z
      · rw [f8]
        exact fun z => by cases z) t8 f8 xo u14
    have x8 : Ex (dl (pp :: pt :: pn :: S) h5) (dl (pp :: pt :: pn :: S) h8) := by
      rw [d8, d7]
      exact dl_ex e6
    have K8 : Ks [b, pf] H h8 := kq n1 (kq npH (k4 (k4 KH km4) ((k5.mono (by simp)).trans (Ks.of e6))) k7) k8
    refine ⟨⟨_, _, _, rfl⟩, K8, ((XH.trans x4).trans x5).trans x8, ?_, fr', _, _, _, ps ++ [(x, U)], gs8, fp8, ?_, by rw [List.length_append, lps]; rfl, ?_, ?_⟩
    · have c4 := km4 _ _ m4c hch
      have c5 := k5 _ _ (by simpa using (ne_old (e1 _ _ hc) n2)) c4
      exact k8 _ _ (by simpa using (ne_old hc n1)) (k7 _ _ (by simpa using ncpp) (e6 _ _ c5))
    · rw [List.map_append]
      refine dpa_snoc (dpa_ex ((x4.trans x5).trans x8) Dp1) ?_
      have g6 : Dp K (dl (pp :: pt :: pn :: S) h6) (.ref t1) (pD (x, U)) := Dp.in f6 (al5.nin n6) (.cons (.str _) (.cons (dp_ru (ex_st haT (dl_ex e6))) .nil))
      rw [d8, d7]
      exact g6
    · intro qq hq
      rcases List.mem_append.mp hq with hq | hq
      · exact ops qq hq
      · rw [List.mem_singleton] at hq
        rw [hq]
        exact ⟨xo, u14.1, by show U.length ≤ 6; omega⟩
    · rw [efr, List.map_append, List.append_assoc]
      rfl
  · rintro σ h ⟨⟨x7, x8, x9, rfl⟩, KH, XH, hch, frk, xs, e, acc, ps, gs, fp, Dp1, lps, ops, efr⟩
    have lfr : frk.length = fr.length - ps.length := by
      have := congrArg List.length efr
      rw [List.length_append, List.length_map] at this
      omega
    have lp2 : ps.length ≤ 2 := by omega
    have la : acc.length = ps.length := by rw [dpa_len Dp1, List.length_map]
    walk_at "r"
    refine ap_draw gs.bx (by decide) fun v5 h2 v50 v54 k2 b2 => ?_
    walk_at "r"
    have gs2 := gs.draw k2 b2
    refine c_R1 (by omega) ?_
    have KH2 : Ks [b, pf] H h2 := KH.trans (k2.mono (by simp))
    have x2 : Ex (dl (pp :: pt :: pn :: S) h) (dl (pp :: pt :: pn :: S) h2) := dl_ks (k2.mono (by simp [bS]))
    have fp2 : h2 pp = some (.lst acc) := k2 _ _ (by simpa using ppb) fp
    have hc2 : h2 pc = some (.lst cs) := k2 _ _ (by simpa using ncb) hch
    refine cp_range (fun D k h' => D ∉ M4 b pf pn pt ∧ Ks [b, pf] H h' ∧ Ex (dl (pp :: pt :: pn :: S) h2) (dl (D :: pp :: pt :: pn :: S) h') ∧ h' pp = some (.lst acc) ∧ h' pc = some (.lst cs) ∧
        ∃ fr2 xs2 e2 acc2 ss, GS K (D :: pp :: pt :: pn :: S) h' b r pf pn pt fr2 xs2 e2 (ps.length + k) ∧ h' D = some (.lst acc2) ∧ DpAll K (dl (D :: pp :: pt :: pn :: S) h') acc2 (List.map stD ss) ∧ ss.length = k ∧ (∀ s ∈ ss, stO s ∧ cf fs s) ∧ frk = (lets ss).map Prod.fst ++ fr2)
      (fun D nD => ⟨?_, KH2.mut (ks_none KH2 nD (by simpa using ⟨(bx_nb b2 nD).symm, (ne_old gs2.f nD).symm⟩)), dl_new nD (Ex.new nD), (Ex.new nD) _ _ fp2, (Ex.new nD) _ _ hc2, frk, xs, e, [], [], ?_, upd_same, .nil, rfl, (fun s hs => by cases hs), rfl⟩) ?_ ?_
    · obtain ⟨kvs, f, _⟩ := gs2.t
      simpa using ⟨(bx_nb b2 nD).symm, (ne_old gs2.f nD).symm, (ne_old gs2.nm nD).symm, (ne_old f nD).symm⟩
    · have z : ((0 : Int) + v1).toNat = ps.length ∨ v1.toNat = ps.length := .inr lps.symm
      have gg := gs2.grow nD (Ex.new nD (o := .lst [])) upd_same
      rw [← lps] at gg
      exact gg
    · rintro D k h' nD hk ⟨dm, KH', X', fp', hc', fr2, xs2, e2', acc2, ss, gs', fD, D2, lss, oss, ef2⟩
      have hk3 : k < 3 := by omega
      have lfr2 : 1 ≤ fr2.length := by
        have := congrArg List.length ef2
        rw [List.length_append, List.length_map] at this
        have := lets_le ss
        omega
      have la2 : acc2.length = ss.length := by rw [dpa_len D2, List.length_map]
      have dc' : DpAll K (dl (D :: pp :: pt :: pn :: S) h') cs (List.map tfD fs) := dpa_ex ((XH.trans x2).trans X') dc
      walk_at "r"
      refine ⟨rfl, ?_⟩
      walk_at "r"
      refine ⟨D :: pp :: pt :: pn :: S, b, r, pf, pn, pt, pc, fr2, xs2, e2', ps.length + k, fs, cs, rfl, gs', by omega, lfr2, SqL.of hc', by simpa using m4c, dc', hfs, ofs, fun v st fr3 xs3 e3' h3 k3 gs3 d3 o3 c3 ef3 => ?_⟩
      have fD3 := k3 _ _ dm fD
      have x3 : Ex (dl (D :: pp :: pt :: pn :: S) h') (dl (D :: pp :: pt :: pn :: S) h3) := dl_ks (k3.mono gs'.m4)
      have dD : dl (D :: pp :: pt :: pn :: S) (upd h3 D (.lst (acc2 ++ [v]))) = dl (D :: pp :: pt :: pn :: S) h3 := dl_upd (List.mem_cons_self ..)
      have kD : Ks [D] h3 (upd h3 D (.lst (acc2 ++ [v]))) := (Ks.refl _ _).upd (by simp)
      have nDH : H D = none := ks_none KH2 nD (by simpa using ⟨(bx_nb b2 nD).symm, (ne_old gs2.f nD).symm⟩)
      have Dpp : pp ≠ D := ne_old fp2 nD
      have Dpc : pc ≠ D := ne_old hc2 nD
      refine ⟨acc2, fD3, sz_lt (by omega), dm, kq nDH (k4 KH' k3) kD, by rw [dD]; exact X'.trans x3, kD _ _ (by simpa using Dpp) (k3 _ _ m4p fp'), kD _ _ (by simpa using Dpc) (k3 _ _ m4c hc'), fr3, xs3, e3', _, ss ++ [st], ?_, upd_same, ?_, by rw [List.length_append, lss]; rfl, ?_, ?_⟩
      · have dm' : b ≠ D ∧ pf ≠ D ∧ pn ≠ D ∧ pt ≠ D := by
          simp only [List.mem_cons, List.not_mem_nil, or_false, not_or] at dm
          exact ⟨Ne.symm dm.1, Ne.symm dm.2.1, Ne.symm dm.2.2.1, Ne.symm dm.2.2.2⟩
        exact {
          bx := bx_ks gs3.bx kD (by simpa using dm'.1) (by simpa using bx_nr b2 nD)
          f := kD _ _ (by simpa using dm'.2.1) gs3.f
          nm := kD _ _ (by simpa using dm'.2.2.1) gs3.nm
          t := gs3.t.ks kD (by simp) (by simpa using dm'.2.2.2)
          m := gs3.m
          al := gs3.al.upd
          rn := gs3.rn
          d1 := gs3.d1
          d2 := gs3.d2
          kn := gs3.kn
          xl := gs3.xl
          fo := gs3.fo }
      · rw [dD, List.map_append]
        exact dpa_snoc (dpa_ex x3 D2) d3
      · intro s hs
        rcases List.mem_append.mp hs with hs | hs
        · exact oss s hs
        · rw [List.mem_singleton] at hs
          rw [hs]
          exact ⟨o3, c3⟩
      · rw [ef2, ef3, lets_app, List.map_append, List.append_assoc]
    · rintro D h' nD ⟨dm, KH', X', fp', hc', fr2, xs2, e2', acc2, ss, gs', fD, D2, lss, oss, ef2⟩
      walk_at "r"
      refine new_lst (by simp) fun t h3 n3' e3' f3' => ?_
      have nDS : D ∉ S := fun z => gs2.al.nin nD (S2m D z)
      have nppS : pp ∉ S := fun z => al pp z npH
      have ntS : t ∉ S := fun z => gs'.al.nin n3' (List.mem_cons_of_mem _ (S2m t z))
      have sub : Ex (dl (D :: pp :: pt :: pn :: S) h') (dl S h') := dl_sub (fun a ha => List.mem_cons_of_mem _ (S2m a ha))
      have P2 : DpAll K (dl S h3) acc (List.map pD ps) := dpa_ex (((x2.trans X').trans sub).trans (dl_ex e3')) Dp1
      have B2 : DpAll K (dl S h3) acc2 (List.map stD ss) := dpa_ex (sub.trans (dl_ex e3')) D2
      have dt : Dp K (dl S h3) (.ref t) (tfD ⟨name, ps, ss⟩) := Dp.inL f3' ntS (.cons (.str _) (.cons (Dp.inL (e3' _ _ fp') nppS P2) (.cons (Dp.inL (e3' _ _ fD) nDS B2) .nil)))
      refine q (.ref t) ⟨name, ps, ss⟩ fr2 h3 (KH'.trans (Ks.of e3')) (bx_ex gs'.bx e3') (e3' _ _ gs'.f) dt rfl ⟨no, by show ps.length ≤ 4; omega, ops, by show ss.length ≤ 12; omega, fun s hs => (oss s hs).1⟩ (fun s hs => (oss s hs).2) (by show ps.length ≤ 2; omega) (by show ss.length ≤ 3; omega) ?_
      rw [efr, ef2, List.map_append, List.append_assoc]

end
end Ver

set_option Elab.async false
set_option linter.all false
set_option maxRecDepth 100000
set_option maxHeartbeats 4000000
namespace Ver
open PySem PySem.Spec PyProof.Rows L2 Evl
local macro_rules | `(tactic| walk_at "s") => `(tactic| with_reducible first
  | refine w_seq ?_ | refine w_asg ?_ | refine w_name ?_ | refine w_if ?_ | refine w_ret ?_ | refine w_drop ?_ | refine w_next ?_ | refine w_brk ?_ | refine w_cont ?_
  | (refine w_var (v := ?vv) ?hh ?_; (case hh => with_unfolding_all exact rfl))
  | refine w_c ?_ | refine w_op ?_ | refine w_un ?_ | refine w_I0 ?_ | refine w_neg ?_ | refine w_eqI ?_ | refine w_neI ?_ | refine w_eqS ?_ | refine w_neS ?_ | refine w_eqB ?_ | refine w_neB ?_
  | refine w_test ?_ | refine w_B ?_ | refine w_and ?_ | refine w_or ?_ | refine w_not ?_ | refine w_andV ?_ | refine w_orV ?_ | refine w_notV ?_ | refine w_ifE ?_ | refine w_yes ?_
  | refine w_nil ?_ | refine w_cons ?_ | refine w_CB ?_ | refine w_callN ?_ | refine w_BM ?_ | refine w_BMT ?_ | refine w_BM0 ?_ | refine w_noPart ?_ | refine w_part ?_ | refine w_sl ?_ | refine w_tup ?_ | refine w_lst ?_
  | refine w_subG ?_ | refine w_gcons ?_ | refine w_gnil ?_ | refine w_for ?_ | refine w_lc ?_ | refine w_iR1 ?_ | refine w_iR2 ?_ | refine w_iL ?_ | refine w_iT ?_ | refine w_iS ?_
  | (show ∃ k, V.bl _ = V.bl k ∧ _; refine ⟨_, rfl, ?_⟩) | (show ∃ k, V.int _ = V.int k ∧ _; refine ⟨_, rfl, ?_⟩)
  | refine iteT ?_ | refine iteF ?_ | refine iteNT ?_ | refine iteNF ?_ | refine r_S ?_ | refine c_S ?_ | refine a_abs ?_ | refine a_intI ?_ | refine a_intB ?_ | refine w_par ?_ | refine w_dK ?_ | refine w_chain ?_ | (show ∃ v w, [_, _] = [v, w] ∧ _; refine ⟨_, _, rfl, ?_⟩)
  | refine w_getF ?_ | refine w_setF ?_ | refine w_newI ?_ | refine w_callS ?_ | refine w_getD1 ?_ | refine w_putD ?_ | refine w_veI ?_ | refine w_ostI ?_ | refine w_mkO ?_ | refine w_newS ?_ | refine w_xf ?_ | refine w_dget ?_ | refine w_din ?_ | refine w_dnin ?_ | refine w_iEn ?_ | refine w_iZp ?_ | refine w_dc ?_
  | refine a_isNn ?_ | refine a_isNr ?_ | refine a_notNn ?_ | refine a_notNr ?_ | refine a_isTy ?_ | refine a_notTy ?_ | refine a_isBl ?_ | refine a_notBl ?_)
local macro_rules | `(tactic| walk_at "r") => `(tactic| repeat walk_at "s")
local macro_rules | `(tactic| walk_at "tr") => `(tactic| first
  | assumption
  | (refine ex_at (H := ?H0) ?h1 ?h2; (case h2 => assumption); (case h1 => walk_at "tr"))
  | (refine ks_at (H := ?H0) (S := ?S0) ?h1 ?h2 ?h3; (case h2 => assumption); (case h3 => walk_at "nin"); (case h1 => walk_at "tr")))
local macro_rules | `(tactic| walk_at "nin") => `(tactic| first
  | exact nin_nil | (refine nin_cons ?h1 ?h2; (case h1 => walk_at "ne"); (case h2 => walk_at "nin")))
local macro_rules | `(tactic| walk_at "ne") => `(tactic| first
  | assumption | exact Ne.symm (by assumption)
  | (refine bx_nb (H := ?H0) (r := ?r0) ?h1 ?h2; (case h2 => assumption); (case h1 => walk_at "bx"))
  | (refine bx_nr (H := ?H0) (b := ?b0) ?h1 ?h2; (case h2 => assumption); (case h1 => walk_at "bx"))
  | (refine Ne.symm (bx_nb (H := ?H0) (r := ?r0) ?h1 ?h2); (case h2 => assumption); (case h1 => walk_at "bx"))
  | (refine ne_old (H := ?H0) (o := ?o0) ?h1 ?h2; (case h2 => assumption); (case h1 => walk_at "tr"))
  | (refine Ne.symm (ne_old (H := ?H0) (o := ?o0) ?h1 ?h2); (case h2 => assumption); (case h1 => walk_at "tr"))
  | exact (Tu.ne (by assumption) (by assumption)).1 | exact (Tu.ne (by assumption) (by assumption)).2
  | (refine bx_rb (H := ?H0) ?h1; (case h1 => walk_at "bx")))
local macro_rules | `(tactic| walk_at "tu") => `(tactic| first
  | assumption
  | (refine Tu.ex (H := ?H0) ?h1 ?h2; (case h2 => assumption); (case h1 => walk_at "tu"))
  | (refine Tu.ks (H := ?H0) (S := ?S0) ?h1 ?h2 ?h3; (case h2 => assumption); (case h3 => walk_at "nin"); (case h1 => walk_at "tu")))
local macro_rules | `(tactic| walk_at "bx") => `(tactic| first
  | assumption
  | (refine bx_ex (H := ?H0) ?h1 ?h2; (case h2 => assumption); (case h1 => walk_at "bx"))
  | (refine bx_ks (H := ?H0) (S := ?S0) ?h1 ?h2 ?h3 ?h4; (case h2 => assumption); (case h3 => walk_at "nin"); (case h4 => walk_at "nin"); (case h1 => walk_at "bx")))
local macro_rules | `(tactic| walk_at "sl") => `(tactic| first
  | assumption | (refine SqL.of ?h1; (case h1 => walk_at "tr"))
  | (refine ex_sl (H := ?H0) ?h1 ?h2; (case h2 => assumption); (case h1 => walk_at "sl"))
  | (refine ks_sl (H := ?H0) (S := ?S0) ?h1 ?h2 ?h3; (case h2 => assumption); (case h3 => walk_at "nin"); (case h1 => walk_at "sl")))
local macro_rules | `(tactic| walk_at "st") => `(tactic| first
  | assumption | (refine Tu.st ?h1; (case h1 => walk_at "tu")) | (refine SqT.of ?h1; (case h1 => walk_at "tr"))
  | (refine ex_st (H := ?H0) ?h1 ?h2; (case h2 => assumption); (case h1 => walk_at "st"))
  | (refine ks_st (H := ?H0) (S := ?S0) ?h1 ?h2 ?h3; (case h2 => assumption); (case h3 => walk_at "nin"); (case h1 => walk_at "st")))
local macro_rules | `(tactic| walk_at "ex") => `(tactic| first
  | exact Ex.refl _ | assumption | (refine Ex.trans (H1 := ?H0) ?h1 ?h2; (case h2 => assumption); (case h1 => walk_at "ex")))
local macro_rules | `(tactic| walk_at "ks") => `(tactic| first
  | exact Ks.refl _ _ | assumption | (refine Ks.of ?h1; (case h1 => assumption)) | (refine Ks.trans (H1 := ?H0) ?h1 ?h2; (case h2 => first | assumption | (refine Ks.of ?h3; (case h3 => assumption))); (case h1 => walk_at "ks")))
local macro_rules | `(tactic| walk_at "dp") => `(tactic| first
  | exact Dp.str _ | exact Dp.int _ | exact Dp.bl _ | exact Dp.non | assumption | exact LsAt.dp (by assumption)
  | (refine dp_ex (H := ?H0) ?h1 ?h2; (case h1 => assumption); (case h2 => walk_at "dp")))
local macro_rules | `(tactic| walk_at "ev") => `(tactic| with_reducible first
  | exact ev_nil | refine ev_cons ?_ ?_ | exact ev_m1 | exact ev_str | exact ev_int | exact ev_bl | exact ev_non
  | (refine ev_tup ?hal ?_ ?hle; (case hal => assumption); (case hle => with_unfolding_all exact Nat.le_of_ble_eq_true rfl))
  | (refine ev_ll (ev_lst ?hal ?_ ?hle); (case hal => assumption); (case hle => with_unfolding_all exact Nat.le_of_ble_eq_true rfl))
  | (refine ev_ll (ev_rep (n := ?nn) ?hal ?_ ?he ?hz); (case he => with_unfolding_all exact rfl); (case hal => assumption); (case hz => with_unfolding_all omega))
  | (refine ev_lst ?hal ?_ ?hle; (case hal => assumption); (case hle => with_unfolding_all exact Nat.le_of_ble_eq_true rfl))
  | (refine ev_lt ?he; (case he => with_unfolding_all exact rfl))
  | (refine ev_let ?hal ?_ ?hs; (case hal => assumption); (case hs => with_unfolding_all first | decide +kernel | rfl))
  | (refine ev_var (v := ?vv) ?he ?hd; (case he => with_unfolding_all exact rfl); (case hd => with_unfolding_all walk_at "dp")))

section
variable {P : Program} {w : World} {K : PySem.W.Frag} {mg : Str → Option Value} {base : Heap}
theorem ok__law_program (T : Tx K mg) : FnOk P w K mg base CX0 6 T.a__law_program T.e__law_program p__law_program (pGPrN K) := by
  refine T.d__law_program.F.ok sc__law_program (fun vs H Q E h => ?_) (fun cdv A outer s H vs Q E hr h => ?_)
  · obtain ⟨b, r, most, rfl, _⟩ := h
    rfl
  obtain ⟨b, r, most, rfl, bx, m0, m20, q⟩ := h
  have hu := hu_of hr
  refine ⟨_, (pss_cons (ps_set (i := 2) sc__law_program.nd rfl (.inr rfl) (pe_call0 (ok__law_names T) (hr.mono (by omega)) (by rfl) T.d__law_names.m T.d__law_names.F.kp T.d__law_names.b .nil pass0))
    (pss_cons (ps_set (i := 3) sc__law_program.nd rfl (.inr rfl) (pe_lst pa_nil))
    (pss_cons (ps_for PassesOwn.never rfl (pi_range1 (by rfl) T.b_range (pa_cons (pe_call (ok__law_draw T) (hr.mono (by omega)) (by rfl) T.d__law_draw.m T.d__law_draw.F.kp T.d__law_draw.b .nil pass0 (pa_cons (pv 0) (pa_cons pe_int pa_nil))) pa_nil)) (pg_name (i := 4) sc__law_program.nd rfl (.inl rfl)) (pss_one (ps_expr (pe_bm PySem.F.plainAttrs_list PySem.F.slot_list_append PySem.F.type_list_append mt_append (pv 3) (pa_cons (pe_call (ok__law_function T) (hr.mono (by omega)) (by rfl) T.d__law_function.m T.d__law_function.F.kp T.d__law_function.b .nil pass0 (pa_cons (pv 0) (pa_cons (pv 2) (pa_cons (pe_ix (ixL K) (pe_lst (pa_cons pe_str (pa_cons pe_str pa_nil))) (pv 4) (fun _ _ => rfl)) (pa_cons (pv 3) pa_nil))))) pa_nil)))))
    (pss_cons (ps_set (i := 5) sc__law_program.nd rfl (.inr rfl) (pe_lst pa_nil))
    (pss_cons (ps_set (i := 6) sc__law_program.nd rfl (.inr rfl) pe_dnewK)
    (pss_one (ps_ret (pe_lst (pa_cons (pv 3) (pa_cons (pe_lc (own := [("k", 4)]) (g := gName 4) rfl sc__law_program.nd  (pi_range1 (by rfl) T.b_range (pa_cons (pe_call (ok__law_draw T) (hr.mono (by omega)) (by rfl) T.d__law_draw.m T.d__law_draw.F.kp T.d__law_draw.b .nil pass0 (pa_cons (pv 0) (pa_cons (pe_op op_add (pv 1) pe_int) pa_nil))) pa_nil)) (blkOk_by (own := [("k", 4)]) (N := n__law_program) (sc := defScope s__law_program) (by decide +kernel)) (fun _ _ _ _ _ => (pg_name (i := 4) sc__law_program.nd rfl (Or.inl rfl))) (fun _ _ _ _ _ => pts_nil) (fun _ _ _ _ _ => (pe_call (ok__law_statement T) (hr.mono (by omega)) (by rfl) T.d__law_statement.m T.d__law_statement.F.kp T.d__law_statement.b .nil pass0 (pa_cons (pv 0) (pa_cons (pv 2) (pa_cons (pv 5) (pa_cons (pv 6) (pa_cons (pv 3) pa_nil)))))))) pa_nil)))))))))), ?_⟩
  walk_at "r"
  refine ⟨rfl, fun pf H1 n1 e1 f1 => ?_⟩
  walk_at "r"
  refine new_lst (xs := []) (by simp) fun pc H2 n2 e2 f2 => ?_
  walk_at "r"
  have bx1 := bx_ex bx e1
  have bx2 := bx_ex bx1 e2
  have cf' : pc ≠ pf := (ne_old f1 n2).symm
  have cb : pc ≠ b := (bx_nb bx1 n2).symm
  have fb : pf ≠ b := (bx_nb bx n1).symm
  have rS : r ∉ [pc, pf, b] := nin_cons (bx_nr bx1 n2) (nin_cons (bx_nr bx n1) (nin_cons (bx_rb bx) nin_nil))
  have nm40 : NM.length = 40 := by decide +kernel
  have hal : ∀ {h : Hp} {cs : List V} {fr : List Str}, Bx h b r → h pf = some (.lst (fr.map V.str)) → h pc = some (.lst cs) → Al [pc, pf, b] h := fun {h cs fr} b1 g1 g2 a ha => by
    simp only [List.mem_cons, List.not_mem_nil, or_false] at ha
    rcases ha with rfl | rfl | rfl
    · rw [g2]
      exact fun z => by cases z
    · rw [g1]
      exact fun z => by cases z
    · exact (bx_some b1).1
  have nf : ∀ {a : Addr} {o : HO}, H a = some o → a ≠ pf ∧ a ≠ pc := fun ha => ⟨ne_old ha n1, ne_old (e1 _ _ ha) n2⟩
  refine ap_draw bx2 (by decide) fun v1 H3 v10 v13 k3 b3 => ?_
  walk_at "r"
  refine r_R1 (by omega) ?_
  refine lp_range (fun k σ h => (∃ x4 x5 x6, σ = [some (.ref b), some (.int most), some (.ref pf), some (.ref pc), x4, x5, x6]) ∧ Ks [b] H h ∧ Bx h b r ∧
      ∃ fr cs fs, h pf = some (.lst (List.map V.str fr)) ∧ h pc = some (.lst cs) ∧ DpAll K (dl [pc, pf, b] h) cs (List.map tfD fs) ∧ fs.length = k ∧ fs.map TF.n = [("fa" : Str), "fb"].take k ∧ (∀ f ∈ fs, FOk f) ∧ Fit [] fs [] ∧ NM = (declF fs).map Prod.fst ++ fr ∧ fr.length + 5 * k ≥ 40)
    ⟨⟨_, _, _, rfl⟩, (Ks.of (e1.trans e2)).trans k3, b3, NM, [], [], k3 _ _ (by simpa using fb) (e2 _ _ f1), k3 _ _ (by simpa using cb) f2, .nil, rfl, rfl, (fun f hf => by cases hf), (fun s hs => by cases hs), rfl, by omega⟩ ?_ ?_
  · rintro k σ h hk ⟨⟨x4, x5, x6, rfl⟩, KH, bh, fr, cs, fs, hf, hc, dc, lfs, nfs, ofs, fit, enm, lfr⟩
    have hk2 : k < 2 := by omega
    have k0 : (0 : Int) + (k : Int) = ((k : Nat) : Int) := Int.zero_add _
    rw [k0]
    have lcs : cs.length = fs.length := by rw [dpa_len dc, List.length_map]
    walk_at "r"
    refine ⟨a_ty hc, ?_⟩
    walk_at "r"
    refine new_lst (by simp) fun lw h2 n2' e2' f2' => ?_
    walk_at "r"
    obtain ⟨nm, hnm, hn1⟩ : ∃ nm : Str, [V.str "fa", V.str "fb"][k]? = some (.str nm) ∧ [("fa" : Str), "fb"][k]? = some nm := by
      have : k = 0 ∨ k = 1 := by omega
      rcases this with rfl | rfl
      · exact ⟨"fa", rfl, rfl⟩
      · exact ⟨"fb", rfl, rfl⟩
    have onm : nmO nm := by
      have : k = 0 ∨ k = 1 := by omega
      rcases this with rfl | rfl
      · cases hn1
        exact o_fa
      · cases hn1
        exact o_fb
    refine a_ixL (v := .str nm) (SqL.of f2') (atI_nat hnm) ?_
    walk_at "r"
    have b2' := bx_ex bh e2'
    refine ⟨[pc, pf, b], b, r, pf, pc, nm, fr, fs, cs, rfl, b2', e2' _ _ hf, ?_, by omega, by simp, by simp, hal b2' (e2' _ _ hf) (e2' _ _ hc), rS, fb.symm, cb, cf', onm, e2' _ _ hc, dpa_ex (dl_ex e2') dc, by omega, fun g hg => ⟨(ofs g hg).n, (ofs g hg).p4⟩, fun v tf fr' h3 k3' b3' f3 d3 tn to tc tp tb tfr => ?_⟩
    · exact fun x hx => nm_ok x (by rw [enm]; exact List.mem_append_right _ hx)
    walk_at "r"
    have hc3 : h3 pc = some (.lst cs) := k3' _ _ (by simpa using ⟨cb, cf'⟩) (e2' _ _ hc)
    refine a_app hc3 (by omega) ?_
    have kS : Ks [pc] h3 (upd h3 pc (.lst (cs ++ [v]))) := (Ks.refl _ _).upd (by simp)
    have f4 : upd h3 pc (.lst (cs ++ [v])) pc = some (.lst (cs ++ [v])) := upd_same
    have d4 : dl [pc, pf, b] (upd h3 pc (.lst (cs ++ [v]))) = dl [pc, pf, b] h3 := dl_upd (by simp)
    generalize upd h3 pc (.lst (cs ++ [v])) = h4 at kS f4 d4 ⊢
    have x23 : Ex (dl [pc, pf, b] h) (dl [pc, pf, b] h3) := (dl_ex e2').trans (dl_ks (k3'.mono (by simp)))
    refine ⟨⟨_, _, _, rfl⟩, fun a o na ha => ?_, bx_ks b3' kS (by simpa using cb.symm) (by simpa using bx_nr bx1 n2), fr', _, fs ++ [tf], kS _ _ (by simpa using cf'.symm) f3, f4, ?_, by rw [List.length_append, lfs]; rfl, ?_, ?_, ?_, ?_, ?_⟩
    · have z := nf ha
      rw [List.mem_singleton] at na
      exact kS _ _ (by simpa using z.2) (k3' _ _ (by simpa using ⟨na, z.1⟩) (e2' _ _ (KH a o (by simpa using na) ha)))
    · rw [d4, List.map_append]
      exact dpa_snoc (dpa_ex x23 dc) d3
    · rw [List.map_append, nfs, take_snoc hn1]
      show _ ++ [tf.n] = _
      rw [tn]
    · intro f hf
      rcases List.mem_append.mp hf with hf | hf
      · exact ofs f hf
      · rw [List.mem_singleton] at hf
        rw [hf]
        exact to
    · exact Fit.snoc fs [] fit (by simpa using tc) (fun s hs => by cases hs)
    · rw [enm, tfr, declF_snoc]
      simp [List.map_append, List.append_assoc]
    · have := congrArg List.length tfr
      rw [List.length_append, List.length_map, List.length_append] at this
      have := lets_le tf.b
      omega
  · rintro σ h ⟨⟨x4, x5, x6, rfl⟩, KH, bh, fr, cs, fs, hf, hc, dc, lfs, nfs, ofs, fit, enm, lfr⟩
    have hfs2 : fs.length ≤ 2 := by omega
    have lcs : cs.length = fs.length := by rw [dpa_len dc, List.length_map]
    walk_at "r"
    refine new_lst (xs := []) (by simp) fun pn h1 m1 g1 i1 => ?_
    walk_at "r"
    refine new_dK fun pt h2 m2 g2 i2 => ?_
    walk_at "r"
    have bh1 := bx_ex bh g1
    have bh2 := bx_ex bh1 g2
    have al2 : Al (pt :: pn :: [pc, pf, b]) h2 := ((hal bh hf hc).add g1 i1).add g2 i2
    have npt : pn ≠ pt := ne_old i1 m2
    have G0 : GS K (pt :: pn :: [pc, pf, b]) h2 b r pf pn pt fr [] e0 0 := {
      bx := bh2
      f := g2 _ _ (g1 _ _ hf)
      nm := g2 _ _ i1
      t := TyN.new i2
      m := ⟨by simp, by simp, by simp, by simp⟩
      al := al2
      rn := nin_cons (bx_nr bh1 m2) (nin_cons (bx_nr bh m1) rS)
      d1 := ⟨fb.symm, bx_nb bh m1, bx_nb bh1 m2⟩
      d2 := ⟨ne_old hf m1, ne_old (g1 _ _ hf) m2, npt⟩
      kn := fun x hx => by cases hx
      xl := Nat.le_refl _
      fo := fun x hx => nm_ok x (by rw [enm]; exact List.mem_append_right _ hx) }
    have m4c : pc ∉ M4 b pf pn pt := by simpa using ⟨cb, cf', ne_old hc m1, ne_old (g1 _ _ hc) m2⟩
    have XS : Ex (dl [pc, pf, b] h) (dl (pt :: pn :: [pc, pf, b]) h2) := (dl_new m1 g1).trans (dl_new m2 g2)
    have KH2 : Ks [b] H h2 := KH.trans (Ks.of (g1.trans g2))
    have npH : H pn = none := ks_none KH m1 (by simpa using (bx_nb bh m1).symm)
    have ntH : H pt = none := ks_none (KH.trans (Ks.of g1)) m2 (by simpa using (bx_nb bh1 m2).symm)
    refine ap_draw bh2 (by omega) fun v5 h3 v50 v54 k5 b5 => ?_
    walk_at "r"
    have G3 := G0.draw k5 b5
    have KH3 : Ks [b] H h3 := KH2.trans k5
    have hc3 : h3 pc = some (.lst cs) := k5 _ _ (by simpa using cb) (g2 _ _ (g1 _ _ hc))
    have X3 : Ex (dl [pc, pf, b] h) (dl (pt :: pn :: [pc, pf, b]) h3) := XS.trans (dl_ks (k5.mono (by simp)))
    have k4 : ∀ {h h' : Hp}, Ks [b] H h → Ks (M4 b pf pn pt) h h' → Ks [b] H h' := fun {h h'} k1 k2 a o na ha => by
      have z := nf ha
      refine k2 a o ?_ (k1 a o na ha)
      simp only [List.mem_cons, List.not_mem_nil, or_false, not_or] at na ⊢
      exact ⟨na, z.1, ne_old ha npH, ne_old ha ntH⟩
    refine c_R1 (by omega) ?_
    refine cp_range (fun D k h' => D ∉ M4 b pf pn pt ∧ Ks [b] H h' ∧ Ex (dl [pc, pf, b] h) (dl (D :: pt :: pn :: [pc, pf, b]) h') ∧ h' pc = some (.lst cs) ∧
        ∃ fr2 xs2 e2 acc2 ss, GS K (D :: pt :: pn :: [pc, pf, b]) h' b r pf pn pt fr2 xs2 e2 k ∧ h' D = some (.lst acc2) ∧ DpAll K (dl (D :: pt :: pn :: [pc, pf, b]) h') acc2 (List.map stD ss) ∧ ss.length = k ∧ (∀ s ∈ ss, stO s ∧ cf fs s) ∧ fr = (lets ss).map Prod.fst ++ fr2)
      (fun D nD => ⟨?_, KH3.mut (ks_none KH3 nD (by simpa using (bx_nb b5 nD).symm)), X3.trans (dl_new nD (Ex.new nD)), (Ex.new nD) _ _ hc3, fr, [], e0, [], [], G3.grow nD (Ex.new nD) upd_same, upd_same, .nil, rfl, (fun s hs => by cases hs), rfl⟩) ?_ ?_
    · obtain ⟨kvs, f, _⟩ := G3.t
      simpa using ⟨(bx_nb b5 nD).symm, (ne_old G3.f nD).symm, (ne_old G3.nm nD).symm, (ne_old f nD).symm⟩
    · rintro D k h' nD hk ⟨dm, KH', X', hc', fr2, xs2, e2', acc2, ss, gs', fD, D2, lss, oss, ef2⟩
      have hk3 : k < 20 := by omega
      have lfr2 : 1 ≤ fr2.length := by
        have := congrArg List.length ef2
        rw [List.length_append, List.length_map] at this
        have := lets_le ss
        omega
      have la2 : acc2.length = ss.length := by rw [dpa_len D2, List.length_map]
      have dc' := dpa_ex X' dc
      walk_at "r"
      refine ⟨rfl, ?_⟩
      walk_at "r"
      refine ⟨D :: pt :: pn :: [pc, pf, b], b, r, pf, pn, pt, pc, fr2, xs2, e2', k, fs, cs, rfl, gs', by omega, lfr2, SqL.of hc', by simpa using m4c, dc', by omega, fun g hg => ⟨(ofs g hg).n, (ofs g hg).p4⟩, fun v st fr3 xs3 e3' h4 k4' gs3 d3 o3 c3 ef3 => ?_⟩
      have fD3 := k4' _ _ dm fD
      have x3 : Ex (dl (D :: pt :: pn :: [pc, pf, b]) h') (dl (D :: pt :: pn :: [pc, pf, b]) h4) := dl_ks (k4'.mono gs'.m4)
      have dD : dl (D :: pt :: pn :: [pc, pf, b]) (upd h4 D (.lst (acc2 ++ [v]))) = dl (D :: pt :: pn :: [pc, pf, b]) h4 := dl_upd (List.mem_cons_self ..)
      have kD : Ks [D] h4 (upd h4 D (.lst (acc2 ++ [v]))) := (Ks.refl _ _).upd (by simp)
      have nDH : H D = none := ks_none KH3 nD (by simpa using (bx_nb b5 nD).symm)
      have Dpc : pc ≠ D := ne_old hc3 nD
      refine ⟨acc2, fD3, sz_lt (by omega), dm, fun a o na ha => kD _ _ (by simpa using ne_old ha nDH) (k4 KH' k4' a o na ha), by rw [dD]; exact X'.trans x3, kD _ _ (by simpa using Dpc) (k4' _ _ m4c hc'), fr3, xs3, e3', _, ss ++ [st], ?_, upd_same, ?_, by rw [List.length_append, lss]; rfl, ?_, ?_⟩
      · have dm' : b ≠ D ∧ pf ≠ D ∧ pn ≠ D ∧ pt ≠ D := by
          simp only [List.mem_cons, List.not_mem_nil, or_false, not_or] at dm
          exact ⟨Ne.symm dm.1, Ne.symm dm.2.1, Ne.symm dm.2.2.1, Ne.symm dm.2.2.2⟩
        exact {
          bx := bx_ks gs3.bx kD (by simpa using dm'.1) (by simpa using bx_nr b5 nD)
          f := kD _ _ (by simpa using dm'.2.1) gs3.f
          nm := kD _ _ (by simpa using dm'.2.2.1) gs3.nm
          t := gs3.t.ks kD (by simp) (by simpa using dm'.2.2.2)
          m := gs3.m
          al := gs3.al.upd
          rn := gs3.rn
          d1 := gs3.d1
          d2 := gs3.d2
          kn := gs3.kn
          xl := gs3.xl
          fo := gs3.fo }
      · rw [dD, List.map_append]
        exact dpa_snoc (dpa_ex x3 D2) d3
      · intro s hs
        rcases List.mem_append.mp hs with hs | hs
        · exact oss s hs
        · rw [List.mem_singleton] at hs
          rw [hs]
          exact ⟨o3, c3⟩
      · rw [ef2, ef3, lets_app, List.map_append, List.append_assoc]
    · rintro D h' nD ⟨dm, KH', X', hc', fr2, xs2, e2', acc2, ss, gs', fD, D2, lss, oss, ef2⟩
      walk_at "r"
      refine new_lst (by simp) fun t h4 n4 e4 f4 => ?_
      have nDb : D ∉ [b] := by simpa using (bx_nb b5 nD).symm
      have ncb : pc ∉ [b] := by simpa using cb
      have ntb : t ∉ [b] := by simpa using (bx_nb gs'.bx n4).symm
      have sub : Ex (dl (D :: pt :: pn :: [pc, pf, b]) h') (dl [b] h') := dl_sub (by simp)
      have C2 : DpAll K (dl [b] h4) cs (List.map tfD fs) := dpa_ex ((X'.trans sub).trans (dl_ex e4)) dc
      have B2 : DpAll K (dl [b] h4) acc2 (List.map stD ss) := dpa_ex (sub.trans (dl_ex e4)) D2
      have dt : Dp K (dl [b] h4) (.ref t) (.list [.list (List.map tfD fs), .list (List.map stD ss)]) := Dp.inL f4 ntb (.cons (Dp.inL (e4 _ _ hc') ncb C2) (.cons (Dp.inL (e4 _ _ fD) nDb B2) .nil))
      have nmp : NM = (decl fs ss).map Prod.fst ++ fr2 := by
        rw [enm, ef2]
        unfold decl
        rw [List.map_append, List.append_assoc]
      have nd2 := nm_nd
      rw [nmp] at nd2
      refine q t fs ss h4 (KH'.trans (Ks.of e4)) (bx_ex gs'.bx e4) dt ⟨by omega, ofs, by omega, fun s hs => (oss s hs).1, ?_, Fit.stm fs [] fit (fun s hs => (oss s hs).2)⟩ (fun f hf z => by
        have m : f.n ∈ [("fa" : Str), "fb"] := List.mem_of_mem_take (by rw [← nfs]; exact List.mem_map_of_mem hf)
        rw [z] at m
        revert m
        decide +kernel)
      refine List.nodup_append.mpr ⟨?_, (List.nodup_append.mp nd2).1, fun x hx y hy => ?_⟩
      · rw [nfs]
        exact List.Nodup.sublist (List.take_sublist _ _) (by decide +kernel)
      · have hx' : x ∈ [("fa" : Str), "fb"] := by
          rw [nfs] at hx
          exact List.mem_of_mem_take hx
        have hy' : y ∈ NM := by rw [nmp]; exact List.mem_append_left _ hy
        intro z
        subst z
        simp only [List.mem_cons, List.not_mem_nil, or_false] at hx'
        rcases hx' with rfl | rfl
        · exact nm_fa hy'
        · exact nm_fb hy'

end
end Ver

set_option Elab.async false
set_option linter.all false
set_option maxRecDepth 100000
set_option maxHeartbeats 4000000
namespace Ver
open PySem PySem.Spec PyProof.Rows L2 Evl
local macro_rules | `(tactic| walk_at "s") => `(tactic| with_reducible first
  | refine w_seq ?_ | refine w_asg ?_ | refine w_name ?_ | refine w_if ?_ | refine w_ret ?_ | refine w_drop ?_ | refine w_next ?_ | refine w_brk ?_ | refine w_cont ?_
  | (refine w_var (v := ?vv) ?hh ?_; (case hh => with_unfolding_all exact rfl))
  | refine w_c ?_ | refine w_op ?_ | refine w_un ?_ | refine w_I0 ?_ | refine w_neg ?_ | refine w_eqI ?_ | refine w_neI ?_ | refine w_eqS ?_ | refine w_neS ?_ | refine w_eqB ?_ | refine w_neB ?_
  | refine w_test ?_ | refine w_B ?_ | refine w_and ?_ | refine w_or ?_ | refine w_not ?_ | refine w_andV ?_ | refine w_orV ?_ | refine w_notV ?_ | refine w_ifE ?_ | refine w_yes ?_
  | refine w_nil ?_ | refine w_cons ?_ | refine w_CB ?_ | refine w_callN ?_ | refine w_BM ?_ | refine w_BMT ?_ | refine w_BM0 ?_ | refine w_noPart ?_ | refine w_part ?_ | refine w_sl ?_ | refine w_tup ?_ | refine w_lst ?_
  | refine w_subG ?_ | refine w_gcons ?_ | refine w_gnil ?_ | refine w_for ?_ | refine w_lc ?_ | refine w_iR1 ?_ | refine w_iR2 ?_ | refine w_iL ?_ | refine w_iT ?_ | refine w_iS ?_
  | (show ∃ k, V.bl _ = V.bl k ∧ _; refine ⟨_, rfl, ?_⟩) | (show ∃ k, V.int _ = V.int k ∧ _; refine ⟨_, rfl, ?_⟩)
  | refine iteT ?_ | refine iteF ?_ | refine iteNT ?_ | refine iteNF ?_ | refine r_S ?_ | refine c_S ?_ | refine a_abs ?_ | refine a_intI ?_ | refine a_intB ?_ | refine w_par ?_ | refine w_dK ?_ | refine w_chain ?_ | (show ∃ v w, [_, _] = [v, w] ∧ _; refine ⟨_, _, rfl, ?_⟩)
  | refine w_getF ?_ | refine w_setF ?_ | refine w_newI ?_ | refine w_callS ?_ | refine w_getD1 ?_ | refine w_putD ?_ | refine w_veI ?_ | refine w_ostI ?_ | refine w_mkO ?_ | refine w_newS ?_ | refine w_xf ?_ | refine w_dget ?_ | refine w_din ?_ | refine w_dnin ?_ | refine w_iEn ?_ | refine w_iZp ?_ | refine w_dc ?_
  | refine a_isNn ?_ | refine a_isNr ?_ | refine a_notNn ?_ | refine a_notNr ?_ | refine a_isTy ?_ | refine a_notTy ?_ | refine a_isBl ?_ | refine a_notBl ?_)
local macro_rules | `(tactic| walk_at "r") => `(tactic| repeat walk_at "s")
local macro_rules | `(tactic| walk_at "tr") => `(tactic| first
  | assumption
  | (refine ex_at (H := ?H0) ?h1 ?h2; (case h2 => assumption); (case h1 => walk_at "tr"))
  | (refine ks_at (H := ?H0) (S := ?S0) ?h1 ?h2 ?h3; (case h2 => assumption); (case h3 => walk_at "nin"); (case h1 => walk_at "tr")))
local macro_rules | `(tactic| walk_at "nin") => `(tactic| first
  | exact nin_nil | (refine nin_cons ?h1 ?h2; (case h1 => walk_at "ne"); (case h2 => walk_at "nin")))
local macro_rules | `(tactic| walk_at "ne") => `(tactic| first
  | assumption | exact Ne.symm (by assumption)
  | (refine bx_nb (H := ?H0) (r := ?r0) ?h1 ?h2; (case h2 => assumption); (case h1 => walk_at "bx"))
  | (refine bx_nr (H := ?H0) (b := ?b0) ?h1 ?h2; (case h2 => assumption); (case h1 => walk_at "bx"))
  | (refine Ne.symm (bx_nb (H := ?H0) (r := ?r0) ?h1 ?h2); (case h2 => assumption); (case h1 => walk_at "bx"))
  | (refine ne_old (H := ?H0) (o := ?o0) ?h1 ?h2; (case h2 => assumption); (case h1 => walk_at "tr"))
  | (refine Ne.symm (ne_old (H := ?H0) (o := ?o0) ?h1 ?h2); (case h2 => assumption); (case h1 => walk_at "tr"))
  | exact (Tu.ne (by assumption) (by assumption)).1 | exact (Tu.ne (by assumption) (by assumption)).2
  | (refine bx_rb (H := ?H0) ?h1; (case h1 => walk_at "bx")))
local macro_rules | `(tactic| walk_at "tu") => `(tactic| first
  | assumption
  | (refine Tu.ex (H := ?H0) ?h1 ?h2; (case h2 => assumption); (case h1 => walk_at "tu"))
  | (refine Tu.ks (H := ?H0) (S := ?S0) ?h1 ?h2 ?h3; (case h2 => assumption); (case h3 => walk_at "nin"); (case h1 => walk_at "tu")))
local macro_rules | `(tactic| walk_at "bx") => `(tactic| first
  | assumption
  | (refine bx_ex (H := ?H0) ?h1 ?h2; (case h2 => assumption); (case h1 => walk_at "bx"))
  | (refine bx_ks (H := ?H0) (S := ?S0) ?h1 ?h2 ?h3 ?h4; (case h2 => assumption); (case h3 => walk_at "nin"); (case h4 => walk_at "nin"); (case h1 => walk_at "bx")))
local macro_rules | `(tactic| walk_at "sl") => `(tactic| first
  | assumption | (refine SqL.of ?h1; (case h1 => walk_at "tr"))
  | (refine ex_sl (H := ?H0) ?h1 ?h2; (case h2 => assumption); (case h1 => walk_at "sl"))
  | (refine ks_sl (H := ?H0) (S := ?S0) ?h1 ?h2 ?h3; (case h2 => assumption); (case h3 => walk_at "nin"); (case h1 => walk_at "sl")))
local macro_rules | `(tactic| walk_at "st") => `(tactic| first
  | assumption | (refine Tu.st ?h1; (case h1 => walk_at "tu")) | (refine SqT.of ?h1; (case h1 => walk_at "tr"))
  | (refine ex_st (H := ?H0) ?h1 ?h2; (case h2 => assumption); (case h1 => walk_at "st"))
  | (refine ks_st (H := ?H0) (S := ?S0) ?h1 ?h2 ?h3; (case h2 => assumption); (case h3 => walk_at "nin"); (case h1 => walk_at "st")))
local macro_rules | `(tactic| walk_at "ex") => `(tactic| first
  | exact Ex.refl _ | assumption | (refine Ex.trans (H1 := ?H0) ?h1 ?h2; (case h2 => assumption); (case h1 => walk_at "ex")))
local macro_rules | `(tactic| walk_at "ks") => `(tactic| first
  | exact Ks.refl _ _ | assumption | (refine Ks.of ?h1; (case h1 => assumption)) | (refine Ks.trans (H1 := ?H0) ?h1 ?h2; (case h2 => first | assumption | (refine Ks.of ?h3; (case h3 => assumption))); (case h1 => walk_at "ks")))
local macro_rules | `(tactic| walk_at "dp") => `(tactic| first
  | exact Dp.str _ | exact Dp.int _ | exact Dp.bl _ | exact Dp.non | assumption | exact LsAt.dp (by assumption)
  | (refine dp_ex (H := ?H0) ?h1 ?h2; (case h1 => assumption); (case h2 => walk_at "dp")))
local macro_rules | `(tactic| walk_at "ev") => `(tactic| with_reducible first
  | exact ev_nil | refine ev_cons ?_ ?_ | exact ev_str | exact ev_int | exact ev_bl | exact ev_non
  | (refine ev_tup ?hal ?_ ?hle; (case hal => assumption); (case hle => with_unfolding_all exact Nat.le_of_ble_eq_true rfl))
  | (refine ev_ll (ev_lst ?hal ?_ ?hle); (case hal => assumption); (case hle => with_unfolding_all exact Nat.le_of_ble_eq_true rfl))
  | (refine ev_ll (ev_rep (n := ?nn) ?hal ?_ ?he ?hz); (case he => with_unfolding_all exact rfl); (case hal => assumption); (case hz => with_unfolding_all omega))
  | (refine ev_lst ?hal ?_ ?hle; (case hal => assumption); (case hle => with_unfolding_all exact Nat.le_of_ble_eq_true rfl))
  | (refine ev_lt ?he; (case he => with_unfolding_all exact rfl))
  | (refine ev_let ?hal ?_ ?hs; (case hal => assumption); (case hs => with_unfolding_all first | decide +kernel | rfl))
  | (refine ev_var (v := ?vv) ?he ?hd; (case he => with_unfolding_all exact rfl); (case hd => with_unfolding_all walk_at "dp")))

section
variable {P : Program} {w : World} {K : PySem.W.Frag} {mg : Str → Option Value} {base : Heap}
theorem fdat_at {fs : List FD} {k : Nat} {d : PyData} (h : (fs.map fdat)[k]? = some d) : ∃ f, fs[k]? = some f ∧ d = fdat f := by
  rw [List.getElem?_map] at h
  cases e : fs[k]? with
  | none => rw [e] at h; cases h
  | some f => rw [e] at h; exact ⟨f, rfl, (Option.some.inj h).symm⟩
structure PgF (K : PySem.W.Frag) (CP CF : Addr) (H : Hp) (z : Addr) (fs : List FD) (ss : List PyData) : Prop where
  ex : ∃ dz r1 r2 ws1 ws2, H z = some (.ins CP dz (pgF r1 r2)) ∧ H r1 = some (.lst ws1) ∧ FnAll K CF H ws1 fs ∧ H r2 = some (.lst ws2) ∧ DpAll K H ws2 ss
def pMdX (K : PySem.W.Frag) (CP CF CE : Addr) : Sp := fun vs H Q E => ∃ v fs ss, vs = [v] ∧ Ds K H v (.list [.list (List.map fdat fs), .list ss]) ∧
  (progD fs ss = true → ∀ z H', H z = none → Ex H H' → PgF K CP CF H' z fs ss → Q (.ref z) H') ∧
  (progD fs ss = false → ∀ d H', Ex H H' → H' d = some (.xd [("reason", .str "no program")]) → E (.ref CE) (some d) H')
theorem ok__law_made (T : Tx K mg) : FnOk P w K mg base (L2.CX P w) 11 T.a__law_made T.e__law_made p__law_made (pMdX K T.C_Program T.C_Function T.C_RightsError) := by
  refine T.d__law_made.F.okX sc__law_made (fun vs H Q E h => ?_) (fun cdv A outer s H vs Q E hr h => ?_)
  · obtain ⟨v, fs, ss, rfl, _⟩ := h
    rfl
  obtain ⟨v0, fs, ss, rfl, hp, q, qe⟩ := h
  refine ⟨_, (pss_cons (ps_setLc (i := 1) (own := [("f", 2)]) (g := gName 2) rfl sc__law_made.nd rfl rfl (sw_true rfl rfl rfl (by decide +kernel)) (plK K (pe_ix (ixL K) (pv 0) pe_int (fun _ _ => rfl))) (blkOk_by (own := [("f", 2)]) (N := n__law_made) (sc := defScope s__law_made) (by decide +kernel)) (fun _ _ _ _ _ => (pg_name (i := 2) sc__law_made.nd rfl (Or.inl rfl))) (fun _ _ _ _ _ => pts_nil) (fun _ _ _ _ _ => (pe_make T.k_Function (ok_Function_init T) (hr.mono (by omega)) (by rfl) T.g_Function T.d_Function_init.b .nil pass0 (pa_cons (pe_ix (ixL K) (pv 2) pe_int (fun _ _ => rfl)) (pa_cons (pe_callTy (lstK K) (by rfl) T.b_list (by decide +kernel) (pa_cons (pe_ix (ixL K) (pv 2) pe_int (fun _ _ => rfl)) pa_nil)) (pa_cons (pe_callTy (lstK K) (by rfl) T.b_list (by decide +kernel) (pa_cons (pe_ix (ixL K) (pv 2) pe_int (fun _ _ => rfl)) pa_nil)) pa_nil))))))
    (pss_one (ps_ret (pe_makeS T.k_Program (ok_Program_init T) (hr.mono (by omega)) (by rfl) T.g_Program T.d_Program_init.b (fun σ => passAt (takes_of rfl rfl rfl rfl) σ) (pa_cons (pv 1) (pa_cons (pe_callTy (lstK K) (by rfl) T.b_list (by decide +kernel) (pa_cons (pe_ix (ixL K) (pv 0) pe_int (fun _ _ => rfl)) pa_nil)) pa_nil)))))), ?_⟩
  obtain ⟨p0, us, _, rfl, e0, hp2, hpD, hpm, _, _⟩ := ds_lst hp rfl
  cases e0
  obtain ⟨u1, u2, rfl, d1, d2⟩ := dpa_two hpD rfl
  have hpm' := (Bool.and_eq_true _ _ ▸ hpm : smD (.list (List.map fdat fs)) = true ∧ _)
  have sm1 : smD (.list (List.map fdat fs)) = true := hpm'.1
  have sm2 : smD (.list ss) = true := (Bool.and_eq_true _ _ ▸ hpm'.2 : smD (.list ss) = true ∧ _).1
  obtain ⟨p, xs, _, rfl, e1, hL, hD, hm, hz, hl⟩ := ds_lst (⟨d1, sm1⟩ : Ds K H u1 _) rfl
  cases e1
  obtain ⟨ps, xt, _, rfl, e2, hL2, hD2, hm2, hz2, hl2⟩ := ds_lst (⟨d2, sm2⟩ : Ds K H u2 _) rfl
  cases e2
  rw [List.length_map] at hl hz
  walk_at "r"
  refine a_ixL (v := .ref p) hp2 (atI_nat (j := 0) rfl) ?_
  refine c_L hL ?_
  refine cp_list (xs := xs) (fun l k h => Ex H h ∧ Al [l] h ∧ ∃ ys, h l = some (.lst ys) ∧ FnAll K T.C_Function (dl [l] h) ys (fs.take k))
    (fun l n => ⟨Ex.new n, Al.nil.cons upd_same, [], upd_same, .nil⟩) (fun l k h _ _ g => ex_sl hL g.1) ?_ ?_
  · rintro l k x h nl hx ⟨e, al, ys, f, fD⟩
    obtain ⟨d, hd', dx⟩ := ds_at hD hm hx
    obtain ⟨fd, hd2, rfl⟩ := fdat_at hd'
    obtain ⟨p0, u, q1, q2, rfl, g0, gu, g1, g2⟩ := ds_fdat dx
    obtain ⟨z1, i1, j1⟩ := g1.ex
    obtain ⟨z2, i2, j2⟩ := g2.ex
    have hk := at_lt hx
    have yl := fD.len
    rw [take_len hd2] at yl
    walk_at "r"
    refine ⟨rfl, ?_⟩
    walk_at "r"
    refine a_ixL (v := u) (ex_sl g0 e) rfl ?_
    walk_at "r"
    refine a_ixL (v := .ref q1) (ex_sl g0 e) rfl ?_
    walk_at "r"
    refine a_lstL (ex_sl i1 e) fun r1 H1 n1 e1 f1 => ?_
    walk_at "r"
    refine a_ixL (v := .ref q2) (ex_sl g0 (e.trans e1)) rfl ?_
    walk_at "r"
    refine a_lstL (ex_sl i2 (e.trans e1)) fun r2 H2 n2 e2 f2 => ?_
    walk_at "r"
    have E2 := (e.trans e1).trans e2
    refine a_new fun y dy H3 n3 n4 n5 e3 f3 f4 => ?_
    have L0 : Ex H (dl [l] H2) := fun b o z => by
      have nb : b ≠ l := ne_of_none z nl
      rw [dl_nin (by simpa using nb)]
      exact E2 b o z
    have al2 := (al.ex e1).ex e2
    have ny := al2.nin n3
    have nd := al2.nin n4
    have M : Ex (dl [l] H2) (dl [y, dy, l] H3) := fun b o z => by
      by_cases hb : b ∈ [l]
      · rw [dl_in hb] at z
        cases z
      · rw [dl_nin hb] at z
        rw [dl_nin (by
          intro c
          rcases List.mem_cons.mp c with c | c
          · rw [c, n3] at z; cases z
          rcases List.mem_cons.mp c with c | c
          · rw [c, n4] at z; cases z
          · exact hb c)]
        exact e3 b o z
    have N := L0.trans M
    have r1n : r1 ∉ [l] := al.nin n1
    have r2n : r2 ∉ [l] := (al.ex e1).nin n2
    have D1 : Dl K (dl [y, dy, l] H3) r1 fd.p := ⟨⟨z1, SqL.of (M _ _ (dl_at r1n (e2 _ _ f1))), dpa_ex N j1⟩, g1.sm, g1.le⟩
    have D2 : Dl K (dl [y, dy, l] H3) r2 fd.b := ⟨⟨z2, SqL.of (M _ _ (dl_at r2n f2)), dpa_ex N j2⟩, g2.sm, g2.le⟩
    refine ⟨[y, dy, l], y, dy, u, r1, r2, fd, rfl, ((al2.ex e3).cons f4).cons f3, List.mem_cons_self .., f3, ds_ex gu N, D1, D2, fun s1 s2 w1 w2 H4 k4 m1 m2 nq c0 c1 c2 B1 B2 => ⟨rfl, ?_⟩⟩
    have E24 : Ex H2 H4 := fun b o z => k4 b o (fun c => by rw [List.mem_singleton] at c; rw [c, n3] at z; cases z) (e3 b o z)
    have O : Ex (dl [y, dy, l] H4) (dl [l] H4) := dl_sub fun b c => List.mem_cons_of_mem _ (List.mem_cons_of_mem _ c)
    have U : Ex (dl [y, dy, l] H3) (dl [y, dy, l] H4) := dl_ks fun b o hb z => k4 b o (fun c => hb (by rw [List.mem_singleton] at c; rw [c]; exact List.mem_cons_self ..)) z
    have al3 : Al [l] H3 := al2.ex e3
    have s1n : s1 ∉ [l] := al3.nin m1
    have s2n : s2 ∉ [l] := al3.nin m2
    have E04 : Ex h H4 := (e1.trans e2).trans E24
    have fl4 : fs.length ≤ 100000 := hz
    have yl2 : ys.length < 100000 := by omega
    refine ⟨ys, E04 _ _ f, sz_lt yl2, (E2.trans E24).mut nl, (al.ex E04).upd, ys ++ [.ref y], upd_same, ?_⟩
    rw [dl_upd (by simp), take_snoc hd2]
    refine FnAll.snoc ⟨dy, u, s1, s2, dl_at ny c0, ds_ex gu ((N.trans U).trans O), ⟨⟨w1, dl_at s1n c1, dpa_ex O B1⟩, g1.sm, g1.le⟩, ⟨⟨w2, dl_at s2n c2, dpa_ex O B2⟩, g2.sm, g2.le⟩⟩ (fD.up (dl_ex E04))
  · rintro l h nl ⟨e, al, ys, f, fD⟩
    rw [hl, List.take_length] at fD
    walk_at "r"
    refine a_ixL (v := .ref ps) (ex_sl hp2 e) (atI_nat (j := 1) rfl) ?_
    walk_at "r"
    refine a_lstL (ex_sl hL2 e) fun r1 H1 n1 e1 f1 => ?_
    walk_at "r"
    refine a_newS fun x dx H2 n2 n3 n4 e2 f2 f3 => ?_
    have N := ex_two n2 n3 e2
    have G1 : FnAll K T.C_Function (dl [x, dx] H2) ys fs := fD.up (((dl_le [l] h).trans e1).trans N)
    refine ⟨[x, dx], x, dx, l, r1, ys, fs, ss, rfl, (Al.nil.cons f3).cons f2, List.mem_cons_self .., f2, SqL.of (N _ _ (e1 _ _ f)), G1, hz, ⟨⟨xt, SqL.of (N _ _ f1), dpa_ex ((e.trans e1).trans N) hD2⟩, hm2, hz2⟩, fun c q1 q2 w1 w2 H3 k3 m1 m2 c0 c1 A1 _ c2 B2 => ⟨rfl, ?_⟩, fun c d H3 k3 m1 c1 => ?_⟩
    · have E3 : Ex H H3 := fun b o z => k3 b o (fun y => ne_of_none ((e.trans e1) b o z) n2 (by simpa using y)) (e2 b o ((e.trans e1) b o z))
      have O := dl_le [x, dx] H3
      exact q c x H3 (ex_none (e.trans e1) n2) E3 ⟨dx, q1, q2, w1, w2, c0, c1, A1.up O, c2, dpa_ex O B2⟩
    · have E3 : Ex H H3 := fun b o z => k3 b o (fun y => ne_of_none ((e.trans e1) b o z) n2 (by simpa using y)) (e2 b o ((e.trans e1) b o z))
      exact qe c d H3 E3 c1

end
end Ver

set_option Elab.async false
set_option linter.all false
set_option maxRecDepth 100000
set_option maxHeartbeats 4000000
namespace Ver
open PySem PySem.Spec PyProof.Rows L2 Evl
local macro_rules | `(tactic| walk_at "s") => `(tactic| with_reducible first
  | refine w_seq ?_ | refine w_asg ?_ | refine w_name ?_ | refine w_if ?_ | refine w_ret ?_ | refine w_drop ?_ | refine w_next ?_ | refine w_brk ?_ | refine w_cont ?_
  | (refine w_var (v := ?vv) ?hh ?_; (case hh => with_unfolding_all exact rfl))
  | refine w_c ?_ | refine w_op ?_ | refine w_un ?_ | refine w_I0 ?_ | refine w_neg ?_ | refine w_eqI ?_ | refine w_neI ?_ | refine w_eqS ?_ | refine w_neS ?_ | refine w_eqB ?_ | refine w_neB ?_
  | refine w_test ?_ | refine w_B ?_ | refine w_and ?_ | refine w_or ?_ | refine w_not ?_ | refine w_andV ?_ | refine w_orV ?_ | refine w_notV ?_ | refine w_ifE ?_ | refine w_yes ?_
  | refine w_nil ?_ | refine w_cons ?_ | refine w_CB ?_ | refine w_callN ?_ | refine w_BM ?_ | refine w_BMT ?_ | refine w_BM0 ?_ | refine w_noPart ?_ | refine w_part ?_ | refine w_sl ?_ | refine w_tup ?_ | refine w_lst ?_
  | refine w_subG ?_ | refine w_gcons ?_ | refine w_gnil ?_ | refine w_for ?_ | refine w_lc ?_ | refine w_iR1 ?_ | refine w_iR2 ?_ | refine w_iL ?_ | refine w_iT ?_ | refine w_iS ?_
  | (show ∃ k, V.bl _ = V.bl k ∧ _; refine ⟨_, rfl, ?_⟩) | (show ∃ k, V.int _ = V.int k ∧ _; refine ⟨_, rfl, ?_⟩)
  | refine iteT ?_ | refine iteF ?_ | refine iteNT ?_ | refine iteNF ?_ | refine r_S ?_ | refine c_S ?_ | refine a_abs ?_ | refine a_intI ?_ | refine a_intB ?_ | refine w_par ?_ | refine w_dK ?_ | refine w_chain ?_ | (show ∃ v w, [_, _] = [v, w] ∧ _; refine ⟨_, _, rfl, ?_⟩)
  | refine w_getF ?_ | refine w_setF ?_ | refine w_newI ?_ | refine w_callS ?_ | refine w_getD1 ?_ | refine w_putD ?_ | refine w_veI ?_ | refine w_ostI ?_ | refine w_mkO ?_ | refine w_newS ?_ | refine w_xf ?_ | refine w_dget ?_ | refine w_din ?_ | refine w_dnin ?_ | refine w_iEn ?_ | refine w_iZp ?_ | refine w_dc ?_
  | refine a_isNn ?_ | refine a_isNr ?_ | refine a_notNn ?_ | refine a_notNr ?_ | refine a_isTy ?_ | refine a_notTy ?_ | refine a_isBl ?_ | refine a_notBl ?_)
local macro_rules | `(tactic| walk_at "r") => `(tactic| repeat walk_at "s")
local macro_rules | `(tactic| walk_at "tr") => `(tactic| first
  | assumption
  | (refine ex_at (H := ?H0) ?h1 ?h2; (case h2 => assumption); (case h1 => walk_at "tr"))
  | (refine ks_at (H := ?H0) (S := ?S0) ?h1 ?h2 ?h3; (case h2 => assumption); (case h3 => walk_at "nin"); (case h1 => walk_at "tr")))
local macro_rules | `(tactic| walk_at "nin") => `(tactic| first
  | exact nin_nil | (refine nin_cons ?h1 ?h2; (case h1 => walk_at "ne"); (case h2 => walk_at "nin")))
local macro_rules | `(tactic| walk_at "ne") => `(tactic| first
  | assumption | exact Ne.symm (by assumption)
  | (refine bx_nb (H := ?H0) (r := ?r0) ?h1 ?h2; (case h2 => assumption); (case h1 => walk_at "bx"))
  | (refine bx_nr (H := ?H0) (b := ?b0) ?h1 ?h2; (case h2 => assumption); (case h1 => walk_at "bx"))
  | (refine Ne.symm (bx_nb (H := ?H0) (r := ?r0) ?h1 ?h2); (case h2 => assumption); (case h1 => walk_at "bx"))
  | (refine ne_old (H := ?H0) (o := ?o0) ?h1 ?h2; (case h2 => assumption); (case h1 => walk_at "tr"))
  | (refine Ne.symm (ne_old (H := ?H0) (o := ?o0) ?h1 ?h2); (case h2 => assumption); (case h1 => walk_at "tr"))
  | exact (Tu.ne (by assumption) (by assumption)).1 | exact (Tu.ne (by assumption) (by assumption)).2
  | (refine bx_rb (H := ?H0) ?h1; (case h1 => walk_at "bx")))
local macro_rules | `(tactic| walk_at "tu") => `(tactic| first
  | assumption
  | (refine Tu.ex (H := ?H0) ?h1 ?h2; (case h2 => assumption); (case h1 => walk_at "tu"))
  | (refine Tu.ks (H := ?H0) (S := ?S0) ?h1 ?h2 ?h3; (case h2 => assumption); (case h3 => walk_at "nin"); (case h1 => walk_at "tu")))
local macro_rules | `(tactic| walk_at "bx") => `(tactic| first
  | assumption
  | (refine bx_ex (H := ?H0) ?h1 ?h2; (case h2 => assumption); (case h1 => walk_at "bx"))
  | (refine bx_ks (H := ?H0) (S := ?S0) ?h1 ?h2 ?h3 ?h4; (case h2 => assumption); (case h3 => walk_at "nin"); (case h4 => walk_at "nin"); (case h1 => walk_at "bx")))
local macro_rules | `(tactic| walk_at "sl") => `(tactic| first
  | assumption | (refine SqL.of ?h1; (case h1 => walk_at "tr"))
  | (refine ex_sl (H := ?H0) ?h1 ?h2; (case h2 => assumption); (case h1 => walk_at "sl"))
  | (refine ks_sl (H := ?H0) (S := ?S0) ?h1 ?h2 ?h3; (case h2 => assumption); (case h3 => walk_at "nin"); (case h1 => walk_at "sl")))
local macro_rules | `(tactic| walk_at "st") => `(tactic| first
  | assumption | (refine Tu.st ?h1; (case h1 => walk_at "tu")) | (refine SqT.of ?h1; (case h1 => walk_at "tr"))
  | (refine ex_st (H := ?H0) ?h1 ?h2; (case h2 => assumption); (case h1 => walk_at "st"))
  | (refine ks_st (H := ?H0) (S := ?S0) ?h1 ?h2 ?h3; (case h2 => assumption); (case h3 => walk_at "nin"); (case h1 => walk_at "st")))
local macro_rules | `(tactic| walk_at "ex") => `(tactic| first
  | exact Ex.refl _ | assumption | (refine Ex.trans (H1 := ?H0) ?h1 ?h2; (case h2 => assumption); (case h1 => walk_at "ex")))
local macro_rules | `(tactic| walk_at "ks") => `(tactic| first
  | exact Ks.refl _ _ | assumption | (refine Ks.of ?h1; (case h1 => assumption)) | (refine Ks.trans (H1 := ?H0) ?h1 ?h2; (case h2 => first | assumption | (refine Ks.of ?h3; (case h3 => assumption))); (case h1 => walk_at "ks")))
local macro_rules | `(tactic| walk_at "dp") => `(tactic| first
  | exact Dp.str _ | exact Dp.int _ | exact Dp.bl _ | exact Dp.non | assumption | exact LsAt.dp (by assumption)
  | (refine dp_ex (H := ?H0) ?h1 ?h2; (case h1 => assumption); (case h2 => walk_at "dp")))
local macro_rules | `(tactic| walk_at "ev") => `(tactic| with_reducible first
  | exact ev_nil | refine ev_cons ?_ ?_ | exact ev_str | exact ev_int | exact ev_bl | exact ev_non
  | (refine ev_tup ?hal ?_ ?hle; (case hal => assumption); (case hle => with_unfolding_all exact Nat.le_of_ble_eq_true rfl))
  | (refine ev_ll (ev_lst ?hal ?_ ?hle); (case hal => assumption); (case hle => with_unfolding_all exact Nat.le_of_ble_eq_true rfl))
  | (refine ev_ll (ev_rep (n := ?nn) ?hal ?_ ?he ?hz); (case he => with_unfolding_all exact rfl); (case hal => assumption); (case hz => with_unfolding_all omega))
  | (refine ev_lst ?hal ?_ ?hle; (case hal => assumption); (case hle => with_unfolding_all exact Nat.le_of_ble_eq_true rfl))
  | (refine ev_lt ?he; (case he => with_unfolding_all exact rfl))
  | (refine ev_let ?hal ?_ ?hs; (case hal => assumption); (case hs => with_unfolding_all first | decide +kernel | rfl))
  | (refine ev_var (v := ?vv) ?he ?hd; (case he => with_unfolding_all exact rfl); (case hd => with_unfolding_all walk_at "dp")))

section
variable {P : Program} {w : World} {K : PySem.W.Frag} {mg : Str → Option Value} {base : Heap}
def pTold (K : PySem.W.Frag) : Sp := fun vs H Q _ => ∃ v fs ss, vs = [v] ∧ Ds K H v (.list [.list (List.map fdat fs), .list ss]) ∧
  (progD fs ss = true → ∀ v' H', Ex H H' → Dp K H' v' (.list [.list (List.map fdat fs), .list ss]) → Q v' H') ∧ (progD fs ss = false → ∀ H', Ex H H' → Q (.str "no program") H')
theorem ok__law_told (T : Tx K mg) : FnOk P w K mg base CX0 13 T.a__law_told T.e__law_told p__law_told (pTold K) := by
  refine T.d__law_told.F.ok sc__law_told (fun vs H Q E h => ?_) (fun cdv A outer s H vs Q E hr h => ?_)
  · obtain ⟨v, fs, ss, rfl, _⟩ := h
    rfl
  obtain ⟨v, fs, ss, rfl, hv, q, qn⟩ := h
  refine ⟨_, (pss_cons (ps_try_as (i := 2) (Wout := fun _ _ _ _ => False) rfl rfl sc__law_told.nd rfl rfl ⟨rfl, by decide, Or.inl T.g_RightsError⟩ takes0 (fun W pn xe tk _ => (pss_one (ps_set (i := 1) sc__law_told.nd rfl (.inl rfl) (pe_callS (ok__law_made T) (hr.mono (by omega)) (by rfl) T.d__law_made.m T.d__law_made.F.kp T.d__law_made.b (fun σ => passAt tk σ) (pa_cons (pv 0) pa_nil))))) (fun a oe cls d pn hz hf => (pss_one (ps_ret (by exact (pe_xf T.x_RightsError T.n_RightsError_reason hz hf (pv 2)))))))
    (pss_one (ps_ret (pe_lst (pa_cons (pe_lc (own := [("f", 3)]) (g := gName 3) rfl sc__law_told.nd  (plK K (by exact (fldK K (pv 1) rfl))) (blkOk_by (own := [("f", 3)]) (N := n__law_told) (sc := defScope s__law_told) (by decide +kernel)) (fun _ _ _ _ _ => (pg_name (i := 3) sc__law_told.nd rfl (Or.inl rfl))) (fun _ _ _ _ _ => pts_nil) (fun _ _ _ _ _ => (pe_lst (pa_cons (by exact (fldK K (pv 3) rfl)) (pa_cons (by exact (fldK K (pv 3) rfl)) (pa_cons (by exact (fldK K (pv 3) rfl)) pa_nil)))))) (pa_cons (by exact (fldK K (pv 1) rfl)) pa_nil)))))), ?_⟩
  walk_at "r"
  refine ⟨v, fs, ss, rfl, hv, fun ok z H1 nz e1 pg => ?_, fun no d H1 e1 f1 => ?_⟩
  · walk_at "r"
    obtain ⟨dz, r1, r2, ws1, ws2, z1, z2, z3, z4, z5⟩ := pg.ex
    refine a_get T.c_Program T.n_Program_functions z1 (pg_fns _ _) ?_
    walk_at "r"
    refine c_L (SqL.of z2) ?_
    refine cp_list (xs := ws1) (fun D k h => Ex H1 h ∧ ∃ acc, h D = some (.lst acc) ∧ DpAll K (dl [D] h) acc (List.map fdat (fs.take k)) ∧ acc.length = k) (fun D n => ⟨Ex.new n, [], upd_same, .nil, rfl⟩) (fun D k h _ _ g => SqL.of (g.1 _ _ z2)) ?_ ?_
    · rintro D k u h nD hk ⟨e2, acc, fD, DD, la⟩
      obtain ⟨a, f, rfl, hf, hA⟩ := z3.get hk
      obtain ⟨dx, nv, q1, q2, o1, o2, o3, o4⟩ := hA.ex
      have hk1 := at_lt hk
      obtain ⟨w1, g1, g2⟩ := o3.ex
      obtain ⟨w2, g3, g4⟩ := o4.ex
      walk_at "r"
      refine ⟨rfl, ?_⟩
      walk_at "r"
      refine a_get T.c_Function T.n_Function_name (e2 _ _ o1) (fn_name _ _ _) ?_
      walk_at "r"
      refine a_get T.c_Function T.n_Function_params (e2 _ _ o1) (fn_params _ _ _) ?_
      walk_at "r"
      refine a_get T.c_Function T.n_Function_body (e2 _ _ o1) (fn_body _ _ _) ?_
      walk_at "r"
      refine new_lst (by simp) fun t h3 n3 e3 f3 => ?_
      have X : Ex H1 (dl [D] h3) := fun b o hb => by
        have nb : b ≠ D := ne_of_none hb nD
        rw [dl_nin (by simpa using nb)]
        exact e3 _ _ (e2 _ _ hb)
      have tD : t ∉ [D] := by simpa using (ne_old fD n3).symm
      have wl := z3.len
      have kz : acc.length < sizeLine := by
        have h0 : (decide (2 ≤ 100000) && (smD (.list (List.map fdat fs)) && (smD (.list ss) && true))) = true := hv.2
        rw [Bool.and_eq_true, Bool.and_eq_true] at h0
        have h2 : (decide ((List.map fdat fs).length ≤ 100000) && smAll (List.map fdat fs)) = true := h0.2.1
        rw [Bool.and_eq_true] at h2
        have h3 := of_decide_eq_true h2.1
        rw [List.length_map] at h3
        exact sz_lt (by omega)
      refine ⟨acc, e3 _ _ fD, kz, (e2.trans e3).mut nD, acc ++ [.ref t], upd_same, ?_, by rw [List.length_append, la]; rfl⟩
      rw [dl_upd (by simp), take_snoc hf, List.map_append]
      refine dpa_snoc (dpa_ex (dl_ex e3) DD) (.lst (SqL.of (dl_at tD f3)) (.cons (dp_ex X o2.1) (.cons (.lst (SqL.of (X _ _ g1)) (dpa_ex X g2)) (.cons (.lst (SqL.of (X _ _ g3)) (dpa_ex X g4)) .nil))))
    · rintro D h nD ⟨e2, acc, fD, DD, la⟩
      have wl := z3.len
      rw [wl, List.take_length] at DD
      walk_at "r"
      refine a_get T.c_Program T.n_Program_statements (e2 _ _ z1) (pg_sts _ _) ?_
      walk_at "r"
      refine new_lst (by simp) fun t h3 n3 e3 f3 => ?_
      have E3 := e2.trans e3
      exact q ok (.ref t) h3 (e1.trans E3) (.lst (SqL.of f3) (.cons (.lst (SqL.of (e3 _ _ fD)) (dpa_ex ((dl_le _ _).trans e3) DD)) (.cons (.lst (SqL.of (E3 _ _ z4)) (dpa_ex E3 z5)) .nil)))
  · refine ⟨true, T.s_RightsError, fun _ a na => ?_, fun z => by cases z⟩
    walk_at "r"
    refine ⟨rfl, rfl, d, _, .str "no program", rfl, f1, rfl, ?_⟩
    exact qn no H1 e1
theorem progD_parts {fs : List FD} {ss : List PyData} (h : progD fs ss = true) : fs.length ≤ 4 ∧ fs.all fnD = true ∧ ss.length ≤ 40 ∧ ss.all stmtD = true := by
  unfold progD at h
  rw [Bool.and_eq_true, Bool.and_eq_true, Bool.and_eq_true] at h
  have s := sts_le h.1.2
  exact ⟨of_decide_eq_true h.1.1.1, h.1.1.2, s.1, s.2⟩
theorem ok_variables (T : Tx K mg) : FnOk P w K mg base CX0 3 T.a_variables T.e_variables p_variables (fun vs H Q _ => ∃ z fs ss, vs = [.ref z] ∧ PgF K T.C_Program T.C_Function H z fs ss ∧ progD fs ss = true ∧ smAll ss = true ∧ ∀ l H', Ex H H' → H' l = some (.lst (((declsD fs ss).map fun d => strD (nthD d 0)).map V.str)) → Q (.ref l) H') := by
  refine T.d_variables.F.ok sc_variables (fun vs H Q E h => ?_) (fun cdv A outer s H vs Q E hr h => ?_)
  · obtain ⟨z, fs, ss, rfl, _⟩ := h
    rfl
  obtain ⟨z, fs, ss, rfl, pg, ok, sm, q⟩ := h
  refine ⟨_, (pss_one (ps_ret (pe_lc (own := [("name", 1), ("_", 2)]) (g := gTup K 2 (gCons (gName 1) (gCons (gName 2) (gNil)))) rfl sc_variables.nd  (plK K (pe_call (ok_declared T) (hr.mono (by omega)) (by rfl) T.d_declared.m T.d_declared.F.kp T.d_declared.b .nil pass0 (pa_cons (by exact (fldK K (pv 0) rfl)) (pa_cons (by exact (fldK K (pv 0) rfl)) pa_nil)))) (blkOk_by (own := [("name", 1), ("_", 2)]) (N := n_variables) (sc := defScope s_variables) (by decide +kernel)) (fun _ _ _ _ _ => (pg_tup (by rfl) (pgs_cons (pg_name (i := 1) sc_variables.nd rfl (Or.inl rfl)) (pgs_cons (pg_name (i := 2) sc_variables.nd rfl (Or.inl rfl)) pgs_nil)))) (fun _ _ _ _ _ => pts_nil) (fun _ _ _ _ _ => (pv 1))))), ?_⟩
  obtain ⟨dz, r1, r2, ws1, ws2, z1, z2, z3, z4, z5⟩ := pg.ex
  obtain ⟨f4, fo, s40, so⟩ := progD_parts ok
  walk_at "r"
  refine a_get T.c_Program T.n_Program_functions z1 (pg_fns _ _) ?_
  walk_at "r"
  refine a_get T.c_Program T.n_Program_statements z1 (pg_sts _ _) ?_
  walk_at "r"
  refine ⟨[], r1, r2, fs, ss, rfl, Al.nil, ⟨⟨ws1, by rw [dl_nil]; exact SqL.of z2, by rw [dl_nil]; exact z3⟩, by rw [dl_nil]; exact ⟨⟨ws2, SqL.of z4, z5⟩, sm, Nat.le_trans s40 (by decide)⟩, fo, so, f4, s40⟩, fun t ts H2 n2 e2 f2 D2 => ?_⟩
  have tl := dpa_len D2
  have tle := decls_le fo f4 s40
  have dok := decls_ok fo so
  walk_at "r"
  refine c_L (SqL.of f2) ?_
  refine cp_list (xs := ts) (fun l2 k h2 => Ex H2 h2 ∧ h2 l2 = some (.lst ((((declsD fs ss).take k).map fun d => strD (nthD d 0)).map V.str))) (fun l n => ⟨Ex.new n, upd_same⟩) (fun l k h _ _ g => SqL.of (g.1 _ _ f2)) ?_ ?_
  · rintro l2 k x h2 nl2 hx ⟨e3, f3⟩
    obtain ⟨d, hd', dx⟩ := dpa_at D2 hx
    have hk := at_lt hx
    obtain ⟨es, o⟩ := pr_ok (all_at dok hd')
    rw [o.e] at dx
    obtain ⟨p2, xs2, rfl, hT, hD2⟩ := dp_tup dx
    obtain ⟨u, v, rfl, du, dv⟩ := dpa_two hD2 o.l
    have nm := name_str o.n
    rw [nm.1] at du
    cases dp_str du
    refine w_gtup (ex_st (st_dl hT) e3) rfl ?_
    walk_at "r"
    refine ⟨rfl, ?_⟩
    walk_at "r"
    refine ⟨_, f3, sz_lt (by rw [List.length_map, List.length_map, List.length_take]; omega), e3.mut nl2, ?_⟩
    rw [upd_same, take_snoc hd', List.map_append, List.map_append, o.e]
    rfl
  · rintro l2 h2 nl2 ⟨e3, f3⟩
    rw [tl, List.take_length] at f3
    exact q l2 h2 (e2.trans e3) f3
theorem ok_is_sketch (T : Tx K mg) : FnOk P w K mg base CX0 4 T.a_is_sketch T.e_is_sketch p_is_sketch (fun vs H Q _ => ∃ z fs ss, vs = [.ref z] ∧ PgF K T.C_Program T.C_Function H z fs ss ∧ progD fs ss = true ∧ smAll ss = true ∧ RV1 (.bl (decide (0 < (kindsD fs ss).length) && (kindsD fs ss).all fun d => numD d 5)) H Q) := by
  refine T.d_is_sketch.F.ok sc_is_sketch (fun vs H Q E h => ?_) (fun cdv A outer s H vs Q E hr h => ?_)
  · obtain ⟨z, fs, ss, rfl, _⟩ := h
    rfl
  obtain ⟨z, fs, ss, rfl, pg, ok, sm, q⟩ := h
  refine ⟨_, (pss_cons (ps_set (i := 1) sc_is_sketch.nd rfl (.inl rfl) (pe_call (ok_all_kinds T) (hr.mono (by omega)) (by rfl) T.d_all_kinds.m T.d_all_kinds.F.kp T.d_all_kinds.b .nil pass0 (pa_cons (by exact (fldK K (pv 0) rfl)) (pa_cons (by exact (fldK K (pv 0) rfl)) pa_nil))))
    (pss_one (ps_ret (pe_and (pe_cmpR op_gt (pe_callB (lenK K) (by rfl) T.b_len PySem.boot_len (pa_cons (pv 1) pa_nil)) pe_int (nomark _)) (pe_one (pe_callB (allK K) (by rfl) T.b_all (by decide +kernel) (pa_cons (pe_lc (own := [("kind", 2)]) (g := gName 2) rfl sc_is_sketch.nd  (plK K (pv 1)) (blkOk_by (own := [("kind", 2)]) (N := n_is_sketch) (sc := defScope s_is_sketch) (by decide +kernel)) (fun _ _ _ _ _ => (pg_name (i := 2) sc_is_sketch.nd rfl (Or.inl rfl))) (fun _ _ _ _ _ => pts_nil) (fun _ _ _ _ _ => (pe_call (ok_is_depth T) (hr.mono (by omega)) (by rfl) T.d_is_depth.m T.d_is_depth.F.kp T.d_is_depth.b .nil pass0 (pa_cons (pv 2) pa_nil)))) pa_nil))))))), ?_⟩
  obtain ⟨dz, r1, r2, ws1, ws2, z1, z2, z3, z4, z5⟩ := pg.ex
  obtain ⟨f4, fo, s40, so⟩ := progD_parts ok
  walk_at "r"
  refine a_get T.c_Program T.n_Program_functions z1 (pg_fns _ _) ?_
  walk_at "r"
  refine a_get T.c_Program T.n_Program_statements z1 (pg_sts _ _) ?_
  walk_at "r"
  refine ⟨[], r1, r2, fs, ss, rfl, Al.nil, ⟨⟨ws1, by rw [dl_nil]; exact SqL.of z2, by rw [dl_nil]; exact z3⟩, by rw [dl_nil]; exact ⟨⟨ws2, SqL.of z4, z5⟩, sm, Nat.le_trans s40 (by decide)⟩, fo, so, f4, s40⟩, fun t ts H2 n2 e2 f2 D2 => ?_⟩
  rw [dl_nil] at D2
  have tl := dpa_len D2
  have kl : (kindsD fs ss).length ≤ 104 := by
    have := decls_le fo f4 s40
    unfold kindsD
    rw [List.length_map]
    exact this
  have ksm : smAll (kindsD fs ss) = true := kinds_sm (sm_app (fn_sm z3 fo) (sm_lets sm so)) (decls_ok fo so)
  walk_at "r"
  refine a_lenL (SqL.of f2) ?_
  walk_at "r"
  rw [tl]
  refine ite2 (fun c => ?_) (fun c => ?_)
  · have c' : 0 < (kindsD fs ss).length := by have := of_decide_eq_true c; omega
    rw [decide_eq_true c'] at q
    walk_at "r"
    refine c_L (SqL.of f2) ?_
    refine cp_list (xs := ts) (fun l k h => Ex H2 h ∧ h l = some (.lst ((((kindsD fs ss).take k).map fun d => numD d 5).map V.bl))) (fun l n => ⟨Ex.new n, upd_same⟩) (fun l k h _ _ g => SqL.of (g.1 _ _ f2)) ?_ ?_
    · rintro l k x h nl hx ⟨e, f⟩
      obtain ⟨d, hd', dx⟩ := ds_at D2 ksm hx
      have hk := at_lt hx
      walk_at "r"
      refine ⟨rfl, ?_⟩
      walk_at "r"
      refine ⟨x, d, rfl, ds_ex dx e, fun H1 e1 => ?_⟩
      refine ⟨_, e1 _ _ f, sz_lt (by rw [List.length_map, List.length_map, List.length_take]; omega), (e.trans e1).mut nl, ?_⟩
      rw [upd_same]
      exact congrArg (fun z => some (HO.lst z)) (bools_snoc (fun d => numD d 5) hd').symm
    · rintro l h nl ⟨e, f⟩
      rw [tl, List.take_length] at f
      walk_at "r"
      refine ⟨l, _, rfl, SqL.of f, ?_⟩
      have := q h (e2.trans e)
      rw [bools_all]
      exact this
  · have c' : ¬ 0 < (kindsD fs ss).length := fun z => c (decide_eq_true (by omega))
    rw [decide_eq_false c'] at q
    walk_at "r"
    exact q H2 e2

end
end Ver

set_option Elab.async false
set_option linter.all false
set_option maxRecDepth 100000
set_option maxHeartbeats 4000000
namespace Ver
open PySem PySem.Spec PyProof.Rows L2 Evl
local macro_rules | `(tactic| walk_at "s") => `(tactic| with_reducible first
  | refine w_seq ?_ | refine w_asg ?_ | refine w_name ?_ | refine w_if ?_ | refine w_ret ?_ | refine w_drop ?_ | refine w_next ?_ | refine w_brk ?_ | refine w_cont ?_
  | (refine w_var (v := ?vv) ?hh ?_; (case hh => with_unfolding_all exact rfl))
  | refine w_c ?_ | refine w_op ?_ | refine w_un ?_ | refine w_I0 ?_ | refine w_neg ?_ | refine w_eqI ?_ | refine w_neI ?_ | refine w_eqS ?_ | refine w_neS ?_ | refine w_eqB ?_ | refine w_neB ?_
  | refine w_test ?_ | refine w_B ?_ | refine w_and ?_ | refine w_or ?_ | refine w_not ?_ | refine w_andV ?_ | refine w_orV ?_ | refine w_notV ?_ | refine w_ifE ?_ | refine w_yes ?_
  | refine w_nil ?_ | refine w_cons ?_ | refine w_CB ?_ | refine w_callN ?_ | refine w_BM ?_ | refine w_BMT ?_ | refine w_BM0 ?_ | refine w_noPart ?_ | refine w_part ?_ | refine w_sl ?_ | refine w_tup ?_ | refine w_lst ?_
  | refine w_subG ?_ | refine w_gcons ?_ | refine w_gnil ?_ | refine w_for ?_ | refine w_lc ?_ | refine w_iR1 ?_ | refine w_iR2 ?_ | refine w_iL ?_ | refine w_iT ?_ | refine w_iS ?_
  | (show ∃ k, V.bl _ = V.bl k ∧ _; refine ⟨_, rfl, ?_⟩) | (show ∃ k, V.int _ = V.int k ∧ _; refine ⟨_, rfl, ?_⟩)
  | refine iteT ?_ | refine iteF ?_ | refine iteNT ?_ | refine iteNF ?_ | refine r_S ?_ | refine c_S ?_ | refine a_abs ?_ | refine a_intI ?_ | refine a_intB ?_ | refine w_par ?_ | refine w_dK ?_ | refine w_chain ?_ | (show ∃ v w, [_, _] = [v, w] ∧ _; refine ⟨_, _, rfl, ?_⟩)
  | refine w_getF ?_ | refine w_setF ?_ | refine w_newI ?_ | refine w_callS ?_ | refine w_getD1 ?_ | refine w_putD ?_ | refine w_veI ?_ | refine w_ostI ?_ | refine w_mkO ?_ | refine w_newS ?_ | refine w_xf ?_ | refine w_dget ?_ | refine w_din ?_ | refine w_dnin ?_ | refine w_iEn ?_ | refine w_iZp ?_ | refine w_dc ?_
  | refine a_isNn ?_ | refine a_isNr ?_ | refine a_notNn ?_ | refine a_notNr ?_ | refine a_isTy ?_ | refine a_notTy ?_ | refine a_isBl ?_ | refine a_notBl ?_)
local macro_rules | `(tactic| walk_at "r") => `(tactic| repeat walk_at "s")
local macro_rules | `(tactic| walk_at "tr") => `(tactic| first
  | assumption
  | (refine ex_at (H := ?H0) ?h1 ?h2; (case h2 => assumption); (case h1 => walk_at "tr"))
  | (refine ks_at (H := ?H0) (S := ?S0) ?h1 ?h2 ?h3; (case h2 => assumption); (case h3 => walk_at "nin"); (case h1 => walk_at "tr")))
local macro_rules | `(tactic| walk_at "nin") => `(tactic| first
  | exact nin_nil | (refine nin_cons ?h1 ?h2; (case h1 => walk_at "ne"); (case h2 => walk_at "nin")))
local macro_rules | `(tactic| walk_at "ne") => `(tactic| first
  | assumption | exact Ne.symm (by assumption)
  | (refine bx_nb (H := ?H0) (r := ?r0) ?h1 ?h2; (case h2 => assumption); (case h1 => walk_at "bx"))
  | (refine bx_nr (H := ?H0) (b := ?b0) ?h1 ?h2; (case h2 => assumption); (case h1 => walk_at "bx"))
  | (refine Ne.symm (bx_nb (H := ?H0) (r := ?r0) ?h1 ?h2); (case h2 => assumption); (case h1 => walk_at "bx"))
  | (refine ne_old (H := ?H0) (o := ?o0) ?h1 ?h2; (case h2 => assumption); (case h1 => walk_at "tr"))
  | (refine Ne.symm (ne_old (H := ?H0) (o := ?o0) ?h1 ?h2); (case h2 => assumption); (case h1 => walk_at "tr"))
  | exact (Tu.ne (by assumption) (by assumption)).1 | exact (Tu.ne (by assumption) (by assumption)).2
  | (refine bx_rb (H := ?H0) ?h1; (case h1 => walk_at "bx")))
local macro_rules | `(tactic| walk_at "tu") => `(tactic| first
  | assumption
  | (refine Tu.ex (H := ?H0) ?h1 ?h2; (case h2 => assumption); (case h1 => walk_at "tu"))
  | (refine Tu.ks (H := ?H0) (S := ?S0) ?h1 ?h2 ?h3; (case h2 => assumption); (case h3 => walk_at "nin"); (case h1 => walk_at "tu")))
local macro_rules | `(tactic| walk_at "bx") => `(tactic| first
  | assumption
  | (refine bx_ex (H := ?H0) ?h1 ?h2; (case h2 => assumption); (case h1 => walk_at "bx"))
  | (refine bx_ks (H := ?H0) (S := ?S0) ?h1 ?h2 ?h3 ?h4; (case h2 => assumption); (case h3 => walk_at "nin"); (case h4 => walk_at "nin"); (case h1 => walk_at "bx")))
local macro_rules | `(tactic| walk_at "sl") => `(tactic| first
  | assumption | (refine SqL.of ?h1; (case h1 => walk_at "tr"))
  | (refine ex_sl (H := ?H0) ?h1 ?h2; (case h2 => assumption); (case h1 => walk_at "sl"))
  | (refine ks_sl (H := ?H0) (S := ?S0) ?h1 ?h2 ?h3; (case h2 => assumption); (case h3 => walk_at "nin"); (case h1 => walk_at "sl")))
local macro_rules | `(tactic| walk_at "st") => `(tactic| first
  | assumption | (refine Tu.st ?h1; (case h1 => walk_at "tu")) | (refine SqT.of ?h1; (case h1 => walk_at "tr"))
  | (refine ex_st (H := ?H0) ?h1 ?h2; (case h2 => assumption); (case h1 => walk_at "st"))
  | (refine ks_st (H := ?H0) (S := ?S0) ?h1 ?h2 ?h3; (case h2 => assumption); (case h3 => walk_at "nin"); (case h1 => walk_at "st")))
local macro_rules | `(tactic| walk_at "ex") => `(tactic| first
  | exact Ex.refl _ | assumption | (refine Ex.trans (H1 := ?H0) ?h1 ?h2; (case h2 => assumption); (case h1 => walk_at "ex")))
local macro_rules | `(tactic| walk_at "ks") => `(tactic| first
  | exact Ks.refl _ _ | assumption | (refine Ks.of ?h1; (case h1 => assumption)) | (refine Ks.trans (H1 := ?H0) ?h1 ?h2; (case h2 => first | assumption | (refine Ks.of ?h3; (case h3 => assumption))); (case h1 => walk_at "ks")))
local macro_rules | `(tactic| walk_at "dp") => `(tactic| first
  | exact Dp.str _ | exact Dp.int _ | exact Dp.bl _ | exact Dp.non | assumption | exact LsAt.dp (by assumption)
  | (refine dp_ex (H := ?H0) ?h1 ?h2; (case h1 => assumption); (case h2 => walk_at "dp")))
local macro_rules | `(tactic| walk_at "ev") => `(tactic| with_reducible first
  | exact ev_nil | refine ev_cons ?_ ?_ | exact ev_m1 | exact ev_str | exact ev_int | exact ev_bl | exact ev_non
  | (refine ev_tup ?hal ?_ ?hle; (case hal => assumption); (case hle => with_unfolding_all exact Nat.le_of_ble_eq_true rfl))
  | (refine ev_ll (ev_lst ?hal ?_ ?hle); (case hal => assumption); (case hle => with_unfolding_all exact Nat.le_of_ble_eq_true rfl))
  | (refine ev_ll (ev_rep (n := ?nn) ?hal ?_ ?he ?hz); (case he => with_unfolding_all exact rfl); (case hal => assumption); (case hz => with_unfolding_all omega))
  | (refine ev_lst ?hal ?_ ?hle; (case hal => assumption); (case hle => with_unfolding_all exact Nat.le_of_ble_eq_true rfl))
  | (refine ev_lt ?he; (case he => with_unfolding_all exact rfl))
  | (refine ev_let ?hal ?_ ?hs; (case hal => assumption); (case hs => with_unfolding_all first | decide +kernel | rfl))
  | (refine ev_var (v := ?vv) ?he ?hd; (case he => with_unfolding_all exact rfl); (case hd => with_unfolding_all walk_at "dp")))

section
variable {P : Program} {w : World} {K : PySem.W.Frag} {mg : Str → Option Value} {base : Heap}
theorem ok__law_bad_source (T : Tx K mg) : FnOk P w K mg base CX0 2 T.a__law_bad_source T.e__law_bad_source p__law_bad_source (pBad K) := by
  refine T.d__law_bad_source.F.ok sc__law_bad_source (fun vs H Q E h => ?_) (fun cdv A outer s H vs Q E hr h => ?_)
  · obtain ⟨S, b, r, rfl, _⟩ := h
    rfl
  obtain ⟨S, b, r, rfl, bx, bS, rS, al, q⟩ := h
  refine ⟨_, (pss_cons (ps_set (i := 1) sc__law_bad_source.nd rfl (.inl rfl) (pe_lst (pa_cons (pe_tup (pa_cons pe_str (pa_cons pe_int pa_nil))) (pa_cons (pe_tup (pa_cons pe_str (pa_cons (pe_un un_neg pe_int) pa_nil))) (pa_cons (pe_tup (pa_cons pe_str (pa_cons pe_bl pa_nil))) (pa_cons (pe_tup (pa_cons pe_str (pa_cons (pe_tup (pa_cons pe_str (pa_cons pe_int pa_nil))) pa_nil))) (pa_cons (pe_tup (pa_cons pe_str (pa_cons (pe_tup (pa_cons pe_str (pa_cons pe_int pa_nil))) pa_nil))) (pa_cons (pe_tup (pa_cons pe_str (pa_cons pe_str pa_nil))) pa_nil))))))))
    (pss_cons (ps_set (i := 1) sc__law_bad_source.nd rfl (.inl rfl) (pe_op op_cat (pv 1) (pe_lst (pa_cons (pe_tup (pa_cons pe_str (pa_cons pe_int pa_nil))) (pa_cons (pe_tup (pa_cons pe_str pa_nil)) (pa_cons (pe_tup (pa_cons pe_str (pa_cons (pe_tup (pa_cons pe_str (pa_cons pe_int pa_nil))) pa_nil))) (pa_cons pe_str (pa_cons (pe_tup (pa_cons pe_str (pa_cons (pe_tup (pa_cons pe_str (pa_cons (pe_un un_neg pe_int) pa_nil))) pa_nil))) pa_nil))))))))
    (pss_one (ps_ret (pe_ix (ixL K) (pv 1) (pe_op op_mod (pe_callTy k_int (by rfl) T.b_int (by decide +kernel) (pa_cons (pe_call (ok__law_draw T) (hr.mono (by omega)) (by rfl) T.d__law_draw.m T.d__law_draw.F.kp T.d__law_draw.b .nil pass0 (pa_cons (pv 0) (pa_cons pe_int pa_nil))) pa_nil)) (pe_callB (lenK K) (by rfl) T.b_len PySem.boot_len (pa_cons (pv 1) pa_nil))) (fun _ _ => rfl)))))), ?_⟩
  with_reducible refine w_seq ?_
  with_reducible refine w_asg ?_
  refine run_l (K := K) (S := S) (ds := bsA) ?_ fun p1 vs1 H1 e1 np1 f1 D1 => ?_
  · repeat walk_at "ev"
  with_reducible refine w_name ?_
  with_reducible refine w_seq ?_
  with_reducible refine w_asg ?_
  have al1 := al.ex e1
  refine run_l (K := K) (S := S) (ds := bsA ++ bsB) (ev_cat al1 (ev_lvar (p := p1) (vs := vs1) rfl np1 f1 D1) (ds := bsA) (es := bsB) ?_ (by decide)) fun p2 vs2 H2 e2 np2 f2 D2 => ?_
  · repeat walk_at "ev"
  walk_at "r"
  have bx2 := bx_ex bx (e1.trans e2)
  refine ap_draw bx2 (by decide) fun v H3 v0 _ k3 b3 => ?_
  walk_at "r"
  have p2b : p2 ≠ b := fun z => np2 (z ▸ bS)
  have f3 : H3 p2 = some (.lst vs2) := k3 _ _ (by simpa using p2b) f2
  have D3 := dpa_ex (dl_ks (k3.mono (by simpa using bS))) D2
  have l2 : vs2.length = 11 := dpa_len D2
  refine a_lenL (SqL.of f3) ?_
  walk_at "r"
  rw [l2]
  refine w_I (show (0 : Int) < ((11 : Nat) : Int) by decide) ?_
  obtain ⟨j, ej, hj⟩ := nat_of (v := v % ((11 : Nat) : Int)) (m := ((11 : Nat) : Int)) (Int.emod_nonneg _ (by decide)) (Int.emod_lt_of_pos _ (by decide))
  rw [ej]
  obtain ⟨u, hu⟩ : ∃ u, vs2[j]? = some u := ⟨_, List.getElem?_eq_getElem (by omega)⟩
  obtain ⟨d, hd, du⟩ := dpa_at D3 hu
  refine a_ixL (v := u) (SqL.of f3) (atI_nat hu) ?_
  exact q u d H3 ((Ks.of (e1.trans e2)).trans k3) b3 du (List.mem_of_getElem? hd)
theorem ok__law_spoiled (T : Tx K mg) : FnOk P w K mg base CX0 3 T.a__law_spoiled T.e__law_spoiled p__law_spoiled (pSpoil K) := by
  refine T.d__law_spoiled.F.ok sc__law_spoiled (fun vs H Q E h => ?_) (fun cdv A outer s H vs Q E hr h => ?_)
  · obtain ⟨b, r, p, fs, ss, rfl, _⟩ := h
    rfl
  obtain ⟨b, r, p, tfs, ss0, rfl, bx, hp, ok, nob, q⟩ := h
  refine ⟨_, (pss_cons (ps_setLc (i := 2) (own := [("f", 7)]) (g := gName 7) rfl sc__law_spoiled.nd rfl rfl (sw_true rfl rfl rfl (by decide +kernel)) (plK K (pe_ix (ixL K) (pv 1) pe_int (fun _ _ => rfl))) (blkOk_by (own := [("f", 7)]) (N := n__law_spoiled) (sc := defScope s__law_spoiled) (by decide +kernel)) (fun _ _ _ _ _ => (pg_name (i := 7) sc__law_spoiled.nd rfl (Or.inl rfl))) (fun _ _ _ _ _ => pts_nil) (fun _ _ _ _ _ => (pe_lst (pa_cons (pe_ix (ixL K) (pv 7) pe_int (fun _ _ => rfl)) (pa_cons (pe_callTy (lstK K) (by rfl) T.b_list (by decide +kernel) (pa_cons (pe_ix (ixL K) (pv 7) pe_int (fun _ _ => rfl)) pa_nil)) (pa_cons (pe_callTy (lstK K) (by rfl) T.b_list (by decide +kernel) (pa_cons (pe_ix (ixL K) (pv 7) pe_int (fun _ _ => rfl)) pa_nil)) pa_nil))))))
    (pss_cons (ps_set (i := 3) sc__law_spoiled.nd rfl (.inl rfl) (pe_callTy (lstK K) (by rfl) T.b_list (by decide +kernel) (pa_cons (pe_ix (ixL K) (pv 1) pe_int (fun _ _ => rfl)) pa_nil)))
    (pss_cons (ps_set (i := 4) sc__law_spoiled.nd rfl (.inl rfl) (pe_call (ok__law_draw T) (hr.mono (by omega)) (by rfl) T.d__law_draw.m T.d__law_draw.F.kp T.d__law_draw.b .nil pass0 (pa_cons (pv 0) (pa_cons pe_int pa_nil))))
    (pss_cons (ps_if (pt_cmpR op_eq (pv 4) pe_int (nomark _)) (pss_cons (ps_set (i := 5) sc__law_spoiled.nd rfl (.inl rfl) (pe_ix (ixL K) (pe_lst (pa_cons pe_str (pa_cons pe_str (pa_cons pe_str (pa_cons pe_str (pa_cons pe_str (pa_cons pe_int pa_nil))))))) (pe_call (ok__law_draw T) (hr.mono (by omega)) (by rfl) T.d__law_draw.m T.d__law_draw.F.kp T.d__law_draw.b .nil pass0 (pa_cons (pv 0) (pa_cons pe_int pa_nil))) (fun _ _ => rfl)))
    (pss_one (ps_expr (pe_bm PySem.F.plainAttrs_list PySem.F.slot_list_append PySem.F.type_list_append mt_append (pv 3) (pa_cons (pe_tup (pa_cons pe_str (pa_cons (pv 5) (pa_cons (pe_tup (pa_cons pe_str pa_nil)) (pa_cons (pe_tup (pa_cons pe_str (pa_cons pe_int pa_nil))) pa_nil))))) pa_nil))))) (pss_one (ps_if (pt_cmpR op_eq (pv 4) pe_int (nomark _)) (pss_one (ps_set (i := 3) sc__law_spoiled.nd rfl (.inl rfl) (pe_op op_cat (pv 3) (pe_lst (pa_cons (pe_tup (pa_cons pe_str (pa_cons pe_str (pa_cons (pe_tup (pa_cons pe_str pa_nil)) (pa_cons (pe_tup (pa_cons pe_str (pa_cons pe_int pa_nil))) pa_nil))))) (pa_cons (pe_tup (pa_cons pe_str (pa_cons pe_str (pa_cons (pe_tup (pa_cons pe_str pa_nil)) (pa_cons (pe_tup (pa_cons pe_str (pa_cons pe_int pa_nil))) pa_nil))))) pa_nil)))))) (pss_one (ps_if (pt_cmpR op_eq (pv 4) pe_int (nomark _)) (pss_cons (ps_set (i := 6) sc__law_spoiled.nd rfl (.inl rfl) (pe_lst (pa_cons (pe_tup pa_nil) (pa_cons (pe_op (repAK K) (pe_tup (pa_cons pe_str pa_nil)) pe_int) (pa_cons (pe_lst (pa_cons pe_str pa_nil)) (pa_cons (pe_tup (pa_cons pe_str pa_nil)) (pa_cons pe_str (pa_cons pe_non (pa_cons pe_int (pa_cons (pe_un un_neg pe_int) (pa_cons pe_bl pa_nil)))))))))))
    (pss_one (ps_expr (pe_bm PySem.F.plainAttrs_list PySem.F.slot_list_append PySem.F.type_list_append mt_append (pv 3) (pa_cons (pe_tup (pa_cons pe_str (pa_cons pe_str (pa_cons (pe_ix (ixL K) (pv 6) (pe_op op_mod (pe_callTy k_int (by rfl) T.b_int (by decide +kernel) (pa_cons (pe_call (ok__law_draw T) (hr.mono (by omega)) (by rfl) T.d__law_draw.m T.d__law_draw.F.kp T.d__law_draw.b .nil pass0 (pa_cons (pv 0) (pa_cons pe_int pa_nil))) pa_nil)) (pe_callB (lenK K) (by rfl) T.b_len PySem.boot_len (pa_cons (pv 6) pa_nil))) (fun _ _ => rfl)) (pa_cons (pe_tup (pa_cons pe_str (pa_cons pe_int pa_nil))) pa_nil))))) pa_nil))))) (pss_one (ps_if (pt_cmpR op_eq (pv 4) pe_int (nomark _)) (pss_one (ps_set (i := 3) sc__law_spoiled.nd rfl (.inl rfl) (pe_op op_cat (pv 3) (pe_lst (pa_cons (pe_tup (pa_cons pe_str (pa_cons pe_str (pa_cons (pe_tup (pa_cons pe_str pa_nil)) (pa_cons (pe_tup (pa_cons pe_str (pa_cons pe_int pa_nil))) pa_nil))))) (pa_cons (pe_tup (pa_cons pe_str (pa_cons pe_str (pa_cons pe_int (pa_cons (pe_tup (pa_cons pe_str (pa_cons pe_int pa_nil))) pa_nil))))) pa_nil)))))) (pss_one (ps_if (pt_cmpR op_eq (pv 4) pe_int (nomark _)) (pss_one (ps_expr (pe_bm PySem.F.plainAttrs_list PySem.F.slot_list_append PySem.F.type_list_append mt_append (pv 3) (pa_cons (pe_tup (pa_cons pe_str (pa_cons pe_str (pa_cons (pe_tup (pa_cons pe_str pa_nil)) (pa_cons (pe_call (ok__law_bad_source T) (hr.mono (by omega)) (by rfl) T.d__law_bad_source.m T.d__law_bad_source.F.kp T.d__law_bad_source.b .nil pass0 (pa_cons (pv 0) pa_nil)) pa_nil))))) pa_nil)))) (pss_one (ps_if (pt_cmpR op_eq (pv 4) pe_int (nomark _)) (pss_one (ps_expr (pe_bm PySem.F.plainAttrs_list PySem.F.slot_list_append PySem.F.type_list_append mt_append (pv 3) (pa_cons (pe_tup (pa_cons pe_str (pa_cons (pe_tup (pa_cons pe_str (pa_cons pe_int pa_nil))) (pa_cons (pe_call (ok__law_bad_source T) (hr.mono (by omega)) (by rfl) T.d__law_bad_source.m T.d__law_bad_source.F.kp T.d__law_bad_source.b .nil pass0 (pa_cons (pv 0) pa_nil)) pa_nil)))) pa_nil)))) (pss_one (ps_if (pt_cmpR op_eq (pv 4) pe_int (nomark _)) (pss_one (ps_setLc (i := 3) (own := [("k", 8)]) (g := gName 8) rfl sc__law_spoiled.nd rfl rfl (sw_true rfl rfl rfl (by decide +kernel)) (pi_range1 (by rfl) T.b_range (pa_cons pe_int pa_nil)) (blkOk_by (own := [("k", 8)]) (N := n__law_spoiled) (sc := defScope s__law_spoiled) (by decide +kernel)) (fun _ _ _ _ _ => (pg_name (i := 8) sc__law_spoiled.nd rfl (Or.inl rfl))) (fun _ _ _ _ _ => pts_nil) (fun _ _ _ _ _ => (pe_tup (pa_cons pe_str (pa_cons (pe_tup (pa_cons pe_str (pa_cons pe_int pa_nil))) (pa_cons (pe_tup (pa_cons pe_str pa_nil)) pa_nil))))))) (pss_one (ps_if (pt_cmpR op_eq (pv 4) pe_int (nomark _)) (pss_one (ps_expr (pe_bm PySem.F.plainAttrs_list PySem.F.slot_list_append PySem.F.type_list_append mt_append (pv 3) (pa_cons (pe_tup (pa_cons pe_str (pa_cons pe_str (pa_cons (pe_lst pa_nil) pa_nil)))) pa_nil)))) (pss_one (ps_if (pt_cmpR op_eq (pv 4) pe_int (nomark _)) (pss_cons (ps_set (i := 2) sc__law_spoiled.nd rfl (.inl rfl) (pe_op op_cat (pv 2) (pe_lst (pa_cons (pe_lst (pa_cons pe_str (pa_cons (pe_lst (pa_cons (pe_tup (pa_cons pe_str (pa_cons (pe_tup (pa_cons pe_str pa_nil)) pa_nil))) pa_nil)) (pa_cons (pe_lst pa_nil) pa_nil)))) pa_nil))))
    (pss_one (ps_expr (pe_bm PySem.F.plainAttrs_list PySem.F.slot_list_append PySem.F.type_list_append mt_append (pv 3) (pa_cons (pe_tup (pa_cons pe_str (pa_cons pe_str (pa_cons (pe_ix (ixL K) (pe_lst (pa_cons (pe_lst pa_nil) (pa_cons (pe_lst (pa_cons (pe_tup (pa_cons pe_str pa_nil)) (pa_cons (pe_tup (pa_cons pe_str pa_nil)) pa_nil))) (pa_cons (pe_lst (pa_cons (pe_tup (pa_cons pe_str pa_nil)) (pa_cons pe_int pa_nil))) pa_nil)))) (pe_call (ok__law_draw T) (hr.mono (by omega)) (by rfl) T.d__law_draw.m T.d__law_draw.F.kp T.d__law_draw.b .nil pass0 (pa_cons (pv 0) (pa_cons pe_int pa_nil))) (fun _ _ => rfl)) pa_nil)))) pa_nil))))) (pss_one (ps_if (pt_cmpR op_eq (pv 4) pe_int (nomark _)) (pss_cons (ps_set (i := 2) sc__law_spoiled.nd rfl (.inl rfl) (pe_lst (pa_cons (pe_lst (pa_cons pe_str (pa_cons (pe_lst pa_nil) (pa_cons (pe_lst (pa_cons (pe_tup (pa_cons pe_str (pa_cons (pe_ix (ixL K) (pe_lst (pa_cons pe_str (pa_cons pe_str pa_nil))) (pe_call (ok__law_draw T) (hr.mono (by omega)) (by rfl) T.d__law_draw.m T.d__law_draw.F.kp T.d__law_draw.b .nil pass0 (pa_cons (pv 0) (pa_cons pe_int pa_nil))) (fun _ _ => rfl)) (pa_cons (pe_lst pa_nil) pa_nil)))) pa_nil)) pa_nil)))) (pa_cons (pe_lst (pa_cons pe_str (pa_cons (pe_lst pa_nil) (pa_cons (pe_lst pa_nil) pa_nil)))) pa_nil))))
    (pss_one (ps_set (i := 3) sc__law_spoiled.nd rfl (.inl rfl) (pe_lst pa_nil)))) (pss_one (ps_if (pt_cmpR op_eq (pv 4) pe_int (nomark _)) (pss_cons (ps_setLc (i := 2) (own := [("k", 8)]) (g := gName 8) rfl sc__law_spoiled.nd rfl rfl (sw_true rfl rfl rfl (by decide +kernel)) (pi_range1 (by rfl) T.b_range (pa_cons pe_int pa_nil)) (blkOk_by (own := [("k", 8)]) (N := n__law_spoiled) (sc := defScope s__law_spoiled) (by decide +kernel)) (fun _ _ _ _ _ => (pg_name (i := 8) sc__law_spoiled.nd rfl (Or.inl rfl))) (fun _ _ _ _ _ => pts_nil) (fun _ _ _ _ _ => (pe_lst (pa_cons (pe_op op_add_str pe_str (pe_ix ix_str pe_str (pv 8) (fun _ _ => rfl))) (pa_cons (pe_lst pa_nil) (pa_cons (pe_lst pa_nil) pa_nil))))))
    (pss_one (ps_set (i := 3) sc__law_spoiled.nd rfl (.inl rfl) (pe_lst pa_nil)))) (pss_cons (ps_set (i := 6) sc__law_spoiled.nd rfl (.inl rfl) (pe_lst (pa_cons (pe_tup (pa_cons pe_str (pa_cons (pe_tup (pa_cons pe_str (pa_cons pe_int pa_nil))) pa_nil))) (pa_cons (pe_tup (pa_cons pe_str (pa_cons pe_str (pa_cons (pe_tup (pa_cons pe_str pa_nil)) pa_nil)))) (pa_cons (pe_tup (pa_cons pe_str (pa_cons pe_str pa_nil))) (pa_cons (pe_tup (pa_cons pe_str (pa_cons pe_str (pa_cons (pe_tup (pa_cons pe_str pa_nil)) pa_nil)))) (pa_cons (pe_tup pa_nil) (pa_cons (pe_lst (pa_cons pe_str (pa_cons (pe_tup (pa_cons pe_str (pa_cons pe_int pa_nil))) (pa_cons (pe_tup (pa_cons pe_str pa_nil)) pa_nil)))) pa_nil))))))))
    (pss_one (ps_expr (pe_bm PySem.F.plainAttrs_list PySem.F.slot_list_append PySem.F.type_list_append mt_append (pv 3) (pa_cons (pe_ix (ixL K) (pv 6) (pe_call (ok__law_draw T) (hr.mono (by omega)) (by rfl) T.d__law_draw.m T.d__law_draw.F.kp T.d__law_draw.b .nil pass0 (pa_cons (pv 0) (pa_cons pe_int pa_nil))) (fun _ _ => rfl)) pa_nil))))))))))))))))))))))))))
    (pss_one (ps_ret (pe_lst (pa_cons (pv 2) (pa_cons (pv 3) pa_nil))))))))), ?_⟩
  obtain ⟨_, u1, u2, e, hp2, d1, d2⟩ := dp_l2 hp
  cases e
  have l1 : (List.map tfD tfs).length ≤ 100000 := by rw [List.length_map]; exact Nat.le_trans ok.f4 (by decide)
  have sm1 : smAll (List.map tfD tfs) = true := sm_map fun f hf => sm_tf (ok.fo f hf)
  have sm2 : smAll (List.map stD ss0) = true := sm_map fun s hs => sm_stD (ok.so s hs)
  have ls4 : (List.map stD ss0).length ≤ 40 := by rw [List.length_map]; exact ok.s40
  have lf4 : (tfs.map TF.fd).length ≤ 4 := by rw [List.length_map]; exact ok.f4
  have nob' : ∀ g ∈ tfs.map TF.fd, strD g.n ≠ "nobody" := fun g hg => by
    obtain ⟨f, hf, rfl⟩ := List.mem_map.mp hg
    exact nob f hf
  have etf : List.map tfD tfs = (tfs.map TF.fd).map fdat := by rw [List.map_map]; rfl
  rw [etf] at d1 sm1
  generalize tfs.map TF.fd = fs at d1 sm1 lf4 nob'
  generalize List.map stD ss0 = ss at d2 sm2 ls4
  obtain ⟨pf, xs, rfl, hf, df⟩ := dp_lst d1
  obtain ⟨pb, ys, rfl, hb, db⟩ := dp_lst d2
  have L0 := dl_le [b] H
  have lx : xs.length = fs.length := by rw [dpa_len df, List.length_map]
  have lys : ys.length = ss.length := dpa_len db
  have bb := (bx_some bx).1
  walk_at "r"
  refine a_ixL (v := .ref pf) (ex_sl hp2 L0) (atI_nat (j := 0) rfl) ?_
  walk_at "r"
  refine c_L (ex_sl hf L0) ?_
  refine cp_list (xs := xs) (fun D k h => Ex H h ∧ ∃ acc, h D = some (.lst acc) ∧ DpAll K (dl [D, b] h) acc ((fs.take k).map fdat) ∧ acc.length = k)
    (fun D n => ⟨Ex.new n, [], upd_same, .nil, rfl⟩) (fun D k h _ _ g => ex_sl (ex_sl hf L0) g.1) ?_ ?_
  · rintro D k u h nD hk ⟨eh, acc, fD, DD, la⟩
    obtain ⟨d, hd, du⟩ := dpa_at df hk
    rw [List.getElem?_map] at hd
    cases hg : fs[k]? with
    | none => rw [hg] at hd; cases hd
    | some g =>
    rw [hg] at hd
    cases hd
    have hk1 := at_lt hg
    obtain ⟨pg, w1, w2, w3, rfl, hpg, g1, g2, g3⟩ := dp_l3 du
    obtain ⟨pp, vs2, rfl, hpp, dpp⟩ := dp_lst g2
    obtain ⟨pb2, vs3, rfl, hpb, dpb⟩ := dp_lst g3
    have Lh := L0.trans eh
    walk_at "r"
    refine ⟨rfl, ?_⟩
    walk_at "r"
    refine a_ixL (v := w1) (ex_sl hpg Lh) (atI_nat (j := 0) rfl) ?_
    walk_at "r"
    refine a_ixL (v := .ref pp) (ex_sl hpg Lh) (atI_nat (j := 1) rfl) ?_
    walk_at "r"
    refine a_lstL (ex_sl hpp Lh) fun r1 h1 n1 e1 f1 => ?_
    walk_at "r"
    refine a_ixL (v := .ref pb2) (ex_sl hpg (Lh.trans e1)) (atI_nat (j := 2) rfl) ?_
    walk_at "r"
    refine a_lstL (ex_sl hpb (Lh.trans e1)) fun r2 h2 n2 e2 f2 => ?_
    walk_at "r"
    refine new_lst (by simp) fun t h3 n3 e3 f3 => ?_
    have E13 := (e1.trans e2).trans e3
    have X : Ex (dl [b] H) (dl [D, b] h3) := (dl_new nD (Ex.new nD (o := .lst []))).trans (by
      have : Ex (dl [D, b] (upd H D (.lst []))) (dl [D, b] h3) := fun a o ha => by
        by_cases z : a ∈ [D, b]
        · rw [dl_in z] at ha; cases ha
        · rw [dl_nin z] at ha ⊢
          rw [upd_ne (fun y => z (by rw [y]; simp))] at ha
          exact E13 _ _ (eh _ _ ha)
      exact this)
    have al : Al [D, b] h := (Al.nil.cons (show h b = some ((h b).get (by
      cases z : h b with
      | none => exact absurd (ex_none eh z) bb
      | some o => rfl)) by simp)).cons fD
    have r1S := al.nin n1
    have r2S := (al.ex e1).nin n2
    have tS := ((al.ex e1).ex e2).nin n3
    refine ⟨acc, E13 _ _ fD, sz_lt (by omega), (eh.trans E13).mut nD, acc ++ [.ref t], upd_same, ?_, by rw [List.length_append, la]; rfl⟩
    rw [dl_upd (by simp), take_snoc hg, List.map_append]
    exact dpa_snoc (dpa_ex (dl_ex E13) DD) (.lst (SqL.of (dl_at tS f3)) (.cons (dp_ex X g1) (.cons (.lst (SqL.of (dl_at r1S (e3 _ _ (e2 _ _ f1)))) (dpa_ex X dpp)) (.cons (.lst (SqL.of (dl_at r2S (e3 _ _ f2))) (dpa_ex X dpb)) .nil))))
  rintro D h nD ⟨eh, acc, fD, DD, la⟩
  rw [lx, List.take_length] at DD
  walk_at "r"
  refine a_ixL (v := .ref pb) (ex_sl hp2 (L0.trans eh)) (atI_nat (j := 1) rfl) ?_
  walk_at "r"
  refine a_lstL (ex_sl hb (L0.trans eh)) fun rw1 h1 n1 e1 f1 => ?_
  walk_at "r"
  have eh1 := eh.trans e1
  refine ap_draw (bx_ex bx eh1) (by decide) fun v2 h2 v20 v212 k2 b2 => ?_
  walk_at "r"
  have Db : D ≠ b := fun z => bb (by rw [← z]; exact nD)
  have rwb : rw1 ≠ b := fun z => bb (by rw [← z]; exact ex_none eh n1)
  have Drw : D ≠ rw1 := ne_old fD n1
  have rwH : H rw1 = none := ex_none eh n1
  have KH : Ks [b] H h2 := (Ks.of eh1).trans k2
  have fD2 : h2 D = some (.lst acc) := k2 _ _ (by simpa using Db) (e1 _ _ fD)
  have fr2 : h2 rw1 = some (.lst ys) := k2 _ _ (by simpa using rwb) f1
  -- functions and rows, apart from the box and the rows' own list
  have XD : Ex (dl [D, b] h) (dl [rw1, b] h2) := fun a o ha => by
    by_cases z : a ∈ [D, b]
    · rw [dl_in z] at ha; cases ha
    · rw [dl_nin z] at ha
      have na : a ≠ rw1 := ne_of_none ha n1
      have nb : a ≠ b := fun y => z (by rw [y]; simp)
      rw [dl_nin (by simpa using ⟨na, nb⟩)]
      exact k2 _ _ (by simpa using nb) (e1 _ _ ha)
  have FD2 : DpAll K (dl [rw1, b] h2) acc (fs.map fdat) := dpa_ex XD DD
  have XR : Ex (dl [b] H) (dl [rw1, b] h2) := fun a o ha => by
    by_cases z : a ∈ [b]
    · rw [dl_in z] at ha; cases ha
    · rw [dl_nin z] at ha
      have na : a ≠ rw1 := ne_of_none ha rwH
      have nb : a ≠ b := fun y => z (by rw [y]; simp)
      rw [dl_nin (by simpa using ⟨na, nb⟩)]
      exact KH _ _ (by simpa using nb) ha
  have RD2 : DpAll K (dl [rw1, b] h2) ys ss := dpa_ex XR db
  have al2 : Al [rw1, b] h2 := (Al.nil.cons (show h2 b = some ((h2 b).get (by
      cases z : h2 b with
      | none => exact absurd z (bx_some b2).1
      | some o => rfl)) by simp)).cons fr2
  have lfs : (fs.map fdat).length ≤ 100000 := by rw [List.length_map]; omega
  have S2 : Ex (dl [rw1, b] h2) (dl [b] h2) := dl_sub (by simp)
  -- the end: a list of both
  have fin : ∀ (h3 : Hp) (pf3 pr3 : Addr) (as rs : List V) (fs3 : List FD) (ss3 : List PyData), Ks [b] H h3 → Bx h3 b r → pf3 ≠ b → pr3 ≠ b → h3 pf3 = some (.lst as) → h3 pr3 = some (.lst rs) → DpAll K (dl [b] h3) as (fs3.map fdat) → DpAll K (dl [b] h3) rs ss3 →
      smAll (fs3.map fdat) = true → smAll ss3 = true → fs3.length ≤ 100 → ss3.length ≤ 100 → progD fs3 ss3 = false → ∀ t h4, h3 t = none → Ex h3 h4 → h4 t = some (.lst [.ref pf3, .ref pr3]) → Q (.ref t) h4 := fun h3 pf3 pr3 as rs fs3 ss3 k3 b3 fb rb g1 g2 g3 g4 s1 s2 z1 z2 pn t h4 n4 e4 f4 => by
    have tb : t ∉ [b] := by simpa using (bx_nb b3 n4).symm
    refine q (.ref t) fs3 ss3 h4 (k3.trans (Ks.of e4)) (bx_ex b3 e4) ⟨.lst (SqL.of (dl_at tb f4)) (.cons (.lst (SqL.of (dl_at (by simpa using fb) (e4 _ _ g1))) (dpa_ex (dl_ex e4) g3)) (.cons (.lst (SqL.of (dl_at (by simpa using rb) (e4 _ _ g2))) (dpa_ex (dl_ex e4) g4)) .nil)), ?_⟩ pn
    exact sm_lst (and_t (sm_lst s1 (by rw [List.length_map]; omega)) (and_t (sm_lst s2 (by omega)) rfl)) (by simp)
  -- behind rows.append(..)
  have app : ∀ (h3 : Hp) (pf3 : Addr) (as : List V) (fs3 : List FD) (v : V) (d : PyData), Ks [b] H h3 → Bx h3 b r → pf3 ≠ b → pf3 ≠ rw1 → h3 pf3 = some (.lst as) → h3 rw1 = some (.lst ys) → DpAll K (dl [rw1, b] h3) as (fs3.map fdat) → DpAll K (dl [rw1, b] h3) ys ss → Dp K (dl [rw1, b] h3) v d →
      smAll (fs3.map fdat) = true → smD d = true → fs3.length ≤ 100 → progD fs3 (ss ++ [d]) = false → ∀ t h6, upd h3 rw1 (.lst (ys ++ [v])) t = none → Ex (upd h3 rw1 (.lst (ys ++ [v]))) h6 → h6 t = some (.lst [.ref pf3, .ref rw1]) → Q (.ref t) h6 := fun h3 pf3 as fs3 v d k3 b3 fb frw g1 g2 g3 g4 g5 s1 s2 z1 pn => by
    have dU : dl [rw1, b] (upd h3 rw1 (.lst (ys ++ [v]))) = dl [rw1, b] h3 := dl_upd (by simp)
    have S5 : Ex (dl [rw1, b] h3) (dl [b] (upd h3 rw1 (.lst (ys ++ [v])))) := by
      rw [← dU]
      exact dl_sub (by simp)
    refine fin _ pf3 rw1 as (ys ++ [v]) fs3 (ss ++ [d]) ?_ ?_ fb rwb ?_ upd_same (dpa_ex S5 g3) (dpa_snoc (dpa_ex S5 g4) (dp_ex S5 g5)) s1 (sm_app sm2 (and_t s2 rfl)) z1 (by rw [List.length_append]; simp; omega) pn
    · exact fun a o na ha => by
        rw [upd_ne (ne_old ha rwH)]
        exact k3 _ _ na ha
    · exact bx_ks b3 (S := [rw1]) ((Ks.refl _ _).upd (by simp)) (by simpa using rwb.symm) (by
        rw [List.mem_singleton]
        exact fun z => (bx_some bx).2 (by rw [z]; exact rwH))
    · rw [upd_ne frw]
      exact g1
  have kx : ∀ {h3 : Hp}, Ks [b] h2 h3 → Ks [b] H h3 := fun k => KH.trans k
  have x23 : ∀ {h3 : Hp}, Ks [b] h2 h3 → Ex (dl [rw1, b] h2) (dl [rw1, b] h3) := fun k => dl_ks (k.mono (by simp))
  have fD3 : ∀ {h3 : Hp}, Ks [b] h2 h3 → h3 D = some (.lst acc) := fun k => k _ _ (by simpa using Db) fD2
  have fr3 : ∀ {h3 : Hp}, Ks [b] h2 h3 → h3 rw1 = some (.lst ys) := fun k => k _ _ (by simpa using rwb) fr2
  have al3 : ∀ {h3 : Hp}, Ks [b] h2 h3 → Bx h3 b r → Al [rw1, b] h3 := fun k b3 => al2.bx k b3
  -- .. with the functions as they were
  have app0 : ∀ (h3 : Hp) (v : V) (d : PyData), Ks [b] h2 h3 → Bx h3 b r → Dp K (dl [rw1, b] h3) v d → smD d = true → progD fs (ss ++ [d]) = false → ∀ t h6, upd h3 rw1 (.lst (ys ++ [v])) t = none → Ex (upd h3 rw1 (.lst (ys ++ [v]))) h6 → h6 t = some (.lst [.ref D, .ref rw1]) → Q (.ref t) h6 := fun h3 v d k3 b3 dv sd pn =>
    app h3 D acc fs v d (kx k3) b3 Db Drw (fD3 k3) (fr3 k3) (dpa_ex (x23 k3) FD2) (dpa_ex (x23 k3) RD2) dv sm1 sd (by omega) pn
  have alb : Al [b] h2 := fun a ha => al2 a (by simp at ha; simp [ha])
  have nDb : D ∉ [b] := by simpa using Db
  have nrb : rw1 ∉ [b] := by simpa using rwb
  have FDb := dpa_ex S2 FD2
  have RDb := dpa_ex S2 RD2
  refine ite2 (fun c => ?_) (fun c => ?_)
  · -- a name
    with_reducible refine w_seq ?_
    with_reducible refine w_asg ?_
    with_reducible refine w_op ?_
    refine run_l (K := K) (S := [rw1, b]) (ds := bnY) ?_ fun p3 vs3 h3 e3 np3 f3 D3 => ?_
    · repeat walk_at "ev"
    walk_at "r"
    have k3 := Ks.of (S := [b]) e3
    have b3 := bx_ex b2 e3
    refine ap_draw b3 (by decide) fun v4 h4 v40 v46 k4 b4 => ?_
    walk_at "r"
    obtain ⟨j, rfl, hj⟩ := nat_of v40 v46
    have k24 := k3.trans k4
    have f4 : h4 p3 = some (.lst vs3) := k4 _ _ (by simp at np3; simpa using np3.2) f3
    have D4 := dpa_ex (dl_ks (k4.mono (by simp))) D3
    have l3 : vs3.length = 6 := dpa_len D3
    obtain ⟨u, hu⟩ : ∃ u, vs3[j]? = some u := ⟨_, List.getElem?_eq_getElem (by omega)⟩
    obtain ⟨d, hd, du⟩ := dpa_at D4 hu
    obtain ⟨g1, g2⟩ := bn_bad d (List.mem_of_getElem? hd)
    refine a_ixL (v := u) (SqL.of f4) (atI_nat hu) ?_
    with_reducible refine w_name ?_
    with_reducible refine w_drop ?_
    with_reducible refine w_BM ?_
    walk_at "r"
    refine ⟨a_ty (fr3 k24), ?_⟩
    with_reducible refine w_cons ?_
    have al4 := al3 k24 b4
    refine run_d (K := K) (S := [rw1, b]) (d := .tuple [.str "let", d, rwY, n0Y]) ?_ fun v5 h5 e5 d5 => ?_
    · repeat walk_at "ev"
    walk_at "r"
    have k25 := k24.trans (Ks.of e5)
    refine a_app (fr3 k25) (by omega) ?_
    walk_at "r"
    refine new_lst (by simp) fun t h6 n6 e6 f6 => ?_
    exact app0 h5 v5 _ k25 (bx_ex b4 e5) d5 (sm_tup (and_t (by decide) (and_t g2 (by decide))) (by simp)) (pb1 g1) t h6 n6 e6 f6
  with_reducible refine w_if ?_
  walk_at "r"
  refine ite2 (fun c => ?_) (fun c => ?_)
  · -- a name twice
    with_reducible refine w_asg ?_
    refine run_l (K := K) (S := [b]) (ds := ss ++ [.tuple [.str "let", .str "zy", rwY, n0Y], .tuple [.str "let", .str "zy", .tuple [.str "r"], n0Y]]) (ev_cat alb (ev_lvar (p := rw1) (vs := ys) rfl nrb fr2 RDb) ?_ (by simp; omega)) fun p3 vs3 h3 e3 np3 f3 D3 => ?_
    · repeat walk_at "ev"
    walk_at "r"
    refine new_lst (by simp) fun t h6 n6 e6 f6 => ?_
    exact fin h3 D p3 acc vs3 fs _ (kx (Ks.of e3)) (bx_ex b2 e3) Db (by simpa using np3) (e3 _ _ fD2) f3 (dpa_ex (dl_ex e3) FDb) D3 sm1 (sm_app sm2 (by decide)) (by omega) (by rw [List.length_append]; simp; omega) (pb2 fs ss) t h6 n6 e6 f6
  with_reducible refine w_if ?_
  walk_at "r"
  refine ite2 (fun c => ?_) (fun c => ?_)
  · -- a type that is none
    with_reducible refine w_seq ?_
    with_reducible refine w_asg ?_
    refine run_l (K := K) (S := [rw1, b]) (ds := btY) ?_ fun p3 vs3 h3 e3 np3 f3 D3 => ?_
    · refine ev_lst al2 (ev_cons ?_ (ev_cons ?_ ?_)) (by decide)
      · repeat walk_at "ev"
      · refine ev_rep7 (fun a ha => ?_) ?_
        · simp only [List.mem_cons, List.not_mem_nil, or_false] at ha
          rcases ha with rfl | rfl
          · exact ⟨_, fr2⟩
          · obtain ⟨nb0, ns0, fb2, _⟩ := id b2
            exact ⟨_, fb2⟩
        repeat walk_at "ev"
      · repeat walk_at "ev"
    with_reducible refine w_name ?_
    with_reducible refine w_drop ?_
    with_reducible refine w_BM ?_
    walk_at "r"
    have k3 := Ks.of (S := [b]) e3
    have b3 := bx_ex b2 e3
    refine ⟨a_ty (fr3 k3), ?_⟩
    walk_at "r"
    refine ap_draw b3 (by decide) fun v4 h4 v40 v46 k4 b4 => ?_
    walk_at "r"
    have k24 := k3.trans k4
    have f4 : h4 p3 = some (.lst vs3) := k4 _ _ (by simp at np3; simpa using np3.2) f3
    have D4 := dpa_ex (dl_ks (k4.mono (by simp))) D3
    have l3 : vs3.length = 9 := dpa_len D3
    refine a_lenL (SqL.of f4) ?_
    walk_at "r"
    rw [l3]
    refine w_I (show (0 : Int) < ((9 : Nat) : Int) by decide) ?_
    obtain ⟨j, ej, hj⟩ := nat_of (v := v4 % ((9 : Nat) : Int)) (m := ((9 : Nat) : Int)) (Int.emod_nonneg _ (by decide)) (Int.emod_lt_of_pos _ (by decide))
    rw [ej]
    obtain ⟨u, hu⟩ : ∃ u, vs3[j]? = some u := ⟨_, List.getElem?_eq_getElem (by omega)⟩
    obtain ⟨d, hd, du⟩ := dpa_at D4 hu
    obtain ⟨g1, g2⟩ := bt_bad d (List.mem_of_getElem? hd)
    refine a_ixL (v := u) (SqL.of f4) (atI_nat hu) ?_
    walk_at "r"
    refine new_tup (by simp) fun t1 h5 n5 e5 f5 => ?_
    walk_at "r"
    refine new_tup (by simp) fun t2 h6 n6 e6 f6 => ?_
    walk_at "r"
    have al4 := al3 k24 b4
    have k26 := k24.trans (Ks.of (e5.trans e6))
    have d6 : Dp K (dl [rw1, b] h6) (.ref t2) (.tuple [.str "let", .str "zy", d, n0Y]) := Dp.in f6 ((al4.ex e5).nin n6) (.cons (.str _) (.cons (.str _) (.cons (dp_ex (dl_ex (e5.trans e6)) du) (.cons (Dp.in (e6 _ _ f5) (al4.nin n5) (.cons (.str _) (.cons (.int _) .nil))) .nil))))
    refine a_app (fr3 k26) (by omega) ?_
    walk_at "r"
    refine new_lst (by simp) fun t h7 n7 e7 f7 => ?_
    exact app0 h6 (.ref t2) _ k26 (bx_ex b4 (e5.trans e6)) d6 (sm_tup (and_t (by decide) (and_t (by decide) (and_t g2 (by decide)))) (by simp)) (pb1 g1) t h7 n7 e7 f7
  with_reducible refine w_if ?_
  walk_at "r"
  refine ite2 (fun c => ?_) (fun c => ?_)
  · -- types beside numbers
    with_reducible refine w_asg ?_
    refine run_l (K := K) (S := [b]) (ds := ss ++ [.tuple [.str "let", .str "zx", rwY, n0Y], .tuple [.str "let", .str "zy", .int 0, n0Y]]) (ev_cat alb (ev_lvar (p := rw1) (vs := ys) rfl nrb fr2 RDb) ?_ (by simp; omega)) fun p3 vs3 h3 e3 np3 f3 D3 => ?_
    · repeat walk_at "ev"
    walk_at "r"
    refine new_lst (by simp) fun t h6 n6 e6 f6 => ?_
    exact fin h3 D p3 acc vs3 fs _ (kx (Ks.of e3)) (bx_ex b2 e3) Db (by simpa using np3) (e3 _ _ fD2) f3 (dpa_ex (dl_ex e3) FDb) D3 sm1 (sm_app sm2 (by decide)) (by omega) (by rw [List.length_append]; simp; omega) (pb3 fs ss) t h6 n6 e6 f6
  with_reducible refine w_if ?_
  walk_at "r"
  refine ite2 (fun c => ?_) (fun c => ?_)
  · -- a source that is none, of a let
    walk_at "r"
    refine ⟨a_ty fr2, ?_⟩
    walk_at "r"
    refine new_tup (by simp) fun t1 h3 n3 e3 f3 => ?_
    walk_at "r"
    have k3 := Ks.of (S := [b]) e3
    have b3 := bx_ex b2 e3
    have al3' := al3 k3 b3
    have rS : r ∉ [rw1, b] := by
      simp only [List.mem_cons, List.not_mem_nil, or_false, not_or]
      exact ⟨fun z => (bx_some bx).2 (by rw [z]; exact rwH), bx_rb bx⟩
    refine ⟨[rw1, b], b, r, rfl, b3, by simp, rS, al3', fun v d h4 k4 b4 dv hd => ?_⟩
    walk_at "r"
    refine new_tup (by simp) fun t2 h5 n5 e5 f5 => ?_
    walk_at "r"
    obtain ⟨⟨g1, _⟩, g2⟩ := bs_bad d hd
    have k25 := (k3.trans k4).trans (Ks.of e5)
    have d5 : Dp K (dl [rw1, b] h5) (.ref t2) (.tuple [.str "let", .str "zy", rwY, d]) := Dp.in f5 ((al3 (k3.trans k4) b4).nin n5) (.cons (.str _) (.cons (.str _) (.cons (dp_ex ((dl_ks (k4.mono (by simp))).trans (dl_ex e5)) (Dp.in f3 (al2.nin n3) (.cons (.str _) .nil))) (.cons (dp_ex (dl_ex e5) dv) .nil))))
    refine a_app (fr3 k25) (by omega) ?_
    walk_at "r"
    refine new_lst (by simp) fun t h7 n7 e7 f7 => ?_
    exact app0 h5 (.ref t2) _ k25 (bx_ex b4 e5) d5 (sm_tup (and_t (by decide) (and_t (by decide) (and_t (by decide) (and_t g2 rfl)))) (by simp)) (pb1 g1) t h7 n7 e7 f7
  with_reducible refine w_if ?_
  walk_at "r"
  refine ite2 (fun c => ?_) (fun c => ?_)
  · -- a source that is none, of a put
    walk_at "r"
    refine ⟨a_ty fr2, ?_⟩
    walk_at "r"
    refine new_tup (by simp) fun t1 h3 n3 e3 f3 => ?_
    walk_at "r"
    have k3 := Ks.of (S := [b]) e3
    have b3 := bx_ex b2 e3
    have al3' := al3 k3 b3
    have rS : r ∉ [rw1, b] := by
      simp only [List.mem_cons, List.not_mem_nil, or_false, not_or]
      exact ⟨fun z => (bx_some bx).2 (by rw [z]; exact rwH), bx_rb bx⟩
    refine ⟨[rw1, b], b, r, rfl, b3, by simp, rS, al3', fun v d h4 k4 b4 dv hd => ?_⟩
    walk_at "r"
    refine new_tup (by simp) fun t2 h5 n5 e5 f5 => ?_
    walk_at "r"
    obtain ⟨⟨_, g1⟩, g2⟩ := bs_bad d hd
    have k25 := (k3.trans k4).trans (Ks.of e5)
    have d5 : Dp K (dl [rw1, b] h5) (.ref t2) (.tuple [.str "put", ux0, d]) := Dp.in f5 ((al3 (k3.trans k4) b4).nin n5) (.cons (.str _) (.cons (dp_ex ((dl_ks (k4.mono (by simp))).trans (dl_ex e5)) (Dp.in f3 (al2.nin n3) (.cons (.str _) (.cons (.int _) .nil)))) (.cons (dp_ex (dl_ex e5) dv) .nil)))
    refine a_app (fr3 k25) (by omega) ?_
    walk_at "r"
    refine new_lst (by simp) fun t h7 n7 e7 f7 => ?_
    exact app0 h5 (.ref t2) _ k25 (bx_ex b4 e5) d5 (sm_tup (and_t (by decide) (and_t (by decide) (and_t g2 rfl))) (by simp)) (pb1 g1) t h7 n7 e7 f7
  with_reducible refine w_if ?_
  walk_at "r"
  refine ite2 (fun c => ?_) (fun c => ?_)
  · -- too many statements
    obtain ⟨nb0, ns0, fb2, _⟩ := id b2
    walk_at "r"
    refine c_R1 (by omega) ?_
    refine run_comp (K := K) (po := b) (n := 41) (f := fun _ => .tuple [.str "put", ux0, nlY]) fb2 (by omega) (fun _ => rfl) (fun l h k hk e al => ?_) fun l7 ws7 h7 n7 e7 f7 L7 => ?_
    · repeat walk_at "ev"
    walk_at "r"
    refine new_lst (by simp) fun t h8 n8 e8 f8 => ?_
    obtain ⟨l7b, vs7, f7', D7⟩ := L7
    have er : (List.range 41).map (fun _ => PyData.tuple [.str "put", ux0, nlY]) = List.replicate 41 (.tuple [.str "put", ux0, nlY]) := by rw [List.map_const', List.length_range]
    rw [er] at D7
    exact fin h7 D l7 acc vs7 fs _ (kx (Ks.of e7)) (bx_ex b2 e7) Db l7b (e7 _ _ fD2) f7' (dpa_ex (dl_ex e7) FDb) D7 sm1 (by decide +kernel) (by omega) (by rw [List.length_replicate]; decide) (pb4 fs _) t h8 n8 e8 f8
  with_reducible refine w_if ?_
  walk_at "r"
  refine ite2 (fun c => ?_) (fun c => ?_)
  · -- a call of nobody
    walk_at "r"
    refine ⟨a_ty fr2, ?_⟩
    walk_at "r"
    refine new_lst (by simp) fun t1 h3 n3 e3 f3 => ?_
    walk_at "r"
    refine new_tup (by simp) fun t2 h4 n4 e4 f4 => ?_
    walk_at "r"
    have k24 := Ks.of (S := [b]) (e3.trans e4)
    have d4 : Dp K (dl [rw1, b] h4) (.ref t2) (clY "nobody" []) := Dp.in f4 ((al2.ex e3).nin n4) (.cons (.str _) (.cons (.str _) (.cons (Dp.inL (e4 _ _ f3) (al2.nin n3) .nil) .nil)))
    refine a_app (fr3 k24) (by omega) ?_
    walk_at "r"
    refine new_lst (by simp) fun t h7 n7 e7 f7 => ?_
    exact app0 h4 (.ref t2) _ k24 (bx_ex b2 (e3.trans e4)) d4 (by decide +kernel) (pb5 nob') t h7 n7 e7 f7
  with_reducible refine w_if ?_
  walk_at "r"
  refine ite2 (fun c => ?_) (fun c => ?_)
  · -- another number of sources
    with_reducible refine w_seq ?_
    with_reducible refine w_asg ?_
    refine run_l (K := K) (S := [rw1, b]) (ds := fs.map fdat ++ [fdat fzY]) (ev_cat al2 (ev_lvar (p := D) (vs := acc) rfl (by simpa using ⟨Drw, Db⟩) fD2 FD2) ?_ (by rw [List.length_map]; simp; omega)) fun p3 vs3 h3 e3 np3 f3 D3 => ?_
    · show EvL K [rw1, b] _ h2 _ [.list [.str "fz", .list [.tuple [.str "zw", rwY]], .list []]]
      repeat walk_at "ev"
    with_reducible refine w_name ?_
    with_reducible refine w_drop ?_
    with_reducible refine w_BM ?_
    walk_at "r"
    have k3 := Ks.of (S := [b]) e3
    have b3 := bx_ex b2 e3
    have al3' := al3 k3 b3
    have p3b : p3 ≠ b := fun z => np3 (by simp [z])
    have p3rw : p3 ≠ rw1 := fun z => np3 (by simp [z])
    refine ⟨a_ty (fr3 k3), ?_⟩
    with_reducible refine w_cons ?_
    with_reducible refine w_tup ?_
    with_reducible refine w_cons ?_
    with_reducible refine w_c ?_
    with_reducible refine w_cons ?_
    with_reducible refine w_c ?_
    with_reducible refine w_cons ?_
    with_reducible refine w_op ?_
    refine run_l (K := K) (S := [rw1, b]) (ds := [.list [], .list [nlY, nlY], .list [nlY, .int 5]]) ?_ fun p4 vs4 h4 e4 np4 f4 D4 => ?_
    · repeat walk_at "ev"
    walk_at "r"
    have k4 := k3.trans (Ks.of e4)
    have b4 := bx_ex b3 e4
    refine ap_draw b4 (by decide) fun v5 h5 v50 v53 k5 b5 => ?_
    walk_at "r"
    obtain ⟨j, rfl, hj⟩ := nat_of v50 v53
    have k25 := k4.trans k5
    have f5 : h5 p4 = some (.lst vs4) := k5 _ _ (by simp at np4; simpa using np4.2) f4
    have D5 := dpa_ex (dl_ks (k5.mono (by simp))) D4
    have l4 : vs4.length = 3 := dpa_len D4
    obtain ⟨u, hu⟩ : ∃ u, vs4[j]? = some u := ⟨_, List.getElem?_eq_getElem (by omega)⟩
    obtain ⟨d, hd, du⟩ := dpa_at D5 hu
    have hdd : progD (fs ++ [fzY]) (ss ++ [.tuple [.str "call", .str "fz", d]]) = false ∧ smD d = true := by
      have : j = 0 ∨ j = 1 ∨ j = 2 := by omega
      rcases this with rfl | rfl | rfl
      · cases hd
        exact ⟨pb6 (by simp), by decide +kernel⟩
      · cases hd
        exact ⟨pb6 (by simp), by decide +kernel⟩
      · cases hd
        exact ⟨pb1 (by decide +kernel), by decide +kernel⟩
    refine a_ixL (v := u) (SqL.of f5) (atI_nat hu) ?_
    walk_at "r"
    refine new_tup (by simp) fun t2 h6 n6 e6 f6 => ?_
    walk_at "r"
    have k26 := k25.trans (Ks.of e6)
    have d6 : Dp K (dl [rw1, b] h6) (.ref t2) (.tuple [.str "call", .str "fz", d]) := Dp.in f6 ((al3 k25 b5).nin n6) (.cons (.str _) (.cons (.str _) (.cons (dp_ex (dl_ex e6) du) .nil)))
    refine a_app (fr3 k26) (by omega) ?_
    walk_at "r"
    refine new_lst (by simp) fun t h7 n7 e7 f7 => ?_
    have k36 : Ks [b] h3 h6 := ((Ks.of e4).trans k5).trans (Ks.of e6)
    have f36 : h6 p3 = some (.lst vs3) := k36 _ _ (by simpa using p3b) f3
    have D36 : DpAll K (dl [rw1, b] h6) vs3 ((fs ++ [fzY]).map fdat) := by
      rw [List.map_append]
      exact dpa_ex (dl_ks (k36.mono (by simp))) D3
    exact app h6 p3 vs3 (fs ++ [fzY]) (.ref t2) _ (kx k26) (bx_ex b5 e6) p3b p3rw f36 (fr3 k26) D36 (dpa_ex (x23 k26) RD2) d6 (by rw [List.map_append]; exact sm_app sm1 (by decide +kernel)) (sm_tup (and_t (by decide) (and_t (by decide) (and_t hdd.2 rfl))) (by simp)) (by rw [List.length_append]; simp; omega) hdd.1 t h7 n7 e7 f7
  with_reducible refine w_if ?_
  walk_at "r"
  refine ite2 (fun c => ?_) (fun c => ?_)
  · -- later functions
    walk_at "r"
    refine new_lst (xs := []) (by simp) fun q1 h3 n3 e3 f3 => ?_
    walk_at "r"
    refine new_lst (by simp) fun q2 h4 n4 e4 f4 => ?_
    walk_at "r"
    have e24 := e3.trans e4
    have b4 := bx_ex b2 e24
    refine ap_draw b4 (by decide) fun v5 h5 v50 v52 k5 b5 => ?_
    walk_at "r"
    obtain ⟨j, rfl, hj⟩ := nat_of v50 v52
    have k25 := (Ks.of (S := [b]) e24).trans k5
    have nb : ∀ {x : Addr} {h' : Hp}, Ks [b] h2 h' → h' x = none → Bx h' b r → x ≠ b := fun k n bx z => (bx_some bx).1 (by rw [← z]; exact n)
    have q1b : q1 ≠ b := nb (Ks.refl _ _) n3 b2
    have q2b : q2 ≠ b := (bx_nb (bx_ex b2 e3) n4).symm
    have f5 : h5 q2 = some (.lst [.str "fz", .str "fy"]) := k5 _ _ (by simpa using q2b) f4
    have g1 : h5 q1 = some (.lst []) := k5 _ _ (by simpa using q1b) (e4 _ _ f3)
    obtain ⟨nm, hnm, hn⟩ : ∃ nm : Str, [V.str "fz", V.str "fy"][j]? = some (.str nm) ∧ progD (f9Y nm) [] = false ∧ smAll ((f9Y nm).map fdat) = true := by
      have : j = 0 ∨ j = 1 := by omega
      rcases this with rfl | rfl
      · exact ⟨"fz", rfl, pb9.1, by decide +kernel⟩
      · exact ⟨"fy", rfl, pb9.2, by decide +kernel⟩
    refine a_ixL (v := .str nm) (SqL.of f5) (atI_nat hnm) ?_
    walk_at "r"
    refine new_lst (xs := []) (by simp) fun q3 h6 n6 e6 f6 => ?_
    walk_at "r"
    refine new_tup (by simp) fun q4 h7 n7 e7 f7 => ?_
    walk_at "r"
    refine new_lst (by simp) fun q5 h8 n8 e8 f8 => ?_
    walk_at "r"
    refine new_lst (by simp) fun q6 h9 n9 e9 f9 => ?_
    walk_at "r"
    refine new_lst (xs := []) (by simp) fun q7 h10 n10 e10 f10 => ?_
    walk_at "r"
    refine new_lst (xs := []) (by simp) fun q8 h11 n11 e11 f11 => ?_
    walk_at "r"
    refine new_lst (by simp) fun q9 h12 n12 e12 f12 => ?_
    walk_at "r"
    refine new_lst (by simp) fun q10 h13 n13 e13 f13 => ?_
    walk_at "r"
    refine new_lst (xs := []) (by simp) fun q11 h14 n14 e14 f14 => ?_
    walk_at "r"
    refine new_lst (by simp) fun t h15 n15 e15 f15 => ?_
    have b6 := bx_ex b5 e6
    have b7 := bx_ex b6 e7
    have b8 := bx_ex b7 e8
    have b9 := bx_ex b8 e9
    have b10 := bx_ex b9 e10
    have b11 := bx_ex b10 e11
    have b12 := bx_ex b11 e12
    have b13 := bx_ex b12 e13
    have b14 := bx_ex b13 e14
    have m : ∀ {x : Addr} {h' : Hp}, Bx h' b r → h' x = none → x ∉ [b] := fun bx n => by simpa using (bx_nb bx n).symm
    have E13 := e13.trans e14
    have E12 := e12.trans E13
    have E11 := e11.trans E12
    have E10 := e10.trans E11
    have E9 := e9.trans E10
    have E8 := e8.trans E9
    have E7 := e7.trans E8
    have E6 := e6.trans E7
    have dcl : Dp K (dl [b] h14) (.ref q4) (clY nm []) := Dp.in (E8 _ _ f7) (m b6 n7) (.cons (.str _) (.cons (.str _) (.cons (Dp.inL (E7 _ _ f6) (m b5 n6) .nil) .nil)))
    have D13 : DpAll K (dl [b] h14) [.ref q6, .ref q9] ((f9Y nm).map fdat) := .cons (Dp.inL (E10 _ _ f9) (m b8 n9) (.cons (.str _) (.cons (Dp.inL (E6 _ _ g1) (by simpa using q1b) .nil) (.cons (Dp.inL (E9 _ _ f8) (m b7 n8) (.cons dcl .nil)) .nil)))) (.cons (Dp.inL (E13 _ _ f12) (m b11 n12) (.cons (.str _) (.cons (Dp.inL (E11 _ _ f10) (m b9 n10) .nil) (.cons (Dp.inL (E12 _ _ f11) (m b10 n11) .nil) .nil)))) .nil)
    exact fin h14 q10 q11 _ _ (f9Y nm) [] (kx (k25.trans (Ks.of E6))) b14 (bx_nb b12 n13).symm (bx_nb b13 n14).symm (e14 _ _ f13) f14 D13 .nil hn.2 rfl (by simp) (by simp) hn.1 t h15 n15 e15 f15
  with_reducible refine w_if ?_
  walk_at "r"
  refine ite2 (fun c => ?_) (fun c => ?_)
  · -- five functions
    obtain ⟨nb0, ns0, fb2, _⟩ := id b2
    walk_at "r"
    refine c_R1 (by omega) ?_
    refine run_comp (K := K) (po := b) (n := 5) (f := fun k => fdat (faY k)) fb2 (by omega) (fun _ => rfl) (fun l h k hk e al => ?_) fun l7 ws7 h7 n7 e7 f7 L7 => ?_
    · refine (show EvD K [l, b] _ h _ (.list [.str ("f" ++ ⟨#[("abcde" : Str).cps.toList.getD k 0]⟩), .list [], .list []]) from ?_)
      refine ev_ll (ev_lst al (ev_cons (ev_sx rfl (by decide) (by decide) (at_abcdeY hk)) ?_) (Nat.le_of_ble_eq_true rfl))
      repeat walk_at "ev"
    walk_at "r"
    refine new_lst (xs := []) (by simp) fun q1 h8 n8 e8 f8 => ?_
    walk_at "r"
    refine new_lst (by simp) fun t h9 n9 e9 f9 => ?_
    obtain ⟨l7b, vs7, f7', D7⟩ := L7
    have b7 := bx_ex b2 e7
    have D7' : DpAll K (dl [b] h7) vs7 (((List.range 5).map faY).map fdat) := by
      rw [List.map_map]
      exact D7
    exact fin h8 l7 q1 vs7 [] ((List.range 5).map faY) [] (kx (Ks.of (e7.trans e8))) (bx_ex b7 e8) l7b (bx_nb b7 n8).symm (e8 _ _ f7') f8 (dpa_ex (dl_ex e8) D7') .nil (by decide +kernel) rfl (by decide +kernel) (by simp) pb10 t h9 n9 e9 f9
  -- no statement
  with_reducible refine w_seq ?_
  with_reducible refine w_asg ?_
  refine run_l (K := K) (S := [rw1, b]) (ds := beY) ?_ fun p3 vs3 h3 e3 np3 f3 D3 => ?_
  · repeat walk_at "ev"
  with_reducible refine w_name ?_
  with_reducible refine w_drop ?_
  with_reducible refine w_BM ?_
  walk_at "r"
  have k3 := Ks.of (S := [b]) e3
  have b3 := bx_ex b2 e3
  refine ⟨a_ty (fr3 k3), ?_⟩
  walk_at "r"
  refine ap_draw b3 (by decide) fun v4 h4 v40 v46 k4 b4 => ?_
  walk_at "r"
  obtain ⟨j, rfl, hj⟩ := nat_of v40 v46
  have k24 := k3.trans k4
  have f4 : h4 p3 = some (.lst vs3) := k4 _ _ (by simp at np3; simpa using np3.2) f3
  have D4 := dpa_ex (dl_ks (k4.mono (by simp))) D3
  have l3 : vs3.length = 6 := dpa_len D3
  obtain ⟨u, hu⟩ : ∃ u, vs3[j]? = some u := ⟨_, List.getElem?_eq_getElem (by omega)⟩
  obtain ⟨d, hd, du⟩ := dpa_at D4 hu
  obtain ⟨g1, g2⟩ := be_bad d (List.mem_of_getElem? hd)
  refine a_ixL (v := u) (SqL.of f4) (atI_nat hu) ?_
  walk_at "r"
  refine a_app (fr3 k24) (by omega) ?_
  walk_at "r"
  refine new_lst (by simp) fun t h7 n7 e7 f7 => ?_
  exact app0 h4 u d k24 b4 du g2 (pb1 g1) t h7 n7 e7 f7

end
end Ver

set_option Elab.async false
set_option linter.all false
set_option maxRecDepth 100000
set_option maxHeartbeats 4000000
namespace Ver
open PySem PySem.Spec PyProof.Rows L2 Evl
local macro_rules | `(tactic| walk_at "s") => `(tactic| with_reducible first
  | refine w_seq ?_ | refine w_asg ?_ | refine w_name ?_ | refine w_if ?_ | refine w_ret ?_ | refine w_drop ?_ | refine w_next ?_ | refine w_brk ?_ | refine w_cont ?_
  | (refine w_var (v := ?vv) ?hh ?_; (case hh => with_unfolding_all exact rfl))
  | refine w_c ?_ | refine w_op ?_ | refine w_un ?_ | refine w_I0 ?_ | refine w_neg ?_ | refine w_eqI ?_ | refine w_neI ?_ | refine w_eqS ?_ | refine w_neS ?_ | refine w_eqB ?_ | refine w_neB ?_
  | refine w_test ?_ | refine w_B ?_ | refine w_and ?_ | refine w_or ?_ | refine w_not ?_ | refine w_andV ?_ | refine w_orV ?_ | refine w_notV ?_ | refine w_ifE ?_ | refine w_yes ?_
  | refine w_nil ?_ | refine w_cons ?_ | refine w_CB ?_ | refine w_callN ?_ | refine w_BM ?_ | refine w_BMT ?_ | refine w_BM0 ?_ | refine w_noPart ?_ | refine w_part ?_ | refine w_sl ?_ | refine w_tup ?_ | refine w_lst ?_
  | refine w_subG ?_ | refine w_gcons ?_ | refine w_gnil ?_ | refine w_for ?_ | refine w_lc ?_ | refine w_iR1 ?_ | refine w_iR2 ?_ | refine w_iL ?_ | refine w_iT ?_ | refine w_iS ?_
  | (show ∃ k, V.bl _ = V.bl k ∧ _; refine ⟨_, rfl, ?_⟩) | (show ∃ k, V.int _ = V.int k ∧ _; refine ⟨_, rfl, ?_⟩)
  | refine iteT ?_ | refine iteF ?_ | refine iteNT ?_ | refine iteNF ?_ | refine r_S ?_ | refine c_S ?_ | refine a_abs ?_ | refine a_intI ?_ | refine a_intB ?_ | refine w_par ?_ | refine w_dK ?_ | refine w_chain ?_ | (show ∃ v w, [_, _] = [v, w] ∧ _; refine ⟨_, _, rfl, ?_⟩)
  | refine w_getF ?_ | refine w_setF ?_ | refine w_newI ?_ | refine w_callS ?_ | refine w_getD1 ?_ | refine w_putD ?_ | refine w_veI ?_ | refine w_ostI ?_ | refine w_mkO ?_ | refine w_newS ?_ | refine w_xf ?_ | refine w_dget ?_ | refine w_din ?_ | refine w_dnin ?_ | refine w_iEn ?_ | refine w_iZp ?_ | refine w_dc ?_
  | refine a_isNn ?_ | refine a_isNr ?_ | refine a_notNn ?_ | refine a_notNr ?_ | refine a_isTy ?_ | refine a_notTy ?_ | refine a_isBl ?_ | refine a_notBl ?_)
local macro_rules | `(tactic| walk_at "r") => `(tactic| repeat walk_at "s")
local macro_rules | `(tactic| walk_at "tr") => `(tactic| first
  | assumption
  | (refine ex_at (H := ?H0) ?h1 ?h2; (case h2 => assumption); (case h1 => walk_at "tr"))
  | (refine ks_at (H := ?H0) (S := ?S0) ?h1 ?h2 ?h3; (case h2 => assumption); (case h3 => walk_at "nin"); (case h1 => walk_at "tr")))
local macro_rules | `(tactic| walk_at "nin") => `(tactic| first
  | exact nin_nil | (refine nin_cons ?h1 ?h2; (case h1 => walk_at "ne"); (case h2 => walk_at "nin")))
local macro_rules | `(tactic| walk_at "ne") => `(tactic| first
  | assumption | exact Ne.symm (by assumption)
  | (refine bx_nb (H := ?H0) (r := ?r0) ?h1 ?h2; (case h2 => assumption); (case h1 => walk_at "bx"))
  | (refine bx_nr (H := ?H0) (b := ?b0) ?h1 ?h2; (case h2 => assumption); (case h1 => walk_at "bx"))
  | (refine Ne.symm (bx_nb (H := ?H0) (r := ?r0) ?h1 ?h2); (case h2 => assumption); (case h1 => walk_at "bx"))
  | (refine ne_old (H := ?H0) (o := ?o0) ?h1 ?h2; (case h2 => assumption); (case h1 => walk_at "tr"))
  | (refine Ne.symm (ne_old (H := ?H0) (o := ?o0) ?h1 ?h2); (case h2 => assumption); (case h1 => walk_at "tr"))
  | exact (Tu.ne (by assumption) (by assumption)).1 | exact (Tu.ne (by assumption) (by assumption)).2
  | (refine bx_rb (H := ?H0) ?h1; (case h1 => walk_at "bx")))
local macro_rules | `(tactic| walk_at "tu") => `(tactic| first
  | assumption
  | (refine Tu.ex (H := ?H0) ?h1 ?h2; (case h2 => assumption); (case h1 => walk_at "tu"))
  | (refine Tu.ks (H := ?H0) (S := ?S0) ?h1 ?h2 ?h3; (case h2 => assumption); (case h3 => walk_at "nin"); (case h1 => walk_at "tu")))
local macro_rules | `(tactic| walk_at "bx") => `(tactic| first
  | assumption
  | (refine bx_ex (H := ?H0) ?h1 ?h2; (case h2 => assumption); (case h1 => walk_at "bx"))
  | (refine bx_ks (H := ?H0) (S := ?S0) ?h1 ?h2 ?h3 ?h4; (case h2 => assumption); (case h3 => walk_at "nin"); (case h4 => walk_at "nin"); (case h1 => walk_at "bx")))
local macro_rules | `(tactic| walk_at "sl") => `(tactic| first
  | assumption | (refine SqL.of ?h1; (case h1 => walk_at "tr"))
  | (refine ex_sl (H := ?H0) ?h1 ?h2; (case h2 => assumption); (case h1 => walk_at "sl"))
  | (refine ks_sl (H := ?H0) (S := ?S0) ?h1 ?h2 ?h3; (case h2 => assumption); (case h3 => walk_at "nin"); (case h1 => walk_at "sl")))
local macro_rules | `(tactic| walk_at "st") => `(tactic| first
  | assumption | (refine Tu.st ?h1; (case h1 => walk_at "tu")) | (refine SqT.of ?h1; (case h1 => walk_at "tr"))
  | (refine ex_st (H := ?H0) ?h1 ?h2; (case h2 => assumption); (case h1 => walk_at "st"))
  | (refine ks_st (H := ?H0) (S := ?S0) ?h1 ?h2 ?h3; (case h2 => assumption); (case h3 => walk_at "nin"); (case h1 => walk_at "st")))
local macro_rules | `(tactic| walk_at "ex") => `(tactic| first
  | exact Ex.refl _ | assumption | (refine Ex.trans (H1 := ?H0) ?h1 ?h2; (case h2 => assumption); (case h1 => walk_at "ex")))
local macro_rules | `(tactic| walk_at "ks") => `(tactic| first
  | exact Ks.refl _ _ | assumption | (refine Ks.of ?h1; (case h1 => assumption)) | (refine Ks.trans (H1 := ?H0) ?h1 ?h2; (case h2 => first | assumption | (refine Ks.of ?h3; (case h3 => assumption))); (case h1 => walk_at "ks")))
local macro_rules | `(tactic| walk_at "dp") => `(tactic| first
  | exact Dp.str _ | exact Dp.int _ | exact Dp.bl _ | exact Dp.non | assumption | exact LsAt.dp (by assumption)
  | (refine dp_ex (H := ?H0) ?h1 ?h2; (case h1 => assumption); (case h2 => walk_at "dp")))
local macro_rules | `(tactic| walk_at "ev") => `(tactic| with_reducible first
  | exact ev_nil | refine ev_cons ?_ ?_ | exact ev_m1 | exact ev_str | exact ev_int | exact ev_bl | exact ev_non
  | (refine ev_tup ?hal ?_ ?hle; (case hal => assumption); (case hle => with_unfolding_all exact Nat.le_of_ble_eq_true rfl))
  | (refine ev_ll (ev_lst ?hal ?_ ?hle); (case hal => assumption); (case hle => with_unfolding_all exact Nat.le_of_ble_eq_true rfl))
  | (refine ev_ll (ev_rep (n := ?nn) ?hal ?_ ?he ?hz); (case he => with_unfolding_all exact rfl); (case hal => assumption); (case hz => with_unfolding_all omega))
  | (refine ev_lst ?hal ?_ ?hle; (case hal => assumption); (case hle => with_unfolding_all exact Nat.le_of_ble_eq_true rfl))
  | (refine ev_lt ?he; (case he => with_unfolding_all exact rfl))
  | (refine ev_let ?hal ?_ ?hs; (case hal => assumption); (case hs => with_unfolding_all first | decide +kernel | rfl))
  | (refine ev_var (v := ?vv) ?he ?hd; (case he => with_unfolding_all exact rfl); (case hd => with_unfolding_all walk_at "dp")))

section
variable {P : Program} {w : World} {K : PySem.W.Frag} {mg : Str → Option Value} {base : Heap}
def pCssX (K : PySem.W.Frag) : Sp := fun vs H Q _ => ∃ S p xs ds, vs = [.ref p] ∧ Al S H ∧ SqL K H p xs ∧ DpAll K (dl S H) xs ds ∧ smAll ds = true ∧ ds.length ≤ 100000 ∧ ∀ q ys H1, H q = none → Ex H H1 → H1 q = some (.lst ys) → DpAll K (dl S H1) ys ds → Q (.ref q) H1
def pPiX (K : PySem.W.Frag) (C CF CE : Addr) : Sp := fun vs H Q E => ∃ S a dx pf ps xs fs ss, vs = [.ref a, .ref pf, .ref ps] ∧ Al S H ∧ a ∈ S ∧ H a = some (.ins C dx []) ∧ SqL K (dl S H) pf xs ∧ FnAll K CF (dl S H) xs fs ∧ fs.length ≤ 100000 ∧ ps ≠ a ∧ (∃ xs', SqL K H ps xs' ∧ DpAll K (dl S H) xs' ss ∧ smAll ss = true ∧ ss.length ≤ 100000) ∧
  (progD fs ss = true → ∀ q1 q2 ys1 ys2 H1, Ks [a] H H1 → H q1 = none → H q2 = none → H1 a = some (.ins C dx (pgF q1 q2)) → H1 q1 = some (.lst ys1) → FnAll K CF (dl S H1) ys1 fs → (∀ v ∈ ys1, NewF CF H H1 v) → H1 q2 = some (.lst ys2) → DpAll K (dl S H1) ys2 ss → Q .non H1) ∧
  (progD fs ss = false → ∀ d H1, Ks [a] H H1 → H d = none → H1 d = some (.xd [("reason", .str "no program")]) → E (.ref CE) (some d) H1)
theorem ok_copied_statementsX (T : Tx K mg) : FnOk P w K mg base CX0 3 T.a_copied_statements T.e_copied_statements p_copied_statements (pCssX K) := by
  refine T.d_copied_statements.F.ok sc_copied_statements (fun vs H Q E h => ?_) (fun cdv A outer s H vs Q E hr h => ?_)
  · obtain ⟨S, p, xs, ds, rfl, _⟩ := h
    rfl
  obtain ⟨S, p, xs, ds, rfl, al, hL, hD, hs, hz, q⟩ := h
  have hl := dpa_len hD
  refine ⟨_, (pss_cons (ps_if (pt_cmpR k_notTy (pe_callTy (typK K) (by rfl) T.b_type (by decide +kernel) (pa_cons (pv 0) pa_nil)) (pe_bltn (v := .ty "list") (by rfl) T.b_list (by decide +kernel) rfl) (nomark _)) (pss_one (ps_ret (pv 0))) pss_nil)
    (pss_one (ps_ret (pe_lc (own := [("statement", 1)]) (g := gName 1) rfl sc_copied_statements.nd  (plK K (pv 0)) (blkOk_by (own := [("statement", 1)]) (N := n_copied_statements) (sc := defScope s_copied_statements) (by decide +kernel)) (fun _ _ _ _ _ => (pg_name (i := 1) sc_copied_statements.nd rfl (Or.inl rfl))) (fun _ _ _ _ _ => pts_nil) (fun _ _ _ _ _ => (pe_call (ok_copied_statement T) (hr.mono (by omega)) (by rfl) T.d_copied_statement.m T.d_copied_statement.F.kp T.d_copied_statement.b .nil pass0 (pa_cons (pv 1) pa_nil))))))), ?_⟩
  walk_at "r"
  refine ⟨.ref p, _, rfl, .lst hL, ?_⟩
  walk_at "r"
  refine ite2 (fun c => absurd c (by decide)) (fun _ => ?_)
  walk_at "r"
  refine c_L hL ?_
  refine cp_list (xs := xs) (fun l k h => Ex H h ∧ Al (l :: S) h ∧ ∃ ys, h l = some (.lst ys) ∧ DpAll K (dl (l :: S) h) ys (ds.take k))
    (fun l n => ⟨Ex.new n, (al.ex (Ex.new n)).cons upd_same, [], upd_same, .nil⟩) (fun l k h _ _ g => ex_sl hL g.1) ?_ ?_
  · rintro l k x h nl hx ⟨e, al2, ys, f, fD⟩
    obtain ⟨d, hd', dx⟩ := ds_at hD hs hx
    have hk := at_lt hx
    have yl := dpa_len fD
    rw [take_len hd'] at yl
    walk_at "r"
    refine ⟨rfl, ?_⟩
    walk_at "r"
    refine ⟨l :: S, x, d, rfl, al2, ds_ex dx (dl_new nl e), fun v' H1 e1 f1 => ?_⟩
    refine ⟨ys, e1 _ _ f, sz_lt (by omega), (e.trans e1).mut nl, ?_, ys ++ [v'], upd_same, ?_⟩
    · exact Al.cons (fun a k => by
        by_cases z : a = l
        · rw [z, upd_same]; exact fun z => by cases z
        · rw [upd_ne z]; exact (al2.ex e1) a (List.mem_cons_of_mem _ k)) upd_same
    · rw [dl_upd (List.mem_cons_self ..), take_snoc hd']
      exact dpa_snoc (dpa_ex (dl_ex e1) fD) f1
  · rintro l h nl ⟨e, al2, ys, f, fD⟩
    rw [hl, List.take_length] at fD
    walk_at "r"
    exact q l ys h nl e f (dpa_ex (dl_sub (fun a k => List.mem_cons_of_mem _ k)) fD)
theorem ok_Program_initX (T : Tx K mg) : FnOk P w K mg base (L2.CX P w) 9 T.a_Program_init T.e_Program_init p_Program_init (pPiX K T.C_Program T.C_Function T.C_RightsError) := by
  refine T.d_Program_init.F.okX sc_Program_init (fun vs H Q E h => ?_) (fun cdv A outer s H vs Q E hr h => ?_)
  · obtain ⟨S, a, dx, pf, ps, xs, fs, ss, rfl, _⟩ := h
    rfl
  obtain ⟨S, a, dx, pf, ps, xs, fs, ss, rfl, al, ha, fa, hL, hF, hz, hps, hsx, q1, q2⟩ := h
  refine ⟨_, (pss_cons (ps_fld (pv 0) (pe_call (ok_copied_functions T) (hr.mono (by omega)) (by rfl) T.d_copied_functions.m T.d_copied_functions.F.kp T.d_copied_functions.b .nil pass0 (pa_cons (pv 1) pa_nil)) rfl)
    (pss_cons (ps_fld (pv 0) (pe_call (ok_copied_statementsX T) (hr.mono (by omega)) (by rfl) T.d_copied_statements.m T.d_copied_statements.F.kp T.d_copied_statements.b .nil pass0 (pa_cons (pv 2) pa_nil)) rfl)
    (pss_one (ps_if (pt_not (pt_val (pe_call (ok_is_program T) (hr.mono (by omega)) (by rfl) T.d_is_program.m T.d_is_program.F.kp T.d_is_program.b .nil pass0 (pa_cons (by exact (fldK K (pv 0) rfl)) (pa_cons (by exact (fldK K (pv 0) rfl)) pa_nil))))) (pss_one (ps_raise rfl (takes_of rfl rfl rfl rfl) (pmk_oex T.o_RightsError T.i_RightsError T.t_RightsError (ok_RightsError_init T) (hr.mono (by omega)) T.d_RightsError_init.b .nil pass0 (by rfl) T.g_RightsError (pa_cons pe_str pa_nil)))) pss_nil)))), ?_⟩
  walk_at "r"
  refine ⟨S, pf, xs, fs, rfl, al, hL, hF, hz, fun p1 ys1 H1 n1 e1 f1 D1 nw => ?_⟩
  have na1 : p1 ≠ a := fun z => by rw [z, fa] at n1; cases n1
  walk_at "r"
  refine a_put T.c_Program T.n_Program_functions (e1 _ _ fa) (by decide) ?_
  have g2 : dl S (upd H1 a (.ins T.C_Program dx (putF "functions" (.ref p1) []))) = dl S H1 := dl_upd ha
  have al2 : Al S (upd H1 a (.ins T.C_Program dx (putF "functions" (.ref p1) []))) := (al.ex e1).upd
  have k2 : Ks [a] H (upd H1 a (.ins T.C_Program dx (putF "functions" (.ref p1) []))) := (Ks.of e1).upd (by simp)
  have k02 : Ks [a] H1 (upd H1 a (.ins T.C_Program dx (putF "functions" (.ref p1) []))) := (Ks.refl _ _).upd (by simp)
  have f2 : (upd H1 a (.ins T.C_Program dx (putF "functions" (.ref p1) []))) a = some (.ins T.C_Program dx (putF "functions" (.ref p1) [])) := upd_same
  have f2p : (upd H1 a (.ins T.C_Program dx (putF "functions" (.ref p1) []))) p1 = some (.lst ys1) := by rw [upd_ne na1]; exact f1
  generalize upd H1 a (.ins T.C_Program dx (putF "functions" (.ref p1) [])) = H2 at g2 al2 k2 k02 f2 f2p ⊢
  have e12a : ∀ o x, x ≠ a → H x = some o → H2 x = some o := fun o x nx hx => k2 x o (by simpa using nx) hx
  have e02 : Ex (dl S H) (dl S H2) := by rw [g2]; exact dl_ex e1
  rw [← g2] at D1
  walk_at "r"
  obtain ⟨xs', hsL, hsD, hsm, hsz⟩ := hsx
  have psa : ps ∉ [a] := by rw [List.mem_singleton]; exact hps
  have hsL2 : SqL K H2 ps xs' := ks_sl hsL k2 psa
  refine ⟨S, ps, xs', ss, rfl, al2, hsL2, dpa_ex e02 hsD, hsm, hsz, fun p2 ys2 H3 n3 e3 f3 D3 => ?_⟩
  have na2 : p2 ≠ a := fun z => by rw [z, f2] at n3; cases n3
  walk_at "r"
  refine a_put T.c_Program T.n_Program_statements (e3 _ _ f2) (put1_lt _ _) ?_
  have g4 : dl S (upd H3 a (.ins T.C_Program dx (pgF p1 p2))) = dl S H3 := dl_upd ha
  have k4 : Ks [a] H (upd H3 a (.ins T.C_Program dx (pgF p1 p2))) := (k2.trans (Ks.of e3)).upd (by simp)
  have k24 : Ks [a] H2 (upd H3 a (.ins T.C_Program dx (pgF p1 p2))) := (Ks.of e3).upd (by simp)
  have f4 : (upd H3 a (.ins T.C_Program dx (pgF p1 p2))) a = some (.ins T.C_Program dx (pgF p1 p2)) := upd_same
  have f4p : (upd H3 a (.ins T.C_Program dx (pgF p1 p2))) p1 = some (.lst ys1) := by rw [upd_ne na1]; exact e3 _ _ f2p
  have f4q : (upd H3 a (.ins T.C_Program dx (pgF p1 p2))) p2 = some (.lst ys2) := by rw [upd_ne na2]; exact f3
  change (fun Hc => _) (upd H3 a (.ins T.C_Program dx (pgF p1 p2)))
  generalize upd H3 a (.ins T.C_Program dx (pgF p1 p2)) = H4 at g4 k4 k24 f4 f4p f4q ⊢
  rw [← g4] at D3
  have D1' : FnAll K T.C_Function (dl S H4) ys1 fs := D1.up (by rw [g4]; exact dl_ex e3)
  walk_at "r"
  refine a_get T.c_Program T.n_Program_functions f4 (pg_fns _ _) ?_
  walk_at "r"
  refine a_get T.c_Program T.n_Program_statements f4 (pg_sts _ _) ?_
  walk_at "r"
  refine ⟨p1, p2, ys1, fs, ss, rfl, SqL.of f4p, D1'.up (dl_le S H4), hz, ⟨⟨ys2, SqL.of f4q, dpa_ex (dl_le S H4) D3⟩, hsm, hsz⟩, fun H5 e5 => ?_⟩
  walk_at "r"
  refine ite2 (fun c => ?_) (fun c => ?_)
  · have c' : progD fs ss = false := by
      cases y : progD fs ss with
      | false => rfl
      | true => rw [y] at c; cases c
    walk_at "r"
    refine mko_re fun d H6 n6 e6 f6 => ?_
    refine q2 c' d H6 ((k4.trans (Ks.of e5)).trans (Ks.of e6)) ?_ f6
    refine ks_none (k4.trans (Ks.of e5)) n6 ?_
    have := e5 _ _ f4
    rw [List.mem_singleton]
    rintro rfl
    rw [this] at n6
    cases n6
  · have c' : progD fs ss = true := by
      cases y : progD fs ss with
      | true => rfl
      | false => rw [y] at c; exact absurd rfl c
    walk_at "r"
    have KH : Ks [a] H1 H5 := (k02.trans k24).trans (Ks.of e5)
    exact q1 c' p1 p2 ys1 ys2 H5 (k4.trans (Ks.of e5)) n1 (ks_none k2 n3 (by simpa using na2)) (e5 _ _ f4) (e5 _ _ f4p) (D1'.up (dl_ex e5)) (fun v hv => (nw v hv).ks fa KH) (e5 _ _ f4q) (dpa_ex (dl_ex e5) D3)

end
end Ver

set_option Elab.async false
set_option linter.all false
set_option maxRecDepth 100000
set_option maxHeartbeats 4000000
namespace Ver
open PySem PySem.Spec PyProof.Rows L2 Evl
local macro_rules | `(tactic| walk_at "s") => `(tactic| with_reducible first
  | refine w_seq ?_ | refine w_asg ?_ | refine w_name ?_ | refine w_if ?_ | refine w_ret ?_ | refine w_drop ?_ | refine w_next ?_ | refine w_brk ?_ | refine w_cont ?_
  | (refine w_var (v := ?vv) ?hh ?_; (case hh => with_unfolding_all exact rfl))
  | refine w_c ?_ | refine w_op ?_ | refine w_un ?_ | refine w_I0 ?_ | refine w_neg ?_ | refine w_eqI ?_ | refine w_neI ?_ | refine w_eqS ?_ | refine w_neS ?_ | refine w_eqB ?_ | refine w_neB ?_
  | refine w_test ?_ | refine w_B ?_ | refine w_and ?_ | refine w_or ?_ | refine w_not ?_ | refine w_andV ?_ | refine w_orV ?_ | refine w_notV ?_ | refine w_ifE ?_ | refine w_yes ?_
  | refine w_nil ?_ | refine w_cons ?_ | refine w_CB ?_ | refine w_callN ?_ | refine w_BM ?_ | refine w_BMT ?_ | refine w_BM0 ?_ | refine w_noPart ?_ | refine w_part ?_ | refine w_sl ?_ | refine w_tup ?_ | refine w_lst ?_
  | refine w_subG ?_ | refine w_gcons ?_ | refine w_gnil ?_ | refine w_for ?_ | refine w_lc ?_ | refine w_iR1 ?_ | refine w_iR2 ?_ | refine w_iL ?_ | refine w_iT ?_ | refine w_iS ?_
  | (show ∃ k, V.bl _ = V.bl k ∧ _; refine ⟨_, rfl, ?_⟩) | (show ∃ k, V.int _ = V.int k ∧ _; refine ⟨_, rfl, ?_⟩)
  | refine iteT ?_ | refine iteF ?_ | refine iteNT ?_ | refine iteNF ?_ | refine r_S ?_ | refine c_S ?_ | refine a_abs ?_ | refine a_intI ?_ | refine a_intB ?_ | refine w_par ?_ | refine w_dK ?_ | refine w_chain ?_ | (show ∃ v w, [_, _] = [v, w] ∧ _; refine ⟨_, _, rfl, ?_⟩)
  | refine w_getF ?_ | refine w_setF ?_ | refine w_newI ?_ | refine w_callS ?_ | refine w_getD1 ?_ | refine w_putD ?_ | refine w_veI ?_ | refine w_ostI ?_ | refine w_mkO ?_ | refine w_newS ?_ | refine w_xf ?_ | refine w_dget ?_ | refine w_din ?_ | refine w_dnin ?_ | refine w_iEn ?_ | refine w_iZp ?_ | refine w_dc ?_
  | refine a_isNn ?_ | refine a_isNr ?_ | refine a_notNn ?_ | refine a_notNr ?_ | refine a_isTy ?_ | refine a_notTy ?_ | refine a_isBl ?_ | refine a_notBl ?_)
local macro_rules | `(tactic| walk_at "r") => `(tactic| repeat walk_at "s")
local macro_rules | `(tactic| walk_at "tr") => `(tactic| first
  | assumption
  | (refine ex_at (H := ?H0) ?h1 ?h2; (case h2 => assumption); (case h1 => walk_at "tr"))
  | (refine ks_at (H := ?H0) (S := ?S0) ?h1 ?h2 ?h3; (case h2 => assumption); (case h3 => walk_at "nin"); (case h1 => walk_at "tr")))
local macro_rules | `(tactic| walk_at "nin") => `(tactic| first
  | exact nin_nil | (refine nin_cons ?h1 ?h2; (case h1 => walk_at "ne"); (case h2 => walk_at "nin")))
local macro_rules | `(tactic| walk_at "ne") => `(tactic| first
  | assumption | exact Ne.symm (by assumption)
  | (refine bx_nb (H := ?H0) (r := ?r0) ?h1 ?h2; (case h2 => assumption); (case h1 => walk_at "bx"))
  | (refine bx_nr (H := ?H0) (b := ?b0) ?h1 ?h2; (case h2 => assumption); (case h1 => walk_at "bx"))
  | (refine Ne.symm (bx_nb (H := ?H0) (r := ?r0) ?h1 ?h2); (case h2 => assumption); (case h1 => walk_at "bx"))
  | (refine ne_old (H := ?H0) (o := ?o0) ?h1 ?h2; (case h2 => assumption); (case h1 => walk_at "tr"))
  | (refine Ne.symm (ne_old (H := ?H0) (o := ?o0) ?h1 ?h2); (case h2 => assumption); (case h1 => walk_at "tr"))
  | exact (Tu.ne (by assumption) (by assumption)).1 | exact (Tu.ne (by assumption) (by assumption)).2
  | (refine bx_rb (H := ?H0) ?h1; (case h1 => walk_at "bx")))
local macro_rules | `(tactic| walk_at "tu") => `(tactic| first
  | assumption
  | (refine Tu.ex (H := ?H0) ?h1 ?h2; (case h2 => assumption); (case h1 => walk_at "tu"))
  | (refine Tu.ks (H := ?H0) (S := ?S0) ?h1 ?h2 ?h3; (case h2 => assumption); (case h3 => walk_at "nin"); (case h1 => walk_at "tu")))
local macro_rules | `(tactic| walk_at "bx") => `(tactic| first
  | assumption
  | (refine bx_ex (H := ?H0) ?h1 ?h2; (case h2 => assumption); (case h1 => walk_at "bx"))
  | (refine bx_ks (H := ?H0) (S := ?S0) ?h1 ?h2 ?h3 ?h4; (case h2 => assumption); (case h3 => walk_at "nin"); (case h4 => walk_at "nin"); (case h1 => walk_at "bx")))
local macro_rules | `(tactic| walk_at "sl") => `(tactic| first
  | assumption | (refine SqL.of ?h1; (case h1 => walk_at "tr"))
  | (refine ex_sl (H := ?H0) ?h1 ?h2; (case h2 => assumption); (case h1 => walk_at "sl"))
  | (refine ks_sl (H := ?H0) (S := ?S0) ?h1 ?h2 ?h3; (case h2 => assumption); (case h3 => walk_at "nin"); (case h1 => walk_at "sl")))
local macro_rules | `(tactic| walk_at "st") => `(tactic| first
  | assumption | (refine Tu.st ?h1; (case h1 => walk_at "tu")) | (refine SqT.of ?h1; (case h1 => walk_at "tr"))
  | (refine ex_st (H := ?H0) ?h1 ?h2; (case h2 => assumption); (case h1 => walk_at "st"))
  | (refine ks_st (H := ?H0) (S := ?S0) ?h1 ?h2 ?h3; (case h2 => assumption); (case h3 => walk_at "nin"); (case h1 => walk_at "st")))
local macro_rules | `(tactic| walk_at "ex") => `(tactic| first
  | exact Ex.refl _ | assumption | (refine Ex.trans (H1 := ?H0) ?h1 ?h2; (case h2 => assumption); (case h1 => walk_at "ex")))
local macro_rules | `(tactic| walk_at "ks") => `(tactic| first
  | exact Ks.refl _ _ | assumption | (refine Ks.of ?h1; (case h1 => assumption)) | (refine Ks.trans (H1 := ?H0) ?h1 ?h2; (case h2 => first | assumption | (refine Ks.of ?h3; (case h3 => assumption))); (case h1 => walk_at "ks")))
local macro_rules | `(tactic| walk_at "dp") => `(tactic| first
  | exact Dp.str _ | exact Dp.int _ | exact Dp.bl _ | exact Dp.non | assumption | exact LsAt.dp (by assumption)
  | (refine dp_ex (H := ?H0) ?h1 ?h2; (case h1 => assumption); (case h2 => walk_at "dp")))
local macro_rules | `(tactic| walk_at "ev") => `(tactic| with_reducible first
  | exact ev_nil | refine ev_cons ?_ ?_ | exact ev_m1 | exact ev_str | exact ev_int | exact ev_bl | exact ev_non
  | (refine ev_tup ?hal ?_ ?hle; (case hal => assumption); (case hle => with_unfolding_all exact Nat.le_of_ble_eq_true rfl))
  | (refine ev_ll (ev_lst ?hal ?_ ?hle); (case hal => assumption); (case hle => with_unfolding_all exact Nat.le_of_ble_eq_true rfl))
  | (refine ev_ll (ev_rep (n := ?nn) ?hal ?_ ?he ?hz); (case he => with_unfolding_all exact rfl); (case hal => assumption); (case hz => with_unfolding_all omega))
  | (refine ev_lst ?hal ?_ ?hle; (case hal => assumption); (case hle => with_unfolding_all exact Nat.le_of_ble_eq_true rfl))
  | (refine ev_lt ?he; (case he => with_unfolding_all exact rfl))
  | (refine ev_let ?hal ?_ ?hs; (case hal => assumption); (case hs => with_unfolding_all first | decide +kernel | rfl))
  | (refine ev_var (v := ?vv) ?he ?hd; (case he => with_unfolding_all exact rfl); (case hd => with_unfolding_all walk_at "dp")))

section
variable {P : Program} {w : World} {K : PySem.W.Frag} {mg : Str → Option Value} {base : Heap}
def spLaw (K : PySem.W.Frag) : Sp := fun vs H Q _ => ∃ (a : Addr) (ns : List Int), vs = [.ref a] ∧ SqL K H a (ns.map V.int) ∧ ns.length ≤ 63 ∧ ∀ H', Q (.bl true) H'
theorem sg_small {c : Nat} (h : sgOk c = true) : c < 0x110000 := by
  unfold sgOk at h
  rw [PySem.StrLaws.found_one] at h
  have all : ∀ c ∈ signs.cps.toList, c < 0x110000 := by decide +kernel
  exact all c (of_decide_eq_true h)
theorem nm_strOk {x : Str} (h : nmO x) : PyData.canLay0 (.str x) = true := by
  have h' : (!decide (x = "null") && (decide (1 ≤ x.length) && decide (x.length ≤ 8)) && x.cps.toList.all sgOk) = true := h
  rw [Bool.and_eq_true] at h'
  have h2 := List.all_eq_true.mp h'.2
  simp only [PyData.canLay0, PyData.strOk]
  rw [← Array.all_toList, List.all_eq_true]
  exact fun c hc => decide_eq_true (sg_small (h2 c hc))
def FT (f : Str) : Prop := PyData.canLay0 (.str f) = true
theorem ft1 : FT "unknown name" := by unfold FT; decide +kernel
theorem ft2 : FT "too many stars" := by unfold FT; decide +kernel
theorem ft3 : FT "may not read" := by unfold FT; decide +kernel
theorem ft4 : FT "other depth" := by unfold FT; decide +kernel
theorem ft5 : FT "no conversion" := by unfold FT; decide +kernel
theorem ft6 : FT "may not write" := by unfold FT; decide +kernel
theorem ft0 : FT "" := by unfold FT; decide +kernel
theorem lay_map {α : Type} {f : α → PyData} {n : Nat} : ∀ {xs : List α}, (∀ x ∈ xs, PyData.canLay0 (f x) = true ∧ PyData.depth (f x) ≤ n) → PyData.canLayAll0 (xs.map f) = true ∧ PyData.depthAll (xs.map f) ≤ n
  | [], _ => by simp [PyData.canLayAll0, PyData.depthAll]
  | x :: xs, h => by
    have ih := lay_map (xs := xs) fun y hy => h y (List.mem_cons_of_mem _ hy)
    have h1 := h x (List.mem_cons_self ..)
    rw [List.map_cons]
    simp only [PyData.canLayAll0, PyData.depthAll, Bool.and_eq_true]
    exact ⟨⟨h1.1, ih.1⟩, by have := h1.2; have := ih.2; omega⟩
theorem lay_s (x : Str) (h : FT x) : PyData.canLay0 (.str x) = true := h
theorem lay_plD {x : Str} {k : Nat} (h : nmO x) : PyData.canLay0 (plD x k) = true ∧ PyData.depth (plD x k) ≤ 1 := by
  have := nm_strOk h
  unfold plD
  simp only [PyData.canLay0, PyData.canLayAll0, PyData.depth, PyData.depthAll, Bool.and_eq_true] at this ⊢
  exact ⟨⟨this, trivial, trivial⟩, by omega⟩
theorem lay_sD {s : Src} (o : sO s) : PyData.canLay0 (sD s) = true ∧ PyData.depth (sD s) ≤ 2 := by
  have w1 : FT "number" := by unfold FT; decide +kernel
  have w2 : FT "null" := by unfold FT; decide +kernel
  have w3 : FT "value" := by unfold FT; decide +kernel
  have w4 : FT "address" := by unfold FT; decide +kernel
  unfold FT at w1 w2 w3 w4
  cases s with
  | num n =>
    unfold sD
    simp only [PyData.canLay0, PyData.canLayAll0, PyData.depth, PyData.depthAll, Bool.and_eq_true] at w1 ⊢
    exact ⟨⟨w1, trivial, trivial⟩, by omega⟩
  | null =>
    unfold sD
    simp only [PyData.canLay0, PyData.canLayAll0, PyData.depth, PyData.depthAll, Bool.and_eq_true] at w2 ⊢
    exact ⟨⟨w2, trivial⟩, by omega⟩
  | val x k =>
    have h := lay_plD (k := k) o.1
    unfold sD
    simp only [PyData.canLay0, PyData.canLayAll0, PyData.depth, PyData.depthAll, Bool.and_eq_true] at w3 ⊢
    exact ⟨⟨w3, h.1, trivial⟩, by have := h.2; omega⟩
  | adr x k =>
    have h := lay_plD (k := k) o.1
    unfold sD
    simp only [PyData.canLay0, PyData.canLayAll0, PyData.depth, PyData.depthAll, Bool.and_eq_true] at w4 ⊢
    exact ⟨⟨w4, h.1, trivial⟩, by have := h.2; omega⟩
theorem lay_stD {s : Stm} (o : stO s) : PyData.canLay0 (stD s) = true ∧ PyData.depth (stD s) ≤ 4 := by
  have w1 : FT "let" := by unfold FT; decide +kernel
  have w2 : FT "put" := by unfold FT; decide +kernel
  have w3 : FT "call" := by unfold FT; decide +kernel
  unfold FT at w1 w2 w3
  cases s with
  | lt x T s =>
    have h := lay_sD o.2.2
    have h2 := lay_ru T
    have h3 := dep_ru T
    have h4 := nm_strOk o.1
    unfold stD
    simp only [PyData.canLay0, PyData.canLayAll0, PyData.depth, PyData.depthAll, Bool.and_eq_true] at w1 h4 ⊢
    exact ⟨⟨w1, h4, h2, h.1, trivial⟩, by have := h.2; omega⟩
  | put x k s =>
    have h := lay_sD o.2.2
    have h2 := lay_plD (k := k) o.1
    unfold stD
    simp only [PyData.canLay0, PyData.canLayAll0, PyData.depth, PyData.depthAll, Bool.and_eq_true] at w2 ⊢
    exact ⟨⟨w2, h2.1, h.1, trivial⟩, by have := h.2; have := h2.2; omega⟩
  | call f ss =>
    have h := lay_map (f := sD) (n := 2) (xs := ss) fun s hs => lay_sD (o.2.2 s hs)
    have h4 := nm_strOk o.1
    unfold stD
    simp only [PyData.canLay0, PyData.canLayAll0, PyData.depth, PyData.depthAll, Bool.and_eq_true] at w3 h4 ⊢
    exact ⟨⟨w3, h4, h.1, trivial⟩, by have := h.2; omega⟩
theorem lay_tf {f : TF} (o : FOk f) : PyData.canLay0 (tfD f) = true ∧ PyData.depth (tfD f) ≤ 6 := by
  have h1 := lay_map (f := pD) (n := 3) (xs := f.p) fun q hq => by
    have h2 := lay_ru q.2
    have h3 := dep_ru q.2
    have h4 := nm_strOk (o.po q hq).1
    unfold pD
    simp only [PyData.canLay0, PyData.canLayAll0, PyData.depth, PyData.depthAll, Bool.and_eq_true] at h4 ⊢
    exact ⟨⟨h4, h2, trivial⟩, by omega⟩
  have h2 := lay_map (f := stD) (n := 4) (xs := f.b) fun s hs => lay_stD (o.bo s hs)
  have h4 := nm_strOk o.n
  unfold tfD
  simp only [PyData.canLay0, PyData.canLayAll0, PyData.depth, PyData.depthAll, Bool.and_eq_true] at h4 ⊢
  exact ⟨⟨h4, h1.1, h2.1, trivial⟩, by have := h1.2; have := h2.2; omega⟩
theorem shp_of {d : PyData} (c : PyData.canLay0 d = true) (n : PyData.depth d ≤ 40) : SeqAt.shaped d = true ∧ PyData.eqv d d = true := by
  refine ⟨?_, PySem.SeqAt.eqv_refl _ c⟩
  unfold SeqAt.shaped
  rw [c, Bool.true_and]
  exact decide_eq_true (by omega)
theorem shp_p {fs : List TF} {ss : List Stm} (ok : POk fs ss) : SeqAt.shaped (.list [.list (fs.map tfD), .list (ss.map stD)]) = true ∧ PyData.eqv (.list [.list (fs.map tfD), .list (ss.map stD)]) (.list [.list (fs.map tfD), .list (ss.map stD)]) = true := by
  have h1 := lay_map (f := tfD) (n := 6) (xs := fs) fun f hf => lay_tf (ok.fo f hf)
  have h2 := lay_map (f := stD) (n := 4) (xs := ss) fun s hs => lay_stD (ok.so s hs)
  refine shp_of ?_ ?_
  · simp only [PyData.canLay0, PyData.canLayAll0, Bool.and_eq_true]
    exact ⟨h1.1, h2.1, trivial⟩
  · simp only [PyData.depth, PyData.depthAll]
    have := h1.2
    have := h2.2
    omega
theorem shp_ss {ss : List Stm} (o : ∀ s ∈ ss, stO s) : SeqAt.shaped (.list (ss.map stD)) = true ∧ PyData.eqv (.list (ss.map stD)) (.list (ss.map stD)) = true := by
  have h2 := lay_map (f := stD) (n := 4) (xs := ss) fun s hs => lay_stD (o s hs)
  refine shp_of ?_ ?_
  · simp only [PyData.canLay0]
    exact h2.1
  · simp only [PyData.depth]
    have := h2.2
    omega
theorem shp_nm {ns : List Str} (o : ∀ x ∈ ns, nmO x) : SeqAt.shaped (.list (ns.map PyData.str)) = true ∧ PyData.eqv (.list (ns.map PyData.str)) (.list (ns.map PyData.str)) = true := by
  have h2 := lay_map (f := PyData.str) (n := 0) (xs := ns) fun x hx => ⟨nm_strOk (o x hx), by simp [PyData.depth]⟩
  refine shp_of ?_ ?_
  · simp only [PyData.canLay0]
    exact h2.1
  · simp only [PyData.depth]
    have := h2.2
    omega
theorem dp_nms {H : Hp} : ∀ ns : List Str, DpAll K H (ns.map V.str) (ns.map PyData.str)
  | [] => .nil
  | x :: ns => .cons (.str x) (dp_nms ns)
theorem cp_letsX {H : Hp} {Q : VK} {σ : L2.St} {g : TG} {t : TT} {te : TE} {vs : List Nat} {p : Addr} {xs : List V} {b : List Stm} (hx : SqL K H p xs) (hd : DpAll K H xs (b.map stD)) (hb : b.length ≤ 50)
    (run : ∀ (v : V) (s : Stm) (h : Hp) (D : Addr) (N : VK) (M : Hp → Prop), Ex H h → Dp K H v (stD s) → (∀ x T src, s = .lt x T src → N (.str x) h) → ((∀ x T src, s ≠ .lt x T src) → M h) →
      g v (wipe σ vs) h fun s2 h2 => wipe s2 vs = wipe σ vs ∧ t s2 h2 fun b h3 => if b = true then te s2 h3 N else M h3)
    (k : ∀ l h, H l = none → Ex H h → h l = some (.lst (((lets b).map Prod.fst).map V.str)) → Q (.ref l) h) : CompG (Itl K p) g t te vs σ H Q := by
  have lx : xs.length = b.length := by rw [dpa_len hd, List.length_map]
  refine cp_list (xs := xs) (fun l k h => Ex H h ∧ h l = some (.lst (((lets (b.take k)).map Prod.fst).map V.str))) (fun l n => ⟨Ex.new n, upd_same⟩) (fun l k h _ _ z => ex_sl hx z.1) ?_ ?_
  · rintro l k v h nl hk ⟨e, f⟩
    obtain ⟨d, hd', dv⟩ := dpa_at hd hk
    rw [List.getElem?_map] at hd'
    cases hs : b[k]? with
    | none => rw [hs] at hd'; cases hd'
    | some s =>
    rw [hs] at hd'
    cases hd'
    have hk2 := at_lt hs
    have ll : (lets (b.take k)).length ≤ 50 := Nat.le_trans (lets_le _) (by rw [List.length_take]; omega)
    refine run v s h l _ _ e dv (fun x T src es => ?_) (fun no => ⟨e, ?_⟩)
    · subst es
      refine ⟨_, f, sz_lt (by rw [List.length_map, List.length_map]; omega), e.mut nl, ?_⟩
      rw [upd_same, take_snoc hs, lets_app, List.map_append, List.map_append]
      rfl
    · rw [take_snoc hs, lets_app]
      have z : lets [s] = [] := by
        cases s with
        | lt x T src => exact absurd rfl (no x T src)
        | put x k s => rfl
        | call f ss => rfl
      rw [z, List.append_nil]
      exact f
  · rintro l h nl ⟨e, f⟩
    rw [lx, List.take_length] at f
    exact k l h nl e f
theorem kinds_no {fs : List TF} {ss : List Stm} : (decide (0 < (kindsD (fs.map TF.fd) (ss.map stD)).length) && (kindsD (fs.map TF.fd) (ss.map stD)).all fun d => numD d 5) = false := by
  rw [kindsD_eq]
  cases decl fs ss with
  | nil => rfl
  | cons q qs => rfl
theorem decl_nm {fs : List TF} {ss : List Stm} (ok : POk fs ss) : ∀ x ∈ (decl fs ss).map Prod.fst, nmO x := fun x hx => by
  obtain ⟨q, hq, rfl⟩ := List.mem_map.mp hx
  exact (decl_tyO ok q hq).1

end
end Ver

set_option Elab.async false
set_option linter.all false
set_option maxRecDepth 100000
set_option maxHeartbeats 4000000
namespace Ver
open PySem PySem.Spec PyProof.Rows L2 Evl
local macro_rules | `(tactic| walk_at "s") => `(tactic| with_reducible first
  | refine w_seq ?_ | refine w_asg ?_ | refine w_name ?_ | refine w_if ?_ | refine w_ret ?_ | refine w_drop ?_ | refine w_next ?_ | refine w_brk ?_ | refine w_cont ?_
  | (refine w_var (v := ?vv) ?hh ?_; (case hh => with_unfolding_all exact rfl))
  | refine w_c ?_ | refine w_op ?_ | refine w_un ?_ | refine w_I0 ?_ | refine w_neg ?_ | refine w_eqI ?_ | refine w_neI ?_ | refine w_eqS ?_ | refine w_neS ?_ | refine w_eqB ?_ | refine w_neB ?_
  | refine w_test ?_ | refine w_B ?_ | refine w_and ?_ | refine w_or ?_ | refine w_not ?_ | refine w_andV ?_ | refine w_orV ?_ | refine w_notV ?_ | refine w_ifE ?_ | refine w_yes ?_
  | refine w_nil ?_ | refine w_cons ?_ | refine w_CB ?_ | refine w_callN ?_ | refine w_BM ?_ | refine w_BMT ?_ | refine w_BM0 ?_ | refine w_noPart ?_ | refine w_part ?_ | refine w_sl ?_ | refine w_tup ?_ | refine w_lst ?_
  | refine w_subG ?_ | refine w_gcons ?_ | refine w_gnil ?_ | refine w_for ?_ | refine w_lc ?_ | refine w_iR1 ?_ | refine w_iR2 ?_ | refine w_iL ?_ | refine w_iT ?_ | refine w_iS ?_
  | (show ∃ k, V.bl _ = V.bl k ∧ _; refine ⟨_, rfl, ?_⟩) | (show ∃ k, V.int _ = V.int k ∧ _; refine ⟨_, rfl, ?_⟩)
  | refine iteT ?_ | refine iteF ?_ | refine iteNT ?_ | refine iteNF ?_ | refine r_S ?_ | refine c_S ?_ | refine a_abs ?_ | refine a_intI ?_ | refine a_intB ?_ | refine w_par ?_ | refine w_dK ?_ | refine w_chain ?_ | (show ∃ v w, [_, _] = [v, w] ∧ _; refine ⟨_, _, rfl, ?_⟩)
  | refine w_getF ?_ | refine w_setF ?_ | refine w_newI ?_ | refine w_callS ?_ | refine w_getD1 ?_ | refine w_putD ?_ | refine w_veI ?_ | refine w_ostI ?_ | refine w_mkO ?_ | refine w_newS ?_ | refine w_xf ?_ | refine w_dget ?_ | refine w_din ?_ | refine w_dnin ?_ | refine w_iEn ?_ | refine w_iZp ?_ | refine w_dc ?_
  | refine a_isNn ?_ | refine a_isNr ?_ | refine a_notNn ?_ | refine a_notNr ?_ | refine a_isTy ?_ | refine a_notTy ?_ | refine a_isBl ?_ | refine a_notBl ?_)
local macro_rules | `(tactic| walk_at "r") => `(tactic| repeat walk_at "s")
local macro_rules | `(tactic| walk_at "tr") => `(tactic| first
  | assumption
  | (refine ex_at (H := ?H0) ?h1 ?h2; (case h2 => assumption); (case h1 => walk_at "tr"))
  | (refine ks_at (H := ?H0) (S := ?S0) ?h1 ?h2 ?h3; (case h2 => assumption); (case h3 => walk_at "nin"); (case h1 => walk_at "tr")))
local macro_rules | `(tactic| walk_at "nin") => `(tactic| first
  | exact nin_nil | (refine nin_cons ?h1 ?h2; (case h1 => walk_at "ne"); (case h2 => walk_at "nin")))
local macro_rules | `(tactic| walk_at "ne") => `(tactic| first
  | assumption | exact Ne.symm (by assumption)
  | (refine bx_nb (H := ?H0) (r := ?r0) ?h1 ?h2; (case h2 => assumption); (case h1 => walk_at "bx"))
  | (refine bx_nr (H := ?H0) (b := ?b0) ?h1 ?h2; (case h2 => assumption); (case h1 => walk_at "bx"))
  | (refine Ne.symm (bx_nb (H := ?H0) (r := ?r0) ?h1 ?h2); (case h2 => assumption); (case h1 => walk_at "bx"))
  | (refine ne_old (H := ?H0) (o := ?o0) ?h1 ?h2; (case h2 => assumption); (case h1 => walk_at "tr"))
  | (refine Ne.symm (ne_old (H := ?H0) (o := ?o0) ?h1 ?h2); (case h2 => assumption); (case h1 => walk_at "tr"))
  | exact (Tu.ne (by assumption) (by assumption)).1 | exact (Tu.ne (by assumption) (by assumption)).2
  | (refine bx_rb (H := ?H0) ?h1; (case h1 => walk_at "bx")))
local macro_rules | `(tactic| walk_at "tu") => `(tactic| first
  | assumption
  | (refine Tu.ex (H := ?H0) ?h1 ?h2; (case h2 => assumption); (case h1 => walk_at "tu"))
  | (refine Tu.ks (H := ?H0) (S := ?S0) ?h1 ?h2 ?h3; (case h2 => assumption); (case h3 => walk_at "nin"); (case h1 => walk_at "tu")))
local macro_rules | `(tactic| walk_at "bx") => `(tactic| first
  | assumption
  | (refine bx_ex (H := ?H0) ?h1 ?h2; (case h2 => assumption); (case h1 => walk_at "bx"))
  | (refine bx_ks (H := ?H0) (S := ?S0) ?h1 ?h2 ?h3 ?h4; (case h2 => assumption); (case h3 => walk_at "nin"); (case h4 => walk_at "nin"); (case h1 => walk_at "bx")))
local macro_rules | `(tactic| walk_at "sl") => `(tactic| first
  | assumption | (refine SqL.of ?h1; (case h1 => walk_at "tr"))
  | (refine ex_sl (H := ?H0) ?h1 ?h2; (case h2 => assumption); (case h1 => walk_at "sl"))
  | (refine ks_sl (H := ?H0) (S := ?S0) ?h1 ?h2 ?h3; (case h2 => assumption); (case h3 => walk_at "nin"); (case h1 => walk_at "sl")))
local macro_rules | `(tactic| walk_at "st") => `(tactic| first
  | assumption | (refine Tu.st ?h1; (case h1 => walk_at "tu")) | (refine SqT.of ?h1; (case h1 => walk_at "tr"))
  | (refine ex_st (H := ?H0) ?h1 ?h2; (case h2 => assumption); (case h1 => walk_at "st"))
  | (refine ks_st (H := ?H0) (S := ?S0) ?h1 ?h2 ?h3; (case h2 => assumption); (case h3 => walk_at "nin"); (case h1 => walk_at "st")))
local macro_rules | `(tactic| walk_at "ex") => `(tactic| first
  | exact Ex.refl _ | assumption | (refine Ex.trans (H1 := ?H0) ?h1 ?h2; (case h2 => assumption); (case h1 => walk_at "ex")))
local macro_rules | `(tactic| walk_at "ks") => `(tactic| first
  | exact Ks.refl _ _ | assumption | (refine Ks.of ?h1; (case h1 => assumption)) | (refine Ks.trans (H1 := ?H0) ?h1 ?h2; (case h2 => first | assumption | (refine Ks.of ?h3; (case h3 => assumption))); (case h1 => walk_at "ks")))
local macro_rules | `(tactic| walk_at "dp") => `(tactic| first
  | exact Dp.str _ | exact Dp.int _ | exact Dp.bl _ | exact Dp.non | assumption | exact LsAt.dp (by assumption)
  | (refine dp_ex (H := ?H0) ?h1 ?h2; (case h1 => assumption); (case h2 => walk_at "dp")))
local macro_rules | `(tactic| walk_at "ev") => `(tactic| with_reducible first
  | exact ev_nil | refine ev_cons ?_ ?_ | exact ev_m1 | exact ev_str | exact ev_int | exact ev_bl | exact ev_non
  | (refine ev_tup ?hal ?_ ?hle; (case hal => assumption); (case hle => with_unfolding_all exact Nat.le_of_ble_eq_true rfl))
  | (refine ev_ll (ev_lst ?hal ?_ ?hle); (case hal => assumption); (case hle => with_unfolding_all exact Nat.le_of_ble_eq_true rfl))
  | (refine ev_ll (ev_rep (n := ?nn) ?hal ?_ ?he ?hz); (case he => with_unfolding_all exact rfl); (case hal => assumption); (case hz => with_unfolding_all omega))
  | (refine ev_lst ?hal ?_ ?hle; (case hal => assumption); (case hle => with_unfolding_all exact Nat.le_of_ble_eq_true rfl))
  | (refine ev_lt ?he; (case he => with_unfolding_all exact rfl))
  | (refine ev_let ?hal ?_ ?hs; (case hal => assumption); (case hs => with_unfolding_all first | decide +kernel | rfl))
  | (refine ev_var (v := ?vv) ?he ?hd; (case he => with_unfolding_all exact rfl); (case hd => with_unfolding_all walk_at "dp")))

section
variable {P : Program} {w : World} {K : PySem.W.Frag} {mg : Str → Option Value} {base : Heap}
/-- an own error is what a clause of its class catches -/
theorem own_caught {C : Addr} (q1 : PySem.W.subIn K (.ref C) (.type "BaseException") = some true) (q2 : PySem.W.isClsIn K C = true) (q3 : PySem.W.typeIn K (.ref C) = some (.type "type")) (q4 : PySem.W.subIn K (.ref C) (.ref C) = some true) : PySem.W.exmOne K (.ref C) (.ref C) = some true := by
  have q2' : (PySem.W.clsIn K C).isSome = true := q2
  unfold PySem.W.exmOne
  rw [if_pos (by rw [q1]; rfl)]
  show (if ((PySem.W.clsIn K C).isSome && PySem.W.typeIn K (.ref C) == some (.type "type")) = true then PySem.W.subIn K (.ref C) (.ref C) else none) = some true
  rw [if_pos (by rw [q2', q3]; rfl)]
  exact q4

theorem passF {X : Cx} : Passes (L2.CX X.prog X.w) X (fun _ _ _ => False) := fun pins σ H s e s' I c => by
  obtain ⟨_, _, _, _, _, _, _, _, _, _, _, _, z⟩ := c
  exact z.elim
abbrev qS : PyData := .tuple [.str "a", .int 2]
abbrev bS5 : PyData := .tuple [.str "let", .str "b", .int 0, .tuple [.str "number", .int 5]]
abbrev fS : FD := ⟨.str "f", [qS], []⟩
theorem prog_S : progD [fS] [bS5] = true := by decide +kernel
theorem sk_S : (decide (0 < (kindsD [fS] [bS5]).length) && (kindsD [fS] [bS5]).all fun d => numD d 5) = true := by decide +kernel
theorem vr_S : ((declsD [fS] [bS5]).map fun d => strD (nthD d 0)).map V.str = [.str "a", .str "b"] := by decide +kernel
theorem ok_law {f : Addr} {fd : FuncData} (T : Tx K mg) (F : Fun K "law" "law" s_law f fd) : FnOk P w K mg base CX0 16 f fd ["script"] (spLaw K) := by
  refine F.ok sc_law (fun vs H Q E h => ?_) (fun cdv A outer s H vs Q E hr h => ?_)
  · obtain ⟨a, ns, rfl, _⟩ := h
    rfl
  obtain ⟨a, ns, rfl, hL, hz, q⟩ := h
  refine ⟨_, (pss_cons (ps_set (i := 1) sc_law.nd rfl (.inl rfl) (pe_lst (pa_cons (pe_call (ok__law_row T) (hr.mono (by omega)) (by rfl) T.d__law_row.m T.d__law_row.F.kp T.d__law_row.b .nil pass0 (pa_cons (pv 0) (pa_cons pe_int (pa_cons pe_int pa_nil)))) (pa_cons pe_int pa_nil))))
    (pss_cons (ps_for PassesOwn.never rfl (pi_range1 (by rfl) T.b_range (pa_cons pe_int pa_nil)) (pg_name (i := 2) sc_law.nd rfl (.inl rfl)) (pss_cons (ps_set (i := 3) sc_law.nd rfl (.inl rfl) (pe_call (ok__law_program T) (hr.mono (by omega)) (by rfl) T.d__law_program.m T.d__law_program.F.kp T.d__law_program.b .nil pass0 (pa_cons (pv 1) (pa_cons pe_int pa_nil))))
    (pss_cons (ps_if (PW.pt (pw_or (pt_cmpR (neDK K hr.units) (pe_call (ok__law_told T) (hr.mono (by omega)) (by rfl) T.d__law_told.m T.d__law_told.F.kp T.d__law_told.b .nil pass0 (pa_cons (pv 3) pa_nil)) (pe_lst (pa_cons (pe_lc (own := [("f", 4)]) (g := gName 4) rfl sc_law.nd  (plK K (pe_ix (ixL K) (pv 3) pe_int (fun _ _ => rfl))) (blkOk_by (own := [("f", 4)]) (N := n_law) (sc := defScope s_law) (by decide +kernel)) (fun _ _ _ _ _ => (pg_name (i := 4) sc_law.nd rfl (Or.inl rfl))) (fun _ _ _ _ _ => pts_nil) (fun _ _ _ _ _ => (pe_callTy (lstK K) (by rfl) T.b_list (by decide +kernel) (pa_cons (pv 4) pa_nil)))) (pa_cons (pe_ix (ixL K) (pv 3) pe_int (fun _ _ => rfl)) pa_nil))) (nomark _)) (pw_or1 (pt_cmpR op_ne (pe_call (ok__law_told T) (hr.mono (by omega)) (by rfl) T.d__law_told.m T.d__law_told.F.kp T.d__law_told.b .nil pass0 (pa_cons (pe_call (ok__law_spoiled T) (hr.mono (by omega)) (by rfl) T.d__law_spoiled.m T.d__law_spoiled.F.kp T.d__law_spoiled.b .nil pass0 (pa_cons (pv 1) (pa_cons (pv 3) pa_nil))) pa_nil)) pe_str (nomark _))))) (pss_one (ps_ret pe_bl)) pss_nil)
    (pss_cons (ps_set (i := 5) sc_law.nd rfl (.inl rfl) (pe_lst pa_nil))
    (pss_cons (ps_for PassesOwn.never rfl (plK K (pe_ix (ixL K) (pv 3) pe_int (fun _ _ => rfl))) (pg_name (i := 4) sc_law.nd rfl (.inl rfl)) (pss_one (ps_set (i := 5) sc_law.nd rfl (.inl rfl) (pe_op op_cat (pe_op op_cat (pv 5) (pe_lc (own := [("param", 11)]) (g := gName 11) rfl sc_law.nd  (plK K (pe_ix (ixL K) (pv 4) pe_int (fun _ _ => rfl))) (blkOk_by (own := [("param", 11)]) (N := n_law) (sc := defScope s_law) (by decide +kernel)) (fun _ _ _ _ _ => (pg_name (i := 11) sc_law.nd rfl (Or.inl rfl))) (fun _ _ _ _ _ => pts_nil) (fun _ _ _ _ _ => (pe_ix (ixT K) (pv 11) pe_int (fun _ _ => rfl))))) (pe_lc (own := [("st", 10)]) (g := gName 10) rfl sc_law.nd  (plK K (pe_ix (ixL K) (pv 4) pe_int (fun _ _ => rfl))) (blkOk_by (own := [("st", 10)]) (N := n_law) (sc := defScope s_law) (by decide +kernel)) (fun _ _ _ _ _ => (pg_name (i := 10) sc_law.nd rfl (Or.inl rfl))) (fun _ _ _ _ _ => (pts_one (pt_cmpR op_eq (pe_ix (ixT K) (pv 10) pe_int (fun _ _ => rfl)) pe_str (nomark _)))) (fun _ _ _ _ _ => (pe_ix (ixT K) (pv 10) pe_int (fun _ _ => rfl))))))))
    (pss_cons (ps_set (i := 5) sc_law.nd rfl (.inl rfl) (pe_op op_cat (pv 5) (pe_lc (own := [("st", 10)]) (g := gName 10) rfl sc_law.nd  (plK K (pe_ix (ixL K) (pv 3) pe_int (fun _ _ => rfl))) (blkOk_by (own := [("st", 10)]) (N := n_law) (sc := defScope s_law) (by decide +kernel)) (fun _ _ _ _ _ => (pg_name (i := 10) sc_law.nd rfl (Or.inl rfl))) (fun _ _ _ _ _ => (pts_one (pt_cmpR op_eq (pe_ix (ixT K) (pv 10) pe_int (fun _ _ => rfl)) pe_str (nomark _)))) (fun _ _ _ _ _ => (pe_ix (ixT K) (pv 10) pe_int (fun _ _ => rfl))))))
    (pss_cons (ps_set (i := 6) sc_law.nd rfl (.inl rfl) (pe_call (ok__law_made T) (hr.mono (by omega)) (by rfl) T.d__law_made.m T.d__law_made.F.kp T.d__law_made.b .nil passF (pa_cons (pv 3) pa_nil)))
    (pss_cons (ps_if (PW.pt (pw_or (pt_cmpR (neDK K hr.units) (pe_call (ok_variables T) (hr.mono (by omega)) (by rfl) T.d_variables.m T.d_variables.F.kp T.d_variables.b .nil pass0 (pa_cons (pv 6) pa_nil)) (pv 5) (nomark _)) (pw_or1 (pt_cmpR op_notBl (pe_call (ok_is_sketch T) (hr.mono (by omega)) (by rfl) T.d_is_sketch.m T.d_is_sketch.F.kp T.d_is_sketch.b .nil pass0 (pa_cons (pv 6) pa_nil)) pe_bl (nomark _))))) (pss_one (ps_ret pe_bl)) pss_nil)
    (pss_cons (ps_set (i := 7) sc_law.nd rfl (.inl rfl) (pe_callTy (lstK K) (by rfl) T.b_list (by decide +kernel) (pa_cons (pe_ix (ixL K) (pv 3) pe_int (fun _ _ => rfl)) pa_nil)))
    (pss_cons (ps_set (i := 8) sc_law.nd rfl (.inl rfl) (pe_make T.k_Program (ok_Program_initX T) (hr.mono (by omega)) (by rfl) T.g_Program T.d_Program_init.b .nil passF (pa_cons (pe_lc (own := [("f", 4)]) (g := gName 4) rfl sc_law.nd  (plK K (pe_ix (ixL K) (pv 3) pe_int (fun _ _ => rfl))) (blkOk_by (own := [("f", 4)]) (N := n_law) (sc := defScope s_law) (by decide +kernel)) (fun _ _ _ _ _ => (pg_name (i := 4) sc_law.nd rfl (Or.inl rfl))) (fun _ _ _ _ _ => pts_nil) (fun _ _ _ _ _ => (pe_make T.k_Function (ok_Function_init T) (hr.mono (by omega)) (by rfl) T.g_Function T.d_Function_init.b .nil pass0 (pa_cons (pe_ix (ixL K) (pv 4) pe_int (fun _ _ => rfl)) (pa_cons (pe_callTy (lstK K) (by rfl) T.b_list (by decide +kernel) (pa_cons (pe_ix (ixL K) (pv 4) pe_int (fun _ _ => rfl)) pa_nil)) (pa_cons (pe_callTy (lstK K) (by rfl) T.b_list (by decide +kernel) (pa_cons (pe_ix (ixL K) (pv 4) pe_int (fun _ _ => rfl)) pa_nil)) pa_nil)))))) (pa_cons (pv 7) pa_nil))))
    (pss_cons (ps_expr (pe_bm PySem.F.plainAttrs_list PySem.F.slot_list_append PySem.F.type_list_append mt_append (pv 7) (pa_cons (pe_tup (pa_cons pe_str (pa_cons (pe_tup (pa_cons pe_str (pa_cons pe_int pa_nil))) (pa_cons (pe_tup (pa_cons pe_str pa_nil)) pa_nil)))) pa_nil)))
    (pss_one (ps_if (pt_cmpR (neDK K hr.units) (by exact (fldK K (pv 8) rfl)) (pe_ix (ixL K) (pv 3) pe_int (fun _ _ => rfl)) (nomark _)) (pss_one (ps_ret pe_bl)) pss_nil)))))))))))))
    (pss_cons (ps_set (i := 9) sc_law.nd rfl (.inl rfl) (pe_make T.k_Program (ok_Program_initX T) (hr.mono (by omega)) (by rfl) T.g_Program T.d_Program_init.b .nil passF (pa_cons (pe_lst (pa_cons (pe_make T.k_Function (ok_Function_init T) (hr.mono (by omega)) (by rfl) T.g_Function T.d_Function_init.b .nil pass0 (pa_cons pe_str (pa_cons (pe_lst (pa_cons (pe_tup (pa_cons pe_str (pa_cons pe_int pa_nil))) pa_nil)) (pa_cons (pe_lst pa_nil) pa_nil)))) pa_nil)) (pa_cons (pe_lst (pa_cons (pe_tup (pa_cons pe_str (pa_cons pe_str (pa_cons pe_int (pa_cons (pe_tup (pa_cons pe_str (pa_cons pe_int pa_nil))) pa_nil))))) pa_nil)) pa_nil))))
    (pss_one (ps_ret (pe_and (pe_cmpR op_isBl (pe_call (ok_is_sketch T) (hr.mono (by omega)) (by rfl) T.d_is_sketch.m T.d_is_sketch.F.kp T.d_is_sketch.b .nil pass0 (pa_cons (pv 9) pa_nil)) pe_bl (nomark _)) (pe_one (pe_cmpR (eqDK K hr.units) (pe_call (ok_variables T) (hr.mono (by omega)) (by rfl) T.d_variables.m T.d_variables.F.kp T.d_variables.b .nil pass0 (pa_cons (pv 9) pa_nil)) (pe_lst (pa_cons pe_str (pa_cons pe_str pa_nil))) (nomark _))))))))), ?_⟩
  walk_at "r"
  refine ⟨a, ns, 50, rfl, hL, by omega, by omega, fun r H1 rs n1 e1 f1 z1 => ?_⟩
  walk_at "r"
  refine new_lst (by simp) fun b H2 n2 e2 f2 => ?_
  have hb : Bx H2 b r := ⟨0, rs, f2, e2 _ _ f1, z1⟩
  walk_at "r"
  refine r_R1 (by omega) ?_
  refine lp_range (fun k σ h => (∃ x2 x3 x4 x5 x6 x7 x8 x9 x10 x11, σ = [some (.ref a), some (.ref b), x2, x3, x4, x5, x6, x7, x8, x9, x10, x11]) ∧ Bx h b r) ⟨⟨_, _, _, _, _, _, _, _, _, _, rfl⟩, hb⟩ ?_ ?_
  · rintro k σ h hk ⟨⟨x2, x3, x4, x5, x6, x7, x8, x9, x10, x11, rfl⟩, bh⟩
    walk_at "r"
    refine ⟨b, r, 5, rfl, bh, by omega, by omega, fun p fs ss h1 k1 b1 dp ok nob => ?_⟩
    with_reducible refine w_name ?_
    with_reducible refine w_seq ?_
    with_reducible refine w_if ?_
    have etf : List.map tfD fs = (fs.map TF.fd).map fdat := by rw [List.map_map]; rfl
    have pok := prog_ok ok
    have f4 := ok.f4
    have s40 := ok.s40
    have sm1 : smAll (List.map tfD fs) = true := sm_map fun f hf => sm_tf (ok.fo f hf)
    have sm2 : smAll (List.map stD ss) = true := sm_map fun s hs => sm_stD (ok.so s hs)
    have smp : smD (.list [.list (List.map tfD fs), .list (List.map stD ss)]) = true := sm_lst (and_t (sm_lst sm1 (by rw [List.length_map]; omega)) (and_t (sm_lst sm2 (by rw [List.length_map]; omega)) rfl)) (by simp)
    obtain ⟨sh, er⟩ := shp_p ok
    have dpH : Dp K h1 (.ref p) (.list [.list (List.map tfD fs), .list (List.map stD ss)]) := dp_ex (dl_le _ _) dp
    have dsH : Ds K h1 (.ref p) (.list [.list (List.map fdat (fs.map TF.fd)), .list (List.map stD ss)]) := by rw [← etf]; exact ⟨dpH, smp⟩
    obtain ⟨_, u1, u2, ep, hp2, d1, d2⟩ := dp_l2 dp
    cases ep
    obtain ⟨pf, xs, rfl, hf, df⟩ := dp_lst d1
    obtain ⟨pb, ys, rfl, hbd, db⟩ := dp_lst d2
    have L1 := dl_le [b] h1
    have lx : xs.length = fs.length := by rw [dpa_len df, List.length_map]
    have lys : ys.length = ss.length := by rw [dpa_len db, List.length_map]
    with_reducible refine w_or ?_
    walk_at "r"
    refine ⟨.ref p, fs.map TF.fd, List.map stD ss, rfl, dsH, fun _ v' h2 e2 dv => ?_, fun c => by rw [pok] at c; cases c⟩
    walk_at "r"
    refine a_ixL (v := .ref pf) (ex_sl (ex_sl hp2 L1) e2) (atI_nat (j := 0) rfl) ?_
    refine c_L (ex_sl (ex_sl hf L1) e2) ?_
    refine cp_list (xs := xs) (fun l k h => Ex h2 h ∧ ∃ acc, h l = some (.lst acc) ∧ DpAll K (dl [l] h) acc (List.map tfD (fs.take k)) ∧ acc.length = k) (fun l n => ⟨Ex.new n, [], upd_same, .nil, rfl⟩) (fun l k h _ _ z => ex_sl (ex_sl (ex_sl hf L1) e2) z.1) ?_ ?_
    · rintro l j u h3 nl hj ⟨e3, acc, fl, DL, la⟩
      obtain ⟨d, hd, du⟩ := dpa_at df hj
      rw [List.getElem?_map] at hd
      cases hg : fs[j]? with
      | none => rw [hg] at hd; cases hd
      | some g =>
      rw [hg] at hd
      cases hd
      have hj1 := at_lt hg
      obtain ⟨pg, w1, w2, w3, rfl, hpg, g1, g2, g3⟩ := dp_l3 du
      walk_at "r"
      refine ⟨rfl, ?_⟩
      walk_at "r"
      refine a_lstL (ex_sl (ex_sl hpg L1) (e2.trans e3)) fun t h4 n4 e4 f4' => ?_
      have tl : t ∉ [l] := by simpa using (ne_old fl n4).symm
      have X : Ex h1 (dl [l] h4) := fun x o hx => by
        have nx : x ≠ l := ne_of_none (e2 _ _ hx) nl
        rw [dl_nin (by simpa using nx)]
        exact e4 _ _ (e3 _ _ (e2 _ _ hx))
      have XL := L1.trans X
      refine ⟨acc, e4 _ _ fl, sz_lt (by omega), (e3.trans e4).mut nl, acc ++ [.ref t], upd_same, ?_, by rw [List.length_append, la]; rfl⟩
      rw [dl_upd (by simp), take_snoc hg, List.map_append]
      exact dpa_snoc (dpa_ex (dl_ex e4) DL) (.lst (SqL.of (dl_at tl f4')) (.cons (dp_ex XL g1) (.cons (dp_ex XL g2) (.cons (dp_ex XL g3) .nil))))
    rintro l h3 nl ⟨e3, acc, fl, DL, la⟩
    rw [lx, List.take_length] at DL
    walk_at "r"
    have E3 := e2.trans e3
    refine a_ixL (v := .ref pb) (ex_sl (ex_sl hp2 L1) E3) (atI_nat (j := 1) rfl) ?_
    walk_at "r"
    refine new_lst (by simp) fun t h4 n4 e4 f4' => ?_
    have E4 := E3.trans e4
    rw [← etf] at dv
    refine ⟨_, _, dp_ex (e3.trans e4) dv, .lst (SqL.of f4') (.cons (.lst (SqL.of (e4 _ _ fl)) (dpa_ex ((dl_le _ _).trans e4) DL)) (.cons (dp_ex (L1.trans E4) d2) .nil)), sh, sh, ?_⟩
    rw [er]
    walk_at "r"
    have b4 := bx_ex b1 E4
    have dp4 : Dp K (dl [b] h4) (.ref p) (.list [.list (List.map tfD fs), .list (List.map stD ss)]) := dp_ex (dl_ex E4) dp
    refine ⟨b, r, p, fs, ss, rfl, b4, dp4, ok, nob, fun v2 fs2 ss2 h5 k5 b5 dv2 pn => ?_⟩
    walk_at "r"
    refine ⟨v2, fs2, ss2, rfl, ⟨dp_ex (dl_le _ _) dv2.1, dv2.2⟩, fun c => (by rw [pn] at c; cases c), fun _ h6 e6 => ?_⟩
    walk_at "r"
    refine ite2 (fun c => absurd c (by decide)) (fun _ => ?_)
    walk_at "r"
    have X16 : Ex (dl [b] h1) (dl [b] h6) := (dl_ex E4).trans ((dl_ks k5).trans (dl_ex e6))
    have b6 := bx_ex b5 e6
    -- the names
    refine new_lst (xs := []) (by simp) fun ln h7 n7 e7 f7 => ?_
    walk_at "r"
    have X7 : Ex (dl [b] h1) (dl [b] h7) := X16.trans (dl_ex e7)
    have Y7 := X7.trans (dl_le _ _)
    refine a_ixL (v := .ref pf) (ex_sl hp2 Y7) (atI_nat (j := 0) rfl) ?_
    walk_at "r"
    refine r_L (ex_sl hf Y7) ?_
    refine lp_list (xs := xs) (fun k σ h => (∃ x2 x4 l x6 x7 x8 x9 x10 x11, σ = [some (.ref a), some (.ref b), x2, some (.ref p), x4, some (.ref l), x6, x7, x8, x9, x10, x11] ∧ h l = some (.lst (((declF (fs.take k)).map Prod.fst).map V.str))) ∧ Ex h7 h) ⟨⟨_, _, ln, _, _, _, _, _, _, rfl, f7⟩, Ex.refl _⟩ (fun k σ h _ g => ex_sl (ex_sl hf Y7) g.2) ?_ ?_
    · rintro k u σ h hk ⟨⟨x2, x4, l, x6, x7, x8, x9, x10, x11, rfl, fl⟩, eh⟩
      obtain ⟨d, hd, du⟩ := dpa_at df hk
      rw [List.getElem?_map] at hd
      cases hg : fs[k]? with
      | none => rw [hg] at hd; cases hd
      | some g =>
      rw [hg] at hd
      cases hd
      have gk := ok.fo g (List.mem_of_getElem? hg)
      have hk1 := at_lt hg
      obtain ⟨pg, w1, w2, w3, rfl, hpg, g1, g2, g3⟩ := dp_l3 du
      obtain ⟨pp, vs2, rfl, hpp, dpp⟩ := dp_lst g2
      obtain ⟨pb2, vs3, rfl, hpb, dpb⟩ := dp_lst g3
      have Yh := Y7.trans eh
      have lp : vs2.length = g.p.length := by rw [dpa_len dpp, List.length_map]
      have p4 := gk.p4
      have b12 := gk.b12
      have lnl : (declF (fs.take k)).length ≤ 200 := by
        have : declF fs = declF (fs.take k) ++ declF (fs.drop k) := by
          unfold declF
          rw [← List.flatMap_append, List.take_append_drop]
        have h2 : (declF fs).length ≤ 104 := by
          have z := decls_le (fs := fs.map TF.fd) (ss := []) (by
            rw [List.all_map, List.all_eq_true]
            exact fun f hf => fn_okD (ok.fo f hf)) (by rw [List.length_map]; exact f4) (by simp)
          have e0 := declsD_eq fs []
          rw [List.map_nil] at e0
          rw [e0, List.length_map] at z
          unfold decl at z
          rw [List.length_append] at z
          omega
        rw [this, List.length_append] at h2
        omega
      walk_at "r"
      refine a_ixL (v := .ref pp) (ex_sl hpg Yh) (atI_nat (j := 1) rfl) ?_
      refine c_L (ex_sl hpp Yh) ?_
      refine cp_list (xs := vs2) (fun D j h' => Ex h h' ∧ h' D = some (.lst (((g.p.take j).map Prod.fst).map V.str))) (fun D n => ⟨Ex.new n, upd_same⟩) (fun D j h' _ _ z => ex_sl (ex_sl hpp Yh) z.1) ?_ ?_
      · rintro D j v h' nD hj ⟨e', fz⟩
        obtain ⟨d, hd, dv⟩ := dpa_at dpp hj
        rw [List.getElem?_map] at hd
        cases hq : g.p[j]? with
        | none => rw [hq] at hd; cases hd
        | some qq =>
        rw [hq] at hd
        cases hd
        obtain ⟨p2, a2, rfl, hp2', ha2⟩ := dp_pD dv
        have hj1 := at_lt hq
        walk_at "r"
        refine ⟨rfl, ?_⟩
        walk_at "r"
        refine a_ixT (v := .str qq.1) (ex_st hp2' (Yh.trans e')) (atI_nat (j := 0) rfl) ?_
        refine ⟨_, fz, sz_lt (by rw [List.length_map, List.length_map, List.length_take]; omega), e'.mut nD, ?_⟩
        rw [upd_same, take_snoc hq, List.map_append, List.map_append]
        rfl
      · rintro D h' nD ⟨e', fz⟩
        rw [lp, List.take_length] at fz
        walk_at "r"
        refine a_cat (e' _ _ fl) fz (by rw [List.length_map, List.length_map, List.length_map, List.length_map]; omega) fun l2 h2 n2 e2 f2 => ?_
        rw [← List.map_append, ← List.map_append] at f2
        walk_at "r"
        have E2 := (Yh.trans e').trans e2
        refine a_ixL (v := .ref pb2) (ex_sl hpg E2) (atI_nat (j := 2) rfl) ?_
        refine c_L (ex_sl hpb E2) ?_
        refine cp_letsX (ex_sl hpb E2) (dpa_ex E2 dpb) (by omega) (fun v s h3 D3 N M e3 dv yes no => ?_) fun l3 h3 n3 e3 f3 => ?_
        · have X := dp_ex e3 dv
          cases s with
          | lt x U src =>
            obtain ⟨p, u1, u2, u3, u4, rfl, hp, d1, d2, d3, d4⟩ := dp_fou X
            cases dp_str d1
            cases dp_str d2
            walk_at "r"
            refine ⟨rfl, ?_⟩
            walk_at "r"
            refine a_ixT (v := .str "let") hp (atI_nat (j := 0) rfl) ?_
            walk_at "r"
            refine ite2 (fun c => ?_) (fun c => absurd (show decide (("let" : Str) = "let") = true from by decide) c)
            walk_at "r"
            exact a_ixT (v := .str x) hp (atI_nat (j := 1) rfl) (yes x U src rfl)
          | put x j s =>
            obtain ⟨p, u1, u2, u3, rfl, hp, d1, d2, d3⟩ := dp_thr X
            cases dp_str d1
            walk_at "r"
            refine ⟨rfl, ?_⟩
            walk_at "r"
            refine a_ixT (v := .str "put") hp (atI_nat (j := 0) rfl) ?_
            walk_at "r"
            exact ite2 (fun c => absurd (show decide (("put" : Str) = "let") = true from c) (by decide)) (fun c => no (fun _ _ _ z => by cases z))
          | call f ss =>
            obtain ⟨p, u1, u2, u3, rfl, hp, d1, d2, d3⟩ := dp_thr X
            cases dp_str d1
            walk_at "r"
            refine ⟨rfl, ?_⟩
            walk_at "r"
            refine a_ixT (v := .str "call") hp (atI_nat (j := 0) rfl) ?_
            walk_at "r"
            exact ite2 (fun c => absurd (show decide (("call" : Str) = "let") = true from c) (by decide)) (fun c => no (fun _ _ _ z => by cases z))
        · have ll := lets_le g.b
          refine a_cat (e3 _ _ f2) f3 (by simp only [List.length_map, List.length_append]; omega) fun l4 h4 n4 e4 f4 => ?_
          rw [← List.map_append] at f4
          walk_at "r"
          refine ⟨⟨_, _, l4, _, _, _, _, _, _, rfl, ?_⟩, ((eh.trans e').trans e2).trans (e3.trans e4)⟩
          rw [f4, take_snoc hg, declF_snoc]
          simp [List.map_append, List.append_assoc]
    rintro σ h8 ⟨⟨x2, x4, l, x6, x7, x8, x9, x10, x11, rfl, fl⟩, eh⟩
    rw [lx, List.take_length] at fl
    have Y8 := Y7.trans eh
    have dl104 : (decl fs ss).length ≤ 104 := by
      have z := decls_le (fs := fs.map TF.fd) (ss := ss.map stD) (by
        rw [List.all_map, List.all_eq_true]
        exact fun f hf => fn_okD (ok.fo f hf)) (by rw [List.length_map]; exact f4) (by rw [List.length_map]; exact s40)
      rw [declsD_eq, List.length_map] at z
      exact z
    walk_at "r"
    refine a_ixL (v := .ref pb) (ex_sl hp2 Y8) (atI_nat (j := 1) rfl) ?_
    refine c_L (ex_sl hbd Y8) ?_
    refine cp_letsX (ex_sl hbd Y8) (dpa_ex Y8 db) (by omega) (fun v s h3 D3 N M e3 dv yes no => ?_) fun l3 h9 n9 e9 f9 => ?_
    · have X := dp_ex e3 dv
      cases s with
      | lt x U src =>
        obtain ⟨p, u1, u2, u3, u4, rfl, hp, d1, d2, d3, d4⟩ := dp_fou X
        cases dp_str d1
        cases dp_str d2
        walk_at "r"
        refine ⟨rfl, ?_⟩
        walk_at "r"
        refine a_ixT (v := .str "let") hp (atI_nat (j := 0) rfl) ?_
        walk_at "r"
        refine ite2 (fun c => ?_) (fun c => absurd (show decide (("let" : Str) = "let") = true from by decide) c)
        walk_at "r"
        exact a_ixT (v := .str x) hp (atI_nat (j := 1) rfl) (yes x U src rfl)
      | put x j s =>
        obtain ⟨p, u1, u2, u3, rfl, hp, d1, d2, d3⟩ := dp_thr X
        cases dp_str d1
        walk_at "r"
        refine ⟨rfl, ?_⟩
        walk_at "r"
        refine a_ixT (v := .str "put") hp (atI_nat (j := 0) rfl) ?_
        walk_at "r"
        exact ite2 (fun c => absurd (show decide (("put" : Str) = "let") = true from c) (by decide)) (fun c => no (fun _ _ _ z => by cases z))
      | call f ss =>
        obtain ⟨p, u1, u2, u3, rfl, hp, d1, d2, d3⟩ := dp_thr X
        cases dp_str d1
        walk_at "r"
        refine ⟨rfl, ?_⟩
        walk_at "r"
        refine a_ixT (v := .str "call") hp (atI_nat (j := 0) rfl) ?_
        walk_at "r"
        exact ite2 (fun c => absurd (show decide (("call" : Str) = "let") = true from c) (by decide)) (fun c => no (fun _ _ _ z => by cases z))
    have dlen : (declF fs).length + (lets ss).length ≤ 104 := by
      unfold decl at dl104
      rw [List.length_append] at dl104
      exact dl104
    refine a_cat (e9 _ _ fl) f9 (by rw [List.length_map, List.length_map, List.length_map, List.length_map]; omega) fun l4 h10 n10 e10 f10 => ?_
    rw [← List.map_append, ← List.map_append] at f10
    change h10 l4 = some (.lst (((decl fs ss).map Prod.fst).map V.str)) at f10
    walk_at "r"
    have E710 := (eh.trans e9).trans e10
    have X10 : Ex (dl [b] h1) (dl [b] h10) := X7.trans (dl_ex E710)
    have Y10 := X10.trans (dl_le _ _)
    have b10 := bx_ex (bx_ex b6 e7) E710
    refine ⟨.ref p, fs.map TF.fd, List.map stD ss, rfl, by rw [← etf]; exact ⟨dp_ex Y10 dp, smp⟩, fun _ z h11 nz e11 pg => ?_, fun c => by rw [pok] at c; cases c⟩
    walk_at "r"
    refine ⟨z, fs.map TF.fd, List.map stD ss, rfl, pg, pok, sm2, fun lv h12 e12 fv => ?_⟩
    walk_at "r"
    have ev : (declsD (fs.map TF.fd) (ss.map stD)).map (fun d => strD (nthD d 0)) = (decl fs ss).map Prod.fst := by
      rw [declsD_eq, List.map_map]
      rfl
    rw [ev] at fv
    obtain ⟨shn, ern⟩ := shp_nm (decl_nm ok)
    refine ⟨_, _, .lst (SqL.of fv) (dp_nms _), .lst (SqL.of ((e11.trans e12) _ _ f10)) (dp_nms _), shn, shn, ?_⟩
    rw [ern]
    walk_at "r"
    obtain ⟨dz, r1, r2, ws1, ws2, z1', z2, z3, z4, z5⟩ := pg.ex
    refine ⟨z, fs.map TF.fd, List.map stD ss, rfl, ⟨dz, r1, r2, ws1, ws2, e12 _ _ z1', e12 _ _ z2, z3.up e12, e12 _ _ z4, dpa_ex e12 z5⟩, pok, sm2, fun h13 e13 => ?_⟩
    rw [kinds_no]
    walk_at "r"
    refine ite2 (fun c => absurd c (by decide)) (fun _ => ?_)
    walk_at "r"
    have E13 := (e11.trans e12).trans e13
    have X13 : Ex (dl [b] h1) (dl [b] h13) := X10.trans (dl_ex E13)
    have Y13 := X13.trans (dl_le _ _)
    have b13 := bx_ex b10 E13
    refine a_ixL (v := .ref pb) (ex_sl hp2 Y13) (atI_nat (j := 1) rfl) ?_
    walk_at "r"
    refine a_lstL (ex_sl hbd Y13) fun gv h14 n14 e14 f14 => ?_
    walk_at "r"
    have gvb : gv ≠ b := (bx_nb b13 n14).symm
    have Z14 : Ex (dl [b] h1) (dl [gv, b] h14) := X13.trans (dl_new n14 e14)
    have W14 : Ex (dl [b] h1) (dl [gv] h14) := Z14.trans (dl_sub (by simp))
    have V14 := Z14.trans (dl_le _ _)
    have b14 := bx_ex b13 e14
    refine a_ixL (v := .ref pf) (ex_sl hp2 V14) (atI_nat (j := 0) rfl) ?_
    refine c_L (ex_sl hf V14) ?_
    have hLg : SqL K (dl [gv] h14) pf xs := ex_sl hf W14
    have hDg : DpAll K (dl [gv] h14) xs ((fs.map TF.fd).map fdat) := by rw [← etf]; exact dpa_ex W14 df
    have hmg : smAll ((fs.map TF.fd).map fdat) = true := by rw [← etf]; exact sm1
    have hys : DpAll K (dl [gv] h14) ys (List.map stD ss) := dpa_ex W14 db
    have lxx : xs.length = (fs.map TF.fd).length := by rw [List.length_map, lx]
    have ff4 : (fs.map TF.fd).length ≤ 4 := by rw [List.length_map]; exact f4
    have ss40 : (List.map stD ss).length ≤ 40 := by rw [List.length_map]; exact s40
    have lyss : ys.length = (List.map stD ss).length := dpa_len hys
    obtain ⟨shs, ers⟩ := shp_ss ok.so
    generalize hfse : fs.map TF.fd = fs' at hDg hmg lxx ff4 pok
    generalize hsse : List.map stD ss = ss' at hys ss40 lyss shs ers sm2 pok db d2
    refine cp_list (xs := xs) (fun l k h => Ex h14 h ∧ Al [l, gv] h ∧ ∃ ys, h l = some (.lst ys) ∧ FnAll K T.C_Function (dl [l, gv] h) ys (fs'.take k))
      (fun l n => ⟨Ex.new n, (Al.nil.cons ((Ex.new n) _ _ f14)).cons upd_same, [], upd_same, .nil⟩) (fun l k h _ _ g => ex_sl (ex_sl hLg (dl_le _ _)) g.1) ?_ ?_
    · rintro l k x h nl hx ⟨e, al, ys, f, fD⟩
      obtain ⟨d, hd', dx⟩ := ds_at hDg hmg hx
      obtain ⟨fd, hd2, rfl⟩ := fdat_at hd'
      obtain ⟨p0, u, q1, q2, rfl, g0, gu, g1, g2⟩ := ds_fdat dx
      obtain ⟨z1, i1, j1⟩ := g1.ex
      obtain ⟨z2, i2, j2⟩ := g2.ex
      have hk := at_lt hx
      have yl := fD.len
      rw [take_len hd2] at yl
      have Lg := dl_le [gv] h14
      walk_at "r"
      refine ⟨rfl, ?_⟩
      walk_at "r"
      refine a_ixL (v := u) (ex_sl (ex_sl g0 Lg) e) rfl ?_
      walk_at "r"
      refine a_ixL (v := .ref q1) (ex_sl (ex_sl g0 Lg) e) rfl ?_
      walk_at "r"
      refine a_lstL (ex_sl (ex_sl i1 Lg) e) fun r1 H1 n1 e1 f1 => ?_
      walk_at "r"
      refine a_ixL (v := .ref q2) (ex_sl (ex_sl g0 Lg) (e.trans e1)) rfl ?_
      walk_at "r"
      refine a_lstL (ex_sl (ex_sl i2 Lg) (e.trans e1)) fun r2 H2 n2 e2 f2 => ?_
      walk_at "r"
      have E2 := (e.trans e1).trans e2
      refine a_new fun y dy H3 n3 n4 n5 e3 f3 f4 => ?_
      have L0 : Ex (dl [gv] h14) (dl [l, gv] H2) := fun b o z => by
        by_cases hb : b ∈ [gv]
        · rw [dl_in hb] at z; cases z
        · rw [dl_nin hb] at z
          have nb : b ≠ l := ne_of_none z nl
          rw [dl_nin (by simpa using ⟨nb, by simpa using hb⟩)]
          exact E2 b o z
      have al2 := (al.ex e1).ex e2
      have ny := al2.nin n3
      have nd := al2.nin n4
      have M : Ex (dl [l, gv] H2) (dl [y, dy, l, gv] H3) := fun b o z => by
        by_cases hb : b ∈ [l, gv]
        · rw [dl_in hb] at z
          cases z
        · rw [dl_nin hb] at z
          rw [dl_nin (by
            intro c
            rcases List.mem_cons.mp c with c | c
            · rw [c, n3] at z; cases z
            rcases List.mem_cons.mp c with c | c
            · rw [c, n4] at z; cases z
            · exact hb c)]
          exact e3 b o z
      have N := L0.trans M
      have r1n : r1 ∉ [l, gv] := al.nin n1
      have r2n : r2 ∉ [l, gv] := (al.ex e1).nin n2
      have D1 : Dl K (dl [y, dy, l, gv] H3) r1 fd.p := ⟨⟨z1, SqL.of (M _ _ (dl_at r1n (e2 _ _ f1))), dpa_ex N j1⟩, g1.sm, g1.le⟩
      have D2 : Dl K (dl [y, dy, l, gv] H3) r2 fd.b := ⟨⟨z2, SqL.of (M _ _ (dl_at r2n f2)), dpa_ex N j2⟩, g2.sm, g2.le⟩
      refine ⟨[y, dy, l, gv], y, dy, u, r1, r2, fd, rfl, ((al2.ex e3).cons f4).cons f3, List.mem_cons_self .., f3, ds_ex gu N, D1, D2, fun s1 s2 w1 w2 H4 k4 m1 m2 nq c0 c1 c2 B1 B2 => ⟨rfl, ?_⟩⟩
      have E24 : Ex H2 H4 := fun b o z => k4 b o (fun c => by rw [List.mem_singleton] at c; rw [c, n3] at z; cases z) (e3 b o z)
      have O : Ex (dl [y, dy, l, gv] H4) (dl [l, gv] H4) := dl_sub fun b c => List.mem_cons_of_mem _ (List.mem_cons_of_mem _ c)
      have U : Ex (dl [y, dy, l, gv] H3) (dl [y, dy, l, gv] H4) := dl_ks fun b o hb z => k4 b o (fun c => hb (by rw [List.mem_singleton] at c; rw [c]; exact List.mem_cons_self ..)) z
      have al3 : Al [l, gv] H3 := al2.ex e3
      have s1n : s1 ∉ [l, gv] := al3.nin m1
      have s2n : s2 ∉ [l, gv] := al3.nin m2
      have E04 : Ex h H4 := (e1.trans e2).trans E24
      have yl2 : ys.length < 100000 := by omega
      refine ⟨ys, E04 _ _ f, sz_lt yl2, (E2.trans E24).mut nl, (al.ex E04).upd, ys ++ [.ref y], upd_same, ?_⟩
      rw [dl_upd (by simp), take_snoc hd2]
      refine FnAll.snoc ⟨dy, u, s1, s2, dl_at ny c0, ds_ex gu ((N.trans U).trans O), ⟨⟨w1, dl_at s1n c1, dpa_ex O B1⟩, g1.sm, g1.le⟩, ⟨⟨w2, dl_at s2n c2, dpa_ex O B2⟩, g2.sm, g2.le⟩⟩ (fD.up (dl_ex E04))
    rintro l h nl ⟨e, al, ys2, f, fD⟩
    rw [lxx, List.take_length] at fD
    walk_at "r"
    refine a_new fun x dx H2 m2' m3' m4' e2' f2' f3' => ?_
    have Mx : Ex (dl [l, gv] h) (dl [x, dx, gv] H2) := fun b o z => by
      by_cases hb : b ∈ [l, gv]
      · rw [dl_in hb] at z; cases z
      · rw [dl_nin hb] at z
        have z1 : b ≠ x := ne_of_none z m2'
        have z2 : b ≠ dx := ne_of_none z m3'
        have z3 : b ≠ gv := fun y => hb (by rw [y]; simp)
        rw [dl_nin (by simpa using ⟨z1, z2, z3⟩)]
        exact e2' b o z
    have gvH : h gv = some (.lst ys) := e _ _ f14
    have lS : l ∉ [x, dx, gv] := by simpa using ⟨ne_of_none f m2', ne_of_none f m3', ne_of_none (e _ _ f14) m2' |> fun _ => (ne_old (f14) nl).symm⟩
    have Gx : Ex (dl [gv] h14) (dl [x, dx, gv] H2) := fun b o z => by
      by_cases hb : b ∈ [gv]
      · rw [dl_in hb] at z; cases z
      · rw [dl_nin hb] at z
        have y := e b o z
        have z1 : b ≠ x := ne_of_none y m2'
        have z2 : b ≠ dx := ne_of_none y m3'
        rw [dl_nin (by simpa using ⟨z1, z2, by simpa using hb⟩)]
        exact e2' b o y
    refine ⟨[x, dx, gv], x, dx, l, gv, ys2, fs', ss', rfl, ((Al.nil.cons (e2' _ _ gvH)).cons f3').cons f2', List.mem_cons_self .., f2', SqL.of (dl_at lS (e2' _ _ f)), fD.up Mx, by omega, ne_of_none gvH m2', ⟨ys, SqL.of (e2' _ _ gvH), dpa_ex Gx hys, sm2, by omega⟩, fun c q1 q2 w1 w2 H3 k3 p1' p2' c0 c1 A1 _ c2 B2 => ⟨rfl, ?_⟩, fun c => by rw [pok] at c; cases c⟩
    have E3 : Ex h14 H3 := fun b o z => k3 b o (fun y => ne_of_none (e b o z) m2' (by simpa using y)) (e2' b o (e b o z))
    have gv3 : H3 gv = some (.lst ys) := E3 _ _ f14
    walk_at "r"
    refine ⟨a_ty gv3, ?_⟩
    walk_at "r"
    refine new_tup (by simp) fun t1 i1 o1 e1' g1' => ?_
    walk_at "r"
    refine new_tup (by simp) fun t2 i2 o2 e2'' g2' => ?_
    walk_at "r"
    refine new_tup (by simp) fun t3 i3 o3 e3' g3' => ?_
    walk_at "r"
    have E33 := (e1'.trans e2'').trans e3'
    refine a_app (E33 _ _ gv3) (by omega) ?_
    have kg : Ks [gv] i3 (upd i3 gv (.lst (ys ++ [.ref t3]))) := (Ks.refl _ _).upd (by simp)
    have dg : dl [gv, b] (upd i3 gv (.lst (ys ++ [.ref t3]))) = dl [gv, b] i3 := dl_upd (by simp)
    have dg2 : dl [x, dx, gv] (upd i3 gv (.lst (ys ++ [.ref t3]))) = dl [x, dx, gv] i3 := dl_upd (by simp)
    generalize upd i3 gv (.lst (ys ++ [.ref t3])) = i4 at kg dg dg2 ⊢
    walk_at "r"
    have xgv : x ≠ gv := (ne_of_none gvH m2').symm
    have q2gv : q2 ≠ gv := (ne_of_none (e2' _ _ gvH) p2').symm
    refine a_get T.c_Program T.n_Program_statements (kg _ _ (by simpa using xgv) (E33 _ _ c0)) (pg_sts _ _) ?_
    walk_at "r"
    have ZZ : Ex (dl [b] h1) i4 := by
      have : Ex (dl [b] h1) (dl [gv, b] i4) := by
        rw [dg]
        exact Z14.trans (dl_ex (E3.trans E33))
      exact this.trans (dl_le _ _)
    refine a_ixL (v := .ref pb) (ex_sl hp2 ZZ) (atI_nat (j := 1) rfl) ?_
    have BB : DpAll K i4 w2 ss' := by
      have := dpa_ex (dl_ex E33) B2
      rw [← dg2] at this
      exact dpa_ex (dl_le _ _) this
    refine ⟨.list ss', .list ss', .lst (SqL.of (kg _ _ (by simpa using q2gv) (E33 _ _ c2))) BB, dp_ex ZZ d2, shs, shs, ?_⟩
    rw [ers]
    walk_at "r"
    refine ⟨⟨_, _, _, _, _, _, _, _, _, _, rfl⟩, bx_ks (bx_ex b14 (E3.trans E33)) kg (by simpa using gvb.symm) (by simpa using bx_nr b13 n14)⟩
  · rintro σ h ⟨⟨x2, x3, x4, x5, x6, x7, x8, x9, x10, x11, rfl⟩, bh⟩
    walk_at "r"
    refine new_tup (by simp) fun t1 h1 n1 e1 g1 => ?_
    walk_at "r"
    refine new_lst (by simp) fun l1 h2 n2 e2 g2 => ?_
    walk_at "r"
    refine new_lst (xs := []) (by simp) fun l2 h3 n3 e3 g3 => ?_
    walk_at "r"
    refine a_new fun y dy Hm m1 m2 m3 em fy fdy => ?_
    have N := ex_two m1 m2 em
    have dq : Dp K h3 (.ref t1) qS := .tup (SqT.of (e3 _ _ (e2 _ _ g1))) (.cons (.str _) (.cons (.int _) .nil))
    refine ⟨[y, dy], y, dy, .str "f", l1, l2, fS, rfl, (Al.nil.cons fdy).cons fy, List.mem_cons_self .., fy, ⟨.str _, rfl⟩, ⟨⟨[.ref t1], SqL.of (N _ _ (e3 _ _ g2)), .cons (dp_ex N dq) .nil⟩, rfl, Nat.le_of_ble_eq_true rfl⟩, ⟨⟨[], SqL.of (N _ _ g3), .nil⟩, rfl, Nat.le_of_ble_eq_true rfl⟩, fun q1 q2 ys1 ys2 Hn kn u1 u2 nq c0 c1 c2 B1 B2 => ⟨rfl, ?_⟩⟩
    have B1n := dpa_ex (dl_le [y, dy] Hn) B1
    have B2n := dpa_ex (dl_le [y, dy] Hn) B2
    walk_at "r"
    refine new_lst (by simp) fun pf Ho no eo fo => ?_
    walk_at "r"
    refine new_tup (by simp) fun t2 Ho2 no2 eo2 fo2 => ?_
    walk_at "r"
    refine new_tup (by simp) fun t3 Ho3 no3 eo3 fo3 => ?_
    walk_at "r"
    refine new_lst (by simp) fun ps Hp np2 ep fp => ?_
    walk_at "r"
    refine a_new fun z dz Hq v1 v2 v3 eq fz fdz => ?_
    have M := ex_two v1 v2 eq
    have enp := ((eo.trans eo2).trans eo3).trans ep
    have NF : FnAt K T.C_Function (dl [z, dz] Hq) y fS := ⟨dy, .str "f", q1, q2, M _ _ (enp _ _ c0), ⟨.str _, rfl⟩, ⟨⟨ys1, M _ _ (enp _ _ c1), dpa_ex (enp.trans M) B1n⟩, rfl, Nat.le_of_ble_eq_true rfl⟩, ⟨⟨ys2, M _ _ (enp _ _ c2), dpa_ex (enp.trans M) B2n⟩, rfl, Nat.le_of_ble_eq_true rfl⟩⟩
    have db5 : Dp K Hp (.ref t3) bS5 := .tup (SqT.of (ep _ _ fo3)) (.cons (.str _) (.cons (.str _) (.cons (.int _) (.cons (.tup (SqT.of (ep _ _ (eo3 _ _ fo2))) (.cons (.str _) (.cons (.int _) .nil))) .nil))))
    refine ⟨[z, dz], z, dz, pf, ps, [.ref y], [fS], [bS5], rfl, (Al.nil.cons fdz).cons fz, List.mem_cons_self .., fz, SqL.of (M _ _ ((eo2.trans (eo3.trans ep)) _ _ fo)), .cons NF .nil, Nat.le_of_ble_eq_true rfl, ne_of_none fp v1, ⟨[.ref t3], SqL.of (eq _ _ fp), .cons (dp_ex M db5) .nil, by decide +kernel, by decide⟩, fun _ r1 r2 ws1 ws2 Hr kr w1 w2 g0 h1' A nw h2' D2 => ⟨rfl, ?_⟩, fun c => by rw [prog_S] at c; cases c⟩
    have O := dl_le [z, dz] Hr
    have pg : PgF K T.C_Program T.C_Function Hr z [fS] [bS5] := ⟨dz, r1, r2, ws1, ws2, g0, h1', A.up O, h2', dpa_ex O D2⟩
    have sS : smAll [bS5] = true := by decide +kernel
    walk_at "r"
    refine ⟨z, [fS], [bS5], rfl, pg, prog_S, sS, fun Hs es => ?_⟩
    rw [sk_S]
    walk_at "r"
    obtain ⟨dz', r1', r2', ws1', ws2', z1, z2, z3, z4, z5⟩ := pg.ex
    refine ite2 (fun _ => ?_) (fun c => absurd rfl c)
    walk_at "r"
    refine ⟨z, [fS], [bS5], rfl, ⟨dz', r1', r2', ws1', ws2', es _ _ z1, es _ _ z2, z3.up es, es _ _ z4, dpa_ex es z5⟩, prog_S, sS, fun lv Ht et fv => ?_⟩
    rw [vr_S] at fv
    walk_at "r"
    refine new_lst (by simp) fun le Hu nu eu fu => ?_
    refine ⟨.list [.str "a", .str "b"], .list [.str "a", .str "b"], .lst (SqL.of (eu _ _ fv)) (.cons (.str _) (.cons (.str _) .nil)), .lst (SqL.of fu) (.cons (.str _) (.cons (.str _) .nil)), by decide +kernel, by decide +kernel, ?_⟩
    rw [show PyData.eqv (.list [.str "a", .str "b"]) (.list [.str "a", .str "b"]) = true from by decide +kernel]
    exact q _

end
theorem all_mk {l : PySem.W.OpenLaw} {w : World} {K : PySem.W.Frag} {h : Heap} {mg : Str → Option Value} {fa : Addr} (X : K.In h) (G : h.Ns mainGlobals mg) (hfa : mg "law" = some (.ref fa))
    {C_RightsError : Addr}
    {nm_RightsError qn_RightsError : Str} {N_RightsError : Addr} {bs_RightsError : List Value} {sn_RightsError : List Str} {sub_RightsError : List Value} {ab_RightsError : Bool} {col_RightsError : Option Bool} {dd_RightsError : Option Addr} {m0_RightsError m1_RightsError m2_RightsError m3_RightsError m5_RightsError : Option Value}
    {C_Function : Addr}
    {C_Program : Addr}
    (aC_RightsError : PySem.W.nsIn K mainGlobals "RightsError" = some (some (.ref C_RightsError)))
    (n_RightsError_reason : PySem.W.findIn K (.ref C_RightsError) "reason" = some none)
    (xL_RightsError : K.lookup C_RightsError = some (excClassObj nm_RightsError qn_RightsError C_RightsError N_RightsError bs_RightsError [.type "ValueError", .type "Exception", .type "BaseException", .type "object"] true sn_RightsError sub_RightsError ab_RightsError col_RightsError dd_RightsError m0_RightsError m1_RightsError m2_RightsError m3_RightsError m5_RightsError "ValueError.__new__"))
    (sa_RightsError : PySem.W.findIn K (.ref C_RightsError) "__setattr__" = some (some (.builtin "object.__setattr__")))
    (ga_RightsError : PySem.W.findIn K (.ref C_RightsError) "__getattribute__" = some (some (.builtin "BaseException.__getattribute__")))
    (gg_RightsError : PySem.W.findIn K (.ref C_RightsError) "__getattr__" = some none)
    (eC_RightsError : PySem.W.subIn K (.ref C_RightsError) (.type "BaseException") = some true)
    (tC_RightsError : PySem.W.typeIn K (.ref C_RightsError) = some (.type "type"))
    (hC_RightsError : PySem.W.hasDictIn K C_RightsError = true)
    (iC_RightsError : PySem.W.isClsIn K C_RightsError = true)
    (sC_RightsError : PySem.W.subIn K (.ref C_RightsError) (.ref C_RightsError) = some true)
    (kC_RightsError : PySem.W.keepIn K (.ref C_RightsError) = true)
    (aC_Function : PySem.W.nsIn K mainGlobals "Function" = some (some (.ref C_Function)))
    (n_Function_name : PySem.W.findIn K (.ref C_Function) "name" = some none)
    (n_Function_params : PySem.W.findIn K (.ref C_Function) "params" = some none)
    (n_Function_body : PySem.W.findIn K (.ref C_Function) "body" = some none)
    (pg_Function : PySem.W.plainGet K C_Function Str.empty = true)
    (hd_Function : PySem.W.hasDictIn K C_Function = true)
    (po_Function : PySem.W.plainOver K C_Function = true)
    (sa_Function : PySem.W.findIn K (.ref C_Function) "__setattr__" = some (some (.builtin "object.__setattr__")))
    (mk_Function : PySem.W.makesIn K C_Function = true)
    (kc_Function : PySem.W.keepIn K (.ref C_Function) = true)
    (ha_Function : PySem.W.findIn K (.ref C_Function) "__class__" = some (some (.builtin "object.__class__")))
    (hm_Function : PySem.W.mroIn K C_Function (.type "object") = some true)
    (aC_Program : PySem.W.nsIn K mainGlobals "Program" = some (some (.ref C_Program)))
    (n_Program_functions : PySem.W.findIn K (.ref C_Program) "functions" = some none)
    (n_Program_statements : PySem.W.findIn K (.ref C_Program) "statements" = some none)
    (pg_Program : PySem.W.plainGet K C_Program Str.empty = true)
    (hd_Program : PySem.W.hasDictIn K C_Program = true)
    (po_Program : PySem.W.plainOver K C_Program = true)
    (sa_Program : PySem.W.findIn K (.ref C_Program) "__setattr__" = some (some (.builtin "object.__setattr__")))
    (mk_Program : PySem.W.makesIn K C_Program = true)
    (kc_Program : PySem.W.keepIn K (.ref C_Program) = true)
    (ha_Program : PySem.W.findIn K (.ref C_Program) "__class__" = some (some (.builtin "object.__class__")))
    (hm_Program : PySem.W.mroIn K C_Program (.type "object") = some true)
    (hn_ : PySem.W.specialIn K (.builtin "object.__class__") "__get__" = some (some (.builtin "getset_descriptor.__get__")))
    (ht_ : PySem.W.takesIn K (.builtin "object.__class__") = some true)
    (vV : PySem.W.findCls K (.type "ValueError") (.type "type") "__init__" = some (.val (.builtin "ValueError.__init__")))
    {f0 : Addr} {od0 an0 : Option Addr} {sl0 : Array (Option Value)} {oc0 kV0 dc0 pm0 cd0 ct0 : Value}
    (a0 : PySem.W.findIn K (.ref C_RightsError) "__init__" = some (some (.ref f0)))
    (i0 : PySem.W.typeIn K (.ref f0) = some (.type "function"))
    (l0 : K.lookup f0 = some ⟨oc0, od0, .func (PySem.W.fnOf "__init__" "RightsError.__init__" (defArgs s_RightsError_init) (defBody s_RightsError_init) (defScope s_RightsError_init) .none kV0 dc0 pm0 an0 cd0 ct0), sl0⟩) (c0 : PySem.W.codeIn K cd0 "RightsError.__init__" = true) (k0 : PySem.W.keepIn K (.ref f0) = true)
    {f1 : Addr} {od1 an1 : Option Addr} {sl1 : Array (Option Value)} {oc1 kV1 dc1 pm1 cd1 ct1 : Value}
    (a1 : PySem.W.nsIn K mainGlobals "is_right" = some (some (.ref f1)))
    (l1 : K.lookup f1 = some ⟨oc1, od1, .func (PySem.W.fnOf "is_right" "is_right" (defArgs s_is_right) (defBody s_is_right) (defScope s_is_right) .none kV1 dc1 pm1 an1 cd1 ct1), sl1⟩) (c1 : PySem.W.codeIn K cd1 "is_right" = true) (k1 : PySem.W.keepIn K (.ref f1) = true)
    {f2 : Addr} {od2 an2 : Option Addr} {sl2 : Array (Option Value)} {oc2 kV2 dc2 pm2 cd2 ct2 : Value}
    (a2 : PySem.W.nsIn K mainGlobals "is_type" = some (some (.ref f2)))
    (l2 : K.lookup f2 = some ⟨oc2, od2, .func (PySem.W.fnOf "is_type" "is_type" (defArgs s_is_type) (defBody s_is_type) (defScope s_is_type) .none kV2 dc2 pm2 an2 cd2 ct2), sl2⟩) (c2 : PySem.W.codeIn K cd2 "is_type" = true) (k2 : PySem.W.keepIn K (.ref f2) = true)
    {f3 : Addr} {od3 an3 : Option Addr} {sl3 : Array (Option Value)} {oc3 kV3 dc3 pm3 cd3 ct3 : Value}
    (a3 : PySem.W.nsIn K mainGlobals "is_value_type" = some (some (.ref f3)))
    (l3 : K.lookup f3 = some ⟨oc3, od3, .func (PySem.W.fnOf "is_value_type" "is_value_type" (defArgs s_is_value_type) (defBody s_is_value_type) (defScope s_is_value_type) .none kV3 dc3 pm3 an3 cd3 ct3), sl3⟩) (c3 : PySem.W.codeIn K cd3 "is_value_type" = true) (k3 : PySem.W.keepIn K (.ref f3) = true)
    {f4 : Addr} {od4 an4 : Option Addr} {sl4 : Array (Option Value)} {oc4 kV4 dc4 pm4 cd4 ct4 : Value}
    (a4 : PySem.W.nsIn K mainGlobals "is_number" = some (some (.ref f4)))
    (l4 : K.lookup f4 = some ⟨oc4, od4, .func (PySem.W.fnOf "is_number" "is_number" (defArgs s_is_number) (defBody s_is_number) (defScope s_is_number) .none kV4 dc4 pm4 an4 cd4 ct4), sl4⟩) (c4 : PySem.W.codeIn K cd4 "is_number" = true) (k4 : PySem.W.keepIn K (.ref f4) = true)
    {f5 : Addr} {od5 an5 : Option Addr} {sl5 : Array (Option Value)} {oc5 kV5 dc5 pm5 cd5 ct5 : Value}
    (a5 : PySem.W.nsIn K mainGlobals "is_name" = some (some (.ref f5)))
    (l5 : K.lookup f5 = some ⟨oc5, od5, .func (PySem.W.fnOf "is_name" "is_name" (defArgs s_is_name) (defBody s_is_name) (defScope s_is_name) .none kV5 dc5 pm5 an5 cd5 ct5), sl5⟩) (c5 : PySem.W.codeIn K cd5 "is_name" = true) (k5 : PySem.W.keepIn K (.ref f5) = true)
    {f6 : Addr} {od6 an6 : Option Addr} {sl6 : Array (Option Value)} {oc6 kV6 dc6 pm6 cd6 ct6 : Value}
    (a6 : PySem.W.nsIn K mainGlobals "is_depth" = some (some (.ref f6)))
    (l6 : K.lookup f6 = some ⟨oc6, od6, .func (PySem.W.fnOf "is_depth" "is_depth" (defArgs s_is_depth) (defBody s_is_depth) (defScope s_is_depth) .none kV6 dc6 pm6 an6 cd6 ct6), sl6⟩) (c6 : PySem.W.codeIn K cd6 "is_depth" = true) (k6 : PySem.W.keepIn K (.ref f6) = true)
    {f7 : Addr} {od7 an7 : Option Addr} {sl7 : Array (Option Value)} {oc7 kV7 dc7 pm7 cd7 ct7 : Value}
    (a7 : PySem.W.nsIn K mainGlobals "is_place" = some (some (.ref f7)))
    (l7 : K.lookup f7 = some ⟨oc7, od7, .func (PySem.W.fnOf "is_place" "is_place" (defArgs s_is_place) (defBody s_is_place) (defScope s_is_place) .none kV7 dc7 pm7 an7 cd7 ct7), sl7⟩) (c7 : PySem.W.codeIn K cd7 "is_place" = true) (k7 : PySem.W.keepIn K (.ref f7) = true)
    {f8 : Addr} {od8 an8 : Option Addr} {sl8 : Array (Option Value)} {oc8 kV8 dc8 pm8 cd8 ct8 : Value}
    (a8 : PySem.W.nsIn K mainGlobals "first_word" = some (some (.ref f8)))
    (l8 : K.lookup f8 = some ⟨oc8, od8, .func (PySem.W.fnOf "first_word" "first_word" (defArgs s_first_word) (defBody s_first_word) (defScope s_first_word) .none kV8 dc8 pm8 an8 cd8 ct8), sl8⟩) (c8 : PySem.W.codeIn K cd8 "first_word" = true) (k8 : PySem.W.keepIn K (.ref f8) = true)
    {f9 : Addr} {od9 an9 : Option Addr} {sl9 : Array (Option Value)} {oc9 kV9 dc9 pm9 cd9 ct9 : Value}
    (a9 : PySem.W.nsIn K mainGlobals "is_source" = some (some (.ref f9)))
    (l9 : K.lookup f9 = some ⟨oc9, od9, .func (PySem.W.fnOf "is_source" "is_source" (defArgs s_is_source) (defBody s_is_source) (defScope s_is_source) .none kV9 dc9 pm9 an9 cd9 ct9), sl9⟩) (c9 : PySem.W.codeIn K cd9 "is_source" = true) (k9 : PySem.W.keepIn K (.ref f9) = true)
    {f10 : Addr} {od10 an10 : Option Addr} {sl10 : Array (Option Value)} {oc10 kV10 dc10 pm10 cd10 ct10 : Value}
    (a10 : PySem.W.nsIn K mainGlobals "is_source_list" = some (some (.ref f10)))
    (l10 : K.lookup f10 = some ⟨oc10, od10, .func (PySem.W.fnOf "is_source_list" "is_source_list" (defArgs s_is_source_list) (defBody s_is_source_list) (defScope s_is_source_list) .none kV10 dc10 pm10 an10 cd10 ct10), sl10⟩) (c10 : PySem.W.codeIn K cd10 "is_source_list" = true) (k10 : PySem.W.keepIn K (.ref f10) = true)
    {f11 : Addr} {od11 an11 : Option Addr} {sl11 : Array (Option Value)} {oc11 kV11 dc11 pm11 cd11 ct11 : Value}
    (a11 : PySem.W.nsIn K mainGlobals "is_declared" = some (some (.ref f11)))
    (l11 : K.lookup f11 = some ⟨oc11, od11, .func (PySem.W.fnOf "is_declared" "is_declared" (defArgs s_is_declared) (defBody s_is_declared) (defScope s_is_declared) .none kV11 dc11 pm11 an11 cd11 ct11), sl11⟩) (c11 : PySem.W.codeIn K cd11 "is_declared" = true) (k11 : PySem.W.keepIn K (.ref f11) = true)
    {f12 : Addr} {od12 an12 : Option Addr} {sl12 : Array (Option Value)} {oc12 kV12 dc12 pm12 cd12 ct12 : Value}
    (a12 : PySem.W.nsIn K mainGlobals "is_statement" = some (some (.ref f12)))
    (l12 : K.lookup f12 = some ⟨oc12, od12, .func (PySem.W.fnOf "is_statement" "is_statement" (defArgs s_is_statement) (defBody s_is_statement) (defScope s_is_statement) .none kV12 dc12 pm12 an12 cd12 ct12), sl12⟩) (c12 : PySem.W.codeIn K cd12 "is_statement" = true) (k12 : PySem.W.keepIn K (.ref f12) = true)
    {f13 : Addr} {od13 an13 : Option Addr} {sl13 : Array (Option Value)} {oc13 kV13 dc13 pm13 cd13 ct13 : Value}
    (a13 : PySem.W.findIn K (.ref C_Function) "__init__" = some (some (.ref f13)))
    (i13 : PySem.W.isFn K (.ref f13) = true)
    (l13 : K.lookup f13 = some ⟨oc13, od13, .func (PySem.W.fnOf "__init__" "Function.__init__" (defArgs s_Function_init) (defBody s_Function_init) (defScope s_Function_init) .none kV13 dc13 pm13 an13 cd13 ct13), sl13⟩) (c13 : PySem.W.codeIn K cd13 "Function.__init__" = true) (k13 : PySem.W.keepIn K (.ref f13) = true)
    {f14 : Addr} {od14 an14 : Option Addr} {sl14 : Array (Option Value)} {oc14 kV14 dc14 pm14 cd14 ct14 : Value}
    (a14 : PySem.W.findIn K (.ref C_Program) "__init__" = some (some (.ref f14)))
    (i14 : PySem.W.isFn K (.ref f14) = true)
    (l14 : K.lookup f14 = some ⟨oc14, od14, .func (PySem.W.fnOf "__init__" "Program.__init__" (defArgs s_Program_init) (defBody s_Program_init) (defScope s_Program_init) .none kV14 dc14 pm14 an14 cd14 ct14), sl14⟩) (c14 : PySem.W.codeIn K cd14 "Program.__init__" = true) (k14 : PySem.W.keepIn K (.ref f14) = true)
    {f15 : Addr} {od15 an15 : Option Addr} {sl15 : Array (Option Value)} {oc15 kV15 dc15 pm15 cd15 ct15 : Value}
    (a15 : PySem.W.nsIn K mainGlobals "copied" = some (some (.ref f15)))
    (l15 : K.lookup f15 = some ⟨oc15, od15, .func (PySem.W.fnOf "copied" "copied" (defArgs s_copied) (defBody s_copied) (defScope s_copied) .none kV15 dc15 pm15 an15 cd15 ct15), sl15⟩) (c15 : PySem.W.codeIn K cd15 "copied" = true) (k15 : PySem.W.keepIn K (.ref f15) = true)
    {f16 : Addr} {od16 an16 : Option Addr} {sl16 : Array (Option Value)} {oc16 kV16 dc16 pm16 cd16 ct16 : Value}
    (a16 : PySem.W.nsIn K mainGlobals "copied_statement" = some (some (.ref f16)))
    (l16 : K.lookup f16 = some ⟨oc16, od16, .func (PySem.W.fnOf "copied_statement" "copied_statement" (defArgs s_copied_statement) (defBody s_copied_statement) (defScope s_copied_statement) .none kV16 dc16 pm16 an16 cd16 ct16), sl16⟩) (c16 : PySem.W.codeIn K cd16 "copied_statement" = true) (k16 : PySem.W.keepIn K (.ref f16) = true)
    {f17 : Addr} {od17 an17 : Option Addr} {sl17 : Array (Option Value)} {oc17 kV17 dc17 pm17 cd17 ct17 : Value}
    (a17 : PySem.W.nsIn K mainGlobals "copied_statements" = some (some (.ref f17)))
    (l17 : K.lookup f17 = some ⟨oc17, od17, .func (PySem.W.fnOf "copied_statements" "copied_statements" (defArgs s_copied_statements) (defBody s_copied_statements) (defScope s_copied_statements) .none kV17 dc17 pm17 an17 cd17 ct17), sl17⟩) (c17 : PySem.W.codeIn K cd17 "copied_statements" = true) (k17 : PySem.W.keepIn K (.ref f17) = true)
    {f18 : Addr} {od18 an18 : Option Addr} {sl18 : Array (Option Value)} {oc18 kV18 dc18 pm18 cd18 ct18 : Value}
    (a18 : PySem.W.nsIn K mainGlobals "copied_function" = some (some (.ref f18)))
    (l18 : K.lookup f18 = some ⟨oc18, od18, .func (PySem.W.fnOf "copied_function" "copied_function" (defArgs s_copied_function) (defBody s_copied_function) (defScope s_copied_function) .none kV18 dc18 pm18 an18 cd18 ct18), sl18⟩) (c18 : PySem.W.codeIn K cd18 "copied_function" = true) (k18 : PySem.W.keepIn K (.ref f18) = true)
    {f19 : Addr} {od19 an19 : Option Addr} {sl19 : Array (Option Value)} {oc19 kV19 dc19 pm19 cd19 ct19 : Value}
    (a19 : PySem.W.nsIn K mainGlobals "copied_functions" = some (some (.ref f19)))
    (l19 : K.lookup f19 = some ⟨oc19, od19, .func (PySem.W.fnOf "copied_functions" "copied_functions" (defArgs s_copied_functions) (defBody s_copied_functions) (defScope s_copied_functions) .none kV19 dc19 pm19 an19 cd19 ct19), sl19⟩) (c19 : PySem.W.codeIn K cd19 "copied_functions" = true) (k19 : PySem.W.keepIn K (.ref f19) = true)
    {f20 : Addr} {od20 an20 : Option Addr} {sl20 : Array (Option Value)} {oc20 kV20 dc20 pm20 cd20 ct20 : Value}
    (a20 : PySem.W.nsIn K mainGlobals "is_program" = some (some (.ref f20)))
    (l20 : K.lookup f20 = some ⟨oc20, od20, .func (PySem.W.fnOf "is_program" "is_program" (defArgs s_is_program) (defBody s_is_program) (defScope s_is_program) .none kV20 dc20 pm20 an20 cd20 ct20), sl20⟩) (c20 : PySem.W.codeIn K cd20 "is_program" = true) (k20 : PySem.W.keepIn K (.ref f20) = true)
    {f21 : Addr} {od21 an21 : Option Addr} {sl21 : Array (Option Value)} {oc21 kV21 dc21 pm21 cd21 ct21 : Value}
    (a21 : PySem.W.nsIn K mainGlobals "is_function" = some (some (.ref f21)))
    (l21 : K.lookup f21 = some ⟨oc21, od21, .func (PySem.W.fnOf "is_function" "is_function" (defArgs s_is_function) (defBody s_is_function) (defScope s_is_function) .none kV21 dc21 pm21 an21 cd21 ct21), sl21⟩) (c21 : PySem.W.codeIn K cd21 "is_function" = true) (k21 : PySem.W.keepIn K (.ref f21) = true)
    {f22 : Addr} {od22 an22 : Option Addr} {sl22 : Array (Option Value)} {oc22 kV22 dc22 pm22 cd22 ct22 : Value}
    (a22 : PySem.W.nsIn K mainGlobals "are_statements" = some (some (.ref f22)))
    (l22 : K.lookup f22 = some ⟨oc22, od22, .func (PySem.W.fnOf "are_statements" "are_statements" (defArgs s_are_statements) (defBody s_are_statements) (defScope s_are_statements) .none kV22 dc22 pm22 an22 cd22 ct22), sl22⟩) (c22 : PySem.W.codeIn K cd22 "are_statements" = true) (k22 : PySem.W.keepIn K (.ref f22) = true)
    {f23 : Addr} {od23 an23 : Option Addr} {sl23 : Array (Option Value)} {oc23 kV23 dc23 pm23 cd23 ct23 : Value}
    (a23 : PySem.W.nsIn K mainGlobals "declared" = some (some (.ref f23)))
    (l23 : K.lookup f23 = some ⟨oc23, od23, .func (PySem.W.fnOf "declared" "declared" (defArgs s_declared) (defBody s_declared) (defScope s_declared) .none kV23 dc23 pm23 an23 cd23 ct23), sl23⟩) (c23 : PySem.W.codeIn K cd23 "declared" = true) (k23 : PySem.W.keepIn K (.ref f23) = true)
    {f24 : Addr} {od24 an24 : Option Addr} {sl24 : Array (Option Value)} {oc24 kV24 dc24 pm24 cd24 ct24 : Value}
    (a24 : PySem.W.nsIn K mainGlobals "declared_by_lets" = some (some (.ref f24)))
    (l24 : K.lookup f24 = some ⟨oc24, od24, .func (PySem.W.fnOf "declared_by_lets" "declared_by_lets" (defArgs s_declared_by_lets) (defBody s_declared_by_lets) (defScope s_declared_by_lets) .none kV24 dc24 pm24 an24 cd24 ct24), sl24⟩) (c24 : PySem.W.codeIn K cd24 "declared_by_lets" = true) (k24 : PySem.W.keepIn K (.ref f24) = true)
    {f25 : Addr} {od25 an25 : Option Addr} {sl25 : Array (Option Value)} {oc25 kV25 dc25 pm25 cd25 ct25 : Value}
    (a25 : PySem.W.nsIn K mainGlobals "all_names" = some (some (.ref f25)))
    (l25 : K.lookup f25 = some ⟨oc25, od25, .func (PySem.W.fnOf "all_names" "all_names" (defArgs s_all_names) (defBody s_all_names) (defScope s_all_names) .none kV25 dc25 pm25 an25 cd25 ct25), sl25⟩) (c25 : PySem.W.codeIn K cd25 "all_names" = true) (k25 : PySem.W.keepIn K (.ref f25) = true)
    {f26 : Addr} {od26 an26 : Option Addr} {sl26 : Array (Option Value)} {oc26 kV26 dc26 pm26 cd26 ct26 : Value}
    (a26 : PySem.W.nsIn K mainGlobals "all_kinds" = some (some (.ref f26)))
    (l26 : K.lookup f26 = some ⟨oc26, od26, .func (PySem.W.fnOf "all_kinds" "all_kinds" (defArgs s_all_kinds) (defBody s_all_kinds) (defScope s_all_kinds) .none kV26 dc26 pm26 an26 cd26 ct26), sl26⟩) (c26 : PySem.W.codeIn K cd26 "all_kinds" = true) (k26 : PySem.W.keepIn K (.ref f26) = true)
    {f27 : Addr} {od27 an27 : Option Addr} {sl27 : Array (Option Value)} {oc27 kV27 dc27 pm27 cd27 ct27 : Value}
    (a27 : PySem.W.nsIn K mainGlobals "are_different" = some (some (.ref f27)))
    (l27 : K.lookup f27 = some ⟨oc27, od27, .func (PySem.W.fnOf "are_different" "are_different" (defArgs s_are_different) (defBody s_are_different) (defScope s_are_different) .none kV27 dc27 pm27 an27 cd27 ct27), sl27⟩) (c27 : PySem.W.codeIn K cd27 "are_different" = true) (k27 : PySem.W.keepIn K (.ref f27) = true)
    {f28 : Addr} {od28 an28 : Option Addr} {sl28 : Array (Option Value)} {oc28 kV28 dc28 pm28 cd28 ct28 : Value}
    (a28 : PySem.W.nsIn K mainGlobals "are_of_one_kind" = some (some (.ref f28)))
    (l28 : K.lookup f28 = some ⟨oc28, od28, .func (PySem.W.fnOf "are_of_one_kind" "are_of_one_kind" (defArgs s_are_of_one_kind) (defBody s_are_of_one_kind) (defScope s_are_of_one_kind) .none kV28 dc28 pm28 an28 cd28 ct28), sl28⟩) (c28 : PySem.W.codeIn K cd28 "are_of_one_kind" = true) (k28 : PySem.W.keepIn K (.ref f28) = true)
    {f29 : Addr} {od29 an29 : Option Addr} {sl29 : Array (Option Value)} {oc29 kV29 dc29 pm29 cd29 ct29 : Value}
    (a29 : PySem.W.nsIn K mainGlobals "all_calls_fit" = some (some (.ref f29)))
    (l29 : K.lookup f29 = some ⟨oc29, od29, .func (PySem.W.fnOf "all_calls_fit" "all_calls_fit" (defArgs s_all_calls_fit) (defBody s_all_calls_fit) (defScope s_all_calls_fit) .none kV29 dc29 pm29 an29 cd29 ct29), sl29⟩) (c29 : PySem.W.codeIn K cd29 "all_calls_fit" = true) (k29 : PySem.W.keepIn K (.ref f29) = true)
    {f30 : Addr} {od30 an30 : Option Addr} {sl30 : Array (Option Value)} {oc30 kV30 dc30 pm30 cd30 ct30 : Value}
    (a30 : PySem.W.nsIn K mainGlobals "calls_fit" = some (some (.ref f30)))
    (l30 : K.lookup f30 = some ⟨oc30, od30, .func (PySem.W.fnOf "calls_fit" "calls_fit" (defArgs s_calls_fit) (defBody s_calls_fit) (defScope s_calls_fit) .none kV30 dc30 pm30 an30 cd30 ct30), sl30⟩) (c30 : PySem.W.codeIn K cd30 "calls_fit" = true) (k30 : PySem.W.keepIn K (.ref f30) = true)
    {f31 : Addr} {od31 an31 : Option Addr} {sl31 : Array (Option Value)} {oc31 kV31 dc31 pm31 cd31 ct31 : Value}
    (a31 : PySem.W.nsIn K mainGlobals "is_sketch" = some (some (.ref f31)))
    (l31 : K.lookup f31 = some ⟨oc31, od31, .func (PySem.W.fnOf "is_sketch" "is_sketch" (defArgs s_is_sketch) (defBody s_is_sketch) (defScope s_is_sketch) .none kV31 dc31 pm31 an31 cd31 ct31), sl31⟩) (c31 : PySem.W.codeIn K cd31 "is_sketch" = true) (k31 : PySem.W.keepIn K (.ref f31) = true)
    {f32 : Addr} {od32 an32 : Option Addr} {sl32 : Array (Option Value)} {oc32 kV32 dc32 pm32 cd32 ct32 : Value}
    (a32 : PySem.W.nsIn K mainGlobals "variables" = some (some (.ref f32)))
    (l32 : K.lookup f32 = some ⟨oc32, od32, .func (PySem.W.fnOf "variables" "variables" (defArgs s_variables) (defBody s_variables) (defScope s_variables) .none kV32 dc32 pm32 an32 cd32 ct32), sl32⟩) (c32 : PySem.W.codeIn K cd32 "variables" = true) (k32 : PySem.W.keepIn K (.ref f32) = true)
    {f33 : Addr} {od33 an33 : Option Addr} {sl33 : Array (Option Value)} {oc33 kV33 dc33 pm33 cd33 ct33 : Value}
    (a33 : PySem.W.nsIn K mainGlobals "_law_cell" = some (some (.ref f33)))
    (l33 : K.lookup f33 = some ⟨oc33, od33, .func (PySem.W.fnOf "_law_cell" "_law_cell" (defArgs s__law_cell) (defBody s__law_cell) (defScope s__law_cell) .none kV33 dc33 pm33 an33 cd33 ct33), sl33⟩) (c33 : PySem.W.codeIn K cd33 "_law_cell" = true) (k33 : PySem.W.keepIn K (.ref f33) = true)
    {f34 : Addr} {od34 an34 : Option Addr} {sl34 : Array (Option Value)} {oc34 kV34 dc34 pm34 cd34 ct34 : Value}
    (a34 : PySem.W.nsIn K mainGlobals "_law_row" = some (some (.ref f34)))
    (l34 : K.lookup f34 = some ⟨oc34, od34, .func (PySem.W.fnOf "_law_row" "_law_row" (defArgs s__law_row) (defBody s__law_row) (defScope s__law_row) .none kV34 dc34 pm34 an34 cd34 ct34), sl34⟩) (c34 : PySem.W.codeIn K cd34 "_law_row" = true) (k34 : PySem.W.keepIn K (.ref f34) = true)
    {f35 : Addr} {od35 an35 : Option Addr} {sl35 : Array (Option Value)} {oc35 kV35 dc35 pm35 cd35 ct35 : Value}
    (a35 : PySem.W.nsIn K mainGlobals "_law_draw" = some (some (.ref f35)))
    (l35 : K.lookup f35 = some ⟨oc35, od35, .func (PySem.W.fnOf "_law_draw" "_law_draw" (defArgs s__law_draw) (defBody s__law_draw) (defScope s__law_draw) .none kV35 dc35 pm35 an35 cd35 ct35), sl35⟩) (c35 : PySem.W.codeIn K cd35 "_law_draw" = true) (k35 : PySem.W.keepIn K (.ref f35) = true)
    {f36 : Addr} {od36 an36 : Option Addr} {sl36 : Array (Option Value)} {oc36 kV36 dc36 pm36 cd36 ct36 : Value}
    (a36 : PySem.W.nsIn K mainGlobals "_law_right" = some (some (.ref f36)))
    (l36 : K.lookup f36 = some ⟨oc36, od36, .func (PySem.W.fnOf "_law_right" "_law_right" (defArgs s__law_right) (defBody s__law_right) (defScope s__law_right) .none kV36 dc36 pm36 an36 cd36 ct36), sl36⟩) (c36 : PySem.W.codeIn K cd36 "_law_right" = true) (k36 : PySem.W.keepIn K (.ref f36) = true)
    {f37 : Addr} {od37 an37 : Option Addr} {sl37 : Array (Option Value)} {oc37 kV37 dc37 pm37 cd37 ct37 : Value}
    (a37 : PySem.W.nsIn K mainGlobals "_law_rights" = some (some (.ref f37)))
    (l37 : K.lookup f37 = some ⟨oc37, od37, .func (PySem.W.fnOf "_law_rights" "_law_rights" (defArgs s__law_rights) (defBody s__law_rights) (defScope s__law_rights) .none kV37 dc37 pm37 an37 cd37 ct37), sl37⟩) (c37 : PySem.W.codeIn K cd37 "_law_rights" = true) (k37 : PySem.W.keepIn K (.ref f37) = true)
    {f38 : Addr} {od38 an38 : Option Addr} {sl38 : Array (Option Value)} {oc38 kV38 dc38 pm38 cd38 ct38 : Value}
    (a38 : PySem.W.nsIn K mainGlobals "_law_source" = some (some (.ref f38)))
    (l38 : K.lookup f38 = some ⟨oc38, od38, .func (PySem.W.fnOf "_law_source" "_law_source" (defArgs s__law_source) (defBody s__law_source) (defScope s__law_source) .none kV38 dc38 pm38 an38 cd38 ct38), sl38⟩) (c38 : PySem.W.codeIn K cd38 "_law_source" = true) (k38 : PySem.W.keepIn K (.ref f38) = true)
    {f39 : Addr} {od39 an39 : Option Addr} {sl39 : Array (Option Value)} {oc39 kV39 dc39 pm39 cd39 ct39 : Value}
    (a39 : PySem.W.nsIn K mainGlobals "_law_statement" = some (some (.ref f39)))
    (l39 : K.lookup f39 = some ⟨oc39, od39, .func (PySem.W.fnOf "_law_statement" "_law_statement" (defArgs s__law_statement) (defBody s__law_statement) (defScope s__law_statement) .none kV39 dc39 pm39 an39 cd39 ct39), sl39⟩) (c39 : PySem.W.codeIn K cd39 "_law_statement" = true) (k39 : PySem.W.keepIn K (.ref f39) = true)
    {f40 : Addr} {od40 an40 : Option Addr} {sl40 : Array (Option Value)} {oc40 kV40 dc40 pm40 cd40 ct40 : Value}
    (a40 : PySem.W.nsIn K mainGlobals "_law_names" = some (some (.ref f40)))
    (l40 : K.lookup f40 = some ⟨oc40, od40, .func (PySem.W.fnOf "_law_names" "_law_names" (defArgs s__law_names) (defBody s__law_names) (defScope s__law_names) .none kV40 dc40 pm40 an40 cd40 ct40), sl40⟩) (c40 : PySem.W.codeIn K cd40 "_law_names" = true) (k40 : PySem.W.keepIn K (.ref f40) = true)
    {f41 : Addr} {od41 an41 : Option Addr} {sl41 : Array (Option Value)} {oc41 kV41 dc41 pm41 cd41 ct41 : Value}
    (a41 : PySem.W.nsIn K mainGlobals "_law_function" = some (some (.ref f41)))
    (l41 : K.lookup f41 = some ⟨oc41, od41, .func (PySem.W.fnOf "_law_function" "_law_function" (defArgs s__law_function) (defBody s__law_function) (defScope s__law_function) .none kV41 dc41 pm41 an41 cd41 ct41), sl41⟩) (c41 : PySem.W.codeIn K cd41 "_law_function" = true) (k41 : PySem.W.keepIn K (.ref f41) = true)
    {f42 : Addr} {od42 an42 : Option Addr} {sl42 : Array (Option Value)} {oc42 kV42 dc42 pm42 cd42 ct42 : Value}
    (a42 : PySem.W.nsIn K mainGlobals "_law_program" = some (some (.ref f42)))
    (l42 : K.lookup f42 = some ⟨oc42, od42, .func (PySem.W.fnOf "_law_program" "_law_program" (defArgs s__law_program) (defBody s__law_program) (defScope s__law_program) .none kV42 dc42 pm42 an42 cd42 ct42), sl42⟩) (c42 : PySem.W.codeIn K cd42 "_law_program" = true) (k42 : PySem.W.keepIn K (.ref f42) = true)
    {f43 : Addr} {od43 an43 : Option Addr} {sl43 : Array (Option Value)} {oc43 kV43 dc43 pm43 cd43 ct43 : Value}
    (a43 : PySem.W.nsIn K mainGlobals "_law_made" = some (some (.ref f43)))
    (l43 : K.lookup f43 = some ⟨oc43, od43, .func (PySem.W.fnOf "_law_made" "_law_made" (defArgs s__law_made) (defBody s__law_made) (defScope s__law_made) .none kV43 dc43 pm43 an43 cd43 ct43), sl43⟩) (c43 : PySem.W.codeIn K cd43 "_law_made" = true) (k43 : PySem.W.keepIn K (.ref f43) = true)
    {f44 : Addr} {od44 an44 : Option Addr} {sl44 : Array (Option Value)} {oc44 kV44 dc44 pm44 cd44 ct44 : Value}
    (a44 : PySem.W.nsIn K mainGlobals "_law_told" = some (some (.ref f44)))
    (l44 : K.lookup f44 = some ⟨oc44, od44, .func (PySem.W.fnOf "_law_told" "_law_told" (defArgs s__law_told) (defBody s__law_told) (defScope s__law_told) .none kV44 dc44 pm44 an44 cd44 ct44), sl44⟩) (c44 : PySem.W.codeIn K cd44 "_law_told" = true) (k44 : PySem.W.keepIn K (.ref f44) = true)
    {f45 : Addr} {od45 an45 : Option Addr} {sl45 : Array (Option Value)} {oc45 kV45 dc45 pm45 cd45 ct45 : Value}
    (a45 : PySem.W.nsIn K mainGlobals "_law_bad_source" = some (some (.ref f45)))
    (l45 : K.lookup f45 = some ⟨oc45, od45, .func (PySem.W.fnOf "_law_bad_source" "_law_bad_source" (defArgs s__law_bad_source) (defBody s__law_bad_source) (defScope s__law_bad_source) .none kV45 dc45 pm45 an45 cd45 ct45), sl45⟩) (c45 : PySem.W.codeIn K cd45 "_law_bad_source" = true) (k45 : PySem.W.keepIn K (.ref f45) = true)
    {f46 : Addr} {od46 an46 : Option Addr} {sl46 : Array (Option Value)} {oc46 kV46 dc46 pm46 cd46 ct46 : Value}
    (a46 : PySem.W.nsIn K mainGlobals "_law_spoiled" = some (some (.ref f46)))
    (l46 : K.lookup f46 = some ⟨oc46, od46, .func (PySem.W.fnOf "_law_spoiled" "_law_spoiled" (defArgs s__law_spoiled) (defBody s__law_spoiled) (defScope s__law_spoiled) .none kV46 dc46 pm46 an46 cd46 ct46), sl46⟩) (c46 : PySem.W.codeIn K cd46 "_law_spoiled" = true) (k46 : PySem.W.keepIn K (.ref f46) = true)
    {f47 : Addr} {od47 an47 : Option Addr} {sl47 : Array (Option Value)} {oc47 kV47 dc47 pm47 cd47 ct47 : Value}
    (a47 : PySem.W.nsIn K mainGlobals "law" = some (some (.ref f47)))
    (l47 : K.lookup f47 = some ⟨oc47, od47, .func (PySem.W.fnOf "law" "law" (defArgs s_law) (defBody s_law) (defScope s_law) .none kV47 dc47 pm47 an47 cd47 ct47), sl47⟩) (c47 : PySem.W.codeIn K cd47 "law" = true) (k47 : PySem.W.keepIn K (.ref f47) = true)
    {q_RIGHTS : Addr} {oq_RIGHTS : Option Addr} {nq_RIGHTS : Nat} {sq_RIGHTS : Array (Option Value)} {tq_RIGHTS_0 tq_RIGHTS_1 tq_RIGHTS_2 tq_RIGHTS_3 : Tok}
    (u_RIGHTS : PySem.W.nsIn K mainGlobals "RIGHTS" = some (some (.ref q_RIGHTS))) (v_RIGHTS : K.lookup q_RIGHTS = some ⟨.type "tuple", oq_RIGHTS, .seq #[.str "rw" tq_RIGHTS_0, .str "r" tq_RIGHTS_1, .str "w" tq_RIGHTS_2, .str "-" tq_RIGHTS_3] nq_RIGHTS, sq_RIGHTS⟩)
    {k_MOST_RIGHTS : Tok}
    (u_MOST_RIGHTS : PySem.W.nsIn K mainGlobals "MOST_RIGHTS" = some (some (.int 6 k_MOST_RIGHTS)))
    {k_SIGNS : Tok}
    (u_SIGNS : PySem.W.nsIn K mainGlobals "SIGNS" = some (some (.str "abcdefghijklmnopqrstuvwxyz" k_SIGNS)))
    {k_MOST_SIGNS : Tok}
    (u_MOST_SIGNS : PySem.W.nsIn K mainGlobals "MOST_SIGNS" = some (some (.int 8 k_MOST_SIGNS)))
    {k_MOST_STARS : Tok}
    (u_MOST_STARS : PySem.W.nsIn K mainGlobals "MOST_STARS" = some (some (.int 5 k_MOST_STARS)))
    {k_MOST_DEPTH : Tok}
    (u_MOST_DEPTH : PySem.W.nsIn K mainGlobals "MOST_DEPTH" = some (some (.int 5 k_MOST_DEPTH)))
    {k_MOST_NUMBER : Tok}
    (u_MOST_NUMBER : PySem.W.nsIn K mainGlobals "MOST_NUMBER" = some (some (.int 1000 k_MOST_NUMBER)))
    {k_MOST_FUNCTIONS : Tok}
    (u_MOST_FUNCTIONS : PySem.W.nsIn K mainGlobals "MOST_FUNCTIONS" = some (some (.int 4 k_MOST_FUNCTIONS)))
    {k_MOST_PARAMS : Tok}
    (u_MOST_PARAMS : PySem.W.nsIn K mainGlobals "MOST_PARAMS" = some (some (.int 4 k_MOST_PARAMS)))
    {k_MOST_IN_BODY : Tok}
    (u_MOST_IN_BODY : PySem.W.nsIn K mainGlobals "MOST_IN_BODY" = some (some (.int 12 k_MOST_IN_BODY)))
    {k_MOST_STATEMENTS : Tok}
    (u_MOST_STATEMENTS : PySem.W.nsIn K mainGlobals "MOST_STATEMENTS" = some (some (.int 40 k_MOST_STATEMENTS)))
    (z_ValueError : PySem.W.nsIn K mainGlobals "ValueError" = some none)
    (z_str : PySem.W.nsIn K mainGlobals "str" = some none)
    (z_type : PySem.W.nsIn K mainGlobals "type" = some none)
    (z_len : PySem.W.nsIn K mainGlobals "len" = some none)
    (z_all : PySem.W.nsIn K mainGlobals "all" = some none)
    (z_tuple : PySem.W.nsIn K mainGlobals "tuple" = some none)
    (z_int : PySem.W.nsIn K mainGlobals "int" = some none)
    (z_list : PySem.W.nsIn K mainGlobals "list" = some none)
    (z_isinstance : PySem.W.nsIn K mainGlobals "isinstance" = some none)
    (z_set : PySem.W.nsIn K mainGlobals "set" = some none)
    (z_range : PySem.W.nsIn K mainGlobals "range" = some none)
    (z_abs : PySem.W.nsIn K mainGlobals "abs" = some none)
    (z_min : PySem.W.nsIn K mainGlobals "min" = some none) :
    ∃ fd : FuncData, (∀ (s : Shared) (v : Value), BindsTo s fd ⟨[v], []⟩ [("script", v)]) ∧ ∀ base : Heap, K.In base → base.Ns mainGlobals mg → FnOk l.prog w K mg base CX0 16 fa fd ["script"] (spLaw K) := by
  have e := hfa.symm.trans (PySem.W.mg_of X G a47)
  cases e
  have F0 := fun_mk (st := s_RightsError_init) l0 c0 k0
  have F1 := fun_mk (st := s_is_right) l1 c1 k1
  have F2 := fun_mk (st := s_is_type) l2 c2 k2
  have F3 := fun_mk (st := s_is_value_type) l3 c3 k3
  have F4 := fun_mk (st := s_is_number) l4 c4 k4
  have F5 := fun_mk (st := s_is_name) l5 c5 k5
  have F6 := fun_mk (st := s_is_depth) l6 c6 k6
  have F7 := fun_mk (st := s_is_place) l7 c7 k7
  have F8 := fun_mk (st := s_first_word) l8 c8 k8
  have F9 := fun_mk (st := s_is_source) l9 c9 k9
  have F10 := fun_mk (st := s_is_source_list) l10 c10 k10
  have F11 := fun_mk (st := s_is_declared) l11 c11 k11
  have F12 := fun_mk (st := s_is_statement) l12 c12 k12
  have F13 := fun_mk (st := s_Function_init) l13 c13 k13
  have F14 := fun_mk (st := s_Program_init) l14 c14 k14
  have F15 := fun_mk (st := s_copied) l15 c15 k15
  have F16 := fun_mk (st := s_copied_statement) l16 c16 k16
  have F17 := fun_mk (st := s_copied_statements) l17 c17 k17
  have F18 := fun_mk (st := s_copied_function) l18 c18 k18
  have F19 := fun_mk (st := s_copied_functions) l19 c19 k19
  have F20 := fun_mk (st := s_is_program) l20 c20 k20
  have F21 := fun_mk (st := s_is_function) l21 c21 k21
  have F22 := fun_mk (st := s_are_statements) l22 c22 k22
  have F23 := fun_mk (st := s_declared) l23 c23 k23
  have F24 := fun_mk (st := s_declared_by_lets) l24 c24 k24
  have F25 := fun_mk (st := s_all_names) l25 c25 k25
  have F26 := fun_mk (st := s_all_kinds) l26 c26 k26
  have F27 := fun_mk (st := s_are_different) l27 c27 k27
  have F28 := fun_mk (st := s_are_of_one_kind) l28 c28 k28
  have F29 := fun_mk (st := s_all_calls_fit) l29 c29 k29
  have F30 := fun_mk (st := s_calls_fit) l30 c30 k30
  have F31 := fun_mk (st := s_is_sketch) l31 c31 k31
  have F32 := fun_mk (st := s_variables) l32 c32 k32
  have F33 := fun_mk (st := s__law_cell) l33 c33 k33
  have F34 := fun_mk (st := s__law_row) l34 c34 k34
  have F35 := fun_mk (st := s__law_draw) l35 c35 k35
  have F36 := fun_mk (st := s__law_right) l36 c36 k36
  have F37 := fun_mk (st := s__law_rights) l37 c37 k37
  have F38 := fun_mk (st := s__law_source) l38 c38 k38
  have F39 := fun_mk (st := s__law_statement) l39 c39 k39
  have F40 := fun_mk (st := s__law_names) l40 c40 k40
  have F41 := fun_mk (st := s__law_function) l41 c41 k41
  have F42 := fun_mk (st := s__law_program) l42 c42 k42
  have F43 := fun_mk (st := s__law_made) l43 c43 k43
  have F44 := fun_mk (st := s__law_told) l44 c44 k44
  have F45 := fun_mk (st := s__law_bad_source) l45 c45 k45
  have F46 := fun_mk (st := s__law_spoiled) l46 c46 k46
  have F47 := fun_mk (st := s_law) l47 c47 k47
  have B0 := F0.binds (ps := p_RightsError_init) fun _ _ _ _ _ _ us hl => match us, hl with | [_, _], _ => rfl
  have B1 := F1.binds (ps := p_is_right) fun _ _ _ _ _ _ us hl => match us, hl with | [_], _ => rfl
  have B2 := F2.binds (ps := p_is_type) fun _ _ _ _ _ _ us hl => match us, hl with | [_], _ => rfl
  have B3 := F3.binds (ps := p_is_value_type) fun _ _ _ _ _ _ us hl => match us, hl with | [_], _ => rfl
  have B4 := F4.binds (ps := p_is_number) fun _ _ _ _ _ _ us hl => match us, hl with | [_, _], _ => rfl
  have B5 := F5.binds (ps := p_is_name) fun _ _ _ _ _ _ us hl => match us, hl with | [_], _ => rfl
  have B6 := F6.binds (ps := p_is_depth) fun _ _ _ _ _ _ us hl => match us, hl with | [_], _ => rfl
  have B7 := F7.binds (ps := p_is_place) fun _ _ _ _ _ _ us hl => match us, hl with | [_], _ => rfl
  have B8 := F8.binds (ps := p_first_word) fun _ _ _ _ _ _ us hl => match us, hl with | [_], _ => rfl
  have B9 := F9.binds (ps := p_is_source) fun _ _ _ _ _ _ us hl => match us, hl with | [_], _ => rfl
  have B10 := F10.binds (ps := p_is_source_list) fun _ _ _ _ _ _ us hl => match us, hl with | [_], _ => rfl
  have B11 := F11.binds (ps := p_is_declared) fun _ _ _ _ _ _ us hl => match us, hl with | [_], _ => rfl
  have B12 := F12.binds (ps := p_is_statement) fun _ _ _ _ _ _ us hl => match us, hl with | [_], _ => rfl
  have B13 := F13.binds (ps := p_Function_init) fun _ _ _ _ _ _ us hl => match us, hl with | [_, _, _, _], _ => rfl
  have B14 := F14.binds (ps := p_Program_init) fun _ _ _ _ _ _ us hl => match us, hl with | [_, _, _], _ => rfl
  have B15 := F15.binds (ps := p_copied) fun _ _ _ _ _ _ us hl => match us, hl with | [_], _ => rfl
  have B16 := F16.binds (ps := p_copied_statement) fun _ _ _ _ _ _ us hl => match us, hl with | [_], _ => rfl
  have B17 := F17.binds (ps := p_copied_statements) fun _ _ _ _ _ _ us hl => match us, hl with | [_], _ => rfl
  have B18 := F18.binds (ps := p_copied_function) fun _ _ _ _ _ _ us hl => match us, hl with | [_], _ => rfl
  have B19 := F19.binds (ps := p_copied_functions) fun _ _ _ _ _ _ us hl => match us, hl with | [_], _ => rfl
  have B20 := F20.binds (ps := p_is_program) fun _ _ _ _ _ _ us hl => match us, hl with | [_, _], _ => rfl
  have B21 := F21.binds (ps := p_is_function) fun _ _ _ _ _ _ us hl => match us, hl with | [_], _ => rfl
  have B22 := F22.binds (ps := p_are_statements) fun _ _ _ _ _ _ us hl => match us, hl with | [_, _], _ => rfl
  have B23 := F23.binds (ps := p_declared) fun _ _ _ _ _ _ us hl => match us, hl with | [_, _], _ => rfl
  have B24 := F24.binds (ps := p_declared_by_lets) fun _ _ _ _ _ _ us hl => match us, hl with | [_], _ => rfl
  have B25 := F25.binds (ps := p_all_names) fun _ _ _ _ _ _ us hl => match us, hl with | [_, _], _ => rfl
  have B26 := F26.binds (ps := p_all_kinds) fun _ _ _ _ _ _ us hl => match us, hl with | [_, _], _ => rfl
  have B27 := F27.binds (ps := p_are_different) fun _ _ _ _ _ _ us hl => match us, hl with | [_], _ => rfl
  have B28 := F28.binds (ps := p_are_of_one_kind) fun _ _ _ _ _ _ us hl => match us, hl with | [_], _ => rfl
  have B29 := F29.binds (ps := p_all_calls_fit) fun _ _ _ _ _ _ us hl => match us, hl with | [_, _], _ => rfl
  have B30 := F30.binds (ps := p_calls_fit) fun _ _ _ _ _ _ us hl => match us, hl with | [_, _], _ => rfl
  have B31 := F31.binds (ps := p_is_sketch) fun _ _ _ _ _ _ us hl => match us, hl with | [_], _ => rfl
  have B32 := F32.binds (ps := p_variables) fun _ _ _ _ _ _ us hl => match us, hl with | [_], _ => rfl
  have B33 := F33.binds (ps := p__law_cell) fun _ _ _ _ _ _ us hl => match us, hl with | [_, _], _ => rfl
  have B34 := F34.binds (ps := p__law_row) fun _ _ _ _ _ _ us hl => match us, hl with | [_, _, _], _ => rfl
  have B35 := F35.binds (ps := p__law_draw) fun _ _ _ _ _ _ us hl => match us, hl with | [_, _], _ => rfl
  have B36 := F36.binds (ps := p__law_right) fun _ _ _ _ _ _ us hl => match us, hl with | [_], _ => rfl
  have B37 := F37.binds (ps := p__law_rights) fun _ _ _ _ _ _ us hl => match us, hl with | [_, _], _ => rfl
  have B38 := F38.binds (ps := p__law_source) fun _ _ _ _ _ _ us hl => match us, hl with | [_, _, _, _], _ => rfl
  have B39 := F39.binds (ps := p__law_statement) fun _ _ _ _ _ _ us hl => match us, hl with | [_, _, _, _, _], _ => rfl
  have B40 := F40.binds (ps := p__law_names) fun _ _ _ _ _ _ us hl => match us, hl with | [], _ => rfl
  have B41 := F41.binds (ps := p__law_function) fun _ _ _ _ _ _ us hl => match us, hl with | [_, _, _, _], _ => rfl
  have B42 := F42.binds (ps := p__law_program) fun _ _ _ _ _ _ us hl => match us, hl with | [_, _], _ => rfl
  have B43 := F43.binds (ps := p__law_made) fun _ _ _ _ _ _ us hl => match us, hl with | [_], _ => rfl
  have B44 := F44.binds (ps := p__law_told) fun _ _ _ _ _ _ us hl => match us, hl with | [_], _ => rfl
  have B45 := F45.binds (ps := p__law_bad_source) fun _ _ _ _ _ _ us hl => match us, hl with | [_], _ => rfl
  have B46 := F46.binds (ps := p__law_spoiled) fun _ _ _ _ _ _ us hl => match us, hl with | [_, _], _ => rfl
  let T : Tx K mg := {
    a_RightsError_init := _
    e_RightsError_init := _
    d_RightsError_init := ⟨F0, B0⟩
    a_is_right := _
    e_is_right := _
    d_is_right := ⟨F1, B1, PySem.W.mg_of X G a1⟩
    a_is_type := _
    e_is_type := _
    d_is_type := ⟨F2, B2, PySem.W.mg_of X G a2⟩
    a_is_value_type := _
    e_is_value_type := _
    d_is_value_type := ⟨F3, B3, PySem.W.mg_of X G a3⟩
    a_is_number := _
    e_is_number := _
    d_is_number := ⟨F4, B4, PySem.W.mg_of X G a4⟩
    a_is_name := _
    e_is_name := _
    d_is_name := ⟨F5, B5, PySem.W.mg_of X G a5⟩
    a_is_depth := _
    e_is_depth := _
    d_is_depth := ⟨F6, B6, PySem.W.mg_of X G a6⟩
    a_is_place := _
    e_is_place := _
    d_is_place := ⟨F7, B7, PySem.W.mg_of X G a7⟩
    a_first_word := _
    e_first_word := _
    d_first_word := ⟨F8, B8, PySem.W.mg_of X G a8⟩
    a_is_source := _
    e_is_source := _
    d_is_source := ⟨F9, B9, PySem.W.mg_of X G a9⟩
    a_is_source_list := _
    e_is_source_list := _
    d_is_source_list := ⟨F10, B10, PySem.W.mg_of X G a10⟩
    a_is_declared := _
    e_is_declared := _
    d_is_declared := ⟨F11, B11, PySem.W.mg_of X G a11⟩
    a_is_statement := _
    e_is_statement := _
    d_is_statement := ⟨F12, B12, PySem.W.mg_of X G a12⟩
    a_Function_init := _
    e_Function_init := _
    d_Function_init := ⟨F13, B13⟩
    a_Program_init := _
    e_Program_init := _
    d_Program_init := ⟨F14, B14⟩
    a_copied := _
    e_copied := _
    d_copied := ⟨F15, B15, PySem.W.mg_of X G a15⟩
    a_copied_statement := _
    e_copied_statement := _
    d_copied_statement := ⟨F16, B16, PySem.W.mg_of X G a16⟩
    a_copied_statements := _
    e_copied_statements := _
    d_copied_statements := ⟨F17, B17, PySem.W.mg_of X G a17⟩
    a_copied_function := _
    e_copied_function := _
    d_copied_function := ⟨F18, B18, PySem.W.mg_of X G a18⟩
    a_copied_functions := _
    e_copied_functions := _
    d_copied_functions := ⟨F19, B19, PySem.W.mg_of X G a19⟩
    a_is_program := _
    e_is_program := _
    d_is_program := ⟨F20, B20, PySem.W.mg_of X G a20⟩
    a_is_function := _
    e_is_function := _
    d_is_function := ⟨F21, B21, PySem.W.mg_of X G a21⟩
    a_are_statements := _
    e_are_statements := _
    d_are_statements := ⟨F22, B22, PySem.W.mg_of X G a22⟩
    a_declared := _
    e_declared := _
    d_declared := ⟨F23, B23, PySem.W.mg_of X G a23⟩
    a_declared_by_lets := _
    e_declared_by_lets := _
    d_declared_by_lets := ⟨F24, B24, PySem.W.mg_of X G a24⟩
    a_all_names := _
    e_all_names := _
    d_all_names := ⟨F25, B25, PySem.W.mg_of X G a25⟩
    a_all_kinds := _
    e_all_kinds := _
    d_all_kinds := ⟨F26, B26, PySem.W.mg_of X G a26⟩
    a_are_different := _
    e_are_different := _
    d_are_different := ⟨F27, B27, PySem.W.mg_of X G a27⟩
    a_are_of_one_kind := _
    e_are_of_one_kind := _
    d_are_of_one_kind := ⟨F28, B28, PySem.W.mg_of X G a28⟩
    a_all_calls_fit := _
    e_all_calls_fit := _
    d_all_calls_fit := ⟨F29, B29, PySem.W.mg_of X G a29⟩
    a_calls_fit := _
    e_calls_fit := _
    d_calls_fit := ⟨F30, B30, PySem.W.mg_of X G a30⟩
    a_is_sketch := _
    e_is_sketch := _
    d_is_sketch := ⟨F31, B31, PySem.W.mg_of X G a31⟩
    a_variables := _
    e_variables := _
    d_variables := ⟨F32, B32, PySem.W.mg_of X G a32⟩
    a__law_cell := _
    e__law_cell := _
    d__law_cell := ⟨F33, B33, PySem.W.mg_of X G a33⟩
    a__law_row := _
    e__law_row := _
    d__law_row := ⟨F34, B34, PySem.W.mg_of X G a34⟩
    a__law_draw := _
    e__law_draw := _
    d__law_draw := ⟨F35, B35, PySem.W.mg_of X G a35⟩
    a__law_right := _
    e__law_right := _
    d__law_right := ⟨F36, B36, PySem.W.mg_of X G a36⟩
    a__law_rights := _
    e__law_rights := _
    d__law_rights := ⟨F37, B37, PySem.W.mg_of X G a37⟩
    a__law_source := _
    e__law_source := _
    d__law_source := ⟨F38, B38, PySem.W.mg_of X G a38⟩
    a__law_statement := _
    e__law_statement := _
    d__law_statement := ⟨F39, B39, PySem.W.mg_of X G a39⟩
    a__law_names := _
    e__law_names := _
    d__law_names := ⟨F40, B40, PySem.W.mg_of X G a40⟩
    a__law_function := _
    e__law_function := _
    d__law_function := ⟨F41, B41, PySem.W.mg_of X G a41⟩
    a__law_program := _
    e__law_program := _
    d__law_program := ⟨F42, B42, PySem.W.mg_of X G a42⟩
    a__law_made := _
    e__law_made := _
    d__law_made := ⟨F43, B43, PySem.W.mg_of X G a43⟩
    a__law_told := _
    e__law_told := _
    d__law_told := ⟨F44, B44, PySem.W.mg_of X G a44⟩
    a__law_bad_source := _
    e__law_bad_source := _
    d__law_bad_source := ⟨F45, B45, PySem.W.mg_of X G a45⟩
    a__law_spoiled := _
    e__law_spoiled := _
    d__law_spoiled := ⟨F46, B46, PySem.W.mg_of X G a46⟩
    a_RIGHTS := q_RIGHTS
    m_RIGHTS := PySem.W.mg_of X G u_RIGHTS
    t_RIGHTS := fun H => .inr ⟨_, _, _, v_RIGHTS, rfl, rfl, (by show 4 ≤ sizeLine; decide), (.cons ⟨_, rfl⟩ (.cons ⟨_, rfl⟩ (.cons ⟨_, rfl⟩ (.cons ⟨_, rfl⟩ .nil))))⟩
    k_MOST_RIGHTS := k_MOST_RIGHTS
    m_MOST_RIGHTS := PySem.W.mg_of X G u_MOST_RIGHTS
    k_SIGNS := k_SIGNS
    m_SIGNS := PySem.W.mg_of X G u_SIGNS
    k_MOST_SIGNS := k_MOST_SIGNS
    m_MOST_SIGNS := PySem.W.mg_of X G u_MOST_SIGNS
    k_MOST_STARS := k_MOST_STARS
    m_MOST_STARS := PySem.W.mg_of X G u_MOST_STARS
    k_MOST_DEPTH := k_MOST_DEPTH
    m_MOST_DEPTH := PySem.W.mg_of X G u_MOST_DEPTH
    k_MOST_NUMBER := k_MOST_NUMBER
    m_MOST_NUMBER := PySem.W.mg_of X G u_MOST_NUMBER
    k_MOST_FUNCTIONS := k_MOST_FUNCTIONS
    m_MOST_FUNCTIONS := PySem.W.mg_of X G u_MOST_FUNCTIONS
    k_MOST_PARAMS := k_MOST_PARAMS
    m_MOST_PARAMS := PySem.W.mg_of X G u_MOST_PARAMS
    k_MOST_IN_BODY := k_MOST_IN_BODY
    m_MOST_IN_BODY := PySem.W.mg_of X G u_MOST_IN_BODY
    k_MOST_STATEMENTS := k_MOST_STATEMENTS
    m_MOST_STATEMENTS := PySem.W.mg_of X G u_MOST_STATEMENTS
    b_ValueError := PySem.W.mg_none_of X G z_ValueError
    b_str := PySem.W.mg_none_of X G z_str
    b_type := PySem.W.mg_none_of X G z_type
    b_len := PySem.W.mg_none_of X G z_len
    b_all := PySem.W.mg_none_of X G z_all
    b_tuple := PySem.W.mg_none_of X G z_tuple
    b_int := PySem.W.mg_none_of X G z_int
    b_list := PySem.W.mg_none_of X G z_list
    b_isinstance := PySem.W.mg_none_of X G z_isinstance
    b_set := PySem.W.mg_none_of X G z_set
    b_range := PySem.W.mg_none_of X G z_range
    b_abs := PySem.W.mg_none_of X G z_abs
    b_min := PySem.W.mg_none_of X G z_min
    C_RightsError := C_RightsError
    g_RightsError := PySem.W.mg_of X G aC_RightsError
    n_RightsError_reason := n_RightsError_reason
    o_RightsError := { cls := ⟨nm_RightsError, qn_RightsError, N_RightsError, bs_RightsError, _, sn_RightsError, sub_RightsError, ab_RightsError, col_RightsError, dd_RightsError, m0_RightsError, m1_RightsError, m2_RightsError, m3_RightsError, m5_RightsError, xL_RightsError, by decide +kernel⟩, sa := sa_RightsError, exC := eC_RightsError, tyC := tC_RightsError, kC := kC_RightsError }
    x_RightsError := { ga := ga_RightsError, gg := gg_RightsError, exC := eC_RightsError, hdC := hC_RightsError }
    i_RightsError := a0
    t_RightsError := i0
    s_RightsError := own_caught eC_RightsError iC_RightsError tC_RightsError sC_RightsError
    C_Function := C_Function
    g_Function := PySem.W.mg_of X G aC_Function
    n_Function_name := n_Function_name
    n_Function_params := n_Function_params
    n_Function_body := n_Function_body
    c_Function := ⟨pg_Function, hd_Function, po_Function, sa_Function⟩
    k_Function := ⟨mk_Function, a13, i13, kc_Function⟩
    i_Function := ⟨ha_Function, hn_, ht_, hm_Function⟩
    C_Program := C_Program
    g_Program := PySem.W.mg_of X G aC_Program
    n_Program_functions := n_Program_functions
    n_Program_statements := n_Program_statements
    c_Program := ⟨pg_Program, hd_Program, po_Program, sa_Program⟩
    k_Program := ⟨mk_Program, a14, i14, kc_Program⟩
    i_Program := ⟨ha_Program, hn_, ht_, hm_Program⟩
    vV := vV }
  exact ⟨PySem.W.fnOf "law" "law" (defArgs s_law) (defBody s_law) (defScope s_law) .none kV47 dc47 pm47 an47 cd47 ct47, fun s v => .of_eq rfl, fun base _ _ => ok_law T F47⟩
end Ver
open PySem PySem.W PyProof.Rows
set_option maxRecDepth 100000 in
set_option maxHeartbeats 0 in
theorem PySem.Challenge.cw_rightskept_k11_programs_are_checked_holds : PySem.Challenge.rw_rightskept_k11_programs_are_checked.Holds := by
  w_on; o_law; k_head; (case hw => w_witness2)
  k_fill
  refine L2.walk_of (l := PySem.Challenge.rw_rightskept_k11_programs_are_checked) (n := 63) (k := 16) (x := "script") (CX := fun _ => L2.CX0) (sp := fun w => Ver.spLaw _) rfl (by decide) rfl ⟨rfl, by decide, by decide⟩ (fun w h Y => PySem.W.kIn_of Y) ?F (fun _ _ a ns hl _ hS => ⟨a, ns, rfl, hS, hl, fun _ => rfl⟩) (fun _ _ _ _ _ h => h)
  case F =>
    intro w mg fa h KX G hmg
    refine' Ver.all_mk KX G hmg ?aC_RightsError ?n_RightsError_reason ?xL_RightsError ?sa_RightsError ?ga_RightsError ?gg_RightsError ?eC_RightsError ?tC_RightsError ?hC_RightsError ?iC_RightsError ?sC_RightsError ?kC_RightsError ?aC_Function ?n_Function_name ?n_Function_params ?n_Function_body ?pg_Function ?hd_Function ?po_Function ?sa_Function ?mk_Function ?kc_Function ?ha_Function ?hm_Function ?aC_Program ?n_Program_functions ?n_Program_statements ?pg_Program ?hd_Program ?po_Program ?sa_Program ?mk_Program ?kc_Program ?ha_Program ?hm_Program ?hn_ ?ht_ ?vV ?a0 ?i0 ?l0 ?c0 ?k0 ?a1 ?l1 ?c1 ?k1 ?a2 ?l2 ?c2 ?k2 ?a3 ?l3 ?c3 ?k3 ?a4 ?l4 ?c4 ?k4 ?a5 ?l5 ?c5 ?k5 ?a6 ?l6 ?c6 ?k6 ?a7 ?l7 ?c7 ?k7 ?a8 ?l8 ?c8 ?k8 ?a9 ?l9 ?c9 ?k9 ?a10 ?l10 ?c10 ?k10 ?a11 ?l11 ?c11 ?k11 ?a12 ?l12 ?c12 ?k12 ?a13 ?i13 ?l13 ?c13 ?k13 ?a14 ?i14 ?l14 ?c14 ?k14 ?a15 ?l15 ?c15 ?k15 ?a16 ?l16 ?c16 ?k16 ?a17 ?l17 ?c17 ?k17 ?a18 ?l18 ?c18 ?k18 ?a19 ?l19 ?c19 ?k19 ?a20 ?l20 ?c20 ?k20 ?a21 ?l21 ?c21 ?k21 ?a22 ?l22 ?c22 ?k22 ?a23 ?l23 ?c23 ?k23 ?a24 ?l24 ?c24 ?k24 ?a25 ?l25 ?c25 ?k25 ?a26 ?l26 ?c26 ?k26 ?a27 ?l27 ?c27 ?k27 ?a28 ?l28 ?c28 ?k28 ?a29 ?l29 ?c29 ?k29 ?a30 ?l30 ?c30 ?k30 ?a31 ?l31 ?c31 ?k31 ?a32 ?l32 ?c32 ?k32 ?a33 ?l33 ?c33 ?k33 ?a34 ?l34 ?c34 ?k34 ?a35 ?l35 ?c35 ?k35 ?a36 ?l36 ?c36 ?k36 ?a37 ?l37 ?c37 ?k37 ?a38 ?l38 ?c38 ?k38 ?a39 ?l39 ?c39 ?k39 ?a40 ?l40 ?c40 ?k40 ?a41 ?l41 ?c41 ?k41 ?a42 ?l42 ?c42 ?k42 ?a43 ?l43 ?c43 ?k43 ?a44 ?l44 ?c44 ?k44 ?a45 ?l45 ?c45 ?k45 ?a46 ?l46 ?c46 ?k46 ?a47 ?l47 ?c47 ?k47 ?u_RIGHTS ?v_RIGHTS ?u_MOST_RIGHTS ?u_SIGNS ?u_MOST_SIGNS ?u_MOST_STARS ?u_MOST_DEPTH ?u_MOST_NUMBER ?u_MOST_FUNCTIONS ?u_MOST_PARAMS ?u_MOST_IN_BODY ?u_MOST_STATEMENTS ?z_ValueError ?z_str ?z_type ?z_len ?z_all ?z_tuple ?z_int ?z_list ?z_isinstance ?z_set ?z_range ?z_abs ?z_min
    (case aC_RightsError => k_is)
    (case n_RightsError_reason => k_is)
    (case xL_RightsError => k_is)
    (case sa_RightsError => k_is)
    (case ga_RightsError => k_is)
    (case gg_RightsError => k_is)
    (case eC_RightsError => k_is)
    (case tC_RightsError => k_is)
    (case hC_RightsError => k_is)
    (case iC_RightsError => k_is)
    (case sC_RightsError => first | rfl | k_is)
    (case kC_RightsError => k_is)
    (case aC_Function => k_is)
    (case n_Function_name => k_is)
    (case n_Function_params => k_is)
    (case n_Function_body => k_is)
    (case pg_Function => k_is)
    (case hd_Function => k_is)
    (case po_Function => k_is)
    (case sa_Function => k_is)
    (case mk_Function => k_is)
    (case kc_Function => k_is)
    (case ha_Function => k_is)
    (case hm_Function => k_is)
    (case aC_Program => k_is)
    (case n_Program_functions => k_is)
    (case n_Program_statements => k_is)
    (case pg_Program => k_is)
    (case hd_Program => k_is)
    (case po_Program => k_is)
    (case sa_Program => k_is)
    (case mk_Program => k_is)
    (case kc_Program => k_is)
    (case ha_Program => k_is)
    (case hm_Program => k_is)
    (case hn_ => k_is)
    (case ht_ => k_is)
    (case vV => k_is)
    (case a0 => k_is)
    (case i0 => k_is)
    (case l0 => k_is)
    (case c0 => k_is)
    (case k0 => k_is)
    (case a1 => k_is)
    (case l1 => k_is)
    (case c1 => k_is)
    (case k1 => k_is)
    (case a2 => k_is)
    (case l2 => k_is)
    (case c2 => k_is)
    (case k2 => k_is)
    (case a3 => k_is)
    (case l3 => k_is)
    (case c3 => k_is)
    (case k3 => k_is)
    (case a4 => k_is)
    (case l4 => k_is)
    (case c4 => k_is)
    (case k4 => k_is)
    (case a5 => k_is)
    (case l5 => k_is)
    (case c5 => k_is)
    (case k5 => k_is)
    (case a6 => k_is)
    (case l6 => k_is)
    (case c6 => k_is)
    (case k6 => k_is)
    (case a7 => k_is)
    (case l7 => k_is)
    (case c7 => k_is)
    (case k7 => k_is)
    (case a8 => k_is)
    (case l8 => k_is)
    (case c8 => k_is)
    (case k8 => k_is)
    (case a9 => k_is)
    (case l9 => k_is)
    (case c9 => k_is)
    (case k9 => k_is)
    (case a10 => k_is)
    (case l10 => k_is)
    (case c10 => k_is)
    (case k10 => k_is)
    (case a11 => k_is)
    (case l11 => k_is)
    (case c11 => k_is)
    (case k11 => k_is)
    (case a12 => k_is)
    (case l12 => k_is)
    (case c12 => k_is)
    (case k12 => k_is)
    (case a13 => k_is)
    (case i13 => k_is)
    (case l13 => k_is)
    (case c13 => k_is)
    (case k13 => k_is)
    (case a14 => k_is)
    (case i14 => k_is)
    (case l14 => k_is)
    (case c14 => k_is)
    (case k14 => k_is)
    (case a15 => k_is)
    (case l15 => k_is)
    (case c15 => k_is)
    (case k15 => k_is)
    (case a16 => k_is)
    (case l16 => k_is)
    (case c16 => k_is)
    (case k16 => k_is)
    (case a17 => k_is)
    (case l17 => k_is)
    (case c17 => k_is)
    (case k17 => k_is)
    (case a18 => k_is)
    (case l18 => k_is)
    (case c18 => k_is)
    (case k18 => k_is)
    (case a19 => k_is)
    (case l19 => k_is)
    (case c19 => k_is)
    (case k19 => k_is)
    (case a20 => k_is)
    (case l20 => k_is)
    (case c20 => k_is)
    (case k20 => k_is)
    (case a21 => k_is)
    (case l21 => k_is)
    (case c21 => k_is)
    (case k21 => k_is)
    (case a22 => k_is)
    (case l22 => k_is)
    (case c22 => k_is)
    (case k22 => k_is)
    (case a23 => k_is)
    (case l23 => k_is)
    (case c23 => k_is)
    (case k23 => k_is)
    (case a24 => k_is)
    (case l24 => k_is)
    (case c24 => k_is)
    (case k24 => k_is)
    (case a25 => k_is)
    (case l25 => k_is)
    (case c25 => k_is)
    (case k25 => k_is)
    (case a26 => k_is)
    (case l26 => k_is)
    (case c26 => k_is)
    (case k26 => k_is)
    (case a27 => k_is)
    (case l27 => k_is)
    (case c27 => k_is)
    (case k27 => k_is)
    (case a28 => k_is)
    (case l28 => k_is)
    (case c28 => k_is)
    (case k28 => k_is)
    (case a29 => k_is)
    (case l29 => k_is)
    (case c29 => k_is)
    (case k29 => k_is)
    (case a30 => k_is)
    (case l30 => k_is)
    (case c30 => k_is)
    (case k30 => k_is)
    (case a31 => k_is)
    (case l31 => k_is)
    (case c31 => k_is)
    (case k31 => k_is)
    (case a32 => k_is)
    (case l32 => k_is)
    (case c32 => k_is)
    (case k32 => k_is)
    (case a33 => k_is)
    (case l33 => k_is)
    (case c33 => k_is)
    (case k33 => k_is)
    (case a34 => k_is)
    (case l34 => k_is)
    (case c34 => k_is)
    (case k34 => k_is)
    (case a35 => k_is)
    (case l35 => k_is)
    (case c35 => k_is)
    (case k35 => k_is)
    (case a36 => k_is)
    (case l36 => k_is)
    (case c36 => k_is)
    (case k36 => k_is)
    (case a37 => k_is)
    (case l37 => k_is)
    (case c37 => k_is)
    (case k37 => k_is)
    (case a38 => k_is)
    (case l38 => k_is)
    (case c38 => k_is)
    (case k38 => k_is)
    (case a39 => k_is)
    (case l39 => k_is)
    (case c39 => k_is)
    (case k39 => k_is)
    (case a40 => k_is)
    (case l40 => k_is)
    (case c40 => k_is)
    (case k40 => k_is)
    (case a41 => k_is)
    (case l41 => k_is)
    (case c41 => k_is)
    (case k41 => k_is)
    (case a42 => k_is)
    (case l42 => k_is)
    (case c42 => k_is)
    (case k42 => k_is)
    (case a43 => k_is)
    (case l43 => k_is)
    (case c43 => k_is)
    (case k43 => k_is)
    (case a44 => k_is)
    (case l44 => k_is)
    (case c44 => k_is)
    (case k44 => k_is)
    (case a45 => k_is)
    (case l45 => k_is)
    (case c45 => k_is)
    (case k45 => k_is)
    (case a46 => k_is)
    (case l46 => k_is)
    (case c46 => k_is)
    (case k46 => k_is)
    (case a47 => k_is)
    (case l47 => k_is)
    (case c47 => k_is)
    (case k47 => k_is)
    (case u_RIGHTS => k_is)
    (case v_RIGHTS => k_is)
    (case u_MOST_RIGHTS => k_is)
    (case u_SIGNS => k_is)
    (case u_MOST_SIGNS => k_is)
    (case u_MOST_STARS => k_is)
    (case u_MOST_DEPTH => k_is)
    (case u_MOST_NUMBER => k_is)
    (case u_MOST_FUNCTIONS => k_is)
    (case u_MOST_PARAMS => k_is)
    (case u_MOST_IN_BODY => k_is)
    (case u_MOST_STATEMENTS => k_is)
    (case z_ValueError => k_is)
    (case z_str => k_is)
    (case z_type => k_is)
    (case z_len => k_is)
    (case z_all => k_is)
    (case z_tuple => k_is)
    (case z_int => k_is)
    (case z_list => k_is)
    (case z_isinstance => k_is)
    (case z_set => k_is)
    (case z_range => k_is)
    (case z_abs => k_is)
    (case z_min => k_is)
