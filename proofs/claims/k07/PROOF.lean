import PyProof.Rows.All
import Wide.All
import OpenK.AllK
import Wide.FinOn
import HandS.ForMost
import HandS.Evl
import HandS.TupAny
import HandS.TupMul
import HandS.IsInst
import HandS.Zip
import HandS.Deep
import HandS.Style
import HandS.Strs
import HandS.More
import KE.SortData
import HandS.Exc
import HandS.ExcInit
import HandS.ExcOwn
import HandS.ExcField
import HandS.WordsExc
import HandS.Dict
import HandS.Walk
import HandS.DictComp
import PySem.Challenge.RW_rightskept_k07_joins_and_meets
set_option Elab.async false
set_option linter.all false
set_option maxRecDepth 100000
set_option maxHeartbeats 4000000
namespace Ver
open PySem L2 Evl
/-- a new list, a new tuple -/
def NewL (xs : List V) (H : Hp) (Q : VK) : Prop := xs.length ≤ sizeLine ∧ ∀ p, H p = none → Q (.ref p) (upd H p (.lst xs))
def NewU (xs : List V) (H : Hp) (Q : VK) : Prop := xs.length ≤ sizeLine ∧ ∀ p, H p = none → Q (.ref p) (upd H p (.tup xs))
/-! ## a small executor over readings: one lemma a head -/
section
variable {K : PySem.W.Frag} {σ : L2.St} {H H' H1 : Hp} {ta tb te : TE} {t u c : TT} {ts us : TS} {x y z v : V} {r : R2} {D : Ends} {g : TG} {Q : VK} {i j : Nat}
theorem w_seq (h : ts { D with nx := us D } σ H) : tSeq ts us D σ H := h
theorem w_next (h : D.nx σ H) : tNext D σ H := h
theorem w_asg (h : te σ H fun a Ha => g a σ Ha D.nx) : tAsg te g D σ H := h
theorem w_name {N : L2.St → Hp → Prop} (h : N (σ.set i (some v)) H) : gName i v σ H N := h
theorem w_if (h : c σ H fun k Hk => if k = true then ts D σ Hk else us D σ Hk) : tIfS c ts us D σ H := h
theorem w_ret (h : te σ H D.rt) : tRet te D σ H := h
theorem w_drop (h : te σ H fun _ Ha => D.nx σ Ha) : tDrop te D σ H := h
theorem w_brk (h : D.bk σ H) : tBreak D σ H := h
theorem w_cont (h : D.ct σ H) : tCont D σ H := h
theorem w_var (e : σ[i]? = some (some v)) (h : Q v H) : tVar i σ H Q := ⟨v, e, h⟩
theorem w_c (h : Q v H) : tC v σ H Q := h
theorem w_op (h : ta σ H fun a Ha => tb σ Ha fun b Hb => r a b Hb Q) : tOp r ta tb σ H Q := h
theorem w_un {f : V → Hp → VK → Prop} (h : ta σ H fun a Ha => f a Ha Q) : tUn f ta σ H Q := h
theorem w_I0 {f : Int → Int → V} {a b : Int} (h : Q (f a b) H) : rI0 f (.int a) (.int b) H Q := ⟨a, b, rfl, rfl, h⟩
theorem w_I {C : Int → Int → Prop} {f : Int → Int → V} {a b : Int} (hc : C a b) (h : Q (f a b) H) : rI C f (.int a) (.int b) H Q := ⟨a, b, rfl, rfl, hc, h⟩
theorem w_neg {a : Int} (h : Q (.int (-a)) H) : rU (fun n => .int (-n)) (.int a) H Q := ⟨a, rfl, h⟩
theorem w_eq (e : scal x y = true) (h : Q (.bl (decide (x = y))) H) : rEq x y H Q := ⟨e, h⟩
theorem w_ne (e : scal x y = true) (h : Q (.bl (!decide (x = y))) H) : rNe x y H Q := ⟨e, h⟩
theorem w_eqI {a b : Int} (h : Q (.bl (decide (a = b))) H) : rEq (.int a) (.int b) H Q := ⟨rfl, by
  have e : decide (V.int a = V.int b) = decide (a = b) := by
    by_cases q : a = b
    · rw [q]; simp
    · rw [decide_eq_false q, decide_eq_false (fun z => q (V.int.inj z))]
  rw [e]; exact h⟩
theorem w_neI {a b : Int} (h : Q (.bl (!decide (a = b))) H) : rNe (.int a) (.int b) H Q := ⟨rfl, by
  have e : decide (V.int a = V.int b) = decide (a = b) := by
    by_cases q : a = b
    · rw [q]; simp
    · rw [decide_eq_false q, decide_eq_false (fun z => q (V.int.inj z))]
  rw [e]; exact h⟩
theorem w_eqS {a b : Str} (h : Q (.bl (decide (a = b))) H) : rEq (.str a) (.str b) H Q := ⟨rfl, by
  have e : decide (V.str a = V.str b) = decide (a = b) := by
    by_cases q : a = b
    · rw [q]; simp
    · rw [decide_eq_false q, decide_eq_false (fun z => q (V.str.inj z))]
  rw [e]; exact h⟩
theorem w_neS {a b : Str} (h : Q (.bl (!decide (a = b))) H) : rNe (.str a) (.str b) H Q := ⟨rfl, by
  have e : decide (V.str a = V.str b) = decide (a = b) := by
    by_cases q : a = b
    · rw [q]; simp
    · rw [decide_eq_false q, decide_eq_false (fun z => q (V.str.inj z))]
  rw [e]; exact h⟩
theorem w_eqB {a b : Bool} (h : Q (.bl (a == b)) H) : rEq (.bl a) (.bl b) H Q := ⟨rfl, by
  have e : decide (V.bl a = V.bl b) = (a == b) := by cases a <;> cases b <;> rfl
  rw [e]; exact h⟩
theorem w_neB {a b : Bool} (h : Q (.bl (a != b)) H) : rNe (.bl a) (.bl b) H Q := ⟨rfl, by
  have e : (!decide (V.bl a = V.bl b)) = (a != b) := by cases a <;> cases b <;> rfl
  rw [e]; exact h⟩
theorem w_test {N : Bool → Hp → Prop} (h : te σ H fun a Ha => ∃ k, a = .bl k ∧ N k Ha) : tTest te σ H N := h
theorem w_B {N : Bool → Hp → Prop} (h : te σ H fun a Ha => ∃ k, a = .bl k ∧ N k Ha) : tB te σ H N := h
theorem w_bl {N : Bool → Hp → Prop} {k : Bool} (h : N k H) : ∃ k', V.bl k = .bl k' ∧ N k' H := ⟨k, rfl, h⟩
theorem w_blV {N : Bool → Prop} {k : Bool} (h : N k) : ∃ k', V.bl k = .bl k' ∧ N k' := ⟨k, rfl, h⟩
theorem w_and {N : Bool → Hp → Prop} (h : t σ H fun k Hk => if k = true then u σ Hk N else N false Hk) : tAnd t u σ H N := h
theorem w_or {N : Bool → Hp → Prop} (h : t σ H fun k Hk => if k = true then N true Hk else u σ Hk N) : tOr t u σ H N := h
theorem w_not {N : Bool → Hp → Prop} (h : t σ H fun k Hk => N (!k) Hk) : tNot t σ H N := h
theorem w_andV (h : ta σ H fun a Ha => ∃ k, a = .bl k ∧ if k = true then tb σ Ha Q else Q (.bl false) Ha) : tAndV ta tb σ H Q := h
theorem w_orV (h : ta σ H fun a Ha => ∃ k, a = .bl k ∧ if k = true then Q (.bl true) Ha else tb σ Ha Q) : tOrV ta tb σ H Q := h
theorem w_notV (h : ta σ H fun a Ha => ∃ k, a = .bl k ∧ Q (.bl (!k)) Ha) : tNotV ta σ H Q := h
theorem w_ifE (h : c σ H fun k Hk => if k = true then ta σ Hk Q else tb σ Hk Q) : tIf c ta tb σ H Q := h
theorem w_yes {N : Bool → Hp → Prop} (h : N true H) : tYes σ H N := h
theorem w_nil {N : List V → Hp → Prop} (h : N [] H) : tNil σ H N := h
theorem w_cons {tr : TA} {N : List V → Hp → Prop} (h : ta σ H fun a Ha => tr σ Ha fun xs Hb => N (a :: xs) Hb) : tCons ta tr σ H N := h
theorem w_CB {f : List V → Hp → VK → Prop} {a : TA} (h : a σ H fun vs Ha => f vs Ha Q) : tCB f a σ H Q := h
theorem w_call {sp : Sp} {dvs : List V} {E : XK} {a : TA} (h : a σ H fun vs Ha => sp (vs ++ dvs) Ha Q E) : tCall sp dvs E a σ H Q := h
theorem w_callN {sp : Sp} {E : XK} {a : TA} (h : a σ H fun vs Ha => sp vs Ha Q E) : tCall sp [] E a σ H Q := by
  have e : (fun (vs : List V) Ha => sp (vs ++ []) Ha Q E) = fun vs Ha => sp vs Ha Q E := by
    funext vs Ha
    rw [List.append_nil]
  show a σ H fun vs Ha => sp (vs ++ []) Ha Q E
  rw [e]
  exact h
theorem w_BM {T : String} {f : V → List V → Hp → VK → Prop} {a : TA} (h : te σ H fun x Ha => tyV K T x Ha ∧ a σ Ha fun xs Hb => f x xs Hb Q) : tBM K T f te a σ H Q := h
theorem w_BM0 {T : String} {f : V → List V → Hp → VK → Prop} (h : te σ H fun x Ha => tyV K T x Ha ∧ f x [] Ha Q) : tBM0 K T f te σ H Q := h
theorem w_noPart {N : Option Int → Hp → Prop} (h : N none H) : tNoPart σ H N := h
theorem w_part {N : Option Int → Hp → Prop} (h : te σ H fun a Ha => ∃ k, a = .int k ∧ N (some k) Ha) : tPart te σ H N := h
theorem w_int {N : Option Int → Hp → Prop} {k : Int} (h : N (some k) H) : ∃ k', V.int k = .int k' ∧ N (some k') H := ⟨k, rfl, h⟩
theorem w_sl {f : V → Option Int → Option Int → Hp → VK → Prop} {tl th : TO} (h : te σ H fun a Ha => tl σ Ha fun l Hb => th σ Hb fun m Hc => f a l m Hc Q) : tSl f te tl th σ H Q := h
theorem w_tup {a : TA} (h : a σ H fun xs Ha => NewU xs Ha Q) : tTup a σ H Q := h
theorem w_lst {a : TA} (h : a σ H fun xs Ha => NewL xs Ha Q) : tLst a σ H Q := h
theorem w_subG {to ti : TE} {f : TSet} {N : L2.St → Hp → Prop} (h : to σ H fun o Ha => ti σ Ha fun k Hb => f o k v Hb fun Hc => N σ Hc) : gSub to ti f v σ H N := h
theorem w_gtup {n : Nat} {gs : TGs} {N : L2.St → Hp → Prop} {p : Addr} {xs : List V} (hx : SqT K H p xs) (hn : xs.length = n) (h : gs xs σ H N) : gTup K n gs (.ref p) σ H N := ⟨p, xs, rfl, hx, hn, h⟩
theorem w_gcons {gs : TGs} {xs : List V} {N : L2.St → Hp → Prop} (h : g v σ H fun σ' Ha => gs xs σ' Ha N) : gCons g gs (v :: xs) σ H N := ⟨v, xs, rfl, h⟩
theorem w_gnil {N : L2.St → Hp → Prop} (h : N σ H) : gNil [] σ H N := ⟨rfl, h⟩
theorem iteNT {A B : Prop} (h : B) : if (!true) = true then A else B := h
theorem iteNF {A B : Prop} (h : A) : if (!false) = true then A else B := h
theorem w_chain {r' : R2} {tc : TE} (h : ta σ H fun a Ha => tb σ Ha fun b Hb => r a b Hb fun z Hc => ∃ k, z = .bl k ∧ (if k = true then tc σ Hc fun c Hd => r' b c Hd Q else Q (.bl false) Hc)) : tChain r r' ta tb tc σ H Q := h
theorem w_lenS {a : Str} (hz : a.length ≤ 100000) (k : Q (.int a.length) H) : (∃ s, [V.str a] = [.str s] ∧ s.length ≤ sizeLine ∧ Q (.int s.length) H) := ⟨a, rfl, sz_of hz, k⟩
/-! loops -/
def LoopG (J : It) (g : TG) (b : TS) (D : Ends) (σ : L2.St) (H : Hp) : Prop := tFor (fun _ h R => R J h) g b D σ H
def CompG (J : It) (g : TG) (t : TT) (e : TE) (vs : List Nat) (σ : L2.St) (H : Hp) (Q : VK) : Prop := tLc (fun _ h R => R J h) g t e vs σ H Q
theorem w_for {wi : TI} (h : wi σ H fun J Ha => LoopG J g ts D σ Ha) : tFor wi g ts D σ H := h
theorem w_lc {wi : TI} {vs : List Nat} (h : wi σ H fun J Ha => CompG J g t te vs σ Ha Q) : tLc wi g t te vs σ H Q := h
theorem w_iR1 {a : TA} {R : It → Hp → Prop} (h : a σ H fun vs Ha => ∃ k : Int, vs = [.int k] ∧ -(2 ^ 62) ≤ k ∧ k < 2 ^ 62 ∧ R (Itr 0 k.toNat) Ha) : iRng1 a σ H R := h
theorem w_iR2 {a : TA} {R : It → Hp → Prop} (h : a σ H fun vs Ha => ∃ k l : Int, vs = [.int k, .int l] ∧ (-(2 ^ 62) ≤ k ∧ k < 2 ^ 62 ∧ -(2 ^ 62) ≤ l ∧ l < 2 ^ 62) ∧ R (Itr k (l - k).toNat) Ha) : iRng2 a σ H R := h
theorem w_iL {R : It → Hp → Prop} (h : te σ H fun a Ha => ∃ p, a = .ref p ∧ (∃ xs, SqL K Ha p xs) ∧ R (Itl K p) Ha) : iList K te σ H R := h
theorem w_iT {R : It → Hp → Prop} (h : te σ H fun a Ha => ∃ p, a = .ref p ∧ (∃ xs, SqT K Ha p xs) ∧ R (Itt K p) Ha) : iTup K te σ H R := h
theorem w_iS {R : It → Hp → Prop} (h : te σ H fun a Ha => ∃ s, a = .str s ∧ R (Its s) Ha) : iStr te σ H R := h
theorem r_R1 {k : Int} (hk : 0 ≤ k ∧ k ≤ 100000) (h : LoopG (Itr 0 k.toNat) g ts D σ H) : ∃ k' : Int, [V.int k] = [.int k'] ∧ -(2 ^ 62) ≤ k' ∧ k' < 2 ^ 62 ∧ LoopG (Itr 0 k'.toNat) g ts D σ H := ⟨k, rfl, by omega, by omega, h⟩
theorem c_R1 {k : Int} {vs : List Nat} (hk : 0 ≤ k ∧ k ≤ 100000) (h : CompG (Itr 0 k.toNat) g t te vs σ H Q) : ∃ k' : Int, [V.int k] = [.int k'] ∧ -(2 ^ 62) ≤ k' ∧ k' < 2 ^ 62 ∧ CompG (Itr 0 k'.toNat) g t te vs σ H Q := ⟨k, rfl, by omega, by omega, h⟩
theorem r_R2 {k l : Int} (hk : 0 ≤ k ∧ k ≤ 100000 ∧ -100000 ≤ l ∧ l ≤ 100000) (h : LoopG (Itr k (l - k).toNat) g ts D σ H) : ∃ k' l' : Int, [V.int k, V.int l] = [.int k', .int l'] ∧ (-(2 ^ 62) ≤ k' ∧ k' < 2 ^ 62 ∧ -(2 ^ 62) ≤ l' ∧ l' < 2 ^ 62) ∧ LoopG (Itr k' (l' - k').toNat) g ts D σ H := ⟨k, l, rfl, by omega, h⟩
theorem r_L {p : Addr} {xs : List V} (hx : SqL K H p xs) (h : LoopG (Itl K p) g ts D σ H) : ∃ q, V.ref p = .ref q ∧ (∃ xs, SqL K H q xs) ∧ LoopG (Itl K q) g ts D σ H := ⟨p, rfl, ⟨xs, hx⟩, h⟩
theorem c_L {p : Addr} {xs : List V} {vs : List Nat} (hx : SqL K H p xs) (h : CompG (Itl K p) g t te vs σ H Q) : ∃ q, V.ref p = .ref q ∧ (∃ xs, SqL K H q xs) ∧ CompG (Itl K q) g t te vs σ H Q := ⟨p, rfl, ⟨xs, hx⟩, h⟩
theorem r_T {p : Addr} {xs : List V} (hx : SqT K H p xs) (h : LoopG (Itt K p) g ts D σ H) : ∃ q, V.ref p = .ref q ∧ (∃ xs, SqT K H q xs) ∧ LoopG (Itt K q) g ts D σ H := ⟨p, rfl, ⟨xs, hx⟩, h⟩
theorem c_T {p : Addr} {xs : List V} {vs : List Nat} (hx : SqT K H p xs) (h : CompG (Itt K p) g t te vs σ H Q) : ∃ q, V.ref p = .ref q ∧ (∃ xs, SqT K H q xs) ∧ CompG (Itt K q) g t te vs σ H Q := ⟨p, rfl, ⟨xs, hx⟩, h⟩
theorem r_S {s : Str} (h : LoopG (Its s) g ts D σ H) : ∃ s', V.str s = .str s' ∧ LoopG (Its s') g ts D σ H := ⟨s, rfl, h⟩
theorem c_S {s : Str} {vs : List Nat} (h : CompG (Its s) g t te vs σ H Q) : ∃ s', V.str s = .str s' ∧ CompG (Its s') g t te vs σ H Q := ⟨s, rfl, h⟩
theorem lp_range {n : Nat} {lo : Int} (P : Nat → L2.St → Hp → Prop) (h0 : P 0 σ H)
    (hs : ∀ k s h, k < n → P k s h → g (.int (lo + k)) s h fun s2 h2 => ts { D with nx := P (k + 1), ct := P (k + 1), bk := D.nx } s2 h2)
    (hd : ∀ s h, P n s h → D.nx s h) : LoopG (Itr lo n) g ts D σ H := for_range P h0 hs hd
theorem lp_list {p : Addr} {xs : List V} (P : Nat → L2.St → Hp → Prop) (h0 : P 0 σ H) (hl : ∀ k s h, k ≤ xs.length → P k s h → SqL K h p xs)
    (hs : ∀ k a s h, xs[k]? = some a → P k s h → g a s h fun s2 h2 => ts { D with nx := P (k + 1), ct := P (k + 1), bk := D.nx } s2 h2)
    (hd : ∀ s h, P xs.length s h → D.nx s h) : LoopG (Itl K p) g ts D σ H := for_list P h0 hl hs hd
theorem lp_tup {p : Addr} {xs : List V} (P : Nat → L2.St → Hp → Prop) (h0 : P 0 σ H) (hl : ∀ k s h, k ≤ xs.length → P k s h → SqT K h p xs)
    (hs : ∀ k a s h, xs[k]? = some a → P k s h → g a s h fun s2 h2 => ts { D with nx := P (k + 1), ct := P (k + 1), bk := D.nx } s2 h2)
    (hd : ∀ s h, P xs.length s h → D.nx s h) : LoopG (Itt K p) g ts D σ H := for_tup P h0 hl hs hd
theorem cp_range {n : Nat} {lo : Int} {vs : List Nat} (P : Addr → Nat → Hp → Prop) (h0 : ∀ p, H p = none → P p 0 (upd H p (.lst [])))
    (hs : ∀ p k h, H p = none → k < n → P p k h → g (.int (lo + k)) (wipe σ vs) h fun s2 h2 => wipe s2 vs = wipe σ vs ∧ t s2 h2 fun b h3 =>
      if b = true then te s2 h3 fun a h4 => ∃ acc, h4 p = some (.lst acc) ∧ acc.length < sizeLine ∧ P p (k + 1) (upd h4 p (.lst (acc ++ [a]))) else P p (k + 1) h3)
    (hd : ∀ p h, H p = none → P p n h → Q (.ref p) h) : CompG (Itr lo n) g t te vs σ H Q := fun p hp => lc_range (P p) (h0 p hp) (fun k h hk => hs p k h hp hk) (fun h => hd p h hp)
theorem cp_list {a : Addr} {xs : List V} {vs : List Nat} (P : Addr → Nat → Hp → Prop) (h0 : ∀ p, H p = none → P p 0 (upd H p (.lst []))) (hl : ∀ p k h, H p = none → k ≤ xs.length → P p k h → SqL K h a xs)
    (hs : ∀ p k x h, H p = none → xs[k]? = some x → P p k h → g x (wipe σ vs) h fun s2 h2 => wipe s2 vs = wipe σ vs ∧ t s2 h2 fun b h3 =>
      if b = true then te s2 h3 fun a h4 => ∃ acc, h4 p = some (.lst acc) ∧ acc.length < sizeLine ∧ P p (k + 1) (upd h4 p (.lst (acc ++ [a]))) else P p (k + 1) h3)
    (hd : ∀ p h, H p = none → P p xs.length h → Q (.ref p) h) : CompG (Itl K a) g t te vs σ H Q := fun p hp => lc_list (P p) (h0 p hp) (fun k h hk => hl p k h hp hk) (fun k x h hk => hs p k x h hp hk) (fun h => hd p h hp)
theorem cp_tup {a : Addr} {xs : List V} {vs : List Nat} (P : Addr → Nat → Hp → Prop) (h0 : ∀ p, H p = none → P p 0 (upd H p (.lst []))) (hl : ∀ p k h, H p = none → k ≤ xs.length → P p k h → SqT K h a xs)
    (hs : ∀ p k x h, H p = none → xs[k]? = some x → P p k h → g x (wipe σ vs) h fun s2 h2 => wipe s2 vs = wipe σ vs ∧ t s2 h2 fun b h3 =>
      if b = true then te s2 h3 fun a h4 => ∃ acc, h4 p = some (.lst acc) ∧ acc.length < sizeLine ∧ P p (k + 1) (upd h4 p (.lst (acc ++ [a]))) else P p (k + 1) h3)
    (hd : ∀ p h, H p = none → P p xs.length h → Q (.ref p) h) : CompG (Itt K a) g t te vs σ H Q := fun p hp => lc_tup (P p) (h0 p hp) (fun k h hk => hl p k h hp hk) (fun k x h hk => hs p k x h hp hk) (fun h => hd p h hp)
end
/-! ## heaps: what an edge keeps -/
/-- all but S is kept -/
def Ks (S : List Addr) (H H' : Hp) : Prop := ∀ a o, a ∉ S → H a = some o → H' a = some o
theorem Ks.refl (S : List Addr) (H : Hp) : Ks S H H := fun _ _ _ h => h
theorem Ks.trans {S : List Addr} {H H1 H2 : Hp} (a : Ks S H H1) (b : Ks S H1 H2) : Ks S H H2 := fun x o n h => b x o n (a x o n h)
theorem Ks.of {S : List Addr} {H H' : Hp} (e : Ex H H') : Ks S H H' := fun a o _ h => e a o h
theorem Ks.upd {S : List Addr} {H H' : Hp} {p : Addr} {o : HO} (e : Ks S H H') (h : p ∈ S) : Ks S H (L2.upd H' p o) := fun a u n q => by
  rw [upd_ne (show a ≠ p from fun z => n (by rw [z]; exact h))]
  exact e a u n q
theorem Ks.mut {S : List Addr} {H H' : Hp} {p : Addr} {o : HO} (e : Ks S H H') (h : H p = none) : Ks S H (L2.upd H' p o) := fun a u n q => by
  rw [upd_ne (ne_of_none q h)]
  exact e a u n q
theorem Ks.drop {S : List Addr} {H H' : Hp} {p : Addr} (e : Ks (p :: S) H H') (h : H p = none) : Ks S H H' := fun a u n q =>
  e a u (fun z => (List.mem_cons.mp z).elim (ne_of_none q h) n) q
theorem Ks.mono {S S' : List Addr} {H H' : Hp} (e : Ks S H H') (h : ∀ a ∈ S, a ∈ S') : Ks S' H H' := fun a u n q => e a u (fun z => n (h a z)) q
theorem Ks.ex {H H' : Hp} (e : Ks [] H H') : Ex H H' := fun a u q => e a u (by simp) q
theorem ex_at {H H' : Hp} {a : Addr} {o : HO} (h : H a = some o) (e : Ex H H') : H' a = some o := e a o h
theorem ks_at {S : List Addr} {H H' : Hp} {a : Addr} {o : HO} (h : H a = some o) (e : Ks S H H') (n : a ∉ S) : H' a = some o := e a o n h
theorem ex_sl {K : PySem.W.Frag} {H H' : Hp} {a : Addr} {xs : List V} (h : SqL K H a xs) (e : Ex H H') : SqL K H' a xs := ex_l e h
theorem ex_st {K : PySem.W.Frag} {H H' : Hp} {a : Addr} {xs : List V} (h : SqT K H a xs) (e : Ex H H') : SqT K H' a xs := ex_t e h
theorem nin_nil {a : Addr} : a ∉ ([] : List Addr) := by simp
theorem nin_cons {a b : Addr} {S : List Addr} (h : a ≠ b) (k : a ∉ S) : a ∉ b :: S := fun z => (List.mem_cons.mp z).elim h k
theorem ne_old {H : Hp} {a p : Addr} {o : HO} (h : H a = some o) (n : H p = none) : a ≠ p := ne_of_none h n
/-- a new object -/
theorem new_lst {H : Hp} {xs : List V} {Q : VK} (hz : xs.length ≤ 100000) (k : ∀ p H1, H p = none → Ex H H1 → H1 p = some (.lst xs) → Q (.ref p) H1) :
    NewL xs H Q := ⟨sz_of hz, fun p n => k p _ n (Ex.new n) upd_same⟩
theorem new_tup {H : Hp} {xs : List V} {Q : VK} (hz : xs.length ≤ 100000) (k : ∀ p H1, H p = none → Ex H H1 → H1 p = some (.tup xs) → Q (.ref p) H1) :
    NewU xs H Q := ⟨sz_of hz, fun p n => k p _ n (Ex.new n) upd_same⟩
theorem new_any {H : Hp} {o : HO} {Q : VK} (k : ∀ p H1, H p = none → Ex H H1 → H1 p = some o → Q (.ref p) H1) : ∀ p, H p = none → Q (.ref p) (upd H p o) := fun p n => k p _ n (Ex.new n) upd_same
/-! ## built-ins by named relations -/
def qAbs : List V → Hp → VK → Prop := fun xs H Q => ∃ n, xs = [.int n] ∧ Q (.int (if n < 0 then -n else n)) H
def qInt : List V → Hp → VK → Prop := fun xs H Q => (∃ n, xs = [.int n] ∧ Q (.int n) H) ∨ ∃ k, xs = [.bl k] ∧ Q (.int (if k then 1 else 0)) H
def qTup (K : PySem.W.Frag) : List V → Hp → VK → Prop := fun xs H Q => ∃ p ys, xs = [.ref p] ∧ ((SqL K H p ys ∧ ∀ l, H l = none → Q (.ref l) (upd H l (.tup ys))) ∨ (SqT K H p ys ∧ Q (.ref p) H))
def qLenS : List V → Hp → VK → Prop := fun xs H Q => ∃ s, xs = [.str s] ∧ s.length ≤ sizeLine ∧ Q (.int s.length) H
def qInS (neg : Bool) : R2 := fun x y H Q => ∃ i j, x = .str i ∧ y = .str j ∧ Q (.bl (if neg then (!(!(Builtin.Str.occurrences j i 0 j.length 1).isEmpty)) else (!(Builtin.Str.occurrences j i 0 j.length 1).isEmpty))) H
section
variable {X : Cx}
theorem k_abs : CallR X (.builtin "abs") qAbs := call_abs
theorem k_int : CallR X (.type "int") qInt := call_int1
theorem k_tup : CallR X (.type "tuple") (qTup X.K) := call_tuple_of
theorem k_lst : CallR X (.type "list") (rListS X.K) := call_list_of
theorem k_len : CallR X (.builtin "len") (rLenS X.K) := call_len_seq
theorem k_lenS : CallR X (.builtin "len") qLenS := call_len_str
theorem k_inS : OpR X (compareOp .In) (qInS false) := op_in_str
theorem k_ninS : OpR X (compareOp .NotIn) (qInS true) := op_notin_str
end
section
variable {K : PySem.W.Frag} {H : Hp} {Q : VK} {p : Addr} {xs : List V}
theorem a_abs {n : Int} (k : Q (.int (if n < 0 then -n else n)) H) : qAbs [.int n] H Q := ⟨n, rfl, k⟩
theorem a_intI {n : Int} (k : Q (.int n) H) : qInt [.int n] H Q := .inl ⟨n, rfl, k⟩
theorem a_intB {b : Bool} (k : Q (.int (if b then 1 else 0)) H) : qInt [.bl b] H Q := .inr ⟨b, rfl, k⟩
theorem a_tupL (h : SqL K H p xs) (k : ∀ q H1, H q = none → Ex H H1 → H1 q = some (.tup xs) → Q (.ref q) H1) : qTup K [.ref p] H Q := ⟨p, xs, rfl, .inl ⟨h, fun q n => k q _ n (Ex.new n) upd_same⟩⟩
theorem a_tupT (h : SqT K H p xs) (k : Q (.ref p) H) : qTup K [.ref p] H Q := ⟨p, xs, rfl, .inr ⟨h, k⟩⟩
theorem a_lstL (h : SqL K H p xs) (k : ∀ q H1, H q = none → Ex H H1 → H1 q = some (.lst xs) → Q (.ref q) H1) : rListS K [.ref p] H Q := ⟨p, xs, rfl, .inl h, fun q n => k q _ n (Ex.new n) upd_same⟩
theorem a_lstT (h : SqT K H p xs) (k : ∀ q H1, H q = none → Ex H H1 → H1 q = some (.lst xs) → Q (.ref q) H1) : rListS K [.ref p] H Q := ⟨p, xs, rfl, .inr h, fun q n => k q _ n (Ex.new n) upd_same⟩
theorem a_lenS {s : Str} (hz : s.length ≤ 100000) (k : Q (.int s.length) H) : qLenS [.str s] H Q := ⟨s, rfl, sz_of hz, k⟩
theorem a_inS {i j : Str} {b : Bool} (e : (!(Builtin.Str.occurrences j i 0 j.length 1).isEmpty) = b) (k : Q (.bl b) H) : qInS false (.str i) (.str j) H Q := ⟨i, j, rfl, rfl, by rw [e]; exact k⟩
theorem a_ninS {i j : Str} {b : Bool} (e : (!(Builtin.Str.occurrences j i 0 j.length 1).isEmpty) = b) (k : Q (.bl (!b)) H) : qInS true (.str i) (.str j) H Q := ⟨i, j, rfl, rfl, by rw [e]; exact k⟩
end
/-! ## is, is not -/
def qIsN : R2 := fun x y H Q => y = .non ∧ Q (.bl (decide (x = .non))) H
def qNotN : R2 := fun x y H Q => y = .non ∧ Q (.bl (!decide (x = .non))) H
def qIsTy : R2 := fun x y H Q => ∃ m n, x = .ty m ∧ y = .ty n ∧ Q (.bl (decide (m = n))) H
def qNotTy : R2 := fun x y H Q => ∃ m n, x = .ty m ∧ y = .ty n ∧ Q (.bl (!decide (m = n))) H
section
variable {X : Cx}
theorem k_isN : OpR X (compareOp .Is) qIsN := op_isN
theorem k_notN : OpR X (compareOp .IsNot) qNotN := op_notN
theorem k_isTy : OpR X (compareOp .Is) qIsTy := op_isTy
theorem k_notTy : OpR X (compareOp .IsNot) qNotTy := op_isNotTy
end
section
variable {H : Hp} {Q : VK}
theorem a_isNn (k : Q (.bl true) H) : qIsN .non .non H Q := ⟨rfl, k⟩
theorem a_isNr {p : Addr} (k : Q (.bl false) H) : qIsN (.ref p) .non H Q := ⟨rfl, k⟩
theorem a_notNn (k : Q (.bl false) H) : qNotN .non .non H Q := ⟨rfl, k⟩
theorem a_notNr {p : Addr} (k : Q (.bl true) H) : qNotN (.ref p) .non H Q := ⟨rfl, k⟩
theorem a_isTy {m n : String} (k : Q (.bl (decide (m = n))) H) : qIsTy (.ty m) (.ty n) H Q := ⟨m, n, rfl, rfl, k⟩
theorem a_notTy {m n : String} (k : Q (.bl (!decide (m = n))) H) : qNotTy (.ty m) (.ty n) H Q := ⟨m, n, rfl, rfl, k⟩
theorem a_isBl {m n : Bool} (k : Q (.bl (m == n)) H) : rIsB (.bl m) (.bl n) H Q := ⟨m, n, rfl, rfl, by
  have e : decide (m = n) = (m == n) := by cases m <;> cases n <;> rfl
  rw [e]; exact k⟩
theorem a_notBl {m n : Bool} (k : Q (.bl (m != n)) H) : rNotB (.bl m) (.bl n) H Q := ⟨m, n, rfl, rfl, by
  have e : (!decide (m = n)) = (m != n) := by cases m <;> cases n <;> rfl
  rw [e]; exact k⟩
theorem w_par {i j : Nat} {a : TA} {D : Ends} {σ : L2.St} (h : a σ H fun vs Ha => ∃ v w, vs = [v, w] ∧ D.nx ((σ.set i (some v)).set j (some w)) Ha) : tPar i j a D σ H := h
theorem a_cat {p q : Addr} {xs ys : List V} (h1 : H p = some (.lst xs)) (h2 : H q = some (.lst ys)) (hz : xs.length + ys.length ≤ 100000) (k : ∀ l H1, H l = none → Ex H H1 → H1 l = some (.lst (xs ++ ys)) → Q (.ref l) H1) : rCat (.ref p) (.ref q) H Q :=
  ⟨p, q, xs, ys, rfl, rfl, h1, h2, sz_of hz, fun l n => k l _ n (Ex.new n) upd_same⟩
end
/-! ## the rules that name the written part, by its name -/
section
variable (K : PySem.W.Frag) {X : Cx}
theorem plK {tg l : Expr} {tl : TE} (hl : PE X l tl) (h : X.K = K := by rfl) : PI X tg l (iList K tl) := by subst h; exact pi_list hl
theorem ptK {tg l : Expr} {tl : TE} (hl : PE X l tl) (h : X.K = K := by rfl) : PI X tg l (iTup K tl) := by subst h; exact pi_tup hl
theorem ixL (h : X.K = K := by rfl) : IxR X (rIxL K) := by subst h; exact ix_list
theorem ixT (h : X.K = K := by rfl) : IxR X (rIxT K) := by subst h; exact ix_tup
theorem slA (h : X.K = K := by rfl) : SlR X (rSlA K) := by subst h; exact sl_tupA
theorem slL (h : X.K = K := by rfl) : SlR X (rSlL K) := by subst h; exact sl_list
theorem lenK (h : X.K = K := by rfl) : CallR X (.builtin "len") (rLenS K) := by subst h; exact k_len
theorem inK (h : X.K = K := by rfl) : OpR X (compareOp .In) (rIn K false) := by subst h; exact op_in_seq
theorem ninK (h : X.K = K := by rfl) : OpR X (compareOp .NotIn) (rIn K true) := by subst h; exact op_notIn_seq
theorem lstK (h : X.K = K := by rfl) : CallR X (.type "list") (rListS K) := by subst h; exact k_lst
theorem catAK (h : X.K = K := by rfl) : OpR X (binaryOp .Add) (rCatA K) := by subst h; exact op_catA
theorem eqDK (hu : X.A.units + 64 < cLine) (h : X.K = K := by rfl) : OpR X (compareOp .Eq) (rEqD K) := by subst h; exact op_eqD hu
theorem neDK (hu : X.A.units + 64 < cLine) (h : X.K = K := by rfl) : OpR X (compareOp .NotEq) (rNeD K) := by subst h; exact op_neD hu
theorem inDK (hu : X.A.units + 65 < cLine) (h : X.K = K := by rfl) : OpR X (compareOp .In) (rInD K) := by subst h; exact op_inD hu
theorem ninDK (hu : X.A.units + 65 < cLine) (h : X.K = K := by rfl) : OpR X (compareOp .NotIn) (rNotInD K) := by subst h; exact op_notInD hu
theorem allK (hc : X.calm = true := by rfl) (h : X.K = K := by rfl) : CallR X (.builtin "all") (rAll K) := by subst h; exact cr_all hc
theorem typK (h : X.K = K := by rfl) : CallR X (.type "type") (rTyp K) := by subst h; exact call_type1
theorem isiK (h : X.K = K := by rfl) : CallR X (.builtin "isinstance") (rIsi K) := by subst h; exact call_isi
end
theorem hd_of {A : Around} {k : Nat} (hr : Room k A) : A.units + 65 < cLine := by have := hr.un; omega
/-! ## operations by what is known of the heap -/
section
variable {K : PySem.W.Frag} {H : Hp} {Q : VK} {p q : Addr} {xs ys : List V} {v x : V} {n : Int}
theorem a_ixL (h : SqL K H p xs) (e : atI xs n = some v) (k : Q v H) : rIxL K (.ref p) (.int n) H Q := ⟨p, xs, n, v, rfl, rfl, h, e, k⟩
theorem a_ixT (h : SqT K H p xs) (e : atI xs n = some v) (k : Q v H) : rIxT K (.ref p) (.int n) H Q := ⟨p, xs, n, v, rfl, rfl, h, e, k⟩
theorem a_lenL (h : SqL K H p xs) (k : Q (.int xs.length) H) : rLenS K [.ref p] H Q := ⟨p, xs, rfl, .inl h, k⟩
theorem a_lenT (h : SqT K H p xs) (k : Q (.int xs.length) H) : rLenS K [.ref p] H Q := ⟨p, xs, rfl, .inr h, k⟩
theorem a_app (h : H p = some (.lst xs)) (hz : xs.length < 100000) (k : Q .non (upd H p (.lst (xs ++ [v])))) : rAppend (.ref p) [v] H Q := ⟨p, xs, v, rfl, rfl, h, sz_lt hz, k⟩
theorem a_ty (h : H p = some (.lst xs)) : tyV K "list" (.ref p) H := .inl ⟨rfl, xs, SqL.of h⟩
theorem a_setL {j : Nat} {N : Hp → Prop} (h : H p = some (.lst xs)) (hj : j < xs.length) (k : N (upd H p (.lst (xs.set j v)))) : rSetL (.ref p) (.int j) v H N := ⟨p, xs, j, j, rfl, rfl, h, ixN_nat hj, k⟩
theorem a_inL (h : SqL K H p xs) (hx : flatV x = true) (ha : xs.all flatV = true) (k : Q (.bl (inV x xs)) H) : rIn K false x (.ref p) H Q := ⟨p, xs, rfl, .inl h, hx, ha, k⟩
theorem a_inT (h : SqT K H p xs) (hx : flatV x = true) (ha : xs.all flatV = true) (k : Q (.bl (inV x xs)) H) : rIn K false x (.ref p) H Q := ⟨p, xs, rfl, .inr h, hx, ha, k⟩
theorem a_ninL (h : SqL K H p xs) (hx : flatV x = true) (ha : xs.all flatV = true) (k : Q (.bl (!inV x xs)) H) : rIn K true x (.ref p) H Q := ⟨p, xs, rfl, .inl h, hx, ha, k⟩
theorem a_ninT (h : SqT K H p xs) (hx : flatV x = true) (ha : xs.all flatV = true) (k : Q (.bl (!inV x xs)) H) : rIn K true x (.ref p) H Q := ⟨p, xs, rfl, .inr h, hx, ha, k⟩
end
def NewD (H : Hp) (Q : VK) : Prop := ∀ p, H p = none → Q (.ref p) (upd H p (.dK []))
theorem w_dK {σ : L2.St} {H : Hp} {Q : VK} (h : NewD H Q) : tDNewK σ H Q := h
theorem new_dK {H : Hp} {Q : VK} (k : ∀ p H1, H p = none → Ex H H1 → H1 p = some (.dK []) → Q (.ref p) H1) : NewD H Q := fun p n => k p _ n (Ex.new n) upd_same
/-! ## the box of draws: a list of a row and a place -/
def Bx (H : Hp) (b r : Addr) : Prop := ∃ (n : Nat) (ns : List Int), H b = some (.lst [.ref r, .int (n : Int)]) ∧ H r = some (.lst (ns.map V.int)) ∧ ns.length ≤ 100000
theorem bx_ex {H H' : Hp} {b r : Addr} (h : Bx H b r) (e : Ex H H') : Bx H' b r := by
  obtain ⟨n, ns, h1, h2, h3⟩ := h
  exact ⟨n, ns, e _ _ h1, e _ _ h2, h3⟩
theorem bx_ks {S : List Addr} {H H' : Hp} {b r : Addr} (h : Bx H b r) (e : Ks S H H') (nb : b ∉ S) (nr : r ∉ S) : Bx H' b r := by
  obtain ⟨n, ns, h1, h2, h3⟩ := h
  exact ⟨n, ns, e _ _ nb h1, e _ _ nr h2, h3⟩
theorem bx_nb {H : Hp} {b r p : Addr} (h : Bx H b r) (n : H p = none) : b ≠ p := by
  obtain ⟨_, _, h1, _⟩ := h
  exact ne_of_none h1 n
theorem bx_nr {H : Hp} {b r p : Addr} (h : Bx H b r) (n : H p = none) : r ≠ p := by
  obtain ⟨_, _, _, h2, _⟩ := h
  exact ne_of_none h2 n
theorem bx_rb {H : Hp} {b r : Addr} (h : Bx H b r) : r ≠ b := by
  obtain ⟨n, ns, h1, h2, _⟩ := h
  refine ne_of h2 h1 fun z => ?_
  cases ns with
  | nil => exact nomatch z
  | cons a as => exact nomatch z
theorem ks_st {K : PySem.W.Frag} {S : List Addr} {H H' : Hp} {a : Addr} {xs : List V} (h : SqT K H a xs) (e : Ks S H H') (n : a ∉ S) : SqT K H' a xs := by
  rcases h with (h | ⟨o, h⟩) | h
  · exact .inl (.inl (e _ _ n h))
  · exact .inl (.inr ⟨o, e _ _ n h⟩)
  · exact .inr h
theorem ks_sl {K : PySem.W.Frag} {S : List Addr} {H H' : Hp} {a : Addr} {xs : List V} (h : SqL K H a xs) (e : Ks S H H') (n : a ∉ S) : SqL K H' a xs := by
  rcases h with (h | ⟨o, h⟩) | h
  · exact .inl (.inl (e _ _ n h))
  · exact .inl (.inr ⟨o, e _ _ n h⟩)
  · exact .inr h
/-- a promise's two common ends -/
abbrev RV1 (v : V) (H : Hp) (Q : VK) : Prop := ∀ H2, Ex H H2 → Q v H2
abbrev RT1 (xs : List V) (H : Hp) (Q : VK) : Prop := ∀ p H2, Ex H H2 → H2 p = some (.tup xs) → Q (.ref p) H2
end Ver

set_option Elab.async false
set_option linter.all false
set_option maxRecDepth 100000
set_option maxHeartbeats 4000000
namespace Ver
open PySem PySem.Spec PyProof.Rows L2 Evl
/-! ## rights as data -/
inductive R | rw | r | w | n
  deriving DecidableEq
def R.s : R → Str
  | .rw => "rw"
  | .r => "r"
  | .w => "w"
  | .n => "-"
def R.hr : R → Bool
  | .rw => true
  | .r => true
  | _ => false
def R.hw : R → Bool
  | .rw => true
  | .w => true
  | _ => false
theorem R.s_inj {a b : R} (h : a.s = b.s) : a = b := by
  cases a <;> cases b <;> first | rfl | exact absurd h (by decide)
theorem dec_s (a b : R) : decide (a.s = b.s) = decide (a = b) := by
  cases a <;> cases b <;> decide
def tv (xs : List R) : List V := xs.map fun x => .str x.s
theorem tv_len (xs : List R) : (tv xs).length = xs.length := List.length_map _
theorem tv_at {xs : List R} {i : Nat} {x : R} (h : xs[i]? = some x) : (tv xs)[i]? = some (.str x.s) := by
  unfold tv
  rw [List.getElem?_map, h]
  rfl
theorem tv_get {xs : List R} {i : Nat} {v : V} (h : (tv xs)[i]? = some v) : ∃ x, xs[i]? = some x ∧ v = .str x.s := by
  unfold tv at h
  rw [List.getElem?_map] at h
  cases e : xs[i]? with
  | none => rw [e] at h; cases h
  | some x => rw [e] at h; exact ⟨x, rfl, (Option.some.inj h).symm⟩
theorem tv_flat (xs : List R) : (tv xs).all flatV = true := by
  unfold tv
  rw [List.all_map]
  exact List.all_eq_true.mpr fun _ _ => rfl
theorem tv_strs (xs : List R) : tv xs = (xs.map R.s).map V.str := by
  unfold tv
  rw [List.map_map]
  rfl
theorem tv_in (x : R) (xs : List R) : inV (.str x.s) (tv xs) = decide (x ∈ xs) := by
  induction xs with
  | nil => rfl
  | cons a as ih =>
    have e : inV (.str x.s) (tv (a :: as)) = (eqV (.str a.s) (.str x.s) || inV (.str x.s) (tv as)) := rfl
    have e2 : eqV (.str a.s) (.str x.s) = decide (x = a) := by cases a <;> cases x <;> rfl
    rw [e, ih, e2]
    by_cases h : x = a
    · subst h; simp
    · simp [h]
theorem in_r (a : R) : (!(Builtin.Str.occurrences a.s "r" 0 a.s.length 1).isEmpty) = a.hr := by cases a <;> decide +kernel
theorem in_w (a : R) : (!(Builtin.Str.occurrences a.s "w" 0 a.s.length 1).isEmpty) = a.hw := by cases a <;> decide +kernel
/-- each letter of a is one of b's -/
def wi (a b : R) : Bool := (!a.hr || b.hr) && (!a.hw || b.hw)
/-- converting, level by level, for equal lengths -/
def cw : List R → List R → Bool
  | a :: as, b :: bs => wi b a && (!b.hr || cw as bs) && (!b.hw || cw bs as)
  | _, _ => true
termination_by xs ys => xs.length + ys.length
def cv (xs ys : List R) : Bool := decide (xs.length = ys.length) && cw xs ys
theorem cw_nil : cw [] [] = true := by rw [cw]; all_goals (intros; contradiction)
theorem cw_cons (a b : R) (as bs : List R) : cw (a :: as) (b :: bs) = (wi b a && (!b.hr || cw as bs) && (!b.hw || cw bs as)) := by rw [cw]
theorem cv_ne {xs ys : List R} (h : xs.length ≠ ys.length) : cv xs ys = false := by
  unfold cv
  rw [decide_eq_false h]
  rfl
theorem cv_nil : cv [] [] = true := by
  unfold cv
  rw [cw_nil]
  rfl
theorem cv_cons {a b : R} {as bs : List R} (h : as.length = bs.length) : cv (a :: as) (b :: bs) = (wi b a && (!b.hr || cv as bs) && (!b.hw || cv bs as)) := by
  unfold cv
  rw [cw_cons, List.length_cons, List.length_cons, decide_eq_true (show as.length + 1 = bs.length + 1 by omega), decide_eq_true h, decide_eq_true h.symm]
  simp only [Bool.true_and]
theorem cw_refl : ∀ xs : List R, cw xs xs = true
  | [] => cw_nil
  | a :: as => by
    rw [cw_cons, cw_refl as]
    cases a <;> rfl
theorem cv_refl (xs : List R) : cv xs xs = true := by
  unfold cv
  rw [cw_refl, decide_eq_true rfl]
  rfl
theorem cw_trans : ∀ (n : Nat) (xs ys zs : List R), xs.length = n → ys.length = n → zs.length = n → cw xs ys = true → cw ys zs = true → cw xs zs = true
  | 0, [], [], [], _, _, _, _, _ => cw_nil
  | n + 1, a :: as, b :: bs, c :: cs, h1, h2, h3, p, q => by
    rw [cw_cons] at p q ⊢
    simp only [List.length_cons, Nat.add_right_cancel_iff] at h1 h2 h3
    have t1 := cw_trans n as bs cs h1 h2 h3
    have t2 := cw_trans n cs bs as h3 h2 h1
    generalize cw as bs = u1 at p t1
    generalize cw bs as = u2 at p t2
    generalize cw bs cs = u3 at q t1
    generalize cw cs bs = u4 at q t2
    generalize cw as cs = u5 at t1 ⊢
    generalize cw cs as = u6 at t2 ⊢
    revert p q t1 t2
    cases a <;> cases b <;> cases c <;> cases u1 <;> cases u2 <;> cases u3 <;> cases u4 <;> cases u5 <;> cases u6 <;> decide
theorem cv_trans {xs ys zs : List R} (p : cv xs ys = true) (q : cv ys zs = true) : cv xs zs = true := by
  unfold cv at *
  simp only [Bool.and_eq_true, decide_eq_true_eq] at *
  exact ⟨p.1.trans q.1, cw_trans xs.length xs ys zs rfl p.1.symm (p.1.trans q.1).symm p.2 q.2⟩
/-- the plain form -/
def pl : List R → List R
  | [] => []
  | x :: xs => if x = .n then .n :: xs.map (fun _ => .n) else x :: pl xs
theorem pl_len : ∀ xs : List R, (pl xs).length = xs.length
  | [] => rfl
  | x :: xs => by
    unfold pl
    by_cases h : x = .n
    · rw [if_pos h, List.length_cons, List.length_map, List.length_cons]
    · rw [if_neg h, List.length_cons, List.length_cons, pl_len xs]
theorem map_const {xs ys : List R} (h : xs.length = ys.length) : (xs.map fun _ => R.n) = ys.map fun _ => R.n := by
  rw [List.map_const', List.map_const', h]
theorem alike_pl : ∀ (xs ys : List R), (cv xs ys && cv ys xs) = decide (pl xs = pl ys)
  | [], [] => by rw [cv_nil]; rfl
  | [], b :: bs => by
    rw [cv_ne (by simp)]
    have h : pl [] ≠ pl (b :: bs) := fun e => by
      have := congrArg List.length e
      rw [pl_len, pl_len] at this
      simp at this
    rw [decide_eq_false h]
    rfl
  | a :: as, [] => by
    rw [cv_ne (by simp)]
    have h : pl (a :: as) ≠ pl [] := fun e => by
      have := congrArg List.length e
      rw [pl_len, pl_len] at this
      simp at this
    rw [decide_eq_false h]
    rfl
  | a :: as, b :: bs => by
    by_cases hl : as.length = bs.length
    · have ih := alike_pl as bs
      rw [cv_cons hl, cv_cons hl.symm]
      by_cases hab : a = b
      · subst hab
        by_cases hn : a = .n
        · subst hn
          have e : pl (R.n :: as) = pl (R.n :: bs) := by
            unfold pl
            rw [if_pos rfl, if_pos rfl, map_const hl]
          rw [decide_eq_true e]
          rfl
        · have e : decide (pl (a :: as) = pl (a :: bs)) = decide (pl as = pl bs) := by
            rw [show pl (a :: as) = a :: pl as by (conv => lhs; unfold pl); rw [if_neg hn], show pl (a :: bs) = a :: pl bs by (conv => lhs; unfold pl); rw [if_neg hn]]
            simp
          rw [e, ← ih]
          generalize cv as bs = u1
          generalize cv bs as = u2
          revert hn
          cases a <;> cases u1 <;> cases u2 <;> decide
      · have e : pl (a :: as) ≠ pl (b :: bs) := fun e => hab (by
          have q := congrArg List.head? e
          revert q
          unfold pl
          by_cases h1 : a = .n
          · by_cases h2 : b = .n
            · rw [h1, h2]; intro _; rfl
            · rw [if_pos h1, if_neg h2, h1]; intro q; exact Option.some.inj q
          · by_cases h2 : b = .n
            · rw [if_neg h1, if_pos h2, h2]; intro q; exact Option.some.inj q
            · rw [if_neg h1, if_neg h2]; intro q; exact Option.some.inj q)
        rw [decide_eq_false e]
        generalize cv as bs = u1
        generalize cv bs as = u2
        revert hab
        cases a <;> cases b <;> cases u1 <;> cases u2 <;> decide
    · rw [cv_ne (by simpa using hl)]
      have h : pl (a :: as) ≠ pl (b :: bs) := fun e => by
        have := congrArg List.length e
        rw [pl_len, pl_len] at this
        simp at this
        exact hl this
      rw [decide_eq_false h]
      rfl
/-! ## tuples of rights compared -/
def ru (xs : List R) : PyData := .tuple (xs.map fun x => .str x.s)
theorem dp_all {K : PySem.W.Frag} {H : Hp} : ∀ xs : List R, DpAll K H (tv xs) (xs.map fun x => .str x.s)
  | [] => .nil
  | x :: xs => .cons (.str x.s) (dp_all xs)
theorem dp_ru {K : PySem.W.Frag} {H : Hp} {a : Addr} {xs : List R} (h : SqT K H a (tv xs)) : Dp K H (.ref a) (ru xs) := .tup h (dp_all xs)
theorem eqv_rs : ∀ xs ys : List R, PyData.eqvAll (xs.map fun x => .str x.s) (ys.map fun x => .str x.s) = decide (xs = ys)
  | [], [] => rfl
  | [], y :: ys => rfl
  | x :: xs, [] => rfl
  | x :: xs, y :: ys => by
    show (PyData.eqv (.str x.s) (.str y.s) && PyData.eqvAll (xs.map fun x => .str x.s) (ys.map fun x => .str x.s)) = _
    rw [eqv_rs xs ys]
    have e : PyData.eqv (.str x.s) (.str y.s) = decide (x = y) := by cases x <;> cases y <;> rfl
    rw [e]
    by_cases h1 : x = y
    · subst h1; simp
    · simp [h1]
theorem eqv_ru (xs ys : List R) : PyData.eqv (ru xs) (ru ys) = decide (xs = ys) := eqv_rs xs ys
theorem depth_rs : ∀ xs : List R, PyData.depthAll (xs.map fun x => .str x.s) ≤ 1
  | [] => by simp [PyData.depthAll]
  | x :: xs => by
    have := depth_rs xs
    simp [PyData.depthAll, PyData.depth] at this ⊢
    try omega
theorem lay_rs : ∀ xs : List R, PyData.canLayAll0 (xs.map fun x => .str x.s) = true
  | [] => by simp [PyData.canLayAll0]
  | x :: xs => by
    have := lay_rs xs
    simp [PyData.canLayAll0, PyData.canLay0] at this ⊢
    exact ⟨by cases x <;> decide +kernel, this⟩
theorem shaped_ru (xs : List R) : SeqAt.shaped (ru xs) = true := by
  have d := depth_rs xs
  have l := lay_rs xs
  unfold SeqAt.shaped ru
  simp only [PyData.canLay0, PyData.depth, Bool.and_eq_true]
  exact ⟨l, decide_eq_true (by omega)⟩
theorem a_eqU {K : PySem.W.Frag} {H : Hp} {Q : VK} {a b : Addr} {xs ys : List R} (h1 : SqT K H a (tv xs)) (h2 : SqT K H b (tv ys)) (k : Q (.bl (decide (xs = ys))) H) : rEqD K (.ref a) (.ref b) H Q :=
  ⟨ru xs, ru ys, dp_ru h1, dp_ru h2, shaped_ru xs, shaped_ru ys, by rw [eqv_ru]; exact k⟩
theorem a_neU {K : PySem.W.Frag} {H : Hp} {Q : VK} {a b : Addr} {xs ys : List R} (h1 : SqT K H a (tv xs)) (h2 : SqT K H b (tv ys)) (k : Q (.bl (!decide (xs = ys))) H) : rNeD K (.ref a) (.ref b) H Q :=
  ⟨ru xs, ru ys, dp_ru h1, dp_ru h2, shaped_ru xs, shaped_ru ys, by rw [eqv_ru]; exact k⟩
/-! ## parts of tuples -/
theorem a_slT1 {K : PySem.W.Frag} {H : Hp} {Q : VK} {a : Addr} {v : V} {vs : List V} (h : SqT K H a (v :: vs)) (k : ∀ q H1, H q = none → Ex H H1 → H1 q = some (.tup vs) → Q (.ref q) H1) : rSlA K (.ref a) (some 1) none H Q := by
  have e1 : HT.sIx (v :: vs).length 0 (some 1) = 1 := by
    rw [show HT.sIx (v :: vs).length 0 (some 1) = min 1 (v :: vs).length from HT.sIx_nat (v :: vs).length 0 1, List.length_cons]
    omega
  refine ⟨a, v :: vs, rfl, h, fun z => ?_, fun _ p hp => ?_⟩
  · rw [e1] at z
    exact absurd z.1 (by decide)
  · have e : cutV (v :: vs) (some 1) none = vs := by
      unfold cutV
      rw [e1, HT.sIx_none, List.length_cons]
      show vs.take (vs.length + 1 - 1) = vs
      rw [Nat.add_sub_cancel]
      exact List.take_length
    rw [e]
    exact k p _ hp (Ex.new hp) upd_same
theorem a_slTo {K : PySem.W.Frag} {H : Hp} {Q : VK} {a : Addr} {vs : List V} {n : Nat} (h : SqT K H a vs) (hn : n < vs.length) (k : ∀ q H1, H q = none → Ex H H1 → H1 q = some (.tup (vs.take n)) → Q (.ref q) H1) : rSlA K (.ref a) none (some (n : Int)) H Q := by
  have e1 : HT.sIx vs.length vs.length (some (n : Int)) = n := by
    rw [HT.sIx_nat vs.length vs.length n]
    omega
  refine ⟨a, vs, rfl, h, fun z => ?_, fun _ p hp => ?_⟩
  · rw [e1] at z
    exact absurd z.2 (by omega)
  · have e : cutV vs none (some (n : Int)) = vs.take n := by
      unfold cutV
      rw [e1, HT.sIx_none]
      simp
    rw [e]
    exact k p _ hp (Ex.new hp) upd_same
theorem a_catA {K : PySem.W.Frag} {H : Hp} {Q : VK} {a b : Addr} {xs ys : List V} (h1 : SqT K H a xs) (h2 : SqT K H b ys) (hz : xs.length + ys.length ≤ 100000) (k : ∀ q H1, Ex H H1 → SqT K H1 q (xs ++ ys) → Q (.ref q) H1) : rCatA K (.ref a) (.ref b) H Q :=
  ⟨a, b, xs, ys, rfl, rfl, h1, h2, sz_of hz, fun e => k b H (Ex.refl H) (by rw [e]; exact h2), fun _ e => k a H (Ex.refl H) (by rw [e, List.append_nil]; exact h1), fun _ _ p hp => k p _ (Ex.new hp) (SqT.of upd_same)⟩
/-! ## t * n, n from 1 on -/
theorem tup_mul1 (l : Addr) (its : Array Value) (n : Nat) (dd : Option Addr) (sl : Array (Option Value)) (u : Tok) :
    Meets (Builtin.«tuple.__mul__» ⟨[.ref l, .int 1 u], []⟩) (fun _ R s => s.heap.get? l = some { cls := .type "tuple", dict := dd, data := .seq its n, slots := sl } ∧ R (.ok (.ret (Value.ref l))) s) :=
  .of_wp fun prog w A R s h => by
    obtain ⟨hp, g, d, tk, os⟩ := s
    obtain ⟨hl, h⟩ := h
    have f1 := AutoSeq1.idx_int
    wp_walk using wpAny_loadPart' hl
    exact ⟨_, rfl, h⟩
def rRepA (K : PySem.W.Frag) : R2 := fun x y H Q => ∃ l k xs, x = .ref l ∧ y = .int k ∧ SqT K H l xs ∧ xs ≠ [] ∧ 1 ≤ k ∧ k ≤ 1000 ∧ xs.length ≤ 1000 ∧ ∀ q H1, Ex H H1 → SqT K H1 q (List.replicate k.toNat xs).flatten → Q (.ref q) H1
theorem op_repA {X : Cx} : OpR X (binaryOp .Mult) (rRepA X.K) := by
  intro pins s σ H x y v u Q I rx ry h
  obtain ⟨l, k, xs, rfl, rfl, hT, hne, h1, h2, hz, q⟩ := h
  by_cases hk : 2 ≤ k
  · exact op_repT pins s σ H _ _ v u Q I rx ry ⟨l, k, xs, rfl, rfl, hT, hne, hk, h2, hz, fun p hp => q p _ (Ex.new hp) (SqT.of upd_same)⟩
  · have e : k = 1 := by omega
    subst e
    cases rx
    obtain ⟨t, rfl⟩ := ry
    have q' := q l H (Ex.refl H) (by simpa using hT)
    obtain ⟨its, r, ⟨⟨cls, dd, data, sl⟩, ho, hc, n, hd⟩, hs⟩ := I.tuple hT
    simp only at hc hd
    subst hc hd
    exact wpAny_binaryOp_repeat_ref (T := "tuple") (U := "int") (by decide) ⟨_, ho, rfl⟩ (fun s' => typeIs_int s' 1 t) noFill_tuple_mul F.fills_int_mul F.slot_int_rmul repeat_tuple F.slot_int_index.lookup
      (call_meets F.slot_int_rmul (typeIs_int s 1 t) F.entry_int_rmul (F.args_int_rmul_2 _ _) (int_rmul_tuple 1 t l its.toArray n dd sl)
        ⟨ho, rfl, ⟨_, ho, rfl⟩, call_meets F.slot_tuple_mul ⟨_, ho, rfl⟩ F.entry_tuple_mul (F.args_tuple_mul_2 _ _) (tup_mul1 l its.toArray n dd sl t) ⟨ho, ⟨.ref l, H, I, rfl, q'⟩⟩⟩)
/-! ## tuples whose very object is known: their methods -/
def Tu (H : Hp) (a : Addr) (xs : List V) : Prop := ∃ ob : Obj, ob.dict = none ∧ H a = some (.frz ob (.tup xs))
theorem Tu.st {K : PySem.W.Frag} {H : Hp} {a : Addr} {xs : List V} (h : Tu H a xs) : SqT K H a xs := by
  obtain ⟨ob, _, h⟩ := h
  exact .inl (.inr ⟨ob, h⟩)
theorem Tu.ex {H H' : Hp} {a : Addr} {xs : List V} (h : Tu H a xs) (e : Ex H H') : Tu H' a xs := by
  obtain ⟨ob, d, h⟩ := h
  exact ⟨ob, d, e _ _ h⟩
theorem Tu.ks {S : List Addr} {H H' : Hp} {a : Addr} {xs : List V} (h : Tu H a xs) (e : Ks S H H') (n : a ∉ S) : Tu H' a xs := by
  obtain ⟨ob, d, h⟩ := h
  exact ⟨ob, d, e _ _ n h⟩
theorem Tu.ne {H : Hp} {a b r : Addr} {xs : List V} (h : Tu H a xs) (g : Bx H b r) : a ≠ b ∧ a ≠ r := by
  obtain ⟨n, ns, h1, h2, _⟩ := g
  obtain ⟨ob, d, h⟩ := h
  exact ⟨ne_of h h1 (fun z => nomatch z), ne_of h h2 (fun z => nomatch z)⟩
def qTupF (K : PySem.W.Frag) : List V → Hp → VK → Prop := fun xs H Q => ∃ p ys, xs = [.ref p] ∧ ((SqL K H p ys ∧ ∀ l (ob : Obj), H l = none → ob.dict = none → Q (.ref l) (upd H l (.frz ob (.tup ys)))) ∨ (SqT K H p ys ∧ Q (.ref p) H))
theorem k_tupF {X : Cx} : CallR X (.type "tuple") (qTupF X.K) := by
  intro pins s σ H xs us Q I rs h
  obtain ⟨p, ys, rfl, h⟩ := h
  obtain ⟨u, rfl, ru⟩ := vals1 rs
  cases ru
  rcases h with ⟨hq, q⟩ | ⟨hq, q⟩
  · obtain ⟨its, rv, pls, hz⟩ := I.list hq
    have hlen := rv.length
    refine call_tuple_list pls.isList (fun g kp => ?_) (by rw [List.size_toArray]; omega)
    have J : Inv X pins σ H { s with heap := g } := I.kept (t' := s.toks) kp
    have J2 : Inv X pins σ (upd H g.objs.size (.frz { cls := .type "tuple", data := .seq its.toArray } (.tup ys))) { s with heap := g.push { cls := .type "tuple", data := .seq its.toArray } } :=
      J.laid (t' := s.toks) (fun c o z => Heap.get?_push_of_some _ z) (Nat.le_refl _) ⟨Heap.get?_push_size _ rfl, ⟨hz, its, rv, IsTup.new _ _⟩⟩
    exact ⟨.ref g.objs.size, _, J2, rfl, q _ _ (J.hok.fresh (Nat.le_refl _)) rfl⟩
  · obtain ⟨its, rv, pls, hz⟩ := I.tuple hq
    exact call_tuple_same pls ⟨.ref p, H, I, rfl, q⟩
theorem tupFK (K : PySem.W.Frag) {X : Cx} (h : X.K = K := by rfl) : CallR X (.type "tuple") (qTupF K) := by subst h; exact k_tupF
theorem repAK (K : PySem.W.Frag) {X : Cx} (h : X.K = K := by rfl) : OpR X (binaryOp .Mult) (rRepA K) := by subst h; exact op_repA
theorem a_tupFL {K : PySem.W.Frag} {H : Hp} {Q : VK} {p : Addr} {xs : List V} (h : SqL K H p xs) (k : ∀ q H1, H q = none → Ex H H1 → Tu H1 q xs → Q (.ref q) H1) : qTupF K [.ref p] H Q :=
  ⟨p, xs, rfl, .inl ⟨h, fun q _ n d => k q _ n (Ex.new n) ⟨_, d, upd_same⟩⟩⟩
def tBMT (f : V → List V → Hp → VK → Prop) (to : TE) (a : TA) : TE := fun σ H Q => to σ H fun x Ha => (∃ p ys, x = .ref p ∧ Tu Ha p ys) ∧ a σ Ha fun xs Hb => f x xs Hb Q
theorem w_BMT {f : V → List V → Hp → VK → Prop} {to : TE} {a : TA} {σ : L2.St} {H : Hp} {Q : VK} (h : to σ H fun x Ha => (∃ p ys, x = .ref p ∧ Tu Ha p ys) ∧ a σ Ha fun xs Hb => f x xs Hb Q) : tBMT f to a σ H Q := h
theorem pe_bmT {X : Cx} {o e : Expr} {es : List Expr} {to : TE} {t : TA} {nm : Str} {ap cp : Pos} {id : String} {f : V → List V → Hp → VK → Prop} (pa : PlainAttrs "tuple") (slot : Slot "tuple" nm id) (hty : typeOf (.builtin id) = pure (.type "method_descriptor")) (hm : MtR X id f) (ho : PE X o to) (ha : PA X (e :: es) t)
    (h1 : attributeBase o nm X.env (eval o X.env) = eval o X.env := by rfl)
    (h2 : ((backTo cp (starEach (e :: es) X.env)).all (fun z => !z.1) && (backToKw cp (keywordEach [] X.env)).all (fun z => z.1.isSome) && decide ((e :: es).length + ([] : List Keyword).length + (if ([] : List Keyword).isEmpty then 0 else 1) < 30)) = true := by rfl)
    (h3 : (ap.endLine == cp.line) = true := by rfl) (h4 : starEach (e :: es) X.env = (false, eval e X.env) :: starEach es X.env := by rfl) (h5 : (backTo cp (starEach es X.env)).any (·.1) = false := by rfl) :
    PE X (.Call (.Attribute o nm ap) (e :: es) [] cp) (tBMT f to t) := by
  refine ⟨fun pins s σ H Q I h => wpAny_Call_method_late h1 h2 h3 rfl (thn (ho.run pins s σ H _ I h) fun v s1 ⟨x, H1, I1, r1, ty, q1⟩ => ?_)⟩
  obtain ⟨p, ys, rfl, ob, hd, hp⟩ := ty
  cases r1
  obtain ⟨g1, _, its, _, g2⟩ := I1.hok p _ hp
  have A := ha.run cp pins s1 σ H1 _ I1 q1
  rw [h4] at A
  refine ⟨"tuple", id, pa, slot, hty, g2.typeIs, fun c z => ⟨ob, by cases z; exact g1, hd⟩, ?_⟩
  rw [h4]
  refine Calls.callWith_builtin (by show (false || (backTo cp (starEach es X.env)).any (·.1)) = false; rw [h5]; rfl) (Calls.evalArgs_plain ?_)
  exact thn A fun us s2 ⟨vs, H2, I2, r2, q2⟩ => hm pins s2 σ H2 (.ref p) vs _ us Q I2 rfl r2 q2
/-! ## bars -/
def ltr (b : Bool) : Str := if b then "r" else "w"
def lv (ls : List Bool) : List V := ls.map fun b => .str (ltr b)
theorem lv_len (ls : List Bool) : (lv ls).length = ls.length := List.length_map _
def R.has (x : R) (b : Bool) : Bool := if b then x.hr else x.hw
theorem in_l (x : R) (b : Bool) : (!(Builtin.Str.occurrences x.s (ltr b) 0 x.s.length 1).isEmpty) = x.has b := by
  cases b
  · exact in_w x
  · exact in_r x
/-- going down by letters, turning about at w, to a right that the second has and the first lacks -/
def ib : List R → List R → List Bool → Bool → Bool
  | x :: _, y :: _, [], b => y.has b && !x.has b
  | _ :: xs, y :: ys, l :: ls, b => y.has l && ib (if l then xs else ys) (if l then ys else xs) ls b
  | _, _, _, _ => false
theorem ib_long : ∀ (ls : List Bool) (xs ys : List R) (b : Bool), xs.length = ys.length → xs.length ≤ ls.length → ib xs ys ls b = false
  | [], xs, ys, b, _, h => by
    have e : xs = [] := List.eq_nil_of_length_eq_zero (by simpa using h)
    subst e
    cases ys <;> rfl
  | l :: ls, [], ys, b, _, _ => by cases ys <;> rfl
  | l :: ls, x :: xs, [], b, h, _ => by cases h
  | l :: ls, x :: xs, y :: ys, b, h, h2 => by
    have h' : xs.length = ys.length := by simpa using h
    have h2' : xs.length ≤ ls.length := by simpa using h2
    show (y.has l && ib (if l then xs else ys) (if l then ys else xs) ls b) = false
    cases l
    · rw [show ib (if false = true then xs else ys) (if false = true then ys else xs) ls b = ib ys xs ls b from rfl, ib_long ls ys xs b h'.symm (by omega), Bool.and_false]
    · rw [show ib (if true = true then xs else ys) (if true = true then ys else xs) ls b = ib xs ys ls b from rfl, ib_long ls xs ys b h' h2', Bool.and_false]
theorem cv_cons' {a b : R} {as bs : List R} (h : as.length = bs.length) : cv (a :: as) (b :: bs) = (((!b.has true || a.has true) && (!b.has false || a.has false)) && (!b.has true || cv as bs) && (!b.has false || cv bs as)) := cv_cons h
/-- converting and bars exclude one another -/
theorem ib_cv : ∀ (ls : List Bool) (xs ys : List R) (b : Bool), xs.length = ys.length → ib xs ys ls b = true → cv xs ys = false
  | [], [], ys, b, _, h => by cases ys <;> cases h
  | [], x :: xs, [], b, h, _ => by cases h
  | [], x :: xs, y :: ys, b, h, g => by
    rw [cv_cons' (by simpa using h)]
    have g' : (y.has b && !x.has b) = true := g
    revert g'
    generalize cv xs ys = u1
    generalize cv ys xs = u2
    cases b <;> cases x <;> cases y <;> cases u1 <;> cases u2 <;> decide
  | l :: ls, [], ys, b, _, h => by cases ys <;> cases h
  | l :: ls, x :: xs, [], b, h, _ => by cases h
  | l :: ls, x :: xs, y :: ys, b, h, g => by
    have h' : xs.length = ys.length := by simpa using h
    have g' : (y.has l && ib (if l then xs else ys) (if l then ys else xs) ls b) = true := g
    rw [Bool.and_eq_true] at g'
    rw [cv_cons' h']
    cases l
    · have c := ib_cv ls ys xs b h'.symm g'.2
      rw [c, g'.1]
      simp
    · have c := ib_cv ls xs ys b h' g'.2
      rw [c, g'.1]
      simp
end Ver

set_option Elab.async false
set_option linter.all false
set_option maxRecDepth 100000
set_option maxHeartbeats 4000000
namespace Ver
open PySem PySem.Spec PyProof.Rows L2 Evl
/-! ## sorted of a list of tuples of rights -/
def itV (p : Addr × List R) : V := .ref p.1
abbrev leT : Addr × List R → Addr × List R → Bool := PySem.W.dataLe false fun p => ru p.2
def rSortT (K : PySem.W.Frag) : List V → Hp → VK → Prop := fun vs H Q => ∃ (a : Addr) (its : List (Addr × List R)), vs = [.ref a] ∧ SqL K H a (its.map itV) ∧ (∀ p ∈ its, SqT K H p.1 (tv p.2)) ∧ ((∀ p ∈ its, p.2 ≠ []) ∨ ∃ p, its = [(p, [])]) ∧ its.length ≤ 100000 ∧ ∀ q, H q = none → Q (.ref q) (upd H q (.lst ((its.mergeSort leT).map itV)))
theorem alike_rs : ∀ xs ys : List R, PySem.W.alikeAll (xs.map fun x => .str x.s) (ys.map fun x => .str x.s) = true
  | [], _ => by simp [PySem.W.alikeAll]
  | _ :: _, [] => by simp [PySem.W.alikeAll]
  | x :: xs, y :: ys => by
    have := alike_rs xs ys
    simp only [List.map_cons, PySem.W.alikeAll, PySem.W.alike, Bool.true_and]
    exact this
theorem alike_ru (xs ys : List R) : PySem.W.alike (ru xs) (ru ys) = true := by
  unfold ru
  simp only [PySem.W.alike]
  exact alike_rs xs ys
theorem each_ref : ∀ {its : List (Addr × List R)} {us : List Value}, Vals (its.map itV) us → PySem.W.EachIs (fun v (b : Addr × List R) => v = Value.ref b.1) us its
  | [], us, h => by
    rw [List.map_nil] at h
    cases h
    exact .nil
  | p :: its, us, h => by
    rw [List.map_cons] at h
    cases h with
    | cons r t =>
      cases r
      exact .cons rfl (each_ref t)
theorem vals_ref : ∀ {its : List (Addr × List R)} {us : List Value}, PySem.W.EachIs (fun v (b : Addr × List R) => v = Value.ref b.1) us its → Vals (its.map itV) us
  | _, _, .nil => by rw [List.map_nil]; exact Paired.nil
  | _, _, .cons h t => by
    subst h
    rw [List.map_cons]
    exact Paired.cons (show RelV (itV _) _ from rfl) (vals_ref t)
section
open PySem.W PySem.Calls
theorem one_sorts {prog : Program} {w : World} {A : Around} {s : Shared} {v : Value} {as : List Addr} (r : Reads s.heap v (.tuple []) as) (hu : A.units < cLine) : SortsAt prog w A s (dataKind s.heap [.tuple []]) [v] := by
  have hal : AllAlike [PyData.tuple []] := fun d hd d' hd' => by
    rw [List.mem_singleton] at hd hd'
    subst hd hd'
    simp [alike, alikeAll]
  refine ⟨fun u hu => ?_, tuples' true, ?_, fun h2 => absurd h2 (by simp)⟩
  · rw [List.mem_singleton] at hu
    subst hu
    exact ⟨_, dataKind_some hal (List.mem_singleton.mpr rfl) r⟩
  · intro E x y a b Q ha hb hq
    obtain ⟨e1, rs1, m1, read1, rfl⟩ := dataKind_inv ha
    obtain ⟨e2, rs2, m2, read2, rfl⟩ := dataKind_inv hb
    rw [List.mem_singleton] at m1 m2
    subst m1 m2
    have hq' : Q (dataLt (.tuple []) (.tuple [])) s := hq
    rw [dataLt_tuple] at hq'
    cases read1 with
    | @tuple p1 ob1 ar1 c1 _ _ h1 h2 h3 h4 =>
      cases read2 with
      | @tuple p2 ob2 ar2 c2 _ _ k1 k2 k3 k4 =>
        have n1 : ar1.size = 0 := by simpa using SeqAt.ReadsAll.length _ _ _ h4
        have n2 : ar2.size = 0 := by simpa using SeqAt.ReadsAll.length _ _ _ k4
        exact kat_lt h1 h3 k1 k3 (katLex_alike [] [] 0 _ _ _ _ h4 k4 (by simp [alikeAll]) (by simpa [PyData.depthAll] using hu) (fun _ _ x r t ex => nomatch ex) (by rw [n1, n2]; rfl) hq')
theorem sorted_one {prog : Program} {w : World} {A : Around} {E : Value → Shared → Prop} {s : Shared} {l : Addr} {v : Value} {as : List Addr} {Q : Value → Shared → Prop} (hl : s.heap.IsList l [v].toArray) (r : Reads s.heap v (.tuple []) as) (hu : A.units + 2 < cLine)
    (h : Q (.ref (s.heap.objs.size + 1)) { s with heap := sortedAll s.heap [v] [v].toArray }) : wpAny (model prog w) A (call (.builtin "sorted") [.ref l]) Q E s := by
  have hal : AllAlike (List.map (fun d : PyData => d) [PyData.tuple []]) := fun d hd d' hd' => by
    simp only [List.map_cons, List.map_nil, List.mem_singleton] at hd hd'
    subst hd hd'
    simp [alike, alikeAll]
  have r' : Reads (sortingHeap (copyHeap s.heap [v]) (s.heap.objs.size + 1) [v]) v (.tuple []) as := PyProof.Rows.Reads.keeps (fun _ _ => sorting_copy_old) r
  have z : sortVals (dataKind (sortingHeap (copyHeap s.heap [v]) (s.heap.objs.size + 1) [v]) (List.map (fun d : PyData => d) [PyData.tuple []])) false [v] [v] = [v] := by
    have e := sortVals_data (R := fun u (_ : PyData) => u = v) (enc := fun d : PyData => d) false (EachIs.cons rfl EachIs.nil) (EachIs.cons ⟨as, r'⟩ EachIs.nil) hal
    rw [List.mergeSort_singleton] at e
    generalize sortVals _ _ _ _ = o at e ⊢
    cases e with
    | cons h1 t =>
      cases t
      rw [h1]
  refine sorted_vals hl (κ := dataKind (sortingHeap (copyHeap s.heap [v]) (s.heap.objs.size + 1) [v]) [PyData.tuple []]) (one_sorts (s := { s with heap := sortingHeap (copyHeap s.heap [v]) (s.heap.objs.size + 1) [v] }) r' hu) (sz_of (show 1 ≤ 100000 by decide)) ?_
  have z' : sortVals (dataKind (sortingHeap (copyHeap s.heap [v]) (s.heap.objs.size + 1) [v]) [PyData.tuple []]) false [v] [v] = [v] := z
  rw [z']
  exact h
end
theorem cr_sortedT {X : Cx} (hu : X.A.units + 64 < cLine) : CallR X (.builtin "sorted") (rSortT X.K) := by
  intro pins s σ H vs us Q I r h
  obtain ⟨a, its, rfl, hs, ht, hne, hz, q⟩ := h
  obtain ⟨vals, rv, hl, _⟩ := I.list hs
  rw [Vals.ref1 r]
  have e := each_ref rv
  have er : ∀ (its' : List (Addr × List R)) (vs : List Value), (∀ p ∈ its', SqT X.K H p.1 (tv p.2)) → PySem.W.EachIs (fun v (b : Addr × List R) => v = Value.ref b.1) vs its' → PySem.W.EachIs (fun v (b : Addr × List R) => ∃ as, Reads s.heap v (ru b.2) as) vs its' := by
    intro its'
    induction its' with
    | nil =>
      intro vs _ h
      cases h
      exact .nil
    | cons p its' ih =>
      intro vs ht h
      cases h with
      | cons h1 t =>
        subst h1
        exact .cons (Dp.reads I (ru p.2) (.ref p.1) (Value.ref p.1) (dp_ru (ht p (List.mem_cons_self ..))) rfl) (ih _ (fun p hp => ht p (List.mem_cons_of_mem _ hp)) t)
  rcases hne with hne | ⟨p, rfl⟩
  case inr =>
    have hp := ht (p, []) (List.mem_singleton.mpr rfl)
    cases e with
    | cons h1 t =>
      cases t
      subst h1
      obtain ⟨as, rd⟩ := Dp.reads I (ru []) (.ref p) (Value.ref p) (dp_ru hp) rfl
      refine sorted_one hl.isList rd (by have := hu; omega) ?_
      obtain ⟨ep, he'⟩ := PyProof.Rows.sortedAll_at s.heap [Value.ref p] [Value.ref p].toArray
      rw [List.mergeSort_singleton] at q
      exact ⟨.ref _, upd H (s.heap.objs.size + 1) (.lst ([(p, ([] : List R))].map itV)), I.laid (t' := s.toks) (fun _ _ => PyProof.Rows.sortedAll_old) (Nat.le_succ _) ⟨sz_of (show (1 : Nat) ≤ 100000 by decide), [Value.ref p], ep, rv, he'⟩, rfl, q _ (I.hok.fresh (Nat.le_succ _))⟩
  refine PySem.W.sorted_data (enc := fun p : Addr × List R => ru p.2) hl.isList e (er its vals ht e) (PySem.W.AllAlike.of fun b b' => alike_ru _ _) (.inl fun d hd => ?_) (sz_of hz) (fun b hb => ?_) fun out hlen hout => ?_
  · obtain ⟨b, hb, rfl⟩ := List.mem_map.mp hd
    cases hb2 : b.2 with
    | nil => exact absurd hb2 (hne b hb)
    | cons x xs => exact ⟨_, _, rfl⟩
  · have := depth_rs b.2
    unfold ru
    simp only [PyData.depth]
    omega
  · obtain ⟨ep, he'⟩ := PyProof.Rows.sortedAll_at s.heap vals out.toArray
    have hlen2 : ((its.mergeSort leT).map itV).length ≤ sizeLine := by rw [List.length_map, List.length_mergeSort]; exact sz_of hz
    exact ⟨.ref _, upd H (s.heap.objs.size + 1) (.lst ((its.mergeSort leT).map itV)), I.laid (t' := s.toks) (fun _ _ => PyProof.Rows.sortedAll_old) (Nat.le_succ _) ⟨hlen2, out, ep, vals_ref hout, he'⟩, rfl, q _ (I.hok.fresh (Nat.le_succ _))⟩
end Ver

set_option Elab.async false
set_option linter.all false
set_option maxRecDepth 100000
set_option maxHeartbeats 4000000
namespace Ver
open PySem PySem.Spec PyProof.Rows L2 Evl
/-! ## joins and meets, as the document has them and as the law counts them -/
abbrev leR : List R → List R → Bool := PySem.W.dataLe false ru
theorem leR_total : PySem.W.TotalLe leR := PySem.W.sortLe_total _ _ _
def pfs : Nat → List (List R)
  | 0 => [[]]
  | n + 1 => List.replicate (n + 1) .n :: [R.r, .rw, .w].flatMap fun x => (pfs n).map (x :: ·)
theorem pl_n (n : Nat) : pl (List.replicate (n + 1) R.n) = List.replicate (n + 1) .n := by
  rw [List.replicate_succ]
  unfold pl
  rw [if_pos rfl, List.map_replicate]
theorem pfs_iff : ∀ (n : Nat) (f : List R), f ∈ pfs n ↔ f.length = n ∧ pl f = f
  | 0, f => by
    show f ∈ [[]] ↔ _
    rw [List.mem_singleton]
    constructor
    · rintro rfl
      exact ⟨rfl, rfl⟩
    · intro h
      exact List.eq_nil_of_length_eq_zero h.1
  | n + 1, f => by
    have ih := pfs_iff n
    show f ∈ List.replicate (n + 1) R.n :: _ ↔ _
    rw [List.mem_cons, List.mem_flatMap]
    constructor
    · rintro (rfl | ⟨x, hx, h⟩)
      · exact ⟨List.length_replicate, pl_n n⟩
      · obtain ⟨g, hg, rfl⟩ := List.mem_map.mp h
        have k := (ih g).mp hg
        have nx : x ≠ .n := by
          simp only [List.mem_cons, List.not_mem_nil, or_false] at hx
          rcases hx with rfl | rfl | rfl <;> decide
        refine ⟨by rw [List.length_cons, k.1], ?_⟩
        unfold pl
        rw [if_neg nx, k.2]
    · rintro ⟨hl, hp⟩
      cases f with
      | nil => simp at hl
      | cons x g =>
        by_cases nx : x = .n
        · subst nx
          left
          unfold pl at hp
          rw [if_pos rfl] at hp
          have e : g = List.replicate g.length .n := by
            have := (List.cons.inj hp).2
            rw [List.map_const'] at this
            exact this.symm
          rw [e]
          simp only [List.length_cons, List.length_replicate] at hl
          have : g.length = n := by omega
          rw [this]
          rfl
        · right
          unfold pl at hp
          rw [if_neg nx] at hp
          refine ⟨x, ?_, List.mem_map.mpr ⟨g, (ih g).mpr ⟨by simpa using hl, (List.cons.inj hp).2⟩, rfl⟩⟩
          cases x <;> first | exact absurd rfl nx | simp
theorem pl_pl : ∀ xs : List R, pl (pl xs) = pl xs
  | [] => rfl
  | x :: xs => by
    by_cases h : x = .n
    · subst h
      have e : pl (R.n :: xs) = R.n :: xs.map fun _ => R.n := by
        show (if R.n = R.n then _ else _) = _
        rw [if_pos rfl]
      rw [e]
      show (if R.n = R.n then R.n :: (xs.map fun _ => R.n).map (fun _ => R.n) else _) = _
      rw [if_pos rfl, List.map_map]
      rfl
    · have e : pl (x :: xs) = x :: pl xs := by
        show (if x = R.n then _ else _) = _
        rw [if_neg h]
      rw [e]
      show (if x = R.n then _ else x :: pl (pl xs)) = _
      rw [if_neg h, pl_pl xs]
theorem pl_alike (xs : List R) : cv xs (pl xs) = true ∧ cv (pl xs) xs = true := by
  have h := alike_pl xs (pl xs)
  rw [pl_pl, decide_eq_true rfl, Bool.and_eq_true] at h
  exact h
theorem alike_eq {xs ys : List R} (h : cv xs ys = true) (k : cv ys xs = true) : pl xs = pl ys := by
  have a := alike_pl xs ys
  rw [h, k] at a
  exact of_decide_eq_true a.symm
/-- all value types of a length -/
def evs : Nat → List (List R)
  | 0 => [[]]
  | n + 1 => (evs n).flatMap fun row => [R.n, .r, .rw, .w].map fun x => row ++ [x]
theorem evs_iff : ∀ (n : Nat) (f : List R), f ∈ evs n ↔ f.length = n
  | 0, f => by
    show f ∈ [[]] ↔ _
    rw [List.mem_singleton]
    exact ⟨fun h => by rw [h]; rfl, fun h => List.eq_nil_of_length_eq_zero h⟩
  | n + 1, f => by
    have ih := evs_iff n
    show f ∈ (evs n).flatMap _ ↔ _
    rw [List.mem_flatMap]
    constructor
    · rintro ⟨g, hg, h⟩
      obtain ⟨x, _, rfl⟩ := List.mem_map.mp h
      rw [List.length_append, (ih g).mp hg]
      rfl
    · intro hl
      have ne : f ≠ [] := fun z => by rw [z] at hl; simp at hl
      refine ⟨f.dropLast, (ih _).mpr (by rw [List.length_dropLast, hl]; rfl), List.mem_map.mpr ⟨f.getLast ne, ?_, List.dropLast_concat_getLast ne⟩⟩
      cases f.getLast ne <;> simp
/-- the least of rows by a relation, in plain form, each once -/
def lsD (le : List R → List R → Bool) (rows : List (List R)) : List (List R) → List (List R)
  | [] => []
  | one :: rest => lsD le rows rest
def lstep (le : List R → List R → Bool) (rows out : List (List R)) (one : List R) : List (List R) :=
  if (rows.filter fun two => le two one && !le one two).length = 0 then (if pl one ∈ out then out else out ++ [pl one]) else out
def lfold (le : List R → List R → Bool) (rows : List (List R)) (k : Nat) : List (List R) := (rows.take k).foldl (lstep le rows) []
theorem lstep_nd {le : List R → List R → Bool} {rows out : List (List R)} {one : List R} (h : out.Nodup) : (lstep le rows out one).Nodup := by
  unfold lstep
  split
  · split
    · exact h
    · rename_i n
      exact List.nodup_append.mpr ⟨h, by simp, fun a ha b hb z => n (by rw [List.mem_singleton] at hb; rw [← hb, ← z]; exact ha)⟩
  · exact h
theorem lstep_mem {le : List R → List R → Bool} {rows out : List (List R)} {one f : List R} : f ∈ lstep le rows out one ↔ f ∈ out ∨ ((∀ two ∈ rows, le two one = true → le one two = true) ∧ f = pl one) := by
  unfold lstep
  have c : (rows.filter fun two => le two one && !le one two).length = 0 ↔ ∀ two ∈ rows, le two one = true → le one two = true := by
    rw [List.length_eq_zero_iff, List.filter_eq_nil_iff]
    constructor
    · intro h two ht h1
      have := h two ht
      rw [h1, Bool.true_and] at this
      simpa using this
    · intro h two ht z
      rw [Bool.and_eq_true] at z
      rw [h two ht z.1] at z
      exact absurd z.2 (by decide)
  by_cases h : (rows.filter fun two => le two one && !le one two).length = 0
  · rw [if_pos h]
    have h' := c.mp h
    by_cases m : pl one ∈ out
    · rw [if_pos m]
      exact ⟨fun z => .inl z, fun z => z.elim id fun z => z.2 ▸ m⟩
    · rw [if_neg m, List.mem_append, List.mem_singleton]
      exact ⟨fun z => z.elim .inl fun z => .inr ⟨h', z⟩, fun z => z.elim .inl fun z => .inr z.2⟩
  · rw [if_neg h]
    exact ⟨.inl, fun z => z.elim id fun z => absurd (c.mpr z.1) h⟩
theorem lfold_nd {le : List R → List R → Bool} {rows : List (List R)} : ∀ (xs out : List (List R)), out.Nodup → (xs.foldl (lstep le rows) out).Nodup
  | [], _, h => h
  | x :: xs, out, h => lfold_nd xs _ (lstep_nd h)
theorem lfold_mem {le : List R → List R → Bool} {rows : List (List R)} {f : List R} : ∀ (xs out : List (List R)), f ∈ xs.foldl (lstep le rows) out ↔ f ∈ out ∨ ∃ one ∈ xs, (∀ two ∈ rows, le two one = true → le one two = true) ∧ f = pl one
  | [], out => by simp
  | x :: xs, out => by
    show f ∈ xs.foldl (lstep le rows) (lstep le rows out x) ↔ _
    rw [lfold_mem xs, lstep_mem]
    constructor
    · rintro ((h | h) | ⟨one, ho, h⟩)
      · exact .inl h
      · exact .inr ⟨x, List.mem_cons_self .., h⟩
      · exact .inr ⟨one, List.mem_cons_of_mem _ ho, h⟩
    · rintro (h | ⟨one, ho, h⟩)
      · exact .inl (.inl h)
      · rcases List.mem_cons.mp ho with rfl | ho
        · exact .inl (.inr h)
        · exact .inr ⟨one, ho, h⟩
/-- what the program answers -/
def least (le : List R → List R → Bool) (ok : List R → Bool) (n : Nat) : List (List R) :=
  ((pfs n).filter ok).filter fun f => ((pfs n).filter ok).all fun o => decide (o = f) || !le o f
theorem least_mem {le : List R → List R → Bool} {ok : List R → Bool} {n : Nat} (tr : ∀ {a b c : List R}, le a b = true → le b c = true → le a c = true) (al : ∀ a, le a (pl a) = true ∧ le (pl a) a = true) (eq : ∀ {a b : List R}, le a b = true → le b a = true → pl a = pl b)
    (okp : ∀ a, ok (pl a) = ok a) (f : List R) : f ∈ least le ok n ↔ f ∈ ((evs n).filter ok).foldl (lstep le ((evs n).filter ok)) [] := by
  rw [lfold_mem]
  unfold least
  rw [List.mem_filter, List.mem_filter]
  constructor
  · rintro ⟨⟨hf, ho⟩, hm⟩
    have pf := (pfs_iff n f).mp hf
    refine .inr ⟨f, List.mem_filter.mpr ⟨(evs_iff n f).mpr pf.1, ho⟩, fun t ht h => ?_, pf.2.symm⟩
    obtain ⟨ht1, ht2⟩ := List.mem_filter.mp ht
    have lt := (evs_iff n t).mp ht1
    have m : pl t ∈ (pfs n).filter ok := List.mem_filter.mpr ⟨(pfs_iff n _).mpr ⟨by rw [pl_len, lt], pl_pl t⟩, by rw [okp]; exact ht2⟩
    have z := List.all_eq_true.mp hm _ m
    have l2 : le (pl t) f = true := tr (al t).2 h
    rw [l2] at z
    have e : pl t = f := by simpa using z
    rw [← e]
    exact (al t).2
  · rintro (h | ⟨o, ho, hm, rfl⟩)
    · cases h
    · obtain ⟨h1, h2⟩ := List.mem_filter.mp ho
      have lo := (evs_iff n o).mp h1
      refine ⟨⟨(pfs_iff n _).mpr ⟨by rw [pl_len, lo], pl_pl o⟩, by rw [okp]; exact h2⟩, List.all_eq_true.mpr fun t ht => ?_⟩
      obtain ⟨t1, t2⟩ := List.mem_filter.mp ht
      have pt := (pfs_iff n t).mp t1
      cases q : le t (pl o) with
      | false => simp
      | true =>
        have l1 : le t o = true := tr q (al o).2
        have l2 := hm t (List.mem_filter.mpr ⟨(evs_iff n t).mpr pt.1, t2⟩) l1
        have e := eq l1 l2
        rw [pt.2] at e
        simp [e]
theorem pfs_up : ∀ n ≤ 3, (pfs n).Pairwise fun a b => leR a b = true ∧ leR b a = false := by decide +kernel
theorem one_list {X Y : List (List R)} (hx : X.Nodup) (hy : Y.Nodup) (m : ∀ f, f ∈ X ↔ f ∈ Y) (o : ∀ a ∈ X, ∀ b ∈ X, a = b) : X = Y := by
  have single : ∀ {Z : List (List R)} {x : List R}, Z.Nodup → (∀ a ∈ Z, a = x) → x ∈ Z → Z = [x] := fun {Z x} nd h hx => by
    match Z, nd, h, hx with
    | [a], _, h, _ => rw [h a (List.mem_cons_self ..)]
    | a :: b :: Z, nd, h, _ =>
      have e1 := h a (List.mem_cons_self ..)
      have e2 := h b (List.mem_cons_of_mem _ (List.mem_cons_self ..))
      exact absurd (show a ∈ b :: Z by rw [e1, ← e2]; exact List.mem_cons_self ..) (List.nodup_cons.mp nd).1
  cases X with
  | nil =>
    cases Y with
    | nil => rfl
    | cons y Y => exact absurd ((m y).mpr (List.mem_cons_self ..)) (by simp)
  | cons x X =>
    have h1 := single hx (fun a ha => o a ha x (List.mem_cons_self ..)) (List.mem_cons_self ..)
    have h2 := single hy (fun a ha => o a ((m a).mpr ha) x (List.mem_cons_self ..)) ((m x).mp (List.mem_cons_self ..))
    rw [h1, h2]
theorem least_up {le : List R → List R → Bool} {ok : List R → Bool} {n : Nat} (hn : n ≤ 3) : (least le ok n).Pairwise fun a b => leR a b = true ∧ leR b a = false :=
  ((pfs_up n hn).sublist List.filter_sublist).sublist List.filter_sublist
theorem sorted_least {le : List R → List R → Bool} {ok : List R → Bool} {n : Nat} (hn : n ≤ 3) {L : List (List R)} (nd : L.Nodup) (m : ∀ f, f ∈ least le ok n ↔ f ∈ L) : L.mergeSort leR = least le ok n := by
  have up := least_up (le := le) (ok := ok) hn
  have ndJ : (least le ok n).Nodup := up.imp fun {a b} h z => by
    rw [z, leR_total.refl] at h
    exact absurd h.2 (by decide)
  have anti : ∀ a ∈ least le ok n, ∀ b ∈ least le ok n, leR a b = true → leR b a = true → a = b := fun a ha b hb h1 h2 => by
    obtain ⟨i, hi, rfl⟩ := List.mem_iff_getElem.mp ha
    obtain ⟨j, hj, rfl⟩ := List.mem_iff_getElem.mp hb
    rcases Nat.lt_trichotomy i j with lt | rfl | lt
    · have := (List.pairwise_iff_getElem.mp up i j hi hj lt).2
      rw [h2] at this
      cases this
    · rfl
    · have := (List.pairwise_iff_getElem.mp up j i hj hi lt).2
      rw [h1] at this
      cases this
  refine (PySem.W.sort_unique leR_total (up.imp fun h => h.1) fun c => ?_).symm
  refine one_list (ndJ.filter _) (nd.filter _) (fun f => by rw [List.mem_filter, List.mem_filter, m f]) fun a ha b hb => ?_
  obtain ⟨a1, a2⟩ := List.mem_filter.mp ha
  obtain ⟨b1, b2⟩ := List.mem_filter.mp hb
  unfold PySem.W.sameRank at a2 b2
  rw [Bool.and_eq_true] at a2 b2
  exact anti a a1 b b1 (leR_total.trans _ _ _ a2.2 b2.1) (leR_total.trans _ _ _ b2.2 a2.1)
end Ver

set_option Elab.async false
set_option linter.all false
set_option maxRecDepth 100000
set_option maxHeartbeats 4000000
namespace Ver
open PySem PySem.Spec PyProof.Rows L2 Evl
section
variable {K : PySem.W.Frag}
abbrev rs4 : List V := [.str "rw", .str "r", .str "w", .str "-"]
/-- which datum is a right -/
def irD : PyData → Bool
  | .str x => inV (.str x) rs4
  | _ => false
theorem dp_ty {H : Hp} {v : V} {d : PyData} (h : Dp K H v d) : ∃ T, TyB K H v T ∧ ((∃ x, v = .str x ∧ d = .str x ∧ T = "str") ∨ (T ≠ "str" ∧ irD d = false)) := by
  cases h with
  | non => exact ⟨_, .non, .inr ⟨by decide, rfl⟩⟩
  | bl b => exact ⟨_, .bl b, .inr ⟨by decide, rfl⟩⟩
  | int i => exact ⟨_, .int i, .inr ⟨by decide, rfl⟩⟩
  | str x => exact ⟨_, .str x, .inl ⟨x, rfl, rfl, rfl⟩⟩
  | lst h _ => exact ⟨_, .lst h, .inr ⟨by decide, rfl⟩⟩
  | tup h _ => exact ⟨_, .tup h, .inr ⟨by decide, rfl⟩⟩
def vtD (ds : List PyData) : Bool := decide (ds.length ≤ 6) && ds.all irD
theorem dpa_len {H : Hp} : ∀ {xs : List V} {ds : List PyData}, DpAll K H xs ds → xs.length = ds.length
  | _, _, .nil => rfl
  | _, _, .cons _ t => congrArg (· + 1) (dpa_len t)
theorem dpa_at {H : Hp} : ∀ {xs : List V} {ds : List PyData} {i : Nat} {v : V}, DpAll K H xs ds → xs[i]? = some v → ∃ d, ds[i]? = some d ∧ Dp K H v d
  | _, _, _, _, .nil, e => by simp at e
  | _, _, 0, _, .cons h _, e => by
    cases Option.some.inj e
    exact ⟨_, rfl, h⟩
  | _, _, i + 1, _, .cons _ t, e => dpa_at (i := i) t e
mutual
theorem dp_ex {H H' : Hp} (e : Ex H H') : ∀ {v : V} {d : PyData}, Dp K H v d → Dp K H' v d
  | _, _, .non => .non
  | _, _, .bl b => .bl b
  | _, _, .int i => .int i
  | _, _, .str x => .str x
  | _, _, .lst h t => .lst (ex_sl h e) (dpa_ex e t)
  | _, _, .tup h t => .tup (ex_st h e) (dpa_ex e t)
theorem dpa_ex {H H' : Hp} (e : Ex H H') : ∀ {xs : List V} {ds : List PyData}, DpAll K H xs ds → DpAll K H' xs ds
  | _, _, .nil => .nil
  | _, _, .cons h t => .cons (dp_ex e h) (dpa_ex e t)
end
theorem take_all {ds : List PyData} {k : Nat} {d : PyData} (h : ds[k]? = some d) : (ds.take (k + 1)).map irD = (ds.take k).map irD ++ [irD d] := by
  rw [List.take_add_one, h, List.map_append]
  rfl

def tyD (ds : List PyData) : Bool := vtD ds && decide (0 < ds.length)
/-! ## data by their kinds -/
def tagD : PyData → String
  | .none => "NoneType"
  | .bool _ => "bool"
  | .int _ => "int"
  | .str _ => "str"
  | .list _ => "list"
  | .tuple _ => "tuple"
  | .dict _ => "dict"
theorem dp_tag {H : Hp} {v : V} {d : PyData} (h : Dp K H v d) : TyB K H v (tagD d) := by
  cases h with
  | non => exact .non
  | bl b => exact .bl b
  | int i => exact .int i
  | str x => exact .str x
  | lst h _ => exact .lst h
  | tup h _ => exact .tup h
theorem tag_tup {d : PyData} (h : tagD d = "tuple") : ∃ ds, d = .tuple ds := by
  cases d <;> first | exact ⟨_, rfl⟩ | exact absurd h (by simp only [tagD]; decide)
theorem tag_lst {d : PyData} (h : tagD d = "list") : ∃ ds, d = .list ds := by
  cases d <;> first | exact ⟨_, rfl⟩ | exact absurd h (by simp only [tagD]; decide)
theorem tag_str {d : PyData} (h : tagD d = "str") : ∃ x, d = .str x := by
  cases d <;> first | exact ⟨_, rfl⟩ | exact absurd h (by simp only [tagD]; decide)
theorem tag_int {d : PyData} (h : tagD d = "int") : ∃ x, d = .int x := by
  cases d <;> first | exact ⟨_, rfl⟩ | exact absurd h (by simp only [tagD]; decide)
theorem dp_tup {H : Hp} {v : V} {ds : List PyData} (h : Dp K H v (.tuple ds)) : ∃ p xs, v = .ref p ∧ SqT K H p xs ∧ DpAll K H xs ds := by
  cases h with
  | tup h t => exact ⟨_, _, rfl, h, t⟩
theorem dp_lst {H : Hp} {v : V} {ds : List PyData} (h : Dp K H v (.list ds)) : ∃ p xs, v = .ref p ∧ SqL K H p xs ∧ DpAll K H xs ds := by
  cases h with
  | lst h t => exact ⟨_, _, rfl, h, t⟩
theorem dp_str {H : Hp} {v : V} {x : Str} (h : Dp K H v (.str x)) : v = .str x := by
  cases h with
  | str => rfl
theorem dp_int {H : Hp} {v : V} {x : Int} (h : Dp K H v (.int x)) : v = .int x := by
  cases h with
  | int => rfl
def lenD : PyData → Nat
  | .tuple ds => ds.length
  | _ => 0
def nthD : PyData → Nat → PyData
  | .tuple ds, i => ds.getD i .none
  | _, _ => .none
def numD : PyData → Int → Bool
  | .int i, m => decide (0 ≤ i) && decide (i ≤ m)
  | _, _ => false
abbrev signs : Str := "abcdefghijklmnopqrstuvwxyz"
def sgOk (c : Nat) : Bool := !(Builtin.Str.occurrences signs ⟨#[c]⟩ 0 signs.length 1).isEmpty
def nameD : PyData → Bool
  | .str s => !decide (s = "null") && (decide (1 ≤ s.length) && decide (s.length ≤ 8)) && s.cps.toList.all sgOk
  | _ => false
def placeD (d : PyData) : Bool := decide (tagD d = "tuple") && decide (lenD d = 2) && (nameD (nthD d 0) && numD (nthD d 1) 5)
def strD : PyData → Str
  | .str x => x
  | _ => ""
def fwD (d : PyData) : Str := if tagD d = "tuple" ∧ 0 < lenD d ∧ tagD (nthD d 0) = "str" then strD (nthD d 0) else ""
def srcD (d : PyData) : Bool := if fwD d = "null" then decide (lenD d = 1) else if fwD d = "number" then decide (lenD d = 2) && numD (nthD d 1) 1000 else
  inV (.str (fwD d)) [.str "value", .str "address"] && (decide (lenD d = 2) && placeD (nthD d 1))
def itemsD : PyData → List PyData
  | .list ds => ds
  | .tuple ds => ds
  | _ => []
def srcsD (d : PyData) : Bool := decide (tagD d = "list") && (itemsD d).all srcD
def typD : PyData → Bool
  | .tuple ds => tyD ds
  | _ => false
def declD (d : PyData) : Bool := decide (tagD d = "tuple") && decide (lenD d = 2) && (nameD (nthD d 0) && (typD (nthD d 1) || numD (nthD d 1) 5))
def cut13 (d : PyData) : PyData := .tuple (((itemsD d).drop 1).take 2)
def stmtD (d : PyData) : Bool := if fwD d = "let" then decide (lenD d = 4) && (declD (cut13 d) && srcD (nthD d 3)) else if fwD d = "put" then decide (lenD d = 3) && (placeD (nthD d 1) && srcD (nthD d 2)) else
  decide (fwD d = "call") && (decide (lenD d = 3) && (nameD (nthD d 1) && srcsD (nthD d 2)))
theorem fw_ne {d : PyData} (h : fwD d ≠ "") : ∃ ds, d = .tuple ds ∧ 0 < ds.length := by
  unfold fwD at h
  split at h
  · rename_i c
    obtain ⟨ds, rfl⟩ := tag_tup c.1
    exact ⟨ds, rfl, c.2.1⟩
  · exact absurd rfl h
theorem nth_dp {H : Hp} {xs : List V} {ds : List PyData} {i : Nat} (h : DpAll K H xs ds) (hi : i < ds.length) : ∃ v, xs[i]? = some v ∧ Dp K H v (nthD (.tuple ds) i) := by
  have hx : i < xs.length := by rw [dpa_len h]; exact hi
  refine ⟨xs[i], List.getElem?_eq_getElem hx, ?_⟩
  obtain ⟨d, hd, dp⟩ := dpa_at h (List.getElem?_eq_getElem hx)
  have e : nthD (.tuple ds) i = d := by
    show ds.getD i .none = d
    rw [List.getD_eq_getElem?_getD, hd]
    rfl
  rw [e]
  exact dp
/-- an item of a datum -/
theorem a_nth {H : Hp} {Q : VK} {p : Addr} {xs : List V} {ds : List PyData} {i : Nat} (hT : SqT K H p xs) (h : DpAll K H xs ds) (hi : i < ds.length) (k : ∀ v, Dp K H v (nthD (.tuple ds) i) → Q v H) : rIxT K (.ref p) (.int (i : Int)) H Q := by
  obtain ⟨v, hv, dp⟩ := nth_dp h hi
  exact a_ixT hT (atI_nat hv) (k v dp)
theorem dpa_drop {H : Hp} : ∀ {xs : List V} {ds : List PyData} (n : Nat), DpAll K H xs ds → DpAll K H (xs.drop n) (ds.drop n)
  | _, _, 0, h => h
  | _, _, _ + 1, .nil => .nil
  | _, _, n + 1, .cons _ t => dpa_drop n t
theorem dpa_take {H : Hp} : ∀ {xs : List V} {ds : List PyData} (n : Nat), DpAll K H xs ds → DpAll K H (xs.take n) (ds.take n)
  | _, _, 0, _ => .nil
  | _, _, _ + 1, .nil => .nil
  | _, _, n + 1, .cons h t => .cons h (dpa_take n t)
theorem dpa_app {H : Hp} : ∀ {xs ys : List V} {ds es : List PyData}, DpAll K H xs ds → DpAll K H ys es → DpAll K H (xs ++ ys) (ds ++ es)
  | _, _, _, _, .nil, g => g
  | _, _, _, _, .cons h t, g => .cons h (dpa_app t g)

/-! ## data of bounded size -/
mutual
def smD : PyData → Bool
  | .str x => decide (x.length ≤ 100000)
  | .list ds => decide (ds.length ≤ 100000) && smAll ds
  | .tuple ds => decide (ds.length ≤ 100000) && smAll ds
  | _ => true
def smAll : List PyData → Bool
  | [] => true
  | d :: ds => smD d && smAll ds
end
def Ds (K : PySem.W.Frag) (H : Hp) (v : V) (d : PyData) : Prop := Dp K H v d ∧ smD d = true
theorem ds_ex {H H' : Hp} {v : V} {d : PyData} (h : Ds K H v d) (e : Ex H H') : Ds K H' v d := ⟨dp_ex e h.1, h.2⟩
theorem sm_at : ∀ {ds : List PyData} {i : Nat} {d : PyData}, smAll ds = true → ds[i]? = some d → smD d = true
  | [], _, _, _, e => by simp at e
  | a :: as, 0, d, h, e => by
    cases Option.some.inj e
    exact (Bool.and_eq_true _ _ ▸ h).1
  | a :: as, i + 1, d, h, e => sm_at (ds := as) (i := i) (Bool.and_eq_true _ _ ▸ h).2 e
theorem nthD_get {ds : List PyData} {i : Nat} (hi : i < ds.length) : ds[i]? = some (nthD (.tuple ds) i) := by
  show _ = some (ds.getD i .none)
  rw [List.getD_eq_getElem?_getD, List.getElem?_eq_getElem hi]
  rfl
theorem ds_nth {H : Hp} {xs : List V} {ds : List PyData} {i : Nat} (h : DpAll K H xs ds) (s : smAll ds = true) (hi : i < ds.length) : ∃ v, xs[i]? = some v ∧ Ds K H v (nthD (.tuple ds) i) := by
  obtain ⟨v, hv, dv⟩ := nth_dp h hi
  exact ⟨v, hv, dv, sm_at s (nthD_get hi)⟩
/-- an item of a bounded datum -/
theorem a_nthS {H : Hp} {Q : VK} {p : Addr} {xs : List V} {ds : List PyData} {i : Nat} (hT : SqT K H p xs) (h : DpAll K H xs ds) (s : smAll ds = true) (hi : i < ds.length) (k : ∀ v, Ds K H v (nthD (.tuple ds) i) → Q v H) : rIxT K (.ref p) (.int (i : Int)) H Q := by
  obtain ⟨v, hv, dv⟩ := ds_nth h s hi
  exact a_ixT hT (atI_nat hv) (k v dv)
theorem ds_tupz {H : Hp} {v : V} {d : PyData} (h : Ds K H v d) (c : tagD d = "tuple") : ∃ p xs ds, v = .ref p ∧ d = .tuple ds ∧ SqT K H p xs ∧ DpAll K H xs ds ∧ smAll ds = true ∧ ds.length ≤ 100000 ∧ xs.length = ds.length := by
  obtain ⟨ds, rfl⟩ := tag_tup c
  obtain ⟨p, xs, rfl, h1, h2⟩ := dp_tup h.1
  have h3 : (decide (ds.length ≤ 100000) && smAll ds) = true := h.2
  rw [Bool.and_eq_true] at h3
  exact ⟨p, xs, ds, rfl, rfl, h1, h2, h3.2, of_decide_eq_true h3.1, dpa_len h2⟩
theorem ds_tup {H : Hp} {v : V} {d : PyData} (h : Ds K H v d) (c : tagD d = "tuple") : ∃ p xs ds, v = .ref p ∧ d = .tuple ds ∧ SqT K H p xs ∧ DpAll K H xs ds ∧ smAll ds = true ∧ xs.length = ds.length := by
  obtain ⟨p, xs, ds, e1, e2, h1, h2, h3, _, h4⟩ := ds_tupz h c
  exact ⟨p, xs, ds, e1, e2, h1, h2, h3, h4⟩
theorem sm_tup {ds : List PyData} (h : smAll ds = true) (z : ds.length ≤ 100000) : smD (.tuple ds) = true := by
  show (decide (ds.length ≤ 100000) && smAll ds) = true
  rw [decide_eq_true z, h]
  rfl
theorem sm_lst {ds : List PyData} (h : smAll ds = true) (z : ds.length ≤ 100000) : smD (.list ds) = true := by
  show (decide (ds.length ≤ 100000) && smAll ds) = true
  rw [decide_eq_true z, h]
  rfl
theorem ds_lst {H : Hp} {v : V} {d : PyData} (h : Ds K H v d) (c : tagD d = "list") : ∃ p xs ds, v = .ref p ∧ d = .list ds ∧ SqL K H p xs ∧ DpAll K H xs ds ∧ smAll ds = true ∧ ds.length ≤ 100000 ∧ xs.length = ds.length := by
  obtain ⟨ds, rfl⟩ := tag_lst c
  obtain ⟨p, xs, rfl, h1, h2⟩ := dp_lst h.1
  have h3 : (decide (ds.length ≤ 100000) && smAll ds) = true := h.2
  rw [Bool.and_eq_true] at h3
  exact ⟨p, xs, ds, rfl, rfl, h1, h2, h3.2, of_decide_eq_true h3.1, dpa_len h2⟩
theorem ds_str {H : Hp} {v : V} {d : PyData} (h : Ds K H v d) (c : tagD d = "str") : ∃ x, v = .str x ∧ d = .str x ∧ x.length ≤ 100000 := by
  obtain ⟨x, rfl⟩ := tag_str c
  exact ⟨x, dp_str h.1, rfl, of_decide_eq_true h.2⟩
theorem ds_int {H : Hp} {v : V} {d : PyData} (h : Ds K H v d) (c : tagD d = "int") : ∃ x, v = .int x ∧ d = .int x := by
  obtain ⟨x, rfl⟩ := tag_int c
  exact ⟨x, dp_int h.1, rfl⟩
theorem sm_drop : ∀ {ds : List PyData} (n : Nat), smAll ds = true → smAll (ds.drop n) = true
  | _, 0, h => h
  | [], _ + 1, h => h
  | _ :: ds, n + 1, h => sm_drop (ds := ds) n (Bool.and_eq_true _ _ ▸ h).2
theorem sm_take : ∀ {ds : List PyData} (n : Nat), smAll ds = true → smAll (ds.take n) = true
  | _, 0, _ => rfl
  | [], _ + 1, h => h
  | a :: ds, n + 1, h => by
    have h' := (Bool.and_eq_true _ _ ▸ h : smD a = true ∧ smAll ds = true)
    show (smD a && smAll (ds.take n)) = true
    rw [h'.1, sm_take n h'.2]
    rfl
/-- a promise of a question asked of one datum -/
def pF1 (K : PySem.W.Frag) (f : PyData → Bool) : Sp := fun vs H Q _ => ∃ v d, vs = [v] ∧ Ds K H v d ∧ RV1 (.bl (f d)) H Q
def pNum (K : PySem.W.Frag) : Sp := fun vs H Q _ => ∃ v d m, vs = [v, .int m] ∧ Ds K H v d ∧ RV1 (.bl (numD d m)) H Q
theorem not_tag {d : PyData} {s : String} (c : ¬ decide (tagD d = s) = true) : tagD d ≠ s := fun z => c (decide_eq_true z)
def vtyD : PyData → Bool
  | .tuple ds => vtD ds
  | _ => false
theorem typD_eq (d : PyData) : typD d = (vtyD d && decide (0 < lenD d)) := by
  cases d <;> rfl
theorem vtyD_tag {d : PyData} (h : tagD d ≠ "tuple") : vtyD d = false := by
  cases d <;> first | rfl | exact absurd rfl h
theorem typD_tag {d : PyData} (h : tagD d ≠ "tuple") : typD d = false := by
  cases d <;> first | rfl | exact absurd rfl h
theorem nameD_tag {d : PyData} (h : tagD d ≠ "str") : nameD d = false := by
  cases d <;> first | rfl | exact absurd rfl h
theorem numD_tag {d : PyData} {m : Int} (h : tagD d ≠ "int") : numD d m = false := by
  cases d <;> first | rfl | exact absurd rfl h
theorem irD_tag {d : PyData} (h : tagD d ≠ "str") : irD d = false := by
  cases d <;> first | rfl | exact absurd rfl h
theorem placeD_tag {d : PyData} (h : tagD d ≠ "tuple") : placeD d = false := by
  unfold placeD
  rw [decide_eq_false h]
  rfl
theorem declD_tag {d : PyData} (h : tagD d ≠ "tuple") : declD d = false := by
  unfold declD
  rw [decide_eq_false h]
  rfl
theorem srcsD_tag {d : PyData} (h : tagD d ≠ "list") : srcsD d = false := by
  unfold srcsD
  rw [decide_eq_false h]
  rfl
theorem nf {b : Bool} (c : ¬ b = true) : b = false := Bool.eq_false_iff.mpr c
theorem bools_snoc (f : PyData → Bool) {ds : List PyData} {k : Nat} {d : PyData} (h : ds[k]? = some d) : ((ds.take (k + 1)).map f).map V.bl = ((ds.take k).map f).map V.bl ++ [.bl (f d)] := by
  rw [List.take_add_one, h, List.map_append, List.map_append]
  rfl
theorem bools_len (f : PyData → Bool) (ds : List PyData) (k : Nat) : (((ds.take k).map f).map V.bl).length = min k ds.length := by
  rw [List.length_map, List.length_map, List.length_take]
theorem bools_all (f : PyData → Bool) (ds : List PyData) : (ds.map f).all id = ds.all f := by
  rw [List.all_map]
  rfl
theorem ds_at {H : Hp} {xs : List V} {ds : List PyData} {i : Nat} {v : V} (h : DpAll K H xs ds) (s : smAll ds = true) (e : xs[i]? = some v) : ∃ d, ds[i]? = some d ∧ Ds K H v d := by
  obtain ⟨d, hd, dv⟩ := dpa_at h e
  exact ⟨d, hd, dv, sm_at s hd⟩
theorem at_lt {α : Type} {xs : List α} {i : Nat} {v : α} (h : xs[i]? = some v) : i < xs.length := (List.getElem?_eq_some_iff.mp h).1
/-- a comprehension over characters -/
theorem cp_chars {σ : L2.St} {H : Hp} {g : TG} {t : TT} {te : TE} {Q : VK} {z : Str} {vs : List Nat} (J : Addr → Nat → Hp → Prop) (h0 : ∀ p, H p = none → J p 0 (upd H p (.lst [])))
    (hs : ∀ (p : Addr) (k : Nat) (c : Nat) (h : Hp), H p = none → z.cps[k]? = some c → J p k h → g (.str ⟨#[c]⟩) (wipe σ vs) h fun s2 h2 => wipe s2 vs = wipe σ vs ∧ t s2 h2 fun b h3 =>
      if b = true then te s2 h3 fun a h4 => ∃ acc, h4 p = some (.lst acc) ∧ acc.length < sizeLine ∧ J p (k + 1) (upd h4 p (.lst (acc ++ [a]))) else J p (k + 1) h3)
    (hd : ∀ p h, H p = none → J p z.cps.size h → Q (.ref p) h) : CompG (Its z) g t te vs σ H Q := fun p hp => by
  refine ⟨fun i m h => m = z.cps.size - i ∧ i ≤ z.cps.size ∧ J p i h, ⟨_, rfl, Nat.zero_le _, h0 p hp⟩, ?_⟩
  rintro i m h ⟨rfl, hi, q⟩
  by_cases hlt : i < z.cps.size
  · refine .inr ⟨hlt, J p (i + 1), fun h' q' => ⟨z.cps.size - (i + 1), by omega, rfl, hlt, q'⟩, fun x h' y => ?_⟩
    obtain ⟨e, c, y, e2⟩ := y
    subst e e2
    exact hs p i c _ hp y q
  · have e : i = z.cps.size := by omega
    subst e
    exact .inl ⟨Nat.le_refl _, hd p h hp q⟩
theorem chars_snoc {s : Str} {k c : Nat} (h : s.cps[k]? = some c) : ((s.cps.toList.take (k + 1)).map sgOk).map V.bl = ((s.cps.toList.take k).map sgOk).map V.bl ++ [.bl (sgOk c)] := by
  have h' : s.cps.toList[k]? = some c := by simpa using h
  rw [List.take_add_one, h', List.map_append, List.map_append]
  rfl
theorem fw_str {ds : List PyData} {x : Str} (h : 0 < ds.length) (e : nthD (.tuple ds) 0 = .str x) : fwD (.tuple ds) = x := by
  unfold fwD
  rw [if_pos ⟨rfl, h, by rw [e]; rfl⟩, e]
  rfl
theorem fw_no {d : PyData} (h : tagD d ≠ "tuple" ∨ lenD d = 0 ∨ tagD (nthD d 0) ≠ "str") : fwD d = "" := by
  unfold fwD
  refine if_neg fun z => ?_
  rcases h with h | h | h
  · exact h z.1
  · have := z.2.1; omega
  · exact h z.2.2
theorem vt_nil (ds : List PyData) (h : ¬ ds.length ≤ 6) : vtD ds = false := by
  unfold vtD
  rw [decide_eq_false h]
  rfl
theorem vt_all (ds : List PyData) (h : ds.length ≤ 6) : vtD ds = ds.all irD := by
  unfold vtD
  rw [decide_eq_true h]
  rfl
theorem a_sl13 {p : Addr} {xs : List V} {H : Hp} {Q : VK} (h : SqT K H p xs) (hn : 3 ≤ xs.length) (k : ∀ p H1, H p = none → Ex H H1 → H1 p = some (.tup ((xs.drop 1).take 2)) → Q (.ref p) H1) : rSlA K (.ref p) (some 1) (some 3) H Q := by
  have e1 : HT.sIx xs.length 0 (some 1) = 1 := by
    rw [show HT.sIx xs.length 0 (some 1) = min 1 xs.length from HT.sIx_nat xs.length 0 1]
    omega
  have e3 : HT.sIx xs.length xs.length (some 3) = 3 := by
    rw [show HT.sIx xs.length xs.length (some 3) = min 3 xs.length from HT.sIx_nat xs.length xs.length 3]
    omega
  refine ⟨p, xs, rfl, h, fun z => ?_, fun _ l hp => ?_⟩
  · rw [e1] at z
    exact absurd z.1 (by decide)
  · have e : cutV xs (some 1) (some 3) = (xs.drop 1).take 2 := by
      unfold cutV
      rw [e1, e3]
    rw [e]
    exact k l _ hp (Ex.new hp) upd_same
/-! ## the heap but for some places -/
def dl (S : List Addr) (H : Hp) : Hp := fun a => if a ∈ S then none else H a
theorem dl_nin {S : List Addr} {H : Hp} {a : Addr} (h : a ∉ S) : dl S H a = H a := if_neg h
theorem dl_in {S : List Addr} {H : Hp} {a : Addr} (h : a ∈ S) : dl S H a = none := if_pos h
theorem dl_le (S : List Addr) (H : Hp) : Ex (dl S H) H := fun a o e => by
  by_cases h : a ∈ S
  · rw [dl_in h] at e
    cases e
  · rw [dl_nin h] at e
    exact e
theorem dl_ex {S : List Addr} {H H1 : Hp} (e : Ex H H1) : Ex (dl S H) (dl S H1) := fun a o q => by
  by_cases h : a ∈ S
  · rw [dl_in h] at q
    cases q
  · rw [dl_nin h] at q ⊢
    exact e a o q
theorem dl_ks {S : List Addr} {H H1 : Hp} (e : Ks S H H1) : Ex (dl S H) (dl S H1) := fun a o q => by
  by_cases h : a ∈ S
  · rw [dl_in h] at q
    cases q
  · rw [dl_nin h] at q ⊢
    exact e a o h q
theorem dl_sub {S T : List Addr} {H : Hp} (h : ∀ a ∈ S, a ∈ T) : Ex (dl T H) (dl S H) := fun a o q => by
  by_cases k : a ∈ T
  · rw [dl_in k] at q
    cases q
  · rw [dl_nin k] at q
    rw [dl_nin fun z => k (h a z)]
    exact q
theorem dl_upd {S : List Addr} {H : Hp} {p : Addr} {o : HO} (h : p ∈ S) : dl S (upd H p o) = dl S H := by
  funext a
  by_cases k : a ∈ S
  · rw [dl_in k, dl_in k]
  · rw [dl_nin k, dl_nin k, upd_ne fun z => k (by rw [z]; exact h)]
/-- places of S are there -/
def Al (S : List Addr) (H : Hp) : Prop := ∀ a ∈ S, H a ≠ none
theorem Al.ex {S : List Addr} {H H1 : Hp} (h : Al S H) (e : Ex H H1) : Al S H1 := fun a k n => by
  cases q : H a with
  | none => exact h a k q
  | some o =>
    rw [e a o q] at n
    cases n
theorem Al.nil {H : Hp} : Al [] H := fun _ k => by cases k
theorem Al.cons {S : List Addr} {H : Hp} {p : Addr} {o : HO} (h : Al S H) (e : H p = some o) : Al (p :: S) H := fun a k => by
  rcases List.mem_cons.mp k with rfl | k
  · rw [e]
    exact fun z => by cases z
  · exact h a k
theorem Al.upd {S : List Addr} {H : Hp} {p : Addr} {o : HO} (h : Al S H) : Al S (L2.upd H p o) := fun a k => by
  by_cases z : a = p
  · rw [z, upd_same]
    exact fun z => by cases z
  · rw [upd_ne z]
    exact h a k
theorem ks_none {S : List Addr} {H H' : Hp} {q : Addr} (e : Ks S H H') (n : H' q = none) (h : q ∉ S) : H q = none := by
  cases z : H q with
  | none => rfl
  | some o =>
    rw [e q o h z] at n
    cases n
theorem Al.nin {S : List Addr} {H : Hp} {p : Addr} (h : Al S H) (n : H p = none) : p ∉ S := fun k => h p k n
/-- from the old heap to a new one without a place that is new -/
theorem dl_new {S : List Addr} {H H1 : Hp} {p : Addr} (n : H p = none) (e : Ex H H1) : Ex (dl S H) (dl (p :: S) H1) := fun a o q => by
  by_cases h : a ∈ S
  · rw [dl_in h] at q
    cases q
  · rw [dl_nin h] at q
    have k : a ≠ p := ne_of_none q n
    rw [dl_nin fun z => (List.mem_cons.mp z).elim k h]
    exact e a o q
theorem dl_at {S : List Addr} {H : Hp} {p : Addr} {o : HO} (h : p ∉ S) (e : H p = some o) : dl S H p = some o := by rw [dl_nin h]; exact e
theorem tu_dl {S : List Addr} {H : Hp} {p : Addr} {xs : List V} (h : p ∉ S) (e : Tu H p xs) : Tu (dl S H) p xs := by
  unfold Tu
  rw [dl_nin h]
  exact e
theorem dpa_snoc {H : Hp} {xs : List V} {ds : List PyData} {v : V} {d : PyData} (h : DpAll K H xs ds) (k : Dp K H v d) : DpAll K H (xs ++ [v]) (ds ++ [d]) := dpa_app h (.cons k .nil)
theorem take_snoc {α : Type} {ds : List α} {k : Nat} {d : α} (h : ds[k]? = some d) : ds.take (k + 1) = ds.take k ++ [d] := by
  rw [List.take_add_one, h]
  rfl
theorem take_len {α : Type} {ds : List α} {k : Nat} {d : α} (h : ds[k]? = some d) : (ds.take k).length = k := by
  have := at_lt h
  rw [List.length_take]
  omega
theorem sl_dl {S : List Addr} {H : Hp} {p : Addr} {xs : List V} (h : SqL K (dl S H) p xs) : SqL K H p xs := ex_sl h (dl_le S H)
theorem st_dl {S : List Addr} {H : Hp} {p : Addr} {xs : List V} (h : SqT K (dl S H) p xs) : SqT K H p xs := ex_st h (dl_le S H)
/-- a list of data that stands in a heap -/
structure Dl (K : PySem.W.Frag) (G : Hp) (p : Addr) (ds : List PyData) : Prop where
  ex : ∃ xs, SqL K G p xs ∧ DpAll K G xs ds
  sm : smAll ds = true
  le : ds.length ≤ 100000
theorem Dl.up {G G' : Hp} {p : Addr} {ds : List PyData} (h : Dl K G p ds) (e : Ex G G') : Dl K G' p ds := by
  obtain ⟨xs, h1, h2⟩ := h.ex
  exact ⟨⟨xs, ex_sl h1 e, dpa_ex e h2⟩, h.sm, h.le⟩
def pCop (K : PySem.W.Frag) : Sp := fun vs H Q _ => ∃ S v d, vs = [v] ∧ Al S H ∧ Ds K (dl S H) v d ∧ (tagD d ≠ "list" → Q v H) ∧
  (∀ ds, d = .list ds → ∀ q ys H1, H q = none → Ex H H1 → H1 q = some (.lst ys) → DpAll K (dl S H1) ys ds → Q (.ref q) H1)
def pCs (K : PySem.W.Frag) : Sp := fun vs H Q _ => ∃ S v d, vs = [v] ∧ Al S H ∧ Ds K (dl S H) v d ∧ ∀ v' H1, Ex H H1 → Dp K (dl S H1) v' d → Q v' H1
def pCss (K : PySem.W.Frag) : Sp := fun vs H Q _ => ∃ S p ds, vs = [.ref p] ∧ Al S H ∧ Dl K (dl S H) p ds ∧ ∀ q ys H1, H q = none → Ex H H1 → H1 q = some (.lst ys) → DpAll K (dl S H1) ys ds → Q (.ref q) H1
/-! ## instances -/
def GetF (K : PySem.W.Frag) (f : Str) (x : V) (H : Hp) (Q : VK) : Prop := ∃ a C dx fs v, x = .ref a ∧ H a = some (.ins C dx fs) ∧ Cls K C ∧ NoAttr K C f ∧ fs.lookup f = some v ∧ Q v H
def SetF (K : PySem.W.Frag) (f : Str) (x y : V) (H : Hp) (N : Hp → Prop) : Prop := ∃ a C dx fs, x = .ref a ∧ H a = some (.ins C dx fs) ∧ Cls K C ∧ NoAttr K C f ∧ fs.length < 1000 ∧ N (upd H a (.ins C dx (putF f y fs)))
def NewI (C : Addr) (sp : Sp) (E : XK) (vs : List V) (H : Hp) (Q : VK) : Prop := ∀ x dx, H x = none → H dx = none → dx ≠ x → sp (.ref x :: vs) (upd (upd H dx (.own x)) x (.ins C dx [])) (fun v H2 => v = .non ∧ Q (.ref x) H2) E
theorem w_getF {σ : L2.St} {H : Hp} {ta : TE} {f : Str} {Q : VK} (h : ta σ H fun x Ha => GetF K f x Ha Q) : tFld K ta f σ H Q := h
theorem fldK (K : PySem.W.Frag) {X : Cx} {e : Expr} {ta : TE} {f : Str} {pos : Pos} (he : PE X e ta) (hb : attributeBase e f X.env (eval e X.env) = eval e X.env) (h : X.K = K := by rfl) : PE X (.Attribute e f pos) (tFld K ta f) := by
  subst h
  exact pe_fld he hb
theorem w_setF {σ : L2.St} {H : Hp} {ta tv : TE} {f : Str} {D : Ends} (h : tv σ H fun y Ha => ta σ Ha fun x Hb => SetF K f x y Hb fun Hc => D.nx σ Hc) : sFld K ta tv f D σ H := h
theorem w_newI {σ : L2.St} {H : Hp} {C : Addr} {sp : Sp} {E : XK} {t : TA} {Q : VK} (h : t σ H fun vs Ha => NewI C sp E vs Ha Q) : tMake C sp [] E t σ H Q := by
  have e : (fun vs Ha => NewI C sp E vs Ha Q) = fun (vs : List V) H1 => ∀ x dx, H1 x = none → H1 dx = none → dx ≠ x → sp (.ref x :: (vs ++ [])) (upd (upd H1 dx (.own x)) x (.ins C dx [])) (fun v H2 => v = .non ∧ Q (.ref x) H2) E := by
    funext vs Ha
    rw [List.append_nil]
    rfl
  show t σ H fun vs H1 => ∀ x dx, H1 x = none → H1 dx = none → dx ≠ x → sp (.ref x :: (vs ++ [])) (upd (upd H1 dx (.own x)) x (.ins C dx [])) (fun v H2 => v = .non ∧ Q (.ref x) H2) E
  rw [← e]
  exact h
theorem w_callS {σ : L2.St} {H : Hp} {sp : Sp} {E : L2.St → XK} {t : TA} {Q : VK} (h : t σ H fun vs Ha => sp vs Ha Q (E σ)) : tCallS sp E t σ H Q := h
theorem a_get {H : Hp} {a C dx : Addr} {fs : List (Str × V)} {f : Str} {v : V} {Q : VK} (c : Cls K C) (n : PySem.W.findIn K (.ref C) f = some none) (e : H a = some (.ins C dx fs)) (l : fs.lookup f = some v) (k : Q v H) : GetF K f (.ref a) H Q := ⟨a, C, dx, fs, v, rfl, e, c, n, l, k⟩
theorem a_put {H : Hp} {a C dx : Addr} {fs : List (Str × V)} {f : Str} {y : V} {N : Hp → Prop} (c : Cls K C) (n : PySem.W.findIn K (.ref C) f = some none) (e : H a = some (.ins C dx fs)) (hl : fs.length < 1000) (k : N (upd H a (.ins C dx (putF f y fs)))) : SetF K f (.ref a) y H N := ⟨a, C, dx, fs, rfl, e, c, n, hl, k⟩
/-- a new instance: what is made, then __init__ -/
theorem a_new {H : Hp} {C : Addr} {sp : Sp} {E : XK} {vs : List V} {Q : VK} (k : ∀ x dx H1, H x = none → H dx = none → dx ≠ x → Ex H H1 → H1 x = some (.ins C dx []) → H1 dx = some (.own x) → sp (.ref x :: vs) H1 (fun v H2 => v = .non ∧ Q (.ref x) H2) E) : NewI C sp E vs H Q := fun x dx n1 n2 n3 =>
  k x dx _ n1 n2 n3 ((Ex.new n2).mut n1) upd_same (by rw [upd_ne n3, upd_same])
/-! ## the program's functions -/
def fnF (nv : V) (p b : Addr) : List (Str × V) := putF "body" (.ref b) (putF "params" (.ref p) (putF "name" nv []))
theorem fn_name (nv : V) (p b : Addr) : (fnF nv p b).lookup ("name" : Str) = some nv := by
  unfold fnF
  rw [lookup_putF, if_neg (by decide +kernel), lookup_putF, if_neg (by decide +kernel), lookup_putF, if_pos rfl]
theorem fn_params (nv : V) (p b : Addr) : (fnF nv p b).lookup ("params" : Str) = some (.ref p) := by
  unfold fnF
  rw [lookup_putF, if_neg (by decide +kernel), lookup_putF, if_pos rfl]
theorem fn_body (nv : V) (p b : Addr) : (fnF nv p b).lookup ("body" : Str) = some (.ref b) := by
  unfold fnF
  rw [lookup_putF, if_pos rfl]
theorem putF_le (f : Str) (v : V) : ∀ fs : List (Str × V), (putF f v fs).length ≤ fs.length + 1
  | [] => Nat.le_refl _
  | (g, x) :: r => by
    show (if g = f then (g, v) :: r else (g, x) :: putF f v r).length ≤ _
    by_cases h : g = f
    · rw [if_pos h]
      exact Nat.le_succ _
    · rw [if_neg h, List.length_cons, List.length_cons]
      exact Nat.succ_le_succ (putF_le f v r)
theorem put1_lt (f : Str) (v : V) : (putF f v []).length < 1000 := Nat.lt_of_le_of_lt (putF_le f v []) (by decide)
theorem put2_lt (f g : Str) (v u : V) : (putF f v (putF g u [])).length < 1000 := by
  have h1 := putF_le f v (putF g u [])
  have h2 := putF_le g u []
  have h3 : ([] : List (Str × V)).length = 0 := rfl
  omega
def pgF (f s : Addr) : List (Str × V) := putF "statements" (.ref s) (putF "functions" (.ref f) [])
theorem pg_fns (f s : Addr) : (pgF f s).lookup ("functions" : Str) = some (.ref f) := by
  unfold pgF
  rw [lookup_putF, if_neg (by decide +kernel), lookup_putF, if_pos rfl]
theorem pg_sts (f s : Addr) : (pgF f s).lookup ("statements" : Str) = some (.ref s) := by
  unfold pgF
  rw [lookup_putF, if_pos rfl]
/-- a list of data that can be changed -/
structure Dx (K : PySem.W.Frag) (G : Hp) (p : Addr) (ds : List PyData) : Prop where
  ex : ∃ xs, G p = some (.lst xs) ∧ DpAll K G xs ds
  sm : smAll ds = true
  le : ds.length ≤ 100000
theorem Dx.up {G G' : Hp} {p : Addr} {ds : List PyData} (h : Dx K G p ds) (e : Ex G G') : Dx K G' p ds := by
  obtain ⟨xs, h1, h2⟩ := h.ex
  exact ⟨⟨xs, e _ _ h1, dpa_ex e h2⟩, h.sm, h.le⟩
theorem Dx.dl {G : Hp} {p : Addr} {ds : List PyData} (h : Dx K G p ds) : Dl K G p ds := by
  obtain ⟨xs, h1, h2⟩ := h.ex
  exact ⟨⟨xs, SqL.of h1, h2⟩, h.sm, h.le⟩
structure FD where
  n : PyData
  p : List PyData
  b : List PyData
/-- a function as an object -/
structure FnAt (K : PySem.W.Frag) (C : Addr) (G : Hp) (a : Addr) (f : FD) : Prop where
  ex : ∃ dx nv q1 q2, G a = some (.ins C dx (fnF nv q1 q2)) ∧ Ds K G nv f.n ∧ Dx K G q1 f.p ∧ Dx K G q2 f.b
theorem FnAt.up {C : Addr} {G G' : Hp} {a : Addr} {f : FD} (h : FnAt K C G a f) (e : Ex G G') : FnAt K C G' a f := by
  obtain ⟨dx, nv, q1, q2, h1, h2, h3, h4⟩ := h.ex
  exact ⟨dx, nv, q1, q2, e _ _ h1, ds_ex h2 e, h3.up e, h4.up e⟩
inductive FnAll (K : PySem.W.Frag) (C : Addr) (G : Hp) : List V → List FD → Prop
  | nil : FnAll K C G [] []
  | cons {a : Addr} {f : FD} {xs : List V} {fs : List FD} : FnAt K C G a f → FnAll K C G xs fs → FnAll K C G (.ref a :: xs) (f :: fs)
theorem FnAll.up {C : Addr} {G G' : Hp} (e : Ex G G') : ∀ {xs : List V} {fs : List FD}, FnAll K C G xs fs → FnAll K C G' xs fs
  | _, _, .nil => .nil
  | _, _, .cons h t => .cons (h.up e) (t.up e)
theorem FnAll.len {C : Addr} {G : Hp} : ∀ {xs : List V} {fs : List FD}, FnAll K C G xs fs → xs.length = fs.length
  | _, _, .nil => rfl
  | _, _, .cons _ t => congrArg (· + 1) t.len
theorem FnAll.get {C : Addr} {G : Hp} : ∀ {xs : List V} {fs : List FD} {i : Nat} {v : V}, FnAll K C G xs fs → xs[i]? = some v → ∃ a f, v = .ref a ∧ fs[i]? = some f ∧ FnAt K C G a f
  | _, _, _, _, .nil, e => by simp at e
  | _, _, 0, _, .cons h _, e => by
    cases Option.some.inj e
    exact ⟨_, _, rfl, rfl, h⟩
  | _, _, i + 1, _, .cons _ t, e => FnAll.get (i := i) t e
theorem FnAll.snoc {C : Addr} {G : Hp} {a : Addr} {f : FD} (k : FnAt K C G a f) : ∀ {xs : List V} {fs : List FD}, FnAll K C G xs fs → FnAll K C G (xs ++ [.ref a]) (fs ++ [f])
  | _, _, .nil => .cons k .nil
  | _, _, .cons h t => .cons h (FnAll.snoc k t)
def stsD (m : Nat) (ds : List PyData) : Bool := decide (ds.length ≤ m) && ds.all stmtD
def fnD (f : FD) : Bool := nameD f.n && (decide (f.p.length ≤ 4) && f.p.all declD) && stsD 12 f.b
/-- a function object that is new, its lists too -/
def NewF (C : Addr) (H H1 : Hp) (v : V) : Prop := ∃ a dx nv q1 q2, v = .ref a ∧ H a = none ∧ H1 a = some (.ins C dx (fnF nv q1 q2)) ∧ H q1 = none ∧ H q2 = none
theorem ex_none {H H1 : Hp} {a : Addr} (e : Ex H H1) (n : H1 a = none) : H a = none := by
  cases z : H a with
  | none => rfl
  | some o =>
    rw [e _ _ z] at n
    cases n
theorem NewF.up {C : Addr} {H H1 H2 : Hp} {v : V} (h : NewF C H H1 v) (e : Ex H1 H2) : NewF C H H2 v := by
  obtain ⟨a, dx, nv, q1, q2, h1, h2, h3, h4, h5⟩ := h
  exact ⟨a, dx, nv, q1, q2, h1, h2, e _ _ h3, h4, h5⟩
theorem NewF.down {C : Addr} {H0 H H1 : Hp} {v : V} (h : NewF C H H1 v) (e : Ex H0 H) : NewF C H0 H1 v := by
  obtain ⟨a, dx, nv, q1, q2, h1, h2, h3, h4, h5⟩ := h
  exact ⟨a, dx, nv, q1, q2, h1, ex_none e h2, h3, ex_none e h4, ex_none e h5⟩
/-- .. also behind a change of another kind of thing -/
theorem NewF.mut {C : Addr} {H H1 : Hp} {v : V} {p : Addr} {xs : List V} {o : HO} (h : NewF C H H1 v) (f : H1 p = some (.lst xs)) : NewF C H (upd H1 p o) v := by
  obtain ⟨a, dx, nv, q1, q2, h1, h2, h3, h4, h5⟩ := h
  have z : a ≠ p := fun z => by
    rw [z, f] at h3
    cases h3
  exact ⟨a, dx, nv, q1, q2, h1, h2, by rw [upd_ne z]; exact h3, h4, h5⟩
theorem NewF.ks {C : Addr} {H H1 H2 : Hp} {v : V} {p : Addr} {o : HO} (h : NewF C H H1 v) (f : H p = some o) (k : Ks [p] H1 H2) : NewF C H H2 v := by
  obtain ⟨a, dx, nv, q1, q2, h1, h2, h3, h4, h5⟩ := h
  have z : a ≠ p := fun z => by
    rw [z, f] at h2
    cases h2
  exact ⟨a, dx, nv, q1, q2, h1, h2, k _ _ (by simpa using z) h3, h4, h5⟩
def pFi (K : PySem.W.Frag) (C : Addr) : Sp := fun vs H Q _ => ∃ S a dx nv pp bp, ∃ f : FD, vs = [.ref a, nv, .ref pp, .ref bp] ∧ Al S H ∧ a ∈ S ∧ H a = some (.ins C dx []) ∧ Ds K (dl S H) nv f.n ∧ Dl K (dl S H) pp f.p ∧ Dl K (dl S H) bp f.b ∧
  ∀ q1 q2 ys1 ys2 H1, Ks [a] H H1 → H q1 = none → H q2 = none → q1 ≠ q2 → H1 a = some (.ins C dx (fnF nv q1 q2)) → H1 q1 = some (.lst ys1) → H1 q2 = some (.lst ys2) → DpAll K (dl S H1) ys1 f.p → DpAll K (dl S H1) ys2 f.b → Q .non H1
def pCf (K : PySem.W.Frag) (C : Addr) : Sp := fun vs H Q _ => ∃ S a f, vs = [.ref a] ∧ Al S H ∧ FnAt K C (dl S H) a f ∧ ∀ b H1, H b = none → Ex H H1 → FnAt K C (dl S H1) b f → NewF C H H1 (.ref b) → Q (.ref b) H1
def pCfs (K : PySem.W.Frag) (C : Addr) : Sp := fun vs H Q _ => ∃ S p xs fs, vs = [.ref p] ∧ Al S H ∧ SqL K (dl S H) p xs ∧ FnAll K C (dl S H) xs fs ∧ fs.length ≤ 100000 ∧ ∀ q ys H1, H q = none → Ex H H1 → H1 q = some (.lst ys) → FnAll K C (dl S H1) ys fs → (∀ v ∈ ys, NewF C H H1 v) → Q (.ref q) H1
def pSts (K : PySem.W.Frag) : Sp := fun vs H Q _ => ∃ p ds m, vs = [.ref p, .int (m : Nat)] ∧ Dl K H p ds ∧ RV1 (.bl (stsD m ds)) H Q
def pIf (K : PySem.W.Frag) (C : Addr) : Sp := fun vs H Q _ => ∃ a f, vs = [.ref a] ∧ FnAt K C H a f ∧ RV1 (.bl (fnD f)) H Q
/-! ## what is declared -/
def letsD (ds : List PyData) : List PyData := (ds.filter fun d => decide (fwD d = "let")).map cut13
theorem lets_snoc (ds : List PyData) (d : PyData) : letsD (ds ++ [d]) = letsD ds ++ (if fwD d = "let" then [cut13 d] else []) := by
  unfold letsD
  rw [List.filter_append, List.map_append]
  by_cases h : fwD d = "let"
  · rw [if_pos h, List.filter_cons_of_pos (by simpa using h)]
    rfl
  · rw [if_neg h, List.filter_cons_of_neg (by simpa using h)]
    rfl
theorem lets_len (ds : List PyData) : (letsD ds).length ≤ ds.length := by
  unfold letsD
  rw [List.length_map]
  exact List.length_filter_le _ _
structure StOk (d : PyData) (ds : List PyData) : Prop where
  e : d = .tuple ds
  ne : 0 < ds.length
  w : nthD (.tuple ds) 0 = .str (fwD d)
  lt : fwD d = "let" → ds.length = 4 ∧ declD (cut13 d) = true
  cl : fwD d = "call" → ds.length = 3 ∧ nameD (nthD d 1) = true ∧ srcsD (nthD d 2) = true
theorem st_ok {d : PyData} (h : stmtD d = true) : ∃ ds, StOk d ds := by
  have hw : fwD d ≠ "" := fun z => by
    unfold stmtD at h
    rw [z, if_neg (by decide), if_neg (by decide)] at h
    rw [decide_eq_false (by decide)] at h
    cases h
  obtain ⟨ds, e, ne⟩ := fw_ne hw
  have hs : tagD (nthD d 0) = "str" := Decidable.byContradiction fun z => hw (fw_no (.inr (.inr z)))
  obtain ⟨x, ex⟩ := tag_str hs
  refine ⟨ds, e, ne, ?_, fun c => ?_, fun c => ?_⟩
  · subst e
    rw [ex, fw_str ne ex]
  · unfold stmtD at h
    rw [if_pos c, Bool.and_eq_true, Bool.and_eq_true] at h
    have h1 := of_decide_eq_true h.1
    subst e
    exact ⟨h1, h.2.1⟩
  · unfold stmtD at h
    rw [c, if_neg (by decide), if_neg (by decide), Bool.and_eq_true, Bool.and_eq_true, Bool.and_eq_true] at h
    have h1 := of_decide_eq_true h.2.1
    subst e
    exact ⟨h1, h.2.2.1, h.2.2.2⟩
structure PrOk (d : PyData) (ds : List PyData) : Prop where
  e : d = .tuple ds
  l : ds.length = 2
  n : nameD (nthD (.tuple ds) 0) = true
theorem pr_ok {d : PyData} (h : declD d = true) : ∃ ds, PrOk d ds := by
  unfold declD at h
  rw [Bool.and_eq_true, Bool.and_eq_true, Bool.and_eq_true] at h
  obtain ⟨ds, rfl⟩ := tag_tup (of_decide_eq_true h.1.1)
  exact ⟨ds, rfl, of_decide_eq_true h.1.2, h.2.1⟩
theorem name_str {d : PyData} (h : nameD d = true) : d = .str (strD d) ∧ (strD d).length ≤ 8 := by
  cases d with
  | str x =>
    refine ⟨rfl, ?_⟩
    have h' : (!decide (x = "null") && (decide (1 ≤ x.length) && decide (x.length ≤ 8)) && x.cps.toList.all sgOk) = true := h
    rw [Bool.and_eq_true, Bool.and_eq_true, Bool.and_eq_true] at h'
    exact of_decide_eq_true h'.1.2.2
  | _ => exact absurd h (by simp [nameD])
def declsF (fs : List FD) : List PyData := fs.flatMap fun f => f.p ++ letsD f.b
def declsD (fs : List FD) (ss : List PyData) : List PyData := declsF fs ++ letsD ss
theorem declsF_snoc (fs : List FD) (f : FD) : declsF (fs ++ [f]) = declsF fs ++ (f.p ++ letsD f.b) := by
  unfold declsF
  rw [List.flatMap_append]
  simp
theorem all_at {α : Type} {p : α → Bool} {xs : List α} {i : Nat} {x : α} (h : xs.all p = true) (e : xs[i]? = some x) : p x = true := List.all_eq_true.mp h x (List.mem_of_getElem? e)
theorem fn_le {f : FD} (h : fnD f = true) : f.p.length ≤ 4 ∧ f.b.length ≤ 12 ∧ nameD f.n = true ∧ f.p.all declD = true ∧ f.b.all stmtD = true := by
  unfold fnD stsD at h
  rw [Bool.and_eq_true, Bool.and_eq_true, Bool.and_eq_true, Bool.and_eq_true] at h
  exact ⟨of_decide_eq_true h.1.2.1, of_decide_eq_true h.2.1, h.1.1, h.1.2.2, h.2.2⟩
theorem lets_ok {ds : List PyData} (h : ds.all stmtD = true) : (letsD ds).all declD = true := by
  rw [List.all_eq_true] at h ⊢
  intro x hx
  unfold letsD at hx
  obtain ⟨d, hd, rfl⟩ := List.mem_map.mp hx
  obtain ⟨h1, h2⟩ := List.mem_filter.mp hd
  obtain ⟨_, o⟩ := st_ok (h d h1)
  exact (o.lt (of_decide_eq_true h2)).2
theorem declsF_le : ∀ {fs : List FD}, fs.all fnD = true → (declsF fs).length ≤ 16 * fs.length
  | [], _ => Nat.le_refl _
  | f :: fs, h => by
    rw [List.all_cons, Bool.and_eq_true] at h
    have h1 := fn_le h.1
    have h2 := declsF_le h.2
    have h3 := lets_len f.b
    unfold declsF at h2 ⊢
    rw [List.flatMap_cons, List.length_append, List.length_append, List.length_cons]
    omega
theorem declsF_ok {fs : List FD} (h : fs.all fnD = true) : (declsF fs).all declD = true := by
  rw [List.all_eq_true] at h ⊢
  intro x hx
  unfold declsF at hx
  obtain ⟨f, hf, hx⟩ := List.mem_flatMap.mp hx
  have h1 := fn_le (h f hf)
  rcases List.mem_append.mp hx with hx | hx
  · exact List.all_eq_true.mp h1.2.2.2.1 x hx
  · exact List.all_eq_true.mp (lets_ok h1.2.2.2.2) x hx
theorem decls_ok {fs : List FD} {ss : List PyData} (h : fs.all fnD = true) (k : ss.all stmtD = true) : (declsD fs ss).all declD = true := by
  unfold declsD
  rw [List.all_append, declsF_ok h, lets_ok k]
  rfl
theorem decls_le {fs : List FD} {ss : List PyData} (h : fs.all fnD = true) (h4 : fs.length ≤ 4) (h40 : ss.length ≤ 40) : (declsD fs ss).length ≤ 104 := by
  have h1 := declsF_le h
  have h2 := lets_len ss
  unfold declsD
  rw [List.length_append]
  omega
theorem a_extend {H : Hp} {Q : VK} {p b : Addr} {xs zs : List V} (h : H p = some (.lst xs)) (k : H b = some (.lst zs)) (hz : xs.length + zs.length ≤ 100000) (q : Q .non (upd H p (.lst (xs ++ zs)))) : rExtend (.ref p) [.ref b] H Q := ⟨p, b, xs, zs, rfl, rfl, h, k, sz_of hz, q⟩
def pLets (K : PySem.W.Frag) : Sp := fun vs H Q _ => ∃ S p ds, vs = [.ref p] ∧ Al S H ∧ Dl K (dl S H) p ds ∧ ds.all stmtD = true ∧ ∀ q ys H1, H q = none → Ex H H1 → H1 q = some (.lst ys) → DpAll K (dl S H1) ys (letsD ds) → Q (.ref q) H1
/-- the parts of a program -/
structure Pg (K : PySem.W.Frag) (C : Addr) (G : Hp) (pf ps : Addr) (fs : List FD) (ss : List PyData) : Prop where
  fx : ∃ xs, SqL K G pf xs ∧ FnAll K C G xs fs
  sx : Dl K G ps ss
  fo : fs.all fnD = true
  so : ss.all stmtD = true
  f4 : fs.length ≤ 4
  s40 : ss.length ≤ 40
theorem Pg.up {C : Addr} {G G' : Hp} {pf ps : Addr} {fs : List FD} {ss : List PyData} (h : Pg K C G pf ps fs ss) (e : Ex G G') : Pg K C G' pf ps fs ss := by
  obtain ⟨xs, h1, h2⟩ := h.fx
  exact ⟨⟨xs, ex_sl h1 e, h2.up e⟩, h.sx.up e, h.fo, h.so, h.f4, h.s40⟩
def pDecl (K : PySem.W.Frag) (C : Addr) : Sp := fun vs H Q _ => ∃ S pf ps fs ss, vs = [.ref pf, .ref ps] ∧ Al S H ∧ Pg K C (dl S H) pf ps fs ss ∧ ∀ q ys H1, H q = none → Ex H H1 → H1 q = some (.lst ys) → DpAll K (dl S H1) ys (declsD fs ss) → Q (.ref q) H1
def namesD (fs : List FD) (ss : List PyData) : List Str := (fs.map fun f => strD f.n) ++ (declsD fs ss).map fun d => strD (nthD d 0)
def kindsD (fs : List FD) (ss : List PyData) : List PyData := (declsD fs ss).map fun d => nthD d 1
def pNames (K : PySem.W.Frag) (C : Addr) : Sp := fun vs H Q _ => ∃ S pf ps fs ss, vs = [.ref pf, .ref ps] ∧ Al S H ∧ Pg K C (dl S H) pf ps fs ss ∧ ∀ q H1, H q = none → Ex H H1 → H1 q = some (.lst ((namesD fs ss).map V.str)) → Q (.ref q) H1
def pKinds (K : PySem.W.Frag) (C : Addr) : Sp := fun vs H Q _ => ∃ S pf ps fs ss, vs = [.ref pf, .ref ps] ∧ Al S H ∧ Pg K C (dl S H) pf ps fs ss ∧ ∀ q ys H1, H q = none → Ex H H1 → H1 q = some (.lst ys) → DpAll K (dl S H1) ys (kindsD fs ss) → Q (.ref q) H1
theorem w_gtupS {σ : L2.St} {H : Hp} {n : Nat} {gs : TGs} {N : L2.St → Hp → Prop} {p : Addr} {xs : List V} (hx : SqT K H p xs) (hn : xs.length = n) (h : gs xs σ H N) : gTup K n gs (.ref p) σ H N := ⟨p, xs, rfl, hx, hn, h⟩
theorem dpa_two {G : Hp} {xs : List V} {ds : List PyData} (h : DpAll K G xs ds) (l : ds.length = 2) : ∃ u v, xs = [u, v] ∧ Dp K G u (nthD (.tuple ds) 0) ∧ Dp K G v (nthD (.tuple ds) 1) := by
  match ds, l, h with
  | [_, _], _, .cons h1 (.cons h2 .nil) => exact ⟨_, _, rfl, h1, h2⟩
theorem ev_le {G : Hp} {xs : List V} {ds : List PyData} (h : DpAll K G xs ds) (l : ds.length ≤ 104) : xs.length ≤ 104 := by rw [dpa_len h]; exact l
def kindD (ds : List PyData) : Bool := ds.all typD || ds.all fun d => numD d 5
def pKind (K : PySem.W.Frag) : Sp := fun vs H Q _ => ∃ p ds, vs = [.ref p] ∧ Dl K H p ds ∧ RV1 (.bl (kindD ds)) H Q
/-! ## calls that fit -/
abbrev Kv := List (Key × V)
def IntK (kvs : Kv) : Prop := ∀ k v, valV kvs k = some v → ∃ i, v = .int i
def fit1 (kvs : Kv) (d : PyData) : Bool := !decide (fwD d = "call") || decide ((valV kvs (Sum.inr (strD (nthD d 1)))).getD .non = .int ((itemsD (nthD d 2)).length : Nat))
def fitD (kvs : Kv) (ss : List PyData) : Bool := ss.all (fit1 kvs)
def putN (kvs : Kv) (f : FD) : Kv := putK kvs (Sum.inr (strD f.n)) (.int (f.p.length : Nat))
def fitF (kvs : Kv) : List FD → List PyData → Bool
  | [], ss => fitD kvs ss
  | f :: fs, ss => fitD kvs f.b && fitF (putN kvs f) fs ss
theorem putN_le (kvs : Kv) (f : FD) : (putN kvs f).length ≤ kvs.length + 1 := by
  unfold putN putK
  split
  · rw [List.length_map]
    exact Nat.le_succ _
  · rw [List.length_append]
    exact Nat.le_refl _
theorem IntK.put {kvs : Kv} (h : IntK kvs) (f : FD) : IntK (putN kvs f) := fun k v e => by
  unfold putN at e
  rw [valV_put] at e
  by_cases z : k = Sum.inr (strD f.n)
  · rw [if_pos z] at e
    exact ⟨_, (Option.some.inj e).symm⟩
  · rw [if_neg z] at e
    exact h k v e
theorem int_scal {kvs : Kv} (h : IntK kvs) (k : Key) (n : Int) : scal ((valV kvs k).getD .non) (.int n) = true := by
  cases e : valV kvs k with
  | none => rfl
  | some v =>
    obtain ⟨i, rfl⟩ := h k v e
    rfl
def pFit (K : PySem.W.Frag) : Sp := fun vs H Q _ => ∃ ps ss m kvs, vs = [.ref ps, .ref m] ∧ Dl K H ps ss ∧ ss.all stmtD = true ∧ H m = some (.dK kvs) ∧ IntK kvs ∧ RV1 (.bl (fitD kvs ss)) H Q
def pFits (K : PySem.W.Frag) (C : Addr) : Sp := fun vs H Q _ => ∃ pf ps fs ss, vs = [.ref pf, .ref ps] ∧ Pg K C H pf ps fs ss ∧ RV1 (.bl (fitF [] fs ss)) H Q
def GetD (ty : TE) (x : V) (σ : L2.St) (H : Hp) (Q : VK) : Prop := ∃ a, x = .ref a ∧ IsD H a ∧ ty σ H fun y H2 => ∃ o, DGet H2 a y o ∧ Q (o.getD .non) H2
theorem w_getD1 {σ : L2.St} {H : Hp} {td ty : TE} {Q : VK} (h : td σ H fun x Ha => GetD ty x σ Ha Q) : tDGet1 td ty σ H Q := h
theorem a_getD {σ : L2.St} {H : Hp} {ty : TE} {Q : VK} {m : Addr} {kvs : Kv} (e : H m = some (.dK kvs)) (h : ty σ H fun y H2 => ∃ o, DGet H2 m y o ∧ Q (o.getD .non) H2) : GetD ty (.ref m) σ H Q := ⟨m, rfl, .inl ⟨kvs, .inl e⟩, h⟩
def PutD (x y v : V) (H : Hp) (N : Hp → Prop) : Prop := ∃ a H4, x = .ref a ∧ DPut H a y v H4 ∧ N H4
theorem w_putD {σ : L2.St} {H : Hp} {td ty tv : TE} {D : Ends} (h : tv σ H fun v Ha => td σ Ha fun x Hb => ty σ Hb fun y Hc => PutD x y v Hc fun Hd => D.nx σ Hd) : sDPut td ty tv D σ H := h
theorem a_putD {H : Hp} {m : Addr} {kvs : Kv} {x : Str} {v : V} {N : Hp → Prop} (e : H m = some (.dK kvs)) (hl : kvs.length < 100000) (k : N (upd H m (.dK (putK kvs (Sum.inr x) v)))) : PutD (.ref m) (.str x) v H N := ⟨m, _, rfl, DPut.k (k := Sum.inr x) e (sz_lt hl), k⟩
theorem dl_nil (H : Hp) : dl [] H = H := by
  funext a
  exact if_neg (by simp)
def nodupD (ss : List Str) : Bool := decide ss.Nodup
def pDiff (K : PySem.W.Frag) : Sp := fun vs H Q _ => ∃ p ss, vs = [.ref p] ∧ SqL K H p (ss.map V.str) ∧ ss.length ≤ 200 ∧ (∀ s ∈ ss, s.length ≤ 8) ∧ RV1 (.bl (nodupD ss)) H Q
def progD (fs : List FD) (ss : List PyData) : Bool := decide (fs.length ≤ 4) && fs.all fnD && stsD 40 ss && (nodupD (namesD fs ss) && kindD (kindsD fs ss) && fitF [] fs ss)
def pIp (K : PySem.W.Frag) (C : Addr) : Sp := fun vs H Q _ => ∃ pf ps xs fs ss, vs = [.ref pf, .ref ps] ∧ SqL K H pf xs ∧ FnAll K C H xs fs ∧ fs.length ≤ 100000 ∧ Dl K H ps ss ∧ RV1 (.bl (progD fs ss)) H Q
/-! ## the error -/
def pRe (C : Addr) : Sp := fun vs H Q _ => ∃ a r, vs = [.ref a, .str r] ∧ H a = some (exo a C none) ∧ ∀ dx, H dx = none → dx ≠ a → Q .non (upd (upd H dx (exd dx [("reason", .str r)])) a (exo a C (some dx)))
def VeI (K : PySem.W.Frag) (vs : List V) (H : Hp) (Q : VK) : Prop := ∃ (a C : Addr) (ws : List V), vs = .ref a :: ws ∧ ws.length ≤ 1000 ∧ OexC K C ∧ H a = some (exo a C none) ∧ Q .non H
theorem w_veI {σ : L2.St} {H : Hp} {ta : TA} {Q : VK} (h : ta σ H fun vs Ha => VeI K vs Ha Q) : tVeI K ta σ H Q := h
def OstI (K : PySem.W.Frag) (f : Str) (x y : V) (H : Hp) (N : Hp → Prop) : Prop := ∃ a C : Addr, x = .ref a ∧ OexC K C ∧ PySem.W.findIn K (.ref C) f = some none ∧
  ((H a = some (exo a C none) ∧ ∀ dx, H dx = none → dx ≠ a → N (upd (upd H dx (exd dx [(f, y)])) a (exo a C (some dx)))) ∨
    ∃ (dx : Addr) (fs : List (Str × V)), H a = some (exo a C (some dx)) ∧ H dx = some (exd dx fs) ∧ fs.length ≤ 900 ∧ N (upd H dx (exd dx ((f, y) :: fs))))
theorem w_ostI {σ : L2.St} {H : Hp} {f : Str} {to te : TE} {D : Ends} (h : te σ H fun y Ha => to σ Ha fun x Hb => OstI K f x y Hb fun Hc => D.nx σ Hc) : tOst K f to te D σ H := h
def MkO (C : Addr) (sp : Sp) (vs : List V) (H : Hp) (Q : XK) : Prop := vs.length ≤ 1000 ∧ ∀ a, H a = none → sp (.ref a :: vs) (upd H a (exo a C none))
  (fun v H2 => v = .non ∧ ∃ (d : Addr) (fs : List (Str × V)), H2 a = some (exo a C (some d)) ∧ H2 d = some (exd d fs) ∧ H d = none ∧ Q (.ref C) (some d) (upd (del H2 a) d (.xd fs))) (fun _ _ _ => False)
theorem w_mkO {σ : L2.St} {H : Hp} {C : Addr} {sp : Sp} {ta : TA} {Q : XK} (h : ta σ H fun vs Ha => MkO C sp vs Ha Q) : tMkO C sp [] ta σ H Q := by
  have e : (fun vs Ha => MkO C sp vs Ha Q) = fun (vs : List V) H1 => vs.length ≤ 1000 ∧ ∀ a, H1 a = none → sp (.ref a :: (vs ++ [])) (upd H1 a (exo a C none))
      (fun v H2 => v = .non ∧ ∃ (d : Addr) (fs : List (Str × V)), H2 a = some (exo a C (some d)) ∧ H2 d = some (exd d fs) ∧ H1 d = none ∧ Q (.ref C) (some d) (upd (del H2 a) d (.xd fs))) (fun _ _ _ => False) := by
    funext vs Ha
    rw [List.append_nil]
    rfl
  show ta σ H fun vs H1 => vs.length ≤ 1000 ∧ ∀ a, H1 a = none → sp (.ref a :: (vs ++ [])) (upd H1 a (exo a C none))
      (fun v H2 => v = .non ∧ ∃ (d : Addr) (fs : List (Str × V)), H2 a = some (exo a C (some d)) ∧ H2 d = some (exd d fs) ∧ H1 d = none ∧ Q (.ref C) (some d) (upd (del H2 a) d (.xd fs))) (fun _ _ _ => False)
  rw [← e]
  exact h
/-- what a made error leaves behind -/
theorem mko_re {C : Addr} {r : Str} {H : Hp} {Q : XK} (k : ∀ d H1, H d = none → Ex H H1 → H1 d = some (.xd [("reason", .str r)]) → Q (.ref C) (some d) H1) : MkO C (pRe C) [.str r] H Q := by
  refine ⟨(show 1 ≤ 1000 by decide), fun a na => ⟨a, r, rfl, upd_same, fun dx n ne => ⟨rfl, dx, [("reason", .str r)], upd_same, by rw [upd_ne ne, upd_same], by rw [upd_ne ne] at n; exact n, ?_⟩⟩⟩
  have nd : H dx = none := by rw [upd_ne ne] at n; exact n
  refine k dx _ nd (fun b o e => ?_) upd_same
  have b1 : b ≠ dx := ne_of_none e nd
  have b2 : b ≠ a := ne_of_none e na
  rw [upd_ne b1, del_ne b2, upd_ne b2, upd_ne b1, upd_ne b2]
  exact e
def pPi (K : PySem.W.Frag) (C CF CE : Addr) : Sp := fun vs H Q E => ∃ S a dx pf ps xs fs ss, vs = [.ref a, .ref pf, .ref ps] ∧ Al S H ∧ a ∈ S ∧ H a = some (.ins C dx []) ∧ SqL K (dl S H) pf xs ∧ FnAll K CF (dl S H) xs fs ∧ fs.length ≤ 100000 ∧ Dl K (dl S H) ps ss ∧
  (progD fs ss = true → ∀ q1 q2 ys1 ys2 H1, Ks [a] H H1 → H q1 = none → H q2 = none → H1 a = some (.ins C dx (pgF q1 q2)) → H1 q1 = some (.lst ys1) → FnAll K CF (dl S H1) ys1 fs → (∀ v ∈ ys1, NewF CF H H1 v) → H1 q2 = some (.lst ys2) → DpAll K (dl S H1) ys2 ss → Q .non H1) ∧
  (progD fs ss = false → ∀ d H1, Ks [a] H H1 → H d = none → H1 d = some (.xd [("reason", .str "no program")]) → E (.ref CE) (some d) H1)
theorem pi_keep {C : Addr} {n1 : Str} {H1 H2 : Hp} (S : List Addr) (e : Ex H1 H2) : Ex (dl S H1) (dl S H2) := dl_ex e
theorem sts_le {m : Nat} {ss : List PyData} (h : stsD m ss = true) : ss.length ≤ m ∧ ss.all stmtD = true := by
  unfold stsD at h
  rw [Bool.and_eq_true] at h
  exact ⟨of_decide_eq_true h.1, h.2⟩
theorem FnAll.ref {C : Addr} {G : Hp} {xs : List V} {fs : List FD} (h : FnAll K C G xs fs) : True := trivial
theorem kinds_sm {fs : List FD} {ss : List PyData} (h : smAll (declsD fs ss) = true) (o : (declsD fs ss).all declD = true) : smAll (kindsD fs ss) = true := by
  unfold kindsD
  revert h o
  induction declsD fs ss with
  | nil => intro _ _; rfl
  | cons d ds ih =>
    intro h o
    have h' := (Bool.and_eq_true _ _ ▸ h : smD d = true ∧ smAll ds = true)
    rw [List.all_cons, Bool.and_eq_true] at o
    obtain ⟨es, p⟩ := pr_ok o.1
    have h2 : smD d = true := h'.1
    rw [p.e] at h2
    have h3 := (Bool.and_eq_true _ _ ▸ h2 : decide (es.length ≤ 100000) = true ∧ smAll es = true)
    show (smD (nthD d 1) && smAll (ds.map fun d => nthD d 1)) = true
    rw [ih h'.2 o.2, p.e, sm_at h3.2 (nthD_get (by rw [p.l]; decide))]
    rfl
theorem sm_app : ∀ {xs ys : List PyData}, smAll xs = true → smAll ys = true → smAll (xs ++ ys) = true
  | [], _, _, h => h
  | a :: as, ys, h, g => by
    have h' := (Bool.and_eq_true _ _ ▸ h : smD a = true ∧ smAll as = true)
    show (smD a && smAll (as ++ ys)) = true
    rw [h'.1, sm_app h'.2 g]
    rfl
theorem sm_lets : ∀ {ss : List PyData}, smAll ss = true → ss.all stmtD = true → smAll (letsD ss) = true
  | [], _, _ => rfl
  | d :: ds, h, o => by
    have h' := (Bool.and_eq_true _ _ ▸ h : smD d = true ∧ smAll ds = true)
    rw [List.all_cons, Bool.and_eq_true] at o
    have ih := sm_lets h'.2 o.2
    unfold letsD at ih ⊢
    by_cases c : fwD d = "let"
    · rw [List.filter_cons_of_pos (by simpa using c), List.map_cons]
      obtain ⟨es, p⟩ := st_ok o.1
      have h2 : smD d = true := h'.1
      rw [p.e] at h2
      have h3 := (Bool.and_eq_true _ _ ▸ h2 : decide (es.length ≤ 100000) = true ∧ smAll es = true)
      show (smD (cut13 d) && smAll _) = true
      rw [ih, p.e]
      have : smD (cut13 (.tuple es)) = true := sm_tup (sm_take 2 (sm_drop 1 h3.2)) (by rw [List.length_take]; omega)
      rw [this]
      rfl
    · rw [List.filter_cons_of_neg (by simpa using c)]
      exact ih
theorem fn_sm {C : Addr} {G : Hp} : ∀ {xs : List V} {fs : List FD}, FnAll K C G xs fs → fs.all fnD = true → smAll (declsF fs) = true
  | _, _, .nil, _ => rfl
  | _, _, .cons (f := f) (fs := fs) h t, o => by
    rw [List.all_cons, Bool.and_eq_true] at o
    obtain ⟨_, _, _, _, _, _, hp, hb⟩ := h.ex
    have ih := fn_sm t o.2
    unfold declsF at ih ⊢
    rw [List.flatMap_cons]
    exact sm_app (sm_app hp.sm (sm_lets hb.sm (fn_le o.1).2.2.2.2)) ih
theorem names_le {fs : List FD} {ss : List PyData} (h : fs.all fnD = true) (h4 : fs.length ≤ 4) (h40 : ss.length ≤ 40) : (namesD fs ss).length ≤ 200 := by
  have h1 := decls_le h h4 h40
  unfold namesD
  rw [List.length_append, List.length_map, List.length_map]
  omega
theorem names_s {fs : List FD} {ss : List PyData} (h : fs.all fnD = true) (k : ss.all stmtD = true) : ∀ s ∈ namesD fs ss, s.length ≤ 8 := fun s hs => by
  unfold namesD at hs
  rcases List.mem_append.mp hs with hs | hs
  · obtain ⟨f, hf, rfl⟩ := List.mem_map.mp hs
    exact (name_str (fn_le (List.all_eq_true.mp h f hf)).2.2.1).2
  · obtain ⟨d, hd, rfl⟩ := List.mem_map.mp hs
    obtain ⟨es, o⟩ := pr_ok (List.all_eq_true.mp (decls_ok h k) d hd)
    rw [o.e]
    exact (name_str o.n).2
end
end Ver

set_option Elab.async false
set_option linter.all false
set_option maxRecDepth 100000
set_option maxHeartbeats 4000000
namespace Ver
open PySem PySem.Spec PyProof.Rows
/-! ## how many different texts a list has: len(set(xs)) -/
abbrev eS (b : Bool) : Obj := { cls := .type "set", dict := none, data := .set #[] 0 (.fresh 0 0 b) }
def nth (xs : List Str) (i : Nat) : Str := xs.getD i Str.empty
/-- the texts met before place i, each once -/
def fm (xs : List Str) : Nat → List Str
  | 0 => []
  | i + 1 => if nth xs i ∈ fm xs i then fm xs i else fm xs i ++ [nth xs i]
theorem fm_le (xs : List Str) : ∀ i, (fm xs i).length ≤ i
  | 0 => Nat.le_refl _
  | i + 1 => by
    have h := fm_le xs i
    unfold fm
    split
    · omega
    · rw [List.length_append, List.length_singleton]
      omega
theorem fm_mem (xs : List Str) (i : Nat) (k : Str) : decide (k ∈ fm xs (i + 1)) = (decide (k ∈ fm xs i) || decide (k = nth xs i)) := by
  have e : fm xs (i + 1) = if nth xs i ∈ fm xs i then fm xs i else fm xs i ++ [nth xs i] := rfl
  rw [e]
  by_cases h : nth xs i ∈ fm xs i
  · rw [if_pos h]
    by_cases z : k = nth xs i
    · subst z
      simp [h]
    · simp [z]
  · rw [if_neg h]
    simp [List.mem_append]
theorem fm_num (xs : List Str) (i : Nat) : (fm xs (i + 1)).length = if decide (nth xs i ∈ fm xs i) = true then (fm xs i).length else (fm xs i).length + 1 := by
  have e : fm xs (i + 1) = if nth xs i ∈ fm xs i then fm xs i else fm xs i ++ [nth xs i] := rfl
  rw [e]
  by_cases h : nth xs i ∈ fm xs i
  · rw [if_pos h, if_pos (decide_eq_true h)]
  · rw [if_neg h, if_neg (by simpa using h), List.length_append, List.length_singleton]
theorem nth_eq {xs : List Str} {i : Nat} (h : i < xs.length) : nth xs i = xs[i] := by
  unfold nth
  rw [List.getD_eq_getElem?_getD, List.getElem?_eq_getElem h]
  rfl
theorem fm_take (xs : List Str) : ∀ i, i ≤ xs.length → (∀ k, k ∈ fm xs i ↔ k ∈ xs.take i) ∧ ((fm xs i).length = i ↔ (xs.take i).Nodup)
  | 0, _ => ⟨fun k => by simp [fm], by simp [fm]⟩
  | i + 1, h => by
    have hi : i < xs.length := h
    obtain ⟨h1, h2⟩ := fm_take xs i (Nat.le_of_lt hi)
    have et : xs.take (i + 1) = xs.take i ++ [nth xs i] := by
      rw [nth_eq hi]
      exact take_snoc (List.getElem?_eq_getElem hi)
    have hl := fm_le xs i
    constructor
    · intro k
      have a := fm_mem xs i k
      have b : k ∈ fm xs (i + 1) ↔ (k ∈ fm xs i ∨ k = nth xs i) := by
        by_cases z : k ∈ fm xs (i + 1) <;> by_cases y : k ∈ fm xs i <;> by_cases x : k = nth xs i <;> simp_all
      rw [b, et, List.mem_append, List.mem_singleton, h1 k]
    · rw [fm_num, et, List.nodup_append]
      by_cases z : nth xs i ∈ fm xs i
      · rw [if_pos (decide_eq_true z)]
        constructor
        · intro y
          omega
        · intro y
          exact absurd rfl (y.2.2 _ ((h1 _).mp z) _ (by simp))
      · rw [if_neg (by simpa using z)]
        constructor
        · intro y
          refine ⟨h2.mp (by omega), by simp, fun a ha b hb e => ?_⟩
          rw [List.mem_singleton] at hb
          rw [e, hb] at ha
          exact z ((h1 _).mpr ha)
        · intro y
          have := h2.mpr y.1
          omega
theorem fm_nodup (xs : List Str) : decide (((fm xs xs.length).length : Int) = (xs.length : Int)) = nodupD xs := by
  have h := (fm_take xs xs.length (Nat.le_refl _)).2
  rw [List.take_length] at h
  unfold nodupD
  by_cases z : xs.Nodup
  · rw [decide_eq_true z, decide_eq_true (by have := h.mpr z; omega)]
  · rw [decide_eq_false z, decide_eq_false (fun y => z (h.mp (by omega)))]
section
variable {P : Program} {w : World} {B : Around} {R : Result → Shared → Prop} {J : Addr} {fp wr : List Addr} {G : Array GenState → Array GenState → Prop} {n : Nat} {Pv : Nat → Value → Prop} {St : Nat → Shared → Prop}
theorem loop_txt (W : WalksS P w B.in1 J fp wr G n Pv St) (D : Addr) (nf : D ∉ fp) (xs : List Str) (small : n + 1 < scanBound) (hv : ∀ i v, Pv i v → ∃ t, v = .str (nth xs i) t) :
    ∀ (m i : Nat) (s0 : Shared), n - i = m → i ≤ n → St i s0 → s0.heap.SetOf (strKind P w) D (fun k => decide (k ∈ fm xs i)) (fm xs i).length →
      (∀ s1, Moved (D :: wr) G s0 s1 → s1.heap.SetOf (strKind P w) D (fun k => decide (k ∈ fm xs n)) (fm xs n).length → R (.ok (.ret .none)) s1) →
      codeAny (model P w) B (.builtin "set.update.loop" ⟨[.ref D, .ref J], []⟩) R s0 := by
  have nw : D ∉ wr := fun z => nf (W.sub _ z)
  have up : ∀ b ∈ wr, b ∈ D :: wr := fun b z => List.mem_cons_of_mem _ z
  intro m
  induction m with
  | zero =>
    intro i s0 hm hi hst hD hR
    obtain rfl : i = n := by omega
    refine codeAny_builtin F.entry_set_update_loop ?_
    rw [Around.under_plainId F.plain_set_update_loop _]
    show wpAny _ B.in1 (pyNext (.ref J) >>= _) _ _ s0
    refine wpAny_bind (W.done s0 _ _ hst fun s1 mv => ?_)
    show wpAny _ B.in1 (ret Value.none) _ _ s1
    obtain ⟨o, es, ep, tb, ho, rest⟩ := hD
    exact wpAny_pure (hR s1 (mv.mono up) ⟨o, es, ep, tb, mv.heap D _ nw ho, rest⟩)
  | succ m ih =>
    intro i s0 hm hi hst hD hR
    have lt : i < n := by omega
    refine codeAny_builtin F.entry_set_update_loop ?_
    rw [Around.under_plainId F.plain_set_update_loop _]
    show wpAny _ B.in1 (pyNext (.ref J) >>= _) _ _ s0
    refine wpAny_bind (W.item i s0 _ _ lt hst fun v s1 pv st1 mv => ?_)
    obtain ⟨t, rfl⟩ := hv i v pv
    have hD1 : s1.heap.SetOf (strKind P w) D (fun k => decide (k ∈ fm xs i)) (fm xs i).length := by
      obtain ⟨o, es, ep, tb, ho, rest⟩ := hD
      exact ⟨o, es, ep, tb, mv.heap D _ nw ho, rest⟩
    show wpAny _ B.in1 (holding [Value.str (nth xs i) t] (setAdd D (.str (nth xs i) t)) >>= _) _ _ s1
    refine wpAny_bind (wpAny_holding ?_)
    unfold setAdd
    refine wpAny_holding (wpAny_bind ((strKind P w).pyHash (k := nth xs i) (strKind_is _ _ _ _) ?_))
    have room := fm_le xs i
    refine wpAny_setAddHashed_of (knd := strKind P w) (s := { s1 with toks := s1.toks + 1 }) (strKind_is _ _ _ _) rfl hD1 (by omega) fun h2 sb hD2 => ?_
    have hD3 : h2.SetOf (strKind P w) D (fun k => decide (k ∈ fm xs (i + 1))) (fm xs (i + 1)).length := SetOf_congr hD2 (fun k => (fm_mem xs i k).symm) (fm_num xs i).symm
    refine wpAny_pure ⟨plainId_quiet F.plain_set_update_loop _, ih (i + 1) _ (by omega) lt (W.frame _ s1 _ _ st1 (Nat.le_succ _) fun b hb o e => ?_) hD3 fun s2 mv2 hD4 => ?_⟩
    · rw [sb.2 b fun z : b = D => nf (by rw [← z]; exact hb)]
      exact e
    · refine hR s2 (Moved.trans W.gtrans ((mv.mono up).then_heap (Nat.le_succ _) fun b o hb e => ?_) mv2) hD4
      rw [sb.2 b fun z : b = D => hb (by rw [z]; exact List.mem_cons_self)]
      exact e
end
section
variable {P : Program} {w : World} {B : Around} {E : Value → Shared → Prop} {s0 : Shared}
set_option maxHeartbeats 8000000 in
theorem set_txt {l : Addr} {its : Array Value} {xs : List Str} {Q : Value → Shared → Prop} (nh : B.handled = none) (li : s0.heap.IsList l its) (ar : StrsAre its.toList xs) (small : its.size + 1 < scanBound)
    (k : ∀ (h1 : Heap) (tk : Nat), h1.SetOf (strKind P w) s0.heap.objs.size (fun x => decide (x ∈ fm xs its.size)) (fm xs its.size).length → (∀ b o, b < s0.heap.objs.size → s0.heap.get? b = some o → h1.get? b = some o) →
      Q (.ref s0.heap.objs.size) { s0 with heap := h1, toks := tk }) : wpAny (model P w) B (call (.type "set") [.ref l]) Q E s0 := by
  obtain ⟨c, tl, hmro⟩ := PySem.F.called_set.mro
  have m1 := PySem.F.called_set.made
  have m2 := PySem.F.called_set.sub
  refine wpAny_call (codeAny_of_tree ?_)
  show wpAny _ _ (callAny (.type "set") _) _ _ _
  refine wpAny_pure ⟨Code.quiet_builtin _ (by decide +kernel), codeAny_builtin PySem.F.entry_type_call ?_⟩
  rw [Around.under_plain (weight_type_call_type "set" [.ref l] []) rfl]
  have m3 := PySem.F.called_set.notType
  have m4 := PySem.F.called_set.canCreate
  have m5 := PySem.F.typeCall_set_1 (.ref l)
  repeat (any_goals (first | assumption | wp_step))
  refine codeAny_mono (code_set_new_1 (.ref l) (E := E) (Q₁ := fun v z => ∃ b : Bool, v = .ref s0.heap.objs.size ∧ z = { s0 with heap := s0.heap.push (eS b) }) fun b => ⟨b, rfl, rfl⟩) fun r z hz => ?_
  match r, hz with
  | .error e, hz => exact hz
  | .ok (.ret v), hz =>
    obtain ⟨b, rfl, rfl⟩ := hz
    have at0 : (s0.heap.push (eS b)).get? s0.heap.objs.size = some (eS b) := Heap.get?_push_size _ rfl
    have ty0 : Shared.TypeIs { s0 with heap := s0.heap.push (eS b) } (.ref s0.heap.objs.size) "set" := ⟨_, at0, rfl⟩
    have i1 := PySem.F.called_set.init.lookup
    have i2 := PySem.F.called_set.init.bind (.ref s0.heap.objs.size)
    repeat (any_goals (first | assumption | wp_step))
    refine codeAny_mono (codeAny_call_builtin (R := wants (fun r z => r = .none ∧ ∃ h1 tk, z = { s0 with heap := h1, toks := tk } ∧ h1.SetOf (strKind P w) s0.heap.objs.size (fun x => decide (x ∈ fm xs its.size)) (fm xs its.size).length ∧
      (∀ b o, b < s0.heap.objs.size → s0.heap.get? b = some o → h1.get? b = some o)) E) PySem.F.called_set.init.plain PySem.F.entry_set_init (check_set_init_1 ty0 ?_)) fun r2 z2 hz2 => ?_
    · obtain ⟨⟨lc, ld, lt, ls⟩, lo, c1, ln, c2⟩ := li
      simp only at c1 c2
      subst c1
      subst c2
      have lo' : (s0.heap.push (eS b)).get? l = some { cls := .type "list", dict := ld, data := .seq its ln, slots := ls } := Heap.get?_push_of_some _ lo
      have n1 := PySem.F.sub_list_set
      have n2 := PySem.F.sub_list_frozenset
      have n3 : (Value.type "list" == Value.type "dict") = false := by decide
      have li1 : (s0.heap.push (eS b)).IsList l its := ⟨_, lo', rfl, ln, rfl⟩
      unfold Builtin.«set.__init__» noKeywords Builtin.Frozenset.updateFrom
      generalize pz : pyIter = PZ
      wp_walk
      subst pz
      refine wpAny_pyIter_list li1 (wpAny_bind (wpAny_runValue ?_))
      have lLt : l < s0.heap.objs.size := Heap.lt_size lo
      have nh3 : B.in1.in1.in1.handled = none := by simp [nh]
      have lNe : l ≠ (s0.heap.push (eS b)).objs.size := by
        rw [Heap.size_push]
        exact Nat.ne_of_lt (Nat.lt_succ_of_lt lLt)
      have sNin : s0.heap.objs.size ∉ [(s0.heap.push (eS b)).objs.size, l] := by
        rw [Heap.size_push]
        simp only [List.mem_cons, List.mem_singleton, List.not_mem_nil, or_false, not_or]
        exact ⟨Nat.ne_of_lt (Nat.lt_succ_self _), Nat.ne_of_gt lLt⟩
      refine loop_txt ((Walks.list nh3 _ l lNe its).toS) s0.heap.objs.size sNin xs small (fun i v q => SS.strs_at ar i v (by rw [Array.getElem?_toList]; exact q)) (its.size - 0) 0 _ (by omega) (Nat.zero_le _) ⟨⟨_, Heap.get?_push_size _ rfl, rfl, rfl⟩, (li1.push _)⟩ ?setA ?setB
      case setA =>
        have at1 : ((s0.heap.push (eS b)).push { cls := .type "list_iterator", data := .fields #[.ref l, .int 0 0] }).get? s0.heap.objs.size = some (eS b) := Heap.get?_push_of_some _ at0
        exact SetOf_congr ((setObjOf_fresh (knd := strKind P w) b).setOf at1 (by unfold scanBound; omega)) (fun _ => by simp [fm]) rfl
      case setB =>
        rintro ⟨h1, g1, d1, tk1, os1⟩ mv hD
        obtain rfl : g1 = s0.gens := mv.gens
        obtain rfl : d1 = s0.drawn := mv.drawn
        obtain rfl : os1 = s0.os := mv.os
        show wpAny _ _ _ _ _ _
        refine wpAny_pure ?_
        show wpAny _ _ (ret Value.none) _ _ _
        refine wpAny_pure ⟨rfl, h1, tk1, rfl, hD, fun b o hb e => mv.heap b o ?_ (Heap.get?_push_of_some _ (Heap.get?_push_of_some _ e))⟩
        rw [Heap.size_push]
        simp only [List.mem_cons, List.mem_singleton, List.not_mem_nil, or_false, not_or]
        exact ⟨Nat.ne_of_lt hb, Nat.ne_of_lt (Nat.lt_succ_of_lt hb)⟩
    · match r2, hz2 with
      | .error e, hz2 => exact hz2
      | .ok (.ret v2), hz2 =>
        obtain ⟨rfl, h1, tk, rfl, hD, kp⟩ := hz2
        repeat (any_goals (first | assumption | wp_step))
        exact k _ _ hD kp
      | .ok .next, hz2 => exact hz2.elim
      | .ok .brk, hz2 => exact hz2.elim
      | .ok .cont, hz2 => exact hz2.elim
  | .ok .next, hz => exact hz.elim
  | .ok .brk, hz => exact hz.elim
  | .ok .cont, hz => exact hz.elim
end
end Ver
namespace L2
open PySem PySem.Spec PyProof.Rows
section
variable {X : Cx} {CX : CXT} {k : Nat} {f C : Addr} {fd : FuncData} {ps : List Str} {sp : Sp} {E : St → XK} {x : Str} {p1 p2 : Pos} {e : Expr} {es : List Expr} {t : TA}
/-- C(..) that may raise: the wish is taken at the slots -/
def tMakeS (C : Addr) (sp : Sp) (E : St → XK) (t : TA) : TE := fun σ H Q => t σ H fun vs Ha => ∀ y dy, Ha y = none → Ha dy = none → dy ≠ y →
  sp (.ref y :: vs) (upd (upd Ha dy (.own y)) y (.ins C dy [])) (fun v Hb => v = .non ∧ Q (.ref y) Hb) (E σ)
theorem run_mkS {pins : List (Addr × Obj)} {σ : St} {H : Hp} {s0 : Shared} {Q : VK} {us : List Value} {vs : List V} (M : Mk X.K C f) (F : FnOk X.prog X.w X.K X.mg X.base CX k f fd ps sp) (room : Room (k + 1) X.A) (bd : Binds X.K fd ps [])
    (out : PassesAt CX X σ (E σ)) (I : Inv X pins σ H s0) (rv : Vals vs us) (h : ∀ y dy, H y = none → H dy = none → dy ≠ y → sp (.ref y :: vs) (upd (upd H dy (.own y)) y (.ins C dy [])) (fun v Hb => v = .non ∧ Q (.ref y) Hb) (E σ)) :
    wpAny (model X.prog X.w) X.A (call (.ref C) us) (EP X pins σ Q) X.xe s0 := by
  have want := h (s0.heap.objs.size + 1) s0.heap.objs.size (I.hok.fresh (Nat.le_succ _)) (I.hok.fresh (Nat.le_refl _)) (Nat.ne_of_lt (Nat.lt_succ_self _))
  have Im := Inv.made (C := C) I
  have rv2 : Vals (V.ref (s0.heap.objs.size + 1) :: vs) (Value.ref (s0.heap.objs.size + 1) :: us) := .cons rfl rv
  have same : (Value.ref (s0.heap.objs.size + 1) :: us).length = ps.length := by
    have e := rv2.length
    rw [F.len _ _ _ _ want] at e
    exact e.symm
  have bd2 := bd _ (Value.ref (s0.heap.objs.size + 1) :: us) Im.kIn (by rw [List.append_nil]; exact same)
  rw [List.append_nil] at bd2
  refine wpAny_call (make_map (f := f) I.kIn M.makes M.init (beq_iff_eq.mp M.fn) (codeAny_mono (F.run _ X.stack _ _ ⟨Value.ref (s0.heap.objs.size + 1) :: us, []⟩ _ _ _ (E σ) (room.make C us []) (Im.env0.make C us []) bd2 rv2 want) fun r s1 got => ?_))
  match r, got with
  | .error er, got => exact out pins _ _ er s1 Im got
  | .ok (.ret u), got =>
    obtain ⟨v, Hb, I3, rz, ev, q⟩ := Im.after got
    subst ev
    exact ⟨rz, ⟨V.ref (s0.heap.objs.size + 1), Hb, I3, rfl, q⟩⟩
  | .ok .next, got => exact got.elim
  | .ok .brk, got => exact got.elim
  | .ok .cont, got => exact got.elim
theorem pe_makeS (M : Mk X.K C f) (F : FnOk X.prog X.w X.K X.mg X.base CX k f fd ps sp) (room : Room (k + 1) X.A) (gl : Gl X x) (mg : X.mg x = some (.ref C)) (bd : Binds X.K fd ps []) (out : ∀ σ, PassesAt CX X σ (E σ)) (ha : PA X (e :: es) t)
    (nd : (x == ("__debug__" : Str)) = false := by decide) (he : starEach (e :: es) X.env = (false, eval e X.env) :: starEach es X.env := by rfl) (hp : (backTo p2 (starEach es X.env)).any (·.1) = false := by rfl) :
    PE X (.Call (.Name x p1) (e :: es) [] p2) (tMakeS C sp E t) := by
  refine ⟨fun pins s0 σ H Q I h => wpAny_Call_Name_kw (ld_glob I gl mg ?_ nd)⟩
  refine PySem.W.callWith_K (h₀ := X.base) I.ok.mod.kin M.kp (thn (ha.run p2 pins s0 σ H _ I h) fun us s1 ⟨vs, Ha, I1, rv, q⟩ => ⟨I1.kIn, ?_⟩) he hp
  exact run_mkS M F room bd (out σ) I1 rv q
end
/-- len(set(xs)), xs a list of texts -/
def tSetN (K : PySem.W.Frag) (ta : TE) : TE := fun σ H Q => ta σ H fun x Ha => ∃ l, ∃ xs : List Str, x = .ref l ∧ SqL K Ha l (xs.map V.str) ∧ xs.length ≤ 1000 ∧ Q (.int (Ver.fm xs xs.length).length) Ha
theorem pe_setN {X : Cx} {a : Expr} {ta : TE} {p1 p2 p3 p4 : Pos} (hc : X.calm = true) (g1 : Gl X "len") (m1 : X.mg "len" = none) (g2 : Gl X "set") (m2 : X.mg "set" = none) (ha : PE X a ta)
    (na : starEach [a] X.env = (false, eval a X.env) :: starEach [] X.env := by rfl) : PE X (.Call (.Name "len" p1) [.Call (.Name "set" p2) [a] [] p3] [] p4) (tSetN X.K ta) := by
  refine ⟨fun pins s0 σ H Q I h => Call_ (ld_blt I g1 m1 boot_len ?_)⟩
  refine PyProof.Rows.callWith_builtin1 (PyProof.Rows.args_cons (Call_ (ld_blt I g2 m2 boot_set ?_)) rfl) rfl rfl
  refine PyProof.Rows.callWith_type1 (PyProof.Rows.args_cons (thn (ha.run pins s0 σ H _ I h) fun v s1 ⟨x, Ha, I1, rx, l, xs, ex, hL, hz, q⟩ => PyProof.Rows.args_nil ?_) na) na rfl
  subst ex
  cases rx
  obtain ⟨its, rv, li, _⟩ := I1.list hL
  have el : its.toArray.size = xs.length := by rw [List.size_toArray, ← rv.length, List.length_map]
  have sb : its.toArray.size + 1 < scanBound := by
    rw [el]
    unfold scanBound
    omega
  refine Ver.set_txt (I1.ok.hd hc) li.isList (by simpa using strsAre_of rv) sb fun h1 tk hD kp => PyProof.Rows.args_nil ?_
  rw [el] at hD
  obtain ⟨o, es, ep, t, ho, hx, hd, _, _, _, hf, hn⟩ := hD
  have I2 : Inv X pins σ Ha { s1 with heap := h1, toks := tk } := I1.kept fun b o e => kp b o (Heap.lt_size e) e
  have le := Ver.fm_le xs xs.length
  exact call_len_set ho hx hd hf (by rw [hn]; omega) ⟨.int (Ver.fm xs xs.length).length, Ha, I2.tok _, ⟨_, by rw [hn]⟩, q⟩
end L2
namespace Ver
open PySem PySem.Spec PyProof.Rows L2 Evl
theorem setNK (K : PySem.W.Frag) {X : Cx} {a : Expr} {ta : TE} {p1 p2 p3 p4 : Pos} (hc : X.calm = true) (g1 : Gl X "len") (m1 : X.mg "len" = none) (g2 : Gl X "set") (m2 : X.mg "set" = none) (ha : PE X a ta)
    (na : starEach [a] X.env = (false, eval a X.env) :: starEach [] X.env := by rfl) (h : X.K = K := by rfl) : PE X (.Call (.Name "len" p1) [.Call (.Name "set" p2) [a] [] p3] [] p4) (tSetN K ta) := by
  subst h
  exact pe_setN hc g1 m1 g2 m2 ha na
end Ver
namespace Ver
open PySem PySem.Spec PyProof.Rows L2 Evl
section
variable {K : PySem.W.Frag}
def NewS (C : Addr) (sp : Sp) (E : XK) (vs : List V) (H : Hp) (Q : VK) : Prop := ∀ y dy, H y = none → H dy = none → dy ≠ y → sp (.ref y :: vs) (upd (upd H dy (.own y)) y (.ins C dy [])) (fun v Hb => v = .non ∧ Q (.ref y) Hb) E
theorem w_newS {σ : L2.St} {H : Hp} {C : Addr} {sp : Sp} {E : L2.St → XK} {t : TA} {Q : VK} (h : t σ H fun vs Ha => NewS C sp (E σ) vs Ha Q) : tMakeS C sp E t σ H Q := h
theorem a_newS {H : Hp} {C : Addr} {sp : Sp} {E : XK} {vs : List V} {Q : VK} (k : ∀ x dx H1, H x = none → H dx = none → dx ≠ x → Ex H H1 → H1 x = some (.ins C dx []) → H1 dx = some (.own x) → sp (.ref x :: vs) H1 (fun v H2 => v = .non ∧ Q (.ref x) H2) E) : NewS C sp E vs H Q := fun x dx n1 n2 n3 =>
  k x dx _ n1 n2 n3 ((Ex.new n2).mut n1) upd_same (by rw [upd_ne n3, upd_same])
def Xf (a : Addr) (cls : Value) (d : Option Addr) (C : Addr) (f : Str) (x : V) (H : Hp) (Q : VK) : Prop := x = .ref a ∧ cls = .ref C ∧ ∃ (dd : Addr) (fs : List (Str × V)) (v : V), d = some dd ∧ H dd = some (.xd fs) ∧ fs.lookup f = some v ∧ Q v H
theorem w_xf {σ : L2.St} {H : Hp} {a C : Addr} {cls : Value} {d : Option Addr} {f : Str} {te : TE} {Q : VK} (h : te σ H fun x Ha => Xf a cls d C f x Ha Q) : tXf a cls d C f te σ H Q := h
/-- two new places of a heap, left out again -/
theorem ex_two {H H1 : Hp} {x y : Addr} (n1 : H x = none) (n2 : H y = none) (e : Ex H H1) : Ex H (dl [x, y] H1) := fun b o z => by
  rw [dl_nin (by
    intro k
    rcases List.mem_cons.mp k with k | k
    · rw [k, n1] at z; cases z
    rcases List.mem_cons.mp k with k | k
    · rw [k, n2] at z; cases z
    · cases k)]
  exact e b o z
/-- a function as the law tells it -/
def fdat (f : FD) : PyData := .list [f.n, .list f.p, .list f.b]
def pAcc (K : PySem.W.Frag) : Sp := fun vs H Q _ => ∃ v1 v2 fs ss, vs = [v1, v2] ∧ Ds K H v1 (.list (fs.map fdat)) ∧ Ds K H v2 (.list ss) ∧ RV1 (.bl (progD fs ss)) H Q
theorem dpa_three {G : Hp} {xs : List V} {a b c : PyData} (h : DpAll K G xs [a, b, c]) : ∃ u v w, xs = [u, v, w] ∧ Dp K G u a ∧ Dp K G v b ∧ Dp K G w c := by
  match h with
  | .cons h1 (.cons h2 (.cons h3 .nil)) => exact ⟨_, _, _, rfl, h1, h2, h3⟩
theorem ds_fdat {G : Hp} {v : V} {f : FD} (h : Ds K G v (fdat f)) : ∃ p u q r, v = .ref p ∧ SqL K G p [u, .ref q, .ref r] ∧ Ds K G u f.n ∧ Dl K G q f.p ∧ Dl K G r f.b := by
  obtain ⟨p, xs, ds, rfl, e, hL, hD, hs, _, _⟩ := ds_lst h rfl
  cases e
  obtain ⟨u, v, w, rfl, d1, d2, d3⟩ := dpa_three hD
  have s0 := sm_at (i := 0) hs rfl
  have s1 := sm_at (i := 1) hs rfl
  have s2 := sm_at (i := 2) hs rfl
  obtain ⟨q, x1, _, rfl, e1, l1, k1, m1, z1, _⟩ := ds_lst (⟨d2, s1⟩ : Ds K G v (.list f.p)) rfl
  cases e1
  obtain ⟨r, x2, _, rfl, e2, l2, k2, m2, z2, _⟩ := ds_lst (⟨d3, s2⟩ : Ds K G w (.list f.b)) rfl
  cases e2
  exact ⟨p, u, q, r, rfl, hL, ⟨d1, s0⟩, ⟨⟨x1, l1, k1⟩, m1, z1⟩, ⟨⟨x2, l2, k2⟩, m2, z2⟩⟩
end
end Ver

set_option Elab.async false
set_option linter.all false
set_option maxRecDepth 100000
set_option maxHeartbeats 4000000
namespace Ver
open PySem PySem.Spec PyProof.Rows L2 Evl
section
variable {K : PySem.W.Frag} {σ : L2.St} {H : Hp} {te ta tb : TE} {t : TA} {d : PyData} {ds es : List PyData} {i : Nat}
/-! ## expressions that come out as data (apart from the places S) -/
variable {S : List Addr}
def EvD (K : PySem.W.Frag) (S : List Addr) (σ : L2.St) (H : Hp) (te : TE) (d : PyData) : Prop := ∀ H0, Ex H H0 → ∀ Q : VK, (∀ v H1, Ex H0 H1 → Dp K (dl S H1) v d → Q v H1) → te σ H0 Q
def EvL (K : PySem.W.Frag) (S : List Addr) (σ : L2.St) (H : Hp) (te : TE) (ds : List PyData) : Prop := ∀ H0, Ex H H0 → ∀ Q : VK, (∀ p vs H1, Ex H0 H1 → p ∉ S → H1 p = some (.lst vs) → DpAll K (dl S H1) vs ds → Q (.ref p) H1) → te σ H0 Q
def EvA (K : PySem.W.Frag) (S : List Addr) (σ : L2.St) (H : Hp) (t : TA) (ds : List PyData) : Prop := ∀ H0, Ex H H0 → ∀ Q : List V → Hp → Prop, (∀ vs H1, Ex H0 H1 → DpAll K (dl S H1) vs ds → Q vs H1) → t σ H0 Q
theorem ev_var {v : V} (e : σ[i]? = some (some v)) (h : Dp K (dl S H) v d) : EvD K S σ H (tVar i) d := fun H0 e0 Q k => ⟨v, e, k v H0 (Ex.refl _) (dp_ex (dl_ex e0) h)⟩
theorem ev_str {x : Str} : EvD K S σ H (tC (.str x)) (.str x) := fun H0 _ Q k => k _ H0 (Ex.refl _) (.str x)
theorem ev_int {x : Int} : EvD K S σ H (tC (.int x)) (.int x) := fun H0 _ Q k => k _ H0 (Ex.refl _) (.int x)
theorem ev_bl {x : Bool} : EvD K S σ H (tC (.bl x)) (.bool x) := fun H0 _ Q k => k _ H0 (Ex.refl _) (.bl x)
theorem ev_non : EvD K S σ H (tC .non) .none := fun H0 _ Q k => k _ H0 (Ex.refl _) .non
theorem ev_nil : EvA K S σ H tNil [] := fun H0 _ Q k => k [] H0 (Ex.refl _) .nil
theorem ev_cons (h : EvD K S σ H te d) (g : EvA K S σ H t ds) : EvA K S σ H (tCons te t) (d :: ds) := fun H0 e0 Q k =>
  h H0 e0 _ fun v H1 e1 dv => g H1 (e0.trans e1) _ fun vs H2 e2 dvs => k (v :: vs) H2 (e1.trans e2) (.cons (dp_ex (dl_ex e2) dv) dvs)
theorem ev_lst (al : Al S H) (h : EvA K S σ H t ds) (z : ds.length ≤ 100000) : EvL K S σ H (tLst t) ds := fun H0 e0 Q k =>
  h H0 e0 _ fun vs H1 e1 dvs => new_lst (by rw [dpa_len dvs]; exact z) fun p H2 n e2 f => k p vs H2 (e1.trans e2) ((al.ex (e0.trans e1)).nin n) f (dpa_ex (dl_ex e2) dvs)
theorem ev_ll (h : EvL K S σ H te ds) : EvD K S σ H te (.list ds) := fun H0 e0 Q k => h H0 e0 _ fun p vs H1 e1 np f dvs => k _ H1 e1 (.lst (SqL.of (dl_at np f)) dvs)
theorem ev_tup (al : Al S H) (h : EvA K S σ H t ds) (z : ds.length ≤ 100000) : EvD K S σ H (tTup t) (.tuple ds) := fun H0 e0 Q k =>
  h H0 e0 _ fun vs H1 e1 dvs => new_tup (by rw [dpa_len dvs]; exact z) fun p H2 n e2 f => k _ H2 (e1.trans e2) (.tup (SqT.of (dl_at ((al.ex (e0.trans e1)).nin n) f)) (dpa_ex (dl_ex e2) dvs))
theorem ev_lvar {p : Addr} {vs : List V} (e : σ[i]? = some (some (.ref p))) (np : p ∉ S) (f : H p = some (.lst vs)) (h : DpAll K (dl S H) vs ds) : EvL K S σ H (tVar i) ds := fun H0 e0 Q k => ⟨.ref p, e, k p vs H0 (Ex.refl _) np (e0 _ _ f) (dpa_ex (dl_ex e0) h)⟩
theorem ev_cat (al : Al S H) (h : EvL K S σ H ta ds) (g : EvL K S σ H tb es) (z : ds.length + es.length ≤ 100000) : EvL K S σ H (tOp rCat ta tb) (ds ++ es) := fun H0 e0 Q k =>
  h H0 e0 _ fun p vs H1 e1 _ f1 d1 => g H1 (e0.trans e1) _ fun q ws H2 e2 _ f2 d2 => a_cat (e2 _ _ f1) f2 (by rw [dpa_len d1, dpa_len d2]; exact z) fun l H3 n e3 f3 =>
    k l _ H3 ((e1.trans e2).trans e3) ((al.ex ((e0.trans e1).trans e2)).nin n) f3 (dpa_app (dpa_ex (dl_ex (e2.trans e3)) d1) (dpa_ex (dl_ex e3) d2))
theorem dpa_rep {G : Hp} {vs : List V} (h : DpAll K G vs ds) : ∀ n : Nat, DpAll K G (List.replicate n vs).flatten (List.replicate n ds).flatten
  | 0 => .nil
  | n + 1 => by
    rw [List.replicate_succ, List.replicate_succ, List.flatten_cons, List.flatten_cons]
    exact dpa_app h (dpa_rep h n)
/-- [a] * n -/
theorem ev_rep {n : Nat} (al : Al S H) (h : EvL K S σ H ta [d]) (e : σ[i]? = some (some (.int n))) (z : n ≤ 1000) : EvL K S σ H (tOp rRep ta (tVar i)) (List.replicate n d) := fun H0 e0 Q k =>
  h H0 e0 _ fun p vs H1 e1 _ f1 d1 => ⟨.int n, e, p, n, vs, rfl, rfl, f1, by omega, by omega, by
    rw [dpa_len d1, Int.toNat_natCast]
    exact sz_of (by simp; omega), fun q nq => by
    rw [Int.toNat_natCast]
    have x := dpa_rep d1 n
    have y : (List.replicate n [d]).flatten = List.replicate n d := by
      rw [List.flatten_replicate_singleton]
    rw [y] at x
    exact k q _ _ (e1.trans (Ex.new nq)) ((al.ex (e0.trans e1)).nin nq) upd_same (dpa_ex (dl_ex (Ex.new nq)) x)⟩
/-- a value that needs no heap -/
theorem ev_b {b : Bool} (h : ∀ (H0 : Hp) (Q : VK), Q (.bl b) H0 → te σ H0 Q) : EvD K S σ H te (.bool b) := fun H0 _ Q k => h H0 Q (k _ H0 (Ex.refl _) (.bl b))
theorem ev_i {b : Int} (h : ∀ (H0 : Hp) (Q : VK), Q (.int b) H0 → te σ H0 Q) : EvD K S σ H te (.int b) := fun H0 _ Q k => h H0 Q (k _ H0 (Ex.refl _) (.int b))
/-- many < m -/
theorem ev_lt {a m : Int} (e : σ[i]? = some (some (.int a))) : EvD K S σ H (tOp (rI0 fun i j => .bl (decide (i < j))) (tVar i) (tC (.int m))) (.bool (decide (a < m))) := ev_b fun H0 Q q => ⟨.int a, e, a, m, rfl, rfl, q⟩
theorem ev_call {sp : Sp} {E : XK} (h : EvA K S σ H t ds) (al : Al S H) (c : ∀ (H0 : Hp) (vs : List V) (Q : VK), Al S H0 → DpAll K (dl S H0) vs ds → (∀ v H1, Ex H0 H1 → Dp K (dl S H1) v d → Q v H1) → sp vs H0 Q E) : EvD K S σ H (tCall sp [] E t) d := fun H0 e0 Q k =>
  w_callN (h H0 e0 _ fun vs H1 e1 dvs => c H1 vs Q (al.ex (e0.trans e1)) dvs fun v H2 e2 dv => k v H2 (e1.trans e2) dv)
theorem run_l (h : EvL K S σ H te ds) {Q : VK} (k : ∀ p vs H1, Ex H H1 → p ∉ S → H1 p = some (.lst vs) → DpAll K (dl S H1) vs ds → Q (.ref p) H1) : te σ H Q := h H (Ex.refl _) Q k
theorem run_d (h : EvD K S σ H te d) {Q : VK} (k : ∀ v H1, Ex H H1 → Dp K (dl S H1) v d → Q v H1) : te σ H Q := h H (Ex.refl _) Q k
theorem ex_one {H1 H2 : Hp} {l : Addr} (n : H1 l = none) (e : Ex H1 H2) : Ex H1 (dl [l] H2) := fun b o z => by
  rw [dl_nin (by simpa using ne_of_none z n)]
  exact e b o z
/-- out = out + X -/
theorem run_cat {po : Addr} {vs : List V} {Q : VK} (e : σ[i]? = some (some (.ref po))) (f : H po = some (.lst vs)) (D : DpAll K (dl [po] H) vs ds) (g : EvL K [po] σ H tb es) (z : ds.length + es.length ≤ 100000)
    (k : ∀ l ws H1, Ex H H1 → Ex (dl [po] H) (dl [l] H1) → H l = none → H1 l = some (.lst ws) → DpAll K (dl [l] H1) ws (ds ++ es) → Q (.ref l) H1) : tOp rCat (tVar i) tb σ H Q :=
  ⟨.ref po, e, g H (Ex.refl _) _ fun q ws H2 e2 _ f2 d2 => a_cat (e2 _ _ f) f2 (by rw [dpa_len D, dpa_len d2]; exact z) fun l H3 n e3 f3 => by
    have E := (dl_le [po] H2).trans (ex_one n e3)
    refine k l _ H3 (e2.trans e3) ((dl_ex e2).trans E) ?_ f3 (dpa_app (dpa_ex ((dl_ex e2).trans E) D) (dpa_ex E d2))
    cases y : H l with
    | none => rfl
    | some o => rw [e2 _ _ y] at n; cases n⟩
/-- the argument of out.append(..) -/
theorem run_app {po : Addr} {vs : List V} {Q : VK} (f : H po = some (.lst vs)) (D : DpAll K (dl [po] H) vs ds) (g : EvD K [po] σ H te d) (z : ds.length < 100000)
    (k : ∀ ws H1, Ks [po] H H1 → H1 po = some (.lst ws) → DpAll K (dl [po] H1) ws (ds ++ [d]) → Q .non H1) : tCons te tNil σ H fun xs Hb => rAppend (.ref po) xs Hb Q :=
  g H (Ex.refl _) _ fun v H1 e1 dv => a_app (e1 _ _ f) (by rw [dpa_len D]; exact z) (k (vs ++ [v]) _ ((Ks.of e1).upd (by simp)) upd_same (by
    rw [dl_upd (by simp)]
    exact dpa_snoc (dpa_ex (dl_ex e1) D) dv))
/-- an inner list of a heap, apart from out -/
def LsAt (K : PySem.W.Frag) (po : Addr) (H : Hp) (p : Addr) (ds : List PyData) : Prop := p ≠ po ∧ ∃ vs, H p = some (.lst vs) ∧ DpAll K (dl [po] H) vs ds
theorem LsAt.dp {po p : Addr} (h : LsAt K po H p ds) : Dp K (dl [po] H) (.ref p) (.list ds) := by
  obtain ⟨n, vs, f, D⟩ := h
  exact .lst (SqL.of (dl_at (by simpa using n) f)) D
/-- [f(k) for k in range(n)], the items by their data -/
theorem run_comp {po : Addr} {vo : List V} {Q : VK} {n : Nat} {f : Nat → PyData} (fo : H po = some (.lst vo)) (hn : n ≤ 1000) (hw : ∀ v, wipe ((wipe σ [i]).set i (some v)) [i] = wipe σ [i])
    (ev : ∀ l h k, k < n → Ex H h → Al [l, po] h → EvD K [l, po] ((wipe σ [i]).set i (some (.int (0 + (k : Int))))) h te (f k))
    (hd : ∀ l ws h, H l = none → Ex H h → h l = some (.lst ws) → LsAt K po h l ((List.range n).map f) → Q (.ref l) h) : CompG (Itr 0 n) (gName i) tYes te [i] σ H Q := by
  refine cp_range (fun l k h => Ex H h ∧ Al [l, po] h ∧ ∃ ws, h l = some (.lst ws) ∧ DpAll K (dl [l, po] h) ws ((List.range k).map f)) (fun l n => ?_) ?_ ?_
  · have e := Ex.new (o := .lst []) n
    exact ⟨e, (Al.nil.cons (e _ _ fo)).cons upd_same, [], upd_same, .nil⟩
  · rintro l k h nl hk ⟨e, al, ws, fl, D⟩
    have wl := dpa_len D
    rw [List.length_map, List.length_range] at wl
    refine ⟨hw _, ?_⟩
    refine ev l h k hk e al h (Ex.refl _) _ fun v H1 e1 dv => ⟨ws, e1 _ _ fl, sz_lt (by omega), (e.trans e1).mut nl, (al.ex e1).upd, ws ++ [v], upd_same, ?_⟩
    rw [dl_upd (by simp), List.range_succ, List.map_append]
    exact dpa_snoc (dpa_ex (dl_ex e1) D) dv
  · rintro l h nl ⟨e, al, ws, fl, D⟩
    exact hd l ws h nl e fl ⟨(fun z => by rw [z, fo] at nl; cases nl), ws, fl, dpa_ex (dl_sub fun a c => List.mem_cons_of_mem _ c) D⟩
/-- 'a' + 'z..'[k] -/
theorem ev_sx {a z : Str} {c : Nat} {k : Int} (e : σ[i]? = some (some (.int k))) (hz : z.length ≤ 1000) (ha : a.length ≤ 1000) (h : atI z.cps.toList k = some c) :
    EvD K S σ H (tOp (fun x y H Q => ∃ i j, x = V.str i ∧ y = V.str j ∧ i.length + j.length ≤ sizeLine ∧ Q (V.str (i ++ j)) H) (tC (.str a)) (tOp rIxS (tC (.str z)) (tVar i))) (.str (a ++ ⟨#[c]⟩)) := fun H0 e0 Q q =>
  ⟨.int k, e, z, k, c, rfl, rfl, sz_of (by omega), h, a, ⟨#[c]⟩, rfl, rfl, sz_of (by show a.length + 1 ≤ 100000; omega), q _ H0 (Ex.refl _) (.str _)⟩
theorem LsAt.up {po pq p : Addr} {H' : Hp} (h : LsAt K po H p ds) (e : Ex (dl [po] H) (dl [pq] H')) : LsAt K pq H' p ds := by
  obtain ⟨n, vs, f, D⟩ := h
  have g := e _ _ (dl_at (by simpa using n) f)
  by_cases z : p ∈ [pq]
  · rw [dl_in z] at g
    cases g
  · rw [dl_nin z] at g
    exact ⟨fun y => z (by rw [y]; simp), vs, g, dpa_ex e D⟩
/-! ### data that the box of draws is no part of -/
def bxL : List PyData → Bool
  | [_, .int _] => true
  | _ => false
mutual
def nbD : PyData → Bool
  | .list ds => !bxL ds && nbA ds
  | .tuple ds => nbA ds
  | _ => true
def nbA : List PyData → Bool
  | [] => true
  | d :: ds => nbD d && nbA ds
end
def snD (d : PyData) : Bool := smD d && nbD d
theorem sl_nb {H H' : Hp} {a b r : Addr} {xs : List V} (hb : Bx H b r) (k : Ks [b] H H') (f : SqL K H a xs) (D : DpAll K H xs ds) (nb : bxL ds = false) : SqL K H' a xs := by
  obtain ⟨n, ns, f1, _⟩ := hb
  rcases f with (f | ⟨o, f⟩) | f
  · by_cases z : a = b
    · subst z
      rw [f1] at f
      cases f
      match ds, D with
      | [_, _], .cons _ (.cons h2 .nil) =>
        cases h2
        cases nb
    · exact .inl (.inl (k _ _ (by simpa using z) f))
  · have z : a ≠ b := fun z => by
      rw [z, f1] at f
      cases f
    exact .inl (.inr ⟨o, k _ _ (by simpa using z) f⟩)
  · exact .inr f
theorem st_nb {H H' : Hp} {a b r : Addr} {xs : List V} (hb : Bx H b r) (k : Ks [b] H H') (f : SqT K H a xs) : SqT K H' a xs := by
  obtain ⟨n, ns, f1, _⟩ := hb
  rcases f with (f | ⟨o, f⟩) | f
  · have z : a ≠ b := fun z => by
      rw [z, f1] at f
      cases f
    exact .inl (.inl (k _ _ (by simpa using z) f))
  · have z : a ≠ b := fun z => by
      rw [z, f1] at f
      cases f
    exact .inl (.inr ⟨o, k _ _ (by simpa using z) f⟩)
  · exact .inr f
mutual
theorem dp_nb {H H' : Hp} {b r : Addr} (hb : Bx H b r) (k : Ks [b] H H') : ∀ {v : V} {d : PyData}, Dp K H v d → nbD d = true → Dp K H' v d
  | _, _, .non, _ => .non
  | _, _, .bl x, _ => .bl x
  | _, _, .int i, _ => .int i
  | _, _, .str x, _ => .str x
  | _, _, .lst h t, n => by
    have n' := (Bool.and_eq_true _ _ ▸ n : _ ∧ _)
    exact .lst (sl_nb hb k h t (by simpa using n'.1)) (dpa_nb hb k t n'.2)
  | _, _, .tup h t, n => .tup (st_nb hb k h) (dpa_nb hb k t n)
theorem dpa_nb {H H' : Hp} {b r : Addr} (hb : Bx H b r) (k : Ks [b] H H') : ∀ {xs : List V} {ds : List PyData}, DpAll K H xs ds → nbA ds = true → DpAll K H' xs ds
  | _, _, .nil, _ => .nil
  | _, _, .cons h t, n => by
    have n' := (Bool.and_eq_true _ _ ▸ n : _ ∧ _)
    exact .cons (dp_nb hb k h n'.1) (dpa_nb hb k t n'.2)
end
/-- one case of the law: functions, statements, what is due -/
def Case (d : PyData) : Prop := ∃ fs ss b, d = .list [.list (fs.map fdat), .list ss, .bool b] ∧ snD d = true ∧ progD fs ss = b
theorem case_of {fs : List FD} {ss : List PyData} {b : Bool} (s : snD (.list [.list (fs.map fdat), .list ss, .bool b]) = true) (p : progD fs ss = b) : Case (.list [.list (fs.map fdat), .list ss, .bool b]) := ⟨fs, ss, b, rfl, s, p⟩
end
theorem case_nb : ∀ {ds : List PyData}, (∀ d ∈ ds, Case d) → nbA ds = true
  | [], _ => rfl
  | d :: ds, h => by
    obtain ⟨fs, ss, b, _, s, _⟩ := h d (List.mem_cons_self ..)
    have s' := (Bool.and_eq_true _ _ ▸ s : smD d = true ∧ nbD d = true)
    show (nbD d && nbA ds) = true
    rw [s'.2, case_nb fun x hx => h x (List.mem_cons_of_mem _ hx)]
    rfl
/-- what _law_let makes -/
def letD (x T : PyData) : PyData := .tuple [.str "let", x, T, if (PyData.eqv T (.tuple [.str "rw"]) || PyData.eqv T (.int 0)) = true then .tuple [.str "number", .int 0] else .tuple [.str "null"]]
def pLet (K : PySem.W.Frag) : Sp := fun vs H Q _ => ∃ S x v T, vs = [.str x, v] ∧ Al S H ∧ Dp K (dl S H) v T ∧ SeqAt.shaped T = true ∧ ∀ u H1, Ex H H1 → Dp K (dl S H1) u (letD (.str x) T) → Q u H1
theorem ev_let {K : PySem.W.Frag} {S : List Addr} {σ : L2.St} {H : Hp} {t : TA} {x : Str} {T : PyData} {E : XK} (al : Al S H) (h : EvA K S σ H t [.str x, T]) (s : SeqAt.shaped T = true) : EvD K S σ H (tCall (pLet K) [] E t) (letD (.str x) T) := ev_call h al fun H0 vs Q al2 dvs k => by
  match vs, dvs with
  | [_, _], .cons h1 (.cons h2 .nil) =>
    cases dp_str h1
    exact ⟨S, x, _, T, rfl, al2, h2, s, k⟩
end Ver

set_option Elab.async false
set_option linter.all false
set_option maxRecDepth 100000
set_option maxHeartbeats 4000000
namespace Ver
open PySem PySem.Spec PyProof.Rows L2 Evl
/-! ## programs as trees of their own -/
inductive Src | num (n : Int) | null | val (x : Str) (k : Nat) | adr (x : Str) (k : Nat)
inductive Stm | lt (x : Str) (T : List R) (s : Src) | put (x : Str) (k : Nat) (s : Src) | call (f : Str) (ss : List Src)
def plD (x : Str) (k : Nat) : PyData := .tuple [.str x, .int (k : Int)]
def sD : Src → PyData
  | .num n => .tuple [.str "number", .int n]
  | .null => .tuple [.str "null"]
  | .val x k => .tuple [.str "value", plD x k]
  | .adr x k => .tuple [.str "address", plD x k]
def stD : Stm → PyData
  | .lt x T s => .tuple [.str "let", .str x, ru T, sD s]
  | .put x k s => .tuple [.str "put", plD x k, sD s]
  | .call f ss => .tuple [.str "call", .str f, .list (ss.map sD)]
structure TF where
  n : Str
  p : List (Str × List R)
  b : List Stm
def pD (q : Str × List R) : PyData := .tuple [.str q.1, ru q.2]
def TF.fd (f : TF) : FD := ⟨.str f.n, f.p.map pD, f.b.map stD⟩
def nmO (x : Str) : Prop := nameD (.str x) = true
def sO : Src → Prop
  | .num n => 0 ≤ n ∧ n ≤ 1000
  | .null => True
  | .val x k => nmO x ∧ k ≤ 5
  | .adr x k => nmO x ∧ k ≤ 5
def tyO (T : List R) : Prop := 1 ≤ T.length ∧ T.length ≤ 6
def stO : Stm → Prop
  | .lt x T s => nmO x ∧ tyO T ∧ sO s
  | .put x k s => nmO x ∧ k ≤ 5 ∧ sO s
  | .call f ss => nmO f ∧ ss.length ≤ 4 ∧ ∀ s ∈ ss, sO s
theorem and_t {a b : Bool} (h : a = true) (k : b = true) : (a && b) = true := by rw [h, k]; rfl
theorem nm_8 {x : Str} (h : nmO x) : x.length ≤ 8 := (name_str (d := .str x) h).2
theorem pl_ok {x : Str} {k : Nat} (h : nmO x) (hk : k ≤ 5) : placeD (plD x k) = true := by
  have e : numD (.int (k : Int)) 5 = true := and_t (decide_eq_true (Int.natCast_nonneg k)) (decide_eq_true (by omega))
  show (decide ("tuple" = "tuple") && decide (2 = 2) && (nameD (.str x) && numD (.int (k : Int)) 5)) = true
  rw [e, show nameD (.str x) = true from h]
  rfl
theorem src_ok {s : Src} (h : sO s) : srcD (sD s) = true := by
  cases s with
  | num n =>
    have e : fwD (sD (.num n)) = "number" := fw_str (by simp) rfl
    unfold srcD
    rw [e, if_neg (by decide), if_pos rfl]
    show (decide (2 = 2) && numD (.int n) 1000) = true
    have : numD (.int n) 1000 = true := and_t (decide_eq_true h.1) (decide_eq_true h.2)
    rw [this]
    rfl
  | null =>
    have e : fwD (sD .null) = "null" := fw_str (by simp) rfl
    unfold srcD
    rw [e, if_pos rfl]
    rfl
  | val x k =>
    have e : fwD (sD (.val x k)) = "value" := fw_str (by simp) rfl
    unfold srcD
    rw [e, if_neg (by decide), if_neg (by decide)]
    show (inV (.str "value") [.str "value", .str "address"] && (decide (2 = 2) && placeD (plD x k))) = true
    rw [pl_ok h.1 h.2]
    rfl
  | adr x k =>
    have e : fwD (sD (.adr x k)) = "address" := fw_str (by simp) rfl
    unfold srcD
    rw [e, if_neg (by decide), if_neg (by decide)]
    show (inV (.str "address") [.str "value", .str "address"] && (decide (2 = 2) && placeD (plD x k))) = true
    rw [pl_ok h.1 h.2]
    rfl
theorem ir_R (x : R) : irD (.str x.s) = true := by cases x <;> decide
theorem ru_all (T : List R) : (T.map fun x => PyData.str x.s).all irD = true := by
  rw [List.all_map, List.all_eq_true]
  exact fun x _ => ir_R x
theorem typ_ok {T : List R} (h : tyO T) : typD (ru T) = true := by
  show (vtD (T.map fun x => PyData.str x.s) && decide (0 < (T.map fun x => PyData.str x.s).length)) = true
  unfold vtD
  rw [List.length_map, ru_all, decide_eq_true h.2, decide_eq_true (show 0 < T.length from h.1)]
  rfl
theorem pd_ok {q : Str × List R} (h : nmO q.1) (t : tyO q.2) : declD (pD q) = true := by
  show (decide ("tuple" = "tuple") && decide (2 = 2) && (nameD (.str q.1) && (typD (ru q.2) || numD (ru q.2) 5))) = true
  rw [show nameD (.str q.1) = true from h, typ_ok t]
  rfl
theorem st_okD {s : Stm} (h : stO s) : stmtD (stD s) = true := by
  cases s with
  | lt x T s =>
    have e : fwD (stD (.lt x T s)) = "let" := fw_str (by simp) rfl
    unfold stmtD
    rw [e, if_pos rfl]
    show (decide (4 = 4) && (declD (pD (x, T)) && srcD (sD s))) = true
    rw [pd_ok h.1 h.2.1, src_ok h.2.2]
    rfl
  | put x k s =>
    have e : fwD (stD (.put x k s)) = "put" := fw_str (by simp) rfl
    unfold stmtD
    rw [e, if_neg (by decide), if_pos rfl]
    show (decide (3 = 3) && (placeD (plD x k) && srcD (sD s))) = true
    rw [pl_ok h.1 h.2.1, src_ok h.2.2]
    rfl
  | call f ss =>
    have e : fwD (stD (.call f ss)) = "call" := fw_str (by simp) rfl
    unfold stmtD
    rw [e, if_neg (by decide), if_neg (by decide)]
    show (decide ("call" = "call") && (decide (3 = 3) && (nameD (.str f) && (decide ("list" = "list") && (ss.map sD).all srcD)))) = true
    have a : (ss.map sD).all srcD = true := by
      rw [List.all_map, List.all_eq_true]
      exact fun s hs => src_ok (h.2.2 s hs)
    rw [show nameD (.str f) = true from h.1, a]
    rfl
def letP : Stm → Option (Str × List R)
  | .lt x T _ => some (x, T)
  | _ => none
def lets (b : List Stm) : List (Str × List R) := b.filterMap letP
theorem lets_app (a b : List Stm) : lets (a ++ b) = lets a ++ lets b := List.filterMap_append
theorem letsD_eq : ∀ b : List Stm, letsD (b.map stD) = (lets b).map pD
  | [] => rfl
  | s :: b => by
    have ih := letsD_eq b
    unfold letsD lets at ih ⊢
    cases s with
    | lt x T s =>
      have e : fwD (stD (.lt x T s)) = "let" := fw_str (by simp) rfl
      rw [List.map_cons, List.filter_cons_of_pos (by simpa using e), List.map_cons, ih]
      rfl
    | put x k s =>
      have e : fwD (stD (.put x k s)) = "put" := fw_str (by simp) rfl
      rw [List.map_cons, List.filter_cons_of_neg (by rw [e]; decide), ih]
      rfl
    | call f ss =>
      have e : fwD (stD (.call f ss)) = "call" := fw_str (by simp) rfl
      rw [List.map_cons, List.filter_cons_of_neg (by rw [e]; decide), ih]
      rfl
def declF (fs : List TF) : List (Str × List R) := fs.flatMap fun f => f.p ++ lets f.b
def decl (fs : List TF) (ss : List Stm) : List (Str × List R) := declF fs ++ lets ss
theorem declF_snoc (fs : List TF) (f : TF) : declF (fs ++ [f]) = declF fs ++ (f.p ++ lets f.b) := by
  unfold declF
  rw [List.flatMap_append]
  simp
theorem declsF_eq : ∀ fs : List TF, declsF (fs.map TF.fd) = (declF fs).map pD
  | [] => rfl
  | f :: fs => by
    have ih := declsF_eq fs
    unfold declsF declF at ih ⊢
    rw [List.map_cons, List.flatMap_cons, List.flatMap_cons, ih, List.map_append, List.map_append]
    show f.p.map pD ++ letsD (f.b.map stD) ++ _ = _
    rw [letsD_eq]
theorem declsD_eq (fs : List TF) (ss : List Stm) : declsD (fs.map TF.fd) (ss.map stD) = (decl fs ss).map pD := by
  unfold declsD decl
  rw [declsF_eq, letsD_eq, List.map_append]
theorem namesD_eq (fs : List TF) (ss : List Stm) : namesD (fs.map TF.fd) (ss.map stD) = fs.map TF.n ++ (decl fs ss).map Prod.fst := by
  unfold namesD
  rw [declsD_eq, List.map_map, List.map_map]
  rfl
theorem kindsD_eq (fs : List TF) (ss : List Stm) : kindsD (fs.map TF.fd) (ss.map stD) = (decl fs ss).map fun q => ru q.2 := by
  unfold kindsD
  rw [declsD_eq, List.map_map]
  rfl
/-- a call's function is there, and it has as many sources -/
def cf (fs : List TF) : Stm → Prop
  | .call f ss => ∃ g ∈ fs, g.n = f ∧ ss.length = g.p.length
  | _ => True
def Fit : List TF → List TF → List Stm → Prop
  | d, [], ss => ∀ s ∈ ss, cf d s
  | d, f :: r, ss => (∀ s ∈ f.b, cf d s) ∧ Fit (d ++ [f]) r ss
theorem fit1_ok {kvs : Kv} {d : List TF} {s : Stm} (h : ∀ g ∈ d, valV kvs (Sum.inr g.n) = some (.int (g.p.length : Nat))) (c : cf d s) : fit1 kvs (stD s) = true := by
  unfold fit1
  cases s with
  | lt x T s =>
    rw [show fwD (stD (.lt x T s)) = "let" from fw_str (by simp) rfl]
    rfl
  | put x k s =>
    rw [show fwD (stD (.put x k s)) = "put" from fw_str (by simp) rfl]
    rfl
  | call f ss =>
    obtain ⟨g, hg, rfl, e⟩ := c
    have e1 : decide ((valV kvs (Sum.inr (strD (nthD (stD (.call g.n ss)) 1)))).getD .non = .int ((itemsD (nthD (stD (.call g.n ss)) 2)).length : Nat)) = true := by
      apply decide_eq_true
      show (valV kvs (Sum.inr g.n)).getD .non = .int ((ss.map sD).length : Nat)
      rw [h g hg, List.length_map, e]
      rfl
    rw [e1, Bool.or_true]
theorem fit_ok : ∀ (r d : List TF) (ss : List Stm) (kvs : Kv), (∀ g ∈ d, valV kvs (Sum.inr g.n) = some (.int (g.p.length : Nat))) → ((d ++ r).map TF.n).Nodup → Fit d r ss → fitF kvs (r.map TF.fd) (ss.map stD) = true
  | [], d, ss, kvs, h, _, c => by
    show fitD kvs (ss.map stD) = true
    unfold fitD
    rw [List.all_map, List.all_eq_true]
    exact fun s hs => fit1_ok h (c s hs)
  | f :: r, d, ss, kvs, h, nd, c => by
    show (fitD kvs (f.b.map stD) && fitF (putN kvs f.fd) (r.map TF.fd) (ss.map stD)) = true
    refine and_t ?_ (fit_ok r (d ++ [f]) ss _ ?_ (by rw [List.append_assoc]; exact nd) c.2)
    · unfold fitD
      rw [List.all_map, List.all_eq_true]
      exact fun s hs => fit1_ok h (c.1 s hs)
    · intro g hg
      unfold putN
      rw [valV_put]
      show (if (Sum.inr g.n : Key) = Sum.inr f.n then some (V.int ((f.p.map pD).length : Nat)) else valV kvs (Sum.inr g.n)) = _
      rcases List.mem_append.mp hg with hg | hg
      · have ne : g.n ≠ f.n := fun z => by
          rw [List.map_append, List.map_cons] at nd
          have := (List.nodup_append.mp nd).2.2 g.n (List.mem_map_of_mem hg) f.n (List.mem_cons_self ..)
          exact this z
        rw [if_neg (fun z => ne (Sum.inr.inj z))]
        exact h g hg
      · rw [List.mem_singleton] at hg
        subst hg
        rw [if_pos rfl, List.length_map]
structure FOk (f : TF) : Prop where
  n : nmO f.n
  p4 : f.p.length ≤ 4
  po : ∀ q ∈ f.p, nmO q.1 ∧ tyO q.2
  b12 : f.b.length ≤ 12
  bo : ∀ s ∈ f.b, stO s
structure POk (fs : List TF) (ss : List Stm) : Prop where
  f4 : fs.length ≤ 4
  fo : ∀ f ∈ fs, FOk f
  s40 : ss.length ≤ 40
  so : ∀ s ∈ ss, stO s
  nd : (fs.map TF.n ++ (decl fs ss).map Prod.fst).Nodup
  ft : Fit [] fs ss
theorem lets_tyO {b : List Stm} (h : ∀ s ∈ b, stO s) : ∀ q ∈ lets b, nmO q.1 ∧ tyO q.2 := fun q hq => by
  obtain ⟨s, hs, e⟩ := List.mem_filterMap.mp hq
  cases s with
  | lt x T s =>
    cases Option.some.inj e
    exact ⟨(h _ hs).1, (h _ hs).2.1⟩
  | put x k s => cases e
  | call f ss => cases e
theorem fn_okD {f : TF} (h : FOk f) : fnD f.fd = true := by
  unfold fnD stsD
  refine and_t (and_t h.n (and_t (decide_eq_true ?_) ?_)) (and_t (decide_eq_true ?_) ?_)
  · show (f.p.map pD).length ≤ 4
    rw [List.length_map]
    exact h.p4
  · show (f.p.map pD).all declD = true
    rw [List.all_map, List.all_eq_true]
    exact fun q hq => pd_ok (h.po q hq).1 (h.po q hq).2
  · show (f.b.map stD).length ≤ 12
    rw [List.length_map]
    exact h.b12
  · show (f.b.map stD).all stmtD = true
    rw [List.all_map, List.all_eq_true]
    exact fun q hq => st_okD (h.bo q hq)
theorem decl_tyO {fs : List TF} {ss : List Stm} (h : POk fs ss) : ∀ q ∈ decl fs ss, nmO q.1 ∧ tyO q.2 := fun q hq => by
  rcases List.mem_append.mp hq with hq | hq
  · obtain ⟨f, hf, hq⟩ := List.mem_flatMap.mp hq
    rcases List.mem_append.mp hq with hq | hq
    · exact (h.fo f hf).po q hq
    · exact lets_tyO (h.fo f hf).bo q hq
  · exact lets_tyO h.so q hq
theorem prog_ok {fs : List TF} {ss : List Stm} (h : POk fs ss) : progD (fs.map TF.fd) (ss.map stD) = true := by
  unfold progD stsD
  refine and_t (and_t (and_t (decide_eq_true ?_) ?_) (and_t (decide_eq_true ?_) ?_)) (and_t (and_t ?_ ?_) ?_)
  · rw [List.length_map]
    exact h.f4
  · rw [List.all_map, List.all_eq_true]
    exact fun q hq => fn_okD (h.fo q hq)
  · rw [List.length_map]
    exact h.s40
  · rw [List.all_map, List.all_eq_true]
    exact fun q hq => st_okD (h.so q hq)
  · rw [namesD_eq]
    exact decide_eq_true h.nd
  · rw [kindsD_eq]
    unfold kindD
    rw [show ((decl fs ss).map fun q => ru q.2).all typD = true from by
      rw [List.all_map, List.all_eq_true]
      exact fun q hq => typ_ok (decl_tyO h q hq).2]
    rfl
  · refine fit_ok fs [] ss [] (fun g hg => by cases hg) ?_ h.ft
    rw [List.nil_append]
    exact (List.nodup_append.mp h.nd).1
/-! ## sizes -/
theorem sm_ru (T : List R) (h : T.length ≤ 6) : smD (ru T) = true := by
  refine sm_tup ?_ (by rw [List.length_map]; omega)
  clear h
  induction T with
  | nil => rfl
  | cons a T ih =>
    show (decide (a.s.length ≤ 100000) && smAll (T.map fun x => PyData.str x.s)) = true
    refine and_t ?_ ih
    cases a <;> decide
theorem sm_nm {x : Str} (h : nmO x) : smD (.str x) = true := decide_eq_true (Nat.le_trans (nm_8 h) (by decide))
theorem sm_pl {x : Str} {k : Nat} (h : nmO x) : smD (plD x k) = true := sm_tup (and_t (sm_nm h) rfl) (by simp)
theorem sm_sD {s : Src} (h : sO s) : smD (sD s) = true := by
  cases s with
  | num n => exact sm_tup (and_t (by decide) rfl) (by simp)
  | null => exact sm_tup (and_t (by decide) rfl) (by simp)
  | val x k => exact sm_tup (and_t (by decide) (and_t (sm_pl h.1) rfl)) (by simp)
  | adr x k => exact sm_tup (and_t (by decide) (and_t (sm_pl h.1) rfl)) (by simp)
theorem sm_map {α : Type} {f : α → PyData} : ∀ {xs : List α}, (∀ x ∈ xs, smD (f x) = true) → smAll (xs.map f) = true
  | [], _ => rfl
  | x :: xs, h => and_t (h x (List.mem_cons_self ..)) (sm_map fun y hy => h y (List.mem_cons_of_mem _ hy))
theorem sm_stD {s : Stm} (h : stO s) : smD (stD s) = true := by
  cases s with
  | lt x T s => exact sm_tup (and_t (by decide) (and_t (sm_nm h.1) (and_t (sm_ru T h.2.1.2) (and_t (sm_sD h.2.2) rfl)))) (by simp)
  | put x k s => exact sm_tup (and_t (by decide) (and_t (sm_pl h.1) (and_t (sm_sD h.2.2) rfl))) (by simp)
  | call f ss => exact sm_tup (and_t (by decide) (and_t (sm_nm h.1) (and_t (sm_lst (sm_map fun s hs => sm_sD (h.2.2 s hs)) (by rw [List.length_map]; have := h.2.1; omega)) rfl))) (by simp)
theorem sm_pD {q : Str × List R} (h : nmO q.1) (t : tyO q.2) : smD (pD q) = true := sm_tup (and_t (sm_nm h) (and_t (sm_ru _ t.2) rfl)) (by simp)
def tfD (f : TF) : PyData := .list [.str f.n, .list (f.p.map pD), .list (f.b.map stD)]
theorem sm_tf {f : TF} (h : FOk f) : smD (tfD f) = true :=
  sm_lst (and_t (sm_nm h.n) (and_t (sm_lst (sm_map fun q hq => sm_pD (h.po q hq).1 (h.po q hq).2) (by rw [List.length_map]; have := h.p4; omega)) (and_t (sm_lst (sm_map fun s hs => sm_stD (h.bo s hs)) (by rw [List.length_map]; have := h.b12; omega)) rfl))) (by simp)
/-! ## what is known -/
abbrev Env := Str → Option (List R)
def Env.put (e : Env) (x : Str) (T : List R) : Env := fun y => if y = x then some T else e y
def envS (e : Env) : Stm → Env
  | .lt x T _ => e.put x T
  | _ => e
def e0 : Env := fun _ => none
def envP (e : Env) (ps : List (Str × List R)) : Env := ps.foldl (fun e q => e.put q.1 q.2) e
/-- a dict of types -/
structure TyD (K : PySem.W.Frag) (S : List Addr) (H : Hp) (pt : Addr) (e : Env) : Prop where
  ex : ∃ kvs : Kv, H pt = some (.dK kvs) ∧ kvs.length ≤ 1000 ∧ ∀ x, (e x = none → valV kvs (Sum.inr x) = none) ∧ ∀ T, e x = some T → ∃ a, valV kvs (Sum.inr x) = some (.ref a) ∧ SqT K (dl S H) a (tv T)
end Ver

set_option Elab.async false
set_option linter.all false
set_option maxRecDepth 100000
set_option maxHeartbeats 4000000
namespace Ver
open PySem PySem.Spec PyProof.Rows L2 Evl
/-! ## dicts: their words -/
def GetI (x y : V) (H : Hp) (Q : VK) : Prop := ∃ a v, x = .ref a ∧ DGet H a y (some v) ∧ Q v H
def MemD (neg : Bool) (y x : V) (H : Hp) (Q : VK) : Prop := ∃ a o, x = .ref a ∧ DGet H a y o ∧ Q (.bl (if neg then !o.isSome else o.isSome)) H
section
variable {σ : L2.St} {H : Hp} {Q : VK} {td ty : TE} {a : Addr} {kvs : Kv} {x : Str} {v : V}
theorem w_dget (h : td σ H fun x Ha => ty σ Ha fun y Hb => GetI x y Hb Q) : tDGet td ty σ H Q := h
theorem w_din (h : ty σ H fun y Ha => td σ Ha fun x Hb => MemD false y x Hb Q) : tDIn ty td σ H Q := h
theorem w_dnin (h : ty σ H fun y Ha => td σ Ha fun x Hb => MemD true y x Hb Q) : tDNotIn ty td σ H Q := h
theorem a_dget (e : H a = some (.dK kvs)) (hv : valV kvs (Sum.inr x) = some v) (k : Q v H) : GetI (.ref a) (.str x) H Q := ⟨a, v, rfl, hv ▸ DGet.k (k := Sum.inr x) e, k⟩
theorem a_dmem {neg : Bool} (e : H a = some (.dK kvs)) (k : Q (.bl (if neg then !(valV kvs (Sum.inr x)).isSome else (valV kvs (Sum.inr x)).isSome)) H) : MemD neg (.str x) (.ref a) H Q := ⟨a, _, rfl, DGet.k (k := Sum.inr x) e, k⟩
end
/-- a dict of pairs in a list -/
def qDict (K : PySem.W.Frag) : List V → Hp → VK → Prop := fun xs H Q => ∃ (a : Addr) (ps : List Addr) (kvs : List (Key × V)), xs = [.ref a] ∧ SqL K H a (ps.map V.ref) ∧ Paired (fun p kv => SqT K H p [kV kv.1, kv.2]) ps kvs ∧ ∀ p, H p = none → Q (.ref p) (upd H p (.dK (mergeK [] kvs)))
theorem dctK (K : PySem.W.Frag) {X : Cx} (hc : X.calm = true := by rfl) (h : X.K = K := by rfl) : CallR X (.type "dict") (qDict K) := by subst h; exact call_dictP hc
/-- the first item of a list is taken out -/
theorem a_pop0 {H : Hp} {Q : VK} {l : Addr} {y : V} {xs : List V} (h : H l = some (.lst (y :: xs))) (k : Q y (upd H l (.lst xs))) : rPopAt (.ref l) [.int 0] H Q :=
  ⟨l, y :: xs, 0, 0, y, rfl, rfl, h, by decide, by decide, by
    have := (ixN_seq (ixN_nat (n := (y :: xs).length) (j := 0) (by simp))).1
    exact this, rfl, k⟩
def qMin : List V → Hp → VK → Prop := fun xs H Q => ∃ i j, xs = [.int i, .int j] ∧ Q (.int (if j < i then j else i)) H
theorem minK {X : Cx} (hc : X.calm = true := by rfl) : CallR X (.builtin "min") qMin := call_min2 hc
/-! ## walks by enumerate, zip; a dict comprehension -/
theorem w_iEn {K : PySem.W.Frag} {σ : L2.St} {H : Hp} {a : TA} {N : It → Hp → Prop} (h : a σ H fun vs Ha => ∃ a xs, vs = [.ref a] ∧ SqL K Ha a xs ∧ N (Ite K a) Ha) : iEnum K a σ H N := h
theorem w_iZp {K : PySem.W.Frag} {σ : L2.St} {H : Hp} {a : TA} {N : It → Hp → Prop} (h : a σ H fun vs Ha => ∃ a b xs ys, vs = [.ref a, .ref b] ∧ SqL K Ha a xs ∧ SqL K Ha b ys ∧ N (Itz K a b) Ha) : iZip K a σ H N := h
theorem enK (K : PySem.W.Frag) {X : Cx} {e : Expr} {ta : TA} {p pos tpos : Pos} {elts : List Expr} {kk : Nat} (hg : Gl X "enumerate") (hm : X.mg "enumerate" = none) (ha : PA X [e] ta) (hs : starEach [e] X.env = [(false, eval e X.env)] := by rfl) (h : X.K = K := by rfl) :
    PI X (.Tuple elts kk tpos) (.Call (.Name "enumerate" p) [e] [] pos) (iEnum K ta) := by subst h; exact pi_enum hg hm ha hs
theorem zpK (K : PySem.W.Frag) {X : Cx} {e e2 : Expr} {ta : TA} {p pos tpos : Pos} {elts : List Expr} {kk : Nat} (hg : Gl X "zip") (hm : X.mg "zip" = none) (ha : PA X [e, e2] ta)
    (hs : starEach [e, e2] X.env = (false, eval e X.env) :: starEach [e2] X.env := by rfl) (hpl : (backTo pos (starEach [e2] X.env)).any (·.1) = false := by rfl) (h : X.K = K := by rfl) :
    PI X (.Tuple elts kk tpos) (.Call (.Name "zip" p) [e, e2] [] pos) (iZip K ta) := by subst h; exact pi_zip hg hm ha hs hpl
section
variable {K : PySem.W.Frag} {σ : L2.St} {H : Hp} {g : TG} {ts : TS} {D : Ends} {Q : VK} {p q : Addr} {xs ys : List V}
theorem lp_enum (P : Nat → L2.St → Hp → Prop) (h0 : P 0 σ H) (hl : ∀ k s h, k ≤ xs.length → P k s h → SqL K h p xs)
    (hs : ∀ k x s h T, xs[k]? = some x → P k s h → h T = none → g (.ref T) s (upd h T (.tup [.int (k : Nat), x])) fun s2 h2 => ts { D with nx := P (k + 1), ct := P (k + 1), bk := D.nx } s2 h2)
    (hd : ∀ s h, P xs.length s h → D.nx s h) : LoopG (Ite K p) g ts D σ H :=
  for_it (walk_enum (xs := xs)) P h0 (fun i s h hi c => hl i s h hi c) (fun i x s h h' hi c y => by
    obtain ⟨T, u, v, rfl, n, rfl, e1, e2⟩ := y
    cases Option.some.inj e1
    exact hs i v s h T e2 c n) hd
theorem lp_zip (hn : xs.length = ys.length) (P : Nat → L2.St → Hp → Prop) (h0 : P 0 σ H) (hl : ∀ k s h, k ≤ xs.length → P k s h → SqL K h p xs ∧ SqL K h q ys)
    (hs : ∀ k x y s h T, xs[k]? = some x → ys[k]? = some y → P k s h → h T = none → g (.ref T) s (upd h T (.tup [x, y])) fun s2 h2 => ts { D with nx := P (k + 1), ct := P (k + 1), bk := D.nx } s2 h2)
    (hd : ∀ s h, P xs.length s h → D.nx s h) : LoopG (Itz K p q) g ts D σ H :=
  for_it (walk_zip (xs := xs) (ys := ys) (n := xs.length) (by rw [hn, Nat.min_self])) P h0 (fun i s h hi c => hl i s h hi c) (fun i x s h h' hi c y => by
    obtain ⟨T, u, v, rfl, n, rfl, e1, e2⟩ := y
    exact hs i u v s h T e1 e2 c n) hd
def DCompG (J : It) (g : TG) (t : TT) (tk tv : TE) (vs : List Nat) (σ : L2.St) (H : Hp) (Q : VK) : Prop := tDc (fun _ h R => R J h) g t tk tv vs σ H Q
theorem w_dc {wi : TI} {t : TT} {tk tv : TE} {vs : List Nat} (h : wi σ H fun J Ha => DCompG J g t tk tv vs σ Ha Q) : tDc wi g t tk tv vs σ H Q := h
theorem dc_L {t : TT} {tk tv : TE} {vs : List Nat} (hx : SqL K H p xs) (h : DCompG (Itl K p) g t tk tv vs σ H Q) : ∃ q, V.ref p = .ref q ∧ (∃ xs, SqL K H q xs) ∧ DCompG (Itl K q) g t tk tv vs σ H Q := ⟨p, rfl, ⟨xs, hx⟩, h⟩
theorem dcp_list {t : TT} {tk tv : TE} {vs : List Nat} (P : Addr → Nat → Hp → Prop) (h0 : ∀ D, H D = none → P D 0 (upd H D (.dK []))) (hl : ∀ D k h, H D = none → k ≤ xs.length → P D k h → SqL K h p xs)
    (hs : ∀ D k x h, H D = none → xs[k]? = some x → P D k h → g x (wipe σ vs) h fun s2 h2 => wipe s2 vs = wipe σ vs ∧ t s2 h2 fun b h3 =>
      if b = true then tk s2 h3 fun y h4 => tv s2 h4 fun z h5 => ∃ kvs k', y = kV k' ∧ h5 D = some (.dK kvs) ∧ kvs.length < sizeLine ∧ P D (k + 1) (upd h5 D (.dK (putK kvs k' z))) else P D (k + 1) h3)
    (hd : ∀ D h, H D = none → P D xs.length h → Q (.ref D) h) : DCompG (Itl K p) g t tk tv vs σ H Q := fun D hD => by
  refine ⟨fun i m h => m = xs.length - i ∧ i ≤ xs.length ∧ P D i h, ⟨xs.length, by simp, Nat.zero_le _, h0 D hD⟩, ?_⟩
  rintro i m h ⟨rfl, hi, c⟩
  have q := hl D i h hD hi c
  by_cases hlt : i < xs.length
  · refine .inr ⟨⟨xs, xs[i], q, by simp [hlt]⟩, P D (i + 1), fun H' p' => ⟨xs.length - (i + 1), by omega, rfl, hlt, p'⟩, fun x H' y => ?_⟩
    obtain ⟨e, y⟩ := y
    subst e
    exact hs D i x _ hD (y xs q) c
  · have e : i = xs.length := by omega
    subst e
    exact .inl ⟨⟨xs, q, Nat.le_refl _⟩, hd D h hD c⟩
end
/-! ## parts of tuples, any -/
theorem a_slFr {K : PySem.W.Frag} {H : Hp} {Q : VK} {a : Addr} {vs : List V} {n : Nat} (h : SqT K H a vs) (k : ∀ q H1, Ex H H1 → SqT K H1 q (vs.drop n) → (q = a ∧ H1 = H ∨ H q = none) → Q (.ref q) H1) : rSlA K (.ref a) (some (n : Int)) none H Q := by
  have e1 : HT.sIx vs.length 0 (some (n : Int)) = min n vs.length := HT.sIx_nat vs.length 0 n
  refine ⟨a, vs, rfl, h, fun z => ?_, fun _ p hp => ?_⟩
  · rw [e1] at z
    refine k a H (Ex.refl H) ?_ (.inl ⟨rfl, rfl⟩)
    have : n = 0 ∨ vs.length = 0 := by have := z.1; omega
    rcases this with rfl | e
    · exact h
    · rw [List.length_eq_zero_iff.mp e] at h ⊢
      rw [List.drop_nil]
      exact h
  · have e : cutV vs (some (n : Int)) none = vs.drop n := by
      unfold cutV
      rw [e1, HT.sIx_none]
      by_cases c : n ≤ vs.length
      · rw [Nat.min_eq_left c, List.take_of_length_le (by rw [List.length_drop]; exact Nat.le_refl _)]
      · have c' : vs.length ≤ n := by omega
        rw [Nat.min_eq_right c', Nat.sub_self, List.take_zero, List.drop_eq_nil_of_le c']
    rw [e]
    exact k p _ (Ex.new hp) (SqT.of upd_same) (.inr hp)
theorem a_slUp {K : PySem.W.Frag} {H : Hp} {Q : VK} {a : Addr} {vs : List V} {n : Nat} (h : SqT K H a vs) (k : ∀ q H1, Ex H H1 → SqT K H1 q (vs.take n) → (q = a ∧ H1 = H ∨ H q = none) → Q (.ref q) H1) : rSlA K (.ref a) none (some (n : Int)) H Q := by
  have e1 : HT.sIx vs.length vs.length (some (n : Int)) = min n vs.length := HT.sIx_nat vs.length vs.length n
  refine ⟨a, vs, rfl, h, fun z => ?_, fun _ p hp => ?_⟩
  · rw [e1] at z
    refine k a H (Ex.refl H) ?_ (.inl ⟨rfl, rfl⟩)
    rw [List.take_of_length_le (by have := z.2; omega)]
    exact h
  · have e : cutV vs none (some (n : Int)) = vs.take n := by
      unfold cutV
      rw [e1, HT.sIx_none]
      by_cases c : n ≤ vs.length
      · rw [Nat.min_eq_left c]
        simp
      · rw [Nat.min_eq_right (by omega)]
        simp
        rw [List.take_of_length_le (by omega)]
    rw [e]
    exact k p _ (Ex.new hp) (SqT.of upd_same) (.inr hp)
theorem tv_drop (T : List R) (n : Nat) : (tv T).drop n = tv (T.drop n) := (List.map_drop).symm
theorem tv_take (T : List R) (n : Nat) : (tv T).take n = tv (T.take n) := (List.map_take).symm
/-! ## dicts of types -/
theorem sqt_le {K : PySem.W.Frag} {G G' : Hp} (e : Ex G G') {a : Addr} {xs : List V} (h : SqT K G a xs) : SqT K G' a xs := ex_st h e
section
variable {K : PySem.W.Frag} {S : List Addr} {H H1 : Hp} {pt : Addr} {e : Env}
theorem TyD.ex' (h : TyD K S H pt e) (x1 : Ex H H1) : TyD K S H1 pt e := by
  obtain ⟨kvs, h1, h2, h3⟩ := h.ex
  exact ⟨kvs, x1 _ _ h1, h2, fun x => ⟨(h3 x).1, fun T t => by
    obtain ⟨a, g1, g2⟩ := (h3 x).2 T t
    exact ⟨a, g1, ex_st g2 (dl_ex x1)⟩⟩⟩
theorem TyD.ks {M : List Addr} (h : TyD K S H pt e) (k : Ks M H H1) (hm : ∀ a ∈ M, a ∈ S) (hp : pt ∉ M) : TyD K S H1 pt e := by
  obtain ⟨kvs, h1, h2, h3⟩ := h.ex
  exact ⟨kvs, k _ _ hp h1, h2, fun x => ⟨(h3 x).1, fun T t => by
    obtain ⟨a, g1, g2⟩ := (h3 x).2 T t
    exact ⟨a, g1, ex_st g2 (dl_ks (k.mono hm))⟩⟩⟩
theorem TyD.grow {p : Addr} (h : TyD K S H pt e) (n : H p = none) (x1 : Ex H H1) : TyD K (p :: S) H1 pt e := by
  obtain ⟨kvs, h1, h2, h3⟩ := h.ex
  exact ⟨kvs, x1 _ _ h1, h2, fun x => ⟨(h3 x).1, fun T t => by
    obtain ⟨a, g1, g2⟩ := (h3 x).2 T t
    exact ⟨a, g1, ex_st g2 (dl_new n x1)⟩⟩⟩
theorem TyD.sub {S' : List Addr} (h : TyD K S H pt e) (m : ∀ a ∈ S', a ∈ S) : TyD K S' H pt e := by
  obtain ⟨kvs, h1, h2, h3⟩ := h.ex
  exact ⟨kvs, h1, h2, fun x => ⟨(h3 x).1, fun T t => by
    obtain ⟨a, g1, g2⟩ := (h3 x).2 T t
    exact ⟨a, g1, ex_st g2 (dl_sub m)⟩⟩⟩
theorem TyD.get (h : TyD K S H pt e) {x : Str} {T : List R} (t : e x = some T) {Q : VK} (k : ∀ a, SqT K (dl S H) a (tv T) → Q (.ref a) H) : GetI (.ref pt) (.str x) H Q := by
  obtain ⟨kvs, h1, h2, h3⟩ := h.ex
  obtain ⟨a, g1, g2⟩ := (h3 x).2 T t
  exact a_dget h1 g1 (k a g2)
theorem TyD.mem (h : TyD K S H pt e) {x : Str} {neg : Bool} {Q : VK} (k : Q (.bl (if neg then !(e x).isSome else (e x).isSome)) H) : MemD neg (.str x) (.ref pt) H Q := by
  obtain ⟨kvs, h1, h2, h3⟩ := h.ex
  refine a_dmem h1 ?_
  have z : (valV kvs (Sum.inr x)).isSome = (e x).isSome := by
    cases q : e x with
    | none => rw [(h3 x).1 q]; rfl
    | some T =>
      obtain ⟨a, g1, _⟩ := (h3 x).2 T q
      rw [g1]
      rfl
  rw [z]
  exact k
theorem putK_le (kvs : Kv) (k : Key) (v : V) : (putK kvs k v).length ≤ kvs.length + 1 := by
  unfold putK
  split
  · rw [List.length_map]
    exact Nat.le_succ _
  · rw [List.length_append]
    exact Nat.le_refl _
def TyN (K : PySem.W.Frag) (S : List Addr) (H : Hp) (pt : Addr) (e : Env) (n : Nat) : Prop := ∃ kvs : Kv, H pt = some (.dK kvs) ∧ kvs.length ≤ n ∧ ∀ x, (e x = none → valV kvs (Sum.inr x) = none) ∧ ∀ T, e x = some T → ∃ a, valV kvs (Sum.inr x) = some (.ref a) ∧ SqT K (dl S H) a (tv T)
theorem TyN.d {n : Nat} (h : TyN K S H pt e n) (l : n ≤ 1000) : TyD K S H pt e := by
  obtain ⟨kvs, h1, h2, h3⟩ := h
  exact ⟨kvs, h1, Nat.le_trans h2 l, h3⟩
theorem TyN.ks {n : Nat} {M : List Addr} (h : TyN K S H pt e n) (k : Ks M H H1) (hm : ∀ a ∈ M, a ∈ S) (hp : pt ∉ M) : TyN K S H1 pt e n := by
  obtain ⟨kvs, h1, h2, h3⟩ := h
  exact ⟨kvs, k _ _ hp h1, h2, fun x => ⟨(h3 x).1, fun T t => by
    obtain ⟨a, g1, g2⟩ := (h3 x).2 T t
    exact ⟨a, g1, ex_st g2 (dl_ks (k.mono hm))⟩⟩⟩
theorem TyN.ex' {n : Nat} (h : TyN K S H pt e n) (x1 : Ex H H1) : TyN K S H1 pt e n := h.ks (M := []) (Ks.of x1) (fun _ z => by cases z) (by simp)
theorem TyN.grow {n : Nat} {p : Addr} (h : TyN K S H pt e n) (q : H p = none) (x1 : Ex H H1) : TyN K (p :: S) H1 pt e n := by
  obtain ⟨kvs, h1, h2, h3⟩ := h
  exact ⟨kvs, x1 _ _ h1, h2, fun x => ⟨(h3 x).1, fun T t => by
    obtain ⟨a, g1, g2⟩ := (h3 x).2 T t
    exact ⟨a, g1, ex_st g2 (dl_new q x1)⟩⟩⟩
theorem TyN.sub {n : Nat} {S' : List Addr} (h : TyN K S H pt e n) (m : ∀ a ∈ S', a ∈ S) : TyN K S' H pt e n := by
  obtain ⟨kvs, h1, h2, h3⟩ := h
  exact ⟨kvs, h1, h2, fun x => ⟨(h3 x).1, fun T t => by
    obtain ⟨a, g1, g2⟩ := (h3 x).2 T t
    exact ⟨a, g1, ex_st g2 (dl_sub m)⟩⟩⟩
/-- types[x] = T -/
theorem TyN.put {n : Nat} (h : TyN K S H pt e n) (hp : pt ∈ S) (hn : n < 1000) {x : Str} {T : List R} {a : Addr} (t : SqT K (dl S H) a (tv T)) {N : Hp → Prop} (k : ∀ H1, Ks [pt] H H1 → TyN K S H1 pt (e.put x T) (n + 1) → N H1) : PutD (.ref pt) (.str x) (.ref a) H N := by
  obtain ⟨kvs, h1, h2, h3⟩ := h
  refine a_putD h1 (by omega) (k _ ((Ks.refl _ _).upd (by simp)) ⟨_, upd_same, Nat.le_trans (putK_le _ _ _) (Nat.succ_le_succ h2), fun y => ?_⟩)
  rw [dl_upd hp, valV_put]
  unfold Env.put
  by_cases c : y = x
  · rw [if_pos c, if_pos (by rw [c])]
    refine ⟨fun z => (by cases z), fun U z => ?_⟩
    cases Option.some.inj z
    exact ⟨a, rfl, t⟩
  · rw [if_neg c, if_neg (fun z => c (Sum.inr.inj z))]
    exact h3 y
/-- {} as a dict of types -/
theorem TyN.new (h : H pt = some (.dK [])) : TyN K S H pt e0 0 := ⟨[], h, Nat.le_refl _, fun x => ⟨fun _ => rfl, fun T z => by cases z⟩⟩
end
/-! ## dict(params) -/
theorem dpa_rs {K : PySem.W.Frag} {H : Hp} : ∀ (T : List R) (zs : List V), DpAll K H zs (T.map fun x => .str x.s) → zs = tv T
  | [], _, h => by
    cases h
    rfl
  | x :: T, _, h => by
    cases h with
    | cons u v =>
      cases dp_str u
      rw [dpa_rs T _ v]
      rfl
theorem dp_ruT {K : PySem.W.Frag} {H : Hp} {v : V} {T : List R} (h : Dp K H v (ru T)) : ∃ a, v = .ref a ∧ SqT K H a (tv T) := by
  obtain ⟨a, zs, rfl, h1, h2⟩ := dp_tup h
  rw [dpa_rs T zs h2] at h1
  exact ⟨a, rfl, h1⟩
theorem dp_pD {K : PySem.W.Frag} {H : Hp} {v : V} {q : Str × List R} (h : Dp K H v (pD q)) : ∃ p a, v = .ref p ∧ SqT K H p [.str q.1, .ref a] ∧ SqT K H a (tv q.2) := by
  obtain ⟨p, ys, rfl, hT, hA⟩ := dp_tup h
  cases hA with
  | cons g1 t =>
    cases t with
    | cons g2 t =>
      cases t
      cases dp_str g1
      obtain ⟨a, rfl, hT2⟩ := dp_ruT g2
      exact ⟨p, a, rfl, hT, hT2⟩
def EnvK (K : PySem.W.Frag) (H : Hp) (kvs : Kv) (e : Env) : Prop := ∀ x, (e x = none → valV kvs (Sum.inr x) = none) ∧ ∀ T, e x = some T → ∃ a, valV kvs (Sum.inr x) = some (.ref a) ∧ SqT K H a (tv T)
theorem EnvK.put {K : PySem.W.Frag} {H : Hp} {kvs : Kv} {e : Env} (h : EnvK K H kvs e) {x : Str} {T : List R} {a : Addr} (t : SqT K H a (tv T)) : EnvK K H (putK kvs (Sum.inr x) (.ref a)) (e.put x T) := fun y => by
  rw [valV_put]
  unfold Env.put
  by_cases c : y = x
  · rw [if_pos c, if_pos (by rw [c])]
    refine ⟨fun z => (by cases z), fun U z => ?_⟩
    cases Option.some.inj z
    exact ⟨a, rfl, t⟩
  · rw [if_neg c, if_neg (fun z => c (Sum.inr.inj z))]
    exact h y
theorem merge_env {K : PySem.W.Frag} {H : Hp} (ps : List (Str × List R)) : ∀ (xs : List V) (kvs : Kv) (e : Env), DpAll K H xs (ps.map pD) → EnvK K H kvs e →
    ∃ (as : List Addr) (more : List (Key × V)), xs = as.map V.ref ∧ Paired (fun p kv => SqT K H p [kV kv.1, kv.2]) as more ∧ more.length = ps.length ∧ EnvK K H (mergeK kvs more) (envP e ps) := by
  induction ps with
  | nil =>
    intro xs kvs e d h
    cases d
    exact ⟨[], [], rfl, .nil, rfl, h⟩
  | cons q ps ih =>
    intro xs kvs e d h
    cases d with
    | cons d t =>
      obtain ⟨p, a, rfl, hT, hT2⟩ := dp_pD d
      obtain ⟨as, more, e1, e2, e3, e4⟩ := ih _ (putK kvs (Sum.inr q.1) (.ref a)) (e.put q.1 q.2) t (h.put hT2)
      exact ⟨p :: as, (Sum.inr q.1, .ref a) :: more, by rw [e1]; rfl, .cons hT e2, by rw [List.length_cons, List.length_cons, e3], e4⟩
theorem merge_len : ∀ (more kvs : Kv), (mergeK kvs more).length ≤ kvs.length + more.length
  | [], kvs => Nat.le_refl _
  | q :: more, kvs => by
    have h1 := merge_len more (putK kvs q.1 q.2)
    have h2 := putK_le kvs q.1 q.2
    show (mergeK (putK kvs q.1 q.2) more).length ≤ _
    rw [List.length_cons]
    omega
theorem a_dict {K : PySem.W.Frag} {H : Hp} {Q : VK} {p : Addr} {xs : List V} {ps : List (Str × List R)} (h : SqL K H p xs) (d : DpAll K H xs (ps.map pD)) (hz : ps.length ≤ 100) (k : ∀ m H1, H m = none → Ex H H1 → TyN K [m] H1 m (envP e0 ps) ps.length → Q (.ref m) H1) : qDict K [.ref p] H Q := by
  obtain ⟨as, more, e1, e2, e3, e4⟩ := merge_env ps xs [] e0 d (fun x => ⟨fun _ => rfl, fun T z => (by cases z)⟩)
  subst e1
  refine ⟨p, as, more, rfl, h, e2, fun m n => k m _ n (Ex.new n) ⟨_, upd_same, ?_, fun x => ⟨(e4 x).1, fun T t => ?_⟩⟩⟩
  · have := merge_len more []
    rw [e3] at this
    simpa using this
  · obtain ⟨a, g1, g2⟩ := (e4 x).2 T t
    have := ex_st g2 (dl_new (S := []) n (Ex.new n (o := .dK (mergeK [] more))) |> fun z => by rw [dl_nil] at z; exact z)
    exact ⟨a, g1, this⟩
end Ver

set_option Elab.async false
set_option linter.all false
set_option maxRecDepth 100000
set_option maxHeartbeats 4000000
namespace Ver
open PySem PySem.Spec PyProof.Rows L2 Evl
/-! ## judging, as the document has it -/
def xD (q : List R × List R) : PyData := .tuple [ru q.1, ru q.2]
def exB (ex : List (List R × List R)) (a b : List R) : Bool := (ex.map xD).any fun z => PyData.eqv z (xD (a, b))
def jPlace (e : Env) (x : Str) (k : Nat) : Option Str := match e x with
  | none => some "unknown name"
  | some T => if T.length ≤ k then some "too many stars" else if (T.take k).all R.hr then none else some "may not read"
def jSeen (e : Env) (x : Str) (k : Nat) : List R := ((e x).getD []).drop k
def jConv (ex : List (List R × List R)) (one two : List R) : Option Str := if one.length ≠ two.length then some "other depth" else if cv one two || exB ex one two then none else some "no conversion"
def hdR : List R → R
  | x :: _ => x
  | [] => .n
def jSrc (e : Env) (ex : List (List R × List R)) (goal : List R) : Src → Option Str
  | .num _ => if goal = [] then none else some "other depth"
  | .null => if goal = [] then some "other depth" else none
  | .adr x k => match jPlace e x k with
    | some f => some f
    | none => jConv ex (jSeen e x k) goal
  | .val x k => match jPlace e x k with
    | some f => some f
    | none => if (hdR (jSeen e x k)).hr then jConv ex ((jSeen e x k).drop 1) goal else some "may not read"
def jCall (e : Env) (ex : List (List R × List R)) : List (Str × List R) → List Src → Option Str
  | q :: ps, s :: ss => match jSrc e ex (q.2.drop 1) s with
    | some f => some f
    | none => jCall e ex ps ss
  | _, _ => none
def prm : List TF → Str → List (Str × List R)
  | [], _ => []
  | g :: gs, f => if g.n = f then g.p else prm gs f
def jStm (fs : List TF) (e : Env) (ex : List (List R × List R)) : Stm → Option Str
  | .lt _ T s => jSrc e ex (T.drop 1) s
  | .put x k s => match jPlace e x k with
    | some f => some f
    | none => if (hdR (jSeen e x k)).hw then jSrc e ex ((jSeen e x k).drop 1) s else some "may not write"
  | .call f ss => jCall e ex (prm fs f) ss
def jBlk (fs : List TF) (ex : List (List R × List R)) : Env → Nat → List Stm → List (Nat × Str)
  | _, _, [] => []
  | e, k, s :: ss => (match jStm fs e ex s with
    | some f => [(k, f)]
    | none => []) ++ jBlk fs ex (envS e s) (k + 1) ss
def jFn (fs : List TF) (ex : List (List R × List R)) (f : TF) : List (Str × Nat × Str) := (jBlk fs ex (envP e0 f.p) 0 f.b).map fun q => (f.n, q)
def jAll (fs : List TF) (ss : List Stm) (ex : List (List R × List R)) : List (Str × Nat × Str) := fs.flatMap (jFn fs ex) ++ (jBlk fs ex e0 0 ss).map fun q => (("" : Str), q)
def ofO : Option Str → V
  | none => .non
  | some f => .str f
def bfD (q : Nat × Str) : PyData := .tuple [.int (q.1 : Nat), .str q.2]
def faD (q : Str × Nat × Str) : PyData := .tuple [.str q.1, .int (q.2.1 : Nat), .str q.2.2]
/-- all that is known are types -/
def EO (e : Env) : Prop := ∀ x T, e x = some T → tyO T
theorem EO.nil : EO e0 := fun _ _ h => by cases h
theorem EO.put {e : Env} (h : EO e) (x : Str) {T : List R} (t : tyO T) : EO (e.put x T) := fun y U z => by
  unfold Env.put at z
  by_cases c : y = x
  · rw [if_pos c] at z
    cases Option.some.inj z
    exact t
  · rw [if_neg c] at z
    exact h y U z
theorem EO.ps : ∀ {ps : List (Str × List R)} {e : Env}, EO e → (∀ q ∈ ps, tyO q.2) → EO (envP e ps)
  | [], e, h, _ => h
  | q :: ps, e, h, t => EO.ps (ps := ps) (h.put q.1 (t q (List.mem_cons_self ..))) fun p hp => t p (List.mem_cons_of_mem _ hp)
theorem EO.st {e : Env} (h : EO e) {s : Stm} (o : stO s) : EO (envS e s) := by
  cases s with
  | lt x T s => exact h.put x o.2.1
  | put x k s => exact h
  | call f ss => exact h
theorem jPlace_none {e : Env} {x : Str} {k : Nat} (h : jPlace e x k = none) : ∃ T, e x = some T ∧ k < T.length ∧ jSeen e x k = T.drop k := by
  unfold jPlace at h
  cases q : e x with
  | none => rw [q] at h; cases h
  | some T =>
    rw [q] at h
    by_cases c : T.length ≤ k
    · simp only [if_pos c] at h
      cases h
    · exact ⟨T, rfl, by omega, by unfold jSeen; rw [q]; rfl⟩
theorem seen_cons {e : Env} {x : Str} {k : Nat} (h : jPlace e x k = none) : ∃ r W, jSeen e x k = r :: W ∧ ∃ T, e x = some T ∧ k < T.length ∧ jSeen e x k = T.drop k := by
  obtain ⟨T, h1, h2, h3⟩ := jPlace_none h
  cases q : T.drop k with
  | nil =>
    have := congrArg List.length q
    rw [List.length_drop] at this
    simp at this
    omega
  | cons r W => exact ⟨r, W, by rw [h3, q], T, h1, h2, h3⟩
theorem seen_len {e : Env} (he : EO e) (x : Str) (k : Nat) : (jSeen e x k).length ≤ 6 := by
  unfold jSeen
  rw [List.length_drop]
  cases q : e x with
  | none => simp
  | some T =>
    have := (he x T q).2
    show T.length - k ≤ 6
    omega
/-! ## extra conversions as data -/
structure XL (K : PySem.W.Frag) (H : Hp) (a : Addr) (ex : List (List R × List R)) : Prop where
  ex : ∃ xs, SqL K H a xs ∧ DpAll K H xs (ex.map xD)
theorem XL.up {K : PySem.W.Frag} {H H1 : Hp} {a : Addr} {ex : List (List R × List R)} (h : XL K H a ex) (e : Ex H H1) : XL K H1 a ex := by
  obtain ⟨xs, h1, h2⟩ := h.ex
  exact ⟨xs, ex_sl h1 e, dpa_ex e h2⟩
theorem shp_tup {ds : List PyData} (h : PyData.canLayAll0 ds = true) (d : PyData.depthAll ds ≤ 40) : SeqAt.shaped (.tuple ds) = true := by
  unfold SeqAt.shaped
  simp only [PyData.canLay0, PyData.depth, Bool.and_eq_true]
  exact ⟨h, decide_eq_true (by omega)⟩
theorem lay_ru (T : List R) : PyData.canLay0 (ru T) = true := by
  show PyData.canLay0 (.tuple (T.map fun x => .str x.s)) = true
  simp only [PyData.canLay0]
  exact lay_rs T
theorem dep_ru (T : List R) : PyData.depth (ru T) ≤ 2 := by
  show PyData.depth (.tuple (T.map fun x => .str x.s)) ≤ 2
  simp only [PyData.depth]
  have := depth_rs T
  omega
theorem lay_xD (q : List R × List R) : PyData.canLay0 (xD q) = true := by
  unfold xD
  simp only [PyData.canLay0, PyData.canLayAll0, Bool.and_eq_true]
  exact ⟨lay_ru _, lay_ru _, trivial⟩
theorem dep_xD (q : List R × List R) : PyData.depth (xD q) ≤ 3 := by
  unfold xD
  have h1 := dep_ru q.1
  have h2 := dep_ru q.2
  simp only [PyData.depth, PyData.depthAll]
  omega
theorem shp_xD (q : List R × List R) : SeqAt.shaped (xD q) = true := by
  have := dep_xD q
  unfold SeqAt.shaped
  rw [Bool.and_eq_true]
  exact ⟨lay_xD q, decide_eq_true (by omega)⟩
theorem shp_ex (ex : List (List R × List R)) : SeqAt.shaped (.list (ex.map xD)) = true := by
  have h : PyData.canLayAll0 (ex.map xD) = true ∧ PyData.depthAll (ex.map xD) ≤ 3 := by
    induction ex with
    | nil => simp [PyData.canLayAll0, PyData.depthAll]
    | cons q ex ih =>
      have := dep_xD q
      rw [List.map_cons]
      simp only [PyData.canLayAll0, PyData.depthAll, Bool.and_eq_true]
      exact ⟨⟨lay_xD q, ih.1⟩, by omega⟩
  unfold SeqAt.shaped
  simp only [PyData.canLay0, PyData.depth, Bool.and_eq_true]
  exact ⟨h.1, decide_eq_true (by omega)⟩
/-- (one, two) in extra -/
theorem a_inX {K : PySem.W.Frag} {H : Hp} {Q : VK} {t a x y : Addr} {one two : List R} {ex : List (List R × List R)} (ht : H t = some (.tup [.ref x, .ref y])) (hx : SqT K H x (tv one)) (hy : SqT K H y (tv two)) (h : XL K H a ex) (k : Q (.bl (exB ex one two)) H) : rInD K (.ref t) (.ref a) H Q := by
  obtain ⟨xs, h1, h2⟩ := h.ex
  exact ⟨xD (one, two), ex.map xD, .tup (SqT.of ht) (.cons (dp_ru hx) (.cons (dp_ru hy) .nil)), .lst h1 h2, shp_xD _, shp_ex ex, k⟩
theorem a_ninX {K : PySem.W.Frag} {H : Hp} {Q : VK} {t a x y : Addr} {one two : List R} {ex : List (List R × List R)} (ht : H t = some (.tup [.ref x, .ref y])) (hx : SqT K H x (tv one)) (hy : SqT K H y (tv two)) (h : XL K H a ex) (k : Q (.bl (!exB ex one two)) H) : rNotInD K (.ref t) (.ref a) H Q := by
  obtain ⟨xs, h1, h2⟩ := h.ex
  exact ⟨xD (one, two), ex.map xD, .tup (SqT.of ht) (.cons (dp_ru hx) (.cons (dp_ru hy) .nil)), .lst h1 h2, shp_xD _, shp_ex ex, k⟩
/-- a place, a source, a statement as objects -/
theorem dp_pl {K : PySem.W.Frag} {H : Hp} {v : V} {x : Str} {k : Nat} (h : Dp K H v (plD x k)) : ∃ p, v = .ref p ∧ SqT K H p [.str x, .int (k : Int)] := by
  obtain ⟨p, ys, rfl, hT, hA⟩ := dp_tup h
  cases hA with
  | cons g1 t =>
    cases t with
    | cons g2 t =>
      cases t
      cases dp_str g1
      cases dp_int g2
      exact ⟨p, rfl, hT⟩
theorem dp_two {K : PySem.W.Frag} {H : Hp} {v : V} {a b : PyData} (h : Dp K H v (.tuple [a, b])) : ∃ p u w, v = .ref p ∧ SqT K H p [u, w] ∧ Dp K H u a ∧ Dp K H w b := by
  obtain ⟨p, ys, rfl, hT, hA⟩ := dp_tup h
  cases hA with
  | cons g1 t =>
    cases t with
    | cons g2 t =>
      cases t
      exact ⟨p, _, _, rfl, hT, g1, g2⟩
theorem dp_thr {K : PySem.W.Frag} {H : Hp} {v : V} {a b c : PyData} (h : Dp K H v (.tuple [a, b, c])) : ∃ p u w z, v = .ref p ∧ SqT K H p [u, w, z] ∧ Dp K H u a ∧ Dp K H w b ∧ Dp K H z c := by
  obtain ⟨p, ys, rfl, hT, hA⟩ := dp_tup h
  cases hA with
  | cons g1 t =>
    cases t with
    | cons g2 t =>
      cases t with
      | cons g3 t =>
        cases t
        exact ⟨p, _, _, _, rfl, hT, g1, g2, g3⟩
theorem dp_fou {K : PySem.W.Frag} {H : Hp} {v : V} {a b c d : PyData} (h : Dp K H v (.tuple [a, b, c, d])) : ∃ p u w z y, v = .ref p ∧ SqT K H p [u, w, z, y] ∧ Dp K H u a ∧ Dp K H w b ∧ Dp K H z c ∧ Dp K H y d := by
  obtain ⟨p, ys, rfl, hT, hA⟩ := dp_tup h
  cases hA with
  | cons g1 t =>
    cases t with
    | cons g2 t =>
      cases t with
      | cons g3 t =>
        cases t with
        | cons g4 t =>
          cases t
          exact ⟨p, _, _, _, _, rfl, hT, g1, g2, g3, g4⟩
theorem dp_1 {K : PySem.W.Frag} {H : Hp} {v : V} {a : PyData} (h : Dp K H v (.tuple [a])) : ∃ p u, v = .ref p ∧ SqT K H p [u] ∧ Dp K H u a := by
  obtain ⟨p, ys, rfl, hT, hA⟩ := dp_tup h
  cases hA with
  | cons g1 t =>
    cases t
    exact ⟨p, _, rfl, hT, g1⟩
/-- is not None -/
theorem a_notO {H : Hp} {Q : VK} {o : Option Str} (k : Q (.bl o.isSome) H) : qNotN (ofO o) .non H Q := ⟨rfl, by cases o <;> exact k⟩
/-- the promises -/
def pPlF (K : PySem.W.Frag) : Sp := fun vs H Q _ => ∃ S pt v e x k, vs = [.ref pt, v] ∧ TyD K S H pt e ∧ EO e ∧ Dp K H v (plD x k) ∧ RV1 (ofO (jPlace e x k)) H Q
def pSeen (K : PySem.W.Frag) : Sp := fun vs H Q _ => ∃ S pt v e x k T, vs = [.ref pt, v] ∧ TyD K S H pt e ∧ Dp K H v (plD x k) ∧ e x = some T ∧ ∀ a H1, Ex H H1 → SqT K H1 a (tv (T.drop k)) → Q (.ref a) H1
def pCnv (K : PySem.W.Frag) : Sp := fun vs H Q _ => ∃ a b c one two ex, vs = [.ref a, .ref b, .ref c] ∧ SqT K H a (tv one) ∧ SqT K H b (tv two) ∧ one.length ≤ 6 ∧ XL K H c ex ∧ RV1 (ofO (jConv ex one two)) H Q
def pSrc (K : PySem.W.Frag) : Sp := fun vs H Q _ => ∃ S pt v g c e s goal ex, vs = [.ref pt, v, .ref g, .ref c] ∧ TyD K S H pt e ∧ EO e ∧ Dp K H v (sD s) ∧ SqT K H g (tv goal) ∧ XL K H c ex ∧ RV1 (ofO (jSrc e ex goal s)) H Q
theorem new_dl {H H1 : Hp} {m : Addr} (n : H m = none) (e : Ex H H1) : Ex H (dl [m] H1) := fun a o q => by
  have k : a ≠ m := ne_of_none q n
  rw [dl_nin (by simpa using k)]
  exact e a o q
/-- functions by their names -/
structure FnD (K : PySem.W.Frag) (C : Addr) (H : Hp) (pd : Addr) (fs : List TF) : Prop where
  ex : ∃ kvs : Kv, H pd = some (.dK kvs) ∧ ∀ g ∈ fs, ∃ a, valV kvs (Sum.inr g.n) = some (.ref a) ∧ FnAt K C H a g.fd
theorem FnD.up {K : PySem.W.Frag} {C : Addr} {H H1 : Hp} {pd : Addr} {fs : List TF} (h : FnD K C H pd fs) (e : Ex H H1) : FnD K C H1 pd fs := by
  obtain ⟨kvs, h1, h2⟩ := h.ex
  exact ⟨kvs, e _ _ h1, fun g hg => by
    obtain ⟨a, g1, g2⟩ := h2 g hg
    exact ⟨a, g1, g2.up e⟩⟩
theorem prm_eq : ∀ {fs : List TF} {g : TF}, (fs.map TF.n).Nodup → g ∈ fs → prm fs g.n = g.p
  | f :: fs, g, nd, hg => by
    rw [List.map_cons, List.nodup_cons] at nd
    unfold prm
    rcases List.mem_cons.mp hg with rfl | hg
    · rw [if_pos rfl]
    · rw [if_neg (fun z => nd.1 (by rw [z]; exact List.mem_map_of_mem hg))]
      exact prm_eq nd.2 hg
def pPut (K : PySem.W.Frag) : Sp := fun vs H Q _ => ∃ S pt v u c e x k s ex, vs = [.ref pt, v, u, .ref c] ∧ TyD K S H pt e ∧ EO e ∧ Dp K H v (plD x k) ∧ Dp K H u (sD s) ∧ XL K H c ex ∧ RV1 (ofO (jStm [] e ex (.put x k s))) H Q
def pCall (K : PySem.W.Frag) : Sp := fun vs H Q _ => ∃ S pt pp pq c e xs ys ps ss ex, vs = [.ref pt, .ref pp, .ref pq, .ref c] ∧ TyD K S H pt e ∧ EO e ∧ SqL K H pp xs ∧ DpAll K H xs (List.map pD ps) ∧ SqL K H pq ys ∧ DpAll K H ys (List.map sD ss) ∧ ps.length = ss.length ∧ XL K H c ex ∧ RV1 (ofO (jCall e ex ps ss)) H Q
def pStF (K : PySem.W.Frag) (C : Addr) : Sp := fun vs H Q _ => ∃ S pd pt v c e s fs ex, vs = [.ref pd, .ref pt, v, .ref c] ∧ FnD K C H pd fs ∧ (fs.map TF.n).Nodup ∧ cf fs s ∧ TyD K S H pt e ∧ EO e ∧ Dp K H v (stD s) ∧ XL K H c ex ∧ RV1 (ofO (jStm fs e ex s)) H Q
def pBlk (K : PySem.W.Frag) (C : Addr) : Sp := fun vs H Q _ => ∃ pd pp pq c xs ys ps b fs ex, vs = [.ref pd, .ref pp, .ref pq, .ref c] ∧ FnD K C H pd fs ∧ (fs.map TF.n).Nodup ∧ (∀ s ∈ b, cf fs s ∧ stO s) ∧ b.length ≤ 100 ∧ SqL K H pp xs ∧ DpAll K H xs (List.map pD ps) ∧ ps.length ≤ 100 ∧ (∀ q ∈ ps, tyO q.2) ∧ SqL K H pq ys ∧ DpAll K H ys (b.map stD) ∧ XL K H c ex ∧
  ∀ l vs H1, H l = none → Ex H H1 → H1 l = some (.lst vs) → DpAll K H1 vs ((jBlk fs ex (envP e0 ps) 0 b).map bfD) → Q (.ref l) H1
theorem jBlk_len (fs : List TF) (ex : List (List R × List R)) : ∀ (b : List Stm) (e : Env) (k : Nat), (jBlk fs ex e k b).length ≤ b.length
  | [], _, _ => Nat.le_refl _
  | s :: b, e, k => by
    have ih := jBlk_len fs ex b (envS e s) (k + 1)
    unfold jBlk
    rw [List.length_append, List.length_cons]
    cases jStm fs e ex s <;> simp <;> omega
/-- a program as an object -/
structure PgAt (K : PySem.W.Frag) (CP CF : Addr) (H : Hp) (z : Addr) (fs : List TF) (ss : List Stm) : Prop where
  ex : ∃ dz r1 r2 ws1 ws2, H z = some (.ins CP dz (pgF r1 r2)) ∧ H r1 = some (.lst ws1) ∧ FnAll K CF H ws1 (fs.map TF.fd) ∧ H r2 = some (.lst ws2) ∧ DpAll K H ws2 (ss.map stD)
theorem PgAt.up {K : PySem.W.Frag} {CP CF : Addr} {H H1 : Hp} {z : Addr} {fs : List TF} {ss : List Stm} (h : PgAt K CP CF H z fs ss) (e : Ex H H1) : PgAt K CP CF H1 z fs ss := by
  obtain ⟨dz, r1, r2, ws1, ws2, h1, h2, h3, h4, h5⟩ := h.ex
  exact ⟨dz, r1, r2, ws1, ws2, e _ _ h1, e _ _ h2, h3.up e, e _ _ h4, dpa_ex e h5⟩
def allCf (fs : List TF) (ss : List Stm) : Prop := (∀ f ∈ fs, ∀ s ∈ f.b, cf fs s) ∧ ∀ s ∈ ss, cf fs s
theorem cf_mono {d fs : List TF} {s : Stm} (h : cf d s) (m : ∀ g ∈ d, g ∈ fs) : cf fs s := by
  cases s with
  | lt x T s => trivial
  | put x k s => trivial
  | call f ss =>
    obtain ⟨g, h1, h2⟩ := h
    exact ⟨g, m g h1, h2⟩
theorem Fit.all : ∀ {r d : List TF} {ss : List Stm}, Fit d r ss → (∀ f ∈ r, ∀ s ∈ f.b, cf (d ++ r) s) ∧ ∀ s ∈ ss, cf (d ++ r) s
  | [], d, ss, h => ⟨fun f hf => (by cases hf), fun s hs => cf_mono (h s hs) fun g hg => List.mem_append_left _ hg⟩
  | f :: r, d, ss, h => by
    have ih := Fit.all h.2
    rw [List.append_assoc] at ih
    refine ⟨fun g hg s hs => ?_, ih.2⟩
    rcases List.mem_cons.mp hg with rfl | hg
    · exact cf_mono (h.1 s hs) fun g hg => List.mem_append_left _ hg
    · exact ih.1 g hg s hs
def pFa (K : PySem.W.Frag) (CP CF : Addr) : Sp := fun vs H Q _ => ∃ z c fs ss ex, vs = [.ref z, .ref c] ∧ PgAt K CP CF H z fs ss ∧ POk fs ss ∧ XL K H c ex ∧
  ∀ l vs H1, H l = none → Ex H H1 → H1 l = some (.lst vs) → DpAll K H1 vs ((jAll fs ss ex).map faD) → Q (.ref l) H1
def pLet1 (K : PySem.W.Frag) (CP CF : Addr) : Sp := fun vs H Q _ => ∃ z c fs ss ex, vs = [.ref z, .ref c] ∧ PgAt K CP CF H z fs ss ∧ POk fs ss ∧ XL K H c ex ∧ RV1 (.bl (decide ((jAll fs ss ex).length = 0))) H Q
def pByN (K : PySem.W.Frag) (C : Addr) : Sp := fun vs H Q _ => ∃ p xs fs, vs = [.ref p] ∧ SqL K H p xs ∧ FnAll K C H xs (List.map TF.fd fs) ∧ (fs.map TF.n).Nodup ∧ fs.length ≤ 100 ∧ ∀ m H1, H m = none → Ex H H1 → FnD K C H1 m fs → Q (.ref m) H1
mutual
def ntD : PyData → Bool
  | .list _ => false
  | .tuple ds => ntA ds
  | _ => true
def ntA : List PyData → Bool
  | [] => true
  | d :: ds => ntD d && ntA ds
end
/-- all that is no list is kept -/
def Kt (H H' : Hp) : Prop := ∀ a o, H a = some o → (∀ xs, o ≠ .lst xs) → H' a = some o
theorem Kt.ex {H H' : Hp} (e : Ex H H') : Kt H H' := fun a o h _ => e a o h
theorem Kt.trans {H H1 H2 : Hp} (a : Kt H H1) (b : Kt H1 H2) : Kt H H2 := fun x o h n => b x o (a x o h n) n
theorem Kt.mut {H : Hp} {p : Addr} {xs : List V} {o : HO} (f : H p = some (.lst xs)) : Kt H (upd H p o) := fun a u h n => by
  rw [upd_ne (fun z => by rw [z, f] at h; exact n xs (Option.some.inj h).symm)]
  exact h
theorem Kt.dl {H : Hp} {p : Addr} {xs : List V} (f : H p = some (.lst xs)) : Kt H (dl [p] H) := fun a u h n => by
  rw [dl_nin (by
    rw [List.mem_singleton]
    exact fun z => by rw [z, f] at h; exact n xs (Option.some.inj h).symm)]
  exact h
section
variable {K : PySem.W.Frag}
theorem st_kt {H H' : Hp} {a : Addr} {xs : List V} (k : Kt H H') (f : SqT K H a xs) : SqT K H' a xs := by
  rcases f with (f | ⟨o, f⟩) | f
  · exact .inl (.inl (k _ _ f (fun _ z => by cases z)))
  · exact .inl (.inr ⟨o, k _ _ f (fun _ z => by cases z)⟩)
  · exact .inr f
mutual
theorem dp_kt {H H' : Hp} (k : Kt H H') : ∀ {v : V} {d : PyData}, Dp K H v d → ntD d = true → Dp K H' v d
  | _, _, .non, _ => .non
  | _, _, .bl x, _ => .bl x
  | _, _, .int i, _ => .int i
  | _, _, .str x, _ => .str x
  | _, _, .lst h t, n => by cases n
  | _, _, .tup h t, n => .tup (st_kt k h) (dpa_kt k t n)
theorem dpa_kt {H H' : Hp} (k : Kt H H') : ∀ {xs : List V} {ds : List PyData}, DpAll K H xs ds → ntA ds = true → DpAll K H' xs ds
  | _, _, .nil, _ => .nil
  | _, _, .cons h t, n => by
    have n' := (Bool.and_eq_true _ _ ▸ n : _ ∧ _)
    exact .cons (dp_kt k h n'.1) (dpa_kt k t n'.2)
end
theorem nt_map {α : Type} {f : α → PyData} (h : ∀ x, ntD (f x) = true) : ∀ xs : List α, ntA (xs.map f) = true
  | [] => rfl
  | x :: xs => and_t (h x) (nt_map h xs)
theorem bf_dl {H : Hp} {l : Addr} {xs vs : List V} {qs : List (Nat × Str)} (f : H l = some (.lst xs)) (d : DpAll K H vs (qs.map bfD)) : DpAll K (dl [l] H) vs (qs.map bfD) :=
  dpa_kt (Kt.dl f) d (nt_map (fun _ => rfl) qs)
end
def o1 (k : Nat) : Option Str → List (Nat × Str)
  | some f => [(k, f)]
  | none => []
theorem jBlk_at' (fs : List TF) (ex : List (List R × List R)) (e : Env) (k : Nat) (s : Stm) (b : List Stm) : jBlk fs ex e k (s :: b) = o1 k (jStm fs e ex s) ++ jBlk fs ex (envS e s) (k + 1) b := by
  rw [jBlk]
  cases jStm fs e ex s <;> rfl
theorem TyN.mono {K : PySem.W.Frag} {S : List Addr} {H : Hp} {pt : Addr} {e : Env} {n n' : Nat} (h : TyN K S H pt e n) (l : n ≤ n') : TyN K S H pt e n' := by
  obtain ⟨kvs, h1, h2, h3⟩ := h
  exact ⟨kvs, h1, Nat.le_trans h2 l, h3⟩
theorem dp_l3 {K : PySem.W.Frag} {H : Hp} {v : V} {a b c : PyData} (h : Dp K H v (.list [a, b, c])) : ∃ p u w z, v = .ref p ∧ SqL K H p [u, w, z] ∧ Dp K H u a ∧ Dp K H w b ∧ Dp K H z c := by
  obtain ⟨p, ys, rfl, hT, hA⟩ := dp_lst h
  cases hA with
  | cons g1 t =>
    cases t with
    | cons g2 t =>
      cases t with
      | cons g3 t =>
        cases t
        exact ⟨p, _, _, _, rfl, hT, g1, g2, g3⟩
theorem dp_l2 {K : PySem.W.Frag} {H : Hp} {v : V} {a b : PyData} (h : Dp K H v (.list [a, b])) : ∃ p u w, v = .ref p ∧ SqL K H p [u, w] ∧ Dp K H u a ∧ Dp K H w b := by
  obtain ⟨p, ys, rfl, hT, hA⟩ := dp_lst h
  cases hA with
  | cons g1 t =>
    cases t with
    | cons g2 t =>
      cases t
      exact ⟨p, _, _, rfl, hT, g1, g2⟩
end Ver

set_option Elab.async false
set_option linter.all false
set_option maxRecDepth 100000
set_option maxHeartbeats 4000000
namespace Ver
open PySem PySem.Spec PyProof.Rows L2 Evl
/-! ### the text by its places -/
def topS (i : Nat) : Stmt := PySem.Challenge.pw_rightskept_k07_joins_and_meets.main.body.getD i (.Pass ⟨0, 0, 0, 0⟩)
abbrev s_RightsError_init : Stmt := inClass (topS 1) 0
abbrev n_RightsError_init : List Str := ["self", "reason"]
abbrev p_RightsError_init : List Str := ["self", "reason"]
theorem sc_RightsError_init : FnScope n_RightsError_init p_RightsError_init (defScope s_RightsError_init) := ⟨rfl, rfl, rfl, by decide +kernel, rfl, by decide +kernel, by decide +kernel⟩
abbrev s_within : Stmt := topS 4
abbrev n_within : List Str := ["one", "two", "letter"]
abbrev p_within : List Str := ["one", "two"]
theorem sc_within : FnScope n_within p_within (defScope s_within) := ⟨rfl, rfl, rfl, by decide +kernel, rfl, by decide +kernel, by decide +kernel⟩
abbrev s_behind : Stmt := topS 5
abbrev n_behind : List Str := ["one", "two", "letter"]
abbrev p_behind : List Str := ["one", "two", "letter"]
theorem sc_behind : FnScope n_behind p_behind (defScope s_behind) := ⟨rfl, rfl, rfl, by decide +kernel, rfl, by decide +kernel, by decide +kernel⟩
abbrev s_converts : Stmt := topS 6
abbrev n_converts : List Str := ["one", "two", "letter", "source", "goal"]
abbrev p_converts : List Str := ["one", "two"]
theorem sc_converts : FnScope n_converts p_converts (defScope s_converts) := ⟨rfl, rfl, rfl, by decide +kernel, rfl, by decide +kernel, by decide +kernel⟩
abbrev s_plain_forms : Stmt := topS 7
abbrev n_plain_forms : List Str := ["length", "rests", "longer", "right", "rest"]
abbrev p_plain_forms : List Str := ["length"]
theorem sc_plain_forms : FnScope n_plain_forms p_plain_forms (defScope s_plain_forms) := ⟨rfl, rfl, rfl, by decide +kernel, rfl, by decide +kernel, by decide +kernel⟩
abbrev s_is_least : Stmt := topS 8
abbrev n_is_least : List Str := ["form", "forms", "other"]
abbrev p_is_least : List Str := ["form", "forms"]
theorem sc_is_least : FnScope n_is_least p_is_least (defScope s_is_least) := ⟨rfl, rfl, rfl, by decide +kernel, rfl, by decide +kernel, by decide +kernel⟩
abbrev s_is_greatest : Stmt := topS 9
abbrev n_is_greatest : List Str := ["form", "forms", "other"]
abbrev p_is_greatest : List Str := ["form", "forms"]
theorem sc_is_greatest : FnScope n_is_greatest p_is_greatest (defScope s_is_greatest) := ⟨rfl, rfl, rfl, by decide +kernel, rfl, by decide +kernel, by decide +kernel⟩
abbrev s_joins : Stmt := topS 10
abbrev n_joins : List Str := ["one", "two", "above", "form"]
abbrev p_joins : List Str := ["one", "two"]
theorem sc_joins : FnScope n_joins p_joins (defScope s_joins) := ⟨rfl, rfl, rfl, by decide +kernel, rfl, by decide +kernel, by decide +kernel⟩
abbrev s_meets : Stmt := topS 11
abbrev n_meets : List Str := ["one", "two", "below", "form"]
abbrev p_meets : List Str := ["one", "two"]
theorem sc_meets : FnScope n_meets p_meets (defScope s_meets) := ⟨rfl, rfl, rfl, by decide +kernel, rfl, by decide +kernel, by decide +kernel⟩
abbrev s__law_cell : Stmt := topS 13
abbrev n__law_cell : List Str := ["script", "k"]
abbrev p__law_cell : List Str := ["script", "k"]
theorem sc__law_cell : FnScope n__law_cell p__law_cell (defScope s__law_cell) := ⟨rfl, rfl, rfl, by decide +kernel, rfl, by decide +kernel, by decide +kernel⟩
abbrev s__law_row : Stmt := topS 14
abbrev n__law_row : List Str := ["script", "first", "last", "row", "k", "cell", "turn"]
abbrev p__law_row : List Str := ["script", "first", "last"]
theorem sc__law_row : FnScope n__law_row p__law_row (defScope s__law_row) := ⟨rfl, rfl, rfl, by decide +kernel, rfl, by decide +kernel, by decide +kernel⟩
abbrev s__law_draw : Stmt := topS 15
abbrev n__law_draw : List Str := ["box", "many", "at"]
abbrev p__law_draw : List Str := ["box", "many"]
theorem sc__law_draw : FnScope n__law_draw p__law_draw (defScope s__law_draw) := ⟨rfl, rfl, rfl, by decide +kernel, rfl, by decide +kernel, by decide +kernel⟩
abbrev s__law_right : Stmt := topS 16
abbrev n__law_right : List Str := ["box"]
abbrev p__law_right : List Str := ["box"]
theorem sc__law_right : FnScope n__law_right p__law_right (defScope s__law_right) := ⟨rfl, rfl, rfl, by decide +kernel, rfl, by decide +kernel, by decide +kernel⟩
abbrev s__law_rights : Stmt := topS 17
abbrev n__law_rights : List Str := ["box", "many", "k"]
abbrev p__law_rights : List Str := ["box", "many"]
theorem sc__law_rights : FnScope n__law_rights p__law_rights (defScope s__law_rights) := ⟨rfl, rfl, rfl, by decide +kernel, rfl, by decide +kernel, by decide +kernel⟩
abbrev s__law_within : Stmt := topS 18
abbrev n__law_within : List Str := ["one", "two", "letter"]
abbrev p__law_within : List Str := ["one", "two"]
theorem sc__law_within : FnScope n__law_within p__law_within (defScope s__law_within) := ⟨rfl, rfl, rfl, by decide +kernel, rfl, by decide +kernel, by decide +kernel⟩
abbrev s__law_converts : Stmt := topS 19
abbrev n__law_converts : List Str := ["one", "two"]
abbrev p__law_converts : List Str := ["one", "two"]
theorem sc__law_converts : FnScope n__law_converts p__law_converts (defScope s__law_converts) := ⟨rfl, rfl, rfl, by decide +kernel, rfl, by decide +kernel, by decide +kernel⟩
abbrev s__law_plain : Stmt := topS 20
abbrev n__law_plain : List Str := ["one", "out", "right"]
abbrev p__law_plain : List Str := ["one"]
theorem sc__law_plain : FnScope n__law_plain p__law_plain (defScope s__law_plain) := ⟨rfl, rfl, rfl, by decide +kernel, rfl, by decide +kernel, by decide +kernel⟩
abbrev s__law_every : Stmt := topS 21
abbrev n__law_every : List Str := ["many", "rows", "turn", "longer", "row", "right"]
abbrev p__law_every : List Str := ["many"]
theorem sc__law_every : FnScope n__law_every p__law_every (defScope s__law_every) := ⟨rfl, rfl, rfl, by decide +kernel, rfl, by decide +kernel, by decide +kernel⟩
abbrev s__law_told : Stmt := topS 22
abbrev n__law_told : List Str := ["kind", "one", "two", "e"]
abbrev p__law_told : List Str := ["kind", "one", "two"]
theorem sc__law_told : FnScope n__law_told p__law_told (defScope s__law_told) := ⟨rfl, rfl, rfl, by decide +kernel, rfl, by decide +kernel, by decide +kernel⟩
abbrev s__law_least : Stmt := topS 23
abbrev n__law_least : List Str := ["rows", "out", "one", "two"]
abbrev p__law_least : List Str := ["rows"]
theorem sc__law_least : FnScope n__law_least p__law_least (defScope s__law_least) := ⟨rfl, rfl, rfl, by decide +kernel, rfl, by decide +kernel, by decide +kernel⟩
abbrev s__law_greatest : Stmt := topS 24
abbrev n__law_greatest : List Str := ["rows", "out", "one", "two"]
abbrev p__law_greatest : List Str := ["rows"]
theorem sc__law_greatest : FnScope n__law_greatest p__law_greatest (defScope s__law_greatest) := ⟨rfl, rfl, rfl, by decide +kernel, rfl, by decide +kernel, by decide +kernel⟩
abbrev s_law : Stmt := topS 25
abbrev n_law : List Str := ["script", "box", "turn", "many", "one", "two", "over", "under", "kind", "row"]
abbrev p_law : List Str := ["script"]
theorem sc_law : FnScope n_law p_law (defScope s_law) := ⟨rfl, rfl, rfl, by decide +kernel, rfl, by decide +kernel, by decide +kernel⟩
/-- where each def stands, what names mean -/
structure Df (K : PySem.W.Frag) (mg : Str → Option Value) (x : Str) (st : Stmt) (ps : List Str) (a : Addr) (fd : FuncData) : Prop where
  F : Fun K x x st a fd
  b : Binds K fd ps []
  m : mg x = some (.ref a)
structure Dm (K : PySem.W.Frag) (x q : Str) (st : Stmt) (ps : List Str) (a : Addr) (fd : FuncData) : Prop where
  F : Fun K x q st a fd
  b : Binds K fd ps []
structure Ist (K : PySem.W.Frag) (C : Addr) : Prop where
  ha : PySem.W.findIn K (.ref C) "__class__" = some (some (.builtin "object.__class__"))
  hn : PySem.W.specialIn K (.builtin "object.__class__") "__get__" = some (some (.builtin "getset_descriptor.__get__"))
  ht : PySem.W.takesIn K (.builtin "object.__class__") = some true
  hm : PySem.W.mroIn K C (.type "object") = some true
structure Tx (K : PySem.W.Frag) (mg : Str → Option Value) where
  a_RightsError_init : Addr
  e_RightsError_init : FuncData
  d_RightsError_init : Dm K "__init__" "RightsError.__init__" s_RightsError_init p_RightsError_init a_RightsError_init e_RightsError_init
  a_within : Addr
  e_within : FuncData
  d_within : Df K mg "within" s_within p_within a_within e_within
  a_behind : Addr
  e_behind : FuncData
  d_behind : Df K mg "behind" s_behind p_behind a_behind e_behind
  a_converts : Addr
  e_converts : FuncData
  d_converts : Df K mg "converts" s_converts p_converts a_converts e_converts
  a_plain_forms : Addr
  e_plain_forms : FuncData
  d_plain_forms : Df K mg "plain_forms" s_plain_forms p_plain_forms a_plain_forms e_plain_forms
  a_is_least : Addr
  e_is_least : FuncData
  d_is_least : Df K mg "is_least" s_is_least p_is_least a_is_least e_is_least
  a_is_greatest : Addr
  e_is_greatest : FuncData
  d_is_greatest : Df K mg "is_greatest" s_is_greatest p_is_greatest a_is_greatest e_is_greatest
  a_joins : Addr
  e_joins : FuncData
  d_joins : Df K mg "joins" s_joins p_joins a_joins e_joins
  a_meets : Addr
  e_meets : FuncData
  d_meets : Df K mg "meets" s_meets p_meets a_meets e_meets
  a__law_cell : Addr
  e__law_cell : FuncData
  d__law_cell : Df K mg "_law_cell" s__law_cell p__law_cell a__law_cell e__law_cell
  a__law_row : Addr
  e__law_row : FuncData
  d__law_row : Df K mg "_law_row" s__law_row p__law_row a__law_row e__law_row
  a__law_draw : Addr
  e__law_draw : FuncData
  d__law_draw : Df K mg "_law_draw" s__law_draw p__law_draw a__law_draw e__law_draw
  a__law_right : Addr
  e__law_right : FuncData
  d__law_right : Df K mg "_law_right" s__law_right p__law_right a__law_right e__law_right
  a__law_rights : Addr
  e__law_rights : FuncData
  d__law_rights : Df K mg "_law_rights" s__law_rights p__law_rights a__law_rights e__law_rights
  a__law_within : Addr
  e__law_within : FuncData
  d__law_within : Df K mg "_law_within" s__law_within p__law_within a__law_within e__law_within
  a__law_converts : Addr
  e__law_converts : FuncData
  d__law_converts : Df K mg "_law_converts" s__law_converts p__law_converts a__law_converts e__law_converts
  a__law_plain : Addr
  e__law_plain : FuncData
  d__law_plain : Df K mg "_law_plain" s__law_plain p__law_plain a__law_plain e__law_plain
  a__law_every : Addr
  e__law_every : FuncData
  d__law_every : Df K mg "_law_every" s__law_every p__law_every a__law_every e__law_every
  a__law_told : Addr
  e__law_told : FuncData
  d__law_told : Df K mg "_law_told" s__law_told p__law_told a__law_told e__law_told
  a__law_least : Addr
  e__law_least : FuncData
  d__law_least : Df K mg "_law_least" s__law_least p__law_least a__law_least e__law_least
  a__law_greatest : Addr
  e__law_greatest : FuncData
  d__law_greatest : Df K mg "_law_greatest" s__law_greatest p__law_greatest a__law_greatest e__law_greatest
  C_RightsError : Addr
  g_RightsError : mg "RightsError" = some (.ref C_RightsError)
  n_RightsError_reason : PySem.W.findIn K (.ref C_RightsError) "reason" = some none
  o_RightsError : OexC K C_RightsError
  x_RightsError : XfC K C_RightsError
  i_RightsError : PySem.W.findIn K (.ref C_RightsError) "__init__" = some (some (.ref a_RightsError_init))
  t_RightsError : PySem.W.typeIn K (.ref a_RightsError_init) = some (.type "function")
  s_RightsError : PySem.W.exmOne K (.ref C_RightsError) (.ref C_RightsError) = some true
  vV : PySem.W.findCls K (.type "ValueError") (.type "type") "__init__" = some (.val (.builtin "ValueError.__init__"))
  a_LETTERS : Addr
  m_LETTERS : mg "LETTERS" = some (.ref a_LETTERS)
  t_LETTERS : ∀ H, SqT K H a_LETTERS [.str "r", .str "w"]
  b_ValueError : mg "ValueError" = none
  b_len : mg "len" = none
  b_range : mg "range" = none
  b_abs : mg "abs" = none
  b_int : mg "int" = none
  b_tuple : mg "tuple" = none
  b_sorted : mg "sorted" = none
local macro_rules | `(tactic| walk_at "s") => `(tactic| with_reducible first
  | refine w_seq ?_ | refine w_asg ?_ | refine w_name ?_ | refine w_if ?_ | refine w_ret ?_ | refine w_drop ?_ | refine w_next ?_ | refine w_brk ?_ | refine w_cont ?_
  | (refine w_var (v := ?vv) ?hh ?_; (case hh => with_unfolding_all exact rfl))
  | refine w_c ?_ | refine w_op ?_ | refine w_un ?_ | refine w_I0 ?_ | refine w_neg ?_ | refine w_eqI ?_ | refine w_neI ?_ | refine w_eqS ?_ | refine w_neS ?_ | refine w_eqB ?_ | refine w_neB ?_
  | refine w_test ?_ | refine w_B ?_ | refine w_and ?_ | refine w_or ?_ | refine w_not ?_ | refine w_andV ?_ | refine w_orV ?_ | refine w_notV ?_ | refine w_ifE ?_ | refine w_yes ?_
  | refine w_nil ?_ | refine w_cons ?_ | refine w_CB ?_ | refine w_callN ?_ | refine w_BM ?_ | refine w_BMT ?_ | refine w_BM0 ?_ | refine w_noPart ?_ | refine w_part ?_ | refine w_sl ?_ | refine w_tup ?_ | refine w_lst ?_
  | refine w_subG ?_ | refine w_gcons ?_ | refine w_gnil ?_ | refine w_for ?_ | refine w_lc ?_ | refine w_iR1 ?_ | refine w_iR2 ?_ | refine w_iL ?_ | refine w_iT ?_ | refine w_iS ?_
  | (show ∃ k, V.bl _ = V.bl k ∧ _; refine ⟨_, rfl, ?_⟩) | (show ∃ k, V.int _ = V.int k ∧ _; refine ⟨_, rfl, ?_⟩)
  | refine iteT ?_ | refine iteF ?_ | refine iteNT ?_ | refine iteNF ?_ | refine r_S ?_ | refine c_S ?_ | refine a_abs ?_ | refine a_intI ?_ | refine a_intB ?_ | refine w_par ?_ | refine w_dK ?_ | refine w_chain ?_ | (show ∃ v w, [_, _] = [v, w] ∧ _; refine ⟨_, _, rfl, ?_⟩)
  | refine w_getF ?_ | refine w_setF ?_ | refine w_newI ?_ | refine w_callS ?_ | refine w_getD1 ?_ | refine w_putD ?_ | refine w_veI ?_ | refine w_ostI ?_ | refine w_mkO ?_ | refine w_newS ?_ | refine w_xf ?_ | refine w_dget ?_ | refine w_din ?_ | refine w_dnin ?_ | refine w_iEn ?_ | refine w_iZp ?_ | refine w_dc ?_
  | refine a_isNn ?_ | refine a_isNr ?_ | refine a_notNn ?_ | refine a_notNr ?_ | refine a_isTy ?_ | refine a_notTy ?_ | refine a_isBl ?_ | refine a_notBl ?_)
local macro_rules | `(tactic| walk_at "r") => `(tactic| repeat walk_at "s")
local macro_rules | `(tactic| walk_at "tr") => `(tactic| first
  | assumption
  | (refine ex_at (H := ?H0) ?h1 ?h2; (case h2 => assumption); (case h1 => walk_at "tr"))
  | (refine ks_at (H := ?H0) (S := ?S0) ?h1 ?h2 ?h3; (case h2 => assumption); (case h3 => walk_at "nin"); (case h1 => walk_at "tr")))
local macro_rules | `(tactic| walk_at "nin") => `(tactic| first
  | exact nin_nil | (refine nin_cons ?h1 ?h2; (case h1 => walk_at "ne"); (case h2 => walk_at "nin")))
local macro_rules | `(tactic| walk_at "ne") => `(tactic| first
  | assumption | exact Ne.symm (by assumption)
  | (refine bx_nb (H := ?H0) (r := ?r0) ?h1 ?h2; (case h2 => assumption); (case h1 => walk_at "bx"))
  | (refine bx_nr (H := ?H0) (b := ?b0) ?h1 ?h2; (case h2 => assumption); (case h1 => walk_at "bx"))
  | (refine Ne.symm (bx_nb (H := ?H0) (r := ?r0) ?h1 ?h2); (case h2 => assumption); (case h1 => walk_at "bx"))
  | (refine ne_old (H := ?H0) (o := ?o0) ?h1 ?h2; (case h2 => assumption); (case h1 => walk_at "tr"))
  | (refine Ne.symm (ne_old (H := ?H0) (o := ?o0) ?h1 ?h2); (case h2 => assumption); (case h1 => walk_at "tr"))
  | exact (Tu.ne (by assumption) (by assumption)).1 | exact (Tu.ne (by assumption) (by assumption)).2
  | (refine bx_rb (H := ?H0) ?h1; (case h1 => walk_at "bx")))
local macro_rules | `(tactic| walk_at "tu") => `(tactic| first
  | assumption
  | (refine Tu.ex (H := ?H0) ?h1 ?h2; (case h2 => assumption); (case h1 => walk_at "tu"))
  | (refine Tu.ks (H := ?H0) (S := ?S0) ?h1 ?h2 ?h3; (case h2 => assumption); (case h3 => walk_at "nin"); (case h1 => walk_at "tu")))
local macro_rules | `(tactic| walk_at "bx") => `(tactic| first
  | assumption
  | (refine bx_ex (H := ?H0) ?h1 ?h2; (case h2 => assumption); (case h1 => walk_at "bx"))
  | (refine bx_ks (H := ?H0) (S := ?S0) ?h1 ?h2 ?h3 ?h4; (case h2 => assumption); (case h3 => walk_at "nin"); (case h4 => walk_at "nin"); (case h1 => walk_at "bx")))
local macro_rules | `(tactic| walk_at "sl") => `(tactic| first
  | assumption | (refine SqL.of ?h1; (case h1 => walk_at "tr"))
  | (refine ex_sl (H := ?H0) ?h1 ?h2; (case h2 => assumption); (case h1 => walk_at "sl"))
  | (refine ks_sl (H := ?H0) (S := ?S0) ?h1 ?h2 ?h3; (case h2 => assumption); (case h3 => walk_at "nin"); (case h1 => walk_at "sl")))
local macro_rules | `(tactic| walk_at "st") => `(tactic| first
  | assumption | (refine Tu.st ?h1; (case h1 => walk_at "tu")) | (refine SqT.of ?h1; (case h1 => walk_at "tr"))
  | (refine ex_st (H := ?H0) ?h1 ?h2; (case h2 => assumption); (case h1 => walk_at "st"))
  | (refine ks_st (H := ?H0) (S := ?S0) ?h1 ?h2 ?h3; (case h2 => assumption); (case h3 => walk_at "nin"); (case h1 => walk_at "st")))
local macro_rules | `(tactic| walk_at "ex") => `(tactic| first
  | exact Ex.refl _ | assumption | (refine Ex.trans (H1 := ?H0) ?h1 ?h2; (case h2 => assumption); (case h1 => walk_at "ex")))
local macro_rules | `(tactic| walk_at "ks") => `(tactic| first
  | exact Ks.refl _ _ | assumption | (refine Ks.of ?h1; (case h1 => assumption)) | (refine Ks.trans (H1 := ?H0) ?h1 ?h2; (case h2 => first | assumption | (refine Ks.of ?h3; (case h3 => assumption))); (case h1 => walk_at "ks")))
local macro_rules | `(tactic| walk_at "dp") => `(tactic| first
  | exact Dp.str _ | exact Dp.int _ | exact Dp.bl _ | exact Dp.non | assumption | exact LsAt.dp (by assumption)
  | (refine dp_ex (H := ?H0) ?h1 ?h2; (case h1 => assumption); (case h2 => walk_at "dp")))
local macro_rules | `(tactic| walk_at "ev") => `(tactic| with_reducible first
  | exact ev_nil | refine ev_cons ?_ ?_ | exact ev_m1 | exact ev_str | exact ev_int | exact ev_bl | exact ev_non
  | (refine ev_tup ?hal ?_ ?hle; (case hal => assumption); (case hle => with_unfolding_all exact Nat.le_of_ble_eq_true rfl))
  | (refine ev_ll (ev_lst ?hal ?_ ?hle); (case hal => assumption); (case hle => with_unfolding_all exact Nat.le_of_ble_eq_true rfl))
  | (refine ev_ll (ev_rep (n := ?nn) ?hal ?_ ?he ?hz); (case he => with_unfolding_all exact rfl); (case hal => assumption); (case hz => with_unfolding_all omega))
  | (refine ev_lst ?hal ?_ ?hle; (case hal => assumption); (case hle => with_unfolding_all exact Nat.le_of_ble_eq_true rfl))
  | (refine ev_lt ?he; (case he => with_unfolding_all exact rfl))
  | (refine ev_let ?hal ?_ ?hs; (case hal => assumption); (case hs => with_unfolding_all first | decide +kernel | rfl))
  | (refine ev_var (v := ?vv) ?he ?hd; (case he => with_unfolding_all exact rfl); (case hd => with_unfolding_all walk_at "dp")))

section
variable {P : Program} {w : World} {K : PySem.W.Frag} {mg : Str → Option Value} {base : Heap}
/-! ### the row and the draws -/
def pCell (K : PySem.W.Frag) : Sp := fun vs H Q _ => ∃ (a : Addr) (ns : List Int) (k : Int), vs = [.ref a, .int k] ∧ SqL K H a (ns.map V.int) ∧ 0 ≤ k ∧ ∀ v : Int, Q (.int v) H
theorem ok__law_cell (T : Tx K mg) : FnOk P w K mg base CX0 1 T.a__law_cell T.e__law_cell p__law_cell (pCell K) := by
  refine T.d__law_cell.F.ok sc__law_cell (fun vs H Q E h => ?_) (fun cdv A outer s H vs Q E hr h => ?_)
  · obtain ⟨a, ns, k, rfl, _⟩ := h
    rfl
  obtain ⟨a, ns, k, rfl, hS, h0, q⟩ := h
  refine ⟨_, (pss_cons (ps_if (pt_cmpR op_lt (pv 1) (pe_callB (lenK K) (by rfl) T.b_len PySem.boot_len (pa_cons (pv 0) pa_nil)) (nomark _)) (pss_one (ps_ret (pe_ix (ixL K) (pv 0) (pv 1) (fun _ _ => rfl)))) pss_nil)
    (pss_one (ps_ret pe_int))), ?_⟩
  walk_at "r"
  refine a_lenL hS ?_
  walk_at "r"
  refine ite2 (fun c => ?_) (fun c => ?_)
  · have c' : k < ((ns.map V.int).length : Int) := of_decide_eq_true c
    walk_at "r"
    have hk : k.toNat < ns.length := by rw [List.length_map] at c'; omega
    have ek : k = ((k.toNat : Nat) : Int) := by omega
    refine a_ixL (v := .int ns[k.toNat]) hS ?_ (q _)
    have g : atI (ns.map V.int) ((k.toNat : Nat) : Int) = some (.int ns[k.toNat]) := atI_nat (by rw [List.getElem?_map]; simp [hk])
    rw [← ek] at g
    exact g
  · walk_at "r"
    exact q _
def pRow (K : PySem.W.Frag) : Sp := fun vs H Q _ => ∃ (a : Addr) (ns : List Int) (l : Int), vs = [.ref a, .int 0, .int l] ∧ SqL K H a (ns.map V.int) ∧ 0 ≤ l ∧ l ≤ 63 ∧
  ∀ p H' (rs : List Int), H p = none → Ex H H' → H' p = some (.lst (rs.map V.int)) → rs.length ≤ 100000 → Q (.ref p) H'
theorem map_snoc (rs : List Int) (v : Int) : rs.map V.int ++ [.int v] = (rs ++ [v]).map V.int := by rw [List.map_append]; rfl
theorem ok__law_row (T : Tx K mg) : FnOk P w K mg base CX0 2 T.a__law_row T.e__law_row p__law_row (pRow K) := by
  refine T.d__law_row.F.ok sc__law_row (fun vs H Q E h => ?_) (fun cdv A outer s H vs Q E hr h => ?_)
  · obtain ⟨a, ns, l, rfl, _⟩ := h
    rfl
  obtain ⟨a, ns, l, rfl, hS, h0, h1, q⟩ := h
  refine ⟨_, (pss_cons (ps_set (i := 3) sc__law_row.nd rfl (.inl rfl) (pe_lst pa_nil))
    (pss_cons (ps_for PassesOwn.never rfl (pi_range2 (by rfl) T.b_range (pa_cons (pv 1) (pa_cons (pv 2) pa_nil))) (pg_name (i := 4) sc__law_row.nd rfl (.inl rfl)) (pss_cons (ps_set (i := 5) sc__law_row.nd rfl (.inl rfl) (pe_call (ok__law_cell T) (hr.mono (by omega)) (by rfl) T.d__law_cell.m T.d__law_cell.F.kp T.d__law_cell.b .nil pass0 (pa_cons (pv 0) (pa_cons (pv 4) pa_nil))))
    (pss_cons (ps_set (i := 5) sc__law_row.nd rfl (.inl rfl) (pe_op op_add (pe_callB k_abs (by rfl) T.b_abs (by decide +kernel) (pa_cons (pe_op op_mul pe_int (pv 5)) pa_nil)) (pe_callTy k_int (by rfl) T.b_int (by decide +kernel) (pa_cons (pe_cmpR op_lt (pv 5) pe_int (nomark _)) pa_nil))))
    (pss_one (ps_if (pt_cmpR op_gt (pv 5) (pe_op op_pow pe_int pe_int) (nomark _)) (pss_one (ps_for PassesOwn.never rfl (pi_range1 (by rfl) T.b_range (pa_cons pe_int pa_nil)) (pg_name (i := 6) sc__law_row.nd rfl (.inl rfl)) (pss_one (ps_if (pt_cmpR op_gt (pv 5) pe_int (nomark _)) (pss_cons (ps_expr (pe_bm PySem.F.plainAttrs_list PySem.F.slot_list_append PySem.F.type_list_append mt_append (pv 3) (pa_cons (pe_op op_mod (pe_callTy k_int (by rfl) T.b_int (by decide +kernel) (pa_cons (pv 5) pa_nil)) pe_int) pa_nil)))
    (pss_one (ps_set (i := 5) sc__law_row.nd rfl (.inl rfl) (pe_op op_fdiv (pv 5) pe_int)))) pss_nil)))) (pss_one (ps_for PassesOwn.never rfl (pi_range1 (by rfl) T.b_range (pa_cons pe_int pa_nil)) (pg_name (i := 6) sc__law_row.nd rfl (.inl rfl)) (pss_cons (ps_set (i := 5) sc__law_row.nd rfl (.inl rfl) (pe_op op_mod (pe_callTy k_int (by rfl) T.b_int (by decide +kernel) (pa_cons (pe_op op_add (pe_op op_add (pe_op op_mul (pv 5) pe_int) (pe_op op_mul pe_int (pe_op op_add (pv 4) (pv 6)))) pe_int) pa_nil)) pe_int))
    (pss_one (ps_expr (pe_bm PySem.F.plainAttrs_list PySem.F.slot_list_append PySem.F.type_list_append mt_append (pv 3) (pa_cons (pe_op op_mod (pe_callTy k_int (by rfl) T.b_int (by decide +kernel) (pa_cons (pe_op op_fdiv (pv 5) pe_int) pa_nil)) pe_int) pa_nil))))))))))))
    (pss_one (ps_ret (pv 3))))), ?_⟩
  walk_at "r"
  refine new_lst (xs := []) (by simp) fun p H1 n1 e1 f1 => ?_
  walk_at "r"
  refine r_R2 (by omega) ?_
  refine lp_range (fun k σ h => ∃ x y z, ∃ rs : List Int, σ = [some (.ref a), some (.int 0), some (.int l), some (.ref p), x, y, z] ∧ Ex H h ∧ h p = some (.lst (rs.map V.int)) ∧ rs.length ≤ 100 * k)
    ⟨_, _, _, [], rfl, e1, f1, by simp⟩ ?_ ?_
  · rintro k σ h hk ⟨x, y, z, rs, rfl, e2, f2, z2⟩
    walk_at "r"
    refine ⟨a, ns, _, rfl, ex_sl hS e2, by omega, fun v => ?_⟩
    walk_at "r"
    refine w_I (.inl ⟨by decide, by decide⟩) ?_
    walk_at "r"
    generalize (if 2 * v < 0 then -(2 * v) else 2 * v) + (if decide (v < 0) = true then 1 else 0) = c0
    refine w_I ⟨by decide, by decide, by decide⟩ ?_
    walk_at "r"
    refine ite2 (fun _ => ?_) (fun _ => ?_)
    · walk_at "r"
      refine r_R1 (by omega) ?_
      refine lp_range (fun m σ h' => ∃ z, ∃ rs' : List Int, ∃ c : Int, σ = [some (.ref a), some (.int 0), some (.int l), some (.ref p), some (.int (0 + (k : Int))), some (.int c), z] ∧ Ex H h' ∧ h' p = some (.lst (rs'.map V.int)) ∧ rs'.length ≤ 100 * k + m)
        ⟨_, rs, c0, rfl, e2, f2, by omega⟩ ?_ ?_
      · rintro m σ h' hm ⟨z', rs', c, rfl, e3, f3, z3⟩
        walk_at "r"
        refine ite2 (fun _ => ?_) (fun _ => ?_)
        · walk_at "r"
          refine ⟨a_ty f3, ?_⟩
          walk_at "r"
          walk_at "r"
          refine w_I (by decide) ?_
          walk_at "r"
          have hm' : m < 60 := hm
          have hk' : k < 63 := by omega
          refine a_app f3 (by rw [List.length_map]; omega) ?_
          walk_at "r"
          refine w_I ⟨by decide, by decide⟩ ?_
          walk_at "r"
          refine ⟨_, rs' ++ [c % 840], _, rfl, e3.mut n1, by rw [upd_same, map_snoc], by rw [List.length_append]; simp; omega⟩
        · walk_at "r"
          exact ⟨_, rs', c, rfl, e3, f3, by omega⟩
      · rintro σ h' ⟨z', rs', c, rfl, e3, f3, z3⟩
        have z4 : rs'.length ≤ 100 * k + 60 := z3
        exact ⟨_, _, _, rs', rfl, e3, f3, by omega⟩
    · walk_at "r"
      refine r_R1 (by omega) ?_
      refine lp_range (fun m σ h' => ∃ z, ∃ rs' : List Int, ∃ c : Int, σ = [some (.ref a), some (.int 0), some (.int l), some (.ref p), some (.int (0 + (k : Int))), some (.int c), z] ∧ Ex H h' ∧ h' p = some (.lst (rs'.map V.int)) ∧ rs'.length ≤ 100 * k + m)
        ⟨_, rs, c0, rfl, e2, f2, by omega⟩ ?_ ?_
      · rintro m σ h' hm ⟨z', rs', c, rfl, e3, f3, z3⟩
        walk_at "r"
        refine w_I (.inr ⟨by decide, by decide⟩) ?_
        walk_at "r"
        refine w_I (.inl ⟨by decide, by decide⟩) ?_
        walk_at "r"
        walk_at "r"
        refine w_I (by decide) ?_
        walk_at "r"
        refine ⟨a_ty f3, ?_⟩
        walk_at "r"
        refine w_I ⟨by decide, by decide⟩ ?_
        walk_at "r"
        refine w_I (by decide) ?_
        walk_at "r"
        have hm' : m < 10 := hm
        have hk' : k < 63 := by omega
        refine a_app f3 (by rw [List.length_map]; omega) ?_
        walk_at "r"
        exact ⟨_, rs' ++ [_], _, rfl, e3.mut n1, by rw [upd_same, map_snoc], by rw [List.length_append]; simp; omega⟩
      · rintro σ h' ⟨z', rs', c, rfl, e3, f3, z3⟩
        have z4 : rs'.length ≤ 100 * k + 10 := z3
        exact ⟨_, _, _, rs', rfl, e3, f3, by omega⟩
  · rintro σ h ⟨x, y, z, rs, rfl, e2, f2, z2⟩
    walk_at "r"
    exact q p h rs n1 e2 f2 (by omega)
def pDraw : Sp := fun vs H Q _ => ∃ (b r : Addr) (m : Int), vs = [.ref b, .int m] ∧ Bx H b r ∧ 0 < m ∧ ∀ v H', 0 ≤ v → v < m → Ks [b] H H' → Bx H' b r → Q (.int v) H'
theorem ap_draw {H : Hp} {Q : VK} {E : XK} {b r : Addr} {m : Int} (h : Bx H b r) (hm : 0 < m) (k : ∀ v H', 0 ≤ v → v < m → Ks [b] H H' → Bx H' b r → Q (.int v) H') : pDraw [.ref b, .int m] H Q E := ⟨b, r, m, rfl, h, hm, k⟩
theorem ok__law_draw (T : Tx K mg) : FnOk P w K mg base CX0 1 T.a__law_draw T.e__law_draw p__law_draw pDraw := by
  refine T.d__law_draw.F.ok sc__law_draw (fun vs H Q E h => ?_) (fun cdv A outer s H vs Q E hr h => ?_)
  · obtain ⟨b, r, m, rfl, _⟩ := h
    rfl
  obtain ⟨b, r, m, rfl, hb, hm, q⟩ := h
  have nrb := bx_rb hb
  obtain ⟨n, ns, hb, hR, hz⟩ := hb
  refine ⟨_, (pss_cons (ps_set (i := 2) sc__law_draw.nd rfl (.inl rfl) (pe_ix (ixL K) (pv 0) pe_int (fun _ _ => rfl)))
    (pss_cons (ps_asg (pe_op op_add (pv 2) pe_int) (pg_sub (pv 0) pe_int set_list))
    (pss_cons (ps_if (pt_cmpR op_lt (pv 2) (pe_callB (lenK K) (by rfl) T.b_len PySem.boot_len (pa_cons (pe_ix (ixL K) (pv 0) pe_int (fun _ _ => rfl)) pa_nil)) (nomark _)) (pss_one (ps_ret (pe_op op_mod (pe_callTy k_int (by rfl) T.b_int (by decide +kernel) (pa_cons (pe_ix (ixL K) (pe_ix (ixL K) (pv 0) pe_int (fun _ _ => rfl)) (pv 2) (fun _ _ => rfl)) pa_nil)) (pv 1)))) pss_nil)
    (pss_one (ps_ret (pe_op op_mod (pe_callTy k_int (by rfl) T.b_int (by decide +kernel) (pa_cons (pe_op op_add (pe_op op_mul (pv 2) pe_int) pe_int) pa_nil)) (pv 1))))))), ?_⟩
  walk_at "r"
  refine a_ixL (v := .int n) (SqL.of hb) rfl ?_
  walk_at "r"
  refine a_setL (j := 1) hb (show 1 < 2 by decide) ?_
  have fb : upd H b (.lst [.ref r, .int ((n : Int) + 1)]) b = some (.lst [.ref r, .int (((n + 1 : Nat)) : Int)]) := by rw [upd_same]; simp
  have fr : upd H b (.lst [.ref r, .int ((n : Int) + 1)]) r = some (.lst (ns.map V.int)) := by rw [upd_ne nrb]; exact hR
  have ek : Ks [b] H (upd H b (.lst [.ref r, .int ((n : Int) + 1)])) := (Ks.refl _ _).upd (by simp)
  change tSeq _ _ _ _ (upd H b (.lst [.ref r, .int ((n : Int) + 1)]))
  generalize upd H b (.lst [.ref r, .int ((n : Int) + 1)]) = H1 at fb fr ek ⊢
  have hB : Bx H1 b r := ⟨n + 1, ns, fb, fr, hz⟩
  walk_at "r"
  refine a_ixL (v := .ref r) (SqL.of fb) rfl ?_
  walk_at "r"
  refine a_lenL (SqL.of fr) ?_
  walk_at "r"
  refine ite2 (fun c => ?_) (fun c => ?_)
  · have c' : (n : Int) < ((ns.map V.int).length : Int) := of_decide_eq_true c
    rw [List.length_map] at c'
    have hn : n < ns.length := by omega
    walk_at "r"
    refine a_ixL (v := .ref r) (SqL.of fb) rfl ?_
    walk_at "r"
    refine a_ixL (v := .int ns[n]) (SqL.of fr) (atI_nat (by rw [List.getElem?_map]; simp [hn])) ?_
    walk_at "r"
    refine w_I hm ?_
    exact q _ H1 (Int.emod_nonneg _ (by omega)) (Int.emod_lt_of_pos _ hm) ek hB
  · walk_at "r"
    refine w_I (.inr ⟨by decide, by decide⟩) ?_
    walk_at "r"
    walk_at "r"
    refine w_I hm ?_
    exact q _ H1 (Int.emod_nonneg _ (by omega)) (Int.emod_lt_of_pos _ hm) ek hB

/-! ### the law's own: rights drawn -/
def pRight : Sp := fun vs H Q _ => ∃ (b r : Addr), vs = [.ref b] ∧ Bx H b r ∧ ∀ (x : R) H', Ks [b] H H' → Bx H' b r → Q (.str x.s) H'
theorem ok__law_right (T : Tx K mg) : FnOk P w K mg base CX0 2 T.a__law_right T.e__law_right p__law_right pRight := by
  refine T.d__law_right.F.ok sc__law_right (fun vs H Q E h => ?_) (fun cdv A outer s H vs Q E hr h => ?_)
  · obtain ⟨b, r, rfl, _⟩ := h
    rfl
  obtain ⟨b, r, rfl, hb, q⟩ := h
  refine ⟨_, (pss_one (ps_ret (pe_ix (ixL K) (pe_lst (pa_cons pe_str (pa_cons pe_str (pa_cons pe_str (pa_cons pe_str (pa_cons pe_str (pa_cons pe_str pa_nil))))))) (pe_call (ok__law_draw T) (hr.mono (by omega)) (by rfl) T.d__law_draw.m T.d__law_draw.F.kp T.d__law_draw.b .nil pass0 (pa_cons (pv 0) (pa_cons pe_int pa_nil))) (fun _ _ => rfl)))), ?_⟩
  walk_at "r"
  refine new_lst (xs := [_, _, _, _, _, _]) (by simp) fun p H1 n1 e1 f1 => ?_
  walk_at "r"
  refine ap_draw (bx_ex hb e1) (by decide) fun v H2 h0 h1 e2 b2 => ?_
  walk_at "r"
  have f2 : H2 p = some (.lst (tv [.rw, .rw, .r, .w, .n, .rw])) := by walk_at "tr"
  obtain ⟨k, rfl⟩ : ∃ k : Nat, v = (k : Int) := ⟨v.toNat, by omega⟩
  have hk : k < 6 := by omega
  have hx : ∃ x, [R.rw, .rw, .r, .w, .n, .rw][k]? = some x := ⟨_, List.getElem?_eq_getElem hk⟩
  obtain ⟨x, hx⟩ := hx
  refine a_ixL (v := .str x.s) (SqL.of f2) (atI_nat (tv_at hx)) ?_
  exact q x H2 (by walk_at "ks") b2
def pRights (K : PySem.W.Frag) : Sp := fun vs H Q _ => ∃ (b r : Addr) (m : Int), vs = [.ref b, .int m] ∧ Bx H b r ∧ 0 ≤ m ∧ m ≤ 1000 ∧ ∀ p (xs : List R) H', H p = none → p ≠ b → p ≠ r → (xs.length : Int) = m → Ks [b] H H' → Bx H' b r → Tu H' p (tv xs) → Q (.ref p) H'
theorem tv_snoc (xs : List R) (x : R) : tv xs ++ [.str x.s] = tv (xs ++ [x]) := by unfold tv; rw [List.map_append]; rfl
theorem ok__law_rights (T : Tx K mg) : FnOk P w K mg base CX0 3 T.a__law_rights T.e__law_rights p__law_rights (pRights K) := by
  refine T.d__law_rights.F.ok sc__law_rights (fun vs H Q E h => ?_) (fun cdv A outer s H vs Q E hr h => ?_)
  · obtain ⟨b, r, m, rfl, _⟩ := h
    rfl
  obtain ⟨b, r, m, rfl, hb, h0, h1, q⟩ := h
  refine ⟨_, (pss_one (ps_ret (pe_callTy (tupFK K) (by rfl) T.b_tuple (by decide +kernel) (pa_cons (pe_lc (own := [("k", 2)]) (g := gName 2) rfl sc__law_rights.nd  (pi_range1 (by rfl) T.b_range (pa_cons (pv 1) pa_nil)) (blkOk_by (own := [("k", 2)]) (N := n__law_rights) (sc := defScope s__law_rights) (by decide +kernel)) (fun _ _ _ _ _ => (pg_name (i := 2) sc__law_rights.nd rfl (Or.inl rfl))) (fun _ _ _ _ _ => pts_nil) (fun _ _ _ _ _ => (pe_call (ok__law_right T) (hr.mono (by omega)) (by rfl) T.d__law_right.m T.d__law_right.F.kp T.d__law_right.b .nil pass0 (pa_cons (pv 0) pa_nil)))) pa_nil)))), ?_⟩
  walk_at "r"
  refine c_R1 (by omega) ?_
  refine cp_range (fun p k h => ∃ xs : List R, xs.length = k ∧ h p = some (.lst (tv xs)) ∧ Ks [b] H h ∧ Bx h b r) (fun p n => ⟨[], rfl, upd_same, Ks.of (Ex.new n), bx_ex hb (Ex.new n)⟩) ?_ ?_
  · rintro p k h np hk ⟨xs, hl, f, e, b1⟩
    have nb : p ≠ b := (bx_nb hb np).symm
    walk_at "r"
    refine ⟨rfl, ?_⟩
    walk_at "r"
    refine ⟨b, r, rfl, b1, fun x H2 e2 b2 => ?_⟩
    have f2 : H2 p = some (.lst (tv xs)) := by walk_at "tr"
    refine ⟨tv xs, f2, sz_lt (by rw [tv_len]; omega), xs ++ [x], by simp [hl], by rw [upd_same, tv_snoc], ?_, ?_⟩
    · exact (e.trans e2).mut np
    · exact bx_ks (S := [p]) b2 (fun a o n q => by rw [upd_ne (fun z => n (by rw [z]; simp))]; exact q) (nin_cons (bx_nb hb np) nin_nil) (nin_cons (bx_nr hb np) nin_nil)
  · rintro p h np ⟨xs, hl, f, e, b1⟩
    walk_at "r"
    refine a_tupFL (SqL.of f) fun p2 H2 n2 e2 f2 => ?_
    have n3 : H p2 = none := by
      cases z : H p2 with
      | none => rfl
      | some o =>
        by_cases zb : p2 = b
        · obtain ⟨_, _, g, _⟩ := b1
          rw [← zb, n2] at g
          cases g
        · rw [e p2 o (nin_cons zb nin_nil) z] at n2
          cases n2
    exact q p2 xs H2 n3 (bx_nb hb n3).symm (bx_nr hb n3).symm (by omega) (by walk_at "ks") (bx_ex b1 e2) f2

/-! ### the program: within, behind, converts, are_alike, plain -/
theorem fn_none {k : Nat} {f : Addr} {fd : FuncData} {ps : List Str} {sp : Sp} (no : ∀ vs H Q E, ¬ sp vs H Q E) : FnOk P w K mg base CX0 k f fd ps sp :=
  ⟨fun vs H Q E h => absurd h (no vs H Q E), fun _ _ _ _ _ _ _ _ _ _ _ _ _ h => absurd h (no _ _ _ _)⟩
/-- a loop over a written pair -/
theorem lp_two {p : Addr} {a b : V} {σ : L2.St} {H : Hp} {g : TG} {ts : TS} {D : Ends} (ht : ∀ h, SqT K h p [a, b]) (P0 P1 P2 : L2.St → Hp → Prop) (h0 : P0 σ H)
    (s0 : ∀ s h, P0 s h → g a s h fun s2 h2 => ts { D with nx := P1, ct := P1, bk := D.nx } s2 h2) (s1 : ∀ s h, P1 s h → g b s h fun s2 h2 => ts { D with nx := P2, ct := P2, bk := D.nx } s2 h2)
    (hd : ∀ s h, P2 s h → D.nx s h) : LoopG (Itt K p) g ts D σ H := by
  refine lp_tup (xs := [a, b]) (fun k => match k with | 0 => P0 | 1 => P1 | _ => P2) h0 (fun k s h _ _ => ht h) (fun k x s h hx hp => ?_) hd
  match k, hx, hp with
  | 0, hx, hp => exact (Option.some.inj hx) ▸ s0 s h hp
  | 1, hx, hp => exact (Option.some.inj hx) ▸ s1 s h hp
  | k + 2, hx, _ => simp at hx
def pWithin : Sp := fun vs H Q _ => ∃ a b : R, vs = [.str a.s, .str b.s] ∧ Q (.bl (wi a b)) H
theorem ok_within (T : Tx K mg) : FnOk P w K mg base CX0 1 T.a_within T.e_within p_within pWithin := by
  refine T.d_within.F.ok sc_within (fun vs H Q E h => ?_) (fun cdv A outer s H vs Q E hr h => ?_)
  · obtain ⟨a, b, rfl, _⟩ := h
    rfl
  obtain ⟨a, b, rfl, q⟩ := h
  refine ⟨_, (pss_cons (ps_for PassesOwn.never rfl (ptK K (pe_glob (v := .ref T.a_LETTERS) (by rfl) T.m_LETTERS rfl)) (pg_name (i := 2) sc_within.nd rfl (.inl rfl)) (pss_one (ps_if (PW.pt (pw_and (pt_cmpR k_inS (pv 2) (pv 0) (by rfl)) (pw_and1 (pt_cmpR k_ninS (pv 2) (pv 1) (by rfl))))) (pss_one (ps_ret pe_bl)) pss_nil)))
    (pss_one (ps_ret pe_bl))), ?_⟩
  walk_at "r"
  refine r_T (T.t_LETTERS _) ?_
  refine lp_two T.t_LETTERS (fun σ h => σ = [some (.str a.s), some (.str b.s), none] ∧ h = H) (fun σ h => σ = [some (.str a.s), some (.str b.s), some (.str "r")] ∧ h = H ∧ (!a.hr || b.hr) = true) (fun σ h => h = H ∧ (!a.hr || b.hr) = true ∧ (!a.hw || b.hw) = true) ⟨rfl, rfl⟩ ?_ ?_ ?_
  · rintro σ h ⟨rfl, rfl⟩
    walk_at "r"
    refine a_inS (in_r a) ?_
    walk_at "r"
    refine ite2 (fun c => ?_) (fun c => ?_)
    · walk_at "r"
      refine a_ninS (in_r b) ?_
      walk_at "r"
      refine ite2 (fun d => ?_) (fun d => ?_)
      · walk_at "r"
        have e : wi a b = false := by
          unfold wi
          rw [c, (by simpa using d : b.hr = false)]
          rfl
        rw [← e]
        exact q
      · walk_at "r"
        exact ⟨rfl, rfl, by rw [c, (by simpa using d : b.hr = true)]; rfl⟩
    · walk_at "r"
      exact ⟨rfl, rfl, by rw [(by simpa using c : a.hr = false)]; rfl⟩
  · rintro σ h ⟨rfl, rfl, g1⟩
    walk_at "r"
    refine a_inS (in_w a) ?_
    walk_at "r"
    refine ite2 (fun c => ?_) (fun c => ?_)
    · walk_at "r"
      refine a_ninS (in_w b) ?_
      walk_at "r"
      refine ite2 (fun d => ?_) (fun d => ?_)
      · walk_at "r"
        have e : wi a b = false := by
          unfold wi
          rw [c, (by simpa using d : b.hw = false)]
          simp
        rw [← e]
        exact q
      · walk_at "r"
        exact ⟨rfl, g1, by rw [c, (by simpa using d : b.hw = true)]; rfl⟩
    · walk_at "r"
      exact ⟨rfl, g1, by rw [(by simpa using c : a.hw = false)]; rfl⟩
  · rintro σ h ⟨rfl, g1, g2⟩
    walk_at "r"
    have e : wi a b = true := by
      unfold wi
      rw [g1, g2]
      rfl
    rw [← e]
    exact q
/-- what behind hands back: a pair of the tails, turned about at w -/
def pBehind (K : PySem.W.Frag) : Sp := fun vs H Q _ => ∃ (a b : Addr) (x y : V) (xs ys : List V) (l : Bool), vs = [.ref a, .ref b, .str (if l then "r" else "w")] ∧ SqT K H a (x :: xs) ∧ SqT K H b (y :: ys) ∧
  ∀ p c d H', Ex H H' → H' p = some (.tup [.ref c, .ref d]) → SqT K H' c (if l then xs else ys) → SqT K H' d (if l then ys else xs) → Q (.ref p) H'
theorem ok_behind (T : Tx K mg) : FnOk P w K mg base CX0 1 T.a_behind T.e_behind p_behind (pBehind K) := by
  refine T.d_behind.F.ok sc_behind (fun vs H Q E h => ?_) (fun cdv A outer s H vs Q E hr h => ?_)
  · obtain ⟨a, b, x, y, xs, ys, l, rfl, _⟩ := h
    rfl
  obtain ⟨a, b, x, y, xs, ys, l, rfl, ha, hb, q⟩ := h
  refine ⟨_, (pss_cons (ps_if (pt_cmpR op_eq (pv 2) pe_str (nomark _)) (pss_one (ps_ret (pe_tup (pa_cons (pe_slice (slA K) (pv 0) (po_some pe_int) po_none) (pa_cons (pe_slice (slA K) (pv 1) (po_some pe_int) po_none) pa_nil))))) pss_nil)
    (pss_one (ps_ret (pe_tup (pa_cons (pe_slice (slA K) (pv 1) (po_some pe_int) po_none) (pa_cons (pe_slice (slA K) (pv 0) (po_some pe_int) po_none) pa_nil)))))), ?_⟩
  walk_at "r"
  cases l with
  | true =>
    refine ite2 (fun c => ?_) (fun c => absurd (show decide (("r" : Str) = "r") = true from by decide) c)
    walk_at "r"
    refine a_slT1 ha fun c H1 n1 e1 f1 => ?_
    walk_at "r"
    refine a_slT1 (ex_st hb e1) fun d H2 n2 e2 f2 => ?_
    walk_at "r"
    refine new_tup (xs := [_, _]) (by simp) fun p H3 n3 e3 f3 => ?_
    exact q p c d H3 (by walk_at "ex") f3 (by walk_at "st") (by walk_at "st")
  | false =>
    refine ite2 (fun c => absurd (show decide (("w" : Str) = "r") = true from c) (by decide)) (fun c => ?_)
    walk_at "r"
    refine a_slT1 hb fun c H1 n1 e1 f1 => ?_
    walk_at "r"
    refine a_slT1 (ex_st ha e1) fun d H2 n2 e2 f2 => ?_
    walk_at "r"
    refine new_tup (xs := [_, _]) (by simp) fun p H3 n3 e3 f3 => ?_
    exact q p c d H3 (by walk_at "ex") f3 (by walk_at "st") (by walk_at "st")
def pCv (K : PySem.W.Frag) (n : Nat) : Sp := fun vs H Q _ => ∃ (a b : Addr) (xs ys : List R), vs = [.ref a, .ref b] ∧ SqT K H a (tv xs) ∧ SqT K H b (tv ys) ∧ xs.length < n ∧ RV1 (.bl (cv xs ys)) H Q
theorem tv_cons (x : R) (xs : List R) : tv (x :: xs) = .str x.s :: tv xs := rfl
theorem ok_converts (T : Tx K mg) : ∀ n : Nat, FnOk P w K mg base CX0 (n + 1) T.a_converts T.e_converts p_converts (pCv K n)
  | 0 => fn_none fun vs H Q E h => by
    obtain ⟨a, b, xs, ys, _, _, _, h, _⟩ := h
    omega
  | n + 1 => by
    have ih : FnOk P w K mg base CX0 (n + 1) T.a_converts T.e_converts p_converts (pCv K n) := ok_converts T n
    refine T.d_converts.F.ok sc_converts (fun vs H Q E h => ?_) (fun cdv A outer s H vs Q E hr h => ?_)
    · obtain ⟨a, b, xs, ys, rfl, _⟩ := h
      rfl
    obtain ⟨a, b, xs, ys, rfl, ha, hb, hn, q⟩ := h
    refine ⟨_, (pss_cons (ps_if (pt_cmpR op_ne (pe_callB (lenK K) (by rfl) T.b_len PySem.boot_len (pa_cons (pv 0) pa_nil)) (pe_callB (lenK K) (by rfl) T.b_len PySem.boot_len (pa_cons (pv 1) pa_nil)) (nomark _)) (pss_one (ps_ret pe_bl)) pss_nil)
    (pss_cons (ps_if (pt_cmpR op_eq (pe_callB (lenK K) (by rfl) T.b_len PySem.boot_len (pa_cons (pv 0) pa_nil)) pe_int (nomark _)) (pss_one (ps_ret pe_bl)) pss_nil)
    (pss_cons (ps_if (pt_not (pt_val (pe_call (ok_within T) (hr.mono (by omega)) (by rfl) T.d_within.m T.d_within.F.kp T.d_within.b .nil pass0 (pa_cons (pe_ix (ixT K) (pv 1) pe_int (fun _ _ => rfl)) (pa_cons (pe_ix (ixT K) (pv 0) pe_int (fun _ _ => rfl)) pa_nil))))) (pss_one (ps_ret pe_bl)) pss_nil)
    (pss_cons (ps_for PassesOwn.never rfl (ptK K (pe_glob (v := .ref T.a_LETTERS) (by rfl) T.m_LETTERS rfl)) (pg_name (i := 2) sc_converts.nd rfl (.inl rfl)) (pss_one (ps_if (pt_cmpR k_inS (pv 2) (pe_ix (ixT K) (pv 1) pe_int (fun _ _ => rfl)) (by rfl)) (pss_cons (ps_asg (pe_call (ok_behind T) (hr.mono (by omega)) (by rfl) T.d_behind.m T.d_behind.F.kp T.d_behind.b .nil pass0 (pa_cons (pv 0) (pa_cons (pv 1) (pa_cons (pv 2) pa_nil)))) (pg_tup (by rfl) (pgs_cons (pg_name (i := 3) sc_converts.nd rfl (.inl rfl)) (pgs_cons (pg_name (i := 4) sc_converts.nd rfl (.inl rfl)) pgs_nil))))
    (pss_one (ps_if (pt_not (pt_val (pe_call ih (hr.mono (by omega)) (by rfl) T.d_converts.m T.d_converts.F.kp T.d_converts.b .nil pass0 (pa_cons (pv 3) (pa_cons (pv 4) pa_nil))))) (pss_one (ps_ret pe_bl)) pss_nil))) pss_nil)))
    (pss_one (ps_ret pe_bl)))))), ?_⟩
    walk_at "r"
    refine a_lenT ha ?_
    walk_at "r"
    refine a_lenT hb ?_
    walk_at "r"
    refine ite2 (fun c => ?_) (fun c => ?_)
    · walk_at "r"
      have e : cv xs ys = false := cv_ne (by rw [tv_len, tv_len] at c; simp at c; omega)
      rw [← e]
      exact q _ (Ex.refl _)
    have hl : xs.length = ys.length := by rw [tv_len, tv_len] at c; simp at c; omega
    walk_at "r"
    refine a_lenT ha ?_
    walk_at "r"
    refine ite2 (fun c => ?_) (fun c => ?_)
    · walk_at "r"
      have h0 : xs.length = 0 := by rw [tv_len] at c; simpa using c
      have e1 : xs = [] := List.eq_nil_of_length_eq_zero h0
      have e2 : ys = [] := List.eq_nil_of_length_eq_zero (by omega)
      subst e1 e2
      rw [← cv_nil]
      exact q _ (Ex.refl _)
    match xs, ys, hl, ha, hb, hn, q, c with
    | [], _, _, _, _, _, _, c => exact absurd (by rfl) c
    | x :: xs, [], hl, _, _, _, _, _ => cases hl
    | x :: xs, y :: ys, hl, ha, hb, hn, q, _ =>
    have hl : xs.length = ys.length := by simpa using hl
    have hn : xs.length < n := by simpa using hn
    walk_at "r"
    refine a_ixT (v := .str y.s) hb (atI_nat (j := 0) rfl) ?_
    walk_at "r"
    refine a_ixT (v := .str x.s) ha (atI_nat (j := 0) rfl) ?_
    walk_at "r"
    refine ⟨y, x, rfl, ?_⟩
    walk_at "r"
    refine ite2 (fun c => ?_) (fun c => ?_)
    · walk_at "r"
      have e : cv (x :: xs) (y :: ys) = false := by
        rw [cv_cons hl, (by simpa using c : wi y x = false)]
        rfl
      rw [← e]
      exact q _ (Ex.refl _)
    have hw : wi y x = true := by simpa using c
    walk_at "r"
    refine r_T (T.t_LETTERS _) ?_
    refine lp_two T.t_LETTERS (fun σ h => (∃ u v z, σ = [some (.ref a), some (.ref b), u, v, z]) ∧ Ex H h) (fun σ h => (∃ u v z, σ = [some (.ref a), some (.ref b), u, v, z]) ∧ Ex H h ∧ (!y.hr || cv xs ys) = true) (fun σ h => Ex H h ∧ (!y.hr || cv xs ys) = true ∧ (!y.hw || cv ys xs) = true) ⟨⟨_, _, _, rfl⟩, Ex.refl _⟩ ?_ ?_ ?_
    · rintro σ h ⟨⟨u, v, z, rfl⟩, e1⟩
      have ha1 := ex_st ha e1
      have hb1 := ex_st hb e1
      walk_at "r"
      refine a_ixT (v := .str y.s) hb1 (atI_nat (j := 0) rfl) ?_
      refine a_inS (in_r y) ?_
      walk_at "r"
      refine ite2 (fun c => ?_) (fun c => ?_)
      · walk_at "r"
        refine ⟨a, b, _, _, tv xs, tv ys, true, rfl, ha1, hb1, fun p s1 s2 H2 e2 f2 g1 g2 => ?_⟩
        walk_at "r"
        refine w_gtup (SqT.of f2) rfl ?_
        walk_at "r"
        refine ⟨s1, s2, xs, ys, rfl, g1, g2, hn, fun H3 e3 => ?_⟩
        walk_at "r"
        refine ite2 (fun d => ?_) (fun d => ?_)
        · walk_at "r"
          have e : cv (x :: xs) (y :: ys) = false := by
            rw [cv_cons hl, hw, c, (by simpa using d : cv xs ys = false)]
            rfl
          rw [← e]
          exact q _ (by walk_at "ex")
        · walk_at "r"
          exact ⟨⟨_, _, _, rfl⟩, by walk_at "ex", by rw [c, (by simpa using d : cv xs ys = true)]; rfl⟩
      · walk_at "r"
        exact ⟨⟨_, _, _, rfl⟩, e1, by rw [(by simpa using c : y.hr = false)]; rfl⟩
    · rintro σ h ⟨⟨u, v, z, rfl⟩, e1, g0⟩
      have ha1 := ex_st ha e1
      have hb1 := ex_st hb e1
      walk_at "r"
      refine a_ixT (v := .str y.s) hb1 (atI_nat (j := 0) rfl) ?_
      refine a_inS (in_w y) ?_
      walk_at "r"
      refine ite2 (fun c => ?_) (fun c => ?_)
      · walk_at "r"
        refine ⟨a, b, _, _, tv xs, tv ys, false, rfl, ha1, hb1, fun p s1 s2 H2 e2 f2 g1 g2 => ?_⟩
        walk_at "r"
        refine w_gtup (SqT.of f2) rfl ?_
        walk_at "r"
        refine ⟨s1, s2, ys, xs, rfl, g1, g2, by omega, fun H3 e3 => ?_⟩
        walk_at "r"
        refine ite2 (fun d => ?_) (fun d => ?_)
        · walk_at "r"
          have e : cv (x :: xs) (y :: ys) = false := by
            rw [cv_cons hl, hw, g0, c, (by simpa using d : cv ys xs = false)]
            rfl
          rw [← e]
          exact q _ (by walk_at "ex")
        · walk_at "r"
          exact ⟨by walk_at "ex", g0, by rw [c, (by simpa using d : cv ys xs = true)]; rfl⟩
      · walk_at "r"
        exact ⟨e1, g0, by rw [(by simpa using c : y.hw = false)]; rfl⟩
    · rintro σ h ⟨e1, g0, g1⟩
      walk_at "r"
      have e : cv (x :: xs) (y :: ys) = true := by
        rw [cv_cons hl, hw, g0, g1]
        rfl
      rw [← e]
      exact q _ e1

/-! ### the law's own: converting, plain forms -/
theorem cp_str {σ : L2.St} {H : Hp} {g : TG} {t : TT} {te : TE} {Q : VK} {z : Str} {vs : List Nat} (I : Addr → Nat → Hp → Prop) (h0 : ∀ p, H p = none → I p 0 (upd H p (.lst [])))
    (hs : ∀ (p : Addr) (k : Nat) (c : Nat) (h : Hp), H p = none → z.cps[k]? = some c → I p k h → g (.str ⟨#[c]⟩) (wipe σ vs) h fun s2 h2 => wipe s2 vs = wipe σ vs ∧ t s2 h2 fun b h3 =>
      if b = true then te s2 h3 fun a h4 => ∃ acc, h4 p = some (.lst acc) ∧ acc.length < sizeLine ∧ I p (k + 1) (upd h4 p (.lst (acc ++ [a]))) else I p (k + 1) h3)
    (hd : ∀ p h, H p = none → I p z.cps.size h → Q (.ref p) h) : CompG (Its z) g t te vs σ H Q := fun p hp => by
  refine ⟨fun i m h => m = z.cps.size - i ∧ i ≤ z.cps.size ∧ I p i h, ⟨_, rfl, Nat.zero_le _, h0 p hp⟩, ?_⟩
  rintro i m h ⟨rfl, hi, q⟩
  by_cases hlt : i < z.cps.size
  · refine .inr ⟨hlt, I p (i + 1), fun h' q' => ⟨z.cps.size - (i + 1), by omega, rfl, hlt, q'⟩, fun x h' y => ?_⟩
    obtain ⟨e, c, y, e2⟩ := y
    subst e e2
    exact hs p i c _ hp y q
  · have e : i = z.cps.size := by omega
    subst e
    exact .inl ⟨Nat.le_refl _, hd p h hp q⟩
/-- the letters of a that b lacks -/
theorem lw_len (a b : R) : ((a.s.cps.toList.filter fun c => !decide (Str.mk #[c] = ("-" : Str)) && !(!(Builtin.Str.occurrences b.s (Str.mk #[c]) 0 b.s.length 1).isEmpty)).length == 0) = wi a b := by
  cases a <;> cases b <;> decide +kernel
def pLWithin : Sp := fun vs H Q _ => ∃ a b : R, vs = [.str a.s, .str b.s] ∧ RV1 (.bl (wi a b)) H Q
theorem ok__law_within (T : Tx K mg) : FnOk P w K mg base CX0 1 T.a__law_within T.e__law_within p__law_within pLWithin := by
  refine T.d__law_within.F.ok sc__law_within (fun vs H Q E h => ?_) (fun cdv A outer s H vs Q E hr h => ?_)
  · obtain ⟨a, b, rfl, _⟩ := h
    rfl
  obtain ⟨a, b, rfl, q⟩ := h
  refine ⟨_, (pss_one (ps_ret (pe_cmpR op_eq (pe_callB (lenK K) (by rfl) T.b_len PySem.boot_len (pa_cons (pe_lc (own := [("letter", 2)]) (g := gName 2) rfl sc__law_within.nd  (pi_str (pv 0)) (blkOk_by (own := [("letter", 2)]) (N := n__law_within) (sc := defScope s__law_within) (by decide +kernel)) (fun _ _ _ _ _ => (pg_name (i := 2) sc__law_within.nd rfl (Or.inl rfl))) (fun _ _ _ _ _ => (pts_one (PW.pt (pw_and (pt_cmpR op_ne (pv 2) pe_str (nomark _)) (pw_and1 (pt_cmpR k_ninS (pv 2) (pv 1) (by rfl))))))) (fun _ _ _ _ _ => (pv 2))) pa_nil)) pe_int (nomark _)))), ?_⟩
  walk_at "r"
  have hsz : a.s.cps.size ≤ 2 := by cases a <;> decide
  refine cp_str (fun p k h => h p = some (.lst (((a.s.cps.toList.take k).filter fun c => !decide (Str.mk #[c] = ("-" : Str)) && !(!(Builtin.Str.occurrences b.s (Str.mk #[c]) 0 b.s.length 1).isEmpty)).map fun c => .str ⟨#[c]⟩)) ∧ Ex H h) (fun p n => ⟨upd_same, Ex.new n⟩) ?_ ?_
  · rintro p k c h np hc ⟨f, e⟩
    have hc' : a.s.cps.toList[k]? = some c := by simpa using hc
    have tk : a.s.cps.toList.take (k + 1) = a.s.cps.toList.take k ++ [c] := by rw [List.take_add_one, hc']; rfl
    have hk : k < a.s.cps.size := (Array.getElem?_eq_some_iff.mp hc).1
    walk_at "r"
    refine ⟨rfl, ?_⟩
    walk_at "r"
    refine ite2 (fun d => ?_) (fun d => ?_)
    · walk_at "r"
      refine a_ninS rfl ?_
      walk_at "r"
      refine ite2 (fun d2 => ?_) (fun d2 => ?_)
      · walk_at "r"
        refine ⟨_, f, sz_lt ?_, ?_, e.mut np⟩
        · rw [List.length_map]
          have := List.length_filter_le (fun c => !decide (Str.mk #[c] = ("-" : Str)) && !(!(Builtin.Str.occurrences b.s (Str.mk #[c]) 0 b.s.length 1).isEmpty)) (a.s.cps.toList.take k)
          rw [List.length_take] at this
          omega
        · rw [upd_same, tk, List.filter_append, List.filter_cons, if_pos (by rw [d, d2]; rfl), List.filter_nil, List.map_append]
          rfl
      · refine ⟨?_, e⟩
        rw [tk, List.filter_append, List.filter_cons, if_neg (by rw [Bool.eq_false_iff.mpr d2, Bool.and_false]; exact Bool.false_ne_true), List.filter_nil, List.append_nil]
        exact f
    · refine ⟨?_, e⟩
      rw [tk, List.filter_append, List.filter_cons, if_neg (by rw [Bool.eq_false_iff.mpr d, Bool.false_and]; exact Bool.false_ne_true), List.filter_nil, List.append_nil]
      exact f
  · rintro p h np ⟨f, e⟩
    walk_at "r"
    refine a_lenL (SqL.of f) ?_
    walk_at "r"
    have e2 := lw_len a b
    rw [List.length_map, show a.s.cps.size = a.s.cps.toList.length from rfl, List.take_length]
    generalize (a.s.cps.toList.filter fun c => !decide (Str.mk #[c] = ("-" : Str)) && !(!(Builtin.Str.occurrences b.s (Str.mk #[c]) 0 b.s.length 1).isEmpty)).length = n at e2 ⊢
    have e3 : decide (((n : Nat) : Int) = 0) = wi a b := by
      rw [← e2]
      cases n with
      | zero => rfl
      | succ n => rw [decide_eq_false (by omega)]; rfl
    rw [e3]
    exact q h e
def pLCv (K : PySem.W.Frag) (n : Nat) : Sp := pCv K n
theorem ok__law_converts (T : Tx K mg) : ∀ n : Nat, FnOk P w K mg base CX0 (n + 1) T.a__law_converts T.e__law_converts p__law_converts (pCv K n)
  | 0 => fn_none fun vs H Q E h => by
    obtain ⟨a, b, xs, ys, _, _, _, h, _⟩ := h
    omega
  | n + 1 => by
    have ih : FnOk P w K mg base CX0 (n + 1) T.a__law_converts T.e__law_converts p__law_converts (pCv K n) := ok__law_converts T n
    refine T.d__law_converts.F.ok sc__law_converts (fun vs H Q E h => ?_) (fun cdv A outer s H vs Q E hr h => ?_)
    · obtain ⟨a, b, xs, ys, rfl, _⟩ := h
      rfl
    obtain ⟨a, b, xs, ys, rfl, ha, hb, hn, q⟩ := h
    refine ⟨_, (pss_cons (ps_if (pt_cmpR op_ne (pe_callB (lenK K) (by rfl) T.b_len PySem.boot_len (pa_cons (pv 0) pa_nil)) (pe_callB (lenK K) (by rfl) T.b_len PySem.boot_len (pa_cons (pv 1) pa_nil)) (nomark _)) (pss_one (ps_ret pe_bl)) pss_nil)
    (pss_cons (ps_if (pt_cmpR op_eq (pe_callB (lenK K) (by rfl) T.b_len PySem.boot_len (pa_cons (pv 0) pa_nil)) pe_int (nomark _)) (pss_one (ps_ret pe_bl)) pss_nil)
    (pss_cons (ps_if (pt_not (pt_val (pe_call (ok__law_within T) (hr.mono (by omega)) (by rfl) T.d__law_within.m T.d__law_within.F.kp T.d__law_within.b .nil pass0 (pa_cons (pe_ix (ixT K) (pv 1) pe_int (fun _ _ => rfl)) (pa_cons (pe_ix (ixT K) (pv 0) pe_int (fun _ _ => rfl)) pa_nil))))) (pss_one (ps_ret pe_bl)) pss_nil)
    (pss_cons (ps_if (PW.pt (pw_and (pt_cmpR k_inS pe_str (pe_ix (ixT K) (pv 1) pe_int (fun _ _ => rfl)) (by rfl)) (pw_and1 (pt_not (pt_val (pe_call ih (hr.mono (by omega)) (by rfl) T.d__law_converts.m T.d__law_converts.F.kp T.d__law_converts.b .nil pass0 (pa_cons (pe_slice (slA K) (pv 0) (po_some pe_int) po_none) (pa_cons (pe_slice (slA K) (pv 1) (po_some pe_int) po_none) pa_nil)))))))) (pss_one (ps_ret pe_bl)) pss_nil)
    (pss_one (ps_ret (pe_or (pe_cmpR k_ninS pe_str (pe_ix (ixT K) (pv 1) pe_int (fun _ _ => rfl)) (by rfl)) (pe_one (pe_call ih (hr.mono (by omega)) (by rfl) T.d__law_converts.m T.d__law_converts.F.kp T.d__law_converts.b .nil pass0 (pa_cons (pe_slice (slA K) (pv 1) (po_some pe_int) po_none) (pa_cons (pe_slice (slA K) (pv 0) (po_some pe_int) po_none) pa_nil))))))))))), ?_⟩
    walk_at "r"
    refine a_lenT ha ?_
    walk_at "r"
    refine a_lenT hb ?_
    walk_at "r"
    refine ite2 (fun c => ?_) (fun c => ?_)
    · walk_at "r"
      have e : cv xs ys = false := cv_ne (by rw [tv_len, tv_len] at c; simp at c; omega)
      rw [← e]
      exact q _ (Ex.refl _)
    have hl : xs.length = ys.length := by rw [tv_len, tv_len] at c; simp at c; omega
    walk_at "r"
    refine a_lenT ha ?_
    walk_at "r"
    refine ite2 (fun c => ?_) (fun c => ?_)
    · walk_at "r"
      have h0 : xs.length = 0 := by rw [tv_len] at c; simpa using c
      have e1 : xs = [] := List.eq_nil_of_length_eq_zero h0
      have e2 : ys = [] := List.eq_nil_of_length_eq_zero (by omega)
      subst e1 e2
      rw [← cv_nil]
      exact q _ (Ex.refl _)
    match xs, ys, hl, ha, hb, hn, q, c with
    | [], _, _, _, _, _, _, c => exact absurd (by rfl) c
    | x :: xs, [], hl, _, _, _, _, _ => cases hl
    | x :: xs, y :: ys, hl, ha, hb, hn, q, _ =>
    have hl : xs.length = ys.length := by simpa using hl
    have hn : xs.length < n := by simpa using hn
    have hx := cv_cons (a := x) (b := y) hl
    rw [hx] at q
    clear hx
    walk_at "r"
    refine a_ixT (v := .str y.s) hb (atI_nat (j := 0) rfl) ?_
    walk_at "r"
    refine a_ixT (v := .str x.s) ha (atI_nat (j := 0) rfl) ?_
    walk_at "r"
    refine ⟨y, x, rfl, fun H0 e0 => ?_⟩
    have ha := ex_st ha e0
    have hb := ex_st hb e0
    walk_at "r"
    refine ite2 (fun c => ?_) (fun c => ?_)
    · walk_at "r"
      rw [(by simpa using c : wi y x = false)] at q
      exact q _ e0
    rw [(by simpa using c : wi y x = true)] at q
    walk_at "r"
    refine a_ixT (v := .str y.s) hb (atI_nat (j := 0) rfl) ?_
    refine a_inS (in_r y) ?_
    walk_at "r"
    have rest : ∀ H1, Ex H0 H1 → (!y.hr || cv xs ys) = true → ∀ D : Ends, (D.rt = Q) → (tRet (tOrV (tOp (qInS true) (tC (.str "w")) (tOp (rIxT K) (tVar 1) (tC (.int 0)))) (tCall (pCv K n) [] E0 (tCons (tSl (rSlA K) (tVar 1) (tPart (tC (.int 1))) tNoPart) (tCons (tSl (rSlA K) (tVar 0) (tPart (tC (.int 1))) tNoPart) tNil))))) D [some (.ref a), some (.ref b)] H1 := by
      rintro H1 e1 g D rfl
      have ha := ex_st ha e1
      have hb := ex_st hb e1
      walk_at "r"
      refine a_ixT (v := .str y.s) hb (atI_nat (j := 0) rfl) ?_
      refine a_ninS (in_w y) ?_
      walk_at "r"
      refine ite2 (fun d => ?_) (fun d => ?_)
      · rw [g, (by simpa using d : y.hw = false)] at q
        exact q _ (e0.trans e1)
      · rw [g, (by simpa using d : y.hw = true)] at q
        walk_at "r"
        refine a_slT1 hb fun c1 H2 n2 e2 f2 => ?_
        walk_at "r"
        refine a_slT1 (ex_st ha e2) fun c2 H3 n3 e3 f3 => ?_
        walk_at "r"
        refine ⟨c1, c2, ys, xs, rfl, by walk_at "st", by walk_at "st", by omega, fun H4 e4 => ?_⟩
        exact q H4 ((e0.trans e1).trans ((e2.trans e3).trans e4))
    refine ite2 (fun c => ?_) (fun c => ?_)
    · walk_at "r"
      refine a_slT1 ha fun c1 H2 n2 e2 f2 => ?_
      walk_at "r"
      refine a_slT1 (ex_st hb e2) fun c2 H3 n3 e3 f3 => ?_
      walk_at "r"
      refine ⟨c1, c2, xs, ys, rfl, by walk_at "st", by walk_at "st", hn, fun H4 e4 => ?_⟩
      walk_at "r"
      refine ite2 (fun d => ?_) (fun d => ?_)
      · walk_at "r"
        rw [c, (by simpa using d : cv xs ys = false)] at q
        exact q _ (e0.trans ((e2.trans e3).trans e4))
      · exact rest H4 ((e2.trans e3).trans e4) (by rw [c, (by simpa using d : cv xs ys = true)]; rfl) _ rfl
    · refine iteF ?_
      exact rest H0 (Ex.refl _) (by rw [Bool.eq_false_iff.mpr c]; rfl) _ rfl
def pLPl (K : PySem.W.Frag) : Sp := fun vs H Q _ => ∃ (a : Addr) (xs : List R), vs = [.ref a] ∧ SqT K H a (tv xs) ∧ xs.length ≤ 100 ∧ ∀ p H1, H p = none → Ex H H1 → Tu H1 p (tv (pl xs)) → Q (.ref p) H1
/-- the plain form, place by place -/
theorem pl_next : ∀ (xs : List R) (k : Nat) (x : R), xs[k]? = some x → (pl xs)[k]? = some (if R.n ∈ (pl xs).take k then R.n else x)
  | [], _, _, h => by simp at h
  | y :: ys, 0, x, h => by
    have e : y = x := Option.some.inj h
    subst e
    unfold pl
    by_cases hn : y = .n
    · rw [if_pos hn, hn]; rfl
    · rw [if_neg hn]; rfl
  | y :: ys, k + 1, x, h => by
    have h' : ys[k]? = some x := h
    unfold pl
    by_cases hn : y = .n
    · rw [if_pos hn, List.take_succ_cons, if_pos List.mem_cons_self]
      show (ys.map fun _ => R.n)[k]? = some R.n
      rw [List.getElem?_map, h']
      rfl
    · rw [if_neg hn, List.take_succ_cons]
      have ih := pl_next ys k x h'
      show (pl ys)[k]? = _
      rw [ih]
      have e : (R.n ∈ y :: (pl ys).take k) ↔ R.n ∈ (pl ys).take k := by
        rw [List.mem_cons]
        exact ⟨fun z => z.elim (fun z => absurd z.symm hn) id, .inr⟩
      simp only [e]
theorem ok__law_plain (T : Tx K mg) : FnOk P w K mg base CX0 1 T.a__law_plain T.e__law_plain p__law_plain (pLPl K) := by
  refine T.d__law_plain.F.ok sc__law_plain (fun vs H Q E h => ?_) (fun cdv A outer s H vs Q E hr h => ?_)
  · obtain ⟨a, xs, rfl, _⟩ := h
    rfl
  obtain ⟨a, xs, rfl, ha, hz, q⟩ := h
  refine ⟨_, (pss_cons (ps_set (i := 1) sc__law_plain.nd rfl (.inl rfl) (pe_lst pa_nil))
    (pss_cons (ps_for PassesOwn.never rfl (ptK K (pv 0)) (pg_name (i := 2) sc__law_plain.nd rfl (.inl rfl)) (pss_cons (ps_if (pt_cmpR (inK K) pe_str (pv 1) (by rfl)) (pss_one (ps_set (i := 2) sc__law_plain.nd rfl (.inl rfl) pe_str)) pss_nil)
    (pss_one (ps_expr (pe_bm PySem.F.plainAttrs_list PySem.F.slot_list_append PySem.F.type_list_append mt_append (pv 1) (pa_cons (pv 2) pa_nil))))))
    (pss_one (ps_ret (pe_callTy (tupFK K) (by rfl) T.b_tuple (by decide +kernel) (pa_cons (pv 1) pa_nil)))))), ?_⟩
  walk_at "r"
  refine new_lst (xs := []) (by simp) fun p H1 n1 e1 f1 => ?_
  walk_at "r"
  refine r_T (ex_st ha e1) ?_
  refine lp_tup (xs := tv xs) (fun k σ h => (∃ z, σ = [some (.ref a), some (.ref p), z]) ∧ Ex H h ∧ h p = some (.lst (tv ((pl xs).take k)))) ⟨⟨_, rfl⟩, e1, f1⟩ (fun k σ h _ ⟨_, e, _⟩ => ex_st ha e) ?_ ?_
  · rintro k v σ h hv ⟨⟨z, rfl⟩, e2, f2⟩
    obtain ⟨x, hx, rfl⟩ := tv_get hv
    have hk : k < xs.length := (List.getElem?_eq_some_iff.mp hx).1
    have hn := pl_next xs k x hx
    have tk : tv ((pl xs).take (k + 1)) = tv ((pl xs).take k) ++ [.str (if R.n ∈ (pl xs).take k then R.n else x).s] := by
      rw [List.take_add_one, hn]
      exact (tv_snoc _ _).symm
    have fin : ∀ (x' : R), (if R.n ∈ (pl xs).take k then R.n else x) = x' → tDrop (tBM K "list" rAppend (tVar 1) (tCons (tVar 2) tNil)) { nx := fun σ h => (∃ z, σ = [some (.ref a), some (.ref p), z]) ∧ Ex H h ∧ h p = some (.lst (tv ((pl xs).take (k + 1)))), rt := fun _ _ => False } [some (.ref a), some (.ref p), some (.str x'.s)] h → True := fun _ _ _ => trivial
    walk_at "r"
    refine a_inL (SqL.of f2) rfl (tv_flat _) ?_
    walk_at "r"
    rw [show inV (.str "-") (tv ((pl xs).take k)) = decide (R.n ∈ (pl xs).take k) from tv_in .n _]
    refine ite2 (fun c => ?_) (fun c => ?_)
    · have c' : R.n ∈ (pl xs).take k := of_decide_eq_true c
      rw [if_pos c'] at tk
      walk_at "r"
      refine ⟨a_ty f2, ?_⟩
      walk_at "r"
      refine a_app f2 (by rw [tv_len, List.length_take]; omega) ?_
      exact ⟨⟨_, rfl⟩, e2.mut n1, by rw [upd_same, tk]; rfl⟩
    · have c' : R.n ∉ (pl xs).take k := fun z => c (decide_eq_true z)
      rw [if_neg c'] at tk
      walk_at "r"
      refine ⟨a_ty f2, ?_⟩
      walk_at "r"
      refine a_app f2 (by rw [tv_len, List.length_take]; omega) ?_
      exact ⟨⟨_, rfl⟩, e2.mut n1, by rw [upd_same, tk]⟩
  · rintro σ h ⟨⟨z, rfl⟩, e2, f2⟩
    walk_at "r"
    have e3 : (pl xs).take (tv xs).length = pl xs := List.take_of_length_le (by rw [pl_len, tv_len]; exact Nat.le_refl _)
    rw [e3] at f2
    refine a_tupFL (SqL.of f2) fun p2 H2 n2 e3 f3 => ?_
    exact q p2 H2 (fresh_back e2 n2) (e2.trans e3) f3

theorem ok_RightsError_init (T : Tx K mg) : FnOk P w K mg base CX0 1 T.a_RightsError_init T.e_RightsError_init p_RightsError_init (pRe T.C_RightsError) := by
  refine T.d_RightsError_init.F.ok sc_RightsError_init (fun vs H Q E h => ?_) (fun cdv A outer s H vs Q E hr h => ?_)
  · obtain ⟨a, r, rfl, _⟩ := h
    rfl
  obtain ⟨a, r, rfl, fa, q⟩ := h
  refine ⟨_, (pss_cons (ps_expr (pe_veinit (by rfl) T.b_ValueError T.vV (pa_cons (pv 0) (pa_cons (pv 1) pa_nil))))
    (pss_one (ps_ost (pv 0) (pv 1)))), ?_⟩
  walk_at "r"
  refine ⟨a, T.C_RightsError, [.str r], rfl, (show 1 ≤ 1000 by decide), T.o_RightsError, fa, ?_⟩
  walk_at "r"
  refine ⟨a, T.C_RightsError, rfl, T.o_RightsError, T.n_RightsError_reason, .inl ⟨fa, fun dx n ne => ?_⟩⟩
  walk_at "r"
  exact q dx n ne

end
end Ver

set_option Elab.async false
set_option linter.all false
set_option maxRecDepth 100000
set_option maxHeartbeats 4000000
namespace Ver
open PySem PySem.Spec PyProof.Rows L2 Evl
local macro_rules | `(tactic| walk_at "s") => `(tactic| with_reducible first
  | refine w_seq ?_ | refine w_asg ?_ | refine w_name ?_ | refine w_if ?_ | refine w_ret ?_ | refine w_drop ?_ | refine w_next ?_ | refine w_brk ?_ | refine w_cont ?_
  | (refine w_var (v := ?vv) ?hh ?_; (case hh => with_unfolding_all exact rfl))
  | refine w_c ?_ | refine w_op ?_ | refine w_un ?_ | refine w_I0 ?_ | refine w_neg ?_ | refine w_eqI ?_ | refine w_neI ?_ | refine w_eqS ?_ | refine w_neS ?_ | refine w_eqB ?_ | refine w_neB ?_
  | refine w_test ?_ | refine w_B ?_ | refine w_and ?_ | refine w_or ?_ | refine w_not ?_ | refine w_andV ?_ | refine w_orV ?_ | refine w_notV ?_ | refine w_ifE ?_ | refine w_yes ?_
  | refine w_nil ?_ | refine w_cons ?_ | refine w_CB ?_ | refine w_callN ?_ | refine w_BM ?_ | refine w_BMT ?_ | refine w_BM0 ?_ | refine w_noPart ?_ | refine w_part ?_ | refine w_sl ?_ | refine w_tup ?_ | refine w_lst ?_
  | refine w_subG ?_ | refine w_gcons ?_ | refine w_gnil ?_ | refine w_for ?_ | refine w_lc ?_ | refine w_iR1 ?_ | refine w_iR2 ?_ | refine w_iL ?_ | refine w_iT ?_ | refine w_iS ?_
  | (show ∃ k, V.bl _ = V.bl k ∧ _; refine ⟨_, rfl, ?_⟩) | (show ∃ k, V.int _ = V.int k ∧ _; refine ⟨_, rfl, ?_⟩)
  | refine iteT ?_ | refine iteF ?_ | refine iteNT ?_ | refine iteNF ?_ | refine r_S ?_ | refine c_S ?_ | refine a_abs ?_ | refine a_intI ?_ | refine a_intB ?_ | refine w_par ?_ | refine w_dK ?_ | refine w_chain ?_ | (show ∃ v w, [_, _] = [v, w] ∧ _; refine ⟨_, _, rfl, ?_⟩)
  | refine w_getF ?_ | refine w_setF ?_ | refine w_newI ?_ | refine w_callS ?_ | refine w_getD1 ?_ | refine w_putD ?_ | refine w_veI ?_ | refine w_ostI ?_ | refine w_mkO ?_ | refine w_newS ?_ | refine w_xf ?_ | refine w_dget ?_ | refine w_din ?_ | refine w_dnin ?_ | refine w_iEn ?_ | refine w_iZp ?_ | refine w_dc ?_
  | refine a_isNn ?_ | refine a_isNr ?_ | refine a_notNn ?_ | refine a_notNr ?_ | refine a_isTy ?_ | refine a_notTy ?_ | refine a_isBl ?_ | refine a_notBl ?_)
local macro_rules | `(tactic| walk_at "r") => `(tactic| repeat walk_at "s")
local macro_rules | `(tactic| walk_at "tr") => `(tactic| first
  | assumption
  | (refine ex_at (H := ?H0) ?h1 ?h2; (case h2 => assumption); (case h1 => walk_at "tr"))
  | (refine ks_at (H := ?H0) (S := ?S0) ?h1 ?h2 ?h3; (case h2 => assumption); (case h3 => walk_at "nin"); (case h1 => walk_at "tr")))
local macro_rules | `(tactic| walk_at "nin") => `(tactic| first
  | exact nin_nil | (refine nin_cons ?h1 ?h2; (case h1 => walk_at "ne"); (case h2 => walk_at "nin")))
local macro_rules | `(tactic| walk_at "ne") => `(tactic| first
  | assumption | exact Ne.symm (by assumption)
  | (refine bx_nb (H := ?H0) (r := ?r0) ?h1 ?h2; (case h2 => assumption); (case h1 => walk_at "bx"))
  | (refine bx_nr (H := ?H0) (b := ?b0) ?h1 ?h2; (case h2 => assumption); (case h1 => walk_at "bx"))
  | (refine Ne.symm (bx_nb (H := ?H0) (r := ?r0) ?h1 ?h2); (case h2 => assumption); (case h1 => walk_at "bx"))
  | (refine ne_old (H := ?H0) (o := ?o0) ?h1 ?h2; (case h2 => assumption); (case h1 => walk_at "tr"))
  | (refine Ne.symm (ne_old (H := ?H0) (o := ?o0) ?h1 ?h2); (case h2 => assumption); (case h1 => walk_at "tr"))
  | exact (Tu.ne (by assumption) (by assumption)).1 | exact (Tu.ne (by assumption) (by assumption)).2
  | (refine bx_rb (H := ?H0) ?h1; (case h1 => walk_at "bx")))
local macro_rules | `(tactic| walk_at "tu") => `(tactic| first
  | assumption
  | (refine Tu.ex (H := ?H0) ?h1 ?h2; (case h2 => assumption); (case h1 => walk_at "tu"))
  | (refine Tu.ks (H := ?H0) (S := ?S0) ?h1 ?h2 ?h3; (case h2 => assumption); (case h3 => walk_at "nin"); (case h1 => walk_at "tu")))
local macro_rules | `(tactic| walk_at "bx") => `(tactic| first
  | assumption
  | (refine bx_ex (H := ?H0) ?h1 ?h2; (case h2 => assumption); (case h1 => walk_at "bx"))
  | (refine bx_ks (H := ?H0) (S := ?S0) ?h1 ?h2 ?h3 ?h4; (case h2 => assumption); (case h3 => walk_at "nin"); (case h4 => walk_at "nin"); (case h1 => walk_at "bx")))
local macro_rules | `(tactic| walk_at "sl") => `(tactic| first
  | assumption | (refine SqL.of ?h1; (case h1 => walk_at "tr"))
  | (refine ex_sl (H := ?H0) ?h1 ?h2; (case h2 => assumption); (case h1 => walk_at "sl"))
  | (refine ks_sl (H := ?H0) (S := ?S0) ?h1 ?h2 ?h3; (case h2 => assumption); (case h3 => walk_at "nin"); (case h1 => walk_at "sl")))
local macro_rules | `(tactic| walk_at "st") => `(tactic| first
  | assumption | (refine Tu.st ?h1; (case h1 => walk_at "tu")) | (refine SqT.of ?h1; (case h1 => walk_at "tr"))
  | (refine ex_st (H := ?H0) ?h1 ?h2; (case h2 => assumption); (case h1 => walk_at "st"))
  | (refine ks_st (H := ?H0) (S := ?S0) ?h1 ?h2 ?h3; (case h2 => assumption); (case h3 => walk_at "nin"); (case h1 => walk_at "st")))
local macro_rules | `(tactic| walk_at "ex") => `(tactic| first
  | exact Ex.refl _ | assumption | (refine Ex.trans (H1 := ?H0) ?h1 ?h2; (case h2 => assumption); (case h1 => walk_at "ex")))
local macro_rules | `(tactic| walk_at "ks") => `(tactic| first
  | exact Ks.refl _ _ | assumption | (refine Ks.of ?h1; (case h1 => assumption)) | (refine Ks.trans (H1 := ?H0) ?h1 ?h2; (case h2 => first | assumption | (refine Ks.of ?h3; (case h3 => assumption))); (case h1 => walk_at "ks")))
local macro_rules | `(tactic| walk_at "dp") => `(tactic| first
  | exact Dp.str _ | exact Dp.int _ | exact Dp.bl _ | exact Dp.non | assumption | exact LsAt.dp (by assumption)
  | (refine dp_ex (H := ?H0) ?h1 ?h2; (case h1 => assumption); (case h2 => walk_at "dp")))
local macro_rules | `(tactic| walk_at "ev") => `(tactic| with_reducible first
  | exact ev_nil | refine ev_cons ?_ ?_ | exact ev_m1 | exact ev_str | exact ev_int | exact ev_bl | exact ev_non
  | (refine ev_tup ?hal ?_ ?hle; (case hal => assumption); (case hle => with_unfolding_all exact Nat.le_of_ble_eq_true rfl))
  | (refine ev_ll (ev_lst ?hal ?_ ?hle); (case hal => assumption); (case hle => with_unfolding_all exact Nat.le_of_ble_eq_true rfl))
  | (refine ev_ll (ev_rep (n := ?nn) ?hal ?_ ?he ?hz); (case he => with_unfolding_all exact rfl); (case hal => assumption); (case hz => with_unfolding_all omega))
  | (refine ev_lst ?hal ?_ ?hle; (case hal => assumption); (case hle => with_unfolding_all exact Nat.le_of_ble_eq_true rfl))
  | (refine ev_lt ?he; (case he => with_unfolding_all exact rfl))
  | (refine ev_let ?hal ?_ ?hs; (case hal => assumption); (case hs => with_unfolding_all first | decide +kernel | rfl))
  | (refine ev_var (v := ?vv) ?he ?hd; (case he => with_unfolding_all exact rfl); (case hd => with_unfolding_all walk_at "dp")))

section
variable {P : Program} {w : World} {K : PySem.W.Frag} {mg : Str → Option Value} {base : Heap}
theorem srtK (K : PySem.W.Frag) {X : Cx} (hu : X.A.units + 64 < cLine) (h : X.K = K := by rfl) : CallR X (.builtin "sorted") (rSortT K) := by subst h; exact cr_sortedT hu
/-! ## two fors in one comprehension -/
def InG (J1 : It) (g1 : TG) (tt1 : TT) (te : TE) (vs1 : List Nat) (σ2 : L2.St) (D : Addr) (Nx : Hp → Prop) (H4 : Hp) : Prop := ∃ W1 : Nat → Nat → Hp → Prop, (∃ m, W1 0 m H4) ∧ ∀ j k H, W1 j k H →
  (J1.stop j H ∧ Nx H) ∨ (J1.go j H ∧ ∃ Nx1 : Hp → Prop, (∀ H', Nx1 H' → ∃ k', k' < k ∧ W1 (j + 1) k' H') ∧ ∀ x H', J1.yld j H x H' → g1 x (wipe σ2 vs1) H' fun σ3 H5 => wipe σ3 vs1 = wipe σ2 vs1 ∧ tt1 σ3 H5 fun b H6 =>
    if b = true then te σ3 H6 fun y H7 => ∃ acc, H7 D = some (.lst acc) ∧ acc.length < sizeLine ∧ Nx1 (upd H7 D (.lst (acc ++ [y]))) else Nx1 H6)
def Comp2G (J : It) (g : TG) (tt : TT) (wi1 : TI) (g1 : TG) (tt1 : TT) (te : TE) (vs vs1 : List Nat) (σ : L2.St) (H : Hp) (Q : VK) : Prop := tLc2 (fun _ h R => R J h) g tt wi1 g1 tt1 te vs vs1 σ H Q
theorem w_lc2 {wi : TI} {g : TG} {tt : TT} {wi1 : TI} {g1 : TG} {tt1 : TT} {te : TE} {vs vs1 : List Nat} {σ : L2.St} {H : Hp} {Q : VK} (h : wi σ H fun J Ha => Comp2G J g tt wi1 g1 tt1 te vs vs1 σ Ha Q) : tLc2 wi g tt wi1 g1 tt1 te vs vs1 σ H Q := h
theorem c2_T {K : PySem.W.Frag} {p : Addr} {xs : List V} {g : TG} {tt : TT} {wi1 : TI} {g1 : TG} {tt1 : TT} {te : TE} {vs vs1 : List Nat} {σ : L2.St} {H : Hp} {Q : VK} (hx : SqT K H p xs) (h : Comp2G (Itt K p) g tt wi1 g1 tt1 te vs vs1 σ H Q) : ∃ q, V.ref p = .ref q ∧ (∃ xs, SqT K H q xs) ∧ Comp2G (Itt K q) g tt wi1 g1 tt1 te vs vs1 σ H Q := ⟨p, rfl, ⟨xs, hx⟩, h⟩
theorem in_L {K : PySem.W.Frag} {p : Addr} {xs : List V} {g1 : TG} {tt1 : TT} {te : TE} {vs1 : List Nat} {σ2 : L2.St} {D : Addr} {Nx : Hp → Prop} {H : Hp} (hx : SqL K H p xs) (h : InG (Itl K p) g1 tt1 te vs1 σ2 D Nx H) : ∃ q, V.ref p = .ref q ∧ (∃ xs, SqL K H q xs) ∧ InG (Itl K q) g1 tt1 te vs1 σ2 D Nx H := ⟨p, rfl, ⟨xs, hx⟩, h⟩
theorem cp2_tup {K : PySem.W.Frag} {a : Addr} {xs : List V} {g : TG} {tt : TT} {wi1 : TI} {g1 : TG} {tt1 : TT} {te : TE} {vs vs1 : List Nat} {σ : L2.St} {H : Hp} {Q : VK} (P : Addr → Nat → Hp → Prop) (h0 : ∀ p, H p = none → P p 0 (upd H p (.lst []))) (hl : ∀ p k h, H p = none → k ≤ xs.length → P p k h → SqT K h a xs)
    (hs : ∀ p k x h, H p = none → xs[k]? = some x → P p k h → g x (wipe σ vs) h fun s2 h2 => wipe s2 vs = wipe σ vs ∧ tt s2 h2 fun b h3 =>
      if b = true then wi1 s2 h3 fun J1 h4 => InG J1 g1 tt1 te vs1 s2 p (P p (k + 1)) h4 else P p (k + 1) h3)
    (hd : ∀ p h, H p = none → P p xs.length h → Q (.ref p) h) : Comp2G (Itt K a) g tt wi1 g1 tt1 te vs vs1 σ H Q := fun p hp => by
  refine ⟨fun i m h => m = xs.length - i ∧ i ≤ xs.length ∧ P p i h, ⟨xs.length, by simp, Nat.zero_le _, h0 p hp⟩, ?_⟩
  rintro i m h ⟨rfl, hi, c⟩
  have q := hl p i h hp hi c
  by_cases hlt : i < xs.length
  · refine .inr ⟨⟨xs, xs[i], q, by simp [hlt]⟩, P p (i + 1), fun H' p' => ⟨xs.length - (i + 1), by omega, rfl, hlt, p'⟩, fun x H' y => ?_⟩
    obtain ⟨e, y⟩ := y
    subst e
    exact hs p i x _ hp (y xs q) c
  · have e : i = xs.length := by omega
    subst e
    exact .inl ⟨⟨xs, q, Nat.le_refl _⟩, hd p h hp c⟩
theorem in_list {K : PySem.W.Frag} {a : Addr} {xs : List V} {g1 : TG} {tt1 : TT} {te : TE} {vs1 : List Nat} {σ2 : L2.St} {D : Addr} {Nx : Hp → Prop} {H : Hp} (P : Nat → Hp → Prop) (h0 : P 0 H) (hl : ∀ k h, k ≤ xs.length → P k h → SqL K h a xs)
    (hs : ∀ k x h, xs[k]? = some x → P k h → g1 x (wipe σ2 vs1) h fun σ3 H5 => wipe σ3 vs1 = wipe σ2 vs1 ∧ tt1 σ3 H5 fun b H6 =>
      if b = true then te σ3 H6 fun y H7 => ∃ acc, H7 D = some (.lst acc) ∧ acc.length < sizeLine ∧ P (k + 1) (upd H7 D (.lst (acc ++ [y]))) else P (k + 1) H6)
    (hd : ∀ h, P xs.length h → Nx h) : InG (Itl K a) g1 tt1 te vs1 σ2 D Nx H := by
  refine ⟨fun i m h => m = xs.length - i ∧ i ≤ xs.length ∧ P i h, ⟨xs.length, by simp, Nat.zero_le _, h0⟩, ?_⟩
  rintro i m h ⟨rfl, hi, c⟩
  have q := hl i h hi c
  by_cases hlt : i < xs.length
  · refine .inr ⟨⟨xs, xs[i], q, by simp [hlt]⟩, P (i + 1), fun H' p' => ⟨xs.length - (i + 1), by omega, rfl, hlt, p'⟩, fun x H' y => ?_⟩
    obtain ⟨e, y⟩ := y
    subst e
    exact hs i x _ (y xs q) c
  · have e : i = xs.length := by omega
    subst e
    exact .inl ⟨⟨xs, q, Nat.le_refl _⟩, hd h c⟩
/-- a list of tuples of rights -/
def TL (K : PySem.W.Frag) (H : Hp) : List V → List (List R) → Prop
  | [], [] => True
  | v :: vs, f :: fs => (∃ a, v = .ref a ∧ SqT K H a (tv f)) ∧ TL K H vs fs
  | _, _ => False
theorem TL.up {H H1 : Hp} (e : Ex H H1) : ∀ {vs : List V} {fs : List (List R)}, TL K H vs fs → TL K H1 vs fs
  | [], [], _ => trivial
  | v :: vs, f :: fs, h => by
    obtain ⟨⟨a, h1, h2⟩, t⟩ := h
    exact ⟨⟨a, h1, ex_st h2 e⟩, TL.up e t⟩
  | [], _ :: _, h => h.elim
  | _ :: _, [], h => h.elim
theorem TL.len {H : Hp} : ∀ {vs : List V} {fs : List (List R)}, TL K H vs fs → vs.length = fs.length
  | [], [], _ => rfl
  | v :: vs, f :: fs, h => congrArg (· + 1) (TL.len h.2)
  | [], _ :: _, h => h.elim
  | _ :: _, [], h => h.elim
theorem TL.get {H : Hp} : ∀ {vs : List V} {fs : List (List R)} {k : Nat} {v : V}, TL K H vs fs → vs[k]? = some v → ∃ f a, fs[k]? = some f ∧ v = .ref a ∧ SqT K H a (tv f)
  | [], [], _, _, _, e => by simp at e
  | x :: vs, f :: fs, 0, v, h, e => by
    cases Option.some.inj e
    obtain ⟨⟨a, h1, h2⟩, _⟩ := h
    exact ⟨f, a, rfl, h1, h2⟩
  | x :: vs, f :: fs, k + 1, v, h, e => TL.get (k := k) h.2 e
  | [], _ :: _, _, _, h, _ => h.elim
  | _ :: _, [], _, _, h, _ => h.elim
theorem TL.app {H : Hp} : ∀ {vs ws : List V} {fs gs : List (List R)}, TL K H vs fs → TL K H ws gs → TL K H (vs ++ ws) (fs ++ gs)
  | [], _, [], _, _, h => h
  | v :: vs, ws, f :: fs, gs, h, g => ⟨h.1, TL.app h.2 g⟩
  | [], _, _ :: _, _, h, _ => h.elim
  | _ :: _, _, [], _, h, _ => h.elim
theorem TL.one {H : Hp} {a : Addr} {f : List R} (h : SqT K H a (tv f)) : TL K H [.ref a] [f] := ⟨⟨a, rfl, h⟩, trivial⟩
/-- is_least, is_greatest -/
def pIsL (K : PySem.W.Frag) (le : List R → List R → Bool) : Sp := fun vs H Q _ => ∃ a p f xs fs n, vs = [.ref a, .ref p] ∧ SqT K H a (tv f) ∧ SqL K H p xs ∧ TL K H xs fs ∧ f.length = n ∧ (∀ g ∈ fs, g.length = n) ∧ n < 7 ∧ RV1 (.bl (fs.all fun o => decide (o = f) || !le o f)) H Q
theorem ok_is_least (T : Tx K mg) : FnOk P w K mg base CX0 9 T.a_is_least T.e_is_least p_is_least (pIsL K cv) := by
  refine T.d_is_least.F.ok sc_is_least (fun vs H Q E h => ?_) (fun cdv A outer s H vs Q E hr h => ?_)
  · obtain ⟨a, p, f, xs, fs, n, rfl, _⟩ := h
    rfl
  obtain ⟨a, p, f, xs, fs, n, rfl, ha, hp, tl, hf, hfs, hn, q⟩ := h
  refine ⟨_, (pss_cons (ps_for PassesOwn.never rfl (plK K (pv 1)) (pg_name (i := 2) sc_is_least.nd rfl (.inl rfl)) (pss_one (ps_if (PW.pt (pw_and (pt_cmpR (neDK K hr.units) (pv 2) (pv 0) (nomark _)) (pw_and1 (pt_val (pe_call (ok_converts T 7) (hr.mono (by omega)) (by rfl) T.d_converts.m T.d_converts.F.kp T.d_converts.b .nil pass0 (pa_cons (pv 2) (pa_cons (pv 0) pa_nil))))))) (pss_one (ps_ret pe_bl)) pss_nil)))
    (pss_one (ps_ret pe_bl))), ?_⟩
  walk_at "r"
  refine r_L hp ?_
  refine lp_list (xs := xs) (fun k σ h => (∃ x2, σ = [some (.ref a), some (.ref p), x2]) ∧ Ex H h ∧ ((fs.take k).all fun o => decide (o = f) || !cv o f) = true) ⟨⟨_, rfl⟩, Ex.refl _, rfl⟩ (fun k σ h _ g => ex_sl hp g.2.1) ?_ ?_
  · rintro k v σ h hv ⟨⟨x2, rfl⟩, e, hk⟩
    obtain ⟨o, b, ho, rfl, hb⟩ := tl.get hv
    have om := List.mem_of_getElem? ho
    have step : (decide (o = f) || !cv o f) = true → ((fs.take (k + 1)).all fun o => decide (o = f) || !cv o f) = true := fun z => by
      rw [take_snoc ho, List.all_append, hk]
      simp only [List.all_cons, List.all_nil, z]
      rfl
    have bad : (decide (o = f) || !cv o f) = false → (fs.all fun o => decide (o = f) || !cv o f) = false := fun z => by
      cases y : fs.all fun o => decide (o = f) || !cv o f with
      | false => rfl
      | true =>
        have := List.all_eq_true.mp y o om
        rw [z] at this
        cases this
    walk_at "r"
    refine a_neU (ex_st hb e) (ex_st ha e) ?_
    walk_at "r"
    refine ite2 (fun c => ?_) (fun c => ?_)
    · walk_at "r"
      refine ⟨b, a, o, f, rfl, ex_st hb e, ex_st ha e, by rw [hfs o om]; omega, fun H2 e2 => ?_⟩
      walk_at "r"
      have ne : o ≠ f := by simpa using c
      refine ite2 (fun d => ?_) (fun d => ?_)
      · walk_at "r"
        have := q H2 (e.trans e2)
        rw [bad (by rw [decide_eq_false ne, d]; rfl)] at this
        exact this
      · walk_at "r"
        exact ⟨⟨_, rfl⟩, e.trans e2, step (by rw [nf d]; simp)⟩
    · walk_at "r"
      have eq : o = f := by simpa using c
      exact ⟨⟨_, rfl⟩, e, step (by rw [decide_eq_true eq]; rfl)⟩
  · rintro σ h ⟨⟨x2, rfl⟩, e, hk⟩
    walk_at "r"
    have := q h e
    rw [tl.len, List.take_length] at hk
    rw [hk] at this
    exact this
theorem ok_is_greatest (T : Tx K mg) : FnOk P w K mg base CX0 9 T.a_is_greatest T.e_is_greatest p_is_greatest (pIsL K fun a b => cv b a) := by
  refine T.d_is_greatest.F.ok sc_is_greatest (fun vs H Q E h => ?_) (fun cdv A outer s H vs Q E hr h => ?_)
  · obtain ⟨a, p, f, xs, fs, n, rfl, _⟩ := h
    rfl
  obtain ⟨a, p, f, xs, fs, n, rfl, ha, hp, tl, hf, hfs, hn, q⟩ := h
  refine ⟨_, (pss_cons (ps_for PassesOwn.never rfl (plK K (pv 1)) (pg_name (i := 2) sc_is_greatest.nd rfl (.inl rfl)) (pss_one (ps_if (PW.pt (pw_and (pt_cmpR (neDK K hr.units) (pv 2) (pv 0) (nomark _)) (pw_and1 (pt_val (pe_call (ok_converts T 7) (hr.mono (by omega)) (by rfl) T.d_converts.m T.d_converts.F.kp T.d_converts.b .nil pass0 (pa_cons (pv 0) (pa_cons (pv 2) pa_nil))))))) (pss_one (ps_ret pe_bl)) pss_nil)))
    (pss_one (ps_ret pe_bl))), ?_⟩
  walk_at "r"
  refine r_L hp ?_
  refine lp_list (xs := xs) (fun k σ h => (∃ x2, σ = [some (.ref a), some (.ref p), x2]) ∧ Ex H h ∧ ((fs.take k).all fun o => decide (o = f) || !cv f o) = true) ⟨⟨_, rfl⟩, Ex.refl _, rfl⟩ (fun k σ h _ g => ex_sl hp g.2.1) ?_ ?_
  · rintro k v σ h hv ⟨⟨x2, rfl⟩, e, hk⟩
    obtain ⟨o, b, ho, rfl, hb⟩ := tl.get hv
    have om := List.mem_of_getElem? ho
    have step : (decide (o = f) || !cv f o) = true → ((fs.take (k + 1)).all fun o => decide (o = f) || !cv f o) = true := fun z => by
      rw [take_snoc ho, List.all_append, hk]
      simp only [List.all_cons, List.all_nil, z]
      rfl
    have bad : (decide (o = f) || !cv f o) = false → (fs.all fun o => decide (o = f) || !cv f o) = false := fun z => by
      cases y : fs.all fun o => decide (o = f) || !cv f o with
      | false => rfl
      | true =>
        have := List.all_eq_true.mp y o om
        rw [z] at this
        cases this
    walk_at "r"
    refine a_neU (ex_st hb e) (ex_st ha e) ?_
    walk_at "r"
    refine ite2 (fun c => ?_) (fun c => ?_)
    · walk_at "r"
      refine ⟨a, b, f, o, rfl, ex_st ha e, ex_st hb e, by omega, fun H2 e2 => ?_⟩
      walk_at "r"
      have ne : o ≠ f := by simpa using c
      refine ite2 (fun d => ?_) (fun d => ?_)
      · walk_at "r"
        have := q H2 (e.trans e2)
        rw [bad (by rw [decide_eq_false ne, d]; rfl)] at this
        exact this
      · walk_at "r"
        exact ⟨⟨_, rfl⟩, e.trans e2, step (by rw [nf d]; simp)⟩
    · walk_at "r"
      have eq : o = f := by simpa using c
      exact ⟨⟨_, rfl⟩, e, step (by rw [decide_eq_true eq]; rfl)⟩
  · rintro σ h ⟨⟨x2, rfl⟩, e, hk⟩
    walk_at "r"
    have := q h e
    rw [tl.len, List.take_length] at hk
    rw [hk] at this
    exact this

end
end Ver

set_option Elab.async false
set_option linter.all false
set_option maxRecDepth 100000
set_option maxHeartbeats 4000000
namespace Ver
open PySem PySem.Spec PyProof.Rows L2 Evl
local macro_rules | `(tactic| walk_at "s") => `(tactic| with_reducible first
  | refine w_seq ?_ | refine w_asg ?_ | refine w_name ?_ | refine w_if ?_ | refine w_ret ?_ | refine w_drop ?_ | refine w_next ?_ | refine w_brk ?_ | refine w_cont ?_
  | (refine w_var (v := ?vv) ?hh ?_; (case hh => with_unfolding_all exact rfl))
  | refine w_c ?_ | refine w_op ?_ | refine w_un ?_ | refine w_I0 ?_ | refine w_neg ?_ | refine w_eqI ?_ | refine w_neI ?_ | refine w_eqS ?_ | refine w_neS ?_ | refine w_eqB ?_ | refine w_neB ?_
  | refine w_test ?_ | refine w_B ?_ | refine w_and ?_ | refine w_or ?_ | refine w_not ?_ | refine w_andV ?_ | refine w_orV ?_ | refine w_notV ?_ | refine w_ifE ?_ | refine w_yes ?_
  | refine w_nil ?_ | refine w_cons ?_ | refine w_CB ?_ | refine w_callN ?_ | refine w_BM ?_ | refine w_BMT ?_ | refine w_BM0 ?_ | refine w_noPart ?_ | refine w_part ?_ | refine w_sl ?_ | refine w_tup ?_ | refine w_lst ?_
  | refine w_subG ?_ | refine w_gcons ?_ | refine w_gnil ?_ | refine w_for ?_ | refine w_lc ?_ | refine w_iR1 ?_ | refine w_iR2 ?_ | refine w_iL ?_ | refine w_iT ?_ | refine w_iS ?_
  | (show ∃ k, V.bl _ = V.bl k ∧ _; refine ⟨_, rfl, ?_⟩) | (show ∃ k, V.int _ = V.int k ∧ _; refine ⟨_, rfl, ?_⟩)
  | refine iteT ?_ | refine iteF ?_ | refine iteNT ?_ | refine iteNF ?_ | refine r_S ?_ | refine c_S ?_ | refine a_abs ?_ | refine a_intI ?_ | refine a_intB ?_ | refine w_par ?_ | refine w_dK ?_ | refine w_chain ?_ | (show ∃ v w, [_, _] = [v, w] ∧ _; refine ⟨_, _, rfl, ?_⟩)
  | refine w_getF ?_ | refine w_setF ?_ | refine w_newI ?_ | refine w_callS ?_ | refine w_getD1 ?_ | refine w_putD ?_ | refine w_veI ?_ | refine w_ostI ?_ | refine w_mkO ?_ | refine w_newS ?_ | refine w_xf ?_ | refine w_dget ?_ | refine w_din ?_ | refine w_dnin ?_ | refine w_iEn ?_ | refine w_iZp ?_ | refine w_dc ?_
  | refine a_isNn ?_ | refine a_isNr ?_ | refine a_notNn ?_ | refine a_notNr ?_ | refine a_isTy ?_ | refine a_notTy ?_ | refine a_isBl ?_ | refine a_notBl ?_)
local macro_rules | `(tactic| walk_at "r") => `(tactic| repeat walk_at "s")
local macro_rules | `(tactic| walk_at "tr") => `(tactic| first
  | assumption
  | (refine ex_at (H := ?H0) ?h1 ?h2; (case h2 => assumption); (case h1 => walk_at "tr"))
  | (refine ks_at (H := ?H0) (S := ?S0) ?h1 ?h2 ?h3; (case h2 => assumption); (case h3 => walk_at "nin"); (case h1 => walk_at "tr")))
local macro_rules | `(tactic| walk_at "nin") => `(tactic| first
  | exact nin_nil | (refine nin_cons ?h1 ?h2; (case h1 => walk_at "ne"); (case h2 => walk_at "nin")))
local macro_rules | `(tactic| walk_at "ne") => `(tactic| first
  | assumption | exact Ne.symm (by assumption)
  | (refine bx_nb (H := ?H0) (r := ?r0) ?h1 ?h2; (case h2 => assumption); (case h1 => walk_at "bx"))
  | (refine bx_nr (H := ?H0) (b := ?b0) ?h1 ?h2; (case h2 => assumption); (case h1 => walk_at "bx"))
  | (refine Ne.symm (bx_nb (H := ?H0) (r := ?r0) ?h1 ?h2); (case h2 => assumption); (case h1 => walk_at "bx"))
  | (refine ne_old (H := ?H0) (o := ?o0) ?h1 ?h2; (case h2 => assumption); (case h1 => walk_at "tr"))
  | (refine Ne.symm (ne_old (H := ?H0) (o := ?o0) ?h1 ?h2); (case h2 => assumption); (case h1 => walk_at "tr"))
  | exact (Tu.ne (by assumption) (by assumption)).1 | exact (Tu.ne (by assumption) (by assumption)).2
  | (refine bx_rb (H := ?H0) ?h1; (case h1 => walk_at "bx")))
local macro_rules | `(tactic| walk_at "tu") => `(tactic| first
  | assumption
  | (refine Tu.ex (H := ?H0) ?h1 ?h2; (case h2 => assumption); (case h1 => walk_at "tu"))
  | (refine Tu.ks (H := ?H0) (S := ?S0) ?h1 ?h2 ?h3; (case h2 => assumption); (case h3 => walk_at "nin"); (case h1 => walk_at "tu")))
local macro_rules | `(tactic| walk_at "bx") => `(tactic| first
  | assumption
  | (refine bx_ex (H := ?H0) ?h1 ?h2; (case h2 => assumption); (case h1 => walk_at "bx"))
  | (refine bx_ks (H := ?H0) (S := ?S0) ?h1 ?h2 ?h3 ?h4; (case h2 => assumption); (case h3 => walk_at "nin"); (case h4 => walk_at "nin"); (case h1 => walk_at "bx")))
local macro_rules | `(tactic| walk_at "sl") => `(tactic| first
  | assumption | (refine SqL.of ?h1; (case h1 => walk_at "tr"))
  | (refine ex_sl (H := ?H0) ?h1 ?h2; (case h2 => assumption); (case h1 => walk_at "sl"))
  | (refine ks_sl (H := ?H0) (S := ?S0) ?h1 ?h2 ?h3; (case h2 => assumption); (case h3 => walk_at "nin"); (case h1 => walk_at "sl")))
local macro_rules | `(tactic| walk_at "st") => `(tactic| first
  | assumption | (refine Tu.st ?h1; (case h1 => walk_at "tu")) | (refine SqT.of ?h1; (case h1 => walk_at "tr"))
  | (refine ex_st (H := ?H0) ?h1 ?h2; (case h2 => assumption); (case h1 => walk_at "st"))
  | (refine ks_st (H := ?H0) (S := ?S0) ?h1 ?h2 ?h3; (case h2 => assumption); (case h3 => walk_at "nin"); (case h1 => walk_at "st")))
local macro_rules | `(tactic| walk_at "ex") => `(tactic| first
  | exact Ex.refl _ | assumption | (refine Ex.trans (H1 := ?H0) ?h1 ?h2; (case h2 => assumption); (case h1 => walk_at "ex")))
local macro_rules | `(tactic| walk_at "ks") => `(tactic| first
  | exact Ks.refl _ _ | assumption | (refine Ks.of ?h1; (case h1 => assumption)) | (refine Ks.trans (H1 := ?H0) ?h1 ?h2; (case h2 => first | assumption | (refine Ks.of ?h3; (case h3 => assumption))); (case h1 => walk_at "ks")))
local macro_rules | `(tactic| walk_at "dp") => `(tactic| first
  | exact Dp.str _ | exact Dp.int _ | exact Dp.bl _ | exact Dp.non | assumption | exact LsAt.dp (by assumption)
  | (refine dp_ex (H := ?H0) ?h1 ?h2; (case h1 => assumption); (case h2 => walk_at "dp")))
local macro_rules | `(tactic| walk_at "ev") => `(tactic| with_reducible first
  | exact ev_nil | refine ev_cons ?_ ?_ | exact ev_m1 | exact ev_str | exact ev_int | exact ev_bl | exact ev_non
  | (refine ev_tup ?hal ?_ ?hle; (case hal => assumption); (case hle => with_unfolding_all exact Nat.le_of_ble_eq_true rfl))
  | (refine ev_ll (ev_lst ?hal ?_ ?hle); (case hal => assumption); (case hle => with_unfolding_all exact Nat.le_of_ble_eq_true rfl))
  | (refine ev_ll (ev_rep (n := ?nn) ?hal ?_ ?he ?hz); (case he => with_unfolding_all exact rfl); (case hal => assumption); (case hz => with_unfolding_all omega))
  | (refine ev_lst ?hal ?_ ?hle; (case hal => assumption); (case hle => with_unfolding_all exact Nat.le_of_ble_eq_true rfl))
  | (refine ev_lt ?he; (case he => with_unfolding_all exact rfl))
  | (refine ev_let ?hal ?_ ?hs; (case hal => assumption); (case hs => with_unfolding_all first | decide +kernel | rfl))
  | (refine ev_var (v := ?vv) ?he ?hd; (case he => with_unfolding_all exact rfl); (case hd => with_unfolding_all walk_at "dp")))

section
variable {P : Program} {w : World} {K : PySem.W.Frag} {mg : Str → Option Value} {base : Heap}
theorem TL.kt {H H1 : Hp} (e : Kt H H1) : ∀ {vs : List V} {fs : List (List R)}, TL K H vs fs → TL K H1 vs fs
  | [], [], _ => trivial
  | v :: vs, f :: fs, h => by
    obtain ⟨⟨a, h1, h2⟩, t⟩ := h
    exact ⟨⟨a, h1, st_kt e h2⟩, TL.kt e t⟩
  | [], _ :: _, h => h.elim
  | _ :: _, [], h => h.elim
theorem TL.snoc {H : Hp} {vs : List V} {fs : List (List R)} {a : Addr} {f : List R} (h : TL K H vs fs) (g : SqT K H a (tv f)) : TL K H (vs ++ [.ref a]) (fs ++ [f]) := h.app (TL.one g)
theorem pfs_len : ∀ n ≤ 4, (pfs n).length ≤ 200 := by decide +kernel
def pPf (K : PySem.W.Frag) (m : Nat) : Sp := fun vs H Q _ => ∃ n : Nat, vs = [.int (n : Int)] ∧ n < m ∧ n ≤ 4 ∧ ∀ l vs H1, H l = none → Ex H H1 → H1 l = some (.lst vs) → TL K H1 vs (pfs n) → Q (.ref l) H1
theorem ok_plain_forms (T : Tx K mg) : ∀ m : Nat, FnOk P w K mg base CX0 (m + 1) T.a_plain_forms T.e_plain_forms p_plain_forms (pPf K m)
  | 0 => fn_none fun vs H Q E h => by
    obtain ⟨n, _, h, _⟩ := h
    omega
  | m + 1 => by
    have ih : FnOk P w K mg base CX0 (m + 1) T.a_plain_forms T.e_plain_forms p_plain_forms (pPf K m) := ok_plain_forms T m
    refine T.d_plain_forms.F.ok sc_plain_forms (fun vs H Q E h => ?_) (fun cdv A outer s H vs Q E hr h => ?_)
    · obtain ⟨n, rfl, _⟩ := h
      rfl
    obtain ⟨n, rfl, hm, h4, q⟩ := h
    refine ⟨_, (pss_cons (ps_if (pt_cmpR op_eq (pv 0) pe_int (nomark _)) (pss_one (ps_ret (pe_lst (pa_cons (pe_tup pa_nil) pa_nil)))) pss_nil)
    (pss_cons (ps_set (i := 1) sc_plain_forms.nd rfl (.inr rfl) (pe_call ih (hr.mono (by omega)) (by rfl) T.d_plain_forms.m T.d_plain_forms.F.kp T.d_plain_forms.b .nil pass0 (pa_cons (pe_op op_sub (pv 0) pe_int) pa_nil)))
    (pss_cons (ps_setLc2 (i := 2) (own := [("right", 3), ("rest", 4)]) (vs1 := [4]) (g := gName 3) (g1 := gName 4) rfl sc_plain_forms.nd rfl rfl (sw_true rfl rfl rfl (by decide +kernel)) (ptK K (pe_tup (pa_cons pe_str (pa_cons pe_str (pa_cons pe_str pa_nil))))) (blkOk_by (own := [("right", 3), ("rest", 4)]) (N := n_plain_forms) (sc := defScope s_plain_forms) (by decide +kernel)) (by decide) (fun _ _ _ _ _ => (pg_name (i := 3) sc_plain_forms.nd rfl (Or.inl rfl))) (fun _ _ _ _ _ => pts_nil) (fun _ _ _ _ _ => (plK K (pv 1))) (fun _ _ _ _ _ => (pg_name (i := 4) sc_plain_forms.nd rfl (Or.inl rfl))) (fun _ _ _ _ _ => pts_nil) (fun _ _ _ _ _ => (pe_op (catAK K) (pe_tup (pa_cons (pv 3) pa_nil)) (pv 4))))
    (pss_one (ps_ret (pe_op op_cat (pe_lst (pa_cons (pe_op (repAK K) (pe_tup (pa_cons pe_str pa_nil)) (pv 0)) pa_nil)) (pv 2))))))), ?_⟩
    walk_at "r"
    refine ite2 (fun c => ?_) (fun c => ?_)
    · have n0 : n = 0 := by have := of_decide_eq_true c; omega
      subst n0
      walk_at "r"
      refine new_tup (xs := []) (by simp) fun t H1 n1 e1 f1 => ?_
      walk_at "r"
      refine new_lst (by simp) fun l H2 n2 e2 f2 => ?_
      exact q l _ H2 (ex_none e1 n2) (e1.trans e2) f2 (TL.one (f := []) (SqT.of (e2 _ _ f1)))
    · have n0 : n ≠ 0 := fun z => c (by rw [z]; rfl)
      obtain ⟨k0, rfl⟩ : ∃ k, n = k + 1 := ⟨n - 1, by omega⟩
      walk_at "r"
      refine ⟨k0, by rw [show ((k0 + 1 : Nat) : Int) - 1 = (k0 : Int) by omega], by omega, by omega, fun l1 vs1 H1 n1 e1 f1 t1 => ?_⟩
      have lp := pfs_len k0 (by omega)
      have l1' := t1.len
      walk_at "r"
      with_reducible refine w_lc2 ?_
      with_reducible refine w_iT ?_
      with_reducible refine w_tup ?_
      walk_at "r"
      refine new_tup (xs := [.str "r", .str "rw", .str "w"]) (by simp) fun tr H2 n2 e2 f2 => ?_
      refine c2_T (SqT.of f2) ?_
      have st3 : tv [R.r, .rw, .w] = [.str "r", .str "rw", .str "w"] := rfl
      rw [← st3] at f2
      refine cp2_tup (xs := tv [R.r, .rw, .w]) (fun D k h => Ex H2 h ∧ ∃ acc, h D = some (.lst acc) ∧ TL K h acc (([R.r, .rw, .w].take k).flatMap fun x => (pfs k0).map (x :: ·))) (fun D n => ⟨Ex.new n, [], upd_same, trivial⟩) (fun D k h _ _ g => ex_st (SqT.of f2) g.1) ?_ ?_
      · rintro D k x h nD hx ⟨e3, acc, fD, tD⟩
        obtain ⟨r, hr', rfl⟩ := tv_get hx
        have hk3 : k < 3 := at_lt hr'
        have E13 := e2.trans e3
        walk_at "r"
        refine ⟨rfl, ?_⟩
        walk_at "r"
        refine in_L (SqL.of (E13 _ _ f1)) ?_
        refine in_list (xs := vs1) (fun j h' => Ex H2 h' ∧ ∃ acc, h' D = some (.lst acc) ∧ TL K h' acc ((([R.r, .rw, .w].take k).flatMap fun x => (pfs k0).map (x :: ·)) ++ ((pfs k0).take j).map (r :: ·))) ⟨e3, acc, fD, by simpa using tD⟩ (fun j h' _ g => SqL.of (g.1 _ _ (e2 _ _ f1))) ?_ ?_
        · rintro j v h' hv ⟨e4, acc', fD', tD'⟩
          obtain ⟨f, a, hf, rfl, ha⟩ := t1.get hv
          have ha' := ex_st ha (e2.trans e4)
          walk_at "r"
          refine ⟨rfl, ?_⟩
          walk_at "r"
          refine new_tup (by simp) fun t2 h2 n2' e5 f5 => ?_
          walk_at "r"
          have lf : f.length = k0 := ((pfs_iff k0 f).mp (List.mem_of_getElem? hf)).1
          refine a_catA (SqT.of f5) (ex_st ha' e5) (by rw [tv_len]; simp; omega) fun q2 h3 e6 f6 => ?_
          have la := tD'.len
          have lb : acc'.length ≤ 100000 := by
            rw [la, List.length_append, List.length_map, List.length_take, List.length_flatMap]
            have : (([R.r, .rw, .w].take k).map fun x => ((pfs k0).map (x :: ·)).length).sum ≤ 600 := by
              match k, hk3 with
              | 0, _ => simp
              | 1, _ => simp; omega
              | 2, _ => simp; omega
            omega
          have nD' : H2 D = none := nD
          refine ⟨acc', e6 _ _ (e5 _ _ fD'), sz_lt (by
            have : acc'.length < 100000 := by
              rw [la, List.length_append, List.length_map, List.length_take, List.length_flatMap]
              have : (([R.r, .rw, .w].take k).map fun x => ((pfs k0).map (x :: ·)).length).sum ≤ 600 := by
                match k, hk3 with
                | 0, _ => simp
                | 1, _ => simp; omega
                | 2, _ => simp; omega
              omega
            exact this), (e4.trans (e5.trans e6)).mut nD', acc' ++ [.ref q2], upd_same, ?_⟩
          rw [take_snoc hf, List.map_append, ← List.append_assoc]
          exact TL.snoc (TL.kt (Kt.mut (e6 _ _ (e5 _ _ fD'))) (tD'.up (e5.trans e6))) (st_kt (Kt.mut (e6 _ _ (e5 _ _ fD'))) f6)
        · rintro h' ⟨e4, acc', fD', tD'⟩
          refine ⟨e4, acc', fD', ?_⟩
          rw [l1', List.take_length] at tD'
          rw [take_snoc hr', List.flatMap_append]
          simpa using tD'
      · rintro D h nD ⟨e3, acc, fD, tD⟩
        have E13 := (e1.trans e2).trans e3
        walk_at "r"
        refine new_tup (by simp) fun t2 h2 n2' e5 f5 => ?_
        walk_at "r"
        refine ⟨t2, _, [.str "-"], rfl, rfl, SqT.of f5, by simp, by omega, by omega, by simp, fun q2 h3 e6 f6 => ?_⟩
        walk_at "r"
        refine new_lst (by simp) fun l2 h4 n4 e7 f7 => ?_
        walk_at "r"
        have E57 := (e5.trans e6).trans e7
        have la := tD.len
        have lb : acc.length ≤ 600 := by
          rw [la, tv_len]
          simp
          omega
        refine a_cat f7 (E57 _ _ fD) (by simp; omega) fun l3 h5 n5 e8 f8 => ?_
        have rep : (List.replicate (((k0 + 1 : Nat) : Int)).toNat [V.str "-"]).flatten = tv (List.replicate (k0 + 1) .n) := by
          rw [Int.toNat_natCast, List.flatten_replicate_singleton]
          unfold tv
          rw [List.map_replicate]
          rfl
        rw [rep] at f6
        refine q l3 _ h5 (ex_none (E13.trans E57) n5) ((E13.trans E57).trans e8) f8 ?_
        show TL K h5 ([.ref q2] ++ acc) (List.replicate (k0 + 1) .n :: _)
        refine TL.app (TL.one (ex_st f6 (e7.trans e8))) ?_
        have := tD.up (E57.trans e8)
        rw [tv_len] at this
        simpa [pfs] using this

end
end Ver

set_option Elab.async false
set_option linter.all false
set_option maxRecDepth 100000
set_option maxHeartbeats 4000000
namespace Ver
open PySem PySem.Spec PyProof.Rows L2 Evl
local macro_rules | `(tactic| walk_at "s") => `(tactic| with_reducible first
  | refine w_seq ?_ | refine w_asg ?_ | refine w_name ?_ | refine w_if ?_ | refine w_ret ?_ | refine w_drop ?_ | refine w_next ?_ | refine w_brk ?_ | refine w_cont ?_
  | (refine w_var (v := ?vv) ?hh ?_; (case hh => with_unfolding_all exact rfl))
  | refine w_c ?_ | refine w_op ?_ | refine w_un ?_ | refine w_I0 ?_ | refine w_neg ?_ | refine w_eqI ?_ | refine w_neI ?_ | refine w_eqS ?_ | refine w_neS ?_ | refine w_eqB ?_ | refine w_neB ?_
  | refine w_test ?_ | refine w_B ?_ | refine w_and ?_ | refine w_or ?_ | refine w_not ?_ | refine w_andV ?_ | refine w_orV ?_ | refine w_notV ?_ | refine w_ifE ?_ | refine w_yes ?_
  | refine w_nil ?_ | refine w_cons ?_ | refine w_CB ?_ | refine w_callN ?_ | refine w_BM ?_ | refine w_BMT ?_ | refine w_BM0 ?_ | refine w_noPart ?_ | refine w_part ?_ | refine w_sl ?_ | refine w_tup ?_ | refine w_lst ?_
  | refine w_subG ?_ | refine w_gcons ?_ | refine w_gnil ?_ | refine w_for ?_ | refine w_lc ?_ | refine w_iR1 ?_ | refine w_iR2 ?_ | refine w_iL ?_ | refine w_iT ?_ | refine w_iS ?_
  | (show ∃ k, V.bl _ = V.bl k ∧ _; refine ⟨_, rfl, ?_⟩) | (show ∃ k, V.int _ = V.int k ∧ _; refine ⟨_, rfl, ?_⟩)
  | refine iteT ?_ | refine iteF ?_ | refine iteNT ?_ | refine iteNF ?_ | refine r_S ?_ | refine c_S ?_ | refine a_abs ?_ | refine a_intI ?_ | refine a_intB ?_ | refine w_par ?_ | refine w_dK ?_ | refine w_chain ?_ | (show ∃ v w, [_, _] = [v, w] ∧ _; refine ⟨_, _, rfl, ?_⟩)
  | refine w_getF ?_ | refine w_setF ?_ | refine w_newI ?_ | refine w_callS ?_ | refine w_getD1 ?_ | refine w_putD ?_ | refine w_veI ?_ | refine w_ostI ?_ | refine w_mkO ?_ | refine w_newS ?_ | refine w_xf ?_ | refine w_dget ?_ | refine w_din ?_ | refine w_dnin ?_ | refine w_iEn ?_ | refine w_iZp ?_ | refine w_dc ?_
  | refine a_isNn ?_ | refine a_isNr ?_ | refine a_notNn ?_ | refine a_notNr ?_ | refine a_isTy ?_ | refine a_notTy ?_ | refine a_isBl ?_ | refine a_notBl ?_)
local macro_rules | `(tactic| walk_at "r") => `(tactic| repeat walk_at "s")
local macro_rules | `(tactic| walk_at "tr") => `(tactic| first
  | assumption
  | (refine ex_at (H := ?H0) ?h1 ?h2; (case h2 => assumption); (case h1 => walk_at "tr"))
  | (refine ks_at (H := ?H0) (S := ?S0) ?h1 ?h2 ?h3; (case h2 => assumption); (case h3 => walk_at "nin"); (case h1 => walk_at "tr")))
local macro_rules | `(tactic| walk_at "nin") => `(tactic| first
  | exact nin_nil | (refine nin_cons ?h1 ?h2; (case h1 => walk_at "ne"); (case h2 => walk_at "nin")))
local macro_rules | `(tactic| walk_at "ne") => `(tactic| first
  | assumption | exact Ne.symm (by assumption)
  | (refine bx_nb (H := ?H0) (r := ?r0) ?h1 ?h2; (case h2 => assumption); (case h1 => walk_at "bx"))
  | (refine bx_nr (H := ?H0) (b := ?b0) ?h1 ?h2; (case h2 => assumption); (case h1 => walk_at "bx"))
  | (refine Ne.symm (bx_nb (H := ?H0) (r := ?r0) ?h1 ?h2); (case h2 => assumption); (case h1 => walk_at "bx"))
  | (refine ne_old (H := ?H0) (o := ?o0) ?h1 ?h2; (case h2 => assumption); (case h1 => walk_at "tr"))
  | (refine Ne.symm (ne_old (H := ?H0) (o := ?o0) ?h1 ?h2); (case h2 => assumption); (case h1 => walk_at "tr"))
  | exact (Tu.ne (by assumption) (by assumption)).1 | exact (Tu.ne (by assumption) (by assumption)).2
  | (refine bx_rb (H := ?H0) ?h1; (case h1 => walk_at "bx")))
local macro_rules | `(tactic| walk_at "tu") => `(tactic| first
  | assumption
  | (refine Tu.ex (H := ?H0) ?h1 ?h2; (case h2 => assumption); (case h1 => walk_at "tu"))
  | (refine Tu.ks (H := ?H0) (S := ?S0) ?h1 ?h2 ?h3; (case h2 => assumption); (case h3 => walk_at "nin"); (case h1 => walk_at "tu")))
local macro_rules | `(tactic| walk_at "bx") => `(tactic| first
  | assumption
  | (refine bx_ex (H := ?H0) ?h1 ?h2; (case h2 => assumption); (case h1 => walk_at "bx"))
  | (refine bx_ks (H := ?H0) (S := ?S0) ?h1 ?h2 ?h3 ?h4; (case h2 => assumption); (case h3 => walk_at "nin"); (case h4 => walk_at "nin"); (case h1 => walk_at "bx")))
local macro_rules | `(tactic| walk_at "sl") => `(tactic| first
  | assumption | (refine SqL.of ?h1; (case h1 => walk_at "tr"))
  | (refine ex_sl (H := ?H0) ?h1 ?h2; (case h2 => assumption); (case h1 => walk_at "sl"))
  | (refine ks_sl (H := ?H0) (S := ?S0) ?h1 ?h2 ?h3; (case h2 => assumption); (case h3 => walk_at "nin"); (case h1 => walk_at "sl")))
local macro_rules | `(tactic| walk_at "st") => `(tactic| first
  | assumption | (refine Tu.st ?h1; (case h1 => walk_at "tu")) | (refine SqT.of ?h1; (case h1 => walk_at "tr"))
  | (refine ex_st (H := ?H0) ?h1 ?h2; (case h2 => assumption); (case h1 => walk_at "st"))
  | (refine ks_st (H := ?H0) (S := ?S0) ?h1 ?h2 ?h3; (case h2 => assumption); (case h3 => walk_at "nin"); (case h1 => walk_at "st")))
local macro_rules | `(tactic| walk_at "ex") => `(tactic| first
  | exact Ex.refl _ | assumption | (refine Ex.trans (H1 := ?H0) ?h1 ?h2; (case h2 => assumption); (case h1 => walk_at "ex")))
local macro_rules | `(tactic| walk_at "ks") => `(tactic| first
  | exact Ks.refl _ _ | assumption | (refine Ks.of ?h1; (case h1 => assumption)) | (refine Ks.trans (H1 := ?H0) ?h1 ?h2; (case h2 => first | assumption | (refine Ks.of ?h3; (case h3 => assumption))); (case h1 => walk_at "ks")))
local macro_rules | `(tactic| walk_at "dp") => `(tactic| first
  | exact Dp.str _ | exact Dp.int _ | exact Dp.bl _ | exact Dp.non | assumption | exact LsAt.dp (by assumption)
  | (refine dp_ex (H := ?H0) ?h1 ?h2; (case h1 => assumption); (case h2 => walk_at "dp")))
local macro_rules | `(tactic| walk_at "ev") => `(tactic| with_reducible first
  | exact ev_nil | refine ev_cons ?_ ?_ | exact ev_m1 | exact ev_str | exact ev_int | exact ev_bl | exact ev_non
  | (refine ev_tup ?hal ?_ ?hle; (case hal => assumption); (case hle => with_unfolding_all exact Nat.le_of_ble_eq_true rfl))
  | (refine ev_ll (ev_lst ?hal ?_ ?hle); (case hal => assumption); (case hle => with_unfolding_all exact Nat.le_of_ble_eq_true rfl))
  | (refine ev_ll (ev_rep (n := ?nn) ?hal ?_ ?he ?hz); (case he => with_unfolding_all exact rfl); (case hal => assumption); (case hz => with_unfolding_all omega))
  | (refine ev_lst ?hal ?_ ?hle; (case hal => assumption); (case hle => with_unfolding_all exact Nat.le_of_ble_eq_true rfl))
  | (refine ev_lt ?he; (case he => with_unfolding_all exact rfl))
  | (refine ev_let ?hal ?_ ?hs; (case hal => assumption); (case hs => with_unfolding_all first | decide +kernel | rfl))
  | (refine ev_var (v := ?vv) ?he ?hd; (case he => with_unfolding_all exact rfl); (case hd => with_unfolding_all walk_at "dp")))

section
variable {P : Program} {w : World} {K : PySem.W.Frag} {mg : Str → Option Value} {base : Heap}
theorem ft_yes {α : Type} {l : List α} {k : Nat} {o : α} {p : α → Bool} (ho : l[k]? = some o) (h : p o = true) : (l.take (k + 1)).filter p = (l.take k).filter p ++ [o] := by
  rw [take_snoc ho, List.filter_append, List.filter_cons, if_pos h]
  rfl
theorem ft_no {α : Type} {l : List α} {k : Nat} {o : α} {p : α → Bool} (ho : l[k]? = some o) (h : p o = false) : (l.take (k + 1)).filter p = (l.take k).filter p := by
  rw [take_snoc ho, List.filter_append, List.filter_cons, if_neg (by rw [h]; decide)]
  exact List.append_nil _
theorem ft_len {α : Type} {l : List α} {k : Nat} {p : α → Bool} : ((l.take k).filter p).length ≤ l.length :=
  Nat.le_trans (List.length_filter_le _ _) (by rw [List.length_take]; omega)
def pJm (K : PySem.W.Frag) (CE : Addr) (le : List R → List R → Bool) (ok : List R → List R → List R → Bool) : Sp := fun vs H Q E => ∃ a b f g, vs = [.ref a, .ref b] ∧ SqT K H a (tv f) ∧ SqT K H b (tv g) ∧ f.length ≤ 3 ∧ g.length ≤ 4 ∧
  (f.length = g.length → ∀ l ws H1, H l = none → Ex H H1 → H1 l = some (.lst ws) → TL K H1 ws (least le (ok f g) f.length) → Q (.ref l) H1) ∧
  (f.length ≠ g.length → ∀ d H1, Ex H H1 → H1 d = some (.xd [("reason", .str "other length")]) → E (.ref CE) (some d) H1)
theorem ok_joins (T : Tx K mg) : FnOk P w K mg base (L2.CX P w) 10 T.a_joins T.e_joins p_joins (pJm K T.C_RightsError cv fun f g h => cv f h && cv g h) := by
  refine T.d_joins.F.okX sc_joins (fun vs H Q E h => ?_) (fun cdv A outer s H vs Q E hr h => ?_)
  · obtain ⟨a, b, f, g, rfl, _⟩ := h
    rfl
  obtain ⟨a, b, f, g, rfl, ha, hb, hf, hg, q, qe⟩ := h
  refine ⟨_, (pss_cons (ps_if (pt_cmpR op_ne (pe_callB (lenK K) (by rfl) T.b_len PySem.boot_len (pa_cons (pv 0) pa_nil)) (pe_callB (lenK K) (by rfl) T.b_len PySem.boot_len (pa_cons (pv 1) pa_nil)) (nomark _)) (pss_one (ps_raise rfl (takes_of rfl rfl rfl rfl) (pmk_oex T.o_RightsError T.i_RightsError T.t_RightsError (ok_RightsError_init T) (hr.mono (by omega)) T.d_RightsError_init.b .nil pass0 (by rfl) T.g_RightsError (pa_cons pe_str pa_nil)))) pss_nil)
    (pss_cons (ps_set (i := 2) sc_joins.nd rfl (.inr rfl) (pe_lc (own := [("form", 3)]) (g := gName 3) rfl sc_joins.nd  (plK K (pe_call (ok_plain_forms T 4) (hr.mono (by omega)) (by rfl) T.d_plain_forms.m T.d_plain_forms.F.kp T.d_plain_forms.b .nil pass0 (pa_cons (pe_callB (lenK K) (by rfl) T.b_len PySem.boot_len (pa_cons (pv 0) pa_nil)) pa_nil))) (blkOk_by (own := [("form", 3)]) (N := n_joins) (sc := defScope s_joins) (by decide +kernel)) (fun _ _ _ _ _ => (pg_name (i := 3) sc_joins.nd rfl (Or.inl rfl))) (fun _ _ _ _ _ => (pts_one (PW.pt (pw_and (pt_val (pe_call (ok_converts T 7) (hr.mono (by omega)) (by rfl) T.d_converts.m T.d_converts.F.kp T.d_converts.b .nil pass0 (pa_cons (pv 0) (pa_cons (pv 3) pa_nil)))) (pw_and1 (pt_val (pe_call (ok_converts T 7) (hr.mono (by omega)) (by rfl) T.d_converts.m T.d_converts.F.kp T.d_converts.b .nil pass0 (pa_cons (pv 1) (pa_cons (pv 3) pa_nil))))))))) (fun _ _ _ _ _ => (pv 3))))
    (pss_one (ps_ret (pe_lc (own := [("form", 3)]) (g := gName 3) rfl sc_joins.nd  (plK K (pv 2)) (blkOk_by (own := [("form", 3)]) (N := n_joins) (sc := defScope s_joins) (by decide +kernel)) (fun _ _ _ _ _ => (pg_name (i := 3) sc_joins.nd rfl (Or.inl rfl))) (fun _ _ _ _ _ => (pts_one (pt_val (pe_call (ok_is_least T) (hr.mono (by omega)) (by rfl) T.d_is_least.m T.d_is_least.F.kp T.d_is_least.b .nil pass0 (pa_cons (pv 3) (pa_cons (pv 2) pa_nil)))))) (fun _ _ _ _ _ => (pv 3))))))), ?_⟩
  walk_at "r"
  refine a_lenT ha ?_
  walk_at "r"
  refine a_lenT hb ?_
  walk_at "r"
  refine ite2 (fun c => ?_) (fun c => ?_)
  · walk_at "r"
    refine mko_re fun d H6 n6 e6 f6 => ?_
    exact qe (by rw [tv_len, tv_len] at c; simp at c; omega) d H6 e6 f6
  have hl : f.length = g.length := by rw [tv_len, tv_len] at c; simp at c; omega
  walk_at "r"
  refine a_lenT ha ?_
  walk_at "r"
  rw [tv_len]
  refine ⟨f.length, rfl, by omega, by omega, fun l vs H1 n1 e1 f1 t1 => ?_⟩
  have lp := pfs_len f.length (by omega)
  have lv := t1.len
  have pl' : ∀ o ∈ pfs f.length, o.length = f.length := fun o ho => ((pfs_iff _ o).mp ho).1
  generalize hp : pfs f.length = ps at lp lv pl' t1
  generalize hn : f.length = n at *
  refine c_L (SqL.of f1) ?_
  refine cp_list (xs := vs) (fun D k h => Ex H1 h ∧ ∃ acc, h D = some (.lst acc) ∧ TL K h acc ((ps.take k).filter fun h => cv f h && cv g h)) (fun D n => ⟨Ex.new n, [], upd_same, trivial⟩) (fun D k h _ _ g => ex_sl (SqL.of f1) g.1) ?_ ?_
  · rintro D k x h nD hx ⟨e3, acc, fD, tD⟩
    obtain ⟨o, z, ho, rfl, hz⟩ := t1.get hx
    have lo : o.length = n := pl' o (List.mem_of_getElem? ho)
    have la := tD.len
    have lb : acc.length ≤ 200 := by rw [la]; exact Nat.le_trans ft_len lp
    walk_at "r"
    refine ⟨rfl, ?_⟩
    walk_at "r"
    refine ⟨a, z, f, o, rfl, ex_st ha (e1.trans e3), ex_st hz e3, by omega, fun h2 e4 => ?_⟩
    walk_at "r"
    have E4 := e3.trans e4
    refine ite2 (fun d => ?_) (fun d => ?_)
    · walk_at "r"
      refine ⟨b, z, g, o, rfl, ex_st hb (e1.trans E4), ex_st hz E4, by omega, fun h3 e5 => ?_⟩
      walk_at "r"
      refine ite2 (fun d' => ?_) (fun d' => ?_)
      · walk_at "r"
        have E5 := e4.trans e5
        refine ⟨acc, E5 _ _ fD, sz_lt (by omega), (e3.trans E5).mut nD, acc ++ [.ref z], upd_same, ?_⟩
        rw [ft_yes ho (by show (_ && _) = true; rw [d, d']; rfl)]
        exact TL.snoc (TL.kt (Kt.mut (E5 _ _ fD)) (tD.up E5)) (st_kt (Kt.mut (E5 _ _ fD)) (ex_st hz (e3.trans E5)))
      · refine ⟨E4.trans e5, acc, e5 _ _ (e4 _ _ fD), ?_⟩
        rw [ft_no ho (by show (_ && _) = false; rw [nf d', Bool.and_false])]
        exact tD.up (e4.trans e5)
    · refine ite2 (fun z => by cases z) (fun _ => ?_)
      refine ⟨E4, acc, e4 _ _ fD, ?_⟩
      rw [ft_no ho (by show (_ && _) = false; rw [nf d, Bool.false_and])]
      exact tD.up e4
  · rintro D h nD ⟨e3, acc, fD, tD⟩
    rw [lv, List.take_length] at tD
    generalize hL : (ps.filter fun h => cv f h && cv g h) = L at tD
    have lL : L.length ≤ 200 := by rw [← hL]; exact Nat.le_trans (List.length_filter_le _ _) lp
    have lLn : ∀ o ∈ L, o.length = n := fun o ho => pl' o (by rw [← hL] at ho; exact (List.mem_filter.mp ho).1)
    have la := tD.len
    walk_at "r"
    refine c_L (SqL.of fD) ?_
    refine cp_list (xs := acc) (fun D2 k h' => Ex h h' ∧ ∃ acc2, h' D2 = some (.lst acc2) ∧ TL K h' acc2 ((L.take k).filter fun o => L.all fun o2 => decide (o2 = o) || !cv o2 o)) (fun D n => ⟨Ex.new n, [], upd_same, trivial⟩) (fun D k h' _ _ g => ex_sl (SqL.of fD) g.1) ?_ ?_
    · rintro D2 k x h' nD2 hx ⟨e5, acc2, fD2, tD2⟩
      obtain ⟨o, z, ho, rfl, hz⟩ := tD.get hx
      have la2 := tD2.len
      have lb2 : acc2.length ≤ 200 := by rw [la2]; exact Nat.le_trans ft_len lL
      walk_at "r"
      refine ⟨rfl, ?_⟩
      walk_at "r"
      refine ⟨z, D, o, acc, L, n, rfl, ex_st hz e5, SqL.of (e5 _ _ fD), tD.up e5, lLn o (List.mem_of_getElem? ho), lLn, by omega, fun h3 e6 => ?_⟩
      walk_at "r"
      refine ite2 (fun d => ?_) (fun d => ?_)
      · walk_at "r"
        refine ⟨acc2, e6 _ _ fD2, sz_lt (by omega), (e5.trans e6).mut nD2, acc2 ++ [.ref z], upd_same, ?_⟩
        rw [ft_yes ho d]
        exact TL.snoc (TL.kt (Kt.mut (e6 _ _ fD2)) (tD2.up e6)) (st_kt (Kt.mut (e6 _ _ fD2)) (ex_st hz (e5.trans e6)))
      · refine ⟨e5.trans e6, acc2, e6 _ _ fD2, ?_⟩
        rw [ft_no ho (nf d)]
        exact tD2.up e6
    · rintro D2 h' nD2 ⟨e5, acc2, fD2, tD2⟩
      rw [la, List.take_length] at tD2
      refine q hl D2 acc2 h' (ex_none (e1.trans e3) nD2) ((e1.trans e3).trans e5) fD2 ?_
      unfold least
      rw [hp, hL]
      exact tD2
theorem ok_meets (T : Tx K mg) : FnOk P w K mg base (L2.CX P w) 10 T.a_meets T.e_meets p_meets (pJm K T.C_RightsError (fun x y => cv y x) fun f g h => cv h f && cv h g) := by
  refine T.d_meets.F.okX sc_meets (fun vs H Q E h => ?_) (fun cdv A outer s H vs Q E hr h => ?_)
  · obtain ⟨a, b, f, g, rfl, _⟩ := h
    rfl
  obtain ⟨a, b, f, g, rfl, ha, hb, hf, hg, q, qe⟩ := h
  refine ⟨_, (pss_cons (ps_if (pt_cmpR op_ne (pe_callB (lenK K) (by rfl) T.b_len PySem.boot_len (pa_cons (pv 0) pa_nil)) (pe_callB (lenK K) (by rfl) T.b_len PySem.boot_len (pa_cons (pv 1) pa_nil)) (nomark _)) (pss_one (ps_raise rfl (takes_of rfl rfl rfl rfl) (pmk_oex T.o_RightsError T.i_RightsError T.t_RightsError (ok_RightsError_init T) (hr.mono (by omega)) T.d_RightsError_init.b .nil pass0 (by rfl) T.g_RightsError (pa_cons pe_str pa_nil)))) pss_nil)
    (pss_cons (ps_set (i := 2) sc_meets.nd rfl (.inr rfl) (pe_lc (own := [("form", 3)]) (g := gName 3) rfl sc_meets.nd  (plK K (pe_call (ok_plain_forms T 4) (hr.mono (by omega)) (by rfl) T.d_plain_forms.m T.d_plain_forms.F.kp T.d_plain_forms.b .nil pass0 (pa_cons (pe_callB (lenK K) (by rfl) T.b_len PySem.boot_len (pa_cons (pv 0) pa_nil)) pa_nil))) (blkOk_by (own := [("form", 3)]) (N := n_meets) (sc := defScope s_meets) (by decide +kernel)) (fun _ _ _ _ _ => (pg_name (i := 3) sc_meets.nd rfl (Or.inl rfl))) (fun _ _ _ _ _ => (pts_one (PW.pt (pw_and (pt_val (pe_call (ok_converts T 7) (hr.mono (by omega)) (by rfl) T.d_converts.m T.d_converts.F.kp T.d_converts.b .nil pass0 (pa_cons (pv 3) (pa_cons (pv 0) pa_nil)))) (pw_and1 (pt_val (pe_call (ok_converts T 7) (hr.mono (by omega)) (by rfl) T.d_converts.m T.d_converts.F.kp T.d_converts.b .nil pass0 (pa_cons (pv 3) (pa_cons (pv 1) pa_nil))))))))) (fun _ _ _ _ _ => (pv 3))))
    (pss_one (ps_ret (pe_lc (own := [("form", 3)]) (g := gName 3) rfl sc_meets.nd  (plK K (pv 2)) (blkOk_by (own := [("form", 3)]) (N := n_meets) (sc := defScope s_meets) (by decide +kernel)) (fun _ _ _ _ _ => (pg_name (i := 3) sc_meets.nd rfl (Or.inl rfl))) (fun _ _ _ _ _ => (pts_one (pt_val (pe_call (ok_is_greatest T) (hr.mono (by omega)) (by rfl) T.d_is_greatest.m T.d_is_greatest.F.kp T.d_is_greatest.b .nil pass0 (pa_cons (pv 3) (pa_cons (pv 2) pa_nil)))))) (fun _ _ _ _ _ => (pv 3))))))), ?_⟩
  walk_at "r"
  refine a_lenT ha ?_
  walk_at "r"
  refine a_lenT hb ?_
  walk_at "r"
  refine ite2 (fun c => ?_) (fun c => ?_)
  · walk_at "r"
    refine mko_re fun d H6 n6 e6 f6 => ?_
    exact qe (by rw [tv_len, tv_len] at c; simp at c; omega) d H6 e6 f6
  have hl : f.length = g.length := by rw [tv_len, tv_len] at c; simp at c; omega
  walk_at "r"
  refine a_lenT ha ?_
  walk_at "r"
  rw [tv_len]
  refine ⟨f.length, rfl, by omega, by omega, fun l vs H1 n1 e1 f1 t1 => ?_⟩
  have lp := pfs_len f.length (by omega)
  have lv := t1.len
  have pl' : ∀ o ∈ pfs f.length, o.length = f.length := fun o ho => ((pfs_iff _ o).mp ho).1
  generalize hp : pfs f.length = ps at lp lv pl' t1
  generalize hn : f.length = n at *
  refine c_L (SqL.of f1) ?_
  refine cp_list (xs := vs) (fun D k h => Ex H1 h ∧ ∃ acc, h D = some (.lst acc) ∧ TL K h acc ((ps.take k).filter fun h => cv h f && cv h g)) (fun D n => ⟨Ex.new n, [], upd_same, trivial⟩) (fun D k h _ _ g => ex_sl (SqL.of f1) g.1) ?_ ?_
  · rintro D k x h nD hx ⟨e3, acc, fD, tD⟩
    obtain ⟨o, z, ho, rfl, hz⟩ := t1.get hx
    have lo : o.length = n := pl' o (List.mem_of_getElem? ho)
    have la := tD.len
    have lb : acc.length ≤ 200 := by rw [la]; exact Nat.le_trans ft_len lp
    walk_at "r"
    refine ⟨rfl, ?_⟩
    walk_at "r"
    refine ⟨z, a, o, f, rfl, ex_st hz e3, ex_st ha (e1.trans e3), by omega, fun h2 e4 => ?_⟩
    walk_at "r"
    have E4 := e3.trans e4
    refine ite2 (fun d => ?_) (fun d => ?_)
    · walk_at "r"
      refine ⟨z, b, o, g, rfl, ex_st hz E4, ex_st hb (e1.trans E4), by omega, fun h3 e5 => ?_⟩
      walk_at "r"
      refine ite2 (fun d' => ?_) (fun d' => ?_)
      · walk_at "r"
        have E5 := e4.trans e5
        refine ⟨acc, E5 _ _ fD, sz_lt (by omega), (e3.trans E5).mut nD, acc ++ [.ref z], upd_same, ?_⟩
        rw [ft_yes ho (by show (_ && _) = true; rw [d, d']; rfl)]
        exact TL.snoc (TL.kt (Kt.mut (E5 _ _ fD)) (tD.up E5)) (st_kt (Kt.mut (E5 _ _ fD)) (ex_st hz (e3.trans E5)))
      · refine ⟨E4.trans e5, acc, e5 _ _ (e4 _ _ fD), ?_⟩
        rw [ft_no ho (by show (_ && _) = false; rw [nf d', Bool.and_false])]
        exact tD.up (e4.trans e5)
    · refine ite2 (fun z => by cases z) (fun _ => ?_)
      refine ⟨E4, acc, e4 _ _ fD, ?_⟩
      rw [ft_no ho (by show (_ && _) = false; rw [nf d, Bool.false_and])]
      exact tD.up e4
  · rintro D h nD ⟨e3, acc, fD, tD⟩
    rw [lv, List.take_length] at tD
    generalize hL : (ps.filter fun h => cv h f && cv h g) = L at tD
    have lL : L.length ≤ 200 := by rw [← hL]; exact Nat.le_trans (List.length_filter_le _ _) lp
    have lLn : ∀ o ∈ L, o.length = n := fun o ho => pl' o (by rw [← hL] at ho; exact (List.mem_filter.mp ho).1)
    have la := tD.len
    walk_at "r"
    refine c_L (SqL.of fD) ?_
    refine cp_list (xs := acc) (fun D2 k h' => Ex h h' ∧ ∃ acc2, h' D2 = some (.lst acc2) ∧ TL K h' acc2 ((L.take k).filter fun o => L.all fun o2 => decide (o2 = o) || !(fun x y => cv y x) o2 o)) (fun D n => ⟨Ex.new n, [], upd_same, trivial⟩) (fun D k h' _ _ g => ex_sl (SqL.of fD) g.1) ?_ ?_
    · rintro D2 k x h' nD2 hx ⟨e5, acc2, fD2, tD2⟩
      obtain ⟨o, z, ho, rfl, hz⟩ := tD.get hx
      have la2 := tD2.len
      have lb2 : acc2.length ≤ 200 := by rw [la2]; exact Nat.le_trans ft_len lL
      walk_at "r"
      refine ⟨rfl, ?_⟩
      walk_at "r"
      refine ⟨z, D, o, acc, L, n, rfl, ex_st hz e5, SqL.of (e5 _ _ fD), tD.up e5, lLn o (List.mem_of_getElem? ho), lLn, by omega, fun h3 e6 => ?_⟩
      walk_at "r"
      refine ite2 (fun d => ?_) (fun d => ?_)
      · walk_at "r"
        refine ⟨acc2, e6 _ _ fD2, sz_lt (by omega), (e5.trans e6).mut nD2, acc2 ++ [.ref z], upd_same, ?_⟩
        rw [ft_yes ho d]
        exact TL.snoc (TL.kt (Kt.mut (e6 _ _ fD2)) (tD2.up e6)) (st_kt (Kt.mut (e6 _ _ fD2)) (ex_st hz (e5.trans e6)))
      · refine ⟨e5.trans e6, acc2, e6 _ _ fD2, ?_⟩
        rw [ft_no ho (nf d)]
        exact tD2.up e6
    · rintro D2 h' nD2 ⟨e5, acc2, fD2, tD2⟩
      rw [la, List.take_length] at tD2
      refine q hl D2 acc2 h' (ex_none (e1.trans e3) nD2) ((e1.trans e3).trans e5) fD2 ?_
      unfold least
      rw [hp, hL]
      exact tD2

end
end Ver

set_option Elab.async false
set_option linter.all false
set_option maxRecDepth 100000
set_option maxHeartbeats 4000000
namespace Ver
open PySem PySem.Spec PyProof.Rows L2 Evl
local macro_rules | `(tactic| walk_at "s") => `(tactic| with_reducible first
  | refine w_seq ?_ | refine w_asg ?_ | refine w_name ?_ | refine w_if ?_ | refine w_ret ?_ | refine w_drop ?_ | refine w_next ?_ | refine w_brk ?_ | refine w_cont ?_
  | (refine w_var (v := ?vv) ?hh ?_; (case hh => with_unfolding_all exact rfl))
  | refine w_c ?_ | refine w_op ?_ | refine w_un ?_ | refine w_I0 ?_ | refine w_neg ?_ | refine w_eqI ?_ | refine w_neI ?_ | refine w_eqS ?_ | refine w_neS ?_ | refine w_eqB ?_ | refine w_neB ?_
  | refine w_test ?_ | refine w_B ?_ | refine w_and ?_ | refine w_or ?_ | refine w_not ?_ | refine w_andV ?_ | refine w_orV ?_ | refine w_notV ?_ | refine w_ifE ?_ | refine w_yes ?_
  | refine w_nil ?_ | refine w_cons ?_ | refine w_CB ?_ | refine w_callN ?_ | refine w_BM ?_ | refine w_BMT ?_ | refine w_BM0 ?_ | refine w_noPart ?_ | refine w_part ?_ | refine w_sl ?_ | refine w_tup ?_ | refine w_lst ?_
  | refine w_subG ?_ | refine w_gcons ?_ | refine w_gnil ?_ | refine w_for ?_ | refine w_lc ?_ | refine w_iR1 ?_ | refine w_iR2 ?_ | refine w_iL ?_ | refine w_iT ?_ | refine w_iS ?_
  | (show ∃ k, V.bl _ = V.bl k ∧ _; refine ⟨_, rfl, ?_⟩) | (show ∃ k, V.int _ = V.int k ∧ _; refine ⟨_, rfl, ?_⟩)
  | refine iteT ?_ | refine iteF ?_ | refine iteNT ?_ | refine iteNF ?_ | refine r_S ?_ | refine c_S ?_ | refine a_abs ?_ | refine a_intI ?_ | refine a_intB ?_ | refine w_par ?_ | refine w_dK ?_ | refine w_chain ?_ | (show ∃ v w, [_, _] = [v, w] ∧ _; refine ⟨_, _, rfl, ?_⟩)
  | refine w_getF ?_ | refine w_setF ?_ | refine w_newI ?_ | refine w_callS ?_ | refine w_getD1 ?_ | refine w_putD ?_ | refine w_veI ?_ | refine w_ostI ?_ | refine w_mkO ?_ | refine w_newS ?_ | refine w_xf ?_ | refine w_dget ?_ | refine w_din ?_ | refine w_dnin ?_ | refine w_iEn ?_ | refine w_iZp ?_ | refine w_dc ?_
  | refine a_isNn ?_ | refine a_isNr ?_ | refine a_notNn ?_ | refine a_notNr ?_ | refine a_isTy ?_ | refine a_notTy ?_ | refine a_isBl ?_ | refine a_notBl ?_)
local macro_rules | `(tactic| walk_at "r") => `(tactic| repeat walk_at "s")
local macro_rules | `(tactic| walk_at "tr") => `(tactic| first
  | assumption
  | (refine ex_at (H := ?H0) ?h1 ?h2; (case h2 => assumption); (case h1 => walk_at "tr"))
  | (refine ks_at (H := ?H0) (S := ?S0) ?h1 ?h2 ?h3; (case h2 => assumption); (case h3 => walk_at "nin"); (case h1 => walk_at "tr")))
local macro_rules | `(tactic| walk_at "nin") => `(tactic| first
  | exact nin_nil | (refine nin_cons ?h1 ?h2; (case h1 => walk_at "ne"); (case h2 => walk_at "nin")))
local macro_rules | `(tactic| walk_at "ne") => `(tactic| first
  | assumption | exact Ne.symm (by assumption)
  | (refine bx_nb (H := ?H0) (r := ?r0) ?h1 ?h2; (case h2 => assumption); (case h1 => walk_at "bx"))
  | (refine bx_nr (H := ?H0) (b := ?b0) ?h1 ?h2; (case h2 => assumption); (case h1 => walk_at "bx"))
  | (refine Ne.symm (bx_nb (H := ?H0) (r := ?r0) ?h1 ?h2); (case h2 => assumption); (case h1 => walk_at "bx"))
  | (refine ne_old (H := ?H0) (o := ?o0) ?h1 ?h2; (case h2 => assumption); (case h1 => walk_at "tr"))
  | (refine Ne.symm (ne_old (H := ?H0) (o := ?o0) ?h1 ?h2); (case h2 => assumption); (case h1 => walk_at "tr"))
  | exact (Tu.ne (by assumption) (by assumption)).1 | exact (Tu.ne (by assumption) (by assumption)).2
  | (refine bx_rb (H := ?H0) ?h1; (case h1 => walk_at "bx")))
local macro_rules | `(tactic| walk_at "tu") => `(tactic| first
  | assumption
  | (refine Tu.ex (H := ?H0) ?h1 ?h2; (case h2 => assumption); (case h1 => walk_at "tu"))
  | (refine Tu.ks (H := ?H0) (S := ?S0) ?h1 ?h2 ?h3; (case h2 => assumption); (case h3 => walk_at "nin"); (case h1 => walk_at "tu")))
local macro_rules | `(tactic| walk_at "bx") => `(tactic| first
  | assumption
  | (refine bx_ex (H := ?H0) ?h1 ?h2; (case h2 => assumption); (case h1 => walk_at "bx"))
  | (refine bx_ks (H := ?H0) (S := ?S0) ?h1 ?h2 ?h3 ?h4; (case h2 => assumption); (case h3 => walk_at "nin"); (case h4 => walk_at "nin"); (case h1 => walk_at "bx")))
local macro_rules | `(tactic| walk_at "sl") => `(tactic| first
  | assumption | (refine SqL.of ?h1; (case h1 => walk_at "tr"))
  | (refine ex_sl (H := ?H0) ?h1 ?h2; (case h2 => assumption); (case h1 => walk_at "sl"))
  | (refine ks_sl (H := ?H0) (S := ?S0) ?h1 ?h2 ?h3; (case h2 => assumption); (case h3 => walk_at "nin"); (case h1 => walk_at "sl")))
local macro_rules | `(tactic| walk_at "st") => `(tactic| first
  | assumption | (refine Tu.st ?h1; (case h1 => walk_at "tu")) | (refine SqT.of ?h1; (case h1 => walk_at "tr"))
  | (refine ex_st (H := ?H0) ?h1 ?h2; (case h2 => assumption); (case h1 => walk_at "st"))
  | (refine ks_st (H := ?H0) (S := ?S0) ?h1 ?h2 ?h3; (case h2 => assumption); (case h3 => walk_at "nin"); (case h1 => walk_at "st")))
local macro_rules | `(tactic| walk_at "ex") => `(tactic| first
  | exact Ex.refl _ | assumption | (refine Ex.trans (H1 := ?H0) ?h1 ?h2; (case h2 => assumption); (case h1 => walk_at "ex")))
local macro_rules | `(tactic| walk_at "ks") => `(tactic| first
  | exact Ks.refl _ _ | assumption | (refine Ks.of ?h1; (case h1 => assumption)) | (refine Ks.trans (H1 := ?H0) ?h1 ?h2; (case h2 => first | assumption | (refine Ks.of ?h3; (case h3 => assumption))); (case h1 => walk_at "ks")))
local macro_rules | `(tactic| walk_at "dp") => `(tactic| first
  | exact Dp.str _ | exact Dp.int _ | exact Dp.bl _ | exact Dp.non | assumption | exact LsAt.dp (by assumption)
  | (refine dp_ex (H := ?H0) ?h1 ?h2; (case h1 => assumption); (case h2 => walk_at "dp")))
local macro_rules | `(tactic| walk_at "ev") => `(tactic| with_reducible first
  | exact ev_nil | refine ev_cons ?_ ?_ | exact ev_m1 | exact ev_str | exact ev_int | exact ev_bl | exact ev_non
  | (refine ev_tup ?hal ?_ ?hle; (case hal => assumption); (case hle => with_unfolding_all exact Nat.le_of_ble_eq_true rfl))
  | (refine ev_ll (ev_lst ?hal ?_ ?hle); (case hal => assumption); (case hle => with_unfolding_all exact Nat.le_of_ble_eq_true rfl))
  | (refine ev_ll (ev_rep (n := ?nn) ?hal ?_ ?he ?hz); (case he => with_unfolding_all exact rfl); (case hal => assumption); (case hz => with_unfolding_all omega))
  | (refine ev_lst ?hal ?_ ?hle; (case hal => assumption); (case hle => with_unfolding_all exact Nat.le_of_ble_eq_true rfl))
  | (refine ev_lt ?he; (case he => with_unfolding_all exact rfl))
  | (refine ev_let ?hal ?_ ?hs; (case hal => assumption); (case hs => with_unfolding_all first | decide +kernel | rfl))
  | (refine ev_var (v := ?vv) ?he ?hd; (case he => with_unfolding_all exact rfl); (case hd => with_unfolding_all walk_at "dp")))

section
variable {P : Program} {w : World} {K : PySem.W.Frag} {mg : Str → Option Value} {base : Heap}
def lrD (fs : List (List R)) : PyData := .list (fs.map ru)
theorem lay_ru1 (xs : List R) : PyData.canLay0 (ru xs) = true := lay_rs xs
theorem dep_ru1 (xs : List R) : (ru xs).depth ≤ 2 := by
  have := depth_rs xs
  unfold ru
  simp only [PyData.depth]
  omega
theorem shp_lr (fs : List (List R)) : SeqAt.shaped (.list (fs.map ru)) = true := by
  have h : PyData.canLayAll0 (fs.map ru) = true ∧ PyData.depthAll (fs.map ru) ≤ 2 := by
    induction fs with
    | nil => simp [PyData.canLayAll0, PyData.depthAll]
    | cons q fs ih =>
      have := dep_ru1 q
      rw [List.map_cons]
      simp only [PyData.canLayAll0, PyData.depthAll, Bool.and_eq_true]
      exact ⟨⟨lay_ru1 q, ih.1⟩, by omega⟩
  unfold SeqAt.shaped
  simp only [PyData.canLay0, PyData.depth, Bool.and_eq_true]
  exact ⟨h.1, decide_eq_true (by omega)⟩
theorem alike_lr : ∀ fs gs : List (List R), PySem.W.alikeAll (fs.map ru) (gs.map ru) = true
  | [], _ => by simp [PySem.W.alikeAll]
  | _ :: _, [] => by simp [PySem.W.alikeAll]
  | x :: xs, y :: ys => by
    rw [List.map_cons, List.map_cons, PySem.W.alikeAll, alike_lr xs ys, alike_ru]
    rfl
theorem eqv_lr (fs : List (List R)) : PyData.eqv (.list (fs.map ru)) (.list (fs.map ru)) = true :=
  PySem.W.eqv_refl_alike _ (by rw [PySem.W.alike]; exact alike_lr fs fs)
theorem TL.dp {H : Hp} : ∀ {vs : List V} {fs : List (List R)}, TL K H vs fs → DpAll K H vs (fs.map ru)
  | [], [], _ => .nil
  | v :: vs, f :: fs, h => by
    obtain ⟨⟨a, h1, h2⟩, t⟩ := h
    subst h1
    exact .cons (dp_ru h2) (TL.dp t)
  | [], _ :: _, h => h.elim
  | _ :: _, [], h => h.elim
theorem a_neTL {H : Hp} {Q : VK} {a b : Addr} {xs ys : List V} {fs : List (List R)} (h1 : SqL K H a xs) (t1 : TL K H xs fs) (h2 : SqL K H b ys) (t2 : TL K H ys fs) (k : Q (.bl false) H) : rNeD K (.ref a) (.ref b) H Q :=
  ⟨.list (fs.map ru), .list (fs.map ru), .lst h1 t1.dp, .lst h2 t2.dp, shp_lr fs, shp_lr fs, by rw [eqv_lr]; exact k⟩
theorem a_ninTL {H : Hp} {Q : VK} {a p : Addr} {f : List R} {xs : List V} {fs : List (List R)} (ha : SqT K H a (tv f)) (h1 : SqL K H p xs) (t1 : TL K H xs fs) (k : Q (.bl (!decide (f ∈ fs))) H) : rNotInD K (.ref a) (.ref p) H Q := by
  refine ⟨ru f, fs.map ru, dp_ru ha, .lst h1 t1.dp, shaped_ru f, shp_lr fs, ?_⟩
  have e : (fs.map ru).any (fun z => PyData.eqv z (ru f)) = decide (f ∈ fs) := by
    rw [List.any_map]
    clear k t1
    induction fs with
    | nil => rfl
    | cons g fs ih =>
      rw [List.any_cons, ih]
      show (PyData.eqv (ru g) (ru f) || _) = _
      rw [eqv_ru]
      by_cases h : g = f
      · subst h
        simp
      · have h' : f ≠ g := fun z => h z.symm
        simp [h, h']
  rw [e]
  exact k
/-- all rows -/
def pEv (K : PySem.W.Frag) : Sp := fun vs H Q _ => ∃ n : Nat, vs = [.int (n : Int)] ∧ n ≤ 3 ∧ ∀ l ws H1, H l = none → Ex H H1 → H1 l = some (.lst ws) → TL K H1 ws (evs n) → Q (.ref l) H1
theorem evs_len : ∀ n ≤ 3, (evs n).length ≤ 64 := by decide +kernel
theorem ok__law_every (T : Tx K mg) : FnOk P w K mg base CX0 3 T.a__law_every T.e__law_every p__law_every (pEv K) := by
  refine T.d__law_every.F.ok sc__law_every (fun vs H Q E h => ?_) (fun cdv A outer s H vs Q E hr h => ?_)
  · obtain ⟨n, rfl, _⟩ := h
    rfl
  obtain ⟨n, rfl, hn, q⟩ := h
  refine ⟨_, (pss_cons (ps_set (i := 1) sc__law_every.nd rfl (.inl rfl) (pe_lst (pa_cons (pe_tup pa_nil) pa_nil)))
    (pss_cons (ps_for PassesOwn.never rfl (pi_range1 (by rfl) T.b_range (pa_cons (pv 0) pa_nil)) (pg_name (i := 2) sc__law_every.nd rfl (.inl rfl)) (pss_cons (ps_set (i := 3) sc__law_every.nd rfl (.inl rfl) (pe_lst pa_nil))
    (pss_cons (ps_for PassesOwn.never rfl (plK K (pv 1)) (pg_name (i := 4) sc__law_every.nd rfl (.inr rfl)) (pss_one (ps_expr (pe_bm PySem.F.plainAttrs_list PySem.F.slot_list_extend PySem.F.type_list_extend mt_extend (pv 3) (pa_cons (pe_lc (own := [("right", 5)]) (g := gName 5) rfl sc__law_every.nd  (plK K (pe_lst (pa_cons pe_str (pa_cons pe_str (pa_cons pe_str (pa_cons pe_str pa_nil)))))) (blkOk_by (own := [("right", 5)]) (N := n__law_every) (sc := defScope s__law_every) (by decide +kernel)) (fun _ _ _ _ _ => (pg_name (i := 5) sc__law_every.nd rfl (Or.inl rfl))) (fun _ _ _ _ _ => pts_nil) (fun _ _ _ _ _ => (pe_op (catAK K) (pv 4) (pe_tup (pa_cons (pv 5) pa_nil))))) pa_nil)))))
    (pss_one (ps_set (i := 1) sc__law_every.nd rfl (.inl rfl) (pv 3))))))
    (pss_one (ps_ret (pv 1))))), ?_⟩
  walk_at "r"
  refine new_tup (xs := []) (by simp) fun t0 H1 n1 e1 f1 => ?_
  walk_at "r"
  refine new_lst (by simp) fun l0 H2 n2 e2 f2 => ?_
  walk_at "r"
  refine r_R1 (by omega) ?_
  refine lp_range (fun k σ h => (∃ l u2 u3 u4 u5, σ = [some (.int (n : Int)), some (.ref l), u2, u3, u4, u5] ∧ H l = none ∧ ∃ ws, h l = some (.lst ws) ∧ TL K h ws (evs k)) ∧ Ex H h)
    ⟨⟨l0, _, _, _, _, rfl, ex_none e1 n2, _, f2, TL.one (f := []) (SqT.of (e2 _ _ f1))⟩, e1.trans e2⟩ ?_ ?_
  · rintro k σ h hk ⟨⟨l, u2, u3, u4, u5, rfl, nl, ws, fl, tl⟩, e⟩
    have hk3 : k < 3 := by omega
    have lw := tl.len
    have lv := evs_len k (by omega)
    walk_at "r"
    refine new_lst (xs := []) (by simp) fun D h1 nD e3 fD => ?_
    walk_at "r"
    have fl1 := e3 _ _ fl
    have Dl : D ≠ l := fun z => by rw [z, fl] at nD; cases nD
    refine r_L (SqL.of fl1) ?_
    refine lp_list (xs := ws) (fun j σ h' => (∃ u4 u5, σ = [some (.int (n : Int)), some (.ref l), some (.int (0 + (k : Int))), some (.ref D), u4, u5]) ∧ Ex h h' ∧ ∃ acc, h' D = some (.lst acc) ∧ TL K h' acc (((evs k).take j).flatMap fun row => [R.n, .r, .rw, .w].map fun x => row ++ [x]))
      ⟨⟨_, _, rfl⟩, e3, [], fD, trivial⟩ (fun j σ h' _ g => SqL.of (g.2.1 _ _ fl)) ?_ ?_
    · rintro j v σ h' hv ⟨⟨u4, u5, rfl⟩, e4, acc, fD', tD⟩
      obtain ⟨o, z, ho, rfl, hz⟩ := tl.get hv
      have lo : o.length = k := (evs_iff k o).mp (List.mem_of_getElem? ho)
      have la := tD.len
      have lacc : acc.length ≤ 256 := by
        rw [la, List.length_flatMap]
        have g : ∀ L : List (List R), ((L.map fun row => ([R.n, .r, .rw, .w].map fun x => row ++ [x]).length)).sum = 4 * L.length := fun L => by
          induction L with
          | nil => rfl
          | cons a L ih =>
            rw [List.map_cons, List.sum_cons, ih, List.length_cons]
            simp
            omega
        rw [g, List.length_take]
        omega
      walk_at "r"
      refine ⟨a_ty fD', ?_⟩
      walk_at "r"
      refine new_lst (xs := [.str "-", .str "r", .str "rw", .str "w"]) (by simp) fun c h2 n2 e5 f5 => ?_
      refine c_L (SqL.of f5) ?_
      have st : tv [R.n, .r, .rw, .w] = [.str "-", .str "r", .str "rw", .str "w"] := rfl
      rw [← st] at f5
      refine cp_list (xs := tv [R.n, .r, .rw, .w]) (fun D2 i h3 => Ex h2 h3 ∧ ∃ ac2, h3 D2 = some (.lst ac2) ∧ TL K h3 ac2 (([R.n, .r, .rw, .w].take i).map fun x => o ++ [x]) ∧ ac2.length ≤ i) (fun D2 n => ⟨Ex.new n, [], upd_same, trivial, Nat.le_refl _⟩) (fun D2 i h3 _ _ g => SqL.of (g.1 _ _ f5)) ?_ ?_
      · rintro D2 i x h3 nD2 hx ⟨e6, ac2, f6, t6, l6⟩
        obtain ⟨r, hr', rfl⟩ := tv_get hx
        have hi := at_lt hr'
        have hi' : i < 4 := hi
        have hz3 := ex_st hz (e4.trans (e5.trans e6))
        walk_at "r"
        refine ⟨rfl, ?_⟩
        walk_at "r"
        refine new_tup (by simp) fun t2 h4 n4 e7 f7 => ?_
        walk_at "r"
        refine a_catA (ex_st hz3 e7) (SqT.of f7) (by rw [tv_len]; simp; omega) fun q2 h5 e8 f8 => ?_
        refine ⟨ac2, e8 _ _ (e7 _ _ f6), sz_lt (by omega), (e6.trans (e7.trans e8)).mut nD2, ac2 ++ [.ref q2], upd_same, ?_, by rw [List.length_append]; simp; omega⟩
        rw [take_snoc hr', List.map_append]
        rw [tv_snoc] at f8
        exact TL.snoc (TL.kt (Kt.mut (e8 _ _ (e7 _ _ f6))) (t6.up (e7.trans e8))) (st_kt (Kt.mut (e8 _ _ (e7 _ _ f6))) f8)
      · rintro D2 h3 nD2 ⟨e6, ac2, f6, t6, l6⟩
        have t6' : TL K h3 ac2 ([R.n, .r, .rw, .w].map fun x => o ++ [x]) := t6
        have l4 : ac2.length ≤ 4 := l6
        have fD3 : h3 D = some (.lst acc) := e6 _ _ (e5 _ _ fD')
        walk_at "r"
        refine a_extend fD3 f6 (by omega) ?_
        walk_at "r"
        refine ⟨⟨_, _, rfl⟩, (e4.trans (e5.trans e6)).mut nD, _, upd_same, ?_⟩
        rw [take_snoc ho, List.flatMap_append]
        refine TL.kt (Kt.mut fD3) (TL.app (tD.up (e5.trans e6)) ?_)
        simpa using t6'
    · rintro σ h' ⟨⟨u4, u5, rfl⟩, e4, acc, fD', tD⟩
      rw [lw, List.take_length] at tD
      walk_at "r"
      exact ⟨⟨D, _, _, _, _, rfl, ex_none e nD, acc, fD', tD⟩, e.trans e4⟩
  · rintro σ h ⟨⟨l, u2, u3, u4, u5, rfl, nl, ws, fl, tl⟩, e⟩
    walk_at "r"
    exact q l ws h nl e fl tl
/-- what is told -/
def kd : Bool → Str
  | true => "joins"
  | false => "meets"
def toldJ : Bool → List R → List R → List (List R)
  | true, f, g => least cv (fun h => cv f h && cv g h) f.length
  | false, f, g => least (fun x y => cv y x) (fun h => cv h f && cv h g) f.length
def pTl (K : PySem.W.Frag) : Sp := fun vs H Q _ => ∃ (j : Bool) (a b : Addr) (f g : List R), vs = [.str (kd j), .ref a, .ref b] ∧ SqT K H a (tv f) ∧ SqT K H b (tv g) ∧ f.length ≤ 3 ∧ g.length ≤ 4 ∧
  (f.length = g.length → ∀ l ws H1, H l = none → Ex H H1 → H1 l = some (.lst ws) → TL K H1 ws (toldJ j f g) → Q (.ref l) H1) ∧
  (f.length ≠ g.length → ∀ H1, Ex H H1 → Q (.str "other length") H1)
theorem ok__law_told (T : Tx K mg) : FnOk P w K mg base CX0 13 T.a__law_told T.e__law_told p__law_told (pTl K) := by
  refine T.d__law_told.F.ok sc__law_told (fun vs H Q E h => ?_) (fun cdv A outer s H vs Q E hr h => ?_)
  · obtain ⟨j, a, b, f, g, rfl, _⟩ := h
    rfl
  obtain ⟨j, a, b, f, g, rfl, ha, hb, hf, hg, q, qe⟩ := h
  refine ⟨_, (pss_one (ps_try_as (i := 3) (Wout := fun _ _ _ _ => False) rfl rfl sc__law_told.nd rfl rfl ⟨rfl, by decide, Or.inl T.g_RightsError⟩ takes0 (fun W pn xe tk _ => (pss_cons (ps_if (pt_cmpR op_eq (pv 0) pe_str (nomark _)) (pss_one (ps_ret (pe_callS (ok_joins T) (hr.mono (by omega)) (by rfl) T.d_joins.m T.d_joins.F.kp T.d_joins.b (fun σ => passAt tk σ) (pa_cons (pv 1) (pa_cons (pv 2) pa_nil))))) pss_nil)
    (pss_one (ps_ret (pe_callS (ok_meets T) (hr.mono (by omega)) (by rfl) T.d_meets.m T.d_meets.F.kp T.d_meets.b (fun σ => passAt tk σ) (pa_cons (pv 1) (pa_cons (pv 2) pa_nil))))))) (fun a oe cls d pn hz hf => (pss_one (ps_ret (by exact (pe_xf T.x_RightsError T.n_RightsError_reason hz hf (pv 3)))))))), ?_⟩
  cases j with
  | true =>
    walk_at "r"
    refine ite2 (fun _ => ?_) (fun c => absurd (by decide) c)
    walk_at "r"
    refine ⟨a, b, f, g, rfl, ha, hb, hf, hg, fun e l ws H1 n1 e1 f1 t1 => ?_, fun ne d H1 e1 f1 => ?_⟩
    · walk_at "r"
      exact q e l ws H1 n1 e1 f1 t1
    · refine ⟨true, T.s_RightsError, fun _ a na => ?_, fun z => by cases z⟩
      walk_at "r"
      refine ⟨rfl, rfl, d, _, .str "other length", rfl, f1, rfl, ?_⟩
      exact qe ne H1 e1
  | false =>
    walk_at "r"
    refine ite2 (fun c => absurd c (by decide)) (fun _ => ?_)
    walk_at "r"
    refine ⟨a, b, f, g, rfl, ha, hb, hf, hg, fun e l ws H1 n1 e1 f1 t1 => ?_, fun ne d H1 e1 f1 => ?_⟩
    · walk_at "r"
      exact q e l ws H1 n1 e1 f1 t1
    · refine ⟨true, T.s_RightsError, fun _ a na => ?_, fun z => by cases z⟩
      walk_at "r"
      refine ⟨rfl, rfl, d, _, .str "other length", rfl, f1, rfl, ?_⟩
      exact qe ne H1 e1

end
end Ver

set_option Elab.async false
set_option linter.all false
set_option maxRecDepth 100000
set_option maxHeartbeats 4000000
namespace Ver
open PySem PySem.Spec PyProof.Rows L2 Evl
local macro_rules | `(tactic| walk_at "s") => `(tactic| with_reducible first
  | refine w_seq ?_ | refine w_asg ?_ | refine w_name ?_ | refine w_if ?_ | refine w_ret ?_ | refine w_drop ?_ | refine w_next ?_ | refine w_brk ?_ | refine w_cont ?_
  | (refine w_var (v := ?vv) ?hh ?_; (case hh => with_unfolding_all exact rfl))
  | refine w_c ?_ | refine w_op ?_ | refine w_un ?_ | refine w_I0 ?_ | refine w_neg ?_ | refine w_eqI ?_ | refine w_neI ?_ | refine w_eqS ?_ | refine w_neS ?_ | refine w_eqB ?_ | refine w_neB ?_
  | refine w_test ?_ | refine w_B ?_ | refine w_and ?_ | refine w_or ?_ | refine w_not ?_ | refine w_andV ?_ | refine w_orV ?_ | refine w_notV ?_ | refine w_ifE ?_ | refine w_yes ?_
  | refine w_nil ?_ | refine w_cons ?_ | refine w_CB ?_ | refine w_callN ?_ | refine w_BM ?_ | refine w_BMT ?_ | refine w_BM0 ?_ | refine w_noPart ?_ | refine w_part ?_ | refine w_sl ?_ | refine w_tup ?_ | refine w_lst ?_
  | refine w_subG ?_ | refine w_gcons ?_ | refine w_gnil ?_ | refine w_for ?_ | refine w_lc ?_ | refine w_iR1 ?_ | refine w_iR2 ?_ | refine w_iL ?_ | refine w_iT ?_ | refine w_iS ?_
  | (show ∃ k, V.bl _ = V.bl k ∧ _; refine ⟨_, rfl, ?_⟩) | (show ∃ k, V.int _ = V.int k ∧ _; refine ⟨_, rfl, ?_⟩)
  | refine iteT ?_ | refine iteF ?_ | refine iteNT ?_ | refine iteNF ?_ | refine r_S ?_ | refine c_S ?_ | refine a_abs ?_ | refine a_intI ?_ | refine a_intB ?_ | refine w_par ?_ | refine w_dK ?_ | refine w_chain ?_ | (show ∃ v w, [_, _] = [v, w] ∧ _; refine ⟨_, _, rfl, ?_⟩)
  | refine w_getF ?_ | refine w_setF ?_ | refine w_newI ?_ | refine w_callS ?_ | refine w_getD1 ?_ | refine w_putD ?_ | refine w_veI ?_ | refine w_ostI ?_ | refine w_mkO ?_ | refine w_newS ?_ | refine w_xf ?_ | refine w_dget ?_ | refine w_din ?_ | refine w_dnin ?_ | refine w_iEn ?_ | refine w_iZp ?_ | refine w_dc ?_
  | refine a_isNn ?_ | refine a_isNr ?_ | refine a_notNn ?_ | refine a_notNr ?_ | refine a_isTy ?_ | refine a_notTy ?_ | refine a_isBl ?_ | refine a_notBl ?_)
local macro_rules | `(tactic| walk_at "r") => `(tactic| repeat walk_at "s")
local macro_rules | `(tactic| walk_at "tr") => `(tactic| first
  | assumption
  | (refine ex_at (H := ?H0) ?h1 ?h2; (case h2 => assumption); (case h1 => walk_at "tr"))
  | (refine ks_at (H := ?H0) (S := ?S0) ?h1 ?h2 ?h3; (case h2 => assumption); (case h3 => walk_at "nin"); (case h1 => walk_at "tr")))
local macro_rules | `(tactic| walk_at "nin") => `(tactic| first
  | exact nin_nil | (refine nin_cons ?h1 ?h2; (case h1 => walk_at "ne"); (case h2 => walk_at "nin")))
local macro_rules | `(tactic| walk_at "ne") => `(tactic| first
  | assumption | exact Ne.symm (by assumption)
  | (refine bx_nb (H := ?H0) (r := ?r0) ?h1 ?h2; (case h2 => assumption); (case h1 => walk_at "bx"))
  | (refine bx_nr (H := ?H0) (b := ?b0) ?h1 ?h2; (case h2 => assumption); (case h1 => walk_at "bx"))
  | (refine Ne.symm (bx_nb (H := ?H0) (r := ?r0) ?h1 ?h2); (case h2 => assumption); (case h1 => walk_at "bx"))
  | (refine ne_old (H := ?H0) (o := ?o0) ?h1 ?h2; (case h2 => assumption); (case h1 => walk_at "tr"))
  | (refine Ne.symm (ne_old (H := ?H0) (o := ?o0) ?h1 ?h2); (case h2 => assumption); (case h1 => walk_at "tr"))
  | exact (Tu.ne (by assumption) (by assumption)).1 | exact (Tu.ne (by assumption) (by assumption)).2
  | (refine bx_rb (H := ?H0) ?h1; (case h1 => walk_at "bx")))
local macro_rules | `(tactic| walk_at "tu") => `(tactic| first
  | assumption
  | (refine Tu.ex (H := ?H0) ?h1 ?h2; (case h2 => assumption); (case h1 => walk_at "tu"))
  | (refine Tu.ks (H := ?H0) (S := ?S0) ?h1 ?h2 ?h3; (case h2 => assumption); (case h3 => walk_at "nin"); (case h1 => walk_at "tu")))
local macro_rules | `(tactic| walk_at "bx") => `(tactic| first
  | assumption
  | (refine bx_ex (H := ?H0) ?h1 ?h2; (case h2 => assumption); (case h1 => walk_at "bx"))
  | (refine bx_ks (H := ?H0) (S := ?S0) ?h1 ?h2 ?h3 ?h4; (case h2 => assumption); (case h3 => walk_at "nin"); (case h4 => walk_at "nin"); (case h1 => walk_at "bx")))
local macro_rules | `(tactic| walk_at "sl") => `(tactic| first
  | assumption | (refine SqL.of ?h1; (case h1 => walk_at "tr"))
  | (refine ex_sl (H := ?H0) ?h1 ?h2; (case h2 => assumption); (case h1 => walk_at "sl"))
  | (refine ks_sl (H := ?H0) (S := ?S0) ?h1 ?h2 ?h3; (case h2 => assumption); (case h3 => walk_at "nin"); (case h1 => walk_at "sl")))
local macro_rules | `(tactic| walk_at "st") => `(tactic| first
  | assumption | (refine Tu.st ?h1; (case h1 => walk_at "tu")) | (refine SqT.of ?h1; (case h1 => walk_at "tr"))
  | (refine ex_st (H := ?H0) ?h1 ?h2; (case h2 => assumption); (case h1 => walk_at "st"))
  | (refine ks_st (H := ?H0) (S := ?S0) ?h1 ?h2 ?h3; (case h2 => assumption); (case h3 => walk_at "nin"); (case h1 => walk_at "st")))
local macro_rules | `(tactic| walk_at "ex") => `(tactic| first
  | exact Ex.refl _ | assumption | (refine Ex.trans (H1 := ?H0) ?h1 ?h2; (case h2 => assumption); (case h1 => walk_at "ex")))
local macro_rules | `(tactic| walk_at "ks") => `(tactic| first
  | exact Ks.refl _ _ | assumption | (refine Ks.of ?h1; (case h1 => assumption)) | (refine Ks.trans (H1 := ?H0) ?h1 ?h2; (case h2 => first | assumption | (refine Ks.of ?h3; (case h3 => assumption))); (case h1 => walk_at "ks")))
local macro_rules | `(tactic| walk_at "dp") => `(tactic| first
  | exact Dp.str _ | exact Dp.int _ | exact Dp.bl _ | exact Dp.non | assumption | exact LsAt.dp (by assumption)
  | (refine dp_ex (H := ?H0) ?h1 ?h2; (case h1 => assumption); (case h2 => walk_at "dp")))
local macro_rules | `(tactic| walk_at "ev") => `(tactic| with_reducible first
  | exact ev_nil | refine ev_cons ?_ ?_ | exact ev_m1 | exact ev_str | exact ev_int | exact ev_bl | exact ev_non
  | (refine ev_tup ?hal ?_ ?hle; (case hal => assumption); (case hle => with_unfolding_all exact Nat.le_of_ble_eq_true rfl))
  | (refine ev_ll (ev_lst ?hal ?_ ?hle); (case hal => assumption); (case hle => with_unfolding_all exact Nat.le_of_ble_eq_true rfl))
  | (refine ev_ll (ev_rep (n := ?nn) ?hal ?_ ?he ?hz); (case he => with_unfolding_all exact rfl); (case hal => assumption); (case hz => with_unfolding_all omega))
  | (refine ev_lst ?hal ?_ ?hle; (case hal => assumption); (case hle => with_unfolding_all exact Nat.le_of_ble_eq_true rfl))
  | (refine ev_lt ?he; (case he => with_unfolding_all exact rfl))
  | (refine ev_let ?hal ?_ ?hs; (case hal => assumption); (case hs => with_unfolding_all first | decide +kernel | rfl))
  | (refine ev_var (v := ?vv) ?he ?hd; (case he => with_unfolding_all exact rfl); (case hd => with_unfolding_all walk_at "dp")))

section
variable {P : Program} {w : World} {K : PySem.W.Frag} {mg : Str → Option Value} {base : Heap}
theorem lfold_succ {le : List R → List R → Bool} {rows : List (List R)} {k : Nat} {o : List R} (h : rows[k]? = some o) : lfold le rows (k + 1) = lstep le rows (lfold le rows k) o := by
  unfold lfold
  rw [take_snoc h, List.foldl_append]
  rfl
theorem lstep_len {le : List R → List R → Bool} {rows out : List (List R)} {o : List R} : (lstep le rows out o).length ≤ out.length + 1 := by
  unfold lstep
  split
  · split
    · omega
    · rw [List.length_append]
      simp
  · omega
theorem lfold_len {le : List R → List R → Bool} {rows : List (List R)} : ∀ k, (lfold le rows k).length ≤ k
  | 0 => Nat.le_refl _
  | k + 1 => by
    cases h : rows[k]? with
    | none =>
      have e : lfold le rows (k + 1) = lfold le rows k := by
        have hk := List.getElem?_eq_none_iff.mp h
        unfold lfold
        rw [List.take_of_length_le hk, List.take_of_length_le (by omega)]
      rw [e]
      have := lfold_len (le := le) (rows := rows) k
      omega
    | some o =>
      rw [lfold_succ h]
      have := lfold_len (le := le) (rows := rows) k
      have := lstep_len (le := le) (rows := rows) (out := lfold le rows k) (o := o)
      omega
theorem TL.its {H : Hp} : ∀ {vs : List V} {fs : List (List R)}, TL K H vs fs → ∃ its : List (Addr × List R), vs = its.map itV ∧ fs = its.map Prod.snd ∧ ∀ p ∈ its, SqT K H p.1 (tv p.2)
  | [], [], _ => ⟨[], rfl, rfl, fun p hp => by cases hp⟩
  | v :: vs, f :: fs, h => by
    obtain ⟨⟨a, h1, h2⟩, t⟩ := h
    obtain ⟨its, e1, e2, hs⟩ := TL.its t
    refine ⟨(a, f) :: its, by rw [h1, e1]; rfl, by rw [e2]; rfl, fun p hp => ?_⟩
    rcases List.mem_cons.mp hp with rfl | hp
    · exact h2
    · exact hs p hp
  | [], _ :: _, h => h.elim
  | _ :: _, [], h => h.elim
theorem TL.of_its {H : Hp} : ∀ {its : List (Addr × List R)}, (∀ p ∈ its, SqT K H p.1 (tv p.2)) → TL K H (its.map itV) (its.map Prod.snd)
  | [], _ => trivial
  | p :: its, h => ⟨⟨p.1, rfl, h p (List.mem_cons_self ..)⟩, TL.of_its fun q hq => h q (List.mem_cons_of_mem _ hq)⟩
theorem sort_snd (its : List (Addr × List R)) : (its.mergeSort leT).map Prod.snd = (its.map Prod.snd).mergeSort leR := List.map_mergeSort fun a _ b _ => rfl
/-- the law's least -/
def pLe (K : PySem.W.Frag) (le : List R → List R → Bool) : Sp := fun vs H Q _ => ∃ (p : Addr) (xs : List V) (rows : List (List R)) (n : Nat), vs = [.ref p] ∧ SqL K H p xs ∧ TL K H xs rows ∧ rows.length ≤ 64 ∧ (∀ g ∈ rows, g.length = n) ∧ n ≤ 3 ∧ (n = 0 → rows = [[]]) ∧
  ∀ l ws H1, H l = none → Ex H H1 → H1 l = some (.lst ws) → TL K H1 ws ((rows.foldl (lstep le rows) []).mergeSort leR) → Q (.ref l) H1
theorem ok__law_least (T : Tx K mg) : FnOk P w K mg base CX0 10 T.a__law_least T.e__law_least p__law_least (pLe K cv) := by
  refine T.d__law_least.F.ok sc__law_least (fun vs H Q E h => ?_) (fun cdv A outer s H vs Q E hr h => ?_)
  · obtain ⟨p, xs, rows, n, rfl, _⟩ := h
    rfl
  obtain ⟨p, xs, rows, n, rfl, hp, tl, l64, hln, hn, h0, q⟩ := h
  have lx := tl.len
  refine ⟨_, (pss_cons (ps_set (i := 1) sc__law_least.nd rfl (.inl rfl) (pe_lst pa_nil))
    (pss_cons (ps_for PassesOwn.never rfl (plK K (pv 0)) (pg_name (i := 2) sc__law_least.nd rfl (.inr rfl)) (pss_one (ps_if (pt_cmpR op_eq (pe_callB (lenK K) (by rfl) T.b_len PySem.boot_len (pa_cons (pe_lc (own := [("two", 3)]) (g := gName 3) rfl sc__law_least.nd  (plK K (pv 0)) (blkOk_by (own := [("two", 3)]) (N := n__law_least) (sc := defScope s__law_least) (by decide +kernel)) (fun _ _ _ _ _ => (pg_name (i := 3) sc__law_least.nd rfl (Or.inl rfl))) (fun _ _ _ _ _ => (pts_one (PW.pt (pw_and (pt_val (pe_call (ok__law_converts T 7) (hr.mono (by omega)) (by rfl) T.d__law_converts.m T.d__law_converts.F.kp T.d__law_converts.b .nil pass0 (pa_cons (pv 3) (pa_cons (pv 2) pa_nil)))) (pw_and1 (pt_not (pt_val (pe_call (ok__law_converts T 7) (hr.mono (by omega)) (by rfl) T.d__law_converts.m T.d__law_converts.F.kp T.d__law_converts.b .nil pass0 (pa_cons (pv 2) (pa_cons (pv 3) pa_nil)))))))))) (fun _ _ _ _ _ => (pv 3))) pa_nil)) pe_int (nomark _)) (pss_one (ps_if (pt_cmpR (ninDK K (hd_of hr)) (pe_call (ok__law_plain T) (hr.mono (by omega)) (by rfl) T.d__law_plain.m T.d__law_plain.F.kp T.d__law_plain.b .nil pass0 (pa_cons (pv 2) pa_nil)) (pv 1) (by rfl)) (pss_one (ps_expr (pe_bm PySem.F.plainAttrs_list PySem.F.slot_list_append PySem.F.type_list_append mt_append (pv 1) (pa_cons (pe_call (ok__law_plain T) (hr.mono (by omega)) (by rfl) T.d__law_plain.m T.d__law_plain.F.kp T.d__law_plain.b .nil pass0 (pa_cons (pv 2) pa_nil)) pa_nil)))) pss_nil)) pss_nil)))
    (pss_one (ps_ret (pe_callB (srtK K hr.units) (by rfl) T.b_sorted (by decide +kernel) (pa_cons (pv 1) pa_nil)))))), ?_⟩
  walk_at "r"
  refine new_lst (xs := []) (by simp) fun D H1 nD e1 fD => ?_
  walk_at "r"
  have hp1 := ex_sl hp e1
  refine r_L hp1 ?_
  refine lp_list (xs := xs) (fun k σ h => (∃ u2 u3, σ = [some (.ref p), some (.ref D), u2, u3]) ∧ Ex H h ∧ ∃ acc, h D = some (.lst acc) ∧ TL K h acc (lfold cv rows k)) ⟨⟨_, _, rfl⟩, e1, [], fD, trivial⟩ (fun k σ h _ g => ex_sl hp g.2.1) ?_ ?_
  · rintro k v σ h hv ⟨⟨u2, u3, rfl⟩, e, acc, fa, ta⟩
    obtain ⟨o, z, ho, rfl, hz⟩ := tl.get hv
    have lo : o.length = n := hln o (List.mem_of_getElem? ho)
    have la := ta.len
    have lb := lfold_len (le := cv) (rows := rows) k
    have hk := at_lt ho
    have hz' := ex_st hz e
    walk_at "r"
    refine c_L (ex_sl hp e) ?_
    refine cp_list (xs := xs) (fun D2 i h' => Ex h h' ∧ ∃ ac2, h' D2 = some (.lst ac2) ∧ ac2.length = ((rows.take i).filter fun two => cv two o && !cv o two).length) (fun D2 n => ⟨Ex.new n, [], upd_same, rfl⟩) (fun D2 i h' _ _ g => ex_sl hp (e.trans g.1)) ?_ ?_
    · rintro D2 i x h' nD2 hx ⟨e2, ac2, f2, l2⟩
      obtain ⟨o2, z2, ho2, rfl, hz2⟩ := tl.get hx
      have lo2 : o2.length = n := hln o2 (List.mem_of_getElem? ho2)
      have l2' : ac2.length ≤ 64 := by rw [l2]; exact Nat.le_trans ft_len l64
      have E2 := e.trans e2
      walk_at "r"
      refine ⟨rfl, ?_⟩
      walk_at "r"
      refine ⟨z2, z, o2, o, rfl, ex_st hz2 E2, ex_st hz E2, by omega, fun h3 e3 => ?_⟩
      walk_at "r"
      refine ite2 (fun d => ?_) (fun d => ?_)
      · walk_at "r"
        refine ⟨z, z2, o, o2, rfl, ex_st hz (E2.trans e3), ex_st hz2 (E2.trans e3), by omega, fun h4 e4 => ?_⟩
        walk_at "r"
        refine ite2 (fun d' => ?_) (fun d' => ?_)
        · walk_at "r"
          have E4 := e3.trans e4
          refine ⟨ac2, E4 _ _ f2, sz_lt (by omega), (e2.trans E4).mut nD2, _, upd_same, ?_⟩
          rw [ft_yes ho2 (by show (cv o2 o && !cv o o2) = true; rw [d, d']; rfl), List.length_append, List.length_append, l2]
          rfl
        · refine ⟨e2.trans (e3.trans e4), ac2, e4 _ _ (e3 _ _ f2), ?_⟩
          rw [ft_no ho2 (by show (cv o2 o && !cv o o2) = false; rw [nf d', Bool.and_false])]
          exact l2
      · refine ite2 (fun z => by cases z) (fun _ => ?_)
        refine ⟨e2.trans e3, ac2, e3 _ _ f2, ?_⟩
        rw [ft_no ho2 (by show (cv o2 o && !cv o o2) = false; rw [nf d, Bool.false_and])]
        exact l2
    · rintro D2 h' nD2 ⟨e2, ac2, f2, l2⟩
      rw [lx, List.take_length] at l2
      have fa2 := e2 _ _ fa
      walk_at "r"
      refine a_lenL (SqL.of f2) ?_
      walk_at "r"
      refine ite2 (fun c => ?_) (fun c => ?_)
      · have c0 : (rows.filter fun two => cv two o && !cv o two).length = 0 := by
          rw [← l2]
          simpa using c
        walk_at "r"
        refine ⟨z, o, rfl, ex_st hz' e2, by omega, fun p1 h3 n3 e3 t3 => ?_⟩
        walk_at "r"
        refine a_ninTL t3.st (SqL.of (e3 _ _ fa2)) (ta.up (e2.trans e3)) ?_
        walk_at "r"
        refine ite2 (fun d => ?_) (fun d => ?_)
        · have d' : ¬ pl o ∈ lfold cv rows k := by simpa using d
          walk_at "r"
          refine ⟨a_ty (e3 _ _ fa2), ?_⟩
          walk_at "r"
          refine ⟨z, o, rfl, ex_st hz' (e2.trans e3), by omega, fun p2 h4 n4 e4 t4 => ?_⟩
          walk_at "r"
          have fa4 := e4 _ _ (e3 _ _ fa2)
          refine a_app fa4 (by omega) ?_
          walk_at "r"
          refine ⟨⟨_, _, rfl⟩, (e.trans (e2.trans (e3.trans e4))).mut nD, _, upd_same, ?_⟩
          rw [lfold_succ ho]
          unfold lstep
          rw [if_pos c0, if_neg d']
          exact TL.snoc (TL.kt (Kt.mut fa4) (ta.up (e2.trans (e3.trans e4)))) (st_kt (Kt.mut fa4) t4.st)
        · have d' : pl o ∈ lfold cv rows k := by simpa using d
          walk_at "r"
          refine ⟨⟨_, _, rfl⟩, e.trans (e2.trans e3), acc, e3 _ _ fa2, ?_⟩
          rw [lfold_succ ho]
          unfold lstep
          rw [if_pos c0, if_pos d']
          exact ta.up (e2.trans e3)
      · have c0 : ¬ (rows.filter fun two => cv two o && !cv o two).length = 0 := by
          rw [← l2]
          simpa using c
        walk_at "r"
        refine ⟨⟨_, _, rfl⟩, e.trans e2, acc, fa2, ?_⟩
        rw [lfold_succ ho]
        unfold lstep
        rw [if_neg c0]
        exact ta.up e2
  · rintro σ h ⟨⟨u2, u3, rfl⟩, e, acc, fa, ta⟩
    have lb := lfold_len (le := cv) (rows := rows) xs.length
    have eL : lfold cv rows xs.length = rows.foldl (lstep cv rows) [] := by unfold lfold; rw [lx, List.take_length]
    rw [eL] at ta lb
    have mem : ∀ f ∈ rows.foldl (lstep cv rows) [], f.length = n := fun f hf => by
      rcases (lfold_mem rows []).mp hf with h | ⟨o, ho, _, rfl⟩
      · cases h
      · rw [pl_len, hln o ho]
    have one : n = 0 → rows.foldl (lstep cv rows) [] = [[]] := fun z => by
      rw [h0 z]
      decide +kernel
    generalize rows.foldl (lstep cv rows) [] = L at ta lb mem one q
    obtain ⟨its, rfl, rfl, hs⟩ := ta.its
    walk_at "r"
    refine ⟨D, its, rfl, SqL.of fa, hs, ?_, by rw [List.length_map] at lb; omega, fun l nl => ?_⟩
    · by_cases n0 : n = 0
      · right
        have := one n0
        match its, this with
        | [(a, f)], h =>
          have : f = [] := by simpa using h
          subst this
          exact ⟨a, rfl⟩
        | [], h => cases h
        | _ :: _ :: _, h => simp at h
      · left
        intro p hp z
        have := mem p.2 (List.mem_map.mpr ⟨p, hp, rfl⟩)
        rw [z] at this
        exact n0 this.symm
    · have nl' : H l = none := ex_none e nl
      refine q l _ _ nl' (e.trans (Ex.new nl)) upd_same ?_
      rw [← sort_snd]
      exact TL.of_its fun p hp => ex_st (hs p (List.mem_mergeSort.mp hp)) (Ex.new nl)
theorem ok__law_greatest (T : Tx K mg) : FnOk P w K mg base CX0 10 T.a__law_greatest T.e__law_greatest p__law_greatest (pLe K (fun x y => cv y x)) := by
  refine T.d__law_greatest.F.ok sc__law_greatest (fun vs H Q E h => ?_) (fun cdv A outer s H vs Q E hr h => ?_)
  · obtain ⟨p, xs, rows, n, rfl, _⟩ := h
    rfl
  obtain ⟨p, xs, rows, n, rfl, hp, tl, l64, hln, hn, h0, q⟩ := h
  have lx := tl.len
  refine ⟨_, (pss_cons (ps_set (i := 1) sc__law_greatest.nd rfl (.inl rfl) (pe_lst pa_nil))
    (pss_cons (ps_for PassesOwn.never rfl (plK K (pv 0)) (pg_name (i := 2) sc__law_greatest.nd rfl (.inr rfl)) (pss_one (ps_if (pt_cmpR op_eq (pe_callB (lenK K) (by rfl) T.b_len PySem.boot_len (pa_cons (pe_lc (own := [("two", 3)]) (g := gName 3) rfl sc__law_greatest.nd  (plK K (pv 0)) (blkOk_by (own := [("two", 3)]) (N := n__law_greatest) (sc := defScope s__law_greatest) (by decide +kernel)) (fun _ _ _ _ _ => (pg_name (i := 3) sc__law_greatest.nd rfl (Or.inl rfl))) (fun _ _ _ _ _ => (pts_one (PW.pt (pw_and (pt_val (pe_call (ok__law_converts T 7) (hr.mono (by omega)) (by rfl) T.d__law_converts.m T.d__law_converts.F.kp T.d__law_converts.b .nil pass0 (pa_cons (pv 2) (pa_cons (pv 3) pa_nil)))) (pw_and1 (pt_not (pt_val (pe_call (ok__law_converts T 7) (hr.mono (by omega)) (by rfl) T.d__law_converts.m T.d__law_converts.F.kp T.d__law_converts.b .nil pass0 (pa_cons (pv 3) (pa_cons (pv 2) pa_nil)))))))))) (fun _ _ _ _ _ => (pv 3))) pa_nil)) pe_int (nomark _)) (pss_one (ps_if (pt_cmpR (ninDK K (hd_of hr)) (pe_call (ok__law_plain T) (hr.mono (by omega)) (by rfl) T.d__law_plain.m T.d__law_plain.F.kp T.d__law_plain.b .nil pass0 (pa_cons (pv 2) pa_nil)) (pv 1) (by rfl)) (pss_one (ps_expr (pe_bm PySem.F.plainAttrs_list PySem.F.slot_list_append PySem.F.type_list_append mt_append (pv 1) (pa_cons (pe_call (ok__law_plain T) (hr.mono (by omega)) (by rfl) T.d__law_plain.m T.d__law_plain.F.kp T.d__law_plain.b .nil pass0 (pa_cons (pv 2) pa_nil)) pa_nil)))) pss_nil)) pss_nil)))
    (pss_one (ps_ret (pe_callB (srtK K hr.units) (by rfl) T.b_sorted (by decide +kernel) (pa_cons (pv 1) pa_nil)))))), ?_⟩
  walk_at "r"
  refine new_lst (xs := []) (by simp) fun D H1 nD e1 fD => ?_
  walk_at "r"
  have hp1 := ex_sl hp e1
  refine r_L hp1 ?_
  refine lp_list (xs := xs) (fun k σ h => (∃ u2 u3, σ = [some (.ref p), some (.ref D), u2, u3]) ∧ Ex H h ∧ ∃ acc, h D = some (.lst acc) ∧ TL K h acc (lfold (fun x y => cv y x) rows k)) ⟨⟨_, _, rfl⟩, e1, [], fD, trivial⟩ (fun k σ h _ g => ex_sl hp g.2.1) ?_ ?_
  · rintro k v σ h hv ⟨⟨u2, u3, rfl⟩, e, acc, fa, ta⟩
    obtain ⟨o, z, ho, rfl, hz⟩ := tl.get hv
    have lo : o.length = n := hln o (List.mem_of_getElem? ho)
    have la := ta.len
    have lb := lfold_len (le := (fun x y => cv y x)) (rows := rows) k
    have hk := at_lt ho
    have hz' := ex_st hz e
    walk_at "r"
    refine c_L (ex_sl hp e) ?_
    refine cp_list (xs := xs) (fun D2 i h' => Ex h h' ∧ ∃ ac2, h' D2 = some (.lst ac2) ∧ ac2.length = ((rows.take i).filter fun two => (fun x y => cv y x) two o && !(fun x y => cv y x) o two).length) (fun D2 n => ⟨Ex.new n, [], upd_same, rfl⟩) (fun D2 i h' _ _ g => ex_sl hp (e.trans g.1)) ?_ ?_
    · rintro D2 i x h' nD2 hx ⟨e2, ac2, f2, l2⟩
      obtain ⟨o2, z2, ho2, rfl, hz2⟩ := tl.get hx
      have lo2 : o2.length = n := hln o2 (List.mem_of_getElem? ho2)
      have l2' : ac2.length ≤ 64 := by rw [l2]; exact Nat.le_trans ft_len l64
      have E2 := e.trans e2
      walk_at "r"
      refine ⟨rfl, ?_⟩
      walk_at "r"
      refine ⟨z, z2, o, o2, rfl, ex_st hz E2, ex_st hz2 E2, by omega, fun h3 e3 => ?_⟩
      walk_at "r"
      refine ite2 (fun d => ?_) (fun d => ?_)
      · walk_at "r"
        refine ⟨z2, z, o2, o, rfl, ex_st hz2 (E2.trans e3), ex_st hz (E2.trans e3), by omega, fun h4 e4 => ?_⟩
        walk_at "r"
        refine ite2 (fun d' => ?_) (fun d' => ?_)
        · walk_at "r"
          have E4 := e3.trans e4
          refine ⟨ac2, E4 _ _ f2, sz_lt (by omega), (e2.trans E4).mut nD2, _, upd_same, ?_⟩
          rw [ft_yes ho2 (by show (cv o o2 && !cv o2 o) = true; rw [d, d']; rfl), List.length_append, List.length_append, l2]
          rfl
        · refine ⟨e2.trans (e3.trans e4), ac2, e4 _ _ (e3 _ _ f2), ?_⟩
          rw [ft_no ho2 (by show (cv o o2 && !cv o2 o) = false; rw [nf d', Bool.and_false])]
          exact l2
      · refine ite2 (fun z => by cases z) (fun _ => ?_)
        refine ⟨e2.trans e3, ac2, e3 _ _ f2, ?_⟩
        rw [ft_no ho2 (by show (cv o o2 && !cv o2 o) = false; rw [nf d, Bool.false_and])]
        exact l2
    · rintro D2 h' nD2 ⟨e2, ac2, f2, l2⟩
      rw [lx, List.take_length] at l2
      have fa2 := e2 _ _ fa
      walk_at "r"
      refine a_lenL (SqL.of f2) ?_
      walk_at "r"
      refine ite2 (fun c => ?_) (fun c => ?_)
      · have c0 : (rows.filter fun two => (fun x y => cv y x) two o && !(fun x y => cv y x) o two).length = 0 := by
          rw [← l2]
          simpa using c
        walk_at "r"
        refine ⟨z, o, rfl, ex_st hz' e2, by omega, fun p1 h3 n3 e3 t3 => ?_⟩
        walk_at "r"
        refine a_ninTL t3.st (SqL.of (e3 _ _ fa2)) (ta.up (e2.trans e3)) ?_
        walk_at "r"
        refine ite2 (fun d => ?_) (fun d => ?_)
        · have d' : ¬ pl o ∈ lfold (fun x y => cv y x) rows k := by simpa using d
          walk_at "r"
          refine ⟨a_ty (e3 _ _ fa2), ?_⟩
          walk_at "r"
          refine ⟨z, o, rfl, ex_st hz' (e2.trans e3), by omega, fun p2 h4 n4 e4 t4 => ?_⟩
          walk_at "r"
          have fa4 := e4 _ _ (e3 _ _ fa2)
          refine a_app fa4 (by omega) ?_
          walk_at "r"
          refine ⟨⟨_, _, rfl⟩, (e.trans (e2.trans (e3.trans e4))).mut nD, _, upd_same, ?_⟩
          rw [lfold_succ ho]
          unfold lstep
          rw [if_pos c0, if_neg d']
          exact TL.snoc (TL.kt (Kt.mut fa4) (ta.up (e2.trans (e3.trans e4)))) (st_kt (Kt.mut fa4) t4.st)
        · have d' : pl o ∈ lfold (fun x y => cv y x) rows k := by simpa using d
          walk_at "r"
          refine ⟨⟨_, _, rfl⟩, e.trans (e2.trans e3), acc, e3 _ _ fa2, ?_⟩
          rw [lfold_succ ho]
          unfold lstep
          rw [if_pos c0, if_pos d']
          exact ta.up (e2.trans e3)
      · have c0 : ¬ (rows.filter fun two => (fun x y => cv y x) two o && !(fun x y => cv y x) o two).length = 0 := by
          rw [← l2]
          simpa using c
        walk_at "r"
        refine ⟨⟨_, _, rfl⟩, e.trans e2, acc, fa2, ?_⟩
        rw [lfold_succ ho]
        unfold lstep
        rw [if_neg c0]
        exact ta.up e2
  · rintro σ h ⟨⟨u2, u3, rfl⟩, e, acc, fa, ta⟩
    have lb := lfold_len (le := (fun x y => cv y x)) (rows := rows) xs.length
    have eL : lfold (fun x y => cv y x) rows xs.length = rows.foldl (lstep (fun x y => cv y x) rows) [] := by unfold lfold; rw [lx, List.take_length]
    rw [eL] at ta lb
    have mem : ∀ f ∈ rows.foldl (lstep (fun x y => cv y x) rows) [], f.length = n := fun f hf => by
      rcases (lfold_mem rows []).mp hf with h | ⟨o, ho, _, rfl⟩
      · cases h
      · rw [pl_len, hln o ho]
    have one : n = 0 → rows.foldl (lstep (fun x y => cv y x) rows) [] = [[]] := fun z => by
      rw [h0 z]
      decide +kernel
    generalize rows.foldl (lstep (fun x y => cv y x) rows) [] = L at ta lb mem one q
    obtain ⟨its, rfl, rfl, hs⟩ := ta.its
    walk_at "r"
    refine ⟨D, its, rfl, SqL.of fa, hs, ?_, by rw [List.length_map] at lb; omega, fun l nl => ?_⟩
    · by_cases n0 : n = 0
      · right
        have := one n0
        match its, this with
        | [(a, f)], h =>
          have : f = [] := by simpa using h
          subst this
          exact ⟨a, rfl⟩
        | [], h => cases h
        | _ :: _ :: _, h => simp at h
      · left
        intro p hp z
        have := mem p.2 (List.mem_map.mpr ⟨p, hp, rfl⟩)
        rw [z] at this
        exact n0 this.symm
    · have nl' : H l = none := ex_none e nl
      refine q l _ _ nl' (e.trans (Ex.new nl)) upd_same ?_
      rw [← sort_snd]
      exact TL.of_its fun p hp => ex_st (hs p (List.mem_mergeSort.mp hp)) (Ex.new nl)

end
end Ver

set_option Elab.async false
set_option linter.all false
set_option maxRecDepth 100000
set_option maxHeartbeats 4000000
namespace Ver
open PySem PySem.Spec PyProof.Rows L2 Evl
local macro_rules | `(tactic| walk_at "s") => `(tactic| with_reducible first
  | refine w_seq ?_ | refine w_asg ?_ | refine w_name ?_ | refine w_if ?_ | refine w_ret ?_ | refine w_drop ?_ | refine w_next ?_ | refine w_brk ?_ | refine w_cont ?_
  | (refine w_var (v := ?vv) ?hh ?_; (case hh => with_unfolding_all exact rfl))
  | refine w_c ?_ | refine w_op ?_ | refine w_un ?_ | refine w_I0 ?_ | refine w_neg ?_ | refine w_eqI ?_ | refine w_neI ?_ | refine w_eqS ?_ | refine w_neS ?_ | refine w_eqB ?_ | refine w_neB ?_
  | refine w_test ?_ | refine w_B ?_ | refine w_and ?_ | refine w_or ?_ | refine w_not ?_ | refine w_andV ?_ | refine w_orV ?_ | refine w_notV ?_ | refine w_ifE ?_ | refine w_yes ?_
  | refine w_nil ?_ | refine w_cons ?_ | refine w_CB ?_ | refine w_callN ?_ | refine w_BM ?_ | refine w_BMT ?_ | refine w_BM0 ?_ | refine w_noPart ?_ | refine w_part ?_ | refine w_sl ?_ | refine w_tup ?_ | refine w_lst ?_
  | refine w_subG ?_ | refine w_gcons ?_ | refine w_gnil ?_ | refine w_for ?_ | refine w_lc ?_ | refine w_iR1 ?_ | refine w_iR2 ?_ | refine w_iL ?_ | refine w_iT ?_ | refine w_iS ?_
  | (show ∃ k, V.bl _ = V.bl k ∧ _; refine ⟨_, rfl, ?_⟩) | (show ∃ k, V.int _ = V.int k ∧ _; refine ⟨_, rfl, ?_⟩)
  | refine iteT ?_ | refine iteF ?_ | refine iteNT ?_ | refine iteNF ?_ | refine r_S ?_ | refine c_S ?_ | refine a_abs ?_ | refine a_intI ?_ | refine a_intB ?_ | refine w_par ?_ | refine w_dK ?_ | refine w_chain ?_ | (show ∃ v w, [_, _] = [v, w] ∧ _; refine ⟨_, _, rfl, ?_⟩)
  | refine w_getF ?_ | refine w_setF ?_ | refine w_newI ?_ | refine w_callS ?_ | refine w_getD1 ?_ | refine w_putD ?_ | refine w_veI ?_ | refine w_ostI ?_ | refine w_mkO ?_ | refine w_newS ?_ | refine w_xf ?_ | refine w_dget ?_ | refine w_din ?_ | refine w_dnin ?_ | refine w_iEn ?_ | refine w_iZp ?_ | refine w_dc ?_
  | refine a_isNn ?_ | refine a_isNr ?_ | refine a_notNn ?_ | refine a_notNr ?_ | refine a_isTy ?_ | refine a_notTy ?_ | refine a_isBl ?_ | refine a_notBl ?_)
local macro_rules | `(tactic| walk_at "r") => `(tactic| repeat walk_at "s")
local macro_rules | `(tactic| walk_at "tr") => `(tactic| first
  | assumption
  | (refine ex_at (H := ?H0) ?h1 ?h2; (case h2 => assumption); (case h1 => walk_at "tr"))
  | (refine ks_at (H := ?H0) (S := ?S0) ?h1 ?h2 ?h3; (case h2 => assumption); (case h3 => walk_at "nin"); (case h1 => walk_at "tr")))
local macro_rules | `(tactic| walk_at "nin") => `(tactic| first
  | exact nin_nil | (refine nin_cons ?h1 ?h2; (case h1 => walk_at "ne"); (case h2 => walk_at "nin")))
local macro_rules | `(tactic| walk_at "ne") => `(tactic| first
  | assumption | exact Ne.symm (by assumption)
  | (refine bx_nb (H := ?H0) (r := ?r0) ?h1 ?h2; (case h2 => assumption); (case h1 => walk_at "bx"))
  | (refine bx_nr (H := ?H0) (b := ?b0) ?h1 ?h2; (case h2 => assumption); (case h1 => walk_at "bx"))
  | (refine Ne.symm (bx_nb (H := ?H0) (r := ?r0) ?h1 ?h2); (case h2 => assumption); (case h1 => walk_at "bx"))
  | (refine ne_old (H := ?H0) (o := ?o0) ?h1 ?h2; (case h2 => assumption); (case h1 => walk_at "tr"))
  | (refine Ne.symm (ne_old (H := ?H0) (o := ?o0) ?h1 ?h2); (case h2 => assumption); (case h1 => walk_at "tr"))
  | exact (Tu.ne (by assumption) (by assumption)).1 | exact (Tu.ne (by assumption) (by assumption)).2
  | (refine bx_rb (H := ?H0) ?h1; (case h1 => walk_at "bx")))
local macro_rules | `(tactic| walk_at "tu") => `(tactic| first
  | assumption
  | (refine Tu.ex (H := ?H0) ?h1 ?h2; (case h2 => assumption); (case h1 => walk_at "tu"))
  | (refine Tu.ks (H := ?H0) (S := ?S0) ?h1 ?h2 ?h3; (case h2 => assumption); (case h3 => walk_at "nin"); (case h1 => walk_at "tu")))
local macro_rules | `(tactic| walk_at "bx") => `(tactic| first
  | assumption
  | (refine bx_ex (H := ?H0) ?h1 ?h2; (case h2 => assumption); (case h1 => walk_at "bx"))
  | (refine bx_ks (H := ?H0) (S := ?S0) ?h1 ?h2 ?h3 ?h4; (case h2 => assumption); (case h3 => walk_at "nin"); (case h4 => walk_at "nin"); (case h1 => walk_at "bx")))
local macro_rules | `(tactic| walk_at "sl") => `(tactic| first
  | assumption | (refine SqL.of ?h1; (case h1 => walk_at "tr"))
  | (refine ex_sl (H := ?H0) ?h1 ?h2; (case h2 => assumption); (case h1 => walk_at "sl"))
  | (refine ks_sl (H := ?H0) (S := ?S0) ?h1 ?h2 ?h3; (case h2 => assumption); (case h3 => walk_at "nin"); (case h1 => walk_at "sl")))
local macro_rules | `(tactic| walk_at "st") => `(tactic| first
  | assumption | (refine Tu.st ?h1; (case h1 => walk_at "tu")) | (refine SqT.of ?h1; (case h1 => walk_at "tr"))
  | (refine ex_st (H := ?H0) ?h1 ?h2; (case h2 => assumption); (case h1 => walk_at "st"))
  | (refine ks_st (H := ?H0) (S := ?S0) ?h1 ?h2 ?h3; (case h2 => assumption); (case h3 => walk_at "nin"); (case h1 => walk_at "st")))
local macro_rules | `(tactic| walk_at "ex") => `(tactic| first
  | exact Ex.refl _ | assumption | (refine Ex.trans (H1 := ?H0) ?h1 ?h2; (case h2 => assumption); (case h1 => walk_at "ex")))
local macro_rules | `(tactic| walk_at "ks") => `(tactic| first
  | exact Ks.refl _ _ | assumption | (refine Ks.of ?h1; (case h1 => assumption)) | (refine Ks.trans (H1 := ?H0) ?h1 ?h2; (case h2 => first | assumption | (refine Ks.of ?h3; (case h3 => assumption))); (case h1 => walk_at "ks")))
local macro_rules | `(tactic| walk_at "dp") => `(tactic| first
  | exact Dp.str _ | exact Dp.int _ | exact Dp.bl _ | exact Dp.non | assumption | exact LsAt.dp (by assumption)
  | (refine dp_ex (H := ?H0) ?h1 ?h2; (case h1 => assumption); (case h2 => walk_at "dp")))
local macro_rules | `(tactic| walk_at "ev") => `(tactic| with_reducible first
  | exact ev_nil | refine ev_cons ?_ ?_ | exact ev_m1 | exact ev_str | exact ev_int | exact ev_bl | exact ev_non
  | (refine ev_tup ?hal ?_ ?hle; (case hal => assumption); (case hle => with_unfolding_all exact Nat.le_of_ble_eq_true rfl))
  | (refine ev_ll (ev_lst ?hal ?_ ?hle); (case hal => assumption); (case hle => with_unfolding_all exact Nat.le_of_ble_eq_true rfl))
  | (refine ev_ll (ev_rep (n := ?nn) ?hal ?_ ?he ?hz); (case he => with_unfolding_all exact rfl); (case hal => assumption); (case hz => with_unfolding_all omega))
  | (refine ev_lst ?hal ?_ ?hle; (case hal => assumption); (case hle => with_unfolding_all exact Nat.le_of_ble_eq_true rfl))
  | (refine ev_lt ?he; (case he => with_unfolding_all exact rfl))
  | (refine ev_let ?hal ?_ ?hs; (case hal => assumption); (case hs => with_unfolding_all first | decide +kernel | rfl))
  | (refine ev_var (v := ?vv) ?he ?hd; (case he => with_unfolding_all exact rfl); (case hd => with_unfolding_all walk_at "dp")))

section
variable {P : Program} {w : World} {K : PySem.W.Frag} {mg : Str → Option Value} {base : Heap}
/-- an own error is what a clause of its class catches -/
theorem own_caught {C : Addr} (q1 : PySem.W.subIn K (.ref C) (.type "BaseException") = some true) (q2 : PySem.W.isClsIn K C = true) (q3 : PySem.W.typeIn K (.ref C) = some (.type "type")) (q4 : PySem.W.subIn K (.ref C) (.ref C) = some true) : PySem.W.exmOne K (.ref C) (.ref C) = some true := by
  have q2' : (PySem.W.clsIn K C).isSome = true := q2
  unfold PySem.W.exmOne
  rw [if_pos (by rw [q1]; rfl)]
  show (if ((PySem.W.clsIn K C).isSome && PySem.W.typeIn K (.ref C) == some (.type "type")) = true then PySem.W.subIn K (.ref C) (.ref C) else none) = some true
  rw [if_pos (by rw [q2', q3]; rfl)]
  exact q4

theorem cv_ok1 (f a : List R) : cv f (pl a) = cv f a := by
  cases h : cv f a with
  | true => exact cv_trans h (pl_alike a).1
  | false =>
    cases k : cv f (pl a) with
    | false => rfl
    | true => rw [cv_trans k (pl_alike a).2] at h; cases h
theorem cv_ok2 (f a : List R) : cv (pl a) f = cv a f := by
  cases h : cv a f with
  | true => exact cv_trans (pl_alike a).2 h
  | false =>
    cases k : cv (pl a) f with
    | false => rfl
    | true => rw [cv_trans (pl_alike a).1 k] at h; cases h
theorem evs_nd : ∀ n ≤ 3, (evs n).Nodup := by decide +kernel
theorem toldJ_true {f g : List R} (h : f.length ≤ 3) : (((evs f.length).filter fun h => cv f h && cv g h).foldl (lstep cv ((evs f.length).filter fun h => cv f h && cv g h)) []).mergeSort leR = toldJ true f g :=
  sorted_least h (lfold_nd _ _ List.nodup_nil) fun k => least_mem (le := cv) (ok := fun h => cv f h && cv g h) (fun h k => cv_trans h k) pl_alike (fun h k => alike_eq h k) (fun a => by show (_ && _) = (_ && _); rw [cv_ok1, cv_ok1]) k
theorem toldJ_false {f g : List R} (h : f.length ≤ 3) : (((evs f.length).filter fun h => cv h f && cv h g).foldl (lstep (fun x y => cv y x) ((evs f.length).filter fun h => cv h f && cv h g)) []).mergeSort leR = toldJ false f g :=
  sorted_least h (lfold_nd _ _ List.nodup_nil) fun k => least_mem (le := fun x y => cv y x) (ok := fun h => cv h f && cv h g) (fun h k => cv_trans k h) (fun a => ⟨(pl_alike a).2, (pl_alike a).1⟩) (fun h k => alike_eq k h) (fun a => by show (_ && _) = (_ && _); rw [cv_ok2, cv_ok2]) k
def spLaw (K : PySem.W.Frag) : Sp := fun vs H Q _ => ∃ (a : Addr) (ns : List Int), vs = [.ref a] ∧ SqL K H a (ns.map V.int) ∧ ns.length ≤ 63 ∧ ∀ H', Q (.bl true) H'
theorem ok_law {f : Addr} {fd : FuncData} (T : Tx K mg) (F : Fun K "law" "law" s_law f fd) : FnOk P w K mg base CX0 16 f fd ["script"] (spLaw K) := by
  refine F.ok sc_law (fun vs H Q E h => ?_) (fun cdv A outer s H vs Q E hr h => ?_)
  · obtain ⟨a, ns, rfl, _⟩ := h
    rfl
  obtain ⟨a, ns, rfl, hS, h63, q⟩ := h
  refine ⟨_, (pss_cons (ps_set (i := 1) sc_law.nd rfl (.inl rfl) (pe_lst (pa_cons (pe_call (ok__law_row T) (hr.mono (by omega)) (by rfl) T.d__law_row.m T.d__law_row.F.kp T.d__law_row.b .nil pass0 (pa_cons (pv 0) (pa_cons pe_int (pa_cons pe_int pa_nil)))) (pa_cons pe_int pa_nil))))
    (pss_cons (ps_for PassesOwn.never rfl (pi_range1 (by rfl) T.b_range (pa_cons pe_int pa_nil)) (pg_name (i := 2) sc_law.nd rfl (.inl rfl)) (pss_cons (ps_set (i := 3) sc_law.nd rfl (.inl rfl) (pe_call (ok__law_draw T) (hr.mono (by omega)) (by rfl) T.d__law_draw.m T.d__law_draw.F.kp T.d__law_draw.b .nil pass0 (pa_cons (pv 1) (pa_cons pe_int pa_nil))))
    (pss_cons (ps_set (i := 4) sc_law.nd rfl (.inr rfl) (pe_call (ok__law_rights T) (hr.mono (by omega)) (by rfl) T.d__law_rights.m T.d__law_rights.F.kp T.d__law_rights.b .nil pass0 (pa_cons (pv 1) (pa_cons (pv 3) pa_nil))))
    (pss_cons (ps_set (i := 5) sc_law.nd rfl (.inr rfl) (pe_call (ok__law_rights T) (hr.mono (by omega)) (by rfl) T.d__law_rights.m T.d__law_rights.F.kp T.d__law_rights.b .nil pass0 (pa_cons (pv 1) (pa_cons (pv 3) pa_nil))))
    (pss_cons (ps_setLc (i := 6) (own := [("row", 9)]) (g := gName 9) rfl sc_law.nd rfl rfl (sw_true rfl rfl rfl (by decide +kernel)) (plK K (pe_call (ok__law_every T) (hr.mono (by omega)) (by rfl) T.d__law_every.m T.d__law_every.F.kp T.d__law_every.b .nil pass0 (pa_cons (pv 3) pa_nil))) (blkOk_by (own := [("row", 9)]) (N := n_law) (sc := defScope s_law) (by decide +kernel)) (fun _ _ _ _ _ => (pg_name (i := 9) sc_law.nd rfl (Or.inl rfl))) (fun _ _ _ _ _ => (pts_one (PW.pt (pw_and (pt_val (pe_call (ok__law_converts T 7) (hr.mono (by omega)) (by rfl) T.d__law_converts.m T.d__law_converts.F.kp T.d__law_converts.b .nil pass0 (pa_cons (pv 4) (pa_cons (pv 9) pa_nil)))) (pw_and1 (pt_val (pe_call (ok__law_converts T 7) (hr.mono (by omega)) (by rfl) T.d__law_converts.m T.d__law_converts.F.kp T.d__law_converts.b .nil pass0 (pa_cons (pv 5) (pa_cons (pv 9) pa_nil))))))))) (fun _ _ _ _ _ => (pv 9)))
    (pss_cons (ps_setLc (i := 7) (own := [("row", 9)]) (g := gName 9) rfl sc_law.nd rfl rfl (sw_true rfl rfl rfl (by decide +kernel)) (plK K (pe_call (ok__law_every T) (hr.mono (by omega)) (by rfl) T.d__law_every.m T.d__law_every.F.kp T.d__law_every.b .nil pass0 (pa_cons (pv 3) pa_nil))) (blkOk_by (own := [("row", 9)]) (N := n_law) (sc := defScope s_law) (by decide +kernel)) (fun _ _ _ _ _ => (pg_name (i := 9) sc_law.nd rfl (Or.inl rfl))) (fun _ _ _ _ _ => (pts_one (PW.pt (pw_and (pt_val (pe_call (ok__law_converts T 7) (hr.mono (by omega)) (by rfl) T.d__law_converts.m T.d__law_converts.F.kp T.d__law_converts.b .nil pass0 (pa_cons (pv 9) (pa_cons (pv 4) pa_nil)))) (pw_and1 (pt_val (pe_call (ok__law_converts T 7) (hr.mono (by omega)) (by rfl) T.d__law_converts.m T.d__law_converts.F.kp T.d__law_converts.b .nil pass0 (pa_cons (pv 9) (pa_cons (pv 5) pa_nil))))))))) (fun _ _ _ _ _ => (pv 9)))
    (pss_cons (ps_if (PW.pt (pw_or (pt_cmpR (neDK K hr.units) (pe_call (ok__law_told T) (hr.mono (by omega)) (by rfl) T.d__law_told.m T.d__law_told.F.kp T.d__law_told.b .nil pass0 (pa_cons pe_str (pa_cons (pv 4) (pa_cons (pv 5) pa_nil)))) (pe_call (ok__law_least T) (hr.mono (by omega)) (by rfl) T.d__law_least.m T.d__law_least.F.kp T.d__law_least.b .nil pass0 (pa_cons (pv 6) pa_nil)) (nomark _)) (pw_or1 (pt_cmpR (neDK K hr.units) (pe_call (ok__law_told T) (hr.mono (by omega)) (by rfl) T.d__law_told.m T.d__law_told.F.kp T.d__law_told.b .nil pass0 (pa_cons pe_str (pa_cons (pv 4) (pa_cons (pv 5) pa_nil)))) (pe_call (ok__law_greatest T) (hr.mono (by omega)) (by rfl) T.d__law_greatest.m T.d__law_greatest.F.kp T.d__law_greatest.b .nil pass0 (pa_cons (pv 7) pa_nil)) (nomark _))))) (pss_one (ps_ret pe_bl)) pss_nil)
    (pss_one (ps_for PassesOwn.never rfl (plK K (pe_lst (pa_cons pe_str (pa_cons pe_str pa_nil)))) (pg_name (i := 8) sc_law.nd rfl (.inl rfl)) (pss_one (ps_if (pt_cmpR op_ne (pe_call (ok__law_told T) (hr.mono (by omega)) (by rfl) T.d__law_told.m T.d__law_told.F.kp T.d__law_told.b .nil pass0 (pa_cons (pv 8) (pa_cons (pv 4) (pa_cons (pe_op (catAK K) (pv 5) (pe_tup (pa_cons pe_str pa_nil))) pa_nil)))) pe_str (nomark _)) (pss_one (ps_ret pe_bl)) pss_nil)))))))))))
    (pss_one (ps_ret pe_bl)))), ?_⟩
  walk_at "r"
  refine ⟨a, ns, 30, rfl, hS, by decide, by decide, fun r H1 rs n1 e1 f1 hz => ?_⟩
  walk_at "r"
  refine new_lst (xs := [_, _]) (by simp) fun b H2 n2 e2 f2 => ?_
  have hb : Bx H2 b r := ⟨0, rs, f2, e2 _ _ f1, hz⟩
  walk_at "r"
  refine r_R1 (by omega) ?_
  refine lp_range (fun k σ h => (∃ u2 u3 u4 u5 u6 u7 u8 u9, σ = [some (.ref a), some (.ref b), u2, u3, u4, u5, u6, u7, u8, u9]) ∧ Bx h b r) ⟨⟨_, _, _, _, _, _, _, _, rfl⟩, hb⟩ ?_ ?_
  case refine_2 =>
    rintro σ h ⟨⟨u2, u3, u4, u5, u6, u7, u8, u9, rfl⟩, _⟩
    walk_at "r"
    exact q h
  rintro k σ h hk ⟨⟨u2, u3, u4, u5, u6, u7, u8, u9, rfl⟩, b0⟩
  walk_at "r"
  refine ap_draw b0 (by decide) fun m h1 m0 m1 e1 b1 => ?_
  obtain ⟨n, rfl⟩ : ∃ n : Nat, m = (n : Int) := ⟨m.toNat, by omega⟩
  walk_at "r"
  refine ⟨b, r, _, rfl, b1, m0, by omega, fun q1 xs h2 n2 d1 d2 l1 e2 b2 t1 => ?_⟩
  walk_at "r"
  refine ⟨b, r, _, rfl, b2, m0, by omega, fun q2 ys h3 n3 d3 d4 l2 e3 b3 t2 => ?_⟩
  have t1 : Tu h3 q1 (tv xs) := by walk_at "tu"
  have s1 : SqT K h3 q1 (tv xs) := t1.st
  have s2 : SqT K h3 q2 (tv ys) := t2.st
  have lx : xs.length = n := by omega
  have ly : ys.length = n := by omega
  have n3' : n ≤ 3 := by omega
  have lev := evs_len n n3'
  clear t1 t2 n2 d1 d2 d3 d4 n3 e1 e2 e3 b0 b1 b2
  walk_at "r"
  refine ⟨n, rfl, n3', fun la vsa ga nla ea fa ta => ?_⟩
  have lva := ta.len
  refine c_L (SqL.of fa) ?_
  refine cp_list (xs := vsa) (fun D k h => Ex ga h ∧ ∃ acc, h D = some (.lst acc) ∧ TL K h acc (((evs n).take k).filter fun h => cv xs h && cv ys h)) (fun D n => ⟨Ex.new n, [], upd_same, trivial⟩) (fun D k h _ _ g => ex_sl (SqL.of fa) g.1) ?_ ?_
  · rintro D k x h nD hx ⟨e3, acc, fD, tD⟩
    obtain ⟨o, z, ho, rfl, hz⟩ := ta.get hx
    have lo : o.length = n := (evs_iff n o).mp (List.mem_of_getElem? ho)
    have la := tD.len
    have lb : acc.length ≤ 64 := by rw [la]; exact Nat.le_trans ft_len lev
    have E3 := (Ex.refl h3).trans (ea.trans e3)
    walk_at "r"
    refine ⟨rfl, ?_⟩
    walk_at "r"
    refine ⟨q1, z, xs, o, rfl, ex_st s1 E3, ex_st hz e3, by omega, fun h2 e4 => ?_⟩
    walk_at "r"
    have E4 := e3.trans e4
    have F4 := E3.trans e4
    refine ite2 (fun d => ?_) (fun d => ?_)
    · walk_at "r"
      refine ⟨q2, z, ys, o, rfl, ex_st s2 F4, ex_st hz E4, by omega, fun h3 e5 => ?_⟩
      walk_at "r"
      refine ite2 (fun d' => ?_) (fun d' => ?_)
      · walk_at "r"
        have E5 := e4.trans e5
        refine ⟨acc, E5 _ _ fD, sz_lt (by omega), (e3.trans E5).mut nD, acc ++ [.ref z], upd_same, ?_⟩
        rw [ft_yes ho (by show (_ && _) = true; rw [d, d']; rfl)]
        exact TL.snoc (TL.kt (Kt.mut (E5 _ _ fD)) (tD.up E5)) (st_kt (Kt.mut (E5 _ _ fD)) (ex_st hz (e3.trans E5)))
      · refine ⟨E4.trans e5, acc, e5 _ _ (e4 _ _ fD), ?_⟩
        rw [ft_no ho (by show (_ && _) = false; rw [nf d', Bool.and_false])]
        exact tD.up (e4.trans e5)
    · refine ite2 (fun z => by cases z) (fun _ => ?_)
      refine ⟨E4, acc, e4 _ _ fD, ?_⟩
      rw [ft_no ho (by show (_ && _) = false; rw [nf d, Bool.false_and])]
      exact tD.up e4
  rintro Da ha nDa ⟨e3a, acca, fDa, tDa⟩
  rw [lva, List.take_length] at tDa
  have Ga := (Ex.refl h3).trans (ea.trans e3a)
  walk_at "r"
  refine ⟨n, rfl, n3', fun lb vsb gb nlb eb fb tb => ?_⟩
  have lvb := tb.len
  refine c_L (SqL.of fb) ?_
  refine cp_list (xs := vsb) (fun D k h => Ex gb h ∧ ∃ acc, h D = some (.lst acc) ∧ TL K h acc (((evs n).take k).filter fun h => cv h xs && cv h ys)) (fun D n => ⟨Ex.new n, [], upd_same, trivial⟩) (fun D k h _ _ g => ex_sl (SqL.of fb) g.1) ?_ ?_
  · rintro D k x h nD hx ⟨e3, acc, fD, tD⟩
    obtain ⟨o, z, ho, rfl, hz⟩ := tb.get hx
    have lo : o.length = n := (evs_iff n o).mp (List.mem_of_getElem? ho)
    have la := tD.len
    have lb : acc.length ≤ 64 := by rw [la]; exact Nat.le_trans ft_len lev
    have E3 := Ga.trans (eb.trans e3)
    walk_at "r"
    refine ⟨rfl, ?_⟩
    walk_at "r"
    refine ⟨z, q1, o, xs, rfl, ex_st hz e3, ex_st s1 E3, by omega, fun h2 e4 => ?_⟩
    walk_at "r"
    have E4 := e3.trans e4
    have F4 := E3.trans e4
    refine ite2 (fun d => ?_) (fun d => ?_)
    · walk_at "r"
      refine ⟨z, q2, o, ys, rfl, ex_st hz E4, ex_st s2 F4, by omega, fun h3 e5 => ?_⟩
      walk_at "r"
      refine ite2 (fun d' => ?_) (fun d' => ?_)
      · walk_at "r"
        have E5 := e4.trans e5
        refine ⟨acc, E5 _ _ fD, sz_lt (by omega), (e3.trans E5).mut nD, acc ++ [.ref z], upd_same, ?_⟩
        rw [ft_yes ho (by show (_ && _) = true; rw [d, d']; rfl)]
        exact TL.snoc (TL.kt (Kt.mut (E5 _ _ fD)) (tD.up E5)) (st_kt (Kt.mut (E5 _ _ fD)) (ex_st hz (e3.trans E5)))
      · refine ⟨E4.trans e5, acc, e5 _ _ (e4 _ _ fD), ?_⟩
        rw [ft_no ho (by show (_ && _) = false; rw [nf d', Bool.and_false])]
        exact tD.up (e4.trans e5)
    · refine ite2 (fun z => by cases z) (fun _ => ?_)
      refine ⟨E4, acc, e4 _ _ fD, ?_⟩
      rw [ft_no ho (by show (_ && _) = false; rw [nf d, Bool.false_and])]
      exact tD.up e4
  rintro Db hb nDb ⟨e3b, accb, fDb, tDb⟩
  rw [lvb, List.take_length] at tDb
  have Gb := Ga.trans (eb.trans e3b)
  walk_at "r"
  have Eb := eb.trans e3b
  have st1 := ex_st s1 Gb
  have st2 := ex_st s2 Gb
  have ca : ∀ g ∈ (evs n).filter (fun h => cv xs h && cv ys h), g.length = n := fun g hg => (evs_iff n g).mp (List.mem_filter.mp hg).1
  have cb : ∀ g ∈ (evs n).filter (fun h => cv h xs && cv h ys), g.length = n := fun g hg => (evs_iff n g).mp (List.mem_filter.mp hg).1
  have za : n = 0 → (evs n).filter (fun h => cv xs h && cv ys h) = [[]] := fun z => by
    have x0 : xs = [] := List.eq_nil_of_length_eq_zero (by omega)
    have y0 : ys = [] := List.eq_nil_of_length_eq_zero (by omega)
    rw [z, x0, y0]
    decide +kernel
  have zb : n = 0 → (evs n).filter (fun h => cv h xs && cv h ys) = [[]] := fun z => by
    have x0 : xs = [] := List.eq_nil_of_length_eq_zero (by omega)
    have y0 : ys = [] := List.eq_nil_of_length_eq_zero (by omega)
    rw [z, x0, y0]
    decide +kernel
  refine ⟨true, q1, q2, xs, ys, rfl, st1, st2, by omega, by omega, fun _ l1 w1 i1 p1 x1 y1 z1 => ?_, fun ne => absurd (by omega) ne⟩
  walk_at "r"
  refine ⟨Da, acca, _, n, rfl, SqL.of (x1 _ _ (Eb _ _ fDa)), tDa.up (Eb.trans x1), Nat.le_trans (List.length_filter_le _ _) lev, ca, n3', za, fun l2 w2 i2 p2 x2 y2 z2 => ?_⟩
  walk_at "r"
  have j1 := toldJ_true (f := xs) (g := ys) (by omega)
  rw [lx] at j1
  rw [j1] at z2
  refine a_neTL (SqL.of (x2 _ _ y1)) (z1.up x2) (SqL.of y2) z2 ?_
  walk_at "r"
  have X2 := x1.trans x2
  refine ⟨false, q1, q2, xs, ys, rfl, ex_st st1 X2, ex_st st2 X2, by omega, by omega, fun _ l3 w3 i3 p3 x3 y3 z3 => ?_, fun ne => absurd (by omega) ne⟩
  walk_at "r"
  refine ⟨Db, accb, _, n, rfl, SqL.of ((X2.trans x3) _ _ fDb), tDb.up (X2.trans x3), Nat.le_trans (List.length_filter_le _ _) lev, cb, n3', zb, fun l4 w4 i4 p4 x4 y4 z4 => ?_⟩
  walk_at "r"
  have j2 := toldJ_false (f := xs) (g := ys) (by omega)
  rw [lx] at j2
  rw [j2] at z4
  refine a_neTL (SqL.of (x4 _ _ y3)) (z3.up x4) (SqL.of y4) z4 ?_
  walk_at "r"
  have X4 := X2.trans (x3.trans x4)
  have B4 : Bx i4 b r := bx_ex b3 (Gb.trans X4)
  have w1' := ex_st st1 X4
  have w2' := ex_st st2 X4
  refine new_lst (xs := [.str "joins", .str "meets"]) (by simp) fun c i5 p5 x5 y5 => ?_
  walk_at "r"
  refine r_L (SqL.of y5) ?_
  refine lp_list (xs := [.str (kd true), .str (kd false)]) (fun j σ h' => (∃ u8 u9, σ = [some (.ref a), some (.ref b), some (.int (0 + (k : Int))), some (.int (n : Int)), some (.ref q1), some (.ref q2), some (.ref Da), some (.ref Db), u8, u9]) ∧ Ex i5 h') ⟨⟨_, _, rfl⟩, Ex.refl _⟩ (fun j σ h' _ g => SqL.of (g.2 _ _ y5)) ?_ ?_
  · rintro j v σ h' hv ⟨⟨u8, u9, rfl⟩, e⟩
    obtain ⟨jj, rfl⟩ : ∃ jj, v = .str (kd jj) := by
      match j, hv with
      | 0, h => exact ⟨true, (Option.some.inj h).symm⟩
      | 1, h => exact ⟨false, (Option.some.inj h).symm⟩
      | j + 2, h => simp at h
    have E5 := x5.trans e
    walk_at "r"
    refine new_tup (by simp) fun t6 i6 p6 x6 y6 => ?_
    walk_at "r"
    refine a_catA (ex_st w2' (E5.trans x6)) (SqT.of y6) (by rw [tv_len]; simp; omega) fun t7 i7 x7 y7 => ?_
    have y7' : SqT K i7 t7 (tv (ys ++ [R.r])) := by rw [← tv_snoc]; exact y7
    walk_at "r"
    refine ⟨jj, q1, t7, xs, ys ++ [R.r], rfl, ex_st w1' (E5.trans (x6.trans x7)), y7', by omega, by rw [List.length_append]; simp; omega, fun e => absurd e (by rw [List.length_append]; simp; omega), fun _ i8 x8 => ?_⟩
    walk_at "r"
    refine ite2 (fun c => absurd c (by decide)) (fun _ => ?_)
    walk_at "r"
    exact ⟨⟨_, _, rfl⟩, e.trans (x6.trans (x7.trans x8))⟩
  · rintro σ h' ⟨⟨u8, u9, rfl⟩, e⟩
    walk_at "r"
    exact ⟨⟨_, _, _, _, _, _, _, _, rfl⟩, bx_ex B4 (x5.trans e)⟩

end
theorem all_mk {l : PySem.W.OpenLaw} {w : World} {K : PySem.W.Frag} {h : Heap} {mg : Str → Option Value} {fa : Addr} (X : K.In h) (G : h.Ns mainGlobals mg) (hfa : mg "law" = some (.ref fa))
    {C_RightsError : Addr}
    {nm_RightsError qn_RightsError : Str} {N_RightsError : Addr} {bs_RightsError : List Value} {sn_RightsError : List Str} {sub_RightsError : List Value} {ab_RightsError : Bool} {col_RightsError : Option Bool} {dd_RightsError : Option Addr} {m0_RightsError m1_RightsError m2_RightsError m3_RightsError m5_RightsError : Option Value}
    (aC_RightsError : PySem.W.nsIn K mainGlobals "RightsError" = some (some (.ref C_RightsError)))
    (n_RightsError_reason : PySem.W.findIn K (.ref C_RightsError) "reason" = some none)
    (xL_RightsError : K.lookup C_RightsError = some (excClassObj nm_RightsError qn_RightsError C_RightsError N_RightsError bs_RightsError [.type "ValueError", .type "Exception", .type "BaseException", .type "object"] true sn_RightsError sub_RightsError ab_RightsError col_RightsError dd_RightsError m0_RightsError m1_RightsError m2_RightsError m3_RightsError m5_RightsError "ValueError.__new__"))
    (sa_RightsError : PySem.W.findIn K (.ref C_RightsError) "__setattr__" = some (some (.builtin "object.__setattr__")))
    (ga_RightsError : PySem.W.findIn K (.ref C_RightsError) "__getattribute__" = some (some (.builtin "BaseException.__getattribute__")))
    (gg_RightsError : PySem.W.findIn K (.ref C_RightsError) "__getattr__" = some none)
    (eC_RightsError : PySem.W.subIn K (.ref C_RightsError) (.type "BaseException") = some true)
    (tC_RightsError : PySem.W.typeIn K (.ref C_RightsError) = some (.type "type"))
    (hC_RightsError : PySem.W.hasDictIn K C_RightsError = true)
    (iC_RightsError : PySem.W.isClsIn K C_RightsError = true)
    (sC_RightsError : PySem.W.subIn K (.ref C_RightsError) (.ref C_RightsError) = some true)
    (kC_RightsError : PySem.W.keepIn K (.ref C_RightsError) = true)
    (hn_ : PySem.W.specialIn K (.builtin "object.__class__") "__get__" = some (some (.builtin "getset_descriptor.__get__")))
    (ht_ : PySem.W.takesIn K (.builtin "object.__class__") = some true)
    (vV : PySem.W.findCls K (.type "ValueError") (.type "type") "__init__" = some (.val (.builtin "ValueError.__init__")))
    {f0 : Addr} {od0 an0 : Option Addr} {sl0 : Array (Option Value)} {oc0 kV0 dc0 pm0 cd0 ct0 : Value}
    (a0 : PySem.W.findIn K (.ref C_RightsError) "__init__" = some (some (.ref f0)))
    (i0 : PySem.W.typeIn K (.ref f0) = some (.type "function"))
    (l0 : K.lookup f0 = some ⟨oc0, od0, .func (PySem.W.fnOf "__init__" "RightsError.__init__" (defArgs s_RightsError_init) (defBody s_RightsError_init) (defScope s_RightsError_init) .none kV0 dc0 pm0 an0 cd0 ct0), sl0⟩) (c0 : PySem.W.codeIn K cd0 "RightsError.__init__" = true) (k0 : PySem.W.keepIn K (.ref f0) = true)
    {f1 : Addr} {od1 an1 : Option Addr} {sl1 : Array (Option Value)} {oc1 kV1 dc1 pm1 cd1 ct1 : Value}
    (a1 : PySem.W.nsIn K mainGlobals "within" = some (some (.ref f1)))
    (l1 : K.lookup f1 = some ⟨oc1, od1, .func (PySem.W.fnOf "within" "within" (defArgs s_within) (defBody s_within) (defScope s_within) .none kV1 dc1 pm1 an1 cd1 ct1), sl1⟩) (c1 : PySem.W.codeIn K cd1 "within" = true) (k1 : PySem.W.keepIn K (.ref f1) = true)
    {f2 : Addr} {od2 an2 : Option Addr} {sl2 : Array (Option Value)} {oc2 kV2 dc2 pm2 cd2 ct2 : Value}
    (a2 : PySem.W.nsIn K mainGlobals "behind" = some (some (.ref f2)))
    (l2 : K.lookup f2 = some ⟨oc2, od2, .func (PySem.W.fnOf "behind" "behind" (defArgs s_behind) (defBody s_behind) (defScope s_behind) .none kV2 dc2 pm2 an2 cd2 ct2), sl2⟩) (c2 : PySem.W.codeIn K cd2 "behind" = true) (k2 : PySem.W.keepIn K (.ref f2) = true)
    {f3 : Addr} {od3 an3 : Option Addr} {sl3 : Array (Option Value)} {oc3 kV3 dc3 pm3 cd3 ct3 : Value}
    (a3 : PySem.W.nsIn K mainGlobals "converts" = some (some (.ref f3)))
    (l3 : K.lookup f3 = some ⟨oc3, od3, .func (PySem.W.fnOf "converts" "converts" (defArgs s_converts) (defBody s_converts) (defScope s_converts) .none kV3 dc3 pm3 an3 cd3 ct3), sl3⟩) (c3 : PySem.W.codeIn K cd3 "converts" = true) (k3 : PySem.W.keepIn K (.ref f3) = true)
    {f4 : Addr} {od4 an4 : Option Addr} {sl4 : Array (Option Value)} {oc4 kV4 dc4 pm4 cd4 ct4 : Value}
    (a4 : PySem.W.nsIn K mainGlobals "plain_forms" = some (some (.ref f4)))
    (l4 : K.lookup f4 = some ⟨oc4, od4, .func (PySem.W.fnOf "plain_forms" "plain_forms" (defArgs s_plain_forms) (defBody s_plain_forms) (defScope s_plain_forms) .none kV4 dc4 pm4 an4 cd4 ct4), sl4⟩) (c4 : PySem.W.codeIn K cd4 "plain_forms" = true) (k4 : PySem.W.keepIn K (.ref f4) = true)
    {f5 : Addr} {od5 an5 : Option Addr} {sl5 : Array (Option Value)} {oc5 kV5 dc5 pm5 cd5 ct5 : Value}
    (a5 : PySem.W.nsIn K mainGlobals "is_least" = some (some (.ref f5)))
    (l5 : K.lookup f5 = some ⟨oc5, od5, .func (PySem.W.fnOf "is_least" "is_least" (defArgs s_is_least) (defBody s_is_least) (defScope s_is_least) .none kV5 dc5 pm5 an5 cd5 ct5), sl5⟩) (c5 : PySem.W.codeIn K cd5 "is_least" = true) (k5 : PySem.W.keepIn K (.ref f5) = true)
    {f6 : Addr} {od6 an6 : Option Addr} {sl6 : Array (Option Value)} {oc6 kV6 dc6 pm6 cd6 ct6 : Value}
    (a6 : PySem.W.nsIn K mainGlobals "is_greatest" = some (some (.ref f6)))
    (l6 : K.lookup f6 = some ⟨oc6, od6, .func (PySem.W.fnOf "is_greatest" "is_greatest" (defArgs s_is_greatest) (defBody s_is_greatest) (defScope s_is_greatest) .none kV6 dc6 pm6 an6 cd6 ct6), sl6⟩) (c6 : PySem.W.codeIn K cd6 "is_greatest" = true) (k6 : PySem.W.keepIn K (.ref f6) = true)
    {f7 : Addr} {od7 an7 : Option Addr} {sl7 : Array (Option Value)} {oc7 kV7 dc7 pm7 cd7 ct7 : Value}
    (a7 : PySem.W.nsIn K mainGlobals "joins" = some (some (.ref f7)))
    (l7 : K.lookup f7 = some ⟨oc7, od7, .func (PySem.W.fnOf "joins" "joins" (defArgs s_joins) (defBody s_joins) (defScope s_joins) .none kV7 dc7 pm7 an7 cd7 ct7), sl7⟩) (c7 : PySem.W.codeIn K cd7 "joins" = true) (k7 : PySem.W.keepIn K (.ref f7) = true)
    {f8 : Addr} {od8 an8 : Option Addr} {sl8 : Array (Option Value)} {oc8 kV8 dc8 pm8 cd8 ct8 : Value}
    (a8 : PySem.W.nsIn K mainGlobals "meets" = some (some (.ref f8)))
    (l8 : K.lookup f8 = some ⟨oc8, od8, .func (PySem.W.fnOf "meets" "meets" (defArgs s_meets) (defBody s_meets) (defScope s_meets) .none kV8 dc8 pm8 an8 cd8 ct8), sl8⟩) (c8 : PySem.W.codeIn K cd8 "meets" = true) (k8 : PySem.W.keepIn K (.ref f8) = true)
    {f9 : Addr} {od9 an9 : Option Addr} {sl9 : Array (Option Value)} {oc9 kV9 dc9 pm9 cd9 ct9 : Value}
    (a9 : PySem.W.nsIn K mainGlobals "_law_cell" = some (some (.ref f9)))
    (l9 : K.lookup f9 = some ⟨oc9, od9, .func (PySem.W.fnOf "_law_cell" "_law_cell" (defArgs s__law_cell) (defBody s__law_cell) (defScope s__law_cell) .none kV9 dc9 pm9 an9 cd9 ct9), sl9⟩) (c9 : PySem.W.codeIn K cd9 "_law_cell" = true) (k9 : PySem.W.keepIn K (.ref f9) = true)
    {f10 : Addr} {od10 an10 : Option Addr} {sl10 : Array (Option Value)} {oc10 kV10 dc10 pm10 cd10 ct10 : Value}
    (a10 : PySem.W.nsIn K mainGlobals "_law_row" = some (some (.ref f10)))
    (l10 : K.lookup f10 = some ⟨oc10, od10, .func (PySem.W.fnOf "_law_row" "_law_row" (defArgs s__law_row) (defBody s__law_row) (defScope s__law_row) .none kV10 dc10 pm10 an10 cd10 ct10), sl10⟩) (c10 : PySem.W.codeIn K cd10 "_law_row" = true) (k10 : PySem.W.keepIn K (.ref f10) = true)
    {f11 : Addr} {od11 an11 : Option Addr} {sl11 : Array (Option Value)} {oc11 kV11 dc11 pm11 cd11 ct11 : Value}
    (a11 : PySem.W.nsIn K mainGlobals "_law_draw" = some (some (.ref f11)))
    (l11 : K.lookup f11 = some ⟨oc11, od11, .func (PySem.W.fnOf "_law_draw" "_law_draw" (defArgs s__law_draw) (defBody s__law_draw) (defScope s__law_draw) .none kV11 dc11 pm11 an11 cd11 ct11), sl11⟩) (c11 : PySem.W.codeIn K cd11 "_law_draw" = true) (k11 : PySem.W.keepIn K (.ref f11) = true)
    {f12 : Addr} {od12 an12 : Option Addr} {sl12 : Array (Option Value)} {oc12 kV12 dc12 pm12 cd12 ct12 : Value}
    (a12 : PySem.W.nsIn K mainGlobals "_law_right" = some (some (.ref f12)))
    (l12 : K.lookup f12 = some ⟨oc12, od12, .func (PySem.W.fnOf "_law_right" "_law_right" (defArgs s__law_right) (defBody s__law_right) (defScope s__law_right) .none kV12 dc12 pm12 an12 cd12 ct12), sl12⟩) (c12 : PySem.W.codeIn K cd12 "_law_right" = true) (k12 : PySem.W.keepIn K (.ref f12) = true)
    {f13 : Addr} {od13 an13 : Option Addr} {sl13 : Array (Option Value)} {oc13 kV13 dc13 pm13 cd13 ct13 : Value}
    (a13 : PySem.W.nsIn K mainGlobals "_law_rights" = some (some (.ref f13)))
    (l13 : K.lookup f13 = some ⟨oc13, od13, .func (PySem.W.fnOf "_law_rights" "_law_rights" (defArgs s__law_rights) (defBody s__law_rights) (defScope s__law_rights) .none kV13 dc13 pm13 an13 cd13 ct13), sl13⟩) (c13 : PySem.W.codeIn K cd13 "_law_rights" = true) (k13 : PySem.W.keepIn K (.ref f13) = true)
    {f14 : Addr} {od14 an14 : Option Addr} {sl14 : Array (Option Value)} {oc14 kV14 dc14 pm14 cd14 ct14 : Value}
    (a14 : PySem.W.nsIn K mainGlobals "_law_within" = some (some (.ref f14)))
    (l14 : K.lookup f14 = some ⟨oc14, od14, .func (PySem.W.fnOf "_law_within" "_law_within" (defArgs s__law_within) (defBody s__law_within) (defScope s__law_within) .none kV14 dc14 pm14 an14 cd14 ct14), sl14⟩) (c14 : PySem.W.codeIn K cd14 "_law_within" = true) (k14 : PySem.W.keepIn K (.ref f14) = true)
    {f15 : Addr} {od15 an15 : Option Addr} {sl15 : Array (Option Value)} {oc15 kV15 dc15 pm15 cd15 ct15 : Value}
    (a15 : PySem.W.nsIn K mainGlobals "_law_converts" = some (some (.ref f15)))
    (l15 : K.lookup f15 = some ⟨oc15, od15, .func (PySem.W.fnOf "_law_converts" "_law_converts" (defArgs s__law_converts) (defBody s__law_converts) (defScope s__law_converts) .none kV15 dc15 pm15 an15 cd15 ct15), sl15⟩) (c15 : PySem.W.codeIn K cd15 "_law_converts" = true) (k15 : PySem.W.keepIn K (.ref f15) = true)
    {f16 : Addr} {od16 an16 : Option Addr} {sl16 : Array (Option Value)} {oc16 kV16 dc16 pm16 cd16 ct16 : Value}
    (a16 : PySem.W.nsIn K mainGlobals "_law_plain" = some (some (.ref f16)))
    (l16 : K.lookup f16 = some ⟨oc16, od16, .func (PySem.W.fnOf "_law_plain" "_law_plain" (defArgs s__law_plain) (defBody s__law_plain) (defScope s__law_plain) .none kV16 dc16 pm16 an16 cd16 ct16), sl16⟩) (c16 : PySem.W.codeIn K cd16 "_law_plain" = true) (k16 : PySem.W.keepIn K (.ref f16) = true)
    {f17 : Addr} {od17 an17 : Option Addr} {sl17 : Array (Option Value)} {oc17 kV17 dc17 pm17 cd17 ct17 : Value}
    (a17 : PySem.W.nsIn K mainGlobals "_law_every" = some (some (.ref f17)))
    (l17 : K.lookup f17 = some ⟨oc17, od17, .func (PySem.W.fnOf "_law_every" "_law_every" (defArgs s__law_every) (defBody s__law_every) (defScope s__law_every) .none kV17 dc17 pm17 an17 cd17 ct17), sl17⟩) (c17 : PySem.W.codeIn K cd17 "_law_every" = true) (k17 : PySem.W.keepIn K (.ref f17) = true)
    {f18 : Addr} {od18 an18 : Option Addr} {sl18 : Array (Option Value)} {oc18 kV18 dc18 pm18 cd18 ct18 : Value}
    (a18 : PySem.W.nsIn K mainGlobals "_law_told" = some (some (.ref f18)))
    (l18 : K.lookup f18 = some ⟨oc18, od18, .func (PySem.W.fnOf "_law_told" "_law_told" (defArgs s__law_told) (defBody s__law_told) (defScope s__law_told) .none kV18 dc18 pm18 an18 cd18 ct18), sl18⟩) (c18 : PySem.W.codeIn K cd18 "_law_told" = true) (k18 : PySem.W.keepIn K (.ref f18) = true)
    {f19 : Addr} {od19 an19 : Option Addr} {sl19 : Array (Option Value)} {oc19 kV19 dc19 pm19 cd19 ct19 : Value}
    (a19 : PySem.W.nsIn K mainGlobals "_law_least" = some (some (.ref f19)))
    (l19 : K.lookup f19 = some ⟨oc19, od19, .func (PySem.W.fnOf "_law_least" "_law_least" (defArgs s__law_least) (defBody s__law_least) (defScope s__law_least) .none kV19 dc19 pm19 an19 cd19 ct19), sl19⟩) (c19 : PySem.W.codeIn K cd19 "_law_least" = true) (k19 : PySem.W.keepIn K (.ref f19) = true)
    {f20 : Addr} {od20 an20 : Option Addr} {sl20 : Array (Option Value)} {oc20 kV20 dc20 pm20 cd20 ct20 : Value}
    (a20 : PySem.W.nsIn K mainGlobals "_law_greatest" = some (some (.ref f20)))
    (l20 : K.lookup f20 = some ⟨oc20, od20, .func (PySem.W.fnOf "_law_greatest" "_law_greatest" (defArgs s__law_greatest) (defBody s__law_greatest) (defScope s__law_greatest) .none kV20 dc20 pm20 an20 cd20 ct20), sl20⟩) (c20 : PySem.W.codeIn K cd20 "_law_greatest" = true) (k20 : PySem.W.keepIn K (.ref f20) = true)
    {f21 : Addr} {od21 an21 : Option Addr} {sl21 : Array (Option Value)} {oc21 kV21 dc21 pm21 cd21 ct21 : Value}
    (a21 : PySem.W.nsIn K mainGlobals "law" = some (some (.ref f21)))
    (l21 : K.lookup f21 = some ⟨oc21, od21, .func (PySem.W.fnOf "law" "law" (defArgs s_law) (defBody s_law) (defScope s_law) .none kV21 dc21 pm21 an21 cd21 ct21), sl21⟩) (c21 : PySem.W.codeIn K cd21 "law" = true) (k21 : PySem.W.keepIn K (.ref f21) = true)
    {q_LETTERS : Addr} {oq_LETTERS : Option Addr} {nq_LETTERS : Nat} {sq_LETTERS : Array (Option Value)} {tq_LETTERS_0 tq_LETTERS_1 : Tok}
    (u_LETTERS : PySem.W.nsIn K mainGlobals "LETTERS" = some (some (.ref q_LETTERS))) (v_LETTERS : K.lookup q_LETTERS = some ⟨.type "tuple", oq_LETTERS, .seq #[.str "r" tq_LETTERS_0, .str "w" tq_LETTERS_1] nq_LETTERS, sq_LETTERS⟩)
    (z_ValueError : PySem.W.nsIn K mainGlobals "ValueError" = some none)
    (z_len : PySem.W.nsIn K mainGlobals "len" = some none)
    (z_range : PySem.W.nsIn K mainGlobals "range" = some none)
    (z_abs : PySem.W.nsIn K mainGlobals "abs" = some none)
    (z_int : PySem.W.nsIn K mainGlobals "int" = some none)
    (z_tuple : PySem.W.nsIn K mainGlobals "tuple" = some none)
    (z_sorted : PySem.W.nsIn K mainGlobals "sorted" = some none) :
    ∃ fd : FuncData, (∀ (s : Shared) (v : Value), BindsTo s fd ⟨[v], []⟩ [("script", v)]) ∧ ∀ base : Heap, K.In base → base.Ns mainGlobals mg → FnOk l.prog w K mg base CX0 16 fa fd ["script"] (spLaw K) := by
  have e := hfa.symm.trans (PySem.W.mg_of X G a21)
  cases e
  have F0 := fun_mk (st := s_RightsError_init) l0 c0 k0
  have F1 := fun_mk (st := s_within) l1 c1 k1
  have F2 := fun_mk (st := s_behind) l2 c2 k2
  have F3 := fun_mk (st := s_converts) l3 c3 k3
  have F4 := fun_mk (st := s_plain_forms) l4 c4 k4
  have F5 := fun_mk (st := s_is_least) l5 c5 k5
  have F6 := fun_mk (st := s_is_greatest) l6 c6 k6
  have F7 := fun_mk (st := s_joins) l7 c7 k7
  have F8 := fun_mk (st := s_meets) l8 c8 k8
  have F9 := fun_mk (st := s__law_cell) l9 c9 k9
  have F10 := fun_mk (st := s__law_row) l10 c10 k10
  have F11 := fun_mk (st := s__law_draw) l11 c11 k11
  have F12 := fun_mk (st := s__law_right) l12 c12 k12
  have F13 := fun_mk (st := s__law_rights) l13 c13 k13
  have F14 := fun_mk (st := s__law_within) l14 c14 k14
  have F15 := fun_mk (st := s__law_converts) l15 c15 k15
  have F16 := fun_mk (st := s__law_plain) l16 c16 k16
  have F17 := fun_mk (st := s__law_every) l17 c17 k17
  have F18 := fun_mk (st := s__law_told) l18 c18 k18
  have F19 := fun_mk (st := s__law_least) l19 c19 k19
  have F20 := fun_mk (st := s__law_greatest) l20 c20 k20
  have F21 := fun_mk (st := s_law) l21 c21 k21
  have B0 := F0.binds (ps := p_RightsError_init) fun _ _ _ _ _ _ us hl => match us, hl with | [_, _], _ => rfl
  have B1 := F1.binds (ps := p_within) fun _ _ _ _ _ _ us hl => match us, hl with | [_, _], _ => rfl
  have B2 := F2.binds (ps := p_behind) fun _ _ _ _ _ _ us hl => match us, hl with | [_, _, _], _ => rfl
  have B3 := F3.binds (ps := p_converts) fun _ _ _ _ _ _ us hl => match us, hl with | [_, _], _ => rfl
  have B4 := F4.binds (ps := p_plain_forms) fun _ _ _ _ _ _ us hl => match us, hl with | [_], _ => rfl
  have B5 := F5.binds (ps := p_is_least) fun _ _ _ _ _ _ us hl => match us, hl with | [_, _], _ => rfl
  have B6 := F6.binds (ps := p_is_greatest) fun _ _ _ _ _ _ us hl => match us, hl with | [_, _], _ => rfl
  have B7 := F7.binds (ps := p_joins) fun _ _ _ _ _ _ us hl => match us, hl with | [_, _], _ => rfl
  have B8 := F8.binds (ps := p_meets) fun _ _ _ _ _ _ us hl => match us, hl with | [_, _], _ => rfl
  have B9 := F9.binds (ps := p__law_cell) fun _ _ _ _ _ _ us hl => match us, hl with | [_, _], _ => rfl
  have B10 := F10.binds (ps := p__law_row) fun _ _ _ _ _ _ us hl => match us, hl with | [_, _, _], _ => rfl
  have B11 := F11.binds (ps := p__law_draw) fun _ _ _ _ _ _ us hl => match us, hl with | [_, _], _ => rfl
  have B12 := F12.binds (ps := p__law_right) fun _ _ _ _ _ _ us hl => match us, hl with | [_], _ => rfl
  have B13 := F13.binds (ps := p__law_rights) fun _ _ _ _ _ _ us hl => match us, hl with | [_, _], _ => rfl
  have B14 := F14.binds (ps := p__law_within) fun _ _ _ _ _ _ us hl => match us, hl with | [_, _], _ => rfl
  have B15 := F15.binds (ps := p__law_converts) fun _ _ _ _ _ _ us hl => match us, hl with | [_, _], _ => rfl
  have B16 := F16.binds (ps := p__law_plain) fun _ _ _ _ _ _ us hl => match us, hl with | [_], _ => rfl
  have B17 := F17.binds (ps := p__law_every) fun _ _ _ _ _ _ us hl => match us, hl with | [_], _ => rfl
  have B18 := F18.binds (ps := p__law_told) fun _ _ _ _ _ _ us hl => match us, hl with | [_, _, _], _ => rfl
  have B19 := F19.binds (ps := p__law_least) fun _ _ _ _ _ _ us hl => match us, hl with | [_], _ => rfl
  have B20 := F20.binds (ps := p__law_greatest) fun _ _ _ _ _ _ us hl => match us, hl with | [_], _ => rfl
  let T : Tx K mg := {
    a_RightsError_init := _
    e_RightsError_init := _
    d_RightsError_init := ⟨F0, B0⟩
    a_within := _
    e_within := _
    d_within := ⟨F1, B1, PySem.W.mg_of X G a1⟩
    a_behind := _
    e_behind := _
    d_behind := ⟨F2, B2, PySem.W.mg_of X G a2⟩
    a_converts := _
    e_converts := _
    d_converts := ⟨F3, B3, PySem.W.mg_of X G a3⟩
    a_plain_forms := _
    e_plain_forms := _
    d_plain_forms := ⟨F4, B4, PySem.W.mg_of X G a4⟩
    a_is_least := _
    e_is_least := _
    d_is_least := ⟨F5, B5, PySem.W.mg_of X G a5⟩
    a_is_greatest := _
    e_is_greatest := _
    d_is_greatest := ⟨F6, B6, PySem.W.mg_of X G a6⟩
    a_joins := _
    e_joins := _
    d_joins := ⟨F7, B7, PySem.W.mg_of X G a7⟩
    a_meets := _
    e_meets := _
    d_meets := ⟨F8, B8, PySem.W.mg_of X G a8⟩
    a__law_cell := _
    e__law_cell := _
    d__law_cell := ⟨F9, B9, PySem.W.mg_of X G a9⟩
    a__law_row := _
    e__law_row := _
    d__law_row := ⟨F10, B10, PySem.W.mg_of X G a10⟩
    a__law_draw := _
    e__law_draw := _
    d__law_draw := ⟨F11, B11, PySem.W.mg_of X G a11⟩
    a__law_right := _
    e__law_right := _
    d__law_right := ⟨F12, B12, PySem.W.mg_of X G a12⟩
    a__law_rights := _
    e__law_rights := _
    d__law_rights := ⟨F13, B13, PySem.W.mg_of X G a13⟩
    a__law_within := _
    e__law_within := _
    d__law_within := ⟨F14, B14, PySem.W.mg_of X G a14⟩
    a__law_converts := _
    e__law_converts := _
    d__law_converts := ⟨F15, B15, PySem.W.mg_of X G a15⟩
    a__law_plain := _
    e__law_plain := _
    d__law_plain := ⟨F16, B16, PySem.W.mg_of X G a16⟩
    a__law_every := _
    e__law_every := _
    d__law_every := ⟨F17, B17, PySem.W.mg_of X G a17⟩
    a__law_told := _
    e__law_told := _
    d__law_told := ⟨F18, B18, PySem.W.mg_of X G a18⟩
    a__law_least := _
    e__law_least := _
    d__law_least := ⟨F19, B19, PySem.W.mg_of X G a19⟩
    a__law_greatest := _
    e__law_greatest := _
    d__law_greatest := ⟨F20, B20, PySem.W.mg_of X G a20⟩
    a_LETTERS := q_LETTERS
    m_LETTERS := PySem.W.mg_of X G u_LETTERS
    t_LETTERS := fun H => .inr ⟨_, _, _, v_LETTERS, rfl, rfl, (by show 2 ≤ sizeLine; decide), (.cons ⟨_, rfl⟩ (.cons ⟨_, rfl⟩ .nil))⟩
    b_ValueError := PySem.W.mg_none_of X G z_ValueError
    b_len := PySem.W.mg_none_of X G z_len
    b_range := PySem.W.mg_none_of X G z_range
    b_abs := PySem.W.mg_none_of X G z_abs
    b_int := PySem.W.mg_none_of X G z_int
    b_tuple := PySem.W.mg_none_of X G z_tuple
    b_sorted := PySem.W.mg_none_of X G z_sorted
    C_RightsError := C_RightsError
    g_RightsError := PySem.W.mg_of X G aC_RightsError
    n_RightsError_reason := n_RightsError_reason
    o_RightsError := { cls := ⟨nm_RightsError, qn_RightsError, N_RightsError, bs_RightsError, _, sn_RightsError, sub_RightsError, ab_RightsError, col_RightsError, dd_RightsError, m0_RightsError, m1_RightsError, m2_RightsError, m3_RightsError, m5_RightsError, xL_RightsError, by decide +kernel⟩, sa := sa_RightsError, exC := eC_RightsError, tyC := tC_RightsError, kC := kC_RightsError }
    x_RightsError := { ga := ga_RightsError, gg := gg_RightsError, exC := eC_RightsError, hdC := hC_RightsError }
    i_RightsError := a0
    t_RightsError := i0
    s_RightsError := own_caught eC_RightsError iC_RightsError tC_RightsError sC_RightsError
    vV := vV }
  exact ⟨PySem.W.fnOf "law" "law" (defArgs s_law) (defBody s_law) (defScope s_law) .none kV21 dc21 pm21 an21 cd21 ct21, fun s v => .of_eq rfl, fun base _ _ => ok_law T F21⟩
end Ver
open PySem PySem.W PyProof.Rows
set_option maxRecDepth 100000 in
set_option maxHeartbeats 0 in
theorem PySem.Challenge.cw_rightskept_k07_joins_and_meets_holds : PySem.Challenge.rw_rightskept_k07_joins_and_meets.Holds := by
  w_on; o_law; k_head; (case hw => w_witness2)
  k_fill
  refine L2.walk_of (l := PySem.Challenge.rw_rightskept_k07_joins_and_meets) (n := 63) (k := 16) (x := "script") (CX := fun _ => L2.CX0) (sp := fun w => Ver.spLaw _) rfl (by decide) rfl ⟨rfl, by decide, by decide⟩ (fun w h Y => PySem.W.kIn_of Y) ?F (fun _ _ a ns hl _ hS => ⟨a, ns, rfl, hS, hl, fun _ => rfl⟩) (fun _ _ _ _ _ h => h)
  case F =>
    intro w mg fa h KX G hmg
    refine' Ver.all_mk KX G hmg ?aC_RightsError ?n_RightsError_reason ?xL_RightsError ?sa_RightsError ?ga_RightsError ?gg_RightsError ?eC_RightsError ?tC_RightsError ?hC_RightsError ?iC_RightsError ?sC_RightsError ?kC_RightsError ?hn_ ?ht_ ?vV ?a0 ?i0 ?l0 ?c0 ?k0 ?a1 ?l1 ?c1 ?k1 ?a2 ?l2 ?c2 ?k2 ?a3 ?l3 ?c3 ?k3 ?a4 ?l4 ?c4 ?k4 ?a5 ?l5 ?c5 ?k5 ?a6 ?l6 ?c6 ?k6 ?a7 ?l7 ?c7 ?k7 ?a8 ?l8 ?c8 ?k8 ?a9 ?l9 ?c9 ?k9 ?a10 ?l10 ?c10 ?k10 ?a11 ?l11 ?c11 ?k11 ?a12 ?l12 ?c12 ?k12 ?a13 ?l13 ?c13 ?k13 ?a14 ?l14 ?c14 ?k14 ?a15 ?l15 ?c15 ?k15 ?a16 ?l16 ?c16 ?k16 ?a17 ?l17 ?c17 ?k17 ?a18 ?l18 ?c18 ?k18 ?a19 ?l19 ?c19 ?k19 ?a20 ?l20 ?c20 ?k20 ?a21 ?l21 ?c21 ?k21 ?u_LETTERS ?v_LETTERS ?z_ValueError ?z_len ?z_range ?z_abs ?z_int ?z_tuple ?z_sorted
    (case aC_RightsError => k_is)
    (case n_RightsError_reason => k_is)
    (case xL_RightsError => k_is)
    (case sa_RightsError => k_is)
    (case ga_RightsError => k_is)
    (case gg_RightsError => k_is)
    (case eC_RightsError => k_is)
    (case tC_RightsError => k_is)
    (case hC_RightsError => k_is)
    (case iC_RightsError => k_is)
    (case sC_RightsError => first | rfl | k_is)
    (case kC_RightsError => k_is)
    (case hn_ => k_is)
    (case ht_ => k_is)
    (case vV => k_is)
    (case a0 => k_is)
    (case i0 => k_is)
    (case l0 => k_is)
    (case c0 => k_is)
    (case k0 => k_is)
    (case a1 => k_is)
    (case l1 => k_is)
    (case c1 => k_is)
    (case k1 => k_is)
    (case a2 => k_is)
    (case l2 => k_is)
    (case c2 => k_is)
    (case k2 => k_is)
    (case a3 => k_is)
    (case l3 => k_is)
    (case c3 => k_is)
    (case k3 => k_is)
    (case a4 => k_is)
    (case l4 => k_is)
    (case c4 => k_is)
    (case k4 => k_is)
    (case a5 => k_is)
    (case l5 => k_is)
    (case c5 => k_is)
    (case k5 => k_is)
    (case a6 => k_is)
    (case l6 => k_is)
    (case c6 => k_is)
    (case k6 => k_is)
    (case a7 => k_is)
    (case l7 => k_is)
    (case c7 => k_is)
    (case k7 => k_is)
    (case a8 => k_is)
    (case l8 => k_is)
    (case c8 => k_is)
    (case k8 => k_is)
    (case a9 => k_is)
    (case l9 => k_is)
    (case c9 => k_is)
    (case k9 => k_is)
    (case a10 => k_is)
    (case l10 => k_is)
    (case c10 => k_is)
    (case k10 => k_is)
    (case a11 => k_is)
    (case l11 => k_is)
    (case c11 => k_is)
    (case k11 => k_is)
    (case a12 => k_is)
    (case l12 => k_is)
    (case c12 => k_is)
    (case k12 => k_is)
    (case a13 => k_is)
    (case l13 => k_is)
    (case c13 => k_is)
    (case k13 => k_is)
    (case a14 => k_is)
    (case l14 => k_is)
    (case c14 => k_is)
    (case k14 => k_is)
    (case a15 => k_is)
    (case l15 => k_is)
    (case c15 => k_is)
    (case k15 => k_is)
    (case a16 => k_is)
    (case l16 => k_is)
    (case c16 => k_is)
    (case k16 => k_is)
    (case a17 => k_is)
    (case l17 => k_is)
    (case c17 => k_is)
    (case k17 => k_is)
    (case a18 => k_is)
    (case l18 => k_is)
    (case c18 => k_is)
    (case k18 => k_is)
    (case a19 => k_is)
    (case l19 => k_is)
    (case c19 => k_is)
    (case k19 => k_is)
    (case a20 => k_is)
    (case l20 => k_is)
    (case c20 => k_is)
    (case k20 => k_is)
    (case a21 => k_is)
    (case l21 => k_is)
    (case c21 => k_is)
    (case k21 => k_is)
    (case u_LETTERS => k_is)
    (case v_LETTERS => k_is)
    (case z_ValueError => k_is)
    (case z_len => k_is)
    (case z_range => k_is)
    (case z_abs => k_is)
    (case z_int => k_is)
    (case z_tuple => k_is)
    (case z_sorted => k_is)
