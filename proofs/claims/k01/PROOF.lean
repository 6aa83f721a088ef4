import PyProof.Rows.All
import Wide.All
import OpenK.AllK
import Wide.FinOn
import HandS.ForMost
import HandS.Evl
import HandS.TupAny
import HandS.TupMul
import HandS.IsInst
import HandS.Zip
import HandS.Deep
import HandS.Style
import HandS.Strs
import HandS.More
import PySem.Challenge.RW_rightskept_k01_rights_and_types
set_option Elab.async false
set_option linter.all false
set_option maxRecDepth 100000
set_option maxHeartbeats 4000000
namespace Ver
open PySem L2 Evl
/-- a new list, a new tuple -/
def NewL (xs : List V) (H : Hp) (Q : VK) : Prop := xs.length ≤ sizeLine ∧ ∀ p, H p = none → Q (.ref p) (upd H p (.lst xs))
def NewU (xs : List V) (H : Hp) (Q : VK) : Prop := xs.length ≤ sizeLine ∧ ∀ p, H p = none → Q (.ref p) (upd H p (.tup xs))
/-! ## a small executor over readings: one lemma a head -/
section
variable {K : PySem.W.Frag} {σ : L2.St} {H H' H1 : Hp} {ta tb te : TE} {t u c : TT} {ts us : TS} {x y z v : V} {r : R2} {D : Ends} {g : TG} {Q : VK} {i j : Nat}
theorem w_seq (h : ts { D with nx := us D } σ H) : tSeq ts us D σ H := h
theorem w_next (h : D.nx σ H) : tNext D σ H := h
theorem w_asg (h : te σ H fun a Ha => g a σ Ha D.nx) : tAsg te g D σ H := h
theorem w_name {N : L2.St → Hp → Prop} (h : N (σ.set i (some v)) H) : gName i v σ H N := h
theorem w_if (h : c σ H fun k Hk => if k = true then ts D σ Hk else us D σ Hk) : tIfS c ts us D σ H := h
theorem w_ret (h : te σ H D.rt) : tRet te D σ H := h
theorem w_drop (h : te σ H fun _ Ha => D.nx σ Ha) : tDrop te D σ H := h
theorem w_brk (h : D.bk σ H) : tBreak D σ H := h
theorem w_cont (h : D.ct σ H) : tCont D σ H := h
theorem w_var (e : σ[i]? = some (some v)) (h : Q v H) : tVar i σ H Q := ⟨v, e, h⟩
theorem w_c (h : Q v H) : tC v σ H Q := h
theorem w_op (h : ta σ H fun a Ha => tb σ Ha fun b Hb => r a b Hb Q) : tOp r ta tb σ H Q := h
theorem w_un {f : V → Hp → VK → Prop} (h : ta σ H fun a Ha => f a Ha Q) : tUn f ta σ H Q := h
theorem w_I0 {f : Int → Int → V} {a b : Int} (h : Q (f a b) H) : rI0 f (.int a) (.int b) H Q := ⟨a, b, rfl, rfl, h⟩
theorem w_I {C : Int → Int → Prop} {f : Int → Int → V} {a b : Int} (hc : C a b) (h : Q (f a b) H) : rI C f (.int a) (.int b) H Q := ⟨a, b, rfl, rfl, hc, h⟩
theorem w_neg {a : Int} (h : Q (.int (-a)) H) : rU (fun n => .int (-n)) (.int a) H Q := ⟨a, rfl, h⟩
theorem w_eq (e : scal x y = true) (h : Q (.bl (decide (x = y))) H) : rEq x y H Q := ⟨e, h⟩
theorem w_ne (e : scal x y = true) (h : Q (.bl (!decide (x = y))) H) : rNe x y H Q := ⟨e, h⟩
theorem w_eqI {a b : Int} (h : Q (.bl (decide (a = b))) H) : rEq (.int a) (.int b) H Q := ⟨rfl, by
  have e : decide (V.int a = V.int b) = decide (a = b) := by
    by_cases q : a = b
    · rw [q]; simp
    · rw [decide_eq_false q, decide_eq_false (fun z => q (V.int.inj z))]
  rw [e]; exact h⟩
theorem w_neI {a b : Int} (h : Q (.bl (!decide (a = b))) H) : rNe (.int a) (.int b) H Q := ⟨rfl, by
  have e : decide (V.int a = V.int b) = decide (a = b) := by
    by_cases q : a = b
    · rw [q]; simp
    · rw [decide_eq_false q, decide_eq_false (fun z => q (V.int.inj z))]
  rw [e]; exact h⟩
theorem w_eqS {a b : Str} (h : Q (.bl (decide (a = b))) H) : rEq (.str a) (.str b) H Q := ⟨rfl, by
  have e : decide (V.str a = V.str b) = decide (a = b) := by
    by_cases q : a = b
    · rw [q]; simp
    · rw [decide_eq_false q, decide_eq_false (fun z => q (V.str.inj z))]
  rw [e]; exact h⟩
theorem w_neS {a b : Str} (h : Q (.bl (!decide (a = b))) H) : rNe (.str a) (.str b) H Q := ⟨rfl, by
  have e : decide (V.str a = V.str b) = decide (a = b) := by
    by_cases q : a = b
    · rw [q]; simp
    · rw [decide_eq_false q, decide_eq_false (fun z => q (V.str.inj z))]
  rw [e]; exact h⟩
theorem w_eqB {a b : Bool} (h : Q (.bl (a == b)) H) : rEq (.bl a) (.bl b) H Q := ⟨rfl, by
  have e : decide (V.bl a = V.bl b) = (a == b) := by cases a <;> cases b <;> rfl
  rw [e]; exact h⟩
theorem w_neB {a b : Bool} (h : Q (.bl (a != b)) H) : rNe (.bl a) (.bl b) H Q := ⟨rfl, by
  have e : (!decide (V.bl a = V.bl b)) = (a != b) := by cases a <;> cases b <;> rfl
  rw [e]; exact h⟩
theorem w_test {N : Bool → Hp → Prop} (h : te σ H fun a Ha => ∃ k, a = .bl k ∧ N k Ha) : tTest te σ H N := h
theorem w_B {N : Bool → Hp → Prop} (h : te σ H fun a Ha => ∃ k, a = .bl k ∧ N k Ha) : tB te σ H N := h
theorem w_bl {N : Bool → Hp → Prop} {k : Bool} (h : N k H) : ∃ k', V.bl k = .bl k' ∧ N k' H := ⟨k, rfl, h⟩
theorem w_blV {N : Bool → Prop} {k : Bool} (h : N k) : ∃ k', V.bl k = .bl k' ∧ N k' := ⟨k, rfl, h⟩
theorem w_and {N : Bool → Hp → Prop} (h : t σ H fun k Hk => if k = true then u σ Hk N else N false Hk) : tAnd t u σ H N := h
theorem w_or {N : Bool → Hp → Prop} (h : t σ H fun k Hk => if k = true then N true Hk else u σ Hk N) : tOr t u σ H N := h
theorem w_not {N : Bool → Hp → Prop} (h : t σ H fun k Hk => N (!k) Hk) : tNot t σ H N := h
theorem w_andV (h : ta σ H fun a Ha => ∃ k, a = .bl k ∧ if k = true then tb σ Ha Q else Q (.bl false) Ha) : tAndV ta tb σ H Q := h
theorem w_orV (h : ta σ H fun a Ha => ∃ k, a = .bl k ∧ if k = true then Q (.bl true) Ha else tb σ Ha Q) : tOrV ta tb σ H Q := h
theorem w_notV (h : ta σ H fun a Ha => ∃ k, a = .bl k ∧ Q (.bl (!k)) Ha) : tNotV ta σ H Q := h
theorem w_ifE (h : c σ H fun k Hk => if k = true then ta σ Hk Q else tb σ Hk Q) : tIf c ta tb σ H Q := h
theorem w_yes {N : Bool → Hp → Prop} (h : N true H) : tYes σ H N := h
theorem w_nil {N : List V → Hp → Prop} (h : N [] H) : tNil σ H N := h
theorem w_cons {tr : TA} {N : List V → Hp → Prop} (h : ta σ H fun a Ha => tr σ Ha fun xs Hb => N (a :: xs) Hb) : tCons ta tr σ H N := h
theorem w_CB {f : List V → Hp → VK → Prop} {a : TA} (h : a σ H fun vs Ha => f vs Ha Q) : tCB f a σ H Q := h
theorem w_call {sp : Sp} {dvs : List V} {E : XK} {a : TA} (h : a σ H fun vs Ha => sp (vs ++ dvs) Ha Q E) : tCall sp dvs E a σ H Q := h
theorem w_callN {sp : Sp} {E : XK} {a : TA} (h : a σ H fun vs Ha => sp vs Ha Q E) : tCall sp [] E a σ H Q := by
  have e : (fun (vs : List V) Ha => sp (vs ++ []) Ha Q E) = fun vs Ha => sp vs Ha Q E := by
    funext vs Ha
    rw [List.append_nil]
  show a σ H fun vs Ha => sp (vs ++ []) Ha Q E
  rw [e]
  exact h
theorem w_BM {T : String} {f : V → List V → Hp → VK → Prop} {a : TA} (h : te σ H fun x Ha => tyV K T x Ha ∧ a σ Ha fun xs Hb => f x xs Hb Q) : tBM K T f te a σ H Q := h
theorem w_BM0 {T : String} {f : V → List V → Hp → VK → Prop} (h : te σ H fun x Ha => tyV K T x Ha ∧ f x [] Ha Q) : tBM0 K T f te σ H Q := h
theorem w_noPart {N : Option Int → Hp → Prop} (h : N none H) : tNoPart σ H N := h
theorem w_part {N : Option Int → Hp → Prop} (h : te σ H fun a Ha => ∃ k, a = .int k ∧ N (some k) Ha) : tPart te σ H N := h
theorem w_int {N : Option Int → Hp → Prop} {k : Int} (h : N (some k) H) : ∃ k', V.int k = .int k' ∧ N (some k') H := ⟨k, rfl, h⟩
theorem w_sl {f : V → Option Int → Option Int → Hp → VK → Prop} {tl th : TO} (h : te σ H fun a Ha => tl σ Ha fun l Hb => th σ Hb fun m Hc => f a l m Hc Q) : tSl f te tl th σ H Q := h
theorem w_tup {a : TA} (h : a σ H fun xs Ha => NewU xs Ha Q) : tTup a σ H Q := h
theorem w_lst {a : TA} (h : a σ H fun xs Ha => NewL xs Ha Q) : tLst a σ H Q := h
theorem w_subG {to ti : TE} {f : TSet} {N : L2.St → Hp → Prop} (h : to σ H fun o Ha => ti σ Ha fun k Hb => f o k v Hb fun Hc => N σ Hc) : gSub to ti f v σ H N := h
theorem w_gtup {n : Nat} {gs : TGs} {N : L2.St → Hp → Prop} {p : Addr} {xs : List V} (hx : SqT K H p xs) (hn : xs.length = n) (h : gs xs σ H N) : gTup K n gs (.ref p) σ H N := ⟨p, xs, rfl, hx, hn, h⟩
theorem w_gcons {gs : TGs} {xs : List V} {N : L2.St → Hp → Prop} (h : g v σ H fun σ' Ha => gs xs σ' Ha N) : gCons g gs (v :: xs) σ H N := ⟨v, xs, rfl, h⟩
theorem w_gnil {N : L2.St → Hp → Prop} (h : N σ H) : gNil [] σ H N := ⟨rfl, h⟩
theorem iteNT {A B : Prop} (h : B) : if (!true) = true then A else B := h
theorem iteNF {A B : Prop} (h : A) : if (!false) = true then A else B := h
/-! loops -/
def LoopG (J : It) (g : TG) (b : TS) (D : Ends) (σ : L2.St) (H : Hp) : Prop := tFor (fun _ h R => R J h) g b D σ H
def CompG (J : It) (g : TG) (t : TT) (e : TE) (vs : List Nat) (σ : L2.St) (H : Hp) (Q : VK) : Prop := tLc (fun _ h R => R J h) g t e vs σ H Q
theorem w_for {wi : TI} (h : wi σ H fun J Ha => LoopG J g ts D σ Ha) : tFor wi g ts D σ H := h
theorem w_lc {wi : TI} {vs : List Nat} (h : wi σ H fun J Ha => CompG J g t te vs σ Ha Q) : tLc wi g t te vs σ H Q := h
theorem w_iR1 {a : TA} {R : It → Hp → Prop} (h : a σ H fun vs Ha => ∃ k : Int, vs = [.int k] ∧ -(2 ^ 62) ≤ k ∧ k < 2 ^ 62 ∧ R (Itr 0 k.toNat) Ha) : iRng1 a σ H R := h
theorem w_iR2 {a : TA} {R : It → Hp → Prop} (h : a σ H fun vs Ha => ∃ k l : Int, vs = [.int k, .int l] ∧ (-(2 ^ 62) ≤ k ∧ k < 2 ^ 62 ∧ -(2 ^ 62) ≤ l ∧ l < 2 ^ 62) ∧ R (Itr k (l - k).toNat) Ha) : iRng2 a σ H R := h
theorem w_iL {R : It → Hp → Prop} (h : te σ H fun a Ha => ∃ p, a = .ref p ∧ (∃ xs, SqL K Ha p xs) ∧ R (Itl K p) Ha) : iList K te σ H R := h
theorem w_iT {R : It → Hp → Prop} (h : te σ H fun a Ha => ∃ p, a = .ref p ∧ (∃ xs, SqT K Ha p xs) ∧ R (Itt K p) Ha) : iTup K te σ H R := h
theorem w_iS {R : It → Hp → Prop} (h : te σ H fun a Ha => ∃ s, a = .str s ∧ R (Its s) Ha) : iStr te σ H R := h
theorem r_R1 {k : Int} (hk : 0 ≤ k ∧ k ≤ 100000) (h : LoopG (Itr 0 k.toNat) g ts D σ H) : ∃ k' : Int, [V.int k] = [.int k'] ∧ -(2 ^ 62) ≤ k' ∧ k' < 2 ^ 62 ∧ LoopG (Itr 0 k'.toNat) g ts D σ H := ⟨k, rfl, by omega, by omega, h⟩
theorem c_R1 {k : Int} {vs : List Nat} (hk : 0 ≤ k ∧ k ≤ 100000) (h : CompG (Itr 0 k.toNat) g t te vs σ H Q) : ∃ k' : Int, [V.int k] = [.int k'] ∧ -(2 ^ 62) ≤ k' ∧ k' < 2 ^ 62 ∧ CompG (Itr 0 k'.toNat) g t te vs σ H Q := ⟨k, rfl, by omega, by omega, h⟩
theorem r_R2 {k l : Int} (hk : 0 ≤ k ∧ k ≤ 100000 ∧ -100000 ≤ l ∧ l ≤ 100000) (h : LoopG (Itr k (l - k).toNat) g ts D σ H) : ∃ k' l' : Int, [V.int k, V.int l] = [.int k', .int l'] ∧ (-(2 ^ 62) ≤ k' ∧ k' < 2 ^ 62 ∧ -(2 ^ 62) ≤ l' ∧ l' < 2 ^ 62) ∧ LoopG (Itr k' (l' - k').toNat) g ts D σ H := ⟨k, l, rfl, by omega, h⟩
theorem r_L {p : Addr} {xs : List V} (hx : SqL K H p xs) (h : LoopG (Itl K p) g ts D σ H) : ∃ q, V.ref p = .ref q ∧ (∃ xs, SqL K H q xs) ∧ LoopG (Itl K q) g ts D σ H := ⟨p, rfl, ⟨xs, hx⟩, h⟩
theorem c_L {p : Addr} {xs : List V} {vs : List Nat} (hx : SqL K H p xs) (h : CompG (Itl K p) g t te vs σ H Q) : ∃ q, V.ref p = .ref q ∧ (∃ xs, SqL K H q xs) ∧ CompG (Itl K q) g t te vs σ H Q := ⟨p, rfl, ⟨xs, hx⟩, h⟩
theorem r_T {p : Addr} {xs : List V} (hx : SqT K H p xs) (h : LoopG (Itt K p) g ts D σ H) : ∃ q, V.ref p = .ref q ∧ (∃ xs, SqT K H q xs) ∧ LoopG (Itt K q) g ts D σ H := ⟨p, rfl, ⟨xs, hx⟩, h⟩
theorem c_T {p : Addr} {xs : List V} {vs : List Nat} (hx : SqT K H p xs) (h : CompG (Itt K p) g t te vs σ H Q) : ∃ q, V.ref p = .ref q ∧ (∃ xs, SqT K H q xs) ∧ CompG (Itt K q) g t te vs σ H Q := ⟨p, rfl, ⟨xs, hx⟩, h⟩
theorem r_S {s : Str} (h : LoopG (Its s) g ts D σ H) : ∃ s', V.str s = .str s' ∧ LoopG (Its s') g ts D σ H := ⟨s, rfl, h⟩
theorem c_S {s : Str} {vs : List Nat} (h : CompG (Its s) g t te vs σ H Q) : ∃ s', V.str s = .str s' ∧ CompG (Its s') g t te vs σ H Q := ⟨s, rfl, h⟩
theorem lp_range {n : Nat} {lo : Int} (P : Nat → L2.St → Hp → Prop) (h0 : P 0 σ H)
    (hs : ∀ k s h, k < n → P k s h → g (.int (lo + k)) s h fun s2 h2 => ts { D with nx := P (k + 1), ct := P (k + 1), bk := D.nx } s2 h2)
    (hd : ∀ s h, P n s h → D.nx s h) : LoopG (Itr lo n) g ts D σ H := for_range P h0 hs hd
theorem lp_list {p : Addr} {xs : List V} (P : Nat → L2.St → Hp → Prop) (h0 : P 0 σ H) (hl : ∀ k s h, k ≤ xs.length → P k s h → SqL K h p xs)
    (hs : ∀ k a s h, xs[k]? = some a → P k s h → g a s h fun s2 h2 => ts { D with nx := P (k + 1), ct := P (k + 1), bk := D.nx } s2 h2)
    (hd : ∀ s h, P xs.length s h → D.nx s h) : LoopG (Itl K p) g ts D σ H := for_list P h0 hl hs hd
theorem lp_tup {p : Addr} {xs : List V} (P : Nat → L2.St → Hp → Prop) (h0 : P 0 σ H) (hl : ∀ k s h, k ≤ xs.length → P k s h → SqT K h p xs)
    (hs : ∀ k a s h, xs[k]? = some a → P k s h → g a s h fun s2 h2 => ts { D with nx := P (k + 1), ct := P (k + 1), bk := D.nx } s2 h2)
    (hd : ∀ s h, P xs.length s h → D.nx s h) : LoopG (Itt K p) g ts D σ H := for_tup P h0 hl hs hd
theorem cp_range {n : Nat} {lo : Int} {vs : List Nat} (P : Addr → Nat → Hp → Prop) (h0 : ∀ p, H p = none → P p 0 (upd H p (.lst [])))
    (hs : ∀ p k h, H p = none → k < n → P p k h → g (.int (lo + k)) (wipe σ vs) h fun s2 h2 => wipe s2 vs = wipe σ vs ∧ t s2 h2 fun b h3 =>
      if b = true then te s2 h3 fun a h4 => ∃ acc, h4 p = some (.lst acc) ∧ acc.length < sizeLine ∧ P p (k + 1) (upd h4 p (.lst (acc ++ [a]))) else P p (k + 1) h3)
    (hd : ∀ p h, H p = none → P p n h → Q (.ref p) h) : CompG (Itr lo n) g t te vs σ H Q := fun p hp => lc_range (P p) (h0 p hp) (fun k h hk => hs p k h hp hk) (fun h => hd p h hp)
theorem cp_list {a : Addr} {xs : List V} {vs : List Nat} (P : Addr → Nat → Hp → Prop) (h0 : ∀ p, H p = none → P p 0 (upd H p (.lst []))) (hl : ∀ p k h, H p = none → k ≤ xs.length → P p k h → SqL K h a xs)
    (hs : ∀ p k x h, H p = none → xs[k]? = some x → P p k h → g x (wipe σ vs) h fun s2 h2 => wipe s2 vs = wipe σ vs ∧ t s2 h2 fun b h3 =>
      if b = true then te s2 h3 fun a h4 => ∃ acc, h4 p = some (.lst acc) ∧ acc.length < sizeLine ∧ P p (k + 1) (upd h4 p (.lst (acc ++ [a]))) else P p (k + 1) h3)
    (hd : ∀ p h, H p = none → P p xs.length h → Q (.ref p) h) : CompG (Itl K a) g t te vs σ H Q := fun p hp => lc_list (P p) (h0 p hp) (fun k h hk => hl p k h hp hk) (fun k x h hk => hs p k x h hp hk) (fun h => hd p h hp)
theorem cp_tup {a : Addr} {xs : List V} {vs : List Nat} (P : Addr → Nat → Hp → Prop) (h0 : ∀ p, H p = none → P p 0 (upd H p (.lst []))) (hl : ∀ p k h, H p = none → k ≤ xs.length → P p k h → SqT K h a xs)
    (hs : ∀ p k x h, H p = none → xs[k]? = some x → P p k h → g x (wipe σ vs) h fun s2 h2 => wipe s2 vs = wipe σ vs ∧ t s2 h2 fun b h3 =>
      if b = true then te s2 h3 fun a h4 => ∃ acc, h4 p = some (.lst acc) ∧ acc.length < sizeLine ∧ P p (k + 1) (upd h4 p (.lst (acc ++ [a]))) else P p (k + 1) h3)
    (hd : ∀ p h, H p = none → P p xs.length h → Q (.ref p) h) : CompG (Itt K a) g t te vs σ H Q := fun p hp => lc_tup (P p) (h0 p hp) (fun k h hk => hl p k h hp hk) (fun k x h hk => hs p k x h hp hk) (fun h => hd p h hp)
end
/-! ## heaps: what an edge keeps -/
/-- all but S is kept -/
def Ks (S : List Addr) (H H' : Hp) : Prop := ∀ a o, a ∉ S → H a = some o → H' a = some o
theorem Ks.refl (S : List Addr) (H : Hp) : Ks S H H := fun _ _ _ h => h
theorem Ks.trans {S : List Addr} {H H1 H2 : Hp} (a : Ks S H H1) (b : Ks S H1 H2) : Ks S H H2 := fun x o n h => b x o n (a x o n h)
theorem Ks.of {S : List Addr} {H H' : Hp} (e : Ex H H') : Ks S H H' := fun a o _ h => e a o h
theorem Ks.upd {S : List Addr} {H H' : Hp} {p : Addr} {o : HO} (e : Ks S H H') (h : p ∈ S) : Ks S H (L2.upd H' p o) := fun a u n q => by
  rw [upd_ne (show a ≠ p from fun z => n (by rw [z]; exact h))]
  exact e a u n q
theorem Ks.mut {S : List Addr} {H H' : Hp} {p : Addr} {o : HO} (e : Ks S H H') (h : H p = none) : Ks S H (L2.upd H' p o) := fun a u n q => by
  rw [upd_ne (ne_of_none q h)]
  exact e a u n q
theorem Ks.drop {S : List Addr} {H H' : Hp} {p : Addr} (e : Ks (p :: S) H H') (h : H p = none) : Ks S H H' := fun a u n q =>
  e a u (fun z => (List.mem_cons.mp z).elim (ne_of_none q h) n) q
theorem Ks.mono {S S' : List Addr} {H H' : Hp} (e : Ks S H H') (h : ∀ a ∈ S, a ∈ S') : Ks S' H H' := fun a u n q => e a u (fun z => n (h a z)) q
theorem Ks.ex {H H' : Hp} (e : Ks [] H H') : Ex H H' := fun a u q => e a u (by simp) q
theorem ex_at {H H' : Hp} {a : Addr} {o : HO} (h : H a = some o) (e : Ex H H') : H' a = some o := e a o h
theorem ks_at {S : List Addr} {H H' : Hp} {a : Addr} {o : HO} (h : H a = some o) (e : Ks S H H') (n : a ∉ S) : H' a = some o := e a o n h
theorem ex_sl {K : PySem.W.Frag} {H H' : Hp} {a : Addr} {xs : List V} (h : SqL K H a xs) (e : Ex H H') : SqL K H' a xs := ex_l e h
theorem ex_st {K : PySem.W.Frag} {H H' : Hp} {a : Addr} {xs : List V} (h : SqT K H a xs) (e : Ex H H') : SqT K H' a xs := ex_t e h
theorem nin_nil {a : Addr} : a ∉ ([] : List Addr) := by simp
theorem nin_cons {a b : Addr} {S : List Addr} (h : a ≠ b) (k : a ∉ S) : a ∉ b :: S := fun z => (List.mem_cons.mp z).elim h k
theorem ne_old {H : Hp} {a p : Addr} {o : HO} (h : H a = some o) (n : H p = none) : a ≠ p := ne_of_none h n
/-- a new object -/
theorem new_lst {H : Hp} {xs : List V} {Q : VK} (hz : xs.length ≤ 100000) (k : ∀ p H1, H p = none → Ex H H1 → H1 p = some (.lst xs) → Q (.ref p) H1) :
    NewL xs H Q := ⟨sz_of hz, fun p n => k p _ n (Ex.new n) upd_same⟩
theorem new_tup {H : Hp} {xs : List V} {Q : VK} (hz : xs.length ≤ 100000) (k : ∀ p H1, H p = none → Ex H H1 → H1 p = some (.tup xs) → Q (.ref p) H1) :
    NewU xs H Q := ⟨sz_of hz, fun p n => k p _ n (Ex.new n) upd_same⟩
theorem new_any {H : Hp} {o : HO} {Q : VK} (k : ∀ p H1, H p = none → Ex H H1 → H1 p = some o → Q (.ref p) H1) : ∀ p, H p = none → Q (.ref p) (upd H p o) := fun p n => k p _ n (Ex.new n) upd_same
/-! ## built-ins by named relations -/
def qAbs : List V → Hp → VK → Prop := fun xs H Q => ∃ n, xs = [.int n] ∧ Q (.int (if n < 0 then -n else n)) H
def qInt : List V → Hp → VK → Prop := fun xs H Q => (∃ n, xs = [.int n] ∧ Q (.int n) H) ∨ ∃ k, xs = [.bl k] ∧ Q (.int (if k then 1 else 0)) H
def qTup (K : PySem.W.Frag) : List V → Hp → VK → Prop := fun xs H Q => ∃ p ys, xs = [.ref p] ∧ ((SqL K H p ys ∧ ∀ l, H l = none → Q (.ref l) (upd H l (.tup ys))) ∨ (SqT K H p ys ∧ Q (.ref p) H))
def qLenS : List V → Hp → VK → Prop := fun xs H Q => ∃ s, xs = [.str s] ∧ s.length ≤ sizeLine ∧ Q (.int s.length) H
def qInS (neg : Bool) : R2 := fun x y H Q => ∃ i j, x = .str i ∧ y = .str j ∧ Q (.bl (if neg then (!(!(Builtin.Str.occurrences j i 0 j.length 1).isEmpty)) else (!(Builtin.Str.occurrences j i 0 j.length 1).isEmpty))) H
section
variable {X : Cx}
theorem k_abs : CallR X (.builtin "abs") qAbs := call_abs
theorem k_int : CallR X (.type "int") qInt := call_int1
theorem k_tup : CallR X (.type "tuple") (qTup X.K) := call_tuple_of
theorem k_lst : CallR X (.type "list") (rListS X.K) := call_list_of
theorem k_len : CallR X (.builtin "len") (rLenS X.K) := call_len_seq
theorem k_inS : OpR X (compareOp .In) (qInS false) := op_in_str
theorem k_ninS : OpR X (compareOp .NotIn) (qInS true) := op_notin_str
end
section
variable {K : PySem.W.Frag} {H : Hp} {Q : VK} {p : Addr} {xs : List V}
theorem a_abs {n : Int} (k : Q (.int (if n < 0 then -n else n)) H) : qAbs [.int n] H Q := ⟨n, rfl, k⟩
theorem a_intI {n : Int} (k : Q (.int n) H) : qInt [.int n] H Q := .inl ⟨n, rfl, k⟩
theorem a_intB {b : Bool} (k : Q (.int (if b then 1 else 0)) H) : qInt [.bl b] H Q := .inr ⟨b, rfl, k⟩
theorem a_tupL (h : SqL K H p xs) (k : ∀ q H1, H q = none → Ex H H1 → H1 q = some (.tup xs) → Q (.ref q) H1) : qTup K [.ref p] H Q := ⟨p, xs, rfl, .inl ⟨h, fun q n => k q _ n (Ex.new n) upd_same⟩⟩
theorem a_tupT (h : SqT K H p xs) (k : Q (.ref p) H) : qTup K [.ref p] H Q := ⟨p, xs, rfl, .inr ⟨h, k⟩⟩
theorem a_lstL (h : SqL K H p xs) (k : ∀ q H1, H q = none → Ex H H1 → H1 q = some (.lst xs) → Q (.ref q) H1) : rListS K [.ref p] H Q := ⟨p, xs, rfl, .inl h, fun q n => k q _ n (Ex.new n) upd_same⟩
theorem a_lstT (h : SqT K H p xs) (k : ∀ q H1, H q = none → Ex H H1 → H1 q = some (.lst xs) → Q (.ref q) H1) : rListS K [.ref p] H Q := ⟨p, xs, rfl, .inr h, fun q n => k q _ n (Ex.new n) upd_same⟩
theorem a_inS {i j : Str} {b : Bool} (e : (!(Builtin.Str.occurrences j i 0 j.length 1).isEmpty) = b) (k : Q (.bl b) H) : qInS false (.str i) (.str j) H Q := ⟨i, j, rfl, rfl, by rw [e]; exact k⟩
theorem a_ninS {i j : Str} {b : Bool} (e : (!(Builtin.Str.occurrences j i 0 j.length 1).isEmpty) = b) (k : Q (.bl (!b)) H) : qInS true (.str i) (.str j) H Q := ⟨i, j, rfl, rfl, by rw [e]; exact k⟩
end
/-! ## is, is not -/
def qIsN : R2 := fun x y H Q => y = .non ∧ Q (.bl (decide (x = .non))) H
def qNotN : R2 := fun x y H Q => y = .non ∧ Q (.bl (!decide (x = .non))) H
def qIsTy : R2 := fun x y H Q => ∃ m n, x = .ty m ∧ y = .ty n ∧ Q (.bl (decide (m = n))) H
def qNotTy : R2 := fun x y H Q => ∃ m n, x = .ty m ∧ y = .ty n ∧ Q (.bl (!decide (m = n))) H
section
variable {X : Cx}
theorem k_isN : OpR X (compareOp .Is) qIsN := op_isN
theorem k_notN : OpR X (compareOp .IsNot) qNotN := op_notN
theorem k_isTy : OpR X (compareOp .Is) qIsTy := op_isTy
theorem k_notTy : OpR X (compareOp .IsNot) qNotTy := op_isNotTy
end
section
variable {H : Hp} {Q : VK}
theorem a_isNn (k : Q (.bl true) H) : qIsN .non .non H Q := ⟨rfl, k⟩
theorem a_isNr {p : Addr} (k : Q (.bl false) H) : qIsN (.ref p) .non H Q := ⟨rfl, k⟩
theorem a_notNn (k : Q (.bl false) H) : qNotN .non .non H Q := ⟨rfl, k⟩
theorem a_notNr {p : Addr} (k : Q (.bl true) H) : qNotN (.ref p) .non H Q := ⟨rfl, k⟩
theorem a_isTy {m n : String} (k : Q (.bl (decide (m = n))) H) : qIsTy (.ty m) (.ty n) H Q := ⟨m, n, rfl, rfl, k⟩
theorem a_notTy {m n : String} (k : Q (.bl (!decide (m = n))) H) : qNotTy (.ty m) (.ty n) H Q := ⟨m, n, rfl, rfl, k⟩
theorem a_isBl {m n : Bool} (k : Q (.bl (m == n)) H) : rIsB (.bl m) (.bl n) H Q := ⟨m, n, rfl, rfl, by
  have e : decide (m = n) = (m == n) := by cases m <;> cases n <;> rfl
  rw [e]; exact k⟩
theorem a_notBl {m n : Bool} (k : Q (.bl (m != n)) H) : rNotB (.bl m) (.bl n) H Q := ⟨m, n, rfl, rfl, by
  have e : (!decide (m = n)) = (m != n) := by cases m <;> cases n <;> rfl
  rw [e]; exact k⟩
theorem w_par {i j : Nat} {a : TA} {D : Ends} {σ : L2.St} (h : a σ H fun vs Ha => ∃ v w, vs = [v, w] ∧ D.nx ((σ.set i (some v)).set j (some w)) Ha) : tPar i j a D σ H := h
theorem a_cat {p q : Addr} {xs ys : List V} (h1 : H p = some (.lst xs)) (h2 : H q = some (.lst ys)) (hz : xs.length + ys.length ≤ 100000) (k : ∀ l H1, H l = none → Ex H H1 → H1 l = some (.lst (xs ++ ys)) → Q (.ref l) H1) : rCat (.ref p) (.ref q) H Q :=
  ⟨p, q, xs, ys, rfl, rfl, h1, h2, sz_of hz, fun l n => k l _ n (Ex.new n) upd_same⟩
end
/-! ## the rules that name the written part, by its name -/
section
variable (K : PySem.W.Frag) {X : Cx}
theorem plK {tg l : Expr} {tl : TE} (hl : PE X l tl) (h : X.K = K := by rfl) : PI X tg l (iList K tl) := by subst h; exact pi_list hl
theorem ptK {tg l : Expr} {tl : TE} (hl : PE X l tl) (h : X.K = K := by rfl) : PI X tg l (iTup K tl) := by subst h; exact pi_tup hl
theorem ixL (h : X.K = K := by rfl) : IxR X (rIxL K) := by subst h; exact ix_list
theorem ixT (h : X.K = K := by rfl) : IxR X (rIxT K) := by subst h; exact ix_tup
theorem slA (h : X.K = K := by rfl) : SlR X (rSlA K) := by subst h; exact sl_tupA
theorem slL (h : X.K = K := by rfl) : SlR X (rSlL K) := by subst h; exact sl_list
theorem lenK (h : X.K = K := by rfl) : CallR X (.builtin "len") (rLenS K) := by subst h; exact k_len
theorem inK (h : X.K = K := by rfl) : OpR X (compareOp .In) (rIn K false) := by subst h; exact op_in_seq
theorem ninK (h : X.K = K := by rfl) : OpR X (compareOp .NotIn) (rIn K true) := by subst h; exact op_notIn_seq
theorem lstK (h : X.K = K := by rfl) : CallR X (.type "list") (rListS K) := by subst h; exact k_lst
theorem catAK (h : X.K = K := by rfl) : OpR X (binaryOp .Add) (rCatA K) := by subst h; exact op_catA
theorem eqDK (hu : X.A.units + 64 < cLine) (h : X.K = K := by rfl) : OpR X (compareOp .Eq) (rEqD K) := by subst h; exact op_eqD hu
theorem neDK (hu : X.A.units + 64 < cLine) (h : X.K = K := by rfl) : OpR X (compareOp .NotEq) (rNeD K) := by subst h; exact op_neD hu
theorem inDK (hu : X.A.units + 65 < cLine) (h : X.K = K := by rfl) : OpR X (compareOp .In) (rInD K) := by subst h; exact op_inD hu
theorem ninDK (hu : X.A.units + 65 < cLine) (h : X.K = K := by rfl) : OpR X (compareOp .NotIn) (rNotInD K) := by subst h; exact op_notInD hu
theorem allK (hc : X.calm = true := by rfl) (h : X.K = K := by rfl) : CallR X (.builtin "all") (rAll K) := by subst h; exact cr_all hc
theorem typK (h : X.K = K := by rfl) : CallR X (.type "type") (rTyp K) := by subst h; exact call_type1
theorem isiK (h : X.K = K := by rfl) : CallR X (.builtin "isinstance") (rIsi K) := by subst h; exact call_isi
end
theorem hd_of {A : Around} {k : Nat} (hr : Room k A) : A.units + 65 < cLine := by have := hr.un; omega
/-! ## operations by what is known of the heap -/
section
variable {K : PySem.W.Frag} {H : Hp} {Q : VK} {p q : Addr} {xs ys : List V} {v x : V} {n : Int}
theorem a_ixL (h : SqL K H p xs) (e : atI xs n = some v) (k : Q v H) : rIxL K (.ref p) (.int n) H Q := ⟨p, xs, n, v, rfl, rfl, h, e, k⟩
theorem a_ixT (h : SqT K H p xs) (e : atI xs n = some v) (k : Q v H) : rIxT K (.ref p) (.int n) H Q := ⟨p, xs, n, v, rfl, rfl, h, e, k⟩
theorem a_lenL (h : SqL K H p xs) (k : Q (.int xs.length) H) : rLenS K [.ref p] H Q := ⟨p, xs, rfl, .inl h, k⟩
theorem a_lenT (h : SqT K H p xs) (k : Q (.int xs.length) H) : rLenS K [.ref p] H Q := ⟨p, xs, rfl, .inr h, k⟩
theorem a_app (h : H p = some (.lst xs)) (hz : xs.length < 100000) (k : Q .non (upd H p (.lst (xs ++ [v])))) : rAppend (.ref p) [v] H Q := ⟨p, xs, v, rfl, rfl, h, sz_lt hz, k⟩
theorem a_ty (h : H p = some (.lst xs)) : tyV K "list" (.ref p) H := .inl ⟨rfl, xs, SqL.of h⟩
theorem a_setL {j : Nat} {N : Hp → Prop} (h : H p = some (.lst xs)) (hj : j < xs.length) (k : N (upd H p (.lst (xs.set j v)))) : rSetL (.ref p) (.int j) v H N := ⟨p, xs, j, j, rfl, rfl, h, ixN_nat hj, k⟩
theorem a_inL (h : SqL K H p xs) (hx : flatV x = true) (ha : xs.all flatV = true) (k : Q (.bl (inV x xs)) H) : rIn K false x (.ref p) H Q := ⟨p, xs, rfl, .inl h, hx, ha, k⟩
theorem a_inT (h : SqT K H p xs) (hx : flatV x = true) (ha : xs.all flatV = true) (k : Q (.bl (inV x xs)) H) : rIn K false x (.ref p) H Q := ⟨p, xs, rfl, .inr h, hx, ha, k⟩
theorem a_ninL (h : SqL K H p xs) (hx : flatV x = true) (ha : xs.all flatV = true) (k : Q (.bl (!inV x xs)) H) : rIn K true x (.ref p) H Q := ⟨p, xs, rfl, .inl h, hx, ha, k⟩
theorem a_ninT (h : SqT K H p xs) (hx : flatV x = true) (ha : xs.all flatV = true) (k : Q (.bl (!inV x xs)) H) : rIn K true x (.ref p) H Q := ⟨p, xs, rfl, .inr h, hx, ha, k⟩
end
def NewD (H : Hp) (Q : VK) : Prop := ∀ p, H p = none → Q (.ref p) (upd H p (.dK []))
theorem w_dK {σ : L2.St} {H : Hp} {Q : VK} (h : NewD H Q) : tDNewK σ H Q := h
theorem new_dK {H : Hp} {Q : VK} (k : ∀ p H1, H p = none → Ex H H1 → H1 p = some (.dK []) → Q (.ref p) H1) : NewD H Q := fun p n => k p _ n (Ex.new n) upd_same
/-! ## the box of draws: a list of a row and a place -/
def Bx (H : Hp) (b r : Addr) : Prop := ∃ (n : Nat) (ns : List Int), H b = some (.lst [.ref r, .int (n : Int)]) ∧ H r = some (.lst (ns.map V.int)) ∧ ns.length ≤ 100000
theorem bx_ex {H H' : Hp} {b r : Addr} (h : Bx H b r) (e : Ex H H') : Bx H' b r := by
  obtain ⟨n, ns, h1, h2, h3⟩ := h
  exact ⟨n, ns, e _ _ h1, e _ _ h2, h3⟩
theorem bx_ks {S : List Addr} {H H' : Hp} {b r : Addr} (h : Bx H b r) (e : Ks S H H') (nb : b ∉ S) (nr : r ∉ S) : Bx H' b r := by
  obtain ⟨n, ns, h1, h2, h3⟩ := h
  exact ⟨n, ns, e _ _ nb h1, e _ _ nr h2, h3⟩
theorem bx_nb {H : Hp} {b r p : Addr} (h : Bx H b r) (n : H p = none) : b ≠ p := by
  obtain ⟨_, _, h1, _⟩ := h
  exact ne_of_none h1 n
theorem bx_nr {H : Hp} {b r p : Addr} (h : Bx H b r) (n : H p = none) : r ≠ p := by
  obtain ⟨_, _, _, h2, _⟩ := h
  exact ne_of_none h2 n
theorem bx_rb {H : Hp} {b r : Addr} (h : Bx H b r) : r ≠ b := by
  obtain ⟨n, ns, h1, h2, _⟩ := h
  refine ne_of h2 h1 fun z => ?_
  cases ns with
  | nil => exact nomatch z
  | cons a as => exact nomatch z
theorem ks_st {K : PySem.W.Frag} {S : List Addr} {H H' : Hp} {a : Addr} {xs : List V} (h : SqT K H a xs) (e : Ks S H H') (n : a ∉ S) : SqT K H' a xs := by
  rcases h with (h | ⟨o, h⟩) | h
  · exact .inl (.inl (e _ _ n h))
  · exact .inl (.inr ⟨o, e _ _ n h⟩)
  · exact .inr h
theorem ks_sl {K : PySem.W.Frag} {S : List Addr} {H H' : Hp} {a : Addr} {xs : List V} (h : SqL K H a xs) (e : Ks S H H') (n : a ∉ S) : SqL K H' a xs := by
  rcases h with (h | ⟨o, h⟩) | h
  · exact .inl (.inl (e _ _ n h))
  · exact .inl (.inr ⟨o, e _ _ n h⟩)
  · exact .inr h
/-- a promise's two common ends -/
abbrev RV1 (v : V) (H : Hp) (Q : VK) : Prop := ∀ H2, Ex H H2 → Q v H2
abbrev RT1 (xs : List V) (H : Hp) (Q : VK) : Prop := ∀ p H2, Ex H H2 → H2 p = some (.tup xs) → Q (.ref p) H2
end Ver

set_option Elab.async false
set_option linter.all false
set_option maxRecDepth 100000
set_option maxHeartbeats 4000000
namespace Ver
open PySem PySem.Spec PyProof.Rows L2 Evl
/-! ## rights as data -/
inductive R | rw | r | w | n
  deriving DecidableEq
def R.s : R → Str
  | .rw => "rw"
  | .r => "r"
  | .w => "w"
  | .n => "-"
def R.hr : R → Bool
  | .rw => true
  | .r => true
  | _ => false
def R.hw : R → Bool
  | .rw => true
  | .w => true
  | _ => false
theorem R.s_inj {a b : R} (h : a.s = b.s) : a = b := by
  cases a <;> cases b <;> first | rfl | exact absurd h (by decide)
theorem dec_s (a b : R) : decide (a.s = b.s) = decide (a = b) := by
  cases a <;> cases b <;> decide
def tv (xs : List R) : List V := xs.map fun x => .str x.s
theorem tv_len (xs : List R) : (tv xs).length = xs.length := List.length_map _
theorem tv_at {xs : List R} {i : Nat} {x : R} (h : xs[i]? = some x) : (tv xs)[i]? = some (.str x.s) := by
  unfold tv
  rw [List.getElem?_map, h]
  rfl
theorem tv_get {xs : List R} {i : Nat} {v : V} (h : (tv xs)[i]? = some v) : ∃ x, xs[i]? = some x ∧ v = .str x.s := by
  unfold tv at h
  rw [List.getElem?_map] at h
  cases e : xs[i]? with
  | none => rw [e] at h; cases h
  | some x => rw [e] at h; exact ⟨x, rfl, (Option.some.inj h).symm⟩
theorem tv_flat (xs : List R) : (tv xs).all flatV = true := by
  unfold tv
  rw [List.all_map]
  exact List.all_eq_true.mpr fun _ _ => rfl
theorem tv_strs (xs : List R) : tv xs = (xs.map R.s).map V.str := by
  unfold tv
  rw [List.map_map]
  rfl
theorem tv_in (x : R) (xs : List R) : inV (.str x.s) (tv xs) = decide (x ∈ xs) := by
  induction xs with
  | nil => rfl
  | cons a as ih =>
    have e : inV (.str x.s) (tv (a :: as)) = (eqV (.str a.s) (.str x.s) || inV (.str x.s) (tv as)) := rfl
    have e2 : eqV (.str a.s) (.str x.s) = decide (x = a) := by cases a <;> cases x <;> rfl
    rw [e, ih, e2]
    by_cases h : x = a
    · subst h; simp
    · simp [h]
theorem in_r (a : R) : (!(Builtin.Str.occurrences a.s "r" 0 a.s.length 1).isEmpty) = a.hr := by cases a <;> decide +kernel
theorem in_w (a : R) : (!(Builtin.Str.occurrences a.s "w" 0 a.s.length 1).isEmpty) = a.hw := by cases a <;> decide +kernel
/-- each letter of a is one of b's -/
def wi (a b : R) : Bool := (!a.hr || b.hr) && (!a.hw || b.hw)
/-- converting, level by level, for equal lengths -/
def cw : List R → List R → Bool
  | a :: as, b :: bs => wi b a && (!b.hr || cw as bs) && (!b.hw || cw bs as)
  | _, _ => true
termination_by xs ys => xs.length + ys.length
def cv (xs ys : List R) : Bool := decide (xs.length = ys.length) && cw xs ys
theorem cw_nil : cw [] [] = true := by rw [cw]; all_goals (intros; contradiction)
theorem cw_cons (a b : R) (as bs : List R) : cw (a :: as) (b :: bs) = (wi b a && (!b.hr || cw as bs) && (!b.hw || cw bs as)) := by rw [cw]
theorem cv_ne {xs ys : List R} (h : xs.length ≠ ys.length) : cv xs ys = false := by
  unfold cv
  rw [decide_eq_false h]
  rfl
theorem cv_nil : cv [] [] = true := by
  unfold cv
  rw [cw_nil]
  rfl
theorem cv_cons {a b : R} {as bs : List R} (h : as.length = bs.length) : cv (a :: as) (b :: bs) = (wi b a && (!b.hr || cv as bs) && (!b.hw || cv bs as)) := by
  unfold cv
  rw [cw_cons, List.length_cons, List.length_cons, decide_eq_true (show as.length + 1 = bs.length + 1 by omega), decide_eq_true h, decide_eq_true h.symm]
  simp only [Bool.true_and]
theorem cw_refl : ∀ xs : List R, cw xs xs = true
  | [] => cw_nil
  | a :: as => by
    rw [cw_cons, cw_refl as]
    cases a <;> rfl
theorem cv_refl (xs : List R) : cv xs xs = true := by
  unfold cv
  rw [cw_refl, decide_eq_true rfl]
  rfl
theorem cw_trans : ∀ (n : Nat) (xs ys zs : List R), xs.length = n → ys.length = n → zs.length = n → cw xs ys = true → cw ys zs = true → cw xs zs = true
  | 0, [], [], [], _, _, _, _, _ => cw_nil
  | n + 1, a :: as, b :: bs, c :: cs, h1, h2, h3, p, q => by
    rw [cw_cons] at p q ⊢
    simp only [List.length_cons, Nat.add_right_cancel_iff] at h1 h2 h3
    have t1 := cw_trans n as bs cs h1 h2 h3
    have t2 := cw_trans n cs bs as h3 h2 h1
    generalize cw as bs = u1 at p t1
    generalize cw bs as = u2 at p t2
    generalize cw bs cs = u3 at q t1
    generalize cw cs bs = u4 at q t2
    generalize cw as cs = u5 at t1 ⊢
    generalize cw cs as = u6 at t2 ⊢
    revert p q t1 t2
    cases a <;> cases b <;> cases c <;> cases u1 <;> cases u2 <;> cases u3 <;> cases u4 <;> cases u5 <;> cases u6 <;> decide
theorem cv_trans {xs ys zs : List R} (p : cv xs ys = true) (q : cv ys zs = true) : cv xs zs = true := by
  unfold cv at *
  simp only [Bool.and_eq_true, decide_eq_true_eq] at *
  exact ⟨p.1.trans q.1, cw_trans xs.length xs ys zs rfl p.1.symm (p.1.trans q.1).symm p.2 q.2⟩
/-- the plain form -/
def pl : List R → List R
  | [] => []
  | x :: xs => if x = .n then .n :: xs.map (fun _ => .n) else x :: pl xs
theorem pl_len : ∀ xs : List R, (pl xs).length = xs.length
  | [] => rfl
  | x :: xs => by
    unfold pl
    by_cases h : x = .n
    · rw [if_pos h, List.length_cons, List.length_map, List.length_cons]
    · rw [if_neg h, List.length_cons, List.length_cons, pl_len xs]
theorem map_const {xs ys : List R} (h : xs.length = ys.length) : (xs.map fun _ => R.n) = ys.map fun _ => R.n := by
  rw [List.map_const', List.map_const', h]
theorem alike_pl : ∀ (xs ys : List R), (cv xs ys && cv ys xs) = decide (pl xs = pl ys)
  | [], [] => by rw [cv_nil]; rfl
  | [], b :: bs => by
    rw [cv_ne (by simp)]
    have h : pl [] ≠ pl (b :: bs) := fun e => by
      have := congrArg List.length e
      rw [pl_len, pl_len] at this
      simp at this
    rw [decide_eq_false h]
    rfl
  | a :: as, [] => by
    rw [cv_ne (by simp)]
    have h : pl (a :: as) ≠ pl [] := fun e => by
      have := congrArg List.length e
      rw [pl_len, pl_len] at this
      simp at this
    rw [decide_eq_false h]
    rfl
  | a :: as, b :: bs => by
    by_cases hl : as.length = bs.length
    · have ih := alike_pl as bs
      rw [cv_cons hl, cv_cons hl.symm]
      by_cases hab : a = b
      · subst hab
        by_cases hn : a = .n
        · subst hn
          have e : pl (R.n :: as) = pl (R.n :: bs) := by
            unfold pl
            rw [if_pos rfl, if_pos rfl, map_const hl]
          rw [decide_eq_true e]
          rfl
        · have e : decide (pl (a :: as) = pl (a :: bs)) = decide (pl as = pl bs) := by
            rw [show pl (a :: as) = a :: pl as by (conv => lhs; unfold pl); rw [if_neg hn], show pl (a :: bs) = a :: pl bs by (conv => lhs; unfold pl); rw [if_neg hn]]
            simp
          rw [e, ← ih]
          generalize cv as bs = u1
          generalize cv bs as = u2
          revert hn
          cases a <;> cases u1 <;> cases u2 <;> decide
      · have e : pl (a :: as) ≠ pl (b :: bs) := fun e => hab (by
          have q := congrArg List.head? e
          revert q
          unfold pl
          by_cases h1 : a = .n
          · by_cases h2 : b = .n
            · rw [h1, h2]; intro _; rfl
            · rw [if_pos h1, if_neg h2, h1]; intro q; exact Option.some.inj q
          · by_cases h2 : b = .n
            · rw [if_neg h1, if_pos h2, h2]; intro q; exact Option.some.inj q
            · rw [if_neg h1, if_neg h2]; intro q; exact Option.some.inj q)
        rw [decide_eq_false e]
        generalize cv as bs = u1
        generalize cv bs as = u2
        revert hab
        cases a <;> cases b <;> cases u1 <;> cases u2 <;> decide
    · rw [cv_ne (by simpa using hl)]
      have h : pl (a :: as) ≠ pl (b :: bs) := fun e => by
        have := congrArg List.length e
        rw [pl_len, pl_len] at this
        simp at this
        exact hl this
      rw [decide_eq_false h]
      rfl
/-! ## tuples of rights compared -/
def ru (xs : List R) : PyData := .tuple (xs.map fun x => .str x.s)
theorem dp_all {K : PySem.W.Frag} {H : Hp} : ∀ xs : List R, DpAll K H (tv xs) (xs.map fun x => .str x.s)
  | [] => .nil
  | x :: xs => .cons (.str x.s) (dp_all xs)
theorem dp_ru {K : PySem.W.Frag} {H : Hp} {a : Addr} {xs : List R} (h : SqT K H a (tv xs)) : Dp K H (.ref a) (ru xs) := .tup h (dp_all xs)
theorem eqv_rs : ∀ xs ys : List R, PyData.eqvAll (xs.map fun x => .str x.s) (ys.map fun x => .str x.s) = decide (xs = ys)
  | [], [] => rfl
  | [], y :: ys => rfl
  | x :: xs, [] => rfl
  | x :: xs, y :: ys => by
    show (PyData.eqv (.str x.s) (.str y.s) && PyData.eqvAll (xs.map fun x => .str x.s) (ys.map fun x => .str x.s)) = _
    rw [eqv_rs xs ys]
    have e : PyData.eqv (.str x.s) (.str y.s) = decide (x = y) := by cases x <;> cases y <;> rfl
    rw [e]
    by_cases h1 : x = y
    · subst h1; simp
    · simp [h1]
theorem eqv_ru (xs ys : List R) : PyData.eqv (ru xs) (ru ys) = decide (xs = ys) := eqv_rs xs ys
theorem depth_rs : ∀ xs : List R, PyData.depthAll (xs.map fun x => .str x.s) ≤ 1
  | [] => by simp [PyData.depthAll]
  | x :: xs => by
    have := depth_rs xs
    simp [PyData.depthAll, PyData.depth] at this ⊢
    try omega
theorem lay_rs : ∀ xs : List R, PyData.canLayAll0 (xs.map fun x => .str x.s) = true
  | [] => by simp [PyData.canLayAll0]
  | x :: xs => by
    have := lay_rs xs
    simp [PyData.canLayAll0, PyData.canLay0] at this ⊢
    exact ⟨by cases x <;> decide +kernel, this⟩
theorem shaped_ru (xs : List R) : SeqAt.shaped (ru xs) = true := by
  have d := depth_rs xs
  have l := lay_rs xs
  unfold SeqAt.shaped ru
  simp only [PyData.canLay0, PyData.depth, Bool.and_eq_true]
  exact ⟨l, decide_eq_true (by omega)⟩
theorem a_eqU {K : PySem.W.Frag} {H : Hp} {Q : VK} {a b : Addr} {xs ys : List R} (h1 : SqT K H a (tv xs)) (h2 : SqT K H b (tv ys)) (k : Q (.bl (decide (xs = ys))) H) : rEqD K (.ref a) (.ref b) H Q :=
  ⟨ru xs, ru ys, dp_ru h1, dp_ru h2, shaped_ru xs, shaped_ru ys, by rw [eqv_ru]; exact k⟩
theorem a_neU {K : PySem.W.Frag} {H : Hp} {Q : VK} {a b : Addr} {xs ys : List R} (h1 : SqT K H a (tv xs)) (h2 : SqT K H b (tv ys)) (k : Q (.bl (!decide (xs = ys))) H) : rNeD K (.ref a) (.ref b) H Q :=
  ⟨ru xs, ru ys, dp_ru h1, dp_ru h2, shaped_ru xs, shaped_ru ys, by rw [eqv_ru]; exact k⟩
/-! ## parts of tuples -/
theorem a_slT1 {K : PySem.W.Frag} {H : Hp} {Q : VK} {a : Addr} {v : V} {vs : List V} (h : SqT K H a (v :: vs)) (k : ∀ q H1, H q = none → Ex H H1 → H1 q = some (.tup vs) → Q (.ref q) H1) : rSlA K (.ref a) (some 1) none H Q := by
  have e1 : HT.sIx (v :: vs).length 0 (some 1) = 1 := by
    rw [show HT.sIx (v :: vs).length 0 (some 1) = min 1 (v :: vs).length from HT.sIx_nat (v :: vs).length 0 1, List.length_cons]
    omega
  refine ⟨a, v :: vs, rfl, h, fun z => ?_, fun _ p hp => ?_⟩
  · rw [e1] at z
    exact absurd z.1 (by decide)
  · have e : cutV (v :: vs) (some 1) none = vs := by
      unfold cutV
      rw [e1, HT.sIx_none, List.length_cons]
      show vs.take (vs.length + 1 - 1) = vs
      rw [Nat.add_sub_cancel]
      exact List.take_length
    rw [e]
    exact k p _ hp (Ex.new hp) upd_same
theorem a_slTo {K : PySem.W.Frag} {H : Hp} {Q : VK} {a : Addr} {vs : List V} {n : Nat} (h : SqT K H a vs) (hn : n < vs.length) (k : ∀ q H1, H q = none → Ex H H1 → H1 q = some (.tup (vs.take n)) → Q (.ref q) H1) : rSlA K (.ref a) none (some (n : Int)) H Q := by
  have e1 : HT.sIx vs.length vs.length (some (n : Int)) = n := by
    rw [HT.sIx_nat vs.length vs.length n]
    omega
  refine ⟨a, vs, rfl, h, fun z => ?_, fun _ p hp => ?_⟩
  · rw [e1] at z
    exact absurd z.2 (by omega)
  · have e : cutV vs none (some (n : Int)) = vs.take n := by
      unfold cutV
      rw [e1, HT.sIx_none]
      simp
    rw [e]
    exact k p _ hp (Ex.new hp) upd_same
theorem a_catA {K : PySem.W.Frag} {H : Hp} {Q : VK} {a b : Addr} {xs ys : List V} (h1 : SqT K H a xs) (h2 : SqT K H b ys) (hz : xs.length + ys.length ≤ 100000) (k : ∀ q H1, Ex H H1 → SqT K H1 q (xs ++ ys) → Q (.ref q) H1) : rCatA K (.ref a) (.ref b) H Q :=
  ⟨a, b, xs, ys, rfl, rfl, h1, h2, sz_of hz, fun e => k b H (Ex.refl H) (by rw [e]; exact h2), fun _ e => k a H (Ex.refl H) (by rw [e, List.append_nil]; exact h1), fun _ _ p hp => k p _ (Ex.new hp) (SqT.of upd_same)⟩
/-! ## t * n, n from 1 on -/
theorem tup_mul1 (l : Addr) (its : Array Value) (n : Nat) (dd : Option Addr) (sl : Array (Option Value)) (u : Tok) :
    Meets (Builtin.«tuple.__mul__» ⟨[.ref l, .int 1 u], []⟩) (fun _ R s => s.heap.get? l = some { cls := .type "tuple", dict := dd, data := .seq its n, slots := sl } ∧ R (.ok (.ret (Value.ref l))) s) :=
  .of_wp fun prog w A R s h => by
    obtain ⟨hp, g, d, tk, os⟩ := s
    obtain ⟨hl, h⟩ := h
    have f1 := AutoSeq1.idx_int
    wp_walk using wpAny_loadPart' hl
    exact ⟨_, rfl, h⟩
def rRepA (K : PySem.W.Frag) : R2 := fun x y H Q => ∃ l k xs, x = .ref l ∧ y = .int k ∧ SqT K H l xs ∧ xs ≠ [] ∧ 1 ≤ k ∧ k ≤ 1000 ∧ xs.length ≤ 1000 ∧ ∀ q H1, Ex H H1 → SqT K H1 q (List.replicate k.toNat xs).flatten → Q (.ref q) H1
theorem op_repA {X : Cx} : OpR X (binaryOp .Mult) (rRepA X.K) := by
  intro pins s σ H x y v u Q I rx ry h
  obtain ⟨l, k, xs, rfl, rfl, hT, hne, h1, h2, hz, q⟩ := h
  by_cases hk : 2 ≤ k
  · exact op_repT pins s σ H _ _ v u Q I rx ry ⟨l, k, xs, rfl, rfl, hT, hne, hk, h2, hz, fun p hp => q p _ (Ex.new hp) (SqT.of upd_same)⟩
  · have e : k = 1 := by omega
    subst e
    cases rx
    obtain ⟨t, rfl⟩ := ry
    have q' := q l H (Ex.refl H) (by simpa using hT)
    obtain ⟨its, r, ⟨⟨cls, dd, data, sl⟩, ho, hc, n, hd⟩, hs⟩ := I.tuple hT
    simp only at hc hd
    subst hc hd
    exact wpAny_binaryOp_repeat_ref (T := "tuple") (U := "int") (by decide) ⟨_, ho, rfl⟩ (fun s' => typeIs_int s' 1 t) noFill_tuple_mul F.fills_int_mul F.slot_int_rmul repeat_tuple F.slot_int_index.lookup
      (call_meets F.slot_int_rmul (typeIs_int s 1 t) F.entry_int_rmul (F.args_int_rmul_2 _ _) (int_rmul_tuple 1 t l its.toArray n dd sl)
        ⟨ho, rfl, ⟨_, ho, rfl⟩, call_meets F.slot_tuple_mul ⟨_, ho, rfl⟩ F.entry_tuple_mul (F.args_tuple_mul_2 _ _) (tup_mul1 l its.toArray n dd sl t) ⟨ho, ⟨.ref l, H, I, rfl, q'⟩⟩⟩)
/-! ## tuples whose very object is known: their methods -/
def Tu (H : Hp) (a : Addr) (xs : List V) : Prop := ∃ ob : Obj, ob.dict = none ∧ H a = some (.frz ob (.tup xs))
theorem Tu.st {K : PySem.W.Frag} {H : Hp} {a : Addr} {xs : List V} (h : Tu H a xs) : SqT K H a xs := by
  obtain ⟨ob, _, h⟩ := h
  exact .inl (.inr ⟨ob, h⟩)
theorem Tu.ex {H H' : Hp} {a : Addr} {xs : List V} (h : Tu H a xs) (e : Ex H H') : Tu H' a xs := by
  obtain ⟨ob, d, h⟩ := h
  exact ⟨ob, d, e _ _ h⟩
theorem Tu.ks {S : List Addr} {H H' : Hp} {a : Addr} {xs : List V} (h : Tu H a xs) (e : Ks S H H') (n : a ∉ S) : Tu H' a xs := by
  obtain ⟨ob, d, h⟩ := h
  exact ⟨ob, d, e _ _ n h⟩
theorem Tu.ne {H : Hp} {a b r : Addr} {xs : List V} (h : Tu H a xs) (g : Bx H b r) : a ≠ b ∧ a ≠ r := by
  obtain ⟨n, ns, h1, h2, _⟩ := g
  obtain ⟨ob, d, h⟩ := h
  exact ⟨ne_of h h1 (fun z => nomatch z), ne_of h h2 (fun z => nomatch z)⟩
def qTupF (K : PySem.W.Frag) : List V → Hp → VK → Prop := fun xs H Q => ∃ p ys, xs = [.ref p] ∧ ((SqL K H p ys ∧ ∀ l (ob : Obj), H l = none → ob.dict = none → Q (.ref l) (upd H l (.frz ob (.tup ys)))) ∨ (SqT K H p ys ∧ Q (.ref p) H))
theorem k_tupF {X : Cx} : CallR X (.type "tuple") (qTupF X.K) := by
  intro pins s σ H xs us Q I rs h
  obtain ⟨p, ys, rfl, h⟩ := h
  obtain ⟨u, rfl, ru⟩ := vals1 rs
  cases ru
  rcases h with ⟨hq, q⟩ | ⟨hq, q⟩
  · obtain ⟨its, rv, pls, hz⟩ := I.list hq
    have hlen := rv.length
    refine call_tuple_list pls.isList (fun g kp => ?_) (by rw [List.size_toArray]; omega)
    have J : Inv X pins σ H { s with heap := g } := I.kept (t' := s.toks) kp
    have J2 : Inv X pins σ (upd H g.objs.size (.frz { cls := .type "tuple", data := .seq its.toArray } (.tup ys))) { s with heap := g.push { cls := .type "tuple", data := .seq its.toArray } } :=
      J.laid (t' := s.toks) (fun c o z => Heap.get?_push_of_some _ z) (Nat.le_refl _) ⟨Heap.get?_push_size _ rfl, ⟨hz, its, rv, IsTup.new _ _⟩⟩
    exact ⟨.ref g.objs.size, _, J2, rfl, q _ _ (J.hok.fresh (Nat.le_refl _)) rfl⟩
  · obtain ⟨its, rv, pls, hz⟩ := I.tuple hq
    exact call_tuple_same pls ⟨.ref p, H, I, rfl, q⟩
theorem tupFK (K : PySem.W.Frag) {X : Cx} (h : X.K = K := by rfl) : CallR X (.type "tuple") (qTupF K) := by subst h; exact k_tupF
theorem repAK (K : PySem.W.Frag) {X : Cx} (h : X.K = K := by rfl) : OpR X (binaryOp .Mult) (rRepA K) := by subst h; exact op_repA
theorem a_tupFL {K : PySem.W.Frag} {H : Hp} {Q : VK} {p : Addr} {xs : List V} (h : SqL K H p xs) (k : ∀ q H1, H q = none → Ex H H1 → Tu H1 q xs → Q (.ref q) H1) : qTupF K [.ref p] H Q :=
  ⟨p, xs, rfl, .inl ⟨h, fun q _ n d => k q _ n (Ex.new n) ⟨_, d, upd_same⟩⟩⟩
def tBMT (f : V → List V → Hp → VK → Prop) (to : TE) (a : TA) : TE := fun σ H Q => to σ H fun x Ha => (∃ p ys, x = .ref p ∧ Tu Ha p ys) ∧ a σ Ha fun xs Hb => f x xs Hb Q
theorem w_BMT {f : V → List V → Hp → VK → Prop} {to : TE} {a : TA} {σ : L2.St} {H : Hp} {Q : VK} (h : to σ H fun x Ha => (∃ p ys, x = .ref p ∧ Tu Ha p ys) ∧ a σ Ha fun xs Hb => f x xs Hb Q) : tBMT f to a σ H Q := h
theorem pe_bmT {X : Cx} {o e : Expr} {es : List Expr} {to : TE} {t : TA} {nm : Str} {ap cp : Pos} {id : String} {f : V → List V → Hp → VK → Prop} (pa : PlainAttrs "tuple") (slot : Slot "tuple" nm id) (hty : typeOf (.builtin id) = pure (.type "method_descriptor")) (hm : MtR X id f) (ho : PE X o to) (ha : PA X (e :: es) t)
    (h1 : attributeBase o nm X.env (eval o X.env) = eval o X.env := by rfl)
    (h2 : ((backTo cp (starEach (e :: es) X.env)).all (fun z => !z.1) && (backToKw cp (keywordEach [] X.env)).all (fun z => z.1.isSome) && decide ((e :: es).length + ([] : List Keyword).length + (if ([] : List Keyword).isEmpty then 0 else 1) < 30)) = true := by rfl)
    (h3 : (ap.endLine == cp.line) = true := by rfl) (h4 : starEach (e :: es) X.env = (false, eval e X.env) :: starEach es X.env := by rfl) (h5 : (backTo cp (starEach es X.env)).any (·.1) = false := by rfl) :
    PE X (.Call (.Attribute o nm ap) (e :: es) [] cp) (tBMT f to t) := by
  refine ⟨fun pins s σ H Q I h => wpAny_Call_method_late h1 h2 h3 rfl (thn (ho.run pins s σ H _ I h) fun v s1 ⟨x, H1, I1, r1, ty, q1⟩ => ?_)⟩
  obtain ⟨p, ys, rfl, ob, hd, hp⟩ := ty
  cases r1
  obtain ⟨g1, _, its, _, g2⟩ := I1.hok p _ hp
  have A := ha.run cp pins s1 σ H1 _ I1 q1
  rw [h4] at A
  refine ⟨"tuple", id, pa, slot, hty, g2.typeIs, fun c z => ⟨ob, by cases z; exact g1, hd⟩, ?_⟩
  rw [h4]
  refine Calls.callWith_builtin (by show (false || (backTo cp (starEach es X.env)).any (·.1)) = false; rw [h5]; rfl) (Calls.evalArgs_plain ?_)
  exact thn A fun us s2 ⟨vs, H2, I2, r2, q2⟩ => hm pins s2 σ H2 (.ref p) vs _ us Q I2 rfl r2 q2
/-! ## bars -/
def ltr (b : Bool) : Str := if b then "r" else "w"
def lv (ls : List Bool) : List V := ls.map fun b => .str (ltr b)
theorem lv_len (ls : List Bool) : (lv ls).length = ls.length := List.length_map _
def R.has (x : R) (b : Bool) : Bool := if b then x.hr else x.hw
theorem in_l (x : R) (b : Bool) : (!(Builtin.Str.occurrences x.s (ltr b) 0 x.s.length 1).isEmpty) = x.has b := by
  cases b
  · exact in_w x
  · exact in_r x
/-- going down by letters, turning about at w, to a right that the second has and the first lacks -/
def ib : List R → List R → List Bool → Bool → Bool
  | x :: _, y :: _, [], b => y.has b && !x.has b
  | _ :: xs, y :: ys, l :: ls, b => y.has l && ib (if l then xs else ys) (if l then ys else xs) ls b
  | _, _, _, _ => false
theorem ib_long : ∀ (ls : List Bool) (xs ys : List R) (b : Bool), xs.length = ys.length → xs.length ≤ ls.length → ib xs ys ls b = false
  | [], xs, ys, b, _, h => by
    have e : xs = [] := List.eq_nil_of_length_eq_zero (by simpa using h)
    subst e
    cases ys <;> rfl
  | l :: ls, [], ys, b, _, _ => by cases ys <;> rfl
  | l :: ls, x :: xs, [], b, h, _ => by cases h
  | l :: ls, x :: xs, y :: ys, b, h, h2 => by
    have h' : xs.length = ys.length := by simpa using h
    have h2' : xs.length ≤ ls.length := by simpa using h2
    show (y.has l && ib (if l then xs else ys) (if l then ys else xs) ls b) = false
    cases l
    · rw [show ib (if false = true then xs else ys) (if false = true then ys else xs) ls b = ib ys xs ls b from rfl, ib_long ls ys xs b h'.symm (by omega), Bool.and_false]
    · rw [show ib (if true = true then xs else ys) (if true = true then ys else xs) ls b = ib xs ys ls b from rfl, ib_long ls xs ys b h' h2', Bool.and_false]
theorem cv_cons' {a b : R} {as bs : List R} (h : as.length = bs.length) : cv (a :: as) (b :: bs) = (((!b.has true || a.has true) && (!b.has false || a.has false)) && (!b.has true || cv as bs) && (!b.has false || cv bs as)) := cv_cons h
/-- converting and bars exclude one another -/
theorem ib_cv : ∀ (ls : List Bool) (xs ys : List R) (b : Bool), xs.length = ys.length → ib xs ys ls b = true → cv xs ys = false
  | [], [], ys, b, _, h => by cases ys <;> cases h
  | [], x :: xs, [], b, h, _ => by cases h
  | [], x :: xs, y :: ys, b, h, g => by
    rw [cv_cons' (by simpa using h)]
    have g' : (y.has b && !x.has b) = true := g
    revert g'
    generalize cv xs ys = u1
    generalize cv ys xs = u2
    cases b <;> cases x <;> cases y <;> cases u1 <;> cases u2 <;> decide
  | l :: ls, [], ys, b, _, h => by cases ys <;> cases h
  | l :: ls, x :: xs, [], b, h, _ => by cases h
  | l :: ls, x :: xs, y :: ys, b, h, g => by
    have h' : xs.length = ys.length := by simpa using h
    have g' : (y.has l && ib (if l then xs else ys) (if l then ys else xs) ls b) = true := g
    rw [Bool.and_eq_true] at g'
    rw [cv_cons' h']
    cases l
    · have c := ib_cv ls ys xs b h'.symm g'.2
      rw [c, g'.1]
      simp
    · have c := ib_cv ls xs ys b h' g'.2
      rw [c, g'.1]
      simp
end Ver

set_option Elab.async false
set_option linter.all false
set_option maxRecDepth 100000
set_option maxHeartbeats 4000000
namespace Ver
open PySem PySem.Spec PyProof.Rows L2 Evl
/-! ### the text by its places -/
def topS (i : Nat) : Stmt := PySem.Challenge.pw_rightskept_k01_rights_and_types.main.body.getD i (.Pass ⟨0, 0, 0, 0⟩)
abbrev s_is_right : Stmt := topS 4
abbrev n_is_right : List Str := ["thing"]
abbrev p_is_right : List Str := ["thing"]
theorem sc_is_right : FnScope n_is_right p_is_right (defScope s_is_right) := ⟨rfl, rfl, rfl, by decide +kernel, rfl, by decide +kernel, by decide +kernel⟩
abbrev s_is_type : Stmt := topS 5
abbrev n_is_type : List Str := ["thing"]
abbrev p_is_type : List Str := ["thing"]
theorem sc_is_type : FnScope n_is_type p_is_type (defScope s_is_type) := ⟨rfl, rfl, rfl, by decide +kernel, rfl, by decide +kernel, by decide +kernel⟩
abbrev s_is_value_type : Stmt := topS 6
abbrev n_is_value_type : List Str := ["thing", "part"]
abbrev p_is_value_type : List Str := ["thing"]
theorem sc_is_value_type : FnScope n_is_value_type p_is_value_type (defScope s_is_value_type) := ⟨rfl, rfl, rfl, by decide +kernel, rfl, by decide +kernel, by decide +kernel⟩
abbrev s_within : Stmt := topS 7
abbrev n_within : List Str := ["one", "two", "letter"]
abbrev p_within : List Str := ["one", "two"]
theorem sc_within : FnScope n_within p_within (defScope s_within) := ⟨rfl, rfl, rfl, by decide +kernel, rfl, by decide +kernel, by decide +kernel⟩
abbrev s__law_cell : Stmt := topS 9
abbrev n__law_cell : List Str := ["script", "k"]
abbrev p__law_cell : List Str := ["script", "k"]
theorem sc__law_cell : FnScope n__law_cell p__law_cell (defScope s__law_cell) := ⟨rfl, rfl, rfl, by decide +kernel, rfl, by decide +kernel, by decide +kernel⟩
abbrev s__law_row : Stmt := topS 10
abbrev n__law_row : List Str := ["script", "first", "last", "row", "k", "cell", "turn"]
abbrev p__law_row : List Str := ["script", "first", "last"]
theorem sc__law_row : FnScope n__law_row p__law_row (defScope s__law_row) := ⟨rfl, rfl, rfl, by decide +kernel, rfl, by decide +kernel, by decide +kernel⟩
abbrev s__law_draw : Stmt := topS 11
abbrev n__law_draw : List Str := ["box", "many", "at"]
abbrev p__law_draw : List Str := ["box", "many"]
theorem sc__law_draw : FnScope n__law_draw p__law_draw (defScope s__law_draw) := ⟨rfl, rfl, rfl, by decide +kernel, rfl, by decide +kernel, by decide +kernel⟩
abbrev s__law_is : Stmt := topS 12
abbrev n__law_is : List Str := ["told", "due"]
abbrev p__law_is : List Str := ["told", "due"]
theorem sc__law_is : FnScope n__law_is p__law_is (defScope s__law_is) := ⟨rfl, rfl, rfl, by decide +kernel, rfl, by decide +kernel, by decide +kernel⟩
abbrev s_law : Stmt := topS 13
abbrev n_law : List Str := ["script", "box", "rights", "bad", "thing", "one", "two", "due", "turn", "many", "parts", "good", "shape", "k", "part", "letter"]
abbrev p_law : List Str := ["script"]
theorem sc_law : FnScope n_law p_law (defScope s_law) := ⟨rfl, rfl, rfl, by decide +kernel, rfl, by decide +kernel, by decide +kernel⟩
/-- where each def stands, what names mean -/
structure Df (K : PySem.W.Frag) (mg : Str → Option Value) (x : Str) (st : Stmt) (ps : List Str) (a : Addr) (fd : FuncData) : Prop where
  F : Fun K x x st a fd
  b : Binds K fd ps []
  m : mg x = some (.ref a)
structure Tx (K : PySem.W.Frag) (mg : Str → Option Value) where
  a_is_right : Addr
  e_is_right : FuncData
  d_is_right : Df K mg "is_right" s_is_right p_is_right a_is_right e_is_right
  a_is_type : Addr
  e_is_type : FuncData
  d_is_type : Df K mg "is_type" s_is_type p_is_type a_is_type e_is_type
  a_is_value_type : Addr
  e_is_value_type : FuncData
  d_is_value_type : Df K mg "is_value_type" s_is_value_type p_is_value_type a_is_value_type e_is_value_type
  a_within : Addr
  e_within : FuncData
  d_within : Df K mg "within" s_within p_within a_within e_within
  a__law_cell : Addr
  e__law_cell : FuncData
  d__law_cell : Df K mg "_law_cell" s__law_cell p__law_cell a__law_cell e__law_cell
  a__law_row : Addr
  e__law_row : FuncData
  d__law_row : Df K mg "_law_row" s__law_row p__law_row a__law_row e__law_row
  a__law_draw : Addr
  e__law_draw : FuncData
  d__law_draw : Df K mg "_law_draw" s__law_draw p__law_draw a__law_draw e__law_draw
  a__law_is : Addr
  e__law_is : FuncData
  d__law_is : Df K mg "_law_is" s__law_is p__law_is a__law_is e__law_is
  a_RIGHTS : Addr
  m_RIGHTS : mg "RIGHTS" = some (.ref a_RIGHTS)
  t_RIGHTS : ∀ H, SqT K H a_RIGHTS [.str "rw", .str "r", .str "w", .str "-"]
  a_LETTERS : Addr
  m_LETTERS : mg "LETTERS" = some (.ref a_LETTERS)
  t_LETTERS : ∀ H, SqT K H a_LETTERS [.str "r", .str "w"]
  k_MOST_RIGHTS : Tok
  m_MOST_RIGHTS : mg "MOST_RIGHTS" = some (.int 6 k_MOST_RIGHTS)
  b_str : mg "str" = none
  b_type : mg "type" = none
  b_len : mg "len" = none
  b_all : mg "all" = none
  b_tuple : mg "tuple" = none
  b_range : mg "range" = none
  b_abs : mg "abs" = none
  b_int : mg "int" = none
  b_isinstance : mg "isinstance" = none
  b_bool : mg "bool" = none
  b_list : mg "list" = none
local macro_rules | `(tactic| walk_at "s") => `(tactic| with_reducible first
  | refine w_seq ?_ | refine w_asg ?_ | refine w_name ?_ | refine w_if ?_ | refine w_ret ?_ | refine w_drop ?_ | refine w_next ?_ | refine w_brk ?_ | refine w_cont ?_
  | (refine w_var (v := ?vv) ?hh ?_; (case hh => with_unfolding_all exact rfl))
  | refine w_c ?_ | refine w_op ?_ | refine w_un ?_ | refine w_I0 ?_ | refine w_neg ?_ | refine w_eqI ?_ | refine w_neI ?_ | refine w_eqS ?_ | refine w_neS ?_ | refine w_eqB ?_ | refine w_neB ?_
  | refine w_test ?_ | refine w_B ?_ | refine w_and ?_ | refine w_or ?_ | refine w_not ?_ | refine w_andV ?_ | refine w_orV ?_ | refine w_notV ?_ | refine w_ifE ?_ | refine w_yes ?_
  | refine w_nil ?_ | refine w_cons ?_ | refine w_CB ?_ | refine w_callN ?_ | refine w_BM ?_ | refine w_BMT ?_ | refine w_BM0 ?_ | refine w_noPart ?_ | refine w_part ?_ | refine w_sl ?_ | refine w_tup ?_ | refine w_lst ?_
  | refine w_subG ?_ | refine w_gcons ?_ | refine w_gnil ?_ | refine w_for ?_ | refine w_lc ?_ | refine w_iR1 ?_ | refine w_iR2 ?_ | refine w_iL ?_ | refine w_iT ?_ | refine w_iS ?_
  | (show ∃ k, V.bl _ = V.bl k ∧ _; refine ⟨_, rfl, ?_⟩) | (show ∃ k, V.int _ = V.int k ∧ _; refine ⟨_, rfl, ?_⟩)
  | refine iteT ?_ | refine iteF ?_ | refine iteNT ?_ | refine iteNF ?_ | refine r_S ?_ | refine c_S ?_ | refine a_abs ?_ | refine a_intI ?_ | refine a_intB ?_ | refine w_par ?_ | refine w_dK ?_ | (show ∃ v w, [_, _] = [v, w] ∧ _; refine ⟨_, _, rfl, ?_⟩)
  | refine a_isNn ?_ | refine a_isNr ?_ | refine a_notNn ?_ | refine a_notNr ?_ | refine a_isTy ?_ | refine a_notTy ?_ | refine a_isBl ?_ | refine a_notBl ?_)
local macro_rules | `(tactic| walk_at "r") => `(tactic| repeat walk_at "s")
local macro_rules | `(tactic| walk_at "tr") => `(tactic| first
  | assumption
  | (refine ex_at (H := ?H0) ?h1 ?h2; (case h2 => assumption); (case h1 => walk_at "tr"))
  | (refine ks_at (H := ?H0) (S := ?S0) ?h1 ?h2 ?h3; (case h2 => assumption); (case h3 => walk_at "nin"); (case h1 => walk_at "tr")))
local macro_rules | `(tactic| walk_at "nin") => `(tactic| first
  | exact nin_nil | (refine nin_cons ?h1 ?h2; (case h1 => walk_at "ne"); (case h2 => walk_at "nin")))
local macro_rules | `(tactic| walk_at "ne") => `(tactic| first
  | assumption | exact Ne.symm (by assumption)
  | (refine bx_nb (H := ?H0) (r := ?r0) ?h1 ?h2; (case h2 => assumption); (case h1 => walk_at "bx"))
  | (refine bx_nr (H := ?H0) (b := ?b0) ?h1 ?h2; (case h2 => assumption); (case h1 => walk_at "bx"))
  | (refine Ne.symm (bx_nb (H := ?H0) (r := ?r0) ?h1 ?h2); (case h2 => assumption); (case h1 => walk_at "bx"))
  | (refine ne_old (H := ?H0) (o := ?o0) ?h1 ?h2; (case h2 => assumption); (case h1 => walk_at "tr"))
  | (refine Ne.symm (ne_old (H := ?H0) (o := ?o0) ?h1 ?h2); (case h2 => assumption); (case h1 => walk_at "tr"))
  | exact (Tu.ne (by assumption) (by assumption)).1 | exact (Tu.ne (by assumption) (by assumption)).2
  | (refine bx_rb (H := ?H0) ?h1; (case h1 => walk_at "bx")))
local macro_rules | `(tactic| walk_at "tu") => `(tactic| first
  | assumption
  | (refine Tu.ex (H := ?H0) ?h1 ?h2; (case h2 => assumption); (case h1 => walk_at "tu"))
  | (refine Tu.ks (H := ?H0) (S := ?S0) ?h1 ?h2 ?h3; (case h2 => assumption); (case h3 => walk_at "nin"); (case h1 => walk_at "tu")))
local macro_rules | `(tactic| walk_at "bx") => `(tactic| first
  | assumption
  | (refine bx_ex (H := ?H0) ?h1 ?h2; (case h2 => assumption); (case h1 => walk_at "bx"))
  | (refine bx_ks (H := ?H0) (S := ?S0) ?h1 ?h2 ?h3 ?h4; (case h2 => assumption); (case h3 => walk_at "nin"); (case h4 => walk_at "nin"); (case h1 => walk_at "bx")))
local macro_rules | `(tactic| walk_at "sl") => `(tactic| first
  | assumption | (refine SqL.of ?h1; (case h1 => walk_at "tr"))
  | (refine ex_sl (H := ?H0) ?h1 ?h2; (case h2 => assumption); (case h1 => walk_at "sl"))
  | (refine ks_sl (H := ?H0) (S := ?S0) ?h1 ?h2 ?h3; (case h2 => assumption); (case h3 => walk_at "nin"); (case h1 => walk_at "sl")))
local macro_rules | `(tactic| walk_at "st") => `(tactic| first
  | assumption | (refine Tu.st ?h1; (case h1 => walk_at "tu")) | (refine SqT.of ?h1; (case h1 => walk_at "tr"))
  | (refine ex_st (H := ?H0) ?h1 ?h2; (case h2 => assumption); (case h1 => walk_at "st"))
  | (refine ks_st (H := ?H0) (S := ?S0) ?h1 ?h2 ?h3; (case h2 => assumption); (case h3 => walk_at "nin"); (case h1 => walk_at "st")))
local macro_rules | `(tactic| walk_at "ex") => `(tactic| first
  | exact Ex.refl _ | assumption | (refine Ex.trans (H1 := ?H0) ?h1 ?h2; (case h2 => assumption); (case h1 => walk_at "ex")))
local macro_rules | `(tactic| walk_at "ks") => `(tactic| first
  | exact Ks.refl _ _ | assumption | (refine Ks.of ?h1; (case h1 => assumption)) | (refine Ks.trans (H1 := ?H0) ?h1 ?h2; (case h2 => first | assumption | (refine Ks.of ?h3; (case h3 => assumption))); (case h1 => walk_at "ks")))

section
variable {P : Program} {w : World} {K : PySem.W.Frag} {mg : Str → Option Value} {base : Heap}
/-! ### the row and the draws -/
def pCell (K : PySem.W.Frag) : Sp := fun vs H Q _ => ∃ (a : Addr) (ns : List Int) (k : Int), vs = [.ref a, .int k] ∧ SqL K H a (ns.map V.int) ∧ 0 ≤ k ∧ ∀ v : Int, Q (.int v) H
theorem ok__law_cell (T : Tx K mg) : FnOk P w K mg base CX0 1 T.a__law_cell T.e__law_cell p__law_cell (pCell K) := by
  refine T.d__law_cell.F.ok sc__law_cell (fun vs H Q E h => ?_) (fun cdv A outer s H vs Q E hr h => ?_)
  · obtain ⟨a, ns, k, rfl, _⟩ := h
    rfl
  obtain ⟨a, ns, k, rfl, hS, h0, q⟩ := h
  refine ⟨_, (pss_cons (ps_if (pt_cmpR op_lt (pv 1) (pe_callB (lenK K) (by rfl) T.b_len PySem.boot_len (pa_cons (pv 0) pa_nil)) (nomark _)) (pss_one (ps_ret (pe_ix (ixL K) (pv 0) (pv 1) (fun _ _ => rfl)))) pss_nil)
    (pss_one (ps_ret pe_int))), ?_⟩
  walk_at "r"
  refine a_lenL hS ?_
  walk_at "r"
  refine ite2 (fun c => ?_) (fun c => ?_)
  · have c' : k < ((ns.map V.int).length : Int) := of_decide_eq_true c
    walk_at "r"
    have hk : k.toNat < ns.length := by rw [List.length_map] at c'; omega
    have ek : k = ((k.toNat : Nat) : Int) := by omega
    refine a_ixL (v := .int ns[k.toNat]) hS ?_ (q _)
    have g : atI (ns.map V.int) ((k.toNat : Nat) : Int) = some (.int ns[k.toNat]) := atI_nat (by rw [List.getElem?_map]; simp [hk])
    rw [← ek] at g
    exact g
  · walk_at "r"
    exact q _
def pRow (K : PySem.W.Frag) : Sp := fun vs H Q _ => ∃ (a : Addr) (ns : List Int) (l : Int), vs = [.ref a, .int 0, .int l] ∧ SqL K H a (ns.map V.int) ∧ 0 ≤ l ∧ l ≤ 63 ∧
  ∀ p H' (rs : List Int), H p = none → Ex H H' → H' p = some (.lst (rs.map V.int)) → rs.length ≤ 100000 → Q (.ref p) H'
theorem map_snoc (rs : List Int) (v : Int) : rs.map V.int ++ [.int v] = (rs ++ [v]).map V.int := by rw [List.map_append]; rfl
theorem ok__law_row (T : Tx K mg) : FnOk P w K mg base CX0 2 T.a__law_row T.e__law_row p__law_row (pRow K) := by
  refine T.d__law_row.F.ok sc__law_row (fun vs H Q E h => ?_) (fun cdv A outer s H vs Q E hr h => ?_)
  · obtain ⟨a, ns, l, rfl, _⟩ := h
    rfl
  obtain ⟨a, ns, l, rfl, hS, h0, h1, q⟩ := h
  refine ⟨_, (pss_cons (ps_set (i := 3) sc__law_row.nd rfl (.inl rfl) (pe_lst pa_nil))
    (pss_cons (ps_for PassesOwn.never rfl (pi_range2 (by rfl) T.b_range (pa_cons (pv 1) (pa_cons (pv 2) pa_nil))) (pg_name (i := 4) sc__law_row.nd rfl (.inl rfl)) (pss_cons (ps_set (i := 5) sc__law_row.nd rfl (.inl rfl) (pe_call (ok__law_cell T) (hr.mono (by omega)) (by rfl) T.d__law_cell.m T.d__law_cell.F.kp T.d__law_cell.b .nil pass0 (pa_cons (pv 0) (pa_cons (pv 4) pa_nil))))
    (pss_cons (ps_set (i := 5) sc__law_row.nd rfl (.inl rfl) (pe_op op_add (pe_callB k_abs (by rfl) T.b_abs (by decide +kernel) (pa_cons (pe_op op_mul pe_int (pv 5)) pa_nil)) (pe_callTy k_int (by rfl) T.b_int (by decide +kernel) (pa_cons (pe_cmpR op_lt (pv 5) pe_int (nomark _)) pa_nil))))
    (pss_one (ps_if (pt_cmpR op_gt (pv 5) (pe_op op_pow pe_int pe_int) (nomark _)) (pss_one (ps_for PassesOwn.never rfl (pi_range1 (by rfl) T.b_range (pa_cons pe_int pa_nil)) (pg_name (i := 6) sc__law_row.nd rfl (.inl rfl)) (pss_one (ps_if (pt_cmpR op_gt (pv 5) pe_int (nomark _)) (pss_cons (ps_expr (pe_bm PySem.F.plainAttrs_list PySem.F.slot_list_append PySem.F.type_list_append mt_append (pv 3) (pa_cons (pe_op op_mod (pe_callTy k_int (by rfl) T.b_int (by decide +kernel) (pa_cons (pv 5) pa_nil)) pe_int) pa_nil)))
    (pss_one (ps_set (i := 5) sc__law_row.nd rfl (.inl rfl) (pe_op op_fdiv (pv 5) pe_int)))) pss_nil)))) (pss_one (ps_for PassesOwn.never rfl (pi_range1 (by rfl) T.b_range (pa_cons pe_int pa_nil)) (pg_name (i := 6) sc__law_row.nd rfl (.inl rfl)) (pss_cons (ps_set (i := 5) sc__law_row.nd rfl (.inl rfl) (pe_op op_mod (pe_callTy k_int (by rfl) T.b_int (by decide +kernel) (pa_cons (pe_op op_add (pe_op op_add (pe_op op_mul (pv 5) pe_int) (pe_op op_mul pe_int (pe_op op_add (pv 4) (pv 6)))) pe_int) pa_nil)) pe_int))
    (pss_one (ps_expr (pe_bm PySem.F.plainAttrs_list PySem.F.slot_list_append PySem.F.type_list_append mt_append (pv 3) (pa_cons (pe_op op_mod (pe_callTy k_int (by rfl) T.b_int (by decide +kernel) (pa_cons (pe_op op_fdiv (pv 5) pe_int) pa_nil)) pe_int) pa_nil))))))))))))
    (pss_one (ps_ret (pv 3))))), ?_⟩
  walk_at "r"
  refine new_lst (xs := []) (by simp) fun p H1 n1 e1 f1 => ?_
  walk_at "r"
  refine r_R2 (by omega) ?_
  refine lp_range (fun k σ h => ∃ x y z, ∃ rs : List Int, σ = [some (.ref a), some (.int 0), some (.int l), some (.ref p), x, y, z] ∧ Ex H h ∧ h p = some (.lst (rs.map V.int)) ∧ rs.length ≤ 100 * k)
    ⟨_, _, _, [], rfl, e1, f1, by simp⟩ ?_ ?_
  · rintro k σ h hk ⟨x, y, z, rs, rfl, e2, f2, z2⟩
    walk_at "r"
    refine ⟨a, ns, _, rfl, ex_sl hS e2, by omega, fun v => ?_⟩
    walk_at "r"
    refine w_I (.inl ⟨by decide, by decide⟩) ?_
    walk_at "r"
    generalize (if 2 * v < 0 then -(2 * v) else 2 * v) + (if decide (v < 0) = true then 1 else 0) = c0
    refine w_I ⟨by decide, by decide, by decide⟩ ?_
    walk_at "r"
    refine ite2 (fun _ => ?_) (fun _ => ?_)
    · walk_at "r"
      refine r_R1 (by omega) ?_
      refine lp_range (fun m σ h' => ∃ z, ∃ rs' : List Int, ∃ c : Int, σ = [some (.ref a), some (.int 0), some (.int l), some (.ref p), some (.int (0 + (k : Int))), some (.int c), z] ∧ Ex H h' ∧ h' p = some (.lst (rs'.map V.int)) ∧ rs'.length ≤ 100 * k + m)
        ⟨_, rs, c0, rfl, e2, f2, by omega⟩ ?_ ?_
      · rintro m σ h' hm ⟨z', rs', c, rfl, e3, f3, z3⟩
        walk_at "r"
        refine ite2 (fun _ => ?_) (fun _ => ?_)
        · walk_at "r"
          refine ⟨a_ty f3, ?_⟩
          walk_at "r"
          walk_at "r"
          refine w_I (by decide) ?_
          walk_at "r"
          have hm' : m < 60 := hm
          have hk' : k < 63 := by omega
          refine a_app f3 (by rw [List.length_map]; omega) ?_
          walk_at "r"
          refine w_I ⟨by decide, by decide⟩ ?_
          walk_at "r"
          refine ⟨_, rs' ++ [c % 840], _, rfl, e3.mut n1, by rw [upd_same, map_snoc], by rw [List.length_append]; simp; omega⟩
        · walk_at "r"
          exact ⟨_, rs', c, rfl, e3, f3, by omega⟩
      · rintro σ h' ⟨z', rs', c, rfl, e3, f3, z3⟩
        have z4 : rs'.length ≤ 100 * k + 60 := z3
        exact ⟨_, _, _, rs', rfl, e3, f3, by omega⟩
    · walk_at "r"
      refine r_R1 (by omega) ?_
      refine lp_range (fun m σ h' => ∃ z, ∃ rs' : List Int, ∃ c : Int, σ = [some (.ref a), some (.int 0), some (.int l), some (.ref p), some (.int (0 + (k : Int))), some (.int c), z] ∧ Ex H h' ∧ h' p = some (.lst (rs'.map V.int)) ∧ rs'.length ≤ 100 * k + m)
        ⟨_, rs, c0, rfl, e2, f2, by omega⟩ ?_ ?_
      · rintro m σ h' hm ⟨z', rs', c, rfl, e3, f3, z3⟩
        walk_at "r"
        refine w_I (.inr ⟨by decide, by decide⟩) ?_
        walk_at "r"
        refine w_I (.inl ⟨by decide, by decide⟩) ?_
        walk_at "r"
        walk_at "r"
        refine w_I (by decide) ?_
        walk_at "r"
        refine ⟨a_ty f3, ?_⟩
        walk_at "r"
        refine w_I ⟨by decide, by decide⟩ ?_
        walk_at "r"
        refine w_I (by decide) ?_
        walk_at "r"
        have hm' : m < 10 := hm
        have hk' : k < 63 := by omega
        refine a_app f3 (by rw [List.length_map]; omega) ?_
        walk_at "r"
        exact ⟨_, rs' ++ [_], _, rfl, e3.mut n1, by rw [upd_same, map_snoc], by rw [List.length_append]; simp; omega⟩
      · rintro σ h' ⟨z', rs', c, rfl, e3, f3, z3⟩
        have z4 : rs'.length ≤ 100 * k + 10 := z3
        exact ⟨_, _, _, rs', rfl, e3, f3, by omega⟩
  · rintro σ h ⟨x, y, z, rs, rfl, e2, f2, z2⟩
    walk_at "r"
    exact q p h rs n1 e2 f2 (by omega)
def pDraw : Sp := fun vs H Q _ => ∃ (b r : Addr) (m : Int), vs = [.ref b, .int m] ∧ Bx H b r ∧ 0 < m ∧ ∀ v H', 0 ≤ v → v < m → Ks [b] H H' → Bx H' b r → Q (.int v) H'
theorem ap_draw {H : Hp} {Q : VK} {E : XK} {b r : Addr} {m : Int} (h : Bx H b r) (hm : 0 < m) (k : ∀ v H', 0 ≤ v → v < m → Ks [b] H H' → Bx H' b r → Q (.int v) H') : pDraw [.ref b, .int m] H Q E := ⟨b, r, m, rfl, h, hm, k⟩
theorem ok__law_draw (T : Tx K mg) : FnOk P w K mg base CX0 1 T.a__law_draw T.e__law_draw p__law_draw pDraw := by
  refine T.d__law_draw.F.ok sc__law_draw (fun vs H Q E h => ?_) (fun cdv A outer s H vs Q E hr h => ?_)
  · obtain ⟨b, r, m, rfl, _⟩ := h
    rfl
  obtain ⟨b, r, m, rfl, hb, hm, q⟩ := h
  have nrb := bx_rb hb
  obtain ⟨n, ns, hb, hR, hz⟩ := hb
  refine ⟨_, (pss_cons (ps_set (i := 2) sc__law_draw.nd rfl (.inl rfl) (pe_ix (ixL K) (pv 0) pe_int (fun _ _ => rfl)))
    (pss_cons (ps_asg (pe_op op_add (pv 2) pe_int) (pg_sub (pv 0) pe_int set_list))
    (pss_cons (ps_if (pt_cmpR op_lt (pv 2) (pe_callB (lenK K) (by rfl) T.b_len PySem.boot_len (pa_cons (pe_ix (ixL K) (pv 0) pe_int (fun _ _ => rfl)) pa_nil)) (nomark _)) (pss_one (ps_ret (pe_op op_mod (pe_callTy k_int (by rfl) T.b_int (by decide +kernel) (pa_cons (pe_ix (ixL K) (pe_ix (ixL K) (pv 0) pe_int (fun _ _ => rfl)) (pv 2) (fun _ _ => rfl)) pa_nil)) (pv 1)))) pss_nil)
    (pss_one (ps_ret (pe_op op_mod (pe_callTy k_int (by rfl) T.b_int (by decide +kernel) (pa_cons (pe_op op_add (pe_op op_mul (pv 2) pe_int) pe_int) pa_nil)) (pv 1))))))), ?_⟩
  walk_at "r"
  refine a_ixL (v := .int n) (SqL.of hb) rfl ?_
  walk_at "r"
  refine a_setL (j := 1) hb (show 1 < 2 by decide) ?_
  have fb : upd H b (.lst [.ref r, .int ((n : Int) + 1)]) b = some (.lst [.ref r, .int (((n + 1 : Nat)) : Int)]) := by rw [upd_same]; simp
  have fr : upd H b (.lst [.ref r, .int ((n : Int) + 1)]) r = some (.lst (ns.map V.int)) := by rw [upd_ne nrb]; exact hR
  have ek : Ks [b] H (upd H b (.lst [.ref r, .int ((n : Int) + 1)])) := (Ks.refl _ _).upd (by simp)
  change tSeq _ _ _ _ (upd H b (.lst [.ref r, .int ((n : Int) + 1)]))
  generalize upd H b (.lst [.ref r, .int ((n : Int) + 1)]) = H1 at fb fr ek ⊢
  have hB : Bx H1 b r := ⟨n + 1, ns, fb, fr, hz⟩
  walk_at "r"
  refine a_ixL (v := .ref r) (SqL.of fb) rfl ?_
  walk_at "r"
  refine a_lenL (SqL.of fr) ?_
  walk_at "r"
  refine ite2 (fun c => ?_) (fun c => ?_)
  · have c' : (n : Int) < ((ns.map V.int).length : Int) := of_decide_eq_true c
    rw [List.length_map] at c'
    have hn : n < ns.length := by omega
    walk_at "r"
    refine a_ixL (v := .ref r) (SqL.of fb) rfl ?_
    walk_at "r"
    refine a_ixL (v := .int ns[n]) (SqL.of fr) (atI_nat (by rw [List.getElem?_map]; simp [hn])) ?_
    walk_at "r"
    refine w_I hm ?_
    exact q _ H1 (Int.emod_nonneg _ (by omega)) (Int.emod_lt_of_pos _ hm) ek hB
  · walk_at "r"
    refine w_I (.inr ⟨by decide, by decide⟩) ?_
    walk_at "r"
    walk_at "r"
    refine w_I hm ?_
    exact q _ H1 (Int.emod_nonneg _ (by omega)) (Int.emod_lt_of_pos _ hm) ek hB

/-! ### the program: within, behind, converts, are_alike, plain -/
theorem fn_none {k : Nat} {f : Addr} {fd : FuncData} {ps : List Str} {sp : Sp} (no : ∀ vs H Q E, ¬ sp vs H Q E) : FnOk P w K mg base CX0 k f fd ps sp :=
  ⟨fun vs H Q E h => absurd h (no vs H Q E), fun _ _ _ _ _ _ _ _ _ _ _ _ _ h => absurd h (no _ _ _ _)⟩
/-- a loop over a written pair -/
theorem lp_two {p : Addr} {a b : V} {σ : L2.St} {H : Hp} {g : TG} {ts : TS} {D : Ends} (ht : ∀ h, SqT K h p [a, b]) (P0 P1 P2 : L2.St → Hp → Prop) (h0 : P0 σ H)
    (s0 : ∀ s h, P0 s h → g a s h fun s2 h2 => ts { D with nx := P1, ct := P1, bk := D.nx } s2 h2) (s1 : ∀ s h, P1 s h → g b s h fun s2 h2 => ts { D with nx := P2, ct := P2, bk := D.nx } s2 h2)
    (hd : ∀ s h, P2 s h → D.nx s h) : LoopG (Itt K p) g ts D σ H := by
  refine lp_tup (xs := [a, b]) (fun k => match k with | 0 => P0 | 1 => P1 | _ => P2) h0 (fun k s h _ _ => ht h) (fun k x s h hx hp => ?_) hd
  match k, hx, hp with
  | 0, hx, hp => exact (Option.some.inj hx) ▸ s0 s h hp
  | 1, hx, hp => exact (Option.some.inj hx) ▸ s1 s h hp
  | k + 2, hx, _ => simp at hx

theorem lv_get {ls : List Bool} {i : Nat} {v : V} (h : (lv ls)[i]? = some v) : ∃ b, ls[i]? = some b ∧ v = .str (ltr b) := by
  unfold lv at h
  rw [List.getElem?_map] at h
  cases e : ls[i]? with
  | none => rw [e] at h; cases h
  | some x => rw [e] at h; exact ⟨x, rfl, (Option.some.inj h).symm⟩

def pWithin : Sp := fun vs H Q _ => ∃ a b : R, vs = [.str a.s, .str b.s] ∧ Q (.bl (wi a b)) H
theorem ok_within (T : Tx K mg) : FnOk P w K mg base CX0 1 T.a_within T.e_within p_within pWithin := by
  refine T.d_within.F.ok sc_within (fun vs H Q E h => ?_) (fun cdv A outer s H vs Q E hr h => ?_)
  · obtain ⟨a, b, rfl, _⟩ := h
    rfl
  obtain ⟨a, b, rfl, q⟩ := h
  refine ⟨_, (pss_cons (ps_for PassesOwn.never rfl (ptK K (pe_glob (v := .ref T.a_LETTERS) (by rfl) T.m_LETTERS rfl)) (pg_name (i := 2) sc_within.nd rfl (.inl rfl)) (pss_one (ps_if (PW.pt (pw_and (pt_cmpR k_inS (pv 2) (pv 0) (by rfl)) (pw_and1 (pt_cmpR k_ninS (pv 2) (pv 1) (by rfl))))) (pss_one (ps_ret pe_bl)) pss_nil)))
    (pss_one (ps_ret pe_bl))), ?_⟩
  walk_at "r"
  refine r_T (T.t_LETTERS _) ?_
  refine lp_two T.t_LETTERS (fun σ h => σ = [some (.str a.s), some (.str b.s), none] ∧ h = H) (fun σ h => σ = [some (.str a.s), some (.str b.s), some (.str "r")] ∧ h = H ∧ (!a.hr || b.hr) = true) (fun σ h => h = H ∧ (!a.hr || b.hr) = true ∧ (!a.hw || b.hw) = true) ⟨rfl, rfl⟩ ?_ ?_ ?_
  · rintro σ h ⟨rfl, rfl⟩
    walk_at "r"
    refine a_inS (in_r a) ?_
    walk_at "r"
    refine ite2 (fun c => ?_) (fun c => ?_)
    · walk_at "r"
      refine a_ninS (in_r b) ?_
      walk_at "r"
      refine ite2 (fun d => ?_) (fun d => ?_)
      · walk_at "r"
        have e : wi a b = false := by
          unfold wi
          rw [c, (by simpa using d : b.hr = false)]
          rfl
        rw [← e]
        exact q
      · walk_at "r"
        exact ⟨rfl, rfl, by rw [c, (by simpa using d : b.hr = true)]; rfl⟩
    · walk_at "r"
      exact ⟨rfl, rfl, by rw [(by simpa using c : a.hr = false)]; rfl⟩
  · rintro σ h ⟨rfl, rfl, g1⟩
    walk_at "r"
    refine a_inS (in_w a) ?_
    walk_at "r"
    refine ite2 (fun c => ?_) (fun c => ?_)
    · walk_at "r"
      refine a_ninS (in_w b) ?_
      walk_at "r"
      refine ite2 (fun d => ?_) (fun d => ?_)
      · walk_at "r"
        have e : wi a b = false := by
          unfold wi
          rw [c, (by simpa using d : b.hw = false)]
          simp
        rw [← e]
        exact q
      · walk_at "r"
        exact ⟨rfl, g1, by rw [c, (by simpa using d : b.hw = true)]; rfl⟩
    · walk_at "r"
      exact ⟨rfl, g1, by rw [(by simpa using c : a.hw = false)]; rfl⟩
  · rintro σ h ⟨rfl, g1, g2⟩
    walk_at "r"
    have e : wi a b = true := by
      unfold wi
      rw [g1, g2]
      rfl
    rw [← e]
    exact q

def pIs : Sp := fun vs H Q _ => ∃ x y : Bool, vs = [.bl x, .bl y] ∧ Q (.bl (x == y)) H
theorem ok__law_is (T : Tx K mg) : FnOk P w K mg base CX0 1 T.a__law_is T.e__law_is p__law_is pIs := by
  refine T.d__law_is.F.ok sc__law_is (fun vs H Q E h => ?_) (fun cdv A outer s H vs Q E hr h => ?_)
  · obtain ⟨x, y, rfl, _⟩ := h
    rfl
  obtain ⟨x, y, rfl, q⟩ := h
  refine ⟨_, (pss_one (ps_ret (pe_and (pe_callB (isiK K) (by rfl) T.b_isinstance (by decide +kernel) (pa_cons (pv 0) (pa_cons (pe_bltn (v := .ty "bool") (by rfl) T.b_bool (by decide +kernel) rfl) pa_nil))) (pe_one (pe_cmpR op_eq (pv 0) (pv 1) (nomark _)))))), ?_⟩
  walk_at "r"
  refine ⟨.bl x, .ty "bool", _, _, true, rfl, .ty _, .base (.bl x), kit_ty (by decide +kernel), ?_⟩
  walk_at "r"
  exact q

/-! ### the program: rights, types -/
abbrev rs4 : List V := [.str "rw", .str "r", .str "w", .str "-"]
/-- which datum is a right -/
def irD : PyData → Bool
  | .str x => inV (.str x) rs4
  | _ => false
theorem dp_ty {H : Hp} {v : V} {d : PyData} (h : Dp K H v d) : ∃ T, TyB K H v T ∧ ((∃ x, v = .str x ∧ d = .str x ∧ T = "str") ∨ (T ≠ "str" ∧ irD d = false)) := by
  cases h with
  | non => exact ⟨_, .non, .inr ⟨by decide, rfl⟩⟩
  | bl b => exact ⟨_, .bl b, .inr ⟨by decide, rfl⟩⟩
  | int i => exact ⟨_, .int i, .inr ⟨by decide, rfl⟩⟩
  | str x => exact ⟨_, .str x, .inl ⟨x, rfl, rfl, rfl⟩⟩
  | lst h _ => exact ⟨_, .lst h, .inr ⟨by decide, rfl⟩⟩
  | tup h _ => exact ⟨_, .tup h, .inr ⟨by decide, rfl⟩⟩
def pIr (K : PySem.W.Frag) : Sp := fun vs H Q _ => ∃ v d, vs = [v] ∧ Dp K H v d ∧ Q (.bl (irD d)) H
theorem ok_is_right (T : Tx K mg) : FnOk P w K mg base CX0 1 T.a_is_right T.e_is_right p_is_right (pIr K) := by
  refine T.d_is_right.F.ok sc_is_right (fun vs H Q E h => ?_) (fun cdv A outer s H vs Q E hr h => ?_)
  · obtain ⟨v, d, rfl, _⟩ := h
    rfl
  obtain ⟨v, d, rfl, hd, q⟩ := h
  refine ⟨_, (pss_one (ps_ret (pe_and (pe_cmpR k_isTy (pe_callTy (typK K) (by rfl) T.b_type (by decide +kernel) (pa_cons (pv 0) pa_nil)) (pe_bltn (v := .ty "str") (by rfl) T.b_str (by decide +kernel) rfl) (nomark _)) (pe_one (pe_cmpR (inK K) (pv 0) (pe_glob (v := .ref T.a_RIGHTS) (by rfl) T.m_RIGHTS rfl) (by rfl)))))), ?_⟩
  obtain ⟨ty, h1, h2⟩ := dp_ty hd
  walk_at "r"
  refine ⟨v, ty, rfl, h1, ?_⟩
  walk_at "r"
  rcases h2 with ⟨x, rfl, rfl, rfl⟩ | ⟨n, e⟩
  · refine ite2 (fun _ => ?_) (fun c => absurd (by decide) c)
    walk_at "r"
    exact a_inT (T.t_RIGHTS _) rfl rfl q
  · refine ite2 (fun c => absurd (of_decide_eq_true c) n) (fun _ => ?_)
    rw [e] at q
    exact q
def vtD (ds : List PyData) : Bool := decide (ds.length ≤ 6) && ds.all irD
theorem dpa_len {H : Hp} : ∀ {xs : List V} {ds : List PyData}, DpAll K H xs ds → xs.length = ds.length
  | _, _, .nil => rfl
  | _, _, .cons _ t => congrArg (· + 1) (dpa_len t)
theorem dpa_at {H : Hp} : ∀ {xs : List V} {ds : List PyData} {i : Nat} {v : V}, DpAll K H xs ds → xs[i]? = some v → ∃ d, ds[i]? = some d ∧ Dp K H v d
  | _, _, _, _, .nil, e => by simp at e
  | _, _, 0, _, .cons h _, e => by
    cases Option.some.inj e
    exact ⟨_, rfl, h⟩
  | _, _, i + 1, _, .cons _ t, e => dpa_at (i := i) t e
mutual
theorem dp_ex {H H' : Hp} (e : Ex H H') : ∀ {v : V} {d : PyData}, Dp K H v d → Dp K H' v d
  | _, _, .non => .non
  | _, _, .bl b => .bl b
  | _, _, .int i => .int i
  | _, _, .str x => .str x
  | _, _, .lst h t => .lst (ex_sl h e) (dpa_ex e t)
  | _, _, .tup h t => .tup (ex_st h e) (dpa_ex e t)
theorem dpa_ex {H H' : Hp} (e : Ex H H') : ∀ {xs : List V} {ds : List PyData}, DpAll K H xs ds → DpAll K H' xs ds
  | _, _, .nil => .nil
  | _, _, .cons h t => .cons (dp_ex e h) (dpa_ex e t)
end
def pVt (K : PySem.W.Frag) (f : List PyData → Bool) : Sp := fun vs H Q _ => ∃ v, vs = [v] ∧ ((∃ T, TyB K H v T ∧ T ≠ "tuple" ∧ RV1 (.bl false) H Q) ∨ (∃ p xs ds, v = .ref p ∧ SqT K H p xs ∧ DpAll K H xs ds ∧ xs.length ≤ 50 ∧ RV1 (.bl (f ds)) H Q))
theorem take_all {ds : List PyData} {k : Nat} {d : PyData} (h : ds[k]? = some d) : (ds.take (k + 1)).map irD = (ds.take k).map irD ++ [irD d] := by
  rw [List.take_add_one, h, List.map_append]
  rfl
theorem ok_is_value_type (T : Tx K mg) : FnOk P w K mg base CX0 2 T.a_is_value_type T.e_is_value_type p_is_value_type (pVt K vtD) := by
  refine T.d_is_value_type.F.ok sc_is_value_type (fun vs H Q E h => ?_) (fun cdv A outer s H vs Q E hr h => ?_)
  · obtain ⟨v, rfl, _⟩ := h
    rfl
  obtain ⟨v, rfl, h⟩ := h
  refine ⟨_, (pss_cons (ps_if (PW.pt (pw_or (pt_cmpR k_notTy (pe_callTy (typK K) (by rfl) T.b_type (by decide +kernel) (pa_cons (pv 0) pa_nil)) (pe_bltn (v := .ty "tuple") (by rfl) T.b_tuple (by decide +kernel) rfl) (nomark _)) (pw_or1 (pt_cmpR op_gt (pe_callB (lenK K) (by rfl) T.b_len PySem.boot_len (pa_cons (pv 0) pa_nil)) (pe_glob (v := .int 6) (by rfl) T.m_MOST_RIGHTS ⟨_, rfl⟩) (nomark _))))) (pss_one (ps_ret pe_bl)) pss_nil)
    (pss_one (ps_ret (pe_callB (allK K) (by rfl) T.b_all (by decide +kernel) (pa_cons (pe_lc (own := [("part", 1)]) (g := gName 1) rfl sc_is_value_type.nd  (ptK K (pv 0)) (blkOk_by (own := [("part", 1)]) (N := n_is_value_type) (sc := defScope s_is_value_type) (by decide +kernel)) (fun _ _ _ _ _ => (pg_name (i := 1) sc_is_value_type.nd rfl (Or.inl rfl))) (fun _ _ _ _ _ => pts_nil) (fun _ _ _ _ _ => (pe_call (ok_is_right T) (hr.mono (by omega)) (by rfl) T.d_is_right.m T.d_is_right.F.kp T.d_is_right.b .nil pass0 (pa_cons (pv 1) pa_nil)))) pa_nil))))), ?_⟩
  rcases h with ⟨ty, h1, h2, q⟩ | ⟨p, xs, ds, rfl, hT, hD, hz, q⟩
  · walk_at "r"
    refine ⟨v, ty, rfl, h1, ?_⟩
    walk_at "r"
    refine ite2 (fun _ => ?_) (fun c => absurd (by simpa using h2) c)
    walk_at "r"
    exact q _ (Ex.refl _)
  · have hlen := dpa_len hD
    walk_at "r"
    refine ⟨.ref p, "tuple", rfl, .tup hT, ?_⟩
    walk_at "r"
    refine ite2 (fun c => absurd c (by decide)) (fun _ => ?_)
    walk_at "r"
    refine a_lenT hT ?_
    walk_at "r"
    refine ite2 (fun c => ?_) (fun c => ?_)
    · walk_at "r"
      have e : vtD ds = false := by
        have := of_decide_eq_true c
        unfold vtD
        rw [decide_eq_false (by omega)]
        rfl
      rw [← e]
      exact q _ (Ex.refl _)
    · have h6 : ds.length ≤ 6 := by
        have := of_decide_eq_false (Bool.eq_false_iff.mpr c)
        omega
      walk_at "r"
      refine c_T hT ?_
      refine cp_tup (xs := xs) (fun l k h => Ex H h ∧ h l = some (.lst (((ds.take k).map irD).map V.bl))) (fun l n => ⟨Ex.new n, upd_same⟩) (fun l k h _ _ g => ex_st hT g.1) ?_ ?_
      · rintro l k x h nl hx ⟨e, f⟩
        obtain ⟨d, hd, dx⟩ := dpa_at hD hx
        walk_at "r"
        refine ⟨rfl, ?_⟩
        walk_at "r"
        refine ⟨x, d, rfl, dp_ex e dx, ?_⟩
        refine ⟨_, f, sz_lt (by rw [List.length_map, List.length_map, List.length_take]; omega), e.mut nl, ?_⟩
        rw [upd_same, take_all hd, List.map_append]
        rfl
      · rintro l h nl ⟨e, f⟩
        walk_at "r"
        rw [hlen, List.take_length] at f
        refine ⟨l, _, rfl, SqL.of f, ?_⟩
        have e2 : vtD ds = (ds.map irD).all id := by
          unfold vtD
          rw [decide_eq_true h6, List.all_map]
          rfl
        rw [← e2]
        exact q _ e
def tyD (ds : List PyData) : Bool := vtD ds && decide (0 < ds.length)
theorem ok_is_type (T : Tx K mg) : FnOk P w K mg base CX0 3 T.a_is_type T.e_is_type p_is_type (pVt K tyD) := by
  refine T.d_is_type.F.ok sc_is_type (fun vs H Q E h => ?_) (fun cdv A outer s H vs Q E hr h => ?_)
  · obtain ⟨v, rfl, _⟩ := h
    rfl
  obtain ⟨v, rfl, h⟩ := h
  refine ⟨_, (pss_one (ps_ret (pe_and (pe_call (ok_is_value_type T) (hr.mono (by omega)) (by rfl) T.d_is_value_type.m T.d_is_value_type.F.kp T.d_is_value_type.b .nil pass0 (pa_cons (pv 0) pa_nil)) (pe_one (pe_cmpR op_gt (pe_callB (lenK K) (by rfl) T.b_len PySem.boot_len (pa_cons (pv 0) pa_nil)) pe_int (nomark _)))))), ?_⟩
  rcases h with ⟨ty, h1, h2, q⟩ | ⟨p, xs, ds, rfl, hT, hD, hz, q⟩
  · walk_at "r"
    refine ⟨v, rfl, .inl ⟨ty, h1, h2, fun H1 e1 => ?_⟩⟩
    walk_at "r"
    exact q _ e1
  · have hlen := dpa_len hD
    walk_at "r"
    refine ⟨.ref p, rfl, .inr ⟨p, xs, ds, rfl, hT, hD, hz, fun H1 e1 => ?_⟩⟩
    walk_at "r"
    refine ite2 (fun c => ?_) (fun c => ?_)
    · walk_at "r"
      refine a_lenT (ex_st hT e1) ?_
      walk_at "r"
      have g := q H1 e1
      unfold tyD at g
      rw [c, Bool.true_and] at g
      have e2 : decide (0 < ds.length) = decide ((0 : Int) < (xs.length : Int)) := by
        rw [hlen]
        by_cases z : 0 < ds.length
        · rw [decide_eq_true z, decide_eq_true (by omega)]
        · rw [decide_eq_false z, decide_eq_false (by omega)]
      rw [e2] at g
      exact g
    · have g := q H1 e1
      unfold tyD at g
      rw [Bool.eq_false_iff.mpr c] at g
      exact g

theorem tv_set (xs : List R) (j : Nat) (x : R) : (tv xs).set j (.str x.s) = tv (xs.set j x) := by unfold tv; rw [List.map_set]
theorem fresh_ks {H H1 : Hp} {b r p : Addr} (g : Bx H1 b r) (e : Ks [b] H H1) (n : H1 p = none) : H p = none := by
  cases z : H p with
  | none => rfl
  | some o =>
    rw [e p o (nin_cons (bx_nb g n).symm nin_nil) z] at n
    cases n
/-- a box beside an object that was new -/
theorem bx_mut {H H1 : Hp} {b r p : Addr} {o : HO} (g : Bx H b r) (n : H p = none) (g1 : Bx H1 b r) : Bx (upd H1 p o) b r :=
  bx_ks (S := [p]) g1 (fun a u m q => by rw [upd_ne (fun z => m (by rw [z]; simp))]; exact q) (nin_cons (bx_nb g n) nin_nil) (nin_cons (bx_nr g n) nin_nil)

/-! ### what is drawn, and which datum each is -/
def GdL (pt : Addr) : List (V × PyData) := [(.str "rw", .str "rw"), (.str "r", .str "r"), (.str "w", .str "w"), (.str "-", .str "-"), (.str "wr", .str "wr"), (.str "", .str ""), (.str "R", .str "R"), (.str "rr", .str "rr"), (.str "rw ", .str "rw "), (.non, .none), (.int 0, .int 0), (.ref pt, .tuple [.str "r"]), (.bl true, .bool true)]
abbrev bads (pt : Addr) : List V := [.str "wr", .str "", .str "R", .str "rr", .str "rw ", .non, .int 0, .ref pt, .bl true]
abbrev ds4 : List PyData := [.str "rw", .str "r", .str "w", .str "-"]
theorem gd_dp {pt : Addr} {x : V × PyData} (h : x ∈ GdL pt) {H : Hp} (ht : SqT K H pt [.str "r"]) : Dp K H x.1 x.2 := by
  simp only [GdL, List.mem_cons, List.not_mem_nil, or_false] at h
  rcases h with rfl | rfl | rfl | rfl | rfl | rfl | rfl | rfl | rfl | rfl | rfl | rfl | rfl
  all_goals first | exact .str _ | exact .non | exact .int _ | exact .bl _ | exact .tup ht (.cons (.str _) .nil)
theorem gd_in {pt : Addr} {x : V × PyData} (h : x ∈ GdL pt) : (ds4.any fun z => PyData.eqv z x.2) = irD x.2 := by
  simp only [GdL, List.mem_cons, List.not_mem_nil, or_false] at h
  rcases h with rfl | rfl | rfl | rfl | rfl | rfl | rfl | rfl | rfl | rfl | rfl | rfl | rfl
  all_goals first | decide +kernel | exact (show (ds4.any fun z => PyData.eqv z (.tuple [.str "r"])) = irD (.tuple [.str "r"]) from by decide +kernel)
theorem gd_sh {pt : Addr} {x : V × PyData} (h : x ∈ GdL pt) : SeqAt.shaped x.2 = true := by
  simp only [GdL, List.mem_cons, List.not_mem_nil, or_false] at h
  rcases h with rfl | rfl | rfl | rfl | rfl | rfl | rfl | rfl | rfl | rfl | rfl | rfl | rfl
  all_goals first | decide +kernel | exact (show SeqAt.shaped (.tuple [.str "r"]) = true from by decide +kernel)
theorem ds4_sh : SeqAt.shaped (.list ds4) = true := by decide +kernel
theorem dp4 {H : Hp} {p : Addr} (h : SqL K H p rs4) : Dp K H (.ref p) (.list ds4) := .lst h (.cons (.str _) (.cons (.str _) (.cons (.str _) (.cons (.str _) .nil))))
theorem a_in4 {H : Hp} {Q : VK} {p pt : Addr} {x : V × PyData} (h : x ∈ GdL pt) (ht : SqT K H pt [.str "r"]) (hp : SqL K H p rs4) (k : Q (.bl (irD x.2)) H) : rInD K x.1 (.ref p) H Q :=
  ⟨x.2, ds4, gd_dp h ht, dp4 hp, gd_sh h, ds4_sh, by rw [gd_in h]; exact k⟩
theorem a_nin4 {H : Hp} {Q : VK} {p pt : Addr} {x : V × PyData} (h : x ∈ GdL pt) (ht : SqT K H pt [.str "r"]) (hp : SqL K H p rs4) (k : Q (.bl (!irD x.2)) H) : rNotInD K x.1 (.ref p) H Q :=
  ⟨x.2, ds4, gd_dp h ht, dp4 hp, gd_sh h, ds4_sh, by rw [gd_in h]; exact k⟩
/-- the places that stay -/
structure Wd (b r pr pb pt : Addr) (h : Hp) : Prop where
  fr : h pr = some (.lst rs4)
  fb : h pb = some (.lst (bads pt))
  ft : h pt = some (.tup [.str "r"])
  bx : Bx h b r
  n1 : pr ≠ b
  n2 : pb ≠ b
  n3 : pt ≠ b
theorem Wd.ex {b r pr pb pt : Addr} {h h' : Hp} (g : Wd b r pr pb pt h) (e : Ex h h') : Wd b r pr pb pt h' := ⟨e _ _ g.fr, e _ _ g.fb, e _ _ g.ft, bx_ex g.bx e, g.n1, g.n2, g.n3⟩
theorem Wd.ks {b r pr pb pt : Addr} {h h' : Hp} (g : Wd b r pr pb pt h) (e : Ks [b] h h') (bx : Bx h' b r) : Wd b r pr pb pt h' :=
  ⟨e _ _ (nin_cons g.n1 nin_nil) g.fr, e _ _ (nin_cons g.n2 nin_nil) g.fb, e _ _ (nin_cons g.n3 nin_nil) g.ft, bx, g.n1, g.n2, g.n3⟩
theorem Wd.mut {b r pr pb pt p : Addr} {h h' : Hp} {o : HO} (g : Wd b r pr pb pt h) (n : h p = none) (g' : Wd b r pr pb pt h') : Wd b r pr pb pt (upd h' p o) :=
  ⟨by rw [upd_ne (ne_of_none g.fr n)]; exact g'.fr, by rw [upd_ne (ne_of_none g.fb n)]; exact g'.fb, by rw [upd_ne (ne_of_none g.ft n)]; exact g'.ft, bx_mut g.bx n g'.bx, g.n1, g.n2, g.n3⟩
def PdOk (pt : Addr) (pd : List (V × PyData)) : Prop := ∀ x ∈ pd, x ∈ GdL pt
theorem pd_dpa {pt : Addr} {H : Hp} (ht : SqT K H pt [.str "r"]) : ∀ {pd : List (V × PyData)}, PdOk pt pd → DpAll K H (pd.map (·.1)) (pd.map (·.2))
  | [], _ => .nil
  | x :: pd, g => .cons (gd_dp (g x List.mem_cons_self) ht) (pd_dpa ht fun y hy => g y (List.mem_cons_of_mem _ hy))
theorem wi_len (x y : R) : decide ((((([true, false].filter fun l => x.has l && !y.has l).map fun l => V.str (ltr l)).length : Nat) : Int) = 0) = wi x y := by cases x <;> cases y <;> decide
theorem pick21 (pt : Addr) (v : Int) (h0 : 0 ≤ v) (h1 : v < 21) : ∃ x ∈ GdL pt, atI (rs4 ++ rs4 ++ rs4 ++ bads pt) v = some x.1 := by
  obtain ⟨k, rfl⟩ : ∃ k : Nat, v = (k : Int) := ⟨v.toNat, by omega⟩
  have hk : k < 21 := by omega
  have g : ∀ k : Nat, k < 21 → ∃ x ∈ GdL pt, (rs4 ++ rs4 ++ rs4 ++ bads pt)[k]? = some x.1 := by
    intro k hk
    match k, hk with
    | 0, _ => exact ⟨(.str "rw", .str "rw"), by simp [GdL], rfl⟩
    | 1, _ => exact ⟨(.str "r", .str "r"), by simp [GdL], rfl⟩
    | 2, _ => exact ⟨(.str "w", .str "w"), by simp [GdL], rfl⟩
    | 3, _ => exact ⟨(.str "-", .str "-"), by simp [GdL], rfl⟩
    | 4, _ => exact ⟨(.str "rw", .str "rw"), by simp [GdL], rfl⟩
    | 5, _ => exact ⟨(.str "r", .str "r"), by simp [GdL], rfl⟩
    | 6, _ => exact ⟨(.str "w", .str "w"), by simp [GdL], rfl⟩
    | 7, _ => exact ⟨(.str "-", .str "-"), by simp [GdL], rfl⟩
    | 8, _ => exact ⟨(.str "rw", .str "rw"), by simp [GdL], rfl⟩
    | 9, _ => exact ⟨(.str "r", .str "r"), by simp [GdL], rfl⟩
    | 10, _ => exact ⟨(.str "w", .str "w"), by simp [GdL], rfl⟩
    | 11, _ => exact ⟨(.str "-", .str "-"), by simp [GdL], rfl⟩
    | 12, _ => exact ⟨(.str "wr", .str "wr"), by simp [GdL], rfl⟩
    | 13, _ => exact ⟨(.str "", .str ""), by simp [GdL], rfl⟩
    | 14, _ => exact ⟨(.str "R", .str "R"), by simp [GdL], rfl⟩
    | 15, _ => exact ⟨(.str "rr", .str "rr"), by simp [GdL], rfl⟩
    | 16, _ => exact ⟨(.str "rw ", .str "rw "), by simp [GdL], rfl⟩
    | 17, _ => exact ⟨(.non, .none), by simp [GdL], rfl⟩
    | 18, _ => exact ⟨(.int 0, .int 0), by simp [GdL], rfl⟩
    | 19, _ => exact ⟨(.ref pt, .tuple [.str "r"]), by simp [GdL], rfl⟩
    | 20, _ => exact ⟨(.bl true, .bool true), by simp [GdL], rfl⟩
    | n + 21, h => omega
  obtain ⟨x, h1, h2⟩ := g k hk
  exact ⟨x, h1, atI_nat h2⟩
theorem pick4 (pt : Addr) (v : Int) (h0 : 0 ≤ v) (h1 : v < 4) : ∃ x ∈ GdL pt, atI rs4 v = some x.1 := by
  have h : v = 0 ∨ v = 1 ∨ v = 2 ∨ v = 3 := by omega
  rcases h with rfl | rfl | rfl | rfl
  · exact ⟨(.str "rw", .str "rw"), by simp [GdL], atI_nat (j := 0) rfl⟩
  · exact ⟨(.str "r", .str "r"), by simp [GdL], atI_nat (j := 1) rfl⟩
  · exact ⟨(.str "w", .str "w"), by simp [GdL], atI_nat (j := 2) rfl⟩
  · exact ⟨(.str "-", .str "-"), by simp [GdL], atI_nat (j := 3) rfl⟩
theorem all13 (pt : Addr) (k : Nat) (v : V) (h : (rs4 ++ bads pt)[k]? = some v) : ∃ d, (v, d) ∈ GdL pt := by
  have hm := List.mem_of_getElem? h
  simp only [List.cons_append, List.nil_append, List.mem_cons, List.not_mem_nil, or_false] at hm
  rcases hm with rfl | rfl | rfl | rfl | rfl | rfl | rfl | rfl | rfl | rfl | rfl | rfl | rfl
  · exact ⟨.str "rw", by simp [GdL]⟩
  · exact ⟨.str "r", by simp [GdL]⟩
  · exact ⟨.str "w", by simp [GdL]⟩
  · exact ⟨.str "-", by simp [GdL]⟩
  · exact ⟨.str "wr", by simp [GdL]⟩
  · exact ⟨.str "", by simp [GdL]⟩
  · exact ⟨.str "R", by simp [GdL]⟩
  · exact ⟨.str "rr", by simp [GdL]⟩
  · exact ⟨.str "rw ", by simp [GdL]⟩
  · exact ⟨.none, by simp [GdL]⟩
  · exact ⟨.int 0, by simp [GdL]⟩
  · exact ⟨.tuple [.str "r"], by simp [GdL]⟩
  · exact ⟨.bool true, by simp [GdL]⟩
/-! ### the law -/
def spLaw (K : PySem.W.Frag) : Sp := fun vs H Q _ => ∃ (a : Addr) (ns : List Int), vs = [.ref a] ∧ SqL K H a (ns.map V.int) ∧ ns.length ≤ 63 ∧ ∀ H', Q (.bl true) H'
theorem ok_law {f : Addr} {fd : FuncData} (T : Tx K mg) (F : Fun K "law" "law" s_law f fd) : FnOk P w K mg base CX0 10 f fd ["script"] (spLaw K) := by
  refine F.ok sc_law (fun vs H Q E h => ?_) (fun cdv A outer s H vs Q E hr h => ?_)
  · obtain ⟨a, ns, rfl, _⟩ := h
    rfl
  obtain ⟨a, ns, rfl, hS, h63, q⟩ := h
  refine ⟨_, (pss_cons (ps_set (i := 1) sc_law.nd rfl (.inr rfl) (pe_lst (pa_cons (pe_call (ok__law_row T) (hr.mono (by omega)) (by rfl) T.d__law_row.m T.d__law_row.F.kp T.d__law_row.b .nil pass0 (pa_cons (pv 0) (pa_cons pe_int (pa_cons pe_int pa_nil)))) (pa_cons pe_int pa_nil))))
    (pss_cons (ps_set (i := 2) sc_law.nd rfl (.inr rfl) (pe_lst (pa_cons pe_str (pa_cons pe_str (pa_cons pe_str (pa_cons pe_str pa_nil))))))
    (pss_cons (ps_set (i := 3) sc_law.nd rfl (.inr rfl) (pe_lst (pa_cons pe_str (pa_cons pe_str (pa_cons pe_str (pa_cons pe_str (pa_cons pe_str (pa_cons pe_non (pa_cons pe_int (pa_cons (pe_tup (pa_cons pe_str pa_nil)) (pa_cons pe_bl pa_nil)))))))))))
    (pss_cons (ps_for PassesOwn.never rfl (plK K (pe_op op_cat (pv 2) (pv 3))) (pg_name (i := 4) sc_law.nd rfl (.inl rfl)) (pss_one (ps_if (pt_not (pt_val (pe_call (ok__law_is T) (hr.mono (by omega)) (by rfl) T.d__law_is.m T.d__law_is.F.kp T.d__law_is.b .nil pass0 (pa_cons (pe_call (ok_is_right T) (hr.mono (by omega)) (by rfl) T.d_is_right.m T.d_is_right.F.kp T.d_is_right.b .nil pass0 (pa_cons (pv 4) pa_nil)) (pa_cons (pe_cmpR (inDK K (hd_of hr)) (pv 4) (pv 2) (by rfl)) pa_nil))))) (pss_one (ps_ret pe_bl)) pss_nil)))
    (pss_cons (ps_for PassesOwn.never rfl (plK K (pv 2)) (pg_name (i := 5) sc_law.nd rfl (.inr rfl)) (pss_one (ps_for PassesOwn.never rfl (plK K (pv 2)) (pg_name (i := 6) sc_law.nd rfl (.inr rfl)) (pss_cons (ps_set (i := 7) sc_law.nd rfl (.inl rfl) (pe_cmpR op_eq (pe_callB (lenK K) (by rfl) T.b_len PySem.boot_len (pa_cons (pe_lc (own := [("letter", 15)]) (g := gName 15) rfl sc_law.nd  (plK K (pe_lst (pa_cons pe_str (pa_cons pe_str pa_nil)))) (blkOk_by (own := [("letter", 15)]) (N := n_law) (sc := defScope s_law) (by decide +kernel)) (fun _ _ _ _ _ => (pg_name (i := 15) sc_law.nd rfl (Or.inl rfl))) (fun _ _ _ _ _ => (pts_one (PW.pt (pw_and (pt_cmpR k_inS (pv 15) (pv 5) (by rfl)) (pw_and1 (pt_cmpR k_ninS (pv 15) (pv 6) (by rfl))))))) (fun _ _ _ _ _ => (pv 15))) pa_nil)) pe_int (nomark _)))
    (pss_one (ps_if (pt_not (pt_val (pe_call (ok__law_is T) (hr.mono (by omega)) (by rfl) T.d__law_is.m T.d__law_is.F.kp T.d__law_is.b .nil pass0 (pa_cons (pe_call (ok_within T) (hr.mono (by omega)) (by rfl) T.d_within.m T.d_within.F.kp T.d_within.b .nil pass0 (pa_cons (pv 5) (pa_cons (pv 6) pa_nil))) (pa_cons (pv 7) pa_nil))))) (pss_one (ps_ret pe_bl)) pss_nil))))))
    (pss_cons (ps_for PassesOwn.never rfl (pi_range1 (by rfl) T.b_range (pa_cons pe_int pa_nil)) (pg_name (i := 8) sc_law.nd rfl (.inl rfl)) (pss_cons (ps_set (i := 9) sc_law.nd rfl (.inl rfl) (pe_call (ok__law_draw T) (hr.mono (by omega)) (by rfl) T.d__law_draw.m T.d__law_draw.F.kp T.d__law_draw.b .nil pass0 (pa_cons (pv 1) (pa_cons pe_int pa_nil))))
    (pss_cons (ps_setLc (i := 10) (own := [("k", 13)]) (g := gName 13) rfl sc_law.nd rfl rfl (sw_true rfl rfl rfl (by decide +kernel)) (pi_range1 (by rfl) T.b_range (pa_cons (pv 9) pa_nil)) (blkOk_by (own := [("k", 13)]) (N := n_law) (sc := defScope s_law) (by decide +kernel)) (fun _ _ _ _ _ => (pg_name (i := 13) sc_law.nd rfl (Or.inl rfl))) (fun _ _ _ _ _ => pts_nil) (fun _ _ _ _ _ => (pe_ix (ixL K) (pe_op op_cat (pe_op op_cat (pe_op op_cat (pv 2) (pv 2)) (pv 2)) (pv 3)) (pe_op op_mod (pe_callTy k_int (by rfl) T.b_int (by decide +kernel) (pa_cons (pe_call (ok__law_draw T) (hr.mono (by omega)) (by rfl) T.d__law_draw.m T.d__law_draw.F.kp T.d__law_draw.b .nil pass0 (pa_cons (pv 1) (pa_cons (pe_op op_add pe_int (pe_op op_mul pe_int (pe_callTy k_int (by rfl) T.b_int (by decide +kernel) (pa_cons (pe_cmpR op_gt (pe_call (ok__law_draw T) (hr.mono (by omega)) (by rfl) T.d__law_draw.m T.d__law_draw.F.kp T.d__law_draw.b .nil pass0 (pa_cons (pv 1) (pa_cons pe_int pa_nil))) pe_int (nomark _)) pa_nil)))) pa_nil))) pa_nil)) pe_int) (fun _ _ => rfl))))
    (pss_cut (ps_if (pt_cmpR op_gt (pe_call (ok__law_draw T) (hr.mono (by omega)) (by rfl) T.d__law_draw.m T.d__law_draw.F.kp T.d__law_draw.b .nil pass0 (pa_cons (pv 1) (pa_cons pe_int pa_nil))) pe_int (nomark _)) (pss_one (ps_setLc (i := 10) (own := [("k", 13)]) (g := gName 13) rfl sc_law.nd rfl rfl (sw_true rfl rfl rfl (by decide +kernel)) (pi_range1 (by rfl) T.b_range (pa_cons (pv 9) pa_nil)) (blkOk_by (own := [("k", 13)]) (N := n_law) (sc := defScope s_law) (by decide +kernel)) (fun _ _ _ _ _ => (pg_name (i := 13) sc_law.nd rfl (Or.inl rfl))) (fun _ _ _ _ _ => pts_nil) (fun _ _ _ _ _ => (pe_ix (ixL K) (pv 2) (pe_call (ok__law_draw T) (hr.mono (by omega)) (by rfl) T.d__law_draw.m T.d__law_draw.F.kp T.d__law_draw.b .nil pass0 (pa_cons (pv 1) (pa_cons pe_int pa_nil))) (fun _ _ => rfl))))) pss_nil)
    (pss_cons (ps_set (i := 11) sc_law.nd rfl (.inl rfl) (pe_cmpR op_eq (pe_callB (lenK K) (by rfl) T.b_len PySem.boot_len (pa_cons (pe_lc (own := [("part", 14)]) (g := gName 14) rfl sc_law.nd  (plK K (pv 10)) (blkOk_by (own := [("part", 14)]) (N := n_law) (sc := defScope s_law) (by decide +kernel)) (fun _ _ _ _ _ => (pg_name (i := 14) sc_law.nd rfl (Or.inl rfl))) (fun _ _ _ _ _ => (pts_one (pt_cmpR (ninDK K (hd_of hr)) (pv 14) (pv 2) (by rfl)))) (fun _ _ _ _ _ => (pv 14))) pa_nil)) pe_int (nomark _)))
    (pss_one (ps_for PassesOwn.never rfl (plK K (pe_lst (pa_cons (pe_callTy (tupFK K) (by rfl) T.b_tuple (by decide +kernel) (pa_cons (pv 10) pa_nil)) (pa_cons (pe_callTy (lstK K) (by rfl) T.b_list (by decide +kernel) (pa_cons (pv 10) pa_nil)) pa_nil)))) (pg_name (i := 4) sc_law.nd rfl (.inl rfl)) (pss_cut (ps_set (i := 12) sc_law.nd rfl (.inl rfl) (pe_and (pe_callB (isiK K) (by rfl) T.b_isinstance (by decide +kernel) (pa_cons (pv 4) (pa_cons (pe_bltn (v := .ty "tuple") (by rfl) T.b_tuple (by decide +kernel) rfl) pa_nil))) (pe_and (pv 11) (pe_one (pe_cmpR op_le (pv 9) pe_int (nomark _))))))
    (pss_one (ps_if (PW.pt (pw_or (pt_not (pt_val (pe_call (ok__law_is T) (hr.mono (by omega)) (by rfl) T.d__law_is.m T.d__law_is.F.kp T.d__law_is.b .nil pass0 (pa_cons (pe_call (ok_is_value_type T) (hr.mono (by omega)) (by rfl) T.d_is_value_type.m T.d_is_value_type.F.kp T.d_is_value_type.b .nil pass0 (pa_cons (pv 4) pa_nil)) (pa_cons (pv 12) pa_nil))))) (pw_or1 (pt_not (pt_val (pe_call (ok__law_is T) (hr.mono (by omega)) (by rfl) T.d__law_is.m T.d__law_is.F.kp T.d__law_is.b .nil pass0 (pa_cons (pe_call (ok_is_type T) (hr.mono (by omega)) (by rfl) T.d_is_type.m T.d_is_type.F.kp T.d_is_type.b .nil pass0 (pa_cons (pv 4) pa_nil)) (pa_cons (pe_and (pv 12) (pe_one (pe_cmpR op_gt (pv 9) pe_int (nomark _)))) pa_nil)))))))) (pss_one (ps_ret pe_bl)) pss_nil))))))))))
    (pss_cons (ps_for PassesOwn.never rfl (plK K (pe_lst (pa_cons pe_non (pa_cons pe_int (pa_cons pe_str (pa_cons (pe_tup (pa_cons (pe_tup pa_nil) pa_nil)) (pa_cons pe_dnewK pa_nil))))))) (pg_name (i := 4) sc_law.nd rfl (.inl rfl)) (pss_one (ps_if (PW.pt (pw_or (pt_cmpR op_notBl (pe_call (ok_is_type T) (hr.mono (by omega)) (by rfl) T.d_is_type.m T.d_is_type.F.kp T.d_is_type.b .nil pass0 (pa_cons (pv 4) pa_nil)) pe_bl (nomark _)) (pw_or1 (pt_cmpR op_notBl (pe_call (ok_is_value_type T) (hr.mono (by omega)) (by rfl) T.d_is_value_type.m T.d_is_value_type.F.kp T.d_is_value_type.b .nil pass0 (pa_cons (pv 4) pa_nil)) pe_bl (nomark _))))) (pss_one (ps_ret pe_bl)) pss_nil)))
    (pss_one (ps_ret pe_bl))))))))), ?_⟩
  walk_at "r"
  refine ⟨a, ns, 30, rfl, hS, by decide, by decide, fun r H1 rs n1 e1 f1 hz => ?_⟩
  walk_at "r"
  refine new_lst (xs := [_, _]) (by simp) fun b H2 n2 e2 f2 => ?_
  have hb : Bx H2 b r := ⟨0, rs, f2, e2 _ _ f1, hz⟩
  walk_at "r"
  refine new_lst (xs := [_, _, _, _]) (by simp) fun pr H3 n3 e3 f3 => ?_
  walk_at "r"
  refine new_tup (xs := [_]) (by simp) fun pt H4 n4 e4 f4 => ?_
  walk_at "r"
  refine new_lst (xs := [_, _, _, _, _, _, _, _, _]) (by simp) fun pb H5 n5 e5 f5 => ?_
  have W : Wd b r pr pb pt H5 := ⟨by walk_at "tr", f5, by walk_at "tr", by walk_at "bx", by walk_at "ne", by walk_at "ne", by walk_at "ne"⟩
  clear f3 f4 f5
  walk_at "r"
  refine a_cat W.fr W.fb (by simp) fun l1 H6 n6 e6 f6 => ?_
  have W := W.ex e6
  refine r_L (SqL.of f6) ?_
  refine lp_list (xs := rs4 ++ bads pt) (fun k σ h => (∃ u4, σ = [some (.ref a), some (.ref b), some (.ref pr), some (.ref pb), u4, none, none, none, none, none, none, none, none, none, none, none]) ∧ Ex H6 h) ⟨⟨_, rfl⟩, Ex.refl _⟩ (fun k σ h _ ⟨_, e⟩ => SqL.of (e _ _ f6)) ?_ ?_
  · rintro k v σ h hv ⟨⟨u4, rfl⟩, e⟩
    obtain ⟨d, hd⟩ := all13 pt k v hv
    have W := W.ex e
    walk_at "r"
    refine ⟨v, d, rfl, gd_dp hd (SqT.of W.ft), ?_⟩
    walk_at "r"
    refine a_in4 (x := (v, d)) hd (SqT.of W.ft) (SqL.of W.fr) ?_
    walk_at "r"
    refine ⟨_, _, rfl, ?_⟩
    walk_at "r"
    refine ite2 (fun c => absurd c (by simp)) (fun _ => ?_)
    exact ⟨⟨_, rfl⟩, e⟩
  rintro σ h ⟨⟨u4, rfl⟩, e⟩
  have W := W.ex e
  clear e f6 e6 n6
  walk_at "r"
  refine r_L (SqL.of W.fr) ?_
  refine lp_list (xs := tv [.rw, .r, .w, .n]) (fun k σ h' => (∃ u5 u6 u7, σ = [some (.ref a), some (.ref b), some (.ref pr), some (.ref pb), u4, u5, u6, u7, none, none, none, none, none, none, none, none]) ∧ Ex h h') ⟨⟨_, _, _, rfl⟩, Ex.refl _⟩ (fun k σ h' _ ⟨_, e⟩ => SqL.of (e _ _ W.fr)) ?_ ?_
  · rintro k v σ h1 hv ⟨⟨u5, u6, u7, rfl⟩, e1⟩
    obtain ⟨x, hx, rfl⟩ := tv_get hv
    have W := W.ex e1
    walk_at "r"
    refine r_L (SqL.of W.fr) ?_
    refine lp_list (xs := tv [.rw, .r, .w, .n]) (fun k σ h' => (∃ u6 u7, σ = [some (.ref a), some (.ref b), some (.ref pr), some (.ref pb), u4, some (.str x.s), u6, u7, none, none, none, none, none, none, none, none]) ∧ Ex h1 h') ⟨⟨_, _, rfl⟩, Ex.refl _⟩ (fun k σ h' _ ⟨_, e⟩ => SqL.of (e _ _ W.fr)) ?_ ?_
    · rintro k v σ h2 hv ⟨⟨u6, u7, rfl⟩, e2⟩
      obtain ⟨y, hy, rfl⟩ := tv_get hv
      walk_at "r"
      refine new_lst (xs := [_, _]) (by simp) fun l2 h3 n3 e3 f3 => ?_
      refine c_L (SqL.of f3) ?_
      refine cp_list (xs := lv [true, false]) (fun p k h => Ex h3 h ∧ h p = some (.lst ((([true, false].take k).filter fun l => x.has l && !y.has l).map fun l => V.str (ltr l)))) (fun p n => ⟨Ex.new n, upd_same⟩) (fun p k h _ _ g => SqL.of (g.1 _ _ f3)) ?_ ?_
      · rintro p k v h4 np hv ⟨e4, f4⟩
        obtain ⟨l, hl, rfl⟩ := lv_get hv
        have hk : k < 2 := (List.getElem?_eq_some_iff.mp hl).1
        have tk : [true, false].take (k + 1) = [true, false].take k ++ [l] := by rw [List.take_add_one, hl]; rfl
        walk_at "r"
        refine ⟨rfl, ?_⟩
        walk_at "r"
        refine a_inS (in_l x l) ?_
        walk_at "r"
        refine ite2 (fun c => ?_) (fun c => ?_)
        · walk_at "r"
          refine a_ninS (in_l y l) ?_
          walk_at "r"
          refine ite2 (fun d => ?_) (fun d => ?_)
          · walk_at "r"
            refine ⟨_, f4, sz_lt ?_, e4.mut np, ?_⟩
            · rw [List.length_map]
              have := List.length_filter_le (fun l => x.has l && !y.has l) ([true, false].take k)
              rw [List.length_take] at this
              omega
            · rw [upd_same, tk, List.filter_append, List.filter_cons, if_pos (by rw [c, d]; rfl), List.filter_nil, List.map_append]
              rfl
          · refine ⟨e4, ?_⟩
            rw [tk, List.filter_append, List.filter_cons, if_neg (by rw [Bool.eq_false_iff.mpr d, Bool.and_false]; exact Bool.false_ne_true), List.filter_nil, List.append_nil]
            exact f4
        · refine ⟨e4, ?_⟩
          rw [tk, List.filter_append, List.filter_cons, if_neg (by rw [Bool.eq_false_iff.mpr c, Bool.false_and]; exact Bool.false_ne_true), List.filter_nil, List.append_nil]
          exact f4
      · rintro p h4 np ⟨e4, f4⟩
        walk_at "r"
        refine a_lenL (SqL.of f4) ?_
        walk_at "r"
        rw [show (([true, false].take (lv [true, false]).length).filter fun l => x.has l && !y.has l) = [true, false].filter fun l => x.has l && !y.has l from rfl, wi_len]
        refine ⟨x, y, rfl, ?_⟩
        walk_at "r"
        refine ⟨_, _, rfl, ?_⟩
        walk_at "r"
        refine ite2 (fun c => absurd c (by simp)) (fun _ => ?_)
        exact ⟨⟨_, _, rfl⟩, by walk_at "ex"⟩
    · rintro σ h2 ⟨⟨u6, u7, rfl⟩, e2⟩
      exact ⟨⟨_, _, _, rfl⟩, e1.trans e2⟩
  rintro σ h1 ⟨⟨u5, u6, u7, rfl⟩, e1⟩
  have W := W.ex e1
  walk_at "r"
  refine r_R1 (by omega) ?_
  refine lp_range (fun k σ h => (∃ u4 u8 u9 u10 u11 u12 u13 u14 u15, σ = [some (.ref a), some (.ref b), some (.ref pr), some (.ref pb), u4, u5, u6, u7, u8, u9, u10, u11, u12, u13, u14, u15]) ∧ Wd b r pr pb pt h) ⟨⟨_, _, _, _, _, _, _, _, _, rfl⟩, W⟩ ?_ ?_
  · clear W e1
    rintro k σ h hk ⟨⟨u4, u8, u9, u10, u11, u12, u13, u14, u15, rfl⟩, W⟩
    walk_at "r"
    refine ap_draw W.bx (by decide) fun m h1 m0 m1 e1 b1 => ?_
    have W := W.ks e1 b1
    walk_at "r"
    refine c_R1 (by omega) ?_
    have hm : (m.toNat : Int) = m := by omega
    refine cp_range (fun p j h => ∃ pd : List (V × PyData), pd.length = j ∧ PdOk pt pd ∧ h p = some (.lst (pd.map (·.1))) ∧ Ks [b] h1 h ∧ Wd b r pr pb pt h)
      (fun p n => ⟨[], rfl, fun _ z => (nomatch z), upd_same, Ks.of (Ex.new n), W.ex (Ex.new n)⟩) ?_ ?_
    · rintro p j h2 np hj ⟨pd, hl, ok, f2, e2, W2⟩
      have nb : p ≠ b := (bx_nb b1 np).symm
      walk_at "r"
      refine ⟨rfl, ?_⟩
      walk_at "r"
      refine a_cat W2.fr W2.fr (by simp) fun l3 h3 n3 e3 f3 => ?_
      have W3 := W2.ex e3
      walk_at "r"
      refine a_cat f3 W3.fr (by simp) fun l4 h4 n4 e4 f4 => ?_
      have W4 := W3.ex e4
      walk_at "r"
      refine a_cat f4 W4.fb (by simp) fun l5 h5 n5 e5 f5 => ?_
      have W5 := W4.ex e5
      have nl5 : l5 ≠ b := (bx_nb W4.bx n5).symm
      walk_at "r"
      refine ap_draw W5.bx (by decide) fun v h6 g0 g1 e6 b6 => ?_
      have W6 := W5.ks e6 b6
      walk_at "r"
      refine w_I (.inl ⟨by decide, by decide⟩) ?_
      walk_at "r"
      refine ap_draw b6 (by split <;> decide) fun v2 h7 g2 g3 e7 b7 => ?_
      have W7 := W6.ks e7 b7
      walk_at "r"
      refine w_I (by decide) ?_
      have f7 : h7 l5 = some (.lst (rs4 ++ rs4 ++ rs4 ++ bads pt)) := by walk_at "tr"
      obtain ⟨x, hx, ex⟩ := pick21 pt (v2 % 21) (Int.emod_nonneg _ (by decide)) (Int.emod_lt_of_pos _ (by decide))
      refine a_ixL (SqL.of f7) ex ?_
      have f8 : h7 p = some (.lst (pd.map (·.1))) := by walk_at "tr"
      refine ⟨_, f8, sz_lt (by rw [List.length_map]; omega), pd ++ [x], by simp [hl], ?_, by rw [upd_same, List.map_append]; rfl, ?_, W.mut np W7⟩
      · intro y hy
        rcases List.mem_append.mp hy with hy | hy
        · exact ok y hy
        · rw [List.mem_singleton.mp hy]; exact hx
      · exact (((((e2.trans (Ks.of e3)).trans (Ks.of e4)).trans (Ks.of e5)).trans e6).trans e7).mut np
    rintro p h2 np ⟨pd, hl, ok, f2, e2, W2⟩
    have nb : p ≠ b := (bx_nb b1 np).symm
    walk_at "r"
    refine ⟨fun σ' h' => (∃ p pd, ∃ v13 : Option V, σ' = [some (.ref a), some (.ref b), some (.ref pr), some (.ref pb), u4, u5, u6, u7, some (.int (0 + (k : Int))), some (.int m), some (.ref p), u11, u12, v13, u14, u15] ∧ (pd.length : Int) = m ∧ PdOk pt pd ∧ h' p = some (.lst (pd.map (·.1)))) ∧ Wd b r pr pb pt h', ?_, ?_⟩
    · walk_at "r"
      refine ap_draw W2.bx (by decide) fun v h3 g0 g1 e3 b3 => ?_
      have W3 := W2.ks e3 b3
      have f3 : h3 p = some (.lst (pd.map (·.1))) := by walk_at "tr"
      walk_at "r"
      refine ite2 (fun c => ?_) (fun c => ?_)
      · walk_at "r"
        refine c_R1 (by omega) ?_
        refine cp_range (fun p j h => ∃ pd : List (V × PyData), pd.length = j ∧ PdOk pt pd ∧ h p = some (.lst (pd.map (·.1))) ∧ Ks [b] h3 h ∧ Wd b r pr pb pt h)
          (fun p n => ⟨[], rfl, fun _ z => (nomatch z), upd_same, Ks.of (Ex.new n), W3.ex (Ex.new n)⟩) ?_ ?_
        · rintro p j h4 np hj ⟨pd, hl, ok, f4, e4, W4⟩
          have nb : p ≠ b := (bx_nb b3 np).symm
          walk_at "r"
          refine ⟨rfl, ?_⟩
          walk_at "r"
          refine ap_draw W4.bx (by decide) fun v2 h5 g2 g3 e5 b5 => ?_
          have W5 := W4.ks e5 b5
          obtain ⟨x, hx, ex⟩ := pick4 pt v2 g2 g3
          refine a_ixL (SqL.of W5.fr) ex ?_
          have f5 : h5 p = some (.lst (pd.map (·.1))) := by walk_at "tr"
          refine ⟨_, f5, sz_lt (by rw [List.length_map]; omega), pd ++ [x], by simp [hl], ?_, by rw [upd_same, List.map_append]; rfl, (e4.trans e5).mut np, W3.mut np W5⟩
          intro y hy
          rcases List.mem_append.mp hy with hy | hy
          · exact ok y hy
          · rw [List.mem_singleton.mp hy]; exact hx
        · rintro p h4 np ⟨pd, hl, ok, f4, e4, W4⟩
          exact ⟨⟨p, pd, _, rfl, by omega, ok, f4⟩, W4⟩
      · walk_at "r"
        exact ⟨⟨p, pd, _, rfl, by omega, ok, f3⟩, W3⟩
    clear f2 e2 W2 np nb ok hl
    rintro σ h ⟨⟨p, pd, v13, rfl, hl, ok, f⟩, W⟩
    have hl8 : pd.length < 8 := by omega
    have ht : SqT K h pt [.str "r"] := SqT.of W.ft
    walk_at "r"
    refine c_L (SqL.of f) ?_
    refine cp_list (xs := pd.map (·.1)) (fun l j h' => Ex h h' ∧ h' l = some (.lst (((pd.take j).filter fun x => !irD x.2).map (·.1)))) (fun l n => ⟨Ex.new n, upd_same⟩) (fun l j h' _ _ g => SqL.of (g.1 _ _ f)) ?_ ?_
    · rintro l j v h2 nl hv ⟨e2, f2⟩
      obtain ⟨x, hx, rfl⟩ : ∃ x, pd[j]? = some x ∧ v = x.1 := by
        rw [List.getElem?_map] at hv
        cases z : pd[j]? with
        | none => rw [z] at hv; cases hv
        | some x => rw [z] at hv; exact ⟨x, rfl, (Option.some.inj hv).symm⟩
      have tk : pd.take (j + 1) = pd.take j ++ [x] := by rw [List.take_add_one, hx]; rfl
      walk_at "r"
      refine ⟨rfl, ?_⟩
      walk_at "r"
      refine a_nin4 (ok x (List.mem_of_getElem? hx)) (ex_st ht e2) (SqL.of (e2 _ _ W.fr)) ?_
      walk_at "r"
      refine ite2 (fun c => ?_) (fun c => ?_)
      · walk_at "r"
        refine ⟨_, f2, sz_lt ?_, e2.mut nl, ?_⟩
        · rw [List.length_map]
          have := List.length_filter_le (fun x : V × PyData => !irD x.2) (pd.take j)
          rw [List.length_take] at this
          omega
        · rw [upd_same, tk, List.filter_append, List.filter_cons, if_pos c, List.filter_nil, List.map_append]
          rfl
      · refine ⟨e2, ?_⟩
        rw [tk, List.filter_append, List.filter_cons, if_neg c, List.filter_nil, List.append_nil]
        exact f2
    rintro l h2 nl ⟨e2, f2⟩
    walk_at "r"
    rw [List.length_map, List.take_length] at f2
    refine a_lenL (SqL.of f2) ?_
    walk_at "r"
    have hg : decide (((((pd.filter fun x => !irD x.2).map (·.1)).length : Nat) : Int) = 0) = (pd.map (·.2)).all irD := by
      rw [List.length_map, List.all_map]
      clear hl hl8 ok f f2
      induction pd with
      | nil => rfl
      | cons x xs ih =>
        rw [List.filter_cons, List.all_cons]
        by_cases c : irD x.2 = true
        · rw [if_neg (by rw [c]; decide), ih, show (irD ∘ fun x : V × PyData => x.2) x = irD x.2 from rfl, c, Bool.true_and]
        · rw [if_pos (by rw [Bool.eq_false_iff.mpr c]; rfl), show (irD ∘ fun x : V × PyData => x.2) x = irD x.2 from rfl, Bool.eq_false_iff.mpr c, Bool.false_and, List.length_cons]
          exact decide_eq_false (by omega)
    rw [hg]
    have W := W.ex e2
    have f := e2 _ _ f
    have ht := ex_st ht e2
    clear hg f2 e2
    generalize hgd : (pd.map (·.2)).all irD = good
    refine a_tupFL (SqL.of f) fun pT h3 n3 e3 t3 => ?_
    walk_at "r"
    refine a_lstL (SqL.of (e3 _ _ f)) fun pL h4 n4 e4 f4 => ?_
    walk_at "r"
    refine new_lst (xs := [_, _]) (by simp) fun l2 h5 n5 e5 f5 => ?_
    have W := ((W.ex e3).ex e4).ex e5
    have t5 : Tu h5 pT (pd.map (·.1)) := (t3.ex e4).ex e5
    have f4 := e5 _ _ f4
    have ht := ex_st (ex_st (ex_st ht e3) e4) e5
    clear e3 e4 e5 n3 n4 n5 f t3
    have hlen : (pd.map (·.1)).length = pd.length := List.length_map _
    have hd2 : (pd.map (·.2)).length = pd.length := List.length_map _
    refine r_L (SqL.of f5) ?_
    refine lp_list (xs := [V.ref pT, .ref pL]) (fun i σ h => (∃ u4 u12, σ = [some (.ref a), some (.ref b), some (.ref pr), some (.ref pb), u4, u5, u6, u7, some (.int (0 + (k : Int))), some (.int m), some (.ref p), some (.bl good), u12, v13, u14, u15]) ∧ Ex h5 h) ⟨⟨_, _, rfl⟩, Ex.refl _⟩ (fun i σ h _ ⟨_, e⟩ => SqL.of (e _ _ f5)) ?_ ?_
    · rintro i v σ h6 hv ⟨⟨u4, u12, rfl⟩, e6⟩
      have hm2 := List.mem_of_getElem? hv
      simp only [List.mem_cons, List.not_mem_nil, or_false] at hm2
      have t6 := t5.ex e6
      have f6 := e6 _ _ f4
      have ht6 := ex_st ht e6
      rcases hm2 with rfl | rfl
      · walk_at "r"
        refine ⟨fun σ' h' => σ' = [some (.ref a), some (.ref b), some (.ref pr), some (.ref pb), some (.ref pT), u5, u6, u7, some (.int (0 + (k : Int))), some (.int m), some (.ref p), some (.bl good), some (.bl (good && decide (m ≤ 6))), v13, u14, u15] ∧ h' = h6, ?_, ?_⟩
        · walk_at "r"
          have t7 := t6
          obtain ⟨ob, _, t7⟩ := t7
          refine ⟨.ref pT, .ty "tuple", _, _, true, rfl, .ty _, .fTuple t7, kit_ty (by decide +kernel), ?_⟩
          walk_at "r"
          refine ite2 (fun c => ?_) (fun c => ?_)
          · walk_at "r"
            exact ⟨by rw [c]; rfl, rfl⟩
          · exact ⟨by rw [Bool.eq_false_iff.mpr c]; rfl, rfl⟩
        rintro σ h7 ⟨rfl, rfl⟩
        have v1 : vtD (pd.map (·.2)) = (good && decide (m ≤ 6)) := by
          unfold vtD
          rw [hgd, hd2, Bool.and_comm]
          congr 1
          by_cases z : m ≤ 6
          · rw [decide_eq_true z, decide_eq_true (by omega)]
          · rw [decide_eq_false z, decide_eq_false (by omega)]
        walk_at "r"
        refine ⟨.ref pT, rfl, .inr ⟨pT, _, _, rfl, t6.st, pd_dpa ht6 ok, by omega, fun h8 e8 => ?_⟩⟩
        rw [v1]
        walk_at "r"
        refine ⟨_, _, rfl, ?_⟩
        walk_at "r"
        refine ite2 (fun c => absurd c (by simp)) (fun _ => ?_)
        walk_at "r"
        refine ⟨.ref pT, rfl, .inr ⟨pT, _, _, rfl, (t6.ex e8).st, pd_dpa (ex_st ht6 e8) ok, by omega, fun h9 e9 => ?_⟩⟩
        unfold tyD
        rw [v1, hd2]
        have fin : ∀ B : Bool, (good && decide (m ≤ 6) && decide (0 < pd.length)) = B → ∀ N : V → Hp → Prop, N (.bl B) h9 → N (.bl (good && decide (m ≤ 6) && decide (0 < pd.length))) h9 := fun B e N n => by rw [e]; exact n
        walk_at "r"
        refine ite2 (fun c => ?_) (fun c => ?_)
        · walk_at "r"
          refine ⟨_, _, rfl, ?_⟩
          have e2 : decide (0 < pd.length) = decide (0 < m) := by
            by_cases z : 0 < m
            · rw [decide_eq_true z, decide_eq_true (by omega)]
            · rw [decide_eq_false z, decide_eq_false (by omega)]
          rw [c, e2]
          walk_at "r"
          refine ite2 (fun c => absurd c (by simp)) (fun _ => ?_)
          exact ⟨⟨_, _, rfl⟩, (e6.trans e8).trans e9⟩
        · refine ⟨_, _, rfl, ?_⟩
          rw [Bool.eq_false_iff.mpr c]
          walk_at "r"
          refine ite2 (fun c => absurd c (by simp)) (fun _ => ?_)
          exact ⟨⟨_, _, rfl⟩, (e6.trans e8).trans e9⟩
      · walk_at "r"
        refine ⟨fun σ' h' => σ' = [some (.ref a), some (.ref b), some (.ref pr), some (.ref pb), some (.ref pL), u5, u6, u7, some (.int (0 + (k : Int))), some (.int m), some (.ref p), some (.bl good), some (.bl false), v13, u14, u15] ∧ h' = h6, ?_, ?_⟩
        · walk_at "r"
          refine ⟨.ref pL, .ty "tuple", _, _, false, rfl, .ty _, .base (.lst f6), kit_ty (by decide +kernel), ?_⟩
          walk_at "r"
          exact ⟨rfl, rfl⟩
        rintro σ h7 ⟨rfl, rfl⟩
        walk_at "r"
        refine ⟨.ref pL, rfl, .inl ⟨"list", .lst (SqL.of f6), by decide, fun h8 e8 => ?_⟩⟩
        walk_at "r"
        refine ⟨_, _, rfl, ?_⟩
        walk_at "r"
        refine ite2 (fun c => absurd c (by simp)) (fun _ => ?_)
        walk_at "r"
        refine ⟨.ref pL, rfl, .inl ⟨"list", .lst (SqL.of (e8 _ _ f6)), by decide, fun h9 e9 => ?_⟩⟩
        walk_at "r"
        refine ⟨_, _, rfl, ?_⟩
        walk_at "r"
        refine ite2 (fun c => absurd c (by simp)) (fun _ => ?_)
        exact ⟨⟨_, _, rfl⟩, (e6.trans e8).trans e9⟩
    · rintro σ h6 ⟨⟨u4, u12, rfl⟩, e6⟩
      exact ⟨⟨_, _, _, _, _, _, _, _, _, rfl⟩, W.ex e6⟩
  · rintro σ h ⟨⟨u4, u8, u9, u10, u11, u12, u13, u14, u15, rfl⟩, W⟩
    walk_at "r"
    refine new_tup (xs := []) (by simp) fun p0 h2 n2 e2 f2 => ?_
    walk_at "r"
    refine new_tup (xs := [_]) (by simp) fun p1 h3 n3 e3 f3 => ?_
    walk_at "r"
    refine new_dK fun p2 h4 n4 e4 f4 => ?_
    walk_at "r"
    refine new_lst (xs := [_, _, _, _, _]) (by simp) fun l h5 n5 e5 f5 => ?_
    have g0 : SqT K h5 p0 [] := by walk_at "st"
    have g1 : SqT K h5 p1 [.ref p0] := by walk_at "st"
    have g2 : h5 p2 = some (.dK []) := by walk_at "tr"
    walk_at "r"
    refine r_L (SqL.of f5) ?_
    refine lp_list (xs := [V.non, .int 7, .str "rw", .ref p1, .ref p2]) (fun i σ h => (∃ u4, σ = [some (.ref a), some (.ref b), some (.ref pr), some (.ref pb), u4, u5, u6, u7, u8, u9, u10, u11, u12, u13, u14, u15]) ∧ Ex h5 h) ⟨⟨_, rfl⟩, Ex.refl _⟩ (fun i σ h _ ⟨_, e⟩ => SqL.of (e _ _ f5)) ?_ ?_
    · rintro i v σ h6 hv ⟨⟨u4, rfl⟩, e6⟩
      have hm := List.mem_of_getElem? hv
      simp only [List.mem_cons, List.not_mem_nil, or_false] at hm
      have none_of : ∀ (fn : List PyData → Bool), fn [.tuple []] = false → ∀ h, Ex h6 h → ∀ N : VK, RV1 (.bl false) h N → ((∃ ty, TyB K h v ty ∧ ty ≠ "tuple" ∧ RV1 (.bl false) h N) ∨ (∃ p xs ds, v = .ref p ∧ SqT K h p xs ∧ DpAll K h xs ds ∧ xs.length ≤ 50 ∧ RV1 (.bl (fn ds)) h N)) := by
        intro fn hf h e N hN
        rcases hm with rfl | rfl | rfl | rfl | rfl
        · exact .inl ⟨_, .non, by decide, hN⟩
        · exact .inl ⟨_, .int 7, by decide, hN⟩
        · exact .inl ⟨_, .str _, by decide, hN⟩
        · exact .inr ⟨p1, [.ref p0], [.tuple []], rfl, ex_st (ex_st g1 e6) e, .cons (.tup (ex_st (ex_st g0 e6) e) .nil) .nil, by simp, by rw [hf]; exact hN⟩
        · exact .inl ⟨_, .dK (e _ _ (e6 _ _ g2)), by decide, hN⟩
      walk_at "r"
      refine ⟨v, rfl, none_of tyD (by decide +kernel) h6 (Ex.refl _) _ fun h7 e7 => ?_⟩
      walk_at "r"
      refine ite2 (fun c => absurd c (by decide)) (fun _ => ?_)
      walk_at "r"
      refine ⟨v, rfl, none_of vtD (by decide +kernel) h7 e7 _ fun h8 e8 => ?_⟩
      walk_at "r"
      refine ite2 (fun c => absurd c (by decide)) (fun _ => ?_)
      exact ⟨⟨_, rfl⟩, (e6.trans e7).trans e8⟩
    · rintro σ h6 ⟨⟨u4, rfl⟩, e6⟩
      walk_at "r"
      exact q _

end
theorem all_mk {l : PySem.W.OpenLaw} {w : World} {K : PySem.W.Frag} {h : Heap} {mg : Str → Option Value} {fa : Addr} (X : K.In h) (G : h.Ns mainGlobals mg) (hfa : mg "law" = some (.ref fa))
    {f0 : Addr} {od0 an0 : Option Addr} {sl0 : Array (Option Value)} {oc0 kV0 dc0 pm0 cd0 ct0 : Value}
    (a0 : PySem.W.nsIn K mainGlobals "is_right" = some (some (.ref f0))) (l0 : K.lookup f0 = some ⟨oc0, od0, .func (PySem.W.fnOf "is_right" "is_right" (defArgs s_is_right) (defBody s_is_right) (defScope s_is_right) .none kV0 dc0 pm0 an0 cd0 ct0), sl0⟩) (c0 : PySem.W.codeIn K cd0 "is_right" = true) (k0 : PySem.W.keepIn K (.ref f0) = true)
    {f1 : Addr} {od1 an1 : Option Addr} {sl1 : Array (Option Value)} {oc1 kV1 dc1 pm1 cd1 ct1 : Value}
    (a1 : PySem.W.nsIn K mainGlobals "is_type" = some (some (.ref f1))) (l1 : K.lookup f1 = some ⟨oc1, od1, .func (PySem.W.fnOf "is_type" "is_type" (defArgs s_is_type) (defBody s_is_type) (defScope s_is_type) .none kV1 dc1 pm1 an1 cd1 ct1), sl1⟩) (c1 : PySem.W.codeIn K cd1 "is_type" = true) (k1 : PySem.W.keepIn K (.ref f1) = true)
    {f2 : Addr} {od2 an2 : Option Addr} {sl2 : Array (Option Value)} {oc2 kV2 dc2 pm2 cd2 ct2 : Value}
    (a2 : PySem.W.nsIn K mainGlobals "is_value_type" = some (some (.ref f2))) (l2 : K.lookup f2 = some ⟨oc2, od2, .func (PySem.W.fnOf "is_value_type" "is_value_type" (defArgs s_is_value_type) (defBody s_is_value_type) (defScope s_is_value_type) .none kV2 dc2 pm2 an2 cd2 ct2), sl2⟩) (c2 : PySem.W.codeIn K cd2 "is_value_type" = true) (k2 : PySem.W.keepIn K (.ref f2) = true)
    {f3 : Addr} {od3 an3 : Option Addr} {sl3 : Array (Option Value)} {oc3 kV3 dc3 pm3 cd3 ct3 : Value}
    (a3 : PySem.W.nsIn K mainGlobals "within" = some (some (.ref f3))) (l3 : K.lookup f3 = some ⟨oc3, od3, .func (PySem.W.fnOf "within" "within" (defArgs s_within) (defBody s_within) (defScope s_within) .none kV3 dc3 pm3 an3 cd3 ct3), sl3⟩) (c3 : PySem.W.codeIn K cd3 "within" = true) (k3 : PySem.W.keepIn K (.ref f3) = true)
    {f4 : Addr} {od4 an4 : Option Addr} {sl4 : Array (Option Value)} {oc4 kV4 dc4 pm4 cd4 ct4 : Value}
    (a4 : PySem.W.nsIn K mainGlobals "_law_cell" = some (some (.ref f4))) (l4 : K.lookup f4 = some ⟨oc4, od4, .func (PySem.W.fnOf "_law_cell" "_law_cell" (defArgs s__law_cell) (defBody s__law_cell) (defScope s__law_cell) .none kV4 dc4 pm4 an4 cd4 ct4), sl4⟩) (c4 : PySem.W.codeIn K cd4 "_law_cell" = true) (k4 : PySem.W.keepIn K (.ref f4) = true)
    {f5 : Addr} {od5 an5 : Option Addr} {sl5 : Array (Option Value)} {oc5 kV5 dc5 pm5 cd5 ct5 : Value}
    (a5 : PySem.W.nsIn K mainGlobals "_law_row" = some (some (.ref f5))) (l5 : K.lookup f5 = some ⟨oc5, od5, .func (PySem.W.fnOf "_law_row" "_law_row" (defArgs s__law_row) (defBody s__law_row) (defScope s__law_row) .none kV5 dc5 pm5 an5 cd5 ct5), sl5⟩) (c5 : PySem.W.codeIn K cd5 "_law_row" = true) (k5 : PySem.W.keepIn K (.ref f5) = true)
    {f6 : Addr} {od6 an6 : Option Addr} {sl6 : Array (Option Value)} {oc6 kV6 dc6 pm6 cd6 ct6 : Value}
    (a6 : PySem.W.nsIn K mainGlobals "_law_draw" = some (some (.ref f6))) (l6 : K.lookup f6 = some ⟨oc6, od6, .func (PySem.W.fnOf "_law_draw" "_law_draw" (defArgs s__law_draw) (defBody s__law_draw) (defScope s__law_draw) .none kV6 dc6 pm6 an6 cd6 ct6), sl6⟩) (c6 : PySem.W.codeIn K cd6 "_law_draw" = true) (k6 : PySem.W.keepIn K (.ref f6) = true)
    {f7 : Addr} {od7 an7 : Option Addr} {sl7 : Array (Option Value)} {oc7 kV7 dc7 pm7 cd7 ct7 : Value}
    (a7 : PySem.W.nsIn K mainGlobals "_law_is" = some (some (.ref f7))) (l7 : K.lookup f7 = some ⟨oc7, od7, .func (PySem.W.fnOf "_law_is" "_law_is" (defArgs s__law_is) (defBody s__law_is) (defScope s__law_is) .none kV7 dc7 pm7 an7 cd7 ct7), sl7⟩) (c7 : PySem.W.codeIn K cd7 "_law_is" = true) (k7 : PySem.W.keepIn K (.ref f7) = true)
    {f8 : Addr} {od8 an8 : Option Addr} {sl8 : Array (Option Value)} {oc8 kV8 dc8 pm8 cd8 ct8 : Value}
    (a8 : PySem.W.nsIn K mainGlobals "law" = some (some (.ref f8))) (l8 : K.lookup f8 = some ⟨oc8, od8, .func (PySem.W.fnOf "law" "law" (defArgs s_law) (defBody s_law) (defScope s_law) .none kV8 dc8 pm8 an8 cd8 ct8), sl8⟩) (c8 : PySem.W.codeIn K cd8 "law" = true) (k8 : PySem.W.keepIn K (.ref f8) = true)
    {q_RIGHTS : Addr} {oq_RIGHTS : Option Addr} {nq_RIGHTS : Nat} {sq_RIGHTS : Array (Option Value)} {tq_RIGHTS_0 tq_RIGHTS_1 tq_RIGHTS_2 tq_RIGHTS_3 : Tok}
    (u_RIGHTS : PySem.W.nsIn K mainGlobals "RIGHTS" = some (some (.ref q_RIGHTS))) (v_RIGHTS : K.lookup q_RIGHTS = some ⟨.type "tuple", oq_RIGHTS, .seq #[.str "rw" tq_RIGHTS_0, .str "r" tq_RIGHTS_1, .str "w" tq_RIGHTS_2, .str "-" tq_RIGHTS_3] nq_RIGHTS, sq_RIGHTS⟩)
    {q_LETTERS : Addr} {oq_LETTERS : Option Addr} {nq_LETTERS : Nat} {sq_LETTERS : Array (Option Value)} {tq_LETTERS_0 tq_LETTERS_1 : Tok}
    (u_LETTERS : PySem.W.nsIn K mainGlobals "LETTERS" = some (some (.ref q_LETTERS))) (v_LETTERS : K.lookup q_LETTERS = some ⟨.type "tuple", oq_LETTERS, .seq #[.str "r" tq_LETTERS_0, .str "w" tq_LETTERS_1] nq_LETTERS, sq_LETTERS⟩)
    {k_MOST_RIGHTS : Tok}
    (u_MOST_RIGHTS : PySem.W.nsIn K mainGlobals "MOST_RIGHTS" = some (some (.int 6 k_MOST_RIGHTS)))
    (z_str : PySem.W.nsIn K mainGlobals "str" = some none)
    (z_type : PySem.W.nsIn K mainGlobals "type" = some none)
    (z_len : PySem.W.nsIn K mainGlobals "len" = some none)
    (z_all : PySem.W.nsIn K mainGlobals "all" = some none)
    (z_tuple : PySem.W.nsIn K mainGlobals "tuple" = some none)
    (z_range : PySem.W.nsIn K mainGlobals "range" = some none)
    (z_abs : PySem.W.nsIn K mainGlobals "abs" = some none)
    (z_int : PySem.W.nsIn K mainGlobals "int" = some none)
    (z_isinstance : PySem.W.nsIn K mainGlobals "isinstance" = some none)
    (z_bool : PySem.W.nsIn K mainGlobals "bool" = some none)
    (z_list : PySem.W.nsIn K mainGlobals "list" = some none) :
    ∃ fd : FuncData, (∀ (s : Shared) (v : Value), BindsTo s fd ⟨[v], []⟩ [("script", v)]) ∧ ∀ base : Heap, K.In base → base.Ns mainGlobals mg → FnOk l.prog w K mg base CX0 10 fa fd ["script"] (spLaw K) := by
  have e := hfa.symm.trans (PySem.W.mg_of X G a8)
  cases e
  have F0 := fun_mk (st := s_is_right) l0 c0 k0
  have F1 := fun_mk (st := s_is_type) l1 c1 k1
  have F2 := fun_mk (st := s_is_value_type) l2 c2 k2
  have F3 := fun_mk (st := s_within) l3 c3 k3
  have F4 := fun_mk (st := s__law_cell) l4 c4 k4
  have F5 := fun_mk (st := s__law_row) l5 c5 k5
  have F6 := fun_mk (st := s__law_draw) l6 c6 k6
  have F7 := fun_mk (st := s__law_is) l7 c7 k7
  have F8 := fun_mk (st := s_law) l8 c8 k8
  have B0 := F0.binds (ps := p_is_right) fun _ _ _ _ _ _ us hl => match us, hl with | [_], _ => rfl
  have B1 := F1.binds (ps := p_is_type) fun _ _ _ _ _ _ us hl => match us, hl with | [_], _ => rfl
  have B2 := F2.binds (ps := p_is_value_type) fun _ _ _ _ _ _ us hl => match us, hl with | [_], _ => rfl
  have B3 := F3.binds (ps := p_within) fun _ _ _ _ _ _ us hl => match us, hl with | [_, _], _ => rfl
  have B4 := F4.binds (ps := p__law_cell) fun _ _ _ _ _ _ us hl => match us, hl with | [_, _], _ => rfl
  have B5 := F5.binds (ps := p__law_row) fun _ _ _ _ _ _ us hl => match us, hl with | [_, _, _], _ => rfl
  have B6 := F6.binds (ps := p__law_draw) fun _ _ _ _ _ _ us hl => match us, hl with | [_, _], _ => rfl
  have B7 := F7.binds (ps := p__law_is) fun _ _ _ _ _ _ us hl => match us, hl with | [_, _], _ => rfl
  let T : Tx K mg := {
    a_is_right := _
    e_is_right := _
    d_is_right := ⟨F0, B0, PySem.W.mg_of X G a0⟩
    a_is_type := _
    e_is_type := _
    d_is_type := ⟨F1, B1, PySem.W.mg_of X G a1⟩
    a_is_value_type := _
    e_is_value_type := _
    d_is_value_type := ⟨F2, B2, PySem.W.mg_of X G a2⟩
    a_within := _
    e_within := _
    d_within := ⟨F3, B3, PySem.W.mg_of X G a3⟩
    a__law_cell := _
    e__law_cell := _
    d__law_cell := ⟨F4, B4, PySem.W.mg_of X G a4⟩
    a__law_row := _
    e__law_row := _
    d__law_row := ⟨F5, B5, PySem.W.mg_of X G a5⟩
    a__law_draw := _
    e__law_draw := _
    d__law_draw := ⟨F6, B6, PySem.W.mg_of X G a6⟩
    a__law_is := _
    e__law_is := _
    d__law_is := ⟨F7, B7, PySem.W.mg_of X G a7⟩
    a_RIGHTS := q_RIGHTS
    m_RIGHTS := PySem.W.mg_of X G u_RIGHTS
    t_RIGHTS := fun H => .inr ⟨_, _, _, v_RIGHTS, rfl, rfl, (by show 4 ≤ sizeLine; decide), (.cons ⟨_, rfl⟩ (.cons ⟨_, rfl⟩ (.cons ⟨_, rfl⟩ (.cons ⟨_, rfl⟩ .nil))))⟩
    a_LETTERS := q_LETTERS
    m_LETTERS := PySem.W.mg_of X G u_LETTERS
    t_LETTERS := fun H => .inr ⟨_, _, _, v_LETTERS, rfl, rfl, (by show 2 ≤ sizeLine; decide), (.cons ⟨_, rfl⟩ (.cons ⟨_, rfl⟩ .nil))⟩
    k_MOST_RIGHTS := k_MOST_RIGHTS
    m_MOST_RIGHTS := PySem.W.mg_of X G u_MOST_RIGHTS
    b_str := PySem.W.mg_none_of X G z_str
    b_type := PySem.W.mg_none_of X G z_type
    b_len := PySem.W.mg_none_of X G z_len
    b_all := PySem.W.mg_none_of X G z_all
    b_tuple := PySem.W.mg_none_of X G z_tuple
    b_range := PySem.W.mg_none_of X G z_range
    b_abs := PySem.W.mg_none_of X G z_abs
    b_int := PySem.W.mg_none_of X G z_int
    b_isinstance := PySem.W.mg_none_of X G z_isinstance
    b_bool := PySem.W.mg_none_of X G z_bool
    b_list := PySem.W.mg_none_of X G z_list }
  exact ⟨PySem.W.fnOf "law" "law" (defArgs s_law) (defBody s_law) (defScope s_law) .none kV8 dc8 pm8 an8 cd8 ct8, fun s v => .of_eq rfl, fun base _ _ => ok_law T F8⟩
end Ver
open PySem PySem.W PyProof.Rows
set_option maxRecDepth 100000 in
set_option maxHeartbeats 0 in
theorem PySem.Challenge.cw_rightskept_k01_rights_and_types_holds : PySem.Challenge.rw_rightskept_k01_rights_and_types.Holds := by
  w_on; o_law; k_head; (case hw => w_witness2)
  k_fill
  refine L2.walk_of (l := PySem.Challenge.rw_rightskept_k01_rights_and_types) (n := 63) (k := 10) (x := "script") (CX := fun _ => L2.CX0) (sp := fun w => Ver.spLaw _) rfl (by decide) rfl ⟨rfl, by decide, by decide⟩ (fun w h Y => PySem.W.kIn_of Y) ?F (fun _ _ a ns hl _ hS => ⟨a, ns, rfl, hS, hl, fun _ => rfl⟩) (fun _ _ _ _ _ h => h)
  case F =>
    intro w mg fa h KX G hmg
    refine' Ver.all_mk KX G hmg ?a0 ?l0 ?c0 ?k0 ?a1 ?l1 ?c1 ?k1 ?a2 ?l2 ?c2 ?k2 ?a3 ?l3 ?c3 ?k3 ?a4 ?l4 ?c4 ?k4 ?a5 ?l5 ?c5 ?k5 ?a6 ?l6 ?c6 ?k6 ?a7 ?l7 ?c7 ?k7 ?a8 ?l8 ?c8 ?k8 ?u_RIGHTS ?v_RIGHTS ?u_LETTERS ?v_LETTERS ?u_MOST_RIGHTS ?z_str ?z_type ?z_len ?z_all ?z_tuple ?z_range ?z_abs ?z_int ?z_isinstance ?z_bool ?z_list
    (case a0 => k_is)
    (case l0 => k_is)
    (case c0 => k_is)
    (case k0 => k_is)
    (case a1 => k_is)
    (case l1 => k_is)
    (case c1 => k_is)
    (case k1 => k_is)
    (case a2 => k_is)
    (case l2 => k_is)
    (case c2 => k_is)
    (case k2 => k_is)
    (case a3 => k_is)
    (case l3 => k_is)
    (case c3 => k_is)
    (case k3 => k_is)
    (case a4 => k_is)
    (case l4 => k_is)
    (case c4 => k_is)
    (case k4 => k_is)
    (case a5 => k_is)
    (case l5 => k_is)
    (case c5 => k_is)
    (case k5 => k_is)
    (case a6 => k_is)
    (case l6 => k_is)
    (case c6 => k_is)
    (case k6 => k_is)
    (case a7 => k_is)
    (case l7 => k_is)
    (case c7 => k_is)
    (case k7 => k_is)
    (case a8 => k_is)
    (case l8 => k_is)
    (case c8 => k_is)
    (case k8 => k_is)
    (case u_RIGHTS => k_is)
    (case v_RIGHTS => k_is)
    (case u_LETTERS => k_is)
    (case v_LETTERS => k_is)
    (case u_MOST_RIGHTS => k_is)
    (case z_str => k_is)
    (case z_type => k_is)
    (case z_len => k_is)
    (case z_all => k_is)
    (case z_tuple => k_is)
    (case z_range => k_is)
    (case z_abs => k_is)
    (case z_int => k_is)
    (case z_isinstance => k_is)
    (case z_bool => k_is)
    (case z_list => k_is)
